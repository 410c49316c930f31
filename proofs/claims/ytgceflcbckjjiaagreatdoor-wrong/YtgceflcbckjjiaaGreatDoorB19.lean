import Derived.Test.YtgceflcbckjjiaaGreatDoorB18
set_option linter.unusedVariables false
set_option linter.unusedSimpArgs false
namespace Go.Proofs.YtgceflcbckjjiaaGreatDoor
open Go Go.RowKit
set_option maxRecDepth 100000
namespace P
def innerS (d:Int):List Stm→Option Int
 | []=>none
 | s::r =>
  if s.kind==10 then innerS (d+1) r
  else if s.kind==11 then innerS (d-1) r
  else if s.kind==5 then (if 0<d then some s.line else innerS d r)
  else innerS d r
def innerB:List Thr→Int
 | []=>0
 | t::r=>match innerS 0 t.stmts with
  | some l=>l
  | none=>innerB r
end P
set_option maxHeartbeats 3200000 in
theorem inner_any (B bt n cap:Nat) (ts:List P.Thr) (w:World) (h:ThreadsAt w B (.slice (some ⟨bt,0,none⟩) n cap) ts) (hn:n=ts.length) (hnb:n<10) (hst:∀ t∈ts,t.stmts.length<10000) :
  Calls Tryz.prog 31 #[.agg #[.slice (some ⟨bt,0,none⟩) n cap]] w fun e w'=>e=.returned (.int .i64 (P.innerB ts))∧Below w.heap.size w w':=by
 have HA:=hide h
 have HN:=hide hn
 have HS:=hide hst
 clear h hn hst
 go_enter Tryz.func31,Tryz.ntmps31
 go_wp2
 go_loopw [11] (fun i wr=>∃ k:Nat,k≤n∧i=.int .i64 k∧Hid (P.innerB ts=P.innerB (ts.drop k))∧Below w.heap.size w wr) (fun i _=>n-(intOf i).toNat)
 case atStart=>exact⟨0,Nat.zero_le _,rfl,rfl,(Below.refl _ _).alloc (Nat.le_refl _) _⟩
 case round =>
  obtain⟨k,hk,rfl,HB,hbel⟩:=hrel
  by_cases hlt:k<n
  ·have hkl:k<ts.length:=by rw[← HN.out];exact hlt
   obtain⟨hbt,sa,sc,c0,c1,c2,ho⟩:=thr_at HA.out HN.out k hkl
   have d0:=(hbel.cell (p:=⟨bt,k*3,none⟩) hbt).trans c0
   have d1:=(hbel.cell (p:=⟨bt,k*3+1,none⟩) hbt).trans c1
   have d2:=(hbel.cell (p:=⟨bt,k*3+2,none⟩) hbt).trans c2
   have hls:=HS.out ts[k] (List.getElem_mem hkl)
   have HD:=hide (P.drop_cons ts k hkl)
   have HO:=hide ho
   generalize hst:ts[k]=t at *
   have hsa:0<t.stmts.length→∃ b,sa=some ⟨b,0,none⟩∧b<w.heap.size:=fun h0=>by
    rcases ho.2 with ⟨e,h0'⟩ | ⟨b',c',cur,e,hb',hg',_⟩
    ·omega
    ·simp only[Value.slice.injEq] at e
     exact⟨b',e.1,(Array.getElem?_eq_some_iff.1 hg').1⟩
   clear hst c0 c1 c2 ho
   have hws:w.heap.size≤wr.heap.size:=hbel.size
   have hbel1:Below w.heap.size w (wr.alloc (.cells #[.int .i64 t.block,.int .i64 t.line,.slice sa t.stmts.length sc] 88)):=hbel.alloc hws _
   have HB1:=hide hbel1
   clear hbel1 hbel
   go_wp2
   go_loopw [5,18] (fun dv j w2=>∃ q:Nat,∃ dep:Int,q≤t.stmts.length∧j=.int .i64 q∧dv=.int .i64 dep∧-(q:Int)≤dep∧dep≤q∧Hid (P.innerS 0 t.stmts=P.innerS dep (t.stmts.drop q))∧Below w.heap.size w w2) (fun _ j _=>t.stmts.length-(intOf j).toNat)
   case atStart=>exact⟨0,0,Nat.zero_le _,rfl,rfl,by simp,by simp,rfl,HB1.out⟩
   case round =>
    obtain⟨q,dep,hq,rfl,rfl,hd1,hd2,HI,hbel⟩:=hrel
    by_cases hql:q<t.stmts.length
    ·obtain⟨b,rfl,hblt⟩:=hsa (by omega)
     have hr:=hide (rangeAt_keep (range_stm HO.out rfl q hql) (hbel.block b hblt))
     have HQ:=hide (P.drop_cons t.stmts q hql)
     generalize hst:t.stmts[q]=st at hr HQ
     clear hst
     have hws2:=hbel.size
     cases h10:(st.kind==10)
     rotate_left
     ·have HI':Hid (P.innerS 0 t.stmts=P.innerS (dep+1) (t.stmts.drop (q+1))):=by
       unfold Hid;rw[HI.out,HQ.out,P.innerS];simp[h10]
      go_wp2_with (first | (refine wpList_load_at (.tmp 20) rfl rfl b (q*11) st rfl hr.out ?_))
      go_roundw
      case rel=>exact⟨q+1,dep+1,by omega,by go_num,by go_num,by simp;omega,by simp;omega,HI',hbel.alloc hws2 _⟩
      case measure=>simp[intOf];omega
     have h10':¬ st.kind=10:=by simpa using h10
     cases h11:(st.kind==11)
     rotate_left
     ·have HI':Hid (P.innerS 0 t.stmts=P.innerS (dep-1) (t.stmts.drop (q+1))):=by
       unfold Hid;rw[HI.out,HQ.out,P.innerS];simp[h10',h11]
      go_wp2_with (first | (refine wpList_load_at (.tmp 20) rfl rfl b (q*11) st rfl hr.out ?_))
      go_roundw
      case rel=>exact⟨q+1,dep-1,by omega,by go_num,by go_num,by simp;omega,by simp;omega,HI',hbel.alloc hws2 _⟩
      case measure=>simp[intOf];omega
     have h11':¬ st.kind=11:=by simpa using h11
     cases h5:(st.kind==5)
     ·have HI':Hid (P.innerS 0 t.stmts=P.innerS (dep) (t.stmts.drop (q+1))):=by
       unfold Hid;rw[HI.out,HQ.out,P.innerS];simp[h10',h11',h5]
      go_wp2_with (first | (refine wpList_load_at (.tmp 20) rfl rfl b (q*11) st rfl hr.out ?_))
      go_roundw
      case rel=>exact⟨q+1,dep,by omega,by go_num,by go_num,by simp;omega,by simp;omega,HI',hbel.alloc hws2 _⟩
      case measure=>simp[intOf];omega
     by_cases hp:0<dep
     ·have HI':Hid (P.innerB ts=st.line):=by
       have e:P.innerS 0 t.stmts=some st.line:=by rw[HI.out,HQ.out,P.innerS];simp[h10',h11',h5,hp]
       unfold Hid;rw[HB.out,HD.out,P.innerB,e]
      go_wp2_with (first | (refine wpList_load_at (.tmp 20) rfl rfl b (q*11) st rfl hr.out ?_))
      go_ret
      rw[HI'.out]
      exact⟨rfl,hbel.alloc hws2 _⟩
     ·have HI':Hid (P.innerS 0 t.stmts=P.innerS (dep) (t.stmts.drop (q+1))):=by
       unfold Hid;rw[HI.out,HQ.out,P.innerS];simp[h10',h11',h5,hp]
      go_wp2_with (first | (refine wpList_load_at (.tmp 20) rfl rfl b (q*11) st rfl hr.out ?_))
      go_roundw
      case rel=>exact⟨q+1,dep,by omega,by go_num,by go_num,by simp;omega,by simp;omega,HI',hbel.alloc hws2 _⟩
      case measure=>simp[intOf];omega
    ·have HB':Hid (P.innerB ts=P.innerB (ts.drop (k+1))):=by
      have e:P.innerS 0 t.stmts=none:=by rw[HI.out,List.drop_eq_nil_of_le (by omega)];rfl
      unfold Hid;rw[HB.out,HD.out,P.innerB,e]
     go_wp2
     go_roundw
     case rel=>exact⟨k+1,by omega,by go_num,HB',hbel⟩
     case measure=>simp[intOf];omega
  ·have HB':Hid (P.innerB ts=0):=by
    unfold Hid;rw[HB.out,List.drop_eq_nil_of_le (by have:=HN.out;omega)];rfl
   go_wp2
   go_ret
   rw[HB'.out]
   exact⟨rfl,hbel⟩
end Go.Proofs.YtgceflcbckjjiaaGreatDoor
