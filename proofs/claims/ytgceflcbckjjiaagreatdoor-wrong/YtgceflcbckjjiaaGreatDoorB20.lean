import Derived.Test.YtgceflcbckjjiaaGreatDoorB19
set_option linter.unusedVariables false
set_option linter.unusedSimpArgs false
namespace Go.Proofs.YtgceflcbckjjiaaGreatDoor
open Go Go.RowKit
set_option maxRecDepth 100000
namespace P
def cnt (p:Stm→Bool):List Stm→Int
 | []=>0
 | s::r=>(if p s then 1 else 0)+cnt p r
theorem cnt_append (p:Stm→Bool) (a b:List Stm):cnt p (a++b)=cnt p a+cnt p b:=by
 induction a with
 | nil=>simp[cnt]
 | cons s r ih=>simp[cnt,ih];omega
theorem cnt_bd (p:Stm→Bool) (l:List Stm):0≤cnt p l∧cnt p l≤l.length:=by
 induction l with
 | nil=>simp[cnt]
 | cons s r ih=>simp only[cnt,List.length_cons];split<;>omega
theorem cnt_snoc (p:Stm→Bool) (l:List Stm) (k:Nat) (h:k<l.length):cnt p (l.take (k+1))=cnt p (l.take k)+if p l[k] then 1 else 0:=by
 rw[List.take_succ_eq_append_getElem h,cnt_append];simp[cnt]
def tot (p:Stm→Bool):List Thr→Int
 | []=>0
 | t::r=>cnt p t.stmts+tot p r
theorem tot_append (p:Stm→Bool) (a b:List Thr):tot p (a++b)=tot p a+tot p b:=by
 induction a with
 | nil=>simp[tot]
 | cons s r ih=>simp[tot,ih];omega
theorem tot_snoc (p:Stm→Bool) (l:List Thr) (k:Nat) (h:k<l.length):tot p (l.take (k+1))=tot p (l.take k)+cnt p l[k].stmts:=by
 rw[List.take_succ_eq_append_getElem h,tot_append];simp[tot]
theorem tot_bd (p:Stm→Bool) (l:List Thr) (N:Nat) (h:∀ t∈l,t.stmts.length<N):0≤tot p l∧tot p l≤l.length*N:=by
 induction l with
 | nil=>simp[tot]
 | cons t r ih =>
  have h1:=ih (fun t ht=>h t (by simp[ht]))
  have h2:=cnt_bd p t.stmts
  have h3:=h t (by simp)
  simp only[tot,List.length_cons]
  refine⟨by omega,?_⟩
  have:((r.length+1:Nat):Int)*N=r.length*N+N:=by push_cast;rw[Int.add_mul];omega
  rw[this];omega
def isR (s:Stm):Bool:=reads s.kind
def isW (s:Stm):Bool:=writes s.kind
def isF (s:Stm):Bool:=s.kind==4&&s.order==5
def over (ts:List Thr):Bool:=decide (4<tot isR ts)||decide (3<tot isW ts)||decide (3<tot isF ts)
end P
set_option maxHeartbeats 3200000 in
theorem over_any (B bt n cap:Nat) (ts:List P.Thr) (w:World) (h:ThreadsAt w B (.slice (some ⟨bt,0,none⟩) n cap) ts) (hn:n=ts.length) (hnb:n<10) (hst:∀ t∈ts,t.stmts.length<10000) :
  Calls Tryz.prog 33 #[.agg #[.slice (some ⟨bt,0,none⟩) n cap]] w fun e w'=>e=.returned (.bool (P.over ts))∧Below w.heap.size w w':=by
 have HA:=hide h
 have HN:=hide hn
 have HS:=hide hst
 clear h hn hst
 go_enter Tryz.func33,Tryz.ntmps33
 go_wp2
 go_loopw [3,4,5,13] (fun a b c i wr=>∃ k:Nat,k≤n∧i=.int .i64 k∧a=.int .i64 (P.tot P.isR (ts.take k))∧b=.int .i64 (P.tot P.isW (ts.take k))∧c=.int .i64 (P.tot P.isF (ts.take k))∧Below w.heap.size w wr) (fun _ _ _ i _=>n-(intOf i).toNat)
 case atStart=>exact⟨0,Nat.zero_le _,rfl,by simp[P.tot],by simp[P.tot],by simp[P.tot],(Below.refl _ _).alloc (Nat.le_refl _) _⟩
 case round =>
  obtain⟨k,hk,rfl,rfl,rfl,rfl,hbel⟩:=hrel
  have htk:∀ t∈ts.take k,t.stmts.length<10000:=fun t ht=>HS.out t (List.mem_of_mem_take ht)
  have hbR:=P.tot_bd P.isR (ts.take k) 10000 htk
  have hbW:=P.tot_bd P.isW (ts.take k) 10000 htk
  have hbF:=P.tot_bd P.isF (ts.take k) 10000 htk
  have hlk:(ts.take k).length≤k:=List.length_take_le _ _
  clear htk
  by_cases hlt:k<n
  ·have hkl:k<ts.length:=by rw[← HN.out];exact hlt
   obtain⟨hbt,sa,sc,c0,c1,c2,ho⟩:=thr_at HA.out HN.out k hkl
   have d0:=(hbel.cell (p:=⟨bt,k*3,none⟩) hbt).trans c0
   have d1:=(hbel.cell (p:=⟨bt,k*3+1,none⟩) hbt).trans c1
   have d2:=(hbel.cell (p:=⟨bt,k*3+2,none⟩) hbt).trans c2
   have hls:=HS.out ts[k] (List.getElem_mem hkl)
   have HR:=hide (P.tot_snoc P.isR ts k hkl)
   have HW:=hide (P.tot_snoc P.isW ts k hkl)
   have HF:=hide (P.tot_snoc P.isF ts k hkl)
   have HO:=hide ho
   generalize hst:ts[k]=t at *
   have hsa:0<t.stmts.length→∃ b,sa=some ⟨b,0,none⟩∧b<w.heap.size:=fun h0=>by
    rcases ho.2 with ⟨e,h0'⟩ | ⟨b',c',cur,e,hb',hg',_⟩
    ·omega
    ·simp only[Value.slice.injEq] at e
     exact⟨b',e.1,(Array.getElem?_eq_some_iff.1 hg').1⟩
   clear hst c0 c1 c2 ho
   have hws:w.heap.size≤wr.heap.size:=hbel.size
   have HB1:Hid (Below w.heap.size w (wr.alloc (.cells #[.int .i64 t.block,.int .i64 t.line,.slice sa t.stmts.length sc] 88))):=hbel.alloc hws _
   clear hbel
   generalize hR:P.tot P.isR (ts.take k)=R at *
   generalize hW:P.tot P.isW (ts.take k)=W at *
   generalize hF:P.tot P.isF (ts.take k)=F at *
   clear hR hW hF
   go_wp2
   go_loopw [3,4,5,20] (fun a b c j w2=>∃ q:Nat,q≤t.stmts.length∧j=.int .i64 q∧a=.int .i64 (R+P.cnt P.isR (t.stmts.take q))∧b=.int .i64 (W+P.cnt P.isW (t.stmts.take q))∧c=.int .i64 (F+P.cnt P.isF (t.stmts.take q))∧Below w.heap.size w w2) (fun _ _ _ j _=>t.stmts.length-(intOf j).toNat)
   case atStart=>exact⟨0,Nat.zero_le _,rfl,by simp[P.cnt],by simp[P.cnt],by simp[P.cnt],HB1.out⟩
   case round =>
    obtain⟨q,hq,rfl,rfl,rfl,rfl,hbel⟩:=hrel
    have hcR:=P.cnt_bd P.isR (t.stmts.take q)
    have hcW:=P.cnt_bd P.isW (t.stmts.take q)
    have hcF:=P.cnt_bd P.isF (t.stmts.take q)
    have hlq:(t.stmts.take q).length≤q:=List.length_take_le _ _
    by_cases hql:q<t.stmts.length
    ·obtain⟨b,rfl,hblt⟩:=hsa (by omega)
     have hr:=hide (rangeAt_keep (range_stm HO.out rfl q hql) (hbel.block b hblt))
     have KR:=hide (P.cnt_snoc P.isR t.stmts q hql)
     have KW:=hide (P.cnt_snoc P.isW t.stmts q hql)
     have KF:=hide (P.cnt_snoc P.isF t.stmts q hql)
     generalize hst:t.stmts[q]=st at hr KR KW KF
     clear hst
     have hws2:=hbel.size
     generalize hxR:P.cnt P.isR (t.stmts.take q)=xR at *
     generalize hxW:P.cnt P.isW (t.stmts.take q)=xW at *
     generalize hxF:P.cnt P.isF (t.stmts.take q)=xF at *
     clear hxR hxW hxF
     cases b1:P.reads st.kind<;>cases b2:P.writes st.kind<;>cases b3:(st.kind==4)
     all_goals
      try cases b4:(st.order==5)
     all_goals
      have e1:P.isR st=P.reads st.kind:=rfl
      have e2:P.isW st=P.writes st.kind:=rfl
      have e3:P.isF st=(st.kind==4&&st.order==5):=rfl
      have NR:Hid (P.cnt P.isR (t.stmts.take (q+1))=_):=KR.out
      have NW:Hid (P.cnt P.isW (t.stmts.take (q+1))=_):=KW.out
      have NF:Hid (P.cnt P.isF (t.stmts.take (q+1))=_):=KF.out
      rw[e1,b1] at NR
      rw[e2,b2] at NW
      simp only[e3,b3,b4] at NF
      clear e1 e2 e3 KR KW KF
      go_wp2_with (first | (refine wpList_load_at (.tmp 22) rfl rfl b (q*11) st rfl hr.out ?_) | (go_at_call 58;refine (reads_any _ _).mono ?_;rintro e w' ⟨rfl,rfl⟩) | (go_at_call 59;refine (writes_any _ _).mono ?_;rintro e w' ⟨rfl,rfl⟩))
      go_roundw
      case rel=>exact⟨q+1,by omega,by go_num,by rw[NR.out];simp<;>omega,by rw[NW.out];simp<;>omega,by rw[NF.out];simp<;>omega,hbel.alloc hws2 _⟩
      case measure=>simp[intOf];omega
    ·have hqq:q=t.stmts.length:=by omega
     subst hqq
     have HT:Hid (t.stmts.take t.stmts.length=t.stmts):=List.take_length
     go_wp2
     go_roundw
     case rel=>exact⟨k+1,by omega,by go_num,by rw[HR.out,HT.out],by rw[HW.out,HT.out],by rw[HF.out,HT.out],hbel⟩
     case measure=>simp[intOf];omega
  ·have hkn:k=n:=by omega
   subst hkn
   have HT:Hid (ts.take k=ts):=List.take_of_length_le (by have:=HN.out;omega)
   have HO:Hid (P.over ts=(decide (4<P.tot P.isR (ts.take k))||decide (3<P.tot P.isW (ts.take k))||decide (3<P.tot P.isF (ts.take k)))):=by
    unfold Hid;rw[HT.out];rfl
   generalize P.tot P.isR (ts.take k)=R at *
   generalize P.tot P.isW (ts.take k)=W at *
   generalize P.tot P.isF (ts.take k)=F at *
   go_wp2
   all_goals go_ret
   all_goals rw[HO.out]
   all_goals refine⟨?_,hbel⟩
   all_goals simp[*]
end Go.Proofs.YtgceflcbckjjiaaGreatDoor
