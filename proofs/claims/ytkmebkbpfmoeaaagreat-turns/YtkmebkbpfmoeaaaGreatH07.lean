import Derived.Test.YtkmebkbpfmoeaaaGreatH06
set_option linter.unusedVariables false
set_option linter.unusedSimpArgs false
set_option maxHeartbeats 12800000
namespace Go.Proofs.YtkmebkbpfmoeaaaGreat
open Go Go.RowKit
set_option maxRecDepth 100000
namespace P
def zIT (b:Int):List Thr→Int
 | []=>0
 | t::r=>if t.block==b then bars t.stmts else zIT b r
def zIw (all:List Thr):List Thr→Int
 | []=>0
 | t::r=>if bars t.stmts != zIT t.block all||decide (2<bars t.stmts) then t.line else zIw all r
theorem barsOf_bd (b:Int) (ts:List Thr):0≤zIT b ts:=by
 induction ts with
 | nil=>simp[zIT]
 | cons t r ih=>simp only[zIT];split;exact (zKy _).1;exact ih
end P
theorem zEn (ts:List P.Thr):∀ (vs:List Value),vs.length=ts.length→∀ (k:Nat) (h:k<ts.length),∃ v,vs[k]?=some v∧(zAO ts vs)[k*3]?=some (.int .i64 ts[k].block)∧(zAO ts vs)[k*3+1]?=some (.int .i64 ts[k].line)∧(zAO ts vs)[k*3+2]?=some v:=by
 induction ts with
 | nil=>intro vs _ k h;simp at h
 | cons t r ih =>
  intro vs hl k h
  match vs,hl with
  | v::q,hl =>
   cases k with
   | zero=>exact⟨v,rfl,by simp[zAO],by simp[zAO],by simp[zAO]⟩
   | succ k =>
    obtain⟨u,h1,h2,h3,h4⟩:=ih q (by simpa using hl) k (by simpa using h)
    refine⟨u,by simpa using h1,?_,?_,?_⟩
    ·rw[show (k+1)*3=k*3+3 by omega];simpa [zAO] using h2
    ·rw[show (k+1)*3+1=k*3+1+3 by omega];simpa [zAO] using h3
    ·rw[show (k+1)*3+2=k*3+2+3 by omega];simpa [zAO] using h4
theorem zAP.get {w:World} {B:Nat}:∀ {ts:List P.Thr} {vs:List Value},zAP w B ts vs→∀ (k:Nat) (h:k<ts.length) (v:Value),vs[k]?=some v→w.ownsRow B 97 11 v ts[k].stmts.length (zBa ts[k].stmts)
 | t::r,u::q,h,0,_,v,hv=>by simp at hv;subst hv;exact h.1
 | t::r,u::q,h,k+1,hk,v,hv=>zAP.get h.2.2 k (by simpa using hk) v (by simpa using hv)
theorem zEo {w:World} {B bt n cap:Nat} {ts:List P.Thr} (h:zAv w B (.slice (some ⟨bt,0,none⟩) n cap) ts) (hn:n=ts.length) (k:Nat) (hk:k<ts.length) :
  bt<w.heap.size∧∃ sa sc,w.cell? ⟨bt,k*3,none⟩=some (.int .i64 ts[k].block)∧w.cell? ⟨bt,k*3+1,none⟩=some (.int .i64 ts[k].line)∧w.cell? ⟨bt,k*3+2,none⟩=some (.slice sa ts[k].stmts.length sc)∧w.ownsRow B 97 11 (.slice sa ts[k].stmts.length sc) ts[k].stmts.length (zBa ts[k].stmts):=by
 obtain⟨vs,h1,h2⟩:=h
 rw[← hn] at h1
 obtain⟨v,e0,e1,e2,e3⟩:=zEn ts vs h2.length k hk
 have ho:=h2.get k hk v e0
 have hv:∃ a c,v=.slice a ts[k].stmts.length c:=by
  rcases ho.2 with ⟨e,h0⟩ | ⟨k',c,cur,e,_⟩
  ·exact⟨none,0,by rw[e,h0]⟩
  ·exact⟨_,c,e⟩
 obtain⟨sa,sc,rfl⟩:=hv
 refine⟨(h1.lt bt rfl).2,sa,sc,?_,?_,?_,ho⟩
 ·rw[h1.cellAt _ (by omega)];exact e1
 ·rw[h1.cellAt _ (by omega)];exact e2
 ·rw[h1.cellAt _ (by omega)];exact e3
theorem zCJ (B bt n cap:Nat) (b:Int) (ts:List P.Thr) (w:World) (h:zAv w B (.slice (some ⟨bt,0,none⟩) n cap) ts) (hn:n=ts.length) (hnb:n<10) (hst:∀ t∈ts,t.stmts.length<10000) :
  Calls Tryz.prog 43 #[.agg #[.slice (some ⟨bt,0,none⟩) n cap],.int .i64 b] w fun e w'=>e=.returned (.int .i64 (P.zIT b ts))∧Below w.heap.size w w':=by
 have HA:=zAa h
 have HN:=zAa hn
 have HS:=zAa hst
 clear h hn hst
 go_enter Tryz.func43,Tryz.ntmps43
 go_wp2
 go_loopw [10] (fun i wr=>∃ k:Nat,k≤n∧i=.int .i64 k∧Hid (P.zIT b ts=P.zIT b (ts.drop k))∧Below w.heap.size w wr) (fun i _=>n-(intOf i).toNat)
 case atStart=>exact⟨0,Nat.zero_le _,rfl,rfl,(Below.refl _ _).alloc (Nat.le_refl _) _⟩
 case round =>
  obtain⟨k,hk,rfl,HB,hbel⟩:=hrel
  by_cases hlt:k<n
  ·have hkl:k<ts.length:=by rw[← HN.out];exact hlt
   obtain⟨hbt,sa,sc,c0,c1,c2,ho⟩:=zEo HA.out HN.out k hkl
   have d0:=cfL hbel hbt c0
   have d1:=cfL hbel hbt c1
   have d2:=cfL hbel hbt c2
   have hls:=HS.out ts[k] (List.getElem_mem hkl)
   have HD:=zAa (P.zJn ts k hkl)
   have ho':=zAa (zAc ho (fun j hj=>hbel.block j (ho.lt j hj).2))
   generalize hst:ts[k]=t at *
   clear hst c0 c1 c2 ho
   have hws:w.heap.size≤wr.heap.size:=hbel.size
   cases hb:(t.block==b)
   ·have HB':Hid (P.zIT b ts=P.zIT b (ts.drop (k+1))):=by
     unfold Hid;rw[HB.out,HD.out,P.zIT,hb];simp
    go_wp2
    go_roundw
    case rel=>exact⟨k+1,by omega,by go_num,HB',hbel.alloc (by omega) _⟩
    case measure=>simp[intOf];omega
   ·have HB':Hid (P.zIT b ts=P.bars t.stmts):=by
     unfold Hid;rw[HB.out,HD.out,P.zIT,hb];simp
    go_wp2_with (first | (go_at_call 42;refine (zBL B t.stmts.length _ _ _ t.stmts _ (by exact ho'.out.alloc _) rfl hls).mono ?_;rintro e w1 ⟨rfl,hb1⟩))
    go_ret
    rw[HB'.out]
    exact⟨rfl,(hbel.alloc (by omega) _).trans (hb1.mono (by simp;omega))⟩
  ·have HB':Hid (P.zIT b ts=0):=by
    unfold Hid;rw[HB.out,List.drop_eq_nil_of_le (by have:=HN.out;omega)];rfl
   go_wp2
   go_ret
   rw[HB'.out]
   exact⟨rfl,hbel⟩
theorem zCK (B bt n cap:Nat) (ts:List P.Thr) (w:World) (h:zAv w B (.slice (some ⟨bt,0,none⟩) n cap) ts) (hn:n=ts.length) (hnb:n<10) (hst:∀ t∈ts,t.stmts.length<10000) :
  Calls Tryz.prog 29 #[.agg #[.slice (some ⟨bt,0,none⟩) n cap]] w fun e w'=>e=.returned (.int .i64 (P.zIw ts ts))∧Below w.heap.size w w':=by
 have HA:=zAa h
 have HN:=zAa hn
 have HS:=zAa hst
 clear h hn hst
 go_enter Tryz.func29,Tryz.ntmps29
 go_wp2
 go_loopw [10] (fun i wr=>∃ k:Nat,k≤n∧i=.int .i64 k∧Hid (P.zIw ts ts=P.zIw ts (ts.drop k))∧Hid (wr.heap[w.heap.size]?=some (.cells #[.slice (some ⟨bt,0,none⟩) n cap] 45 (0,0)))∧Below w.heap.size w wr) (fun i _=>n-(intOf i).toNat)
 case atStart=>exact⟨0,Nat.zero_le _,rfl,rfl,heap_alloc_new w _,(Below.refl _ _).alloc (Nat.le_refl _) _⟩
 case round =>
  obtain⟨k,hk,rfl,HB,HP,hbel⟩:=hrel
  by_cases hlt:k<n
  ·have hkl:k<ts.length:=by rw[← HN.out];exact hlt
   obtain⟨hbt,sa,sc,c0,c1,c2,ho⟩:=zEo HA.out HN.out k hkl
   have d0:=cfL hbel hbt c0
   have d1:=cfL hbel hbt c1
   have d2:=cfL hbel hbt c2
   have hls:=HS.out ts[k] (List.getElem_mem hkl)
   have HD:=zAa (P.zJn ts k hkl)
   have ho':=zAa (zAc ho (fun j hj=>hbel.block j (ho.lt j hj).2))
   generalize hst:ts[k]=t at *
   clear hst c0 c1 c2 ho
   have hws:w.heap.size≤wr.heap.size:=hbel.size
   obtain⟨p0,_,p2⟩:=zAI HP.out
   have hbd:=P.zKy t.stmts
   have hbo:=P.barsOf_bd t.block ts
   have TH:Hid (∀ w1:World,Below (wr.alloc (.cells #[.int .i64 t.block,.int .i64 t.line,.slice sa t.stmts.length sc] 93)).heap.size (wr.alloc (.cells #[.int .i64 t.block,.int .i64 t.line,.slice sa t.stmts.length sc] 93)) w1→zAv w1 B (.slice (some ⟨bt,0,none⟩) n cap) ts):=fun w1 hb1=>by
    refine HA.out.keep (fun j hj=>?_)
    rw[hb1.block j (by simp;omega),Below.heap_alloc _ _ _ (by omega),hbel.block j hj]
   cases hu:(P.bars t.stmts != P.zIT t.block ts||decide (2<P.bars t.stmts))
   ·have HB':Hid (P.zIw ts ts=P.zIw ts (ts.drop (k+1))):=by
     unfold Hid;rw[HB.out,HD.out,P.zIw,hu];simp
    obtain⟨hu1,hu2⟩:(P.bars t.stmts != P.zIT t.block ts)=false∧decide (2<P.bars t.stmts)=false:=by simpa using hu
    go_wp2_with (first | (go_at_call 42;refine (zBL B t.stmts.length _ _ _ t.stmts _ (by exact ho'.out.alloc _) rfl hls).mono ?_;rintro e w1 ⟨rfl,hb1⟩;have s1:wr.heap.size+1≤w1.heap.size:=(by have:=hb1.size;simp at this;omega);have y0:=hb1.cell (p:=⟨wr.heap.size,0,none⟩) (by simp);have y1:=hb1.cell (p:=⟨wr.heap.size,1,none⟩) (by simp);have y2:=hb1.cell (p:=⟨w.heap.size,0,none⟩) (by simp;omega)) | (go_at_call 43;refine (zCJ B bt n cap _ ts _ (by exact TH.out w1 hb1) HN.out hnb HS.out).mono ?_;rintro e w2 ⟨rfl,hb2⟩;have x1:=hb2.cell (p:=⟨wr.heap.size,1,none⟩) (show wr.heap.size<w1.heap.size by omega)))
    go_roundw
    case rel=>exact⟨k+1,by omega,by go_num,HB',by unfold Hid;rw[hb2.block _ (by omega),hb1.block _ (by simp;omega),Below.heap_alloc _ _ _ p2];exact HP.out,(hbel.alloc (by omega) _).trans ((hb1.mono (by simp;omega)).trans (hb2.mono (by omega)))⟩
    case measure=>simp[intOf];omega
   ·have HB':Hid (P.zIw ts ts=t.line):=by
     unfold Hid;rw[HB.out,HD.out,P.zIw,hu];simp
    cases hv:(P.bars t.stmts != P.zIT t.block ts)
    ·have hv2:2<P.bars t.stmts:=by simpa [hv] using hu
     clear hu
     go_wp2_with (first | (go_at_call 42;refine (zBL B t.stmts.length _ _ _ t.stmts _ (by exact ho'.out.alloc _) rfl hls).mono ?_;rintro e w1 ⟨rfl,hb1⟩;have s1:wr.heap.size+1≤w1.heap.size:=(by have:=hb1.size;simp at this;omega);have y0:=hb1.cell (p:=⟨wr.heap.size,0,none⟩) (by simp);have y1:=hb1.cell (p:=⟨wr.heap.size,1,none⟩) (by simp);have y2:=hb1.cell (p:=⟨w.heap.size,0,none⟩) (by simp;omega)) | (go_at_call 43;refine (zCJ B bt n cap _ ts _ (by exact TH.out w1 hb1) HN.out hnb HS.out).mono ?_;rintro e w2 ⟨rfl,hb2⟩;have x1:=hb2.cell (p:=⟨wr.heap.size,1,none⟩) (show wr.heap.size<w1.heap.size by omega)))
     go_ret
     rw[HB'.out]
     exact⟨rfl,(hbel.alloc (by omega) _).trans ((hb1.mono (by simp;omega)).trans (hb2.mono (by omega)))⟩
    ·clear hu
     go_wp2_with (first | (go_at_call 42;refine (zBL B t.stmts.length _ _ _ t.stmts _ (by exact ho'.out.alloc _) rfl hls).mono ?_;rintro e w1 ⟨rfl,hb1⟩;have s1:wr.heap.size+1≤w1.heap.size:=(by have:=hb1.size;simp at this;omega);have y0:=hb1.cell (p:=⟨wr.heap.size,0,none⟩) (by simp);have y1:=hb1.cell (p:=⟨wr.heap.size,1,none⟩) (by simp);have y2:=hb1.cell (p:=⟨w.heap.size,0,none⟩) (by simp;omega)) | (go_at_call 43;refine (zCJ B bt n cap _ ts _ (by exact TH.out w1 hb1) HN.out hnb HS.out).mono ?_;rintro e w2 ⟨rfl,hb2⟩;have x1:=hb2.cell (p:=⟨wr.heap.size,1,none⟩) (show wr.heap.size<w1.heap.size by omega)))
     go_ret
     rw[HB'.out]
     exact⟨rfl,(hbel.alloc (by omega) _).trans ((hb1.mono (by simp;omega)).trans (hb2.mono (by omega)))⟩
  ·have HB':Hid (P.zIw ts ts=0):=by
    unfold Hid;rw[HB.out,List.drop_eq_nil_of_le (by have:=HN.out;omega)];rfl
   go_wp2
   go_ret
   rw[HB'.out]
   exact⟨rfl,hbel⟩
namespace P
def zIH (d:Int):List Stm→Option Int
 | []=>none
 | s::r =>
  if s.kind==10 then zIH (d+1) r
  else if s.kind==11 then zIH (d-1) r
  else if s.kind==5 then (if 0<d then some s.line else zIH d r)
  else zIH d r
def zIM:List Thr→Int
 | []=>0
 | t::r=>match zIH 0 t.stmts with
  | some l=>l
  | none=>zIM r
end P
theorem zCz (B bt n cap:Nat) (ts:List P.Thr) (w:World) (h:zAv w B (.slice (some ⟨bt,0,none⟩) n cap) ts) (hn:n=ts.length) (hnb:n<10) (hst:∀ t∈ts,t.stmts.length<10000) :
  Calls Tryz.prog 28 #[.agg #[.slice (some ⟨bt,0,none⟩) n cap]] w fun e w'=>e=.returned (.int .i64 (P.zIM ts))∧Below w.heap.size w w':=by
 have HA:=zAa h
 have HN:=zAa hn
 have HS:=zAa hst
 clear h hn hst
 go_enter Tryz.func28,Tryz.ntmps28
 go_wp2
 go_loopw [11] (fun i wr=>∃ k:Nat,k≤n∧i=.int .i64 k∧Hid (P.zIM ts=P.zIM (ts.drop k))∧Below w.heap.size w wr) (fun i _=>n-(intOf i).toNat)
 case atStart=>exact⟨0,Nat.zero_le _,rfl,rfl,(Below.refl _ _).alloc (Nat.le_refl _) _⟩
 case round =>
  obtain⟨k,hk,rfl,HB,hbel⟩:=hrel
  by_cases hlt:k<n
  ·have hkl:k<ts.length:=by rw[← HN.out];exact hlt
   obtain⟨hbt,sa,sc,c0,c1,c2,ho⟩:=zEo HA.out HN.out k hkl
   have d0:=cfL hbel hbt c0
   have d1:=cfL hbel hbt c1
   have d2:=cfL hbel hbt c2
   have hls:=HS.out ts[k] (List.getElem_mem hkl)
   have HD:=zAa (P.zJn ts k hkl)
   have HO:=zAa ho
   generalize hst:ts[k]=t at *
   have hsa:0<t.stmts.length→∃ b,sa=some ⟨b,0,none⟩∧b<w.heap.size:=fun h0=>by
    rcases ho.2 with ⟨e,h0'⟩ | ⟨b',c',cur,e,hb',hg',_⟩
    ·omega
    ·simp only[Value.slice.injEq] at e
     exact⟨b',e.1,(Array.getElem?_eq_some_iff.1 hg').1⟩
   clear hst c0 c1 c2 ho
   have hws:w.heap.size≤wr.heap.size:=hbel.size
   have hbel1:Below w.heap.size w (wr.alloc (.cells #[.int .i64 t.block,.int .i64 t.line,.slice sa t.stmts.length sc] 93)):=hbel.alloc hws _
   have HB1:=zAa hbel1
   clear hbel1 hbel
   go_wp2
   go_loopw [5,18] (fun dv j w2=>∃ q:Nat,∃ dep:Int,q≤t.stmts.length∧j=.int .i64 q∧dv=.int .i64 dep∧-(q:Int)≤dep∧dep≤q∧Hid (P.zIH 0 t.stmts=P.zIH dep (t.stmts.drop q))∧Below w.heap.size w w2) (fun _ j _=>t.stmts.length-(intOf j).toNat)
   case atStart=>exact⟨0,0,Nat.zero_le _,rfl,rfl,by simp,by simp,rfl,HB1.out⟩
   case round =>
    obtain⟨q,dep,hq,rfl,rfl,hd1,hd2,HI,hbel⟩:=hrel
    by_cases hql:q<t.stmts.length
    ·obtain⟨b,rfl,hblt⟩:=hsa (by omega)
     have hr:=zAa (zAz (zCj HO.out rfl q hql) (hbel.block b hblt))
     have HQ:=zAa (P.zJn t.stmts q hql)
     generalize hst:t.stmts[q]=st at hr HQ
     clear hst
     have hws2:=hbel.size
     cases h10:(st.kind==10)
     rotate_left
     ·have HI':Hid (P.zIH 0 t.stmts=P.zIH (dep+1) (t.stmts.drop (q+1))):=by
       unfold Hid;rw[HI.out,HQ.out,P.zIH];simp[h10]
      go_wp2_with (first | (refine zAE (.tmp 20) rfl rfl b (q*11) st rfl hr.out ?_))
      go_roundw
      case rel=>exact⟨q+1,dep+1,by omega,by go_num,by go_num,by simp;omega,by simp;omega,HI',hbel.alloc hws2 _⟩
      case measure=>simp[intOf];omega
     have h10':¬ st.kind=10:=by simpa using h10
     cases h11:(st.kind==11)
     rotate_left
     ·have HI':Hid (P.zIH 0 t.stmts=P.zIH (dep-1) (t.stmts.drop (q+1))):=by
       unfold Hid;rw[HI.out,HQ.out,P.zIH];simp[h10',h11]
      go_wp2_with (first | (refine zAE (.tmp 20) rfl rfl b (q*11) st rfl hr.out ?_))
      go_roundw
      case rel=>exact⟨q+1,dep-1,by omega,by go_num,by go_num,by simp;omega,by simp;omega,HI',hbel.alloc hws2 _⟩
      case measure=>simp[intOf];omega
     have h11':¬ st.kind=11:=by simpa using h11
     cases h5:(st.kind==5)
     ·have HI':Hid (P.zIH 0 t.stmts=P.zIH (dep) (t.stmts.drop (q+1))):=by
       unfold Hid;rw[HI.out,HQ.out,P.zIH];simp[h10',h11',h5]
      go_wp2_with (first | (refine zAE (.tmp 20) rfl rfl b (q*11) st rfl hr.out ?_))
      go_roundw
      case rel=>exact⟨q+1,dep,by omega,by go_num,by go_num,by simp;omega,by simp;omega,HI',hbel.alloc hws2 _⟩
      case measure=>simp[intOf];omega
     by_cases hp:0<dep
     ·have HI':Hid (P.zIM ts=st.line):=by
       have e:P.zIH 0 t.stmts=some st.line:=by rw[HI.out,HQ.out,P.zIH];simp[h10',h11',h5,hp]
       unfold Hid;rw[HB.out,HD.out,P.zIM,e]
      go_wp2_with (first | (refine zAE (.tmp 20) rfl rfl b (q*11) st rfl hr.out ?_))
      go_ret
      rw[HI'.out]
      exact⟨rfl,hbel.alloc hws2 _⟩
     ·have HI':Hid (P.zIH 0 t.stmts=P.zIH (dep) (t.stmts.drop (q+1))):=by
       unfold Hid;rw[HI.out,HQ.out,P.zIH];simp[h10',h11',h5,hp]
      go_wp2_with (first | (refine zAE (.tmp 20) rfl rfl b (q*11) st rfl hr.out ?_))
      go_roundw
      case rel=>exact⟨q+1,dep,by omega,by go_num,by go_num,by simp;omega,by simp;omega,HI',hbel.alloc hws2 _⟩
      case measure=>simp[intOf];omega
    ·have HB':Hid (P.zIM ts=P.zIM (ts.drop (k+1))):=by
      have e:P.zIH 0 t.stmts=none:=by rw[HI.out,List.drop_eq_nil_of_le (by omega)];rfl
      unfold Hid;rw[HB.out,HD.out,P.zIM,e]
     go_wp2
     go_roundw
     case rel=>exact⟨k+1,by omega,by go_num,HB',hbel⟩
     case measure=>simp[intOf];omega
  ·have HB':Hid (P.zIM ts=0):=by
    unfold Hid;rw[HB.out,List.drop_eq_nil_of_le (by have:=HN.out;omega)];rfl
   go_wp2
   go_ret
   rw[HB'.out]
   exact⟨rfl,hbel⟩
namespace P
def cnt (p:Stm→Bool):List Stm→Int
 | []=>0
 | s::r=>(if p s then 1 else 0)+cnt p r
theorem cnt_append (p:Stm→Bool) (a b:List Stm):cnt p (a++b)=cnt p a+cnt p b:=by
 induction a with
 | nil=>simp[cnt]
 | cons s r ih=>simp[cnt,ih];omega
theorem zJw (p:Stm→Bool) (l:List Stm):0≤cnt p l∧cnt p l≤l.length:=by
 induction l with
 | nil=>simp[cnt]
 | cons s r ih=>simp only[cnt,List.length_cons];split<;>omega
theorem zKa (p:Stm→Bool) (l:List Stm) (k:Nat) (h:k<l.length):cnt p (l.take (k+1))=cnt p (l.take k)+if p l[k] then 1 else 0:=by
 rw[List.take_succ_eq_append_getElem h,cnt_append];simp[cnt]
def tot (p:Stm→Bool):List Thr→Int
 | []=>0
 | t::r=>cnt p t.stmts+tot p r
theorem tot_append (p:Stm→Bool) (a b:List Thr):tot p (a++b)=tot p a+tot p b:=by
 induction a with
 | nil=>simp[tot]
 | cons s r ih=>simp[tot,ih];omega
theorem zKb (p:Stm→Bool) (l:List Thr) (k:Nat) (h:k<l.length):tot p (l.take (k+1))=tot p (l.take k)+cnt p l[k].stmts:=by
 rw[List.take_succ_eq_append_getElem h,tot_append];simp[tot]
theorem zKz (p:Stm→Bool) (l:List Thr) (N:Nat) (h:∀ t∈l,t.stmts.length<N):0≤tot p l∧tot p l≤l.length*N:=by
 induction l with
 | nil=>simp[tot]
 | cons t r ih =>
  have h1:=ih (fun t ht=>h t (by simp[ht]))
  have h2:=zJw p t.stmts
  have h3:=h t (by simp)
  simp only[tot,List.length_cons]
  refine⟨by omega,?_⟩
  have:((r.length+1:Nat):Int)*N=r.length*N+N:=by push_cast;rw[Int.add_mul];omega
  rw[this];omega
def isR (s:Stm):Bool:=reads s.kind
def isW (s:Stm):Bool:=zKg s.kind
def isF (s:Stm):Bool:=s.kind==4&&s.order==5
def over (ts:List Thr):Bool:=decide (4<tot isR ts)||decide (3<tot isW ts)||decide (3<tot isF ts)
end P
theorem zFu (B bt n cap:Nat) (ts:List P.Thr) (w:World) (h:zAv w B (.slice (some ⟨bt,0,none⟩) n cap) ts) (hn:n=ts.length) (hnb:n<10) (hst:∀ t∈ts,t.stmts.length<10000) :
  Calls Tryz.prog 30 #[.agg #[.slice (some ⟨bt,0,none⟩) n cap]] w fun e w'=>e=.returned (.bool (P.over ts))∧Below w.heap.size w w':=by
 have HA:=zAa h
 have HN:=zAa hn
 have HS:=zAa hst
 clear h hn hst
 go_enter Tryz.func30,Tryz.ntmps30
 go_wp2
 go_loopw [3,4,5,13] (fun a b c i wr=>∃ k:Nat,k≤n∧i=.int .i64 k∧a=.int .i64 (P.tot P.isR (ts.take k))∧b=.int .i64 (P.tot P.isW (ts.take k))∧c=.int .i64 (P.tot P.isF (ts.take k))∧Below w.heap.size w wr) (fun _ _ _ i _=>n-(intOf i).toNat)
 case atStart=>exact⟨0,Nat.zero_le _,rfl,by simp[P.tot],by simp[P.tot],by simp[P.tot],(Below.refl _ _).alloc (Nat.le_refl _) _⟩
 case round =>
  obtain⟨k,hk,rfl,rfl,rfl,rfl,hbel⟩:=hrel
  have htk:∀ t∈ts.take k,t.stmts.length<10000:=fun t ht=>HS.out t (List.mem_of_mem_take ht)
  have hbR:=P.zKz P.isR (ts.take k) 10000 htk
  have hbW:=P.zKz P.isW (ts.take k) 10000 htk
  have hbF:=P.zKz P.isF (ts.take k) 10000 htk
  have hlk:(ts.take k).length≤k:=List.length_take_le _ _
  clear htk
  by_cases hlt:k<n
  ·have hkl:k<ts.length:=by rw[← HN.out];exact hlt
   obtain⟨hbt,sa,sc,c0,c1,c2,ho⟩:=zEo HA.out HN.out k hkl
   have d0:=cfL hbel hbt c0
   have d1:=cfL hbel hbt c1
   have d2:=cfL hbel hbt c2
   have hls:=HS.out ts[k] (List.getElem_mem hkl)
   have HR:=zAa (P.zKb P.isR ts k hkl)
   have HW:=zAa (P.zKb P.isW ts k hkl)
   have HF:=zAa (P.zKb P.isF ts k hkl)
   have HO:=zAa ho
   generalize hst:ts[k]=t at *
   have hsa:0<t.stmts.length→∃ b,sa=some ⟨b,0,none⟩∧b<w.heap.size:=fun h0=>by
    rcases ho.2 with ⟨e,h0'⟩ | ⟨b',c',cur,e,hb',hg',_⟩
    ·omega
    ·simp only[Value.slice.injEq] at e
     exact⟨b',e.1,(Array.getElem?_eq_some_iff.1 hg').1⟩
   clear hst c0 c1 c2 ho
   have hws:w.heap.size≤wr.heap.size:=hbel.size
   have HB1:Hid (Below w.heap.size w (wr.alloc (.cells #[.int .i64 t.block,.int .i64 t.line,.slice sa t.stmts.length sc] 93))):=hbel.alloc hws _
   clear hbel
   generalize hR:P.tot P.isR (ts.take k)=R at *
   generalize hW:P.tot P.isW (ts.take k)=W at *
   generalize hF:P.tot P.isF (ts.take k)=F at *
   clear hR hW hF
   go_wp2
   go_loopw [3,4,5,20] (fun a b c j w2=>∃ q:Nat,q≤t.stmts.length∧j=.int .i64 q∧a=.int .i64 (R+P.cnt P.isR (t.stmts.take q))∧b=.int .i64 (W+P.cnt P.isW (t.stmts.take q))∧c=.int .i64 (F+P.cnt P.isF (t.stmts.take q))∧Below w.heap.size w w2) (fun _ _ _ j _=>t.stmts.length-(intOf j).toNat)
   case atStart=>exact⟨0,Nat.zero_le _,rfl,by simp[P.cnt],by simp[P.cnt],by simp[P.cnt],HB1.out⟩
   case round =>
    obtain⟨q,hq,rfl,rfl,rfl,rfl,hbel⟩:=hrel
    have hcR:=P.zJw P.isR (t.stmts.take q)
    have hcW:=P.zJw P.isW (t.stmts.take q)
    have hcF:=P.zJw P.isF (t.stmts.take q)
    have hlq:(t.stmts.take q).length≤q:=List.length_take_le _ _
    by_cases hql:q<t.stmts.length
    ·obtain⟨b,rfl,hblt⟩:=hsa (by omega)
     have hr:=zAa (zAz (zCj HO.out rfl q hql) (hbel.block b hblt))
     have KR:=zAa (P.zKa P.isR t.stmts q hql)
     have KW:=zAa (P.zKa P.isW t.stmts q hql)
     have KF:=zAa (P.zKa P.isF t.stmts q hql)
     generalize hst:t.stmts[q]=st at hr KR KW KF
     clear hst
     have hws2:=hbel.size
     generalize hxR:P.cnt P.isR (t.stmts.take q)=xR at *
     generalize hxW:P.cnt P.isW (t.stmts.take q)=xW at *
     generalize hxF:P.cnt P.isF (t.stmts.take q)=xF at *
     clear hxR hxW hxF
     cases b1:P.reads st.kind<;>cases b2:P.zKg st.kind<;>cases b3:(st.kind==4)
     all_goals
      try cases b4:(st.order==5)
     all_goals
      have e1:P.isR st=P.reads st.kind:=rfl
      have e2:P.isW st=P.zKg st.kind:=rfl
      have e3:P.isF st=(st.kind==4&&st.order==5):=rfl
      have NR:Hid (P.cnt P.isR (t.stmts.take (q+1))=_):=KR.out
      have NW:Hid (P.cnt P.isW (t.stmts.take (q+1))=_):=KW.out
      have NF:Hid (P.cnt P.isF (t.stmts.take (q+1))=_):=KF.out
      rw[e1,b1] at NR
      rw[e2,b2] at NW
      simp only[e3,b3,b4] at NF
      clear e1 e2 e3 KR KW KF
      go_wp2_with (first | (refine zAE (.tmp 22) rfl rfl b (q*11) st rfl hr.out ?_) | (go_at_call 44;refine (zDm _ _).mono ?_;rintro e w' ⟨rfl,rfl⟩) | (go_at_call 45;refine (zFJ _ _).mono ?_;rintro e w' ⟨rfl,rfl⟩))
      go_roundw
      case rel=>exact⟨q+1,by omega,by go_num,by rw[NR.out];simp<;>omega,by rw[NW.out];simp<;>omega,by rw[NF.out];simp<;>omega,hbel.alloc hws2 _⟩
      case measure=>simp[intOf];omega
    ·have hqq:q=t.stmts.length:=by omega
     subst hqq
     have HT:Hid (t.stmts.take t.stmts.length=t.stmts):=List.take_length
     go_wp2
     go_roundw
     case rel=>exact⟨k+1,by omega,by go_num,by rw[HR.out,HT.out],by rw[HW.out,HT.out],by rw[HF.out,HT.out],hbel⟩
     case measure=>simp[intOf];omega
  ·have hkn:k=n:=by omega
   subst hkn
   have HT:Hid (ts.take k=ts):=List.take_of_length_le (by have:=HN.out;omega)
   have HO:Hid (P.over ts=(decide (4<P.tot P.isR (ts.take k))||decide (3<P.tot P.isW (ts.take k))||decide (3<P.tot P.isF (ts.take k)))):=by
    unfold Hid;rw[HT.out];rfl
   generalize P.tot P.isR (ts.take k)=R at *
   generalize P.tot P.isW (ts.take k)=W at *
   generalize P.tot P.isF (ts.take k)=F at *
   go_wp2
   all_goals go_ret
   all_goals rw[HO.out]
   all_goals refine⟨?_,hbel⟩
   all_goals simp[*]
end Go.Proofs.YtkmebkbpfmoeaaaGreat
