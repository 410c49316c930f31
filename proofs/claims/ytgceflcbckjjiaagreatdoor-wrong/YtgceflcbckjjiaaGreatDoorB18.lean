import Derived.Test.YtgceflcbckjjiaaGreatDoorB17
set_option linter.unusedVariables false
set_option linter.unusedSimpArgs false
namespace Go.Proofs.YtgceflcbckjjiaaGreatDoor
open Go Go.RowKit
set_option maxRecDepth 100000
namespace P
def barsOf (b:Int):List Thr→Int
 | []=>0
 | t::r=>if t.block==b then bars t.stmts else barsOf b r
def unevenIn (all:List Thr):List Thr→Int
 | []=>0
 | t::r=>if bars t.stmts != barsOf t.block all||decide (2<bars t.stmts) then t.line else unevenIn all r
theorem barsOf_bd (b:Int) (ts:List Thr):0≤barsOf b ts:=by
 induction ts with
 | nil=>simp[barsOf]
 | cons t r ih=>simp only[barsOf];split;exact (bars_bd _).1;exact ih
end P
theorem thrCells_get (ts:List P.Thr):∀ (vs:List Value),vs.length=ts.length→∀ (k:Nat) (h:k<ts.length),∃ v,vs[k]?=some v∧(thrCells ts vs)[k*3]?=some (.int .i64 ts[k].block)∧(thrCells ts vs)[k*3+1]?=some (.int .i64 ts[k].line)∧(thrCells ts vs)[k*3+2]?=some v:=by
 induction ts with
 | nil=>intro vs _ k h;simp at h
 | cons t r ih =>
  intro vs hl k h
  match vs,hl with
  | v::q,hl =>
   cases k with
   | zero=>exact⟨v,rfl,by simp[thrCells],by simp[thrCells],by simp[thrCells]⟩
   | succ k =>
    obtain⟨u,h1,h2,h3,h4⟩:=ih q (by simpa using hl) k (by simpa using h)
    refine⟨u,by simpa using h1,?_,?_,?_⟩
    ·rw[show (k+1)*3=k*3+3 by omega];simpa [thrCells] using h2
    ·rw[show (k+1)*3+1=k*3+1+3 by omega];simpa [thrCells] using h3
    ·rw[show (k+1)*3+2=k*3+2+3 by omega];simpa [thrCells] using h4
theorem StmtsAt.get {w:World} {B:Nat}:∀ {ts:List P.Thr} {vs:List Value},StmtsAt w B ts vs→∀ (k:Nat) (h:k<ts.length) (v:Value),vs[k]?=some v→w.ownsRow B 96 11 v ts[k].stmts.length (flatStm ts[k].stmts)
 | t::r,u::q,h,0,_,v,hv=>by simp at hv;subst hv;exact h.1
 | t::r,u::q,h,k+1,hk,v,hv=>StmtsAt.get h.2.2 k (by simpa using hk) v (by simpa using hv)
theorem thr_at {w:World} {B bt n cap:Nat} {ts:List P.Thr} (h:ThreadsAt w B (.slice (some ⟨bt,0,none⟩) n cap) ts) (hn:n=ts.length) (k:Nat) (hk:k<ts.length) :
  bt<w.heap.size∧∃ sa sc,w.cell? ⟨bt,k*3,none⟩=some (.int .i64 ts[k].block)∧w.cell? ⟨bt,k*3+1,none⟩=some (.int .i64 ts[k].line)∧w.cell? ⟨bt,k*3+2,none⟩=some (.slice sa ts[k].stmts.length sc)∧w.ownsRow B 96 11 (.slice sa ts[k].stmts.length sc) ts[k].stmts.length (flatStm ts[k].stmts):=by
 obtain⟨vs,h1,h2⟩:=h
 rw[← hn] at h1
 obtain⟨v,e0,e1,e2,e3⟩:=thrCells_get ts vs h2.length k hk
 have ho:=h2.get k hk v e0
 have hv:∃ a c,v=.slice a ts[k].stmts.length c:=by
  rcases ho.2 with ⟨e,h0⟩ | ⟨k',c,cur,e,_⟩
  ·exact⟨none,0,by rw[e,h0]⟩
  ·exact⟨_,c,e⟩
 obtain⟨sa,sc,rfl⟩:=hv
 refine⟨(h1.lt bt rfl).2,sa,sc,?_,?_,?_,ho⟩
 ·rw[h1.cellAt _ (by omega)];exact e1
 ·rw[h1.cellAt _ (by omega)];exact e2
 ·rw[h1.cellAt _ (by omega)];exact e3
set_option maxHeartbeats 1600000 in
theorem barsOf_any (B bt n cap:Nat) (b:Int) (ts:List P.Thr) (w:World) (h:ThreadsAt w B (.slice (some ⟨bt,0,none⟩) n cap) ts) (hn:n=ts.length) (hnb:n<10) (hst:∀ t∈ts,t.stmts.length<10000) :
  Calls Tryz.prog 57 #[.agg #[.slice (some ⟨bt,0,none⟩) n cap],.int .i64 b] w fun e w'=>e=.returned (.int .i64 (P.barsOf b ts))∧Below w.heap.size w w':=by
 have HA:=hide h
 have HN:=hide hn
 have HS:=hide hst
 clear h hn hst
 go_enter Tryz.func57,Tryz.ntmps57
 go_wp2
 go_loopw [10] (fun i wr=>∃ k:Nat,k≤n∧i=.int .i64 k∧Hid (P.barsOf b ts=P.barsOf b (ts.drop k))∧Below w.heap.size w wr) (fun i _=>n-(intOf i).toNat)
 case atStart=>exact⟨0,Nat.zero_le _,rfl,rfl,(Below.refl _ _).alloc (Nat.le_refl _) _⟩
 case round =>
  obtain⟨k,hk,rfl,HB,hbel⟩:=hrel
  by_cases hlt:k<n
  ·have hkl:k<ts.length:=by rw[← HN.out];exact hlt
   obtain⟨hbt,sa,sc,c0,c1,c2,ho⟩:=thr_at HA.out HN.out k hkl
   have d0:=(hbel.cell (p:=⟨bt,k*3,none⟩) hbt).trans c0
   have d1:=(hbel.cell (p:=⟨bt,k*3+1,none⟩) hbt).trans c1
   have d2:=(hbel.cell (p:=⟨bt,k*3+2,none⟩) hbt).trans c2
   have hls:=HS.out ts[k] (List.getElem_mem hkl)
   have HD:=hide (P.drop_cons ts k hkl)
   have ho':=hide (ownsRow_keep ho (fun j hj=>hbel.block j (ho.lt j hj).2))
   generalize hst:ts[k]=t at *
   clear hst c0 c1 c2 ho
   have hws:w.heap.size≤wr.heap.size:=hbel.size
   cases hb:(t.block==b)
   ·have HB':Hid (P.barsOf b ts=P.barsOf b (ts.drop (k+1))):=by
     unfold Hid;rw[HB.out,HD.out,P.barsOf,hb];simp
    go_wp2
    go_roundw
    case rel=>exact⟨k+1,by omega,by go_num,HB',hbel.alloc (by omega) _⟩
    case measure=>simp[intOf];omega
   ·have HB':Hid (P.barsOf b ts=P.bars t.stmts):=by
     unfold Hid;rw[HB.out,HD.out,P.barsOf,hb];simp
    go_wp2_with (first | (go_at_call 56;refine (barriers_any B t.stmts.length _ _ _ t.stmts _ (by exact ho'.out.alloc _) rfl hls).mono ?_;rintro e w1 ⟨rfl,hb1⟩))
    go_ret
    rw[HB'.out]
    exact⟨rfl,(hbel.alloc (by omega) _).trans (hb1.mono (by simp;omega))⟩
  ·have HB':Hid (P.barsOf b ts=0):=by
    unfold Hid;rw[HB.out,List.drop_eq_nil_of_le (by have:=HN.out;omega)];rfl
   go_wp2
   go_ret
   rw[HB'.out]
   exact⟨rfl,hbel⟩
set_option maxHeartbeats 1600000 in
theorem uneven_any (B bt n cap:Nat) (ts:List P.Thr) (w:World) (h:ThreadsAt w B (.slice (some ⟨bt,0,none⟩) n cap) ts) (hn:n=ts.length) (hnb:n<10) (hst:∀ t∈ts,t.stmts.length<10000) :
  Calls Tryz.prog 32 #[.agg #[.slice (some ⟨bt,0,none⟩) n cap]] w fun e w'=>e=.returned (.int .i64 (P.unevenIn ts ts))∧Below w.heap.size w w':=by
 have HA:=hide h
 have HN:=hide hn
 have HS:=hide hst
 clear h hn hst
 go_enter Tryz.func32,Tryz.ntmps32
 go_wp2
 go_loopw [10] (fun i wr=>∃ k:Nat,k≤n∧i=.int .i64 k∧Hid (P.unevenIn ts ts=P.unevenIn ts (ts.drop k))∧Hid (wr.heap[w.heap.size]?=some (.cells #[.slice (some ⟨bt,0,none⟩) n cap] 48 (0,0)))∧Below w.heap.size w wr) (fun i _=>n-(intOf i).toNat)
 case atStart=>exact⟨0,Nat.zero_le _,rfl,rfl,heap_alloc_new w _,(Below.refl _ _).alloc (Nat.le_refl _) _⟩
 case round =>
  obtain⟨k,hk,rfl,HB,HP,hbel⟩:=hrel
  by_cases hlt:k<n
  ·have hkl:k<ts.length:=by rw[← HN.out];exact hlt
   obtain⟨hbt,sa,sc,c0,c1,c2,ho⟩:=thr_at HA.out HN.out k hkl
   have d0:=(hbel.cell (p:=⟨bt,k*3,none⟩) hbt).trans c0
   have d1:=(hbel.cell (p:=⟨bt,k*3+1,none⟩) hbt).trans c1
   have d2:=(hbel.cell (p:=⟨bt,k*3+2,none⟩) hbt).trans c2
   have hls:=HS.out ts[k] (List.getElem_mem hkl)
   have HD:=hide (P.drop_cons ts k hkl)
   have ho':=hide (ownsRow_keep ho (fun j hj=>hbel.block j (ho.lt j hj).2))
   generalize hst:ts[k]=t at *
   clear hst c0 c1 c2 ho
   have hws:w.heap.size≤wr.heap.size:=hbel.size
   obtain⟨p0,_,p2⟩:=one_cell HP.out
   have hbd:=P.bars_bd t.stmts
   have hbo:=P.barsOf_bd t.block ts
   have TH:Hid (∀ w1:World,Below (wr.alloc (.cells #[.int .i64 t.block,.int .i64 t.line,.slice sa t.stmts.length sc] 88)).heap.size (wr.alloc (.cells #[.int .i64 t.block,.int .i64 t.line,.slice sa t.stmts.length sc] 88)) w1→ThreadsAt w1 B (.slice (some ⟨bt,0,none⟩) n cap) ts):=fun w1 hb1=>by
    refine HA.out.keep (fun j hj=>?_)
    rw[hb1.block j (by simp;omega),Below.heap_alloc _ _ _ (by omega),hbel.block j hj]
   cases hu:(P.bars t.stmts != P.barsOf t.block ts||decide (2<P.bars t.stmts))
   ·have HB':Hid (P.unevenIn ts ts=P.unevenIn ts (ts.drop (k+1))):=by
     unfold Hid;rw[HB.out,HD.out,P.unevenIn,hu];simp
    obtain⟨hu1,hu2⟩:(P.bars t.stmts != P.barsOf t.block ts)=false∧decide (2<P.bars t.stmts)=false:=by simpa using hu
    go_wp2_with (first | (go_at_call 56;refine (barriers_any B t.stmts.length _ _ _ t.stmts _ (by exact ho'.out.alloc _) rfl hls).mono ?_;rintro e w1 ⟨rfl,hb1⟩;have s1:wr.heap.size+1≤w1.heap.size:=(by have:=hb1.size;simp at this;omega);have y0:=hb1.cell (p:=⟨wr.heap.size,0,none⟩) (by simp);have y1:=hb1.cell (p:=⟨wr.heap.size,1,none⟩) (by simp);have y2:=hb1.cell (p:=⟨w.heap.size,0,none⟩) (by simp;omega)) | (go_at_call 57;refine (barsOf_any B bt n cap _ ts _ (by exact TH.out w1 hb1) HN.out hnb HS.out).mono ?_;rintro e w2 ⟨rfl,hb2⟩;have x1:=hb2.cell (p:=⟨wr.heap.size,1,none⟩) (show wr.heap.size<w1.heap.size by omega)))
    go_roundw
    case rel=>exact⟨k+1,by omega,by go_num,HB',by unfold Hid;rw[hb2.block _ (by omega),hb1.block _ (by simp;omega),Below.heap_alloc _ _ _ p2];exact HP.out,(hbel.alloc (by omega) _).trans ((hb1.mono (by simp;omega)).trans (hb2.mono (by omega)))⟩
    case measure=>simp[intOf];omega
   ·have HB':Hid (P.unevenIn ts ts=t.line):=by
     unfold Hid;rw[HB.out,HD.out,P.unevenIn,hu];simp
    cases hv:(P.bars t.stmts != P.barsOf t.block ts)
    ·have hv2:2<P.bars t.stmts:=by simpa [hv] using hu
     clear hu
     go_wp2_with (first | (go_at_call 56;refine (barriers_any B t.stmts.length _ _ _ t.stmts _ (by exact ho'.out.alloc _) rfl hls).mono ?_;rintro e w1 ⟨rfl,hb1⟩;have s1:wr.heap.size+1≤w1.heap.size:=(by have:=hb1.size;simp at this;omega);have y0:=hb1.cell (p:=⟨wr.heap.size,0,none⟩) (by simp);have y1:=hb1.cell (p:=⟨wr.heap.size,1,none⟩) (by simp);have y2:=hb1.cell (p:=⟨w.heap.size,0,none⟩) (by simp;omega)) | (go_at_call 57;refine (barsOf_any B bt n cap _ ts _ (by exact TH.out w1 hb1) HN.out hnb HS.out).mono ?_;rintro e w2 ⟨rfl,hb2⟩;have x1:=hb2.cell (p:=⟨wr.heap.size,1,none⟩) (show wr.heap.size<w1.heap.size by omega)))
     go_ret
     rw[HB'.out]
     exact⟨rfl,(hbel.alloc (by omega) _).trans ((hb1.mono (by simp;omega)).trans (hb2.mono (by omega)))⟩
    ·clear hu
     go_wp2_with (first | (go_at_call 56;refine (barriers_any B t.stmts.length _ _ _ t.stmts _ (by exact ho'.out.alloc _) rfl hls).mono ?_;rintro e w1 ⟨rfl,hb1⟩;have s1:wr.heap.size+1≤w1.heap.size:=(by have:=hb1.size;simp at this;omega);have y0:=hb1.cell (p:=⟨wr.heap.size,0,none⟩) (by simp);have y1:=hb1.cell (p:=⟨wr.heap.size,1,none⟩) (by simp);have y2:=hb1.cell (p:=⟨w.heap.size,0,none⟩) (by simp;omega)) | (go_at_call 57;refine (barsOf_any B bt n cap _ ts _ (by exact TH.out w1 hb1) HN.out hnb HS.out).mono ?_;rintro e w2 ⟨rfl,hb2⟩;have x1:=hb2.cell (p:=⟨wr.heap.size,1,none⟩) (show wr.heap.size<w1.heap.size by omega)))
     go_ret
     rw[HB'.out]
     exact⟨rfl,(hbel.alloc (by omega) _).trans ((hb1.mono (by simp;omega)).trans (hb2.mono (by omega)))⟩
  ·have HB':Hid (P.unevenIn ts ts=0):=by
    unfold Hid;rw[HB.out,List.drop_eq_nil_of_le (by have:=HN.out;omega)];rfl
   go_wp2
   go_ret
   rw[HB'.out]
   exact⟨rfl,hbel⟩
end Go.Proofs.YtgceflcbckjjiaaGreatDoor
