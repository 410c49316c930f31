import Derived.Test.YtgceflcbckjjiaaGreatDoorB10
import Derived.Test.YtgceflcbckjjiaaGreatDoorB04
set_option linter.unusedVariables false
set_option linter.unusedSimpArgs false
namespace Go.Proofs.YtgceflcbckjjiaaGreatDoor
open Go Go.RowKit
set_option maxRecDepth 100000
set_option maxHeartbeats 800000 in
theorem condition_any (b off n cap:Nat) (ws:List ByteArray) (w:World) (hw:WordsAt w b off ws) (hn:ws.length=n) :
  Calls Tryz.prog 149 #[.slice (some ⟨b,off,none⟩) n cap] w fun e w'=>e=.returned (stmVal (P.condition (ws.map ByteArray.toList)))∧Below w.heap.size w w':=by
 by_cases h2:n=2
 ·subst h2
  match ws,hw,hn with
  | [a,c],hw,hn =>
  clear hn
  obtain⟨hd,hblt,hw1⟩:=hw.head
  obtain⟨hd1,_,_⟩:=hw1.head
  go_enter Tryz.func149,Tryz.ntmps149
  go_wp2_with (first | (go_at_call 170;refine (operand_any _ _).mono ?_;rintro e w1 ⟨rfl,hb⟩;have hr:=(StmAt.new w P.Stm.zero).below hb) | (refine wpList_store_stm (.tmp 2) (.tmp 18) rfl rfl w.heap.size _ { P.Stm.zero with kind:=10,a:=(P.operand c.toList).1 } rfl rfl (by exact hr.alloc _) ?_;intro w2 hs2 hgr2))
  refine ret_stm (p:=2) (u:=3) w.heap.size { P.Stm.zero with kind:=10,a:=(P.operand c.toList).1 } (P.operand c.toList).2 (by kernel_rfl) rfl rfl hs2 rfl ⟨rfl,?_⟩
  exact below_of_new ((((Below.refl _ _).alloc (Nat.le_refl _) _).trans (hb.mono (by simp))).alloc (by have:=hb.size;simp at this;omega) _) hgr2 (Nat.le_refl _)
 ·have hx:((n:Int) != 2)=true:=by rw[bne_iff_ne];omega
  have e:P.condition (ws.map ByteArray.toList)=(P.Stm.zero,false):=by
   match ws,hn with
   | [],_=>rfl
   | [_],_=>rfl
   | [_,_],hn=>simp at hn;omega
   | _::_::_::_,_=>rfl
  have HE:=hide e
  clear e
  go_enter Tryz.func149,Tryz.ntmps149
  go_wp2_with (first | (refine wpList_store_stm (.tmp 2) (.tmp 9) rfl rfl w.heap.size _ P.Stm.zero rfl rfl (by exact StmAt.new _ P.Stm.zero) ?_;intro w2 hs2 hgr2))
  rw[unhide HE]
  refine ret_stm (p:=2) (u:=3) w.heap.size P.Stm.zero false (by kernel_rfl) rfl rfl hs2 rfl ⟨rfl,?_⟩
  exact below_of_new ((Below.refl _ _).alloc (Nat.le_refl _) _) hgr2 (Nat.le_refl _)
set_option maxHeartbeats 800000 in
theorem fence_any (b off n cap:Nat) (c:ByteArray) (r:List ByteArray) (w:World) (hw:WordsAt w b off (c::r)) (hn:r.length=n-1) (h1:1≤n) (hc:n≤cap) :
  Calls Tryz.prog 148 #[.slice (some ⟨b,off,none⟩) n cap] w fun e w'=>e=.returned (stmVal (P.fence ((c::r).map ByteArray.toList)))∧Below w.heap.size w w':=by
 obtain⟨hd,hblt,hw1⟩:=hw.head
 have hS:∀ (w:World),StmAt ((w.alloc (.cells (stmCells P.Stm.zero) 96)).alloc (.cells (stmCells { P.Stm.zero with kind:=4 }) 96)) (w.heap.size+1) { P.Stm.zero with kind:=4 }:=fun w=>by
  have:=StmAt.new (w.alloc (.cells (stmCells P.Stm.zero) 96)) { P.Stm.zero with kind:=4 }
  simpa using this
 have main:∀ (w1:World),StmAt w1 (w.heap.size+1) (P.ordering { P.Stm.zero with kind:=4 } (r.map ByteArray.toList)).1→((w.alloc (.cells (stmCells P.Stm.zero) 96)).alloc (.cells (stmCells { P.Stm.zero with kind:=4 }) 96)).grownBy w1 (some (w.heap.size+1)) →
   StmAt w1 w.heap.size P.Stm.zero∧Below w.heap.size w w1:=fun w1 _ hgr=>by
  refine⟨((StmAt.new w P.Stm.zero).alloc _).of_block (hgr.block w.heap.size (by simp;omega) (by simp)),?_⟩
  exact below_of_new (((Below.refl _ _).alloc (Nat.le_refl _) _).alloc (by simp) _) hgr (by simp)
 by_cases hcap:cap=1
 ·have hr:r=[]:=List.eq_nil_of_length_eq_zero (by omega)
  subst hr
  go_enter Tryz.func148,Tryz.ntmps148
  go_wp2_with fail
  refine (ordering_any _ _ _ _ _ { P.Stm.zero with kind:=4 } [] _ (by exact hS w) (WordsAt.nil _ _ _) (by simp;omega) (by omega) (by omega)).mono ?_
  rintro e w1 ⟨rfl,hs1,hgr⟩
  obtain⟨hr,hb⟩:=main w1 hs1 hgr
  clear hgr main hS
  go_wp2_with (first | (refine wpList_load_stm (.tmp 4) rfl rfl (w.heap.size+1) _ rfl hs1 ?_) | (refine wpList_store_stm (.tmp 2) (.tmp 14) rfl rfl w.heap.size _ _ rfl rfl (by exact hr) ?_;intro w2 hs2 hgr2))
  refine ret_stm (p:=2) (u:=3) w.heap.size _ _ (by kernel_rfl) rfl rfl hs2 rfl ⟨rfl,below_of_new hb hgr2 (Nat.le_refl _)⟩
 ·go_enter Tryz.func148,Tryz.ntmps148
  go_wp2_with fail
  refine (ordering_any _ _ _ _ _ { P.Stm.zero with kind:=4 } r _ (by exact hS w) (by exact (hw1.alloc _).alloc _) hn (by omega) (by omega)).mono ?_
  rintro e w1 ⟨rfl,hs1,hgr⟩
  obtain⟨hr,hb⟩:=main w1 hs1 hgr
  clear hgr main hS
  go_wp2_with (first | (refine wpList_load_stm (.tmp 4) rfl rfl (w.heap.size+1) _ rfl hs1 ?_) | (refine wpList_store_stm (.tmp 2) (.tmp 14) rfl rfl w.heap.size _ _ rfl rfl (by exact hr) ?_;intro w2 hs2 hgr2))
  refine ret_stm (p:=2) (u:=3) w.heap.size _ _ (by kernel_rfl) rfl rfl hs2 rfl ⟨rfl,below_of_new hb hgr2 (Nat.le_refl _)⟩
def twoNew (w:World) (t:P.Stm):World:=(w.alloc (.cells (stmCells P.Stm.zero) 96)).alloc (.cells (stmCells t) 96)
theorem twoNew_at (w:World) (t:P.Stm):StmAt (twoNew w t) (w.heap.size+1) t:=by
 have:=StmAt.new (w.alloc (.cells (stmCells P.Stm.zero) 96)) t
 simpa [twoNew] using this
theorem twoNew_below (w:World) (t:P.Stm):Below w.heap.size w (twoNew w t):=(((Below.refl _ _).alloc (Nat.le_refl _) _).alloc (by simp) _)
theorem twoNew_kept {w w1:World} {t:P.Stm} (hgr:(twoNew w t).grownBy w1 (some (w.heap.size+1))):StmAt w1 w.heap.size P.Stm.zero∧Below w.heap.size w w1:=by
 refine⟨((StmAt.new w P.Stm.zero).alloc _).of_block (hgr.block w.heap.size (by simp[twoNew];omega) (by simp)),?_⟩
 exact below_of_new (twoNew_below w t) hgr (by omega)
theorem WordsAt.twoNew {w:World} {b off:Nat} {ws:List ByteArray} (h:WordsAt w b off ws) (t:P.Stm):WordsAt (twoNew w t) b off ws:=h.below (twoNew_below w t)
theorem three_of {α:Type} (l:List α) (h:3≤l.length):∃ a b c r,l=a::b::c::r:=by
 match l,h with
 | a::b::c::r,_=>exact⟨a,b,c,r,rfl⟩
set_option maxHeartbeats 1600000 in
theorem store_any (b off n cap:Nat) (ws:List ByteArray) (w:World) (hw:WordsAt w b off ws) (hn:ws.length=n) (hc:n≤cap) (hblt:b<w.heap.size) :
  Calls Tryz.prog 147 #[.slice (some ⟨b,off,none⟩) n cap] w fun e w'=>e=.returned (stmVal (P.store (ws.map ByteArray.toList)))∧Below w.heap.size w w':=by
 by_cases h3:n<3
 ·have e:P.store (ws.map ByteArray.toList)=(P.Stm.zero,false):=by
   match ws,hn with
   | [],_=>rfl
   | [_],_=>rfl
   | [_,_],_=>rfl
   | _::_::_::_,hn=>simp at hn;omega
  have HE:=hide e
  clear e
  go_enter Tryz.func147,Tryz.ntmps147
  go_wp2_with (first | (refine wpList_store_stm (.tmp 2) (.tmp 9) rfl rfl w.heap.size _ P.Stm.zero rfl rfl (by exact StmAt.new _ P.Stm.zero) ?_;intro w2 hs2 hgr2))
  rw[unhide HE]
  refine ret_stm (p:=2) (u:=3) w.heap.size P.Stm.zero false (by kernel_rfl) rfl rfl hs2 rfl ⟨rfl,?_⟩
  exact below_of_new ((Below.refl _ _).alloc (Nat.le_refl _) _) hgr2 (Nat.le_refl _)
 obtain⟨q,p,v,r,rfl⟩:=three_of ws (by omega)
 obtain⟨_,_,hw1⟩:=hw.head
 obtain⟨hd1,_,hw2⟩:=hw1.head
 obtain⟨hd2,_,hw3⟩:=hw2.head
 have hn2:r.length=n-3:=by simp at hn;omega
 have hi1:(1:Int)<(n:Int):=by omega
 have hi2:(2:Int)<(n:Int):=by omega
 have hn3:3≤n:=by omega
 clear hn h3 hw hw1 hw2
 have e1:=((twoNew_below w { P.Stm.zero with kind:=1 }).cell (p:=⟨b,off+1,none⟩) hblt).trans hd1
 have e2:=((twoNew_below w { P.Stm.zero with kind:=1 }).cell (p:=⟨b,off+2,none⟩) hblt).trans hd2
 have E1:=hide e1
 have E2:=hide e2
 clear e1 e2
 cases ht:(P.target { P.Stm.zero with kind:=1 } p.toList v.toList).2
 ·go_enter Tryz.func147,Tryz.ntmps147
  go_wp2_with fail
  go_region_held3 (fun w'=>w'.cell? ⟨b,off+1,none⟩=some (.string p)∧w'.cell? ⟨b,off+2,none⟩=some (.string v)) (first | exact⟨unhide E1,unhide E2⟩ | exact⟨k1,k2⟩) (first | (go_at_call 168;refine (target_any (w.heap.size+1) { P.Stm.zero with kind:=1 } _ _ _ ?_).mono ?_;(exact (twoNew_at w { P.Stm.zero with kind:=1 }).drew);rintro e w1 ⟨rfl,hs1,hgr⟩;have k1:=hgr.cell (a:=⟨b,off+1,none⟩) (v:=.string p) (unhide E1) (by simp;omega);have k2:=hgr.cell (a:=⟨b,off+2,none⟩) (v:=.string v) (unhide E2) (by simp;omega)))
  obtain⟨hr,hb⟩:=twoNew_kept (w:=w) (t:={ P.Stm.zero with kind:=1 }) (w1:=w1) (undrew hgr)
  clear hgr k1 k2 hs1 hd1 hd2 E1 E2
  go_wp2_with (first | (refine wpList_store_stm (.tmp 2) (.tmp 20) rfl rfl w.heap.size _ P.Stm.zero rfl rfl (by exact hr) ?_;intro w2 hs2 hgr2))
  have e:P.store ((q::p::v::r).map ByteArray.toList)=(P.Stm.zero,false):=by simp[P.store,ht]
  rw[e]
  refine ret_stm (p:=2) (u:=3) w.heap.size P.Stm.zero false (by kernel_rfl) rfl rfl hs2 rfl ⟨rfl,below_of_new hb hgr2 (Nat.le_refl _)⟩
 by_cases hcap:cap=3
 ·have hr0:r=[]:=List.eq_nil_of_length_eq_zero (by omega)
  subst hr0
  go_enter Tryz.func147,Tryz.ntmps147
  go_wp2_with fail
  go_region_held3 (fun w'=>w'.cell? ⟨b,off+1,none⟩=some (.string p)∧w'.cell? ⟨b,off+2,none⟩=some (.string v)) (first | exact⟨unhide E1,unhide E2⟩ | exact⟨k1,k2⟩) (first | (go_at_call 168;refine (target_any (w.heap.size+1) { P.Stm.zero with kind:=1 } _ _ _ ?_).mono ?_;(exact (twoNew_at w { P.Stm.zero with kind:=1 }).drew);rintro e w1 ⟨rfl,hs1,hgr⟩;have k1:=hgr.cell (a:=⟨b,off+1,none⟩) (v:=.string p) (unhide E1) (by simp;omega);have k2:=hgr.cell (a:=⟨b,off+2,none⟩) (v:=.string v) (unhide E2) (by simp;omega)))
  go_wp2_with (first | (go_at_call 169;refine (ordering_any _ _ _ _ _ _ [] _ hs1 (WordsAt.nil _ _ _) (by simp;omega) (by omega) (by omega)).mono ?_;rintro e w2 ⟨rfl,hsB,hgrB⟩;obtain⟨hr,hb⟩:=twoNew_kept (w:=w) (t:={ P.Stm.zero with kind:=1 }) (w1:=w2) (undrew (grown_trans hgr hgrB))) | (refine wpList_load_stm (.tmp 4) rfl rfl (w.heap.size+1) _ rfl hsB ?_) | (refine wpList_store_stm (.tmp 2) (.tmp 24) rfl rfl w.heap.size _ _ rfl rfl (by exact hr) ?_;intro w3 hs3 hgr3))
  have e:P.store ((q::p::v::[]).map ByteArray.toList)=P.ordering (P.target { P.Stm.zero with kind:=1 } p.toList v.toList).1 (([]:List ByteArray).map ByteArray.toList):=by simp[P.store,ht]
  rw[e]
  refine ret_stm (p:=2) (u:=3) w.heap.size _ _ (by kernel_rfl) rfl rfl hs3 rfl ⟨rfl,below_of_new hb hgr3 (Nat.le_refl _)⟩
 ·go_enter Tryz.func147,Tryz.ntmps147
  go_wp2_with fail
  go_region_held3 (fun w'=>w'.cell? ⟨b,off+1,none⟩=some (.string p)∧w'.cell? ⟨b,off+2,none⟩=some (.string v)) (first | exact⟨unhide E1,unhide E2⟩ | exact⟨k1,k2⟩) (first | (go_at_call 168;refine (target_any (w.heap.size+1) { P.Stm.zero with kind:=1 } _ _ _ ?_).mono ?_;(exact (twoNew_at w { P.Stm.zero with kind:=1 }).drew);rintro e w1 ⟨rfl,hs1,hgr⟩;have k1:=hgr.cell (a:=⟨b,off+1,none⟩) (v:=.string p) (unhide E1) (by simp;omega);have k2:=hgr.cell (a:=⟨b,off+2,none⟩) (v:=.string v) (unhide E2) (by simp;omega)))
  go_wp2_with (first | (go_at_call 169;refine (ordering_any _ _ _ _ _ _ r _ hs1 (by exact WordsAt.grown (WordsAt.drew (WordsAt.twoNew (off:=off+3) hw3 { P.Stm.zero with kind:=1 })) hgr (by omega)) hn2 (by omega) (by omega)).mono ?_;rintro e w2 ⟨rfl,hsB,hgrB⟩;obtain⟨hr,hb⟩:=twoNew_kept (w:=w) (t:={ P.Stm.zero with kind:=1 }) (w1:=w2) (undrew (grown_trans hgr hgrB))) | (refine wpList_load_stm (.tmp 4) rfl rfl (w.heap.size+1) _ rfl hsB ?_) | (refine wpList_store_stm (.tmp 2) (.tmp 24) rfl rfl w.heap.size _ _ rfl rfl (by exact hr) ?_;intro w3 hs3 hgr3))
  have e:P.store ((q::p::v::r).map ByteArray.toList)=P.ordering (P.target { P.Stm.zero with kind:=1 } p.toList v.toList).1 (r.map ByteArray.toList):=by simp[P.store,ht]
  rw[e]
  refine ret_stm (p:=2) (u:=3) w.heap.size _ _ (by kernel_rfl) rfl rfl hs3 rfl ⟨rfl,below_of_new hb hgr3 (Nat.le_refl _)⟩
end Go.Proofs.YtgceflcbckjjiaaGreatDoor
