import Derived.Deep.RegionHeld3
import Derived.Test.YtpkjmdcabdplfaaGreatDoorB21
set_option linter.unusedVariables false
set_option linter.unusedSimpArgs false
namespace Go.Proofs.YtpkjmdcabdplfaaGreatDoor
open Go Go.RowKit
set_option maxRecDepth 100000
set_option maxHeartbeats 800000 in
theorem step_any (g b off n cap:Nat) (k:Int) (st:P.Stm) (ws:List ByteArray) (w:World) (hg:StmAt w g st) (hw:WordsAt w b off ws) (hn:ws.length=n) (hc:n≤cap) (hbg:b≠g) :
  Calls Tryz.prog 96 #[.pointer (some ⟨g,0,none⟩),.int .i64 k,.slice (some ⟨b,off,none⟩) n cap] w fun e w'=>e=.returned (.bool (P.step st k (ws.map ByteArray.toList)).2)∧StmAt w' g (P.step st k (ws.map ByteArray.toList)).1∧w.grownBy w' (some g):=by
 obtain⟨hlt,hfr,hc0,hc1,hc2,hc3,hc4,hc5,hc6,hc7,hc8,hc9,hc10⟩:=hg.facts
 match ws,hw,hn with
 | [],_,hn =>
  simp at hn;subst hn
  go_enter Tryz.func96,Tryz.ntmps96
  go_wp2
  go_ret
  exact⟨rfl,hg,grown_refl _ _⟩
 | [_],_,hn =>
  simp at hn;subst hn
  go_enter Tryz.func96,Tryz.ntmps96
  go_wp2
  go_ret
  exact⟨rfl,hg,grown_refl _ _⟩
 | p::v::r,hw,hn =>
  obtain⟨hd,hblt,hw'⟩:=hw.head
  obtain⟨hd2,_,hw2⟩:=hw'.head
  have hn1:2≤n:=by simp at hn;omega
  have hn2:r.length=n-2:=by simp at hn;omega
  clear hn hw hw'
  have hi0:0<n:=by omega
  have hi1:(1:Int)<(n:Int):=by omega
  cases ht:(P.target { st with kind:=k } p.toList v.toList).2
  ·have HL:=hide (P.step_no st k p.toList v.toList (r.map ByteArray.toList) ht)
   go_enter Tryz.func96,Tryz.ntmps96
   go_wp2_with fail
   go_region_held3 (fun w'=>w'.cell? ⟨b,off,none⟩=some (.string p)∧w'.cell? ⟨b,off+1,none⟩=some (.string v)) (first | exact⟨(cell_set_ne hbg).trans hd,(cell_set_ne hbg).trans hd2⟩ | exact⟨k1,k2⟩) (first | (go_at_call 91;refine (target_any g { st with kind:=k } _ _ _ ?_).mono ?_;(exact (hg.setKind _).drew);rintro e w1 ⟨rfl,hs1,hgr⟩;have k1:=hgr.cell (a:=⟨b,off,none⟩) (v:=.string p) ((cell_set_ne hbg).trans hd) (by simpa using hbg);have k2:=hgr.cell (a:=⟨b,off+1,none⟩) (v:=.string v) ((cell_set_ne hbg).trans hd2) (by simpa using hbg)))
   go_wp2
   go_ret
   simp only[List.map_cons,unhide HL]
   exact⟨rfl,hs1,grown_trans (grown_drew (grown_setCell (grown_refl _ _) _ _)) hgr⟩
  have HL:=hide (P.step_yes st k p.toList v.toList (r.map ByteArray.toList) ht)
  by_cases hcap:cap=2
  ·have hr:r=[]:=List.eq_nil_of_length_eq_zero (by omega)
   subst hr
   go_enter Tryz.func96,Tryz.ntmps96
   go_wp2_with fail
   go_region_held3 (fun w'=>w'.cell? ⟨b,off,none⟩=some (.string p)∧w'.cell? ⟨b,off+1,none⟩=some (.string v)) (first | exact⟨(cell_set_ne hbg).trans hd,(cell_set_ne hbg).trans hd2⟩ | exact⟨k1,k2⟩) (first | (go_at_call 91;refine (target_any g { st with kind:=k } _ _ _ ?_).mono ?_;(exact (hg.setKind _).drew);rintro e w1 ⟨rfl,hs1,hgr⟩;have k1:=hgr.cell (a:=⟨b,off,none⟩) (v:=.string p) ((cell_set_ne hbg).trans hd) (by simpa using hbg);have k2:=hgr.cell (a:=⟨b,off+1,none⟩) (v:=.string v) ((cell_set_ne hbg).trans hd2) (by simpa using hbg)))
   go_wp2_with (first | (go_at_call 92;refine (ordering_any _ _ _ _ _ _ [] _ hs1 (WordsAt.nil _ _ _) (by simp;omega) (by omega) hbg).mono ?_;rintro e w2 ⟨rfl,hs2,hgr2⟩))
   go_ret
   simp only[List.map_cons,unhide HL]
   exact⟨rfl,hs2,grown_trans (grown_trans (grown_drew (grown_setCell (grown_refl _ _) _ _)) hgr) hgr2⟩
  ·go_enter Tryz.func96,Tryz.ntmps96
   go_wp2_with fail
   go_region_held3 (fun w'=>w'.cell? ⟨b,off,none⟩=some (.string p)∧w'.cell? ⟨b,off+1,none⟩=some (.string v)) (first | exact⟨(cell_set_ne hbg).trans hd,(cell_set_ne hbg).trans hd2⟩ | exact⟨k1,k2⟩) (first | (go_at_call 91;refine (target_any g { st with kind:=k } _ _ _ ?_).mono ?_;(exact (hg.setKind _).drew);rintro e w1 ⟨rfl,hs1,hgr⟩;have k1:=hgr.cell (a:=⟨b,off,none⟩) (v:=.string p) ((cell_set_ne hbg).trans hd) (by simpa using hbg);have k2:=hgr.cell (a:=⟨b,off+1,none⟩) (v:=.string v) ((cell_set_ne hbg).trans hd2) (by simpa using hbg)))
   go_wp2_with (first | (go_at_call 92;refine (ordering_any _ _ _ _ _ _ r _ hs1 (by exact ((hw2.set hbg _ _).drew).grown hgr hbg) hn2 (by omega) hbg).mono ?_;rintro e w2 ⟨rfl,hs2,hgr2⟩))
   go_ret
   simp only[List.map_cons,unhide HL]
   exact⟨rfl,hs2,grown_trans (grown_trans (grown_drew (grown_setCell (grown_refl _ _) _ _)) hgr) hgr2⟩
set_option maxHeartbeats 800000 in
theorem sum_any (g b off n cap:Nat) (st:P.Stm) (ws:List ByteArray) (w:World) (hg:StmAt w g st) (hw:WordsAt w b off ws) (hn:ws.length=n) (hbg:b≠g) :
  Calls Tryz.prog 97 #[.pointer (some ⟨g,0,none⟩),.slice (some ⟨b,off,none⟩) n cap] w fun e w'=>e=.returned (.bool (P.sum st (ws.map ByteArray.toList)).2)∧StmAt w' g (P.sum st (ws.map ByteArray.toList)).1∧w.grownBy w' (some g):=by
 have hfr:=hg.free
 by_cases h1:n=1
 ·subst h1
  match ws,hw,hn with
  | [a],hw,hn =>
  clear hn
  obtain⟨hd,hblt,_⟩:=hw.head
  cases ha:(P.operand a.toList).2
  ·have HL:=hide (P.sum_no st a.toList [] ha)
   go_enter Tryz.func97,Tryz.ntmps97
   go_wp2_with (first | (go_at_call 93;refine (operand_any _ _).mono ?_;rintro e w1 ⟨rfl,hb⟩))
   go_ret
   simp only[List.map_cons,List.map_nil,unhide HL]
   exact⟨rfl,(hg.below hb).alloc _,grown_alloc (grown_of_below hb _) _⟩
  ·have HL:=hide (P.sum_one st a.toList ha)
   go_enter Tryz.func97,Tryz.ntmps97
   go_wp2_with (first | (go_at_call 93;refine (operand_any _ _).mono ?_;rintro e w1 ⟨rfl,hb⟩;have hg1:=hg.below hb;obtain⟨hlt,hfr,hc0,hc1,hc2,hc3,hc4,hc5,hc6,hc7,hc8,hc9,hc10⟩:=hg1.facts))
   go_ret
   simp only[List.map_cons,List.map_nil,unhide HL]
   exact⟨rfl,((hg1.setKind _).setA _).alloc _,grown_alloc (grown_setCell (grown_setCell (grown_setCell (grown_of_below hb _) _ _) _ _) _ _) _⟩
 by_cases h3:n=3
 ·subst h3
  match ws,hw,hn with
  | [a,s,c],hw,hn =>
  clear hn
  obtain⟨hd,hblt,hw1⟩:=hw.head
  obtain⟨hd1,_,hw2⟩:=hw1.head
  obtain⟨hd2,_,_⟩:=hw2.head
  cases ha:(P.operand a.toList).2
  ·have HL:=hide (P.sum_no st a.toList [s.toList,c.toList] ha)
   go_enter Tryz.func97,Tryz.ntmps97
   go_wp2_with (first | (go_at_call 93;refine (operand_any _ _).mono ?_;rintro e w1 ⟨rfl,hb⟩))
   go_ret
   simp only[List.map_cons,List.map_nil,unhide HL]
   exact⟨rfl,(hg.below hb).alloc _,grown_alloc (grown_of_below hb _) _⟩
  cases hs:(P.sign s.toList).2
  ·have HL:=hide (P.sum_sign st a.toList s.toList c.toList ha hs)
   go_enter Tryz.func97,Tryz.ntmps97
   go_wp2_with (first | (go_at_call_of 93 (Value.string a);refine (operand_any _ _).mono ?_;rintro e w1 ⟨rfl,hb⟩;have hg1:=hg.below hb;obtain⟨hlt,hfr,hc0,hc1,hc2,hc3,hc4,hc5,hc6,hc7,hc8,hc9,hc10⟩:=hg1.facts;have hb1:b<w1.heap.size:=Nat.lt_of_lt_of_le hblt hb.size;have e1:=(hb.cell (p:=⟨b,off+1,none⟩) hblt).trans hd1;have e2:=(hb.cell (p:=⟨b,off+1+1,none⟩) hblt).trans hd2) | (go_at_call 106;refine (sign_any _ _).mono ?_;rintro e w2 ⟨rfl,rfl⟩))
   go_ret
   simp only[List.map_cons,List.map_nil,unhide HL]
   exact⟨rfl,((hg1.setKind _).setA _).alloc _,grown_alloc (grown_setCell (grown_setCell (grown_setCell (grown_of_below hb _) _ _) _ _) _ _) _⟩
  ·have HL:=hide (P.sum_all st a.toList s.toList c.toList ha hs)
   go_enter Tryz.func97,Tryz.ntmps97
   go_wp2_with (first | (go_at_call_of 93 (Value.string a);refine (operand_any _ _).mono ?_;rintro e w1 ⟨rfl,hb⟩;have hg1:=hg.below hb;obtain⟨hlt,hfr,hc0,hc1,hc2,hc3,hc4,hc5,hc6,hc7,hc8,hc9,hc10⟩:=hg1.facts;have hb1:b<w1.heap.size:=Nat.lt_of_lt_of_le hblt hb.size;have e1:=(hb.cell (p:=⟨b,off+1,none⟩) hblt).trans hd1;have e2:=(hb.cell (p:=⟨b,off+1+1,none⟩) hblt).trans hd2) | (go_at_call 106;refine (sign_any _ _).mono ?_;rintro e w2 ⟨rfl,rfl⟩))
   have hgm:=((hg1.setKind 6).setA (P.operand a.toList).1).alloc (.cells #[.bool (P.operand a.toList).1.reg,.int .i64 (P.operand a.toList).1.n] 78)
   refine (operand_any _ _).mono ?_
   rintro e w2 ⟨rfl,hb2⟩
   have hg2:=hgm.below hb2
   have hgr:w.grownBy w2 (some g):=grown_trans (grown_alloc (grown_setCell (grown_setCell (grown_setCell (grown_of_below hb _) _ _) _ _) _ _) _) (grown_of_below hb2 _)
   clear hc0 hc1 hc2 hc3 hc4 hc5 hc6 hc7 hc8 hc9 hc10 hb2 hb hb1 e1 e2 hd hd1 hd2 hw hw1 hw2 hlt hgm hg1
   obtain⟨hlt,hfr,hc0,hc1,hc2,hc3,hc4,hc5,hc6,hc7,hc8,hc9,hc10⟩:=hg2.facts
   go_wp2
   go_ret
   simp only[List.map_cons,List.map_nil,unhide HL]
   exact⟨rfl,((hg2.setKind _).setB _).alloc _,grown_alloc (grown_setCell (grown_setCell (grown_setCell hgr _ _) _ _) _ _) _⟩
 ·have HL:=hide (P.sum_len st (ws.map ByteArray.toList) (by simp;omega) (by simp;omega))
  have hx1:((n:Int) != 1)=true:=by rw[bne_iff_ne];omega
  have hx3:((n:Int) != 3)=true:=by rw[bne_iff_ne];omega
  go_enter Tryz.func97,Tryz.ntmps97
  go_wp2
  go_ret
  simp only[unhide HL]
  exact⟨rfl,hg,grown_refl _ _⟩
set_option maxHeartbeats 800000 in
theorem condition_any (b off n cap:Nat) (ws:List ByteArray) (w:World) (hw:WordsAt w b off ws) (hn:ws.length=n) :
  Calls Tryz.prog 84 #[.slice (some ⟨b,off,none⟩) n cap] w fun e w'=>e=.returned (stmVal (P.condition (ws.map ByteArray.toList)))∧Below w.heap.size w w':=by
 by_cases h2:n=2
 ·subst h2
  match ws,hw,hn with
  | [a,c],hw,hn =>
  clear hn
  obtain⟨hd,hblt,hw1⟩:=hw.head
  obtain⟨hd1,_,_⟩:=hw1.head
  go_enter Tryz.func84,Tryz.ntmps84
  go_wp2_with (first | (go_at_call 93;refine (operand_any _ _).mono ?_;rintro e w1 ⟨rfl,hb⟩;have hr:=(StmAt.new w P.Stm.zero).below hb) | (refine wpList_store_stm (.tmp 2) (.tmp 18) rfl rfl w.heap.size _ { P.Stm.zero with kind:=10,a:=(P.operand c.toList).1 } rfl rfl (by exact hr.alloc _) ?_;intro w2 hs2 hgr2))
  refine ret_stm (p:=2) (u:=3) w.heap.size { P.Stm.zero with kind:=10,a:=(P.operand c.toList).1 } (P.operand c.toList).2 (by kernel_rfl) rfl rfl hs2 rfl ⟨rfl,?_⟩
  exact below_of_new ((((Below.refl _ _).alloc (Nat.le_refl _) _).trans (hb.mono (by simp))).alloc (by have:=hb.size;simp at this;omega) _) hgr2 (Nat.le_refl _)
 ·have hx:((n:Int) != 2)=true:=by rw[bne_iff_ne];omega
  have e:P.condition (ws.map ByteArray.toList)=(P.Stm.zero,false):=by
   match ws,hn with
   | [],_=>rfl
   | [_],_=>rfl
   | [_,_],hn=>simp at hn;omega
   | _::_::_::_,_=>rfl
  have HE:=hide e
  clear e
  go_enter Tryz.func84,Tryz.ntmps84
  go_wp2_with (first | (refine wpList_store_stm (.tmp 2) (.tmp 9) rfl rfl w.heap.size _ P.Stm.zero rfl rfl (by exact StmAt.new _ P.Stm.zero) ?_;intro w2 hs2 hgr2))
  rw[unhide HE]
  refine ret_stm (p:=2) (u:=3) w.heap.size P.Stm.zero false (by kernel_rfl) rfl rfl hs2 rfl ⟨rfl,?_⟩
  exact below_of_new ((Below.refl _ _).alloc (Nat.le_refl _) _) hgr2 (Nat.le_refl _)
set_option maxHeartbeats 800000 in
theorem fence_any (b off n cap:Nat) (c:ByteArray) (r:List ByteArray) (w:World) (hw:WordsAt w b off (c::r)) (hn:r.length=n-1) (h1:1≤n) (hc:n≤cap) :
  Calls Tryz.prog 83 #[.slice (some ⟨b,off,none⟩) n cap] w fun e w'=>e=.returned (stmVal (P.fence ((c::r).map ByteArray.toList)))∧Below w.heap.size w w':=by
 obtain⟨hd,hblt,hw1⟩:=hw.head
 have hS:∀ (w:World),StmAt ((w.alloc (.cells (stmCells P.Stm.zero) 80)).alloc (.cells (stmCells { P.Stm.zero with kind:=4 }) 80)) (w.heap.size+1) { P.Stm.zero with kind:=4 }:=fun w=>by
  have:=StmAt.new (w.alloc (.cells (stmCells P.Stm.zero) 80)) { P.Stm.zero with kind:=4 }
  simpa using this
 have main:∀ (w1:World),StmAt w1 (w.heap.size+1) (P.ordering { P.Stm.zero with kind:=4 } (r.map ByteArray.toList)).1→((w.alloc (.cells (stmCells P.Stm.zero) 80)).alloc (.cells (stmCells { P.Stm.zero with kind:=4 }) 80)).grownBy w1 (some (w.heap.size+1)) →
   StmAt w1 w.heap.size P.Stm.zero∧Below w.heap.size w w1:=fun w1 _ hgr=>by
  refine⟨((StmAt.new w P.Stm.zero).alloc _).of_block (hgr.block w.heap.size (by simp;omega) (by simp)),?_⟩
  exact below_of_new (((Below.refl _ _).alloc (Nat.le_refl _) _).alloc (by simp) _) hgr (by simp)
 by_cases hcap:cap=1
 ·have hr:r=[]:=List.eq_nil_of_length_eq_zero (by omega)
  subst hr
  go_enter Tryz.func83,Tryz.ntmps83
  go_wp2_with fail
  refine (ordering_any _ _ _ _ _ { P.Stm.zero with kind:=4 } [] _ (by exact hS w) (WordsAt.nil _ _ _) (by simp;omega) (by omega) (by omega)).mono ?_
  rintro e w1 ⟨rfl,hs1,hgr⟩
  obtain⟨hr,hb⟩:=main w1 hs1 hgr
  clear hgr main hS
  go_wp2_with (first | (refine wpList_load_stm (.tmp 4) rfl rfl (w.heap.size+1) _ rfl hs1 ?_) | (refine wpList_store_stm (.tmp 2) (.tmp 14) rfl rfl w.heap.size _ _ rfl rfl (by exact hr) ?_;intro w2 hs2 hgr2))
  refine ret_stm (p:=2) (u:=3) w.heap.size _ _ (by kernel_rfl) rfl rfl hs2 rfl ⟨rfl,below_of_new hb hgr2 (Nat.le_refl _)⟩
 ·go_enter Tryz.func83,Tryz.ntmps83
  go_wp2_with fail
  refine (ordering_any _ _ _ _ _ { P.Stm.zero with kind:=4 } r _ (by exact hS w) (by exact (hw1.alloc _).alloc _) hn (by omega) (by omega)).mono ?_
  rintro e w1 ⟨rfl,hs1,hgr⟩
  obtain⟨hr,hb⟩:=main w1 hs1 hgr
  clear hgr main hS
  go_wp2_with (first | (refine wpList_load_stm (.tmp 4) rfl rfl (w.heap.size+1) _ rfl hs1 ?_) | (refine wpList_store_stm (.tmp 2) (.tmp 14) rfl rfl w.heap.size _ _ rfl rfl (by exact hr) ?_;intro w2 hs2 hgr2))
  refine ret_stm (p:=2) (u:=3) w.heap.size _ _ (by kernel_rfl) rfl rfl hs2 rfl ⟨rfl,below_of_new hb hgr2 (Nat.le_refl _)⟩
def twoNew (w:World) (t:P.Stm):World:=(w.alloc (.cells (stmCells P.Stm.zero) 80)).alloc (.cells (stmCells t) 80)
theorem twoNew_at (w:World) (t:P.Stm):StmAt (twoNew w t) (w.heap.size+1) t:=by
 have:=StmAt.new (w.alloc (.cells (stmCells P.Stm.zero) 80)) t
 simpa [twoNew] using this
theorem twoNew_below (w:World) (t:P.Stm):Below w.heap.size w (twoNew w t):=(((Below.refl _ _).alloc (Nat.le_refl _) _).alloc (by simp) _)
theorem twoNew_kept {w w1:World} {t:P.Stm} (hgr:(twoNew w t).grownBy w1 (some (w.heap.size+1))):StmAt w1 w.heap.size P.Stm.zero∧Below w.heap.size w w1:=by
 refine⟨((StmAt.new w P.Stm.zero).alloc _).of_block (hgr.block w.heap.size (by simp[twoNew];omega) (by simp)),?_⟩
 exact below_of_new (twoNew_below w t) hgr (by omega)
theorem WordsAt.twoNew {w:World} {b off:Nat} {ws:List ByteArray} (h:WordsAt w b off ws) (t:P.Stm):WordsAt (twoNew w t) b off ws:=h.below (twoNew_below w t)
theorem three_of {α:Type} (l:List α) (h:3≤l.length):∃ a b c r,l=a::b::c::r:=by
 match l,h with
 | a::b::c::r,_=>exact⟨a,b,c,r,rfl⟩
set_option maxHeartbeats 1600000 in
theorem store_any (b off n cap:Nat) (ws:List ByteArray) (w:World) (hw:WordsAt w b off ws) (hn:ws.length=n) (hc:n≤cap) (hblt:b<w.heap.size) :
  Calls Tryz.prog 82 #[.slice (some ⟨b,off,none⟩) n cap] w fun e w'=>e=.returned (stmVal (P.store (ws.map ByteArray.toList)))∧Below w.heap.size w w':=by
 by_cases h3:n<3
 ·have e:P.store (ws.map ByteArray.toList)=(P.Stm.zero,false):=by
   match ws,hn with
   | [],_=>rfl
   | [_],_=>rfl
   | [_,_],_=>rfl
   | _::_::_::_,hn=>simp at hn;omega
  have HE:=hide e
  clear e
  go_enter Tryz.func82,Tryz.ntmps82
  go_wp2_with (first | (refine wpList_store_stm (.tmp 2) (.tmp 9) rfl rfl w.heap.size _ P.Stm.zero rfl rfl (by exact StmAt.new _ P.Stm.zero) ?_;intro w2 hs2 hgr2))
  rw[unhide HE]
  refine ret_stm (p:=2) (u:=3) w.heap.size P.Stm.zero false (by kernel_rfl) rfl rfl hs2 rfl ⟨rfl,?_⟩
  exact below_of_new ((Below.refl _ _).alloc (Nat.le_refl _) _) hgr2 (Nat.le_refl _)
 obtain⟨q,p,v,r,rfl⟩:=three_of ws (by omega)
 obtain⟨_,_,hw1⟩:=hw.head
 obtain⟨hd1,_,hw2⟩:=hw1.head
 obtain⟨hd2,_,hw3⟩:=hw2.head
 have hn2:r.length=n-3:=by simp at hn;omega
 have hi1:(1:Int)<(n:Int):=by omega
 have hi2:(2:Int)<(n:Int):=by omega
 have hn3:3≤n:=by omega
 clear hn h3 hw hw1 hw2
 have e1:=((twoNew_below w { P.Stm.zero with kind:=1 }).cell (p:=⟨b,off+1,none⟩) hblt).trans hd1
 have e2:=((twoNew_below w { P.Stm.zero with kind:=1 }).cell (p:=⟨b,off+2,none⟩) hblt).trans hd2
 have E1:=hide e1
 have E2:=hide e2
 clear e1 e2
 cases ht:(P.target { P.Stm.zero with kind:=1 } p.toList v.toList).2
 ·go_enter Tryz.func82,Tryz.ntmps82
  go_wp2_with fail
  go_region_held3 (fun w'=>w'.cell? ⟨b,off+1,none⟩=some (.string p)∧w'.cell? ⟨b,off+2,none⟩=some (.string v)) (first | exact⟨unhide E1,unhide E2⟩ | exact⟨k1,k2⟩) (first | (go_at_call 91;refine (target_any (w.heap.size+1) { P.Stm.zero with kind:=1 } _ _ _ ?_).mono ?_;(exact (twoNew_at w { P.Stm.zero with kind:=1 }).drew);rintro e w1 ⟨rfl,hs1,hgr⟩;have k1:=hgr.cell (a:=⟨b,off+1,none⟩) (v:=.string p) (unhide E1) (by simp;omega);have k2:=hgr.cell (a:=⟨b,off+2,none⟩) (v:=.string v) (unhide E2) (by simp;omega)))
  obtain⟨hr,hb⟩:=twoNew_kept (w:=w) (t:={ P.Stm.zero with kind:=1 }) (w1:=w1) (undrew hgr)
  clear hgr k1 k2 hs1 hd1 hd2 E1 E2
  go_wp2_with (first | (refine wpList_store_stm (.tmp 2) (.tmp 20) rfl rfl w.heap.size _ P.Stm.zero rfl rfl (by exact hr) ?_;intro w2 hs2 hgr2))
  have e:P.store ((q::p::v::r).map ByteArray.toList)=(P.Stm.zero,false):=by simp[P.store,ht]
  rw[e]
  refine ret_stm (p:=2) (u:=3) w.heap.size P.Stm.zero false (by kernel_rfl) rfl rfl hs2 rfl ⟨rfl,below_of_new hb hgr2 (Nat.le_refl _)⟩
 by_cases hcap:cap=3
 ·have hr0:r=[]:=List.eq_nil_of_length_eq_zero (by omega)
  subst hr0
  go_enter Tryz.func82,Tryz.ntmps82
  go_wp2_with fail
  go_region_held3 (fun w'=>w'.cell? ⟨b,off+1,none⟩=some (.string p)∧w'.cell? ⟨b,off+2,none⟩=some (.string v)) (first | exact⟨unhide E1,unhide E2⟩ | exact⟨k1,k2⟩) (first | (go_at_call 91;refine (target_any (w.heap.size+1) { P.Stm.zero with kind:=1 } _ _ _ ?_).mono ?_;(exact (twoNew_at w { P.Stm.zero with kind:=1 }).drew);rintro e w1 ⟨rfl,hs1,hgr⟩;have k1:=hgr.cell (a:=⟨b,off+1,none⟩) (v:=.string p) (unhide E1) (by simp;omega);have k2:=hgr.cell (a:=⟨b,off+2,none⟩) (v:=.string v) (unhide E2) (by simp;omega)))
  go_wp2_with (first | (go_at_call 92;refine (ordering_any _ _ _ _ _ _ [] _ hs1 (WordsAt.nil _ _ _) (by simp;omega) (by omega) (by omega)).mono ?_;rintro e w2 ⟨rfl,hsB,hgrB⟩;obtain⟨hr,hb⟩:=twoNew_kept (w:=w) (t:={ P.Stm.zero with kind:=1 }) (w1:=w2) (undrew (grown_trans hgr hgrB))) | (refine wpList_load_stm (.tmp 4) rfl rfl (w.heap.size+1) _ rfl hsB ?_) | (refine wpList_store_stm (.tmp 2) (.tmp 24) rfl rfl w.heap.size _ _ rfl rfl (by exact hr) ?_;intro w3 hs3 hgr3))
  have e:P.store ((q::p::v::[]).map ByteArray.toList)=P.ordering (P.target { P.Stm.zero with kind:=1 } p.toList v.toList).1 (([]:List ByteArray).map ByteArray.toList):=by simp[P.store,ht]
  rw[e]
  refine ret_stm (p:=2) (u:=3) w.heap.size _ _ (by kernel_rfl) rfl rfl hs3 rfl ⟨rfl,below_of_new hb hgr3 (Nat.le_refl _)⟩
 ·go_enter Tryz.func82,Tryz.ntmps82
  go_wp2_with fail
  go_region_held3 (fun w'=>w'.cell? ⟨b,off+1,none⟩=some (.string p)∧w'.cell? ⟨b,off+2,none⟩=some (.string v)) (first | exact⟨unhide E1,unhide E2⟩ | exact⟨k1,k2⟩) (first | (go_at_call 91;refine (target_any (w.heap.size+1) { P.Stm.zero with kind:=1 } _ _ _ ?_).mono ?_;(exact (twoNew_at w { P.Stm.zero with kind:=1 }).drew);rintro e w1 ⟨rfl,hs1,hgr⟩;have k1:=hgr.cell (a:=⟨b,off+1,none⟩) (v:=.string p) (unhide E1) (by simp;omega);have k2:=hgr.cell (a:=⟨b,off+2,none⟩) (v:=.string v) (unhide E2) (by simp;omega)))
  go_wp2_with (first | (go_at_call 92;refine (ordering_any _ _ _ _ _ _ r _ hs1 (by exact WordsAt.grown (WordsAt.drew (WordsAt.twoNew (off:=off+3) hw3 { P.Stm.zero with kind:=1 })) hgr (by omega)) hn2 (by omega) (by omega)).mono ?_;rintro e w2 ⟨rfl,hsB,hgrB⟩;obtain⟨hr,hb⟩:=twoNew_kept (w:=w) (t:={ P.Stm.zero with kind:=1 }) (w1:=w2) (undrew (grown_trans hgr hgrB))) | (refine wpList_load_stm (.tmp 4) rfl rfl (w.heap.size+1) _ rfl hsB ?_) | (refine wpList_store_stm (.tmp 2) (.tmp 24) rfl rfl w.heap.size _ _ rfl rfl (by exact hr) ?_;intro w3 hs3 hgr3))
  have e:P.store ((q::p::v::r).map ByteArray.toList)=P.ordering (P.target { P.Stm.zero with kind:=1 } p.toList v.toList).1 (r.map ByteArray.toList):=by simp[P.store,ht]
  rw[e]
  refine ret_stm (p:=2) (u:=3) w.heap.size _ _ (by kernel_rfl) rfl rfl hs3 rfl ⟨rfl,below_of_new hb hgr3 (Nat.le_refl _)⟩
theorem Pasg_len (ws:List (List UInt8)) (h:ws.length<3):P.assignment ws=(P.Stm.zero,false):=by
 match ws,h with
 | [],_=>rfl
 | [_],_=>rfl
 | [_,_],_=>rfl
theorem Pasg_eq (d e c:List UInt8) (r:List (List UInt8)) (h:(e==[61])=false):P.assignment (d::e::c::r)=(P.Stm.zero,false):=by simp[P.assignment,h]
theorem Pasg_reg (d e c:List UInt8) (r:List (List UInt8)) (h:(P.register d).2=false):P.assignment (d::e::c::r)=(P.Stm.zero,false):=by simp[P.assignment,h]
set_option maxHeartbeats 1600000 in
theorem assignment_any (b off n cap:Nat) (ws:List ByteArray) (w:World) (hw:WordsAt w b off ws) (hn:ws.length=n) (hc:n≤cap) (hblt:b<w.heap.size) :
  Calls Tryz.prog 85 #[.slice (some ⟨b,off,none⟩) n cap] w fun e w'=>e=.returned (stmVal (P.assignment (ws.map ByteArray.toList)))∧Below w.heap.size w w':=by
 by_cases h3:n<3
 ·have HE:=hide (Pasg_len (ws.map ByteArray.toList) (by simp;omega))
  go_enter Tryz.func85,Tryz.ntmps85
  go_wp2_with (first | (refine wpList_store_stm (.tmp 2) (.tmp 16) rfl rfl w.heap.size _ P.Stm.zero rfl rfl (by exact StmAt.new _ P.Stm.zero) ?_;intro w2 hs2 hgr2))
  rw[unhide HE]
  refine ret_stm (p:=2) (u:=3) w.heap.size P.Stm.zero false (by kernel_rfl) rfl rfl hs2 rfl ⟨rfl,?_⟩
  exact below_of_new ((Below.refl _ _).alloc (Nat.le_refl _) _) hgr2 (Nat.le_refl _)
 obtain⟨d,e,c,r,rfl⟩:=three_of ws (by omega)
 obtain⟨hd0,_,hw1⟩:=hw.head
 obtain⟨hd1,_,hw2⟩:=hw1.head
 obtain⟨hd2,_,hw3⟩:=hw2.head
 have hn2:r.length=n-3:=by simp at hn;omega
 have hn3:3≤n:=by omega
 have hi1:(1:Int)<(n:Int):=by omega
 have hi2:(2:Int)<(n:Int):=by omega
 clear hn h3 hw hw1
 cases he:e.toList==[61]
 ·have HE:=hide (Pasg_eq d.toList e.toList c.toList (r.map ByteArray.toList) he)
  go_enter Tryz.func85,Tryz.ntmps85
  go_wp2_with (first | (refine wpList_store_stm (.tmp 2) (.tmp 16) rfl rfl w.heap.size _ P.Stm.zero rfl rfl (by exact StmAt.new _ P.Stm.zero) ?_;intro w2 hs2 hgr2))
  simp only[List.map_cons]
  rw[unhide HE]
  refine ret_stm (p:=2) (u:=3) w.heap.size P.Stm.zero false (by kernel_rfl) rfl rfl hs2 rfl ⟨rfl,?_⟩
  exact below_of_new ((Below.refl _ _).alloc (Nat.le_refl _) _) hgr2 (Nat.le_refl _)
 cases hr:(P.register d.toList).2
 ·have HE:=hide (Pasg_reg d.toList e.toList c.toList (r.map ByteArray.toList) hr)
  go_enter Tryz.func85,Tryz.ntmps85
  go_wp2_with (first | (go_at_call 94;refine (register_any _ _).mono ?_;rintro e w' ⟨rfl,rfl⟩) | (refine wpList_store_stm (.tmp 2) (.tmp 26) rfl rfl w.heap.size _ P.Stm.zero rfl rfl (by exact StmAt.new _ P.Stm.zero) ?_;intro w2 hs2 hgr2))
  simp only[List.map_cons]
  rw[unhide HE]
  refine ret_stm (p:=2) (u:=3) w.heap.size P.Stm.zero false (by kernel_rfl) rfl rfl hs2 rfl ⟨rfl,?_⟩
  exact below_of_new ((Below.refl _ _).alloc (Nat.le_refl _) _) hgr2 (Nat.le_refl _)
 cases hl:c.toList==[108,111,97,100]
 rotate_left
 ·have HE:Hid (P.assignment (d.toList::e.toList::c.toList::r.map ByteArray.toList)=P.load { P.Stm.zero with dest:=(P.register d.toList).1 } (r.map ByteArray.toList)):=by
   unfold Hid;simp[P.assignment,he,hr,hl]
  by_cases hcap:cap=3
  ·have hr0:r=[]:=List.eq_nil_of_length_eq_zero (by omega)
   subst hr0
   go_enter Tryz.func85,Tryz.ntmps85
   go_wp2_with (first
    | (go_at_call 94;refine (register_any _ _).mono ?_;rintro e w' ⟨rfl,rfl⟩)
    | (go_at_call 95;refine (load_any (w.heap.size+1) _ _ _ _ { P.Stm.zero with dest:=(P.register d.toList).1 } [] _ (by exact twoNew_at w { P.Stm.zero with dest:=(P.register d.toList).1 }) (WordsAt.nil _ _ _) (by simp;omega) (by omega) (by omega)).mono ?_;rintro e w1 ⟨rfl,hs1,hgr⟩;obtain⟨hz,hb⟩:=twoNew_kept (w:=w) (t:={ P.Stm.zero with dest:=(P.register d.toList).1 }) (w1:=w1) hgr)
    | (refine wpList_load_stm (.tmp 6) rfl rfl (w.heap.size+1) _ rfl hs1 ?_)
    | (refine wpList_store_stm (.tmp 2) (.tmp 50) rfl rfl w.heap.size _ _ rfl rfl (by exact hz) ?_;intro w2 hs2 hgr2))
   simp only[List.map_cons]
   rw[unhide HE]
   refine ret_stm (p:=2) (u:=3) w.heap.size _ _ (by kernel_rfl) rfl rfl hs2 rfl ⟨rfl,below_of_new hb hgr2 (Nat.le_refl _)⟩
  ·go_enter Tryz.func85,Tryz.ntmps85
   go_wp2_with (first
    | (go_at_call 94;refine (register_any _ _).mono ?_;rintro e w' ⟨rfl,rfl⟩)
    | (go_at_call 95;refine (load_any (w.heap.size+1) _ _ _ _ { P.Stm.zero with dest:=(P.register d.toList).1 } r _ (by exact twoNew_at w { P.Stm.zero with dest:=(P.register d.toList).1 }) (by exact WordsAt.twoNew (off:=off+3) hw3 { P.Stm.zero with dest:=(P.register d.toList).1 }) hn2 (by omega) (by omega)).mono ?_;rintro e w1 ⟨rfl,hs1,hgr⟩;obtain⟨hz,hb⟩:=twoNew_kept (w:=w) (t:={ P.Stm.zero with dest:=(P.register d.toList).1 }) (w1:=w1) hgr)
    | (refine wpList_load_stm (.tmp 6) rfl rfl (w.heap.size+1) _ rfl hs1 ?_)
    | (refine wpList_store_stm (.tmp 2) (.tmp 50) rfl rfl w.heap.size _ _ rfl rfl (by exact hz) ?_;intro w2 hs2 hgr2))
   simp only[List.map_cons]
   rw[unhide HE]
   refine ret_stm (p:=2) (u:=3) w.heap.size _ _ (by kernel_rfl) rfl rfl hs2 rfl ⟨rfl,below_of_new hb hgr2 (Nat.le_refl _)⟩
 cases ha:c.toList==[97,100,100]
 rotate_left
 ·have HE:Hid (P.assignment (d.toList::e.toList::c.toList::r.map ByteArray.toList)=P.step { P.Stm.zero with dest:=(P.register d.toList).1 } 2 (r.map ByteArray.toList)):=by
   unfold Hid;simp[P.assignment,he,hr,hl,ha]
  by_cases hcap:cap=3
  ·have hr0:r=[]:=List.eq_nil_of_length_eq_zero (by omega)
   subst hr0
   go_enter Tryz.func85,Tryz.ntmps85
   go_wp2_with (first
    | (go_at_call 94;refine (register_any _ _).mono ?_;rintro e w' ⟨rfl,rfl⟩)
    | (go_at_call 96;refine (step_any (w.heap.size+1) _ _ _ _ 2 { P.Stm.zero with dest:=(P.register d.toList).1 } [] _ (by exact twoNew_at w { P.Stm.zero with dest:=(P.register d.toList).1 }) (WordsAt.nil _ _ _) (by simp;omega) (by omega) (by omega)).mono ?_;rintro e w1 ⟨rfl,hs1,hgr⟩;obtain⟨hz,hb⟩:=twoNew_kept (w:=w) (t:={ P.Stm.zero with dest:=(P.register d.toList).1 }) (w1:=w1) hgr)
    | (refine wpList_load_stm (.tmp 6) rfl rfl (w.heap.size+1) _ rfl hs1 ?_)
    | (refine wpList_store_stm (.tmp 2) (.tmp 50) rfl rfl w.heap.size _ _ rfl rfl (by exact hz) ?_;intro w2 hs2 hgr2))
   simp only[List.map_cons]
   rw[unhide HE]
   refine ret_stm (p:=2) (u:=3) w.heap.size _ _ (by kernel_rfl) rfl rfl hs2 rfl ⟨rfl,below_of_new hb hgr2 (Nat.le_refl _)⟩
  ·go_enter Tryz.func85,Tryz.ntmps85
   go_wp2_with (first
    | (go_at_call 94;refine (register_any _ _).mono ?_;rintro e w' ⟨rfl,rfl⟩)
    | (go_at_call 96;refine (step_any (w.heap.size+1) _ _ _ _ 2 { P.Stm.zero with dest:=(P.register d.toList).1 } r _ (by exact twoNew_at w { P.Stm.zero with dest:=(P.register d.toList).1 }) (by exact WordsAt.twoNew (off:=off+3) hw3 { P.Stm.zero with dest:=(P.register d.toList).1 }) hn2 (by omega) (by omega)).mono ?_;rintro e w1 ⟨rfl,hs1,hgr⟩;obtain⟨hz,hb⟩:=twoNew_kept (w:=w) (t:={ P.Stm.zero with dest:=(P.register d.toList).1 }) (w1:=w1) hgr)
    | (refine wpList_load_stm (.tmp 6) rfl rfl (w.heap.size+1) _ rfl hs1 ?_)
    | (refine wpList_store_stm (.tmp 2) (.tmp 50) rfl rfl w.heap.size _ _ rfl rfl (by exact hz) ?_;intro w2 hs2 hgr2))
   simp only[List.map_cons]
   rw[unhide HE]
   refine ret_stm (p:=2) (u:=3) w.heap.size _ _ (by kernel_rfl) rfl rfl hs2 rfl ⟨rfl,below_of_new hb hgr2 (Nat.le_refl _)⟩
 cases hs:c.toList==[115,119,97,112]
 rotate_left
 ·have HE:Hid (P.assignment (d.toList::e.toList::c.toList::r.map ByteArray.toList)=P.step { P.Stm.zero with dest:=(P.register d.toList).1 } 3 (r.map ByteArray.toList)):=by
   unfold Hid;simp[P.assignment,he,hr,hl,ha,hs]
  by_cases hcap:cap=3
  ·have hr0:r=[]:=List.eq_nil_of_length_eq_zero (by omega)
   subst hr0
   go_enter Tryz.func85,Tryz.ntmps85
   go_wp2_with (first
    | (go_at_call 94;refine (register_any _ _).mono ?_;rintro e w' ⟨rfl,rfl⟩)
    | (go_at_call 96;refine (step_any (w.heap.size+1) _ _ _ _ 3 { P.Stm.zero with dest:=(P.register d.toList).1 } [] _ (by exact twoNew_at w { P.Stm.zero with dest:=(P.register d.toList).1 }) (WordsAt.nil _ _ _) (by simp;omega) (by omega) (by omega)).mono ?_;rintro e w1 ⟨rfl,hs1,hgr⟩;obtain⟨hz,hb⟩:=twoNew_kept (w:=w) (t:={ P.Stm.zero with dest:=(P.register d.toList).1 }) (w1:=w1) hgr)
    | (refine wpList_load_stm (.tmp 6) rfl rfl (w.heap.size+1) _ rfl hs1 ?_)
    | (refine wpList_store_stm (.tmp 2) (.tmp 50) rfl rfl w.heap.size _ _ rfl rfl (by exact hz) ?_;intro w2 hs2 hgr2))
   simp only[List.map_cons]
   rw[unhide HE]
   refine ret_stm (p:=2) (u:=3) w.heap.size _ _ (by kernel_rfl) rfl rfl hs2 rfl ⟨rfl,below_of_new hb hgr2 (Nat.le_refl _)⟩
  ·go_enter Tryz.func85,Tryz.ntmps85
   go_wp2_with (first
    | (go_at_call 94;refine (register_any _ _).mono ?_;rintro e w' ⟨rfl,rfl⟩)
    | (go_at_call 96;refine (step_any (w.heap.size+1) _ _ _ _ 3 { P.Stm.zero with dest:=(P.register d.toList).1 } r _ (by exact twoNew_at w { P.Stm.zero with dest:=(P.register d.toList).1 }) (by exact WordsAt.twoNew (off:=off+3) hw3 { P.Stm.zero with dest:=(P.register d.toList).1 }) hn2 (by omega) (by omega)).mono ?_;rintro e w1 ⟨rfl,hs1,hgr⟩;obtain⟨hz,hb⟩:=twoNew_kept (w:=w) (t:={ P.Stm.zero with dest:=(P.register d.toList).1 }) (w1:=w1) hgr)
    | (refine wpList_load_stm (.tmp 6) rfl rfl (w.heap.size+1) _ rfl hs1 ?_)
    | (refine wpList_store_stm (.tmp 2) (.tmp 50) rfl rfl w.heap.size _ _ rfl rfl (by exact hz) ?_;intro w2 hs2 hgr2))
   simp only[List.map_cons]
   rw[unhide HE]
   refine ret_stm (p:=2) (u:=3) w.heap.size _ _ (by kernel_rfl) rfl rfl hs2 rfl ⟨rfl,below_of_new hb hgr2 (Nat.le_refl _)⟩
 have HE:Hid (P.assignment (d.toList::e.toList::c.toList::r.map ByteArray.toList)=P.sum { P.Stm.zero with dest:=(P.register d.toList).1 } (c.toList::r.map ByteArray.toList)):=by
  unfold Hid;simp[P.assignment,he,hr,hl,ha,hs]
 have hcap:¬ cap=2:=by omega
 go_enter Tryz.func85,Tryz.ntmps85
 go_wp2_with (first
  | (go_at_call 94;refine (register_any _ _).mono ?_;rintro e w' ⟨rfl,rfl⟩)
  | (go_at_call 97;refine (sum_any (w.heap.size+1) _ _ _ _ { P.Stm.zero with dest:=(P.register d.toList).1 } (c::r) _ (by exact twoNew_at w { P.Stm.zero with dest:=(P.register d.toList).1 }) (by exact WordsAt.twoNew (off:=off+2) hw2 { P.Stm.zero with dest:=(P.register d.toList).1 }) (by simp;omega) (by omega)).mono ?_;rintro e w1 ⟨rfl,hs1,hgr⟩;obtain⟨hz,hb⟩:=twoNew_kept (w:=w) (t:={ P.Stm.zero with dest:=(P.register d.toList).1 }) (w1:=w1) hgr)
  | (refine wpList_load_stm (.tmp 6) rfl rfl (w.heap.size+1) _ rfl hs1 ?_)
  | (refine wpList_store_stm (.tmp 2) (.tmp 50) rfl rfl w.heap.size _ _ rfl rfl (by exact hz) ?_;intro w2 hs2 hgr2))
 simp only[List.map_cons]
 rw[unhide HE]
 refine ret_stm (p:=2) (u:=3) w.heap.size _ _ (by kernel_rfl) rfl rfl hs2 rfl ⟨rfl,below_of_new hb hgr2 (Nat.le_refl _)⟩
end Go.Proofs.YtpkjmdcabdplfaaGreatDoor
