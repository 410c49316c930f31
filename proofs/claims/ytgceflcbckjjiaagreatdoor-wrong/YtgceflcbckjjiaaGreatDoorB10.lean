import Derived.Deep.RegionHeld3
import Derived.Test.YtgceflcbckjjiaaGreatDoorB09
set_option linter.unusedVariables false
set_option linter.unusedSimpArgs false
namespace Go.Proofs.YtgceflcbckjjiaaGreatDoor
open Go Go.RowKit
set_option maxRecDepth 100000
set_option maxHeartbeats 800000 in
theorem step_any (g b off n cap:Nat) (k:Int) (st:P.Stm) (ws:List ByteArray) (w:World) (hg:StmAt w g st) (hw:WordsAt w b off ws) (hn:ws.length=n) (hc:n≤cap) (hbg:b≠g) :
  Calls Tryz.prog 173 #[.pointer (some ⟨g,0,none⟩),.int .i64 k,.slice (some ⟨b,off,none⟩) n cap] w fun e w'=>e=.returned (.bool (P.step st k (ws.map ByteArray.toList)).2)∧StmAt w' g (P.step st k (ws.map ByteArray.toList)).1∧w.grownBy w' (some g):=by
 obtain⟨hlt,hfr,hc0,hc1,hc2,hc3,hc4,hc5,hc6,hc7,hc8,hc9,hc10⟩:=hg.facts
 match ws,hw,hn with
 | [],_,hn =>
  simp at hn;subst hn
  go_enter Tryz.func173,Tryz.ntmps173
  go_wp2
  go_ret
  exact⟨rfl,hg,grown_refl _ _⟩
 | [_],_,hn =>
  simp at hn;subst hn
  go_enter Tryz.func173,Tryz.ntmps173
  go_wp2
  go_ret
  exact⟨rfl,hg,grown_refl _ _⟩
 | p::v::r,hw,hn =>
  obtain⟨hd,hblt,hw'⟩:=hw.head
  obtain⟨hd2,_,hw2⟩:=hw'.head
  have hn1:2≤n:=by simp at hn;omega
  have hn2:r.length=n-2:=by simp at hn;omega
  clear hn hw hw'
  have hi0:0<n:=by omega
  have hi1:(1:Int)<(n:Int):=by omega
  cases ht:(P.target { st with kind:=k } p.toList v.toList).2
  ·have HL:=hide (P.step_no st k p.toList v.toList (r.map ByteArray.toList) ht)
   go_enter Tryz.func173,Tryz.ntmps173
   go_wp2_with fail
   go_region_held3 (fun w'=>w'.cell? ⟨b,off,none⟩=some (.string p)∧w'.cell? ⟨b,off+1,none⟩=some (.string v)) (first | exact⟨(cell_set_ne hbg).trans hd,(cell_set_ne hbg).trans hd2⟩ | exact⟨k1,k2⟩) (first | (go_at_call 168;refine (target_any g { st with kind:=k } _ _ _ ?_).mono ?_;(exact (hg.setKind _).drew);rintro e w1 ⟨rfl,hs1,hgr⟩;have k1:=hgr.cell (a:=⟨b,off,none⟩) (v:=.string p) ((cell_set_ne hbg).trans hd) (by simpa using hbg);have k2:=hgr.cell (a:=⟨b,off+1,none⟩) (v:=.string v) ((cell_set_ne hbg).trans hd2) (by simpa using hbg)))
   go_wp2
   go_ret
   simp only[List.map_cons,unhide HL]
   exact⟨rfl,hs1,grown_trans (grown_drew (grown_setCell (grown_refl _ _) _ _)) hgr⟩
  have HL:=hide (P.step_yes st k p.toList v.toList (r.map ByteArray.toList) ht)
  by_cases hcap:cap=2
  ·have hr:r=[]:=List.eq_nil_of_length_eq_zero (by omega)
   subst hr
   go_enter Tryz.func173,Tryz.ntmps173
   go_wp2_with fail
   go_region_held3 (fun w'=>w'.cell? ⟨b,off,none⟩=some (.string p)∧w'.cell? ⟨b,off+1,none⟩=some (.string v)) (first | exact⟨(cell_set_ne hbg).trans hd,(cell_set_ne hbg).trans hd2⟩ | exact⟨k1,k2⟩) (first | (go_at_call 168;refine (target_any g { st with kind:=k } _ _ _ ?_).mono ?_;(exact (hg.setKind _).drew);rintro e w1 ⟨rfl,hs1,hgr⟩;have k1:=hgr.cell (a:=⟨b,off,none⟩) (v:=.string p) ((cell_set_ne hbg).trans hd) (by simpa using hbg);have k2:=hgr.cell (a:=⟨b,off+1,none⟩) (v:=.string v) ((cell_set_ne hbg).trans hd2) (by simpa using hbg)))
   go_wp2_with (first | (go_at_call 169;refine (ordering_any _ _ _ _ _ _ [] _ hs1 (WordsAt.nil _ _ _) (by simp;omega) (by omega) hbg).mono ?_;rintro e w2 ⟨rfl,hs2,hgr2⟩))
   go_ret
   simp only[List.map_cons,unhide HL]
   exact⟨rfl,hs2,grown_trans (grown_trans (grown_drew (grown_setCell (grown_refl _ _) _ _)) hgr) hgr2⟩
  ·go_enter Tryz.func173,Tryz.ntmps173
   go_wp2_with fail
   go_region_held3 (fun w'=>w'.cell? ⟨b,off,none⟩=some (.string p)∧w'.cell? ⟨b,off+1,none⟩=some (.string v)) (first | exact⟨(cell_set_ne hbg).trans hd,(cell_set_ne hbg).trans hd2⟩ | exact⟨k1,k2⟩) (first | (go_at_call 168;refine (target_any g { st with kind:=k } _ _ _ ?_).mono ?_;(exact (hg.setKind _).drew);rintro e w1 ⟨rfl,hs1,hgr⟩;have k1:=hgr.cell (a:=⟨b,off,none⟩) (v:=.string p) ((cell_set_ne hbg).trans hd) (by simpa using hbg);have k2:=hgr.cell (a:=⟨b,off+1,none⟩) (v:=.string v) ((cell_set_ne hbg).trans hd2) (by simpa using hbg)))
   go_wp2_with (first | (go_at_call 169;refine (ordering_any _ _ _ _ _ _ r _ hs1 (by exact ((hw2.set hbg _ _).drew).grown hgr hbg) hn2 (by omega) hbg).mono ?_;rintro e w2 ⟨rfl,hs2,hgr2⟩))
   go_ret
   simp only[List.map_cons,unhide HL]
   exact⟨rfl,hs2,grown_trans (grown_trans (grown_drew (grown_setCell (grown_refl _ _) _ _)) hgr) hgr2⟩
set_option maxHeartbeats 800000 in
theorem sum_any (g b off n cap:Nat) (st:P.Stm) (ws:List ByteArray) (w:World) (hg:StmAt w g st) (hw:WordsAt w b off ws) (hn:ws.length=n) (hbg:b≠g) :
  Calls Tryz.prog 174 #[.pointer (some ⟨g,0,none⟩),.slice (some ⟨b,off,none⟩) n cap] w fun e w'=>e=.returned (.bool (P.sum st (ws.map ByteArray.toList)).2)∧StmAt w' g (P.sum st (ws.map ByteArray.toList)).1∧w.grownBy w' (some g):=by
 have hfr:=hg.free
 by_cases h1:n=1
 ·subst h1
  match ws,hw,hn with
  | [a],hw,hn =>
  clear hn
  obtain⟨hd,hblt,_⟩:=hw.head
  cases ha:(P.operand a.toList).2
  ·have HL:=hide (P.sum_no st a.toList [] ha)
   go_enter Tryz.func174,Tryz.ntmps174
   go_wp2_with (first | (go_at_call 170;refine (operand_any _ _).mono ?_;rintro e w1 ⟨rfl,hb⟩))
   go_ret
   simp only[List.map_cons,List.map_nil,unhide HL]
   exact⟨rfl,(hg.below hb).alloc _,grown_alloc (grown_of_below hb _) _⟩
  ·have HL:=hide (P.sum_one st a.toList ha)
   go_enter Tryz.func174,Tryz.ntmps174
   go_wp2_with (first | (go_at_call 170;refine (operand_any _ _).mono ?_;rintro e w1 ⟨rfl,hb⟩;have hg1:=hg.below hb;obtain⟨hlt,hfr,hc0,hc1,hc2,hc3,hc4,hc5,hc6,hc7,hc8,hc9,hc10⟩:=hg1.facts))
   go_ret
   simp only[List.map_cons,List.map_nil,unhide HL]
   exact⟨rfl,((hg1.setKind _).setA _).alloc _,grown_alloc (grown_setCell (grown_setCell (grown_setCell (grown_of_below hb _) _ _) _ _) _ _) _⟩
 by_cases h3:n=3
 ·subst h3
  match ws,hw,hn with
  | [a,s,c],hw,hn =>
  clear hn
  obtain⟨hd,hblt,hw1⟩:=hw.head
  obtain⟨hd1,_,hw2⟩:=hw1.head
  obtain⟨hd2,_,_⟩:=hw2.head
  cases ha:(P.operand a.toList).2
  ·have HL:=hide (P.sum_no st a.toList [s.toList,c.toList] ha)
   go_enter Tryz.func174,Tryz.ntmps174
   go_wp2_with (first | (go_at_call 170;refine (operand_any _ _).mono ?_;rintro e w1 ⟨rfl,hb⟩))
   go_ret
   simp only[List.map_cons,List.map_nil,unhide HL]
   exact⟨rfl,(hg.below hb).alloc _,grown_alloc (grown_of_below hb _) _⟩
  cases hs:(P.sign s.toList).2
  ·have HL:=hide (P.sum_sign st a.toList s.toList c.toList ha hs)
   go_enter Tryz.func174,Tryz.ntmps174
   go_wp2_with (first | (go_at_call_of 170 (Value.string a);refine (operand_any _ _).mono ?_;rintro e w1 ⟨rfl,hb⟩;have hg1:=hg.below hb;obtain⟨hlt,hfr,hc0,hc1,hc2,hc3,hc4,hc5,hc6,hc7,hc8,hc9,hc10⟩:=hg1.facts;have hb1:b<w1.heap.size:=Nat.lt_of_lt_of_le hblt hb.size;have e1:=(hb.cell (p:=⟨b,off+1,none⟩) hblt).trans hd1;have e2:=(hb.cell (p:=⟨b,off+1+1,none⟩) hblt).trans hd2) | (go_at_call 193;refine (sign_any _ _).mono ?_;rintro e w2 ⟨rfl,rfl⟩))
   go_ret
   simp only[List.map_cons,List.map_nil,unhide HL]
   exact⟨rfl,((hg1.setKind _).setA _).alloc _,grown_alloc (grown_setCell (grown_setCell (grown_setCell (grown_of_below hb _) _ _) _ _) _ _) _⟩
  ·have HL:=hide (P.sum_all st a.toList s.toList c.toList ha hs)
   go_enter Tryz.func174,Tryz.ntmps174
   go_wp2_with (first | (go_at_call_of 170 (Value.string a);refine (operand_any _ _).mono ?_;rintro e w1 ⟨rfl,hb⟩;have hg1:=hg.below hb;obtain⟨hlt,hfr,hc0,hc1,hc2,hc3,hc4,hc5,hc6,hc7,hc8,hc9,hc10⟩:=hg1.facts;have hb1:b<w1.heap.size:=Nat.lt_of_lt_of_le hblt hb.size;have e1:=(hb.cell (p:=⟨b,off+1,none⟩) hblt).trans hd1;have e2:=(hb.cell (p:=⟨b,off+1+1,none⟩) hblt).trans hd2) | (go_at_call 193;refine (sign_any _ _).mono ?_;rintro e w2 ⟨rfl,rfl⟩))
   have hgm:=((hg1.setKind 6).setA (P.operand a.toList).1).alloc (.cells #[.bool (P.operand a.toList).1.reg,.int .i64 (P.operand a.toList).1.n] 94)
   refine (operand_any _ _).mono ?_
   rintro e w2 ⟨rfl,hb2⟩
   have hg2:=hgm.below hb2
   have hgr:w.grownBy w2 (some g):=grown_trans (grown_alloc (grown_setCell (grown_setCell (grown_setCell (grown_of_below hb _) _ _) _ _) _ _) _) (grown_of_below hb2 _)
   clear hc0 hc1 hc2 hc3 hc4 hc5 hc6 hc7 hc8 hc9 hc10 hb2 hb hb1 e1 e2 hd hd1 hd2 hw hw1 hw2 hlt hgm hg1
   obtain⟨hlt,hfr,hc0,hc1,hc2,hc3,hc4,hc5,hc6,hc7,hc8,hc9,hc10⟩:=hg2.facts
   go_wp2
   go_ret
   simp only[List.map_cons,List.map_nil,unhide HL]
   exact⟨rfl,((hg2.setKind _).setB _).alloc _,grown_alloc (grown_setCell (grown_setCell (grown_setCell hgr _ _) _ _) _ _) _⟩
 ·have HL:=hide (P.sum_len st (ws.map ByteArray.toList) (by simp;omega) (by simp;omega))
  have hx1:((n:Int) != 1)=true:=by rw[bne_iff_ne];omega
  have hx3:((n:Int) != 3)=true:=by rw[bne_iff_ne];omega
  go_enter Tryz.func174,Tryz.ntmps174
  go_wp2
  go_ret
  simp only[unhide HL]
  exact⟨rfl,hg,grown_refl _ _⟩
end Go.Proofs.YtgceflcbckjjiaaGreatDoor
