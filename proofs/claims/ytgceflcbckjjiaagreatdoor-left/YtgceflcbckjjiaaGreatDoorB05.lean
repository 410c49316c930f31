import Derived.Deep.RegionHeld3
import Derived.Test.YtgceflcbckjjiaaGreatDoorB02
set_option linter.unusedVariables false
set_option linter.unusedSimpArgs false
namespace Go.Proofs.YtgceflcbckjjiaaGreatDoor
open Go Go.RowKit
set_option maxRecDepth 100000
set_option maxHeartbeats 400000 in
theorem target_any (g:Nat) (st:P.Stm) (p v:ByteArray) (w:World) (hg:StmAt w g st) :
  Calls Tryz.prog 168 #[.pointer (some ⟨g,0,none⟩),.string p,.string v] w fun e w'=>e=.returned (.bool (P.target st p.toList v.toList).2)∧StmAt w' g (P.target st p.toList v.toList).1∧w.grownBy w' (some g):=by
 cases hv:(P.varOf p.toList).2
 ·go_enter Tryz.func168,Tryz.ntmps168
  go_wp2_with (first | (go_at_call 190;refine (variable_any _ _).mono ?_;rintro e w' ⟨rfl,rfl⟩) | (go_at_call 170;refine (operand_any _ _).mono ?_;rintro e w1 ⟨rfl,hb⟩))
  go_ret
  simp only[P.target,hv]
  exact⟨rfl,hg,grown_refl _ _⟩
 ·go_enter Tryz.func168,Tryz.ntmps168
  go_wp2_with (first | (go_at_call 190;refine (variable_any _ _).mono ?_;rintro e w' ⟨rfl,rfl⟩) | (go_at_call 170;refine (operand_any _ _).mono ?_;rintro e w1 ⟨rfl,hb⟩;have h1:=hg.below hb;obtain⟨hlt,hfr,hc0,hc1,hc2,hc3,hc4,hc5,hc6,hc7,hc8,hc9,hc10⟩:=h1.facts))
  go_ret
  have e:P.target st p.toList v.toList=({ st with var:=(P.varOf p.toList).1,a:=(P.operand v.toList).1 },(P.operand v.toList).2):=by simp[P.target,hv]
  rw[e]
  exact⟨rfl,((h1.setVar _).setA _).alloc _,grown_alloc (grown_setCell (grown_setCell (grown_setCell (grown_of_below hb _) _ _) _ _) _ _) _⟩
set_option maxHeartbeats 800000 in
theorem ordering_any (g b off n cap:Nat) (st:P.Stm) (ws:List ByteArray) (w:World) (hg:StmAt w g st) (hw:WordsAt w b off ws) (hn:ws.length=n) (hc:n≤cap) (hbg:b≠g) :
  Calls Tryz.prog 169 #[.pointer (some ⟨g,0,none⟩),.slice (some ⟨b,off,none⟩) n cap] w fun e w'=>e=.returned (.bool (P.ordering st (ws.map ByteArray.toList)).2)∧StmAt w' g (P.ordering st (ws.map ByteArray.toList)).1∧w.grownBy w' (some g):=by
 obtain⟨hlt,hfr,hc0,hc1,hc2,hc3,hc4,hc5,hc6,hc7,hc8,hc9,hc10⟩:=hg.facts
 cases ws with
 | nil =>
  simp at hn;subst hn
  go_enter Tryz.func169,Tryz.ntmps169
  go_wp2
  go_ret
  exact⟨rfl,hg,grown_refl _ _⟩
 | cons o r =>
  obtain⟨hd,hblt,hw'⟩:=hw.head
  have hn1:1≤n:=by simp at hn;omega
  cases ho1:(P.order o.toList).2
  ·go_enter Tryz.func169,Tryz.ntmps169
   go_wp2_with (first | (go_at_call 191;refine (order_any _ _).mono ?_;rintro e w' ⟨rfl,rfl⟩) | (go_at_call 188;refine (allows_any _ _ _).mono ?_;rintro e w' ⟨rfl,rfl⟩) | (go_at_call 192;refine (scope_any _ _).mono ?_;rintro e w' ⟨rfl,rfl⟩))
   go_ret
   simp only[List.map_cons,P.ordering_no1 st _ _ ho1]
   exact⟨rfl,hg,grown_refl _ _⟩
  cases ho2:P.allows st.kind (P.order o.toList).1
  ·go_enter Tryz.func169,Tryz.ntmps169
   go_wp2_with (first | (go_at_call 191;refine (order_any _ _).mono ?_;rintro e w' ⟨rfl,rfl⟩) | (go_at_call 188;refine (allows_any _ _ _).mono ?_;rintro e w' ⟨rfl,rfl⟩) | (go_at_call 192;refine (scope_any _ _).mono ?_;rintro e w' ⟨rfl,rfl⟩))
   go_ret
   simp only[List.map_cons,P.ordering_no2 st _ _ ho2]
   exact⟨rfl,hg,grown_refl _ _⟩
  cases h0:(P.order o.toList).1==0
  ·match r,hw',hn with
   | [],_,hn =>
    simp at hn;subst hn
    go_enter Tryz.func169,Tryz.ntmps169
    go_wp2_with (first | (go_at_call 191;refine (order_any _ _).mono ?_;rintro e w' ⟨rfl,rfl⟩) | (go_at_call 188;refine (allows_any _ _ _).mono ?_;rintro e w' ⟨rfl,rfl⟩) | (go_at_call 192;refine (scope_any _ _).mono ?_;rintro e w' ⟨rfl,rfl⟩))
    go_ret
    simp only[List.map_cons,List.map_nil,P.ordering_short st _ ho1 ho2 h0]
    exact⟨rfl,hg.setOrder _,grown_setCell (grown_refl _ _) _ _⟩
   | [s],hw',hn =>
    obtain⟨hd2,_,_⟩:=hw'.head
    simp at hn;subst hn
    go_enter Tryz.func169,Tryz.ntmps169
    go_wp2_with (first | (go_at_call 191;refine (order_any _ _).mono ?_;rintro e w' ⟨rfl,rfl⟩) | (go_at_call 188;refine (allows_any _ _ _).mono ?_;rintro e w' ⟨rfl,rfl⟩) | (go_at_call 192;refine (scope_any _ _).mono ?_;rintro e w' ⟨rfl,rfl⟩))
    go_ret
    simp only[List.map_cons,List.map_nil,P.ordering_two st _ _ ho1 ho2 h0]
    exact⟨rfl,(hg.setOrder _).setScope _,grown_setCell (grown_setCell (grown_refl _ _) _ _) _ _⟩
   | s::t::q,hw',hn =>
    have hn3:3≤n:=by simp at hn;omega
    go_enter Tryz.func169,Tryz.ntmps169
    go_wp2_with (first | (go_at_call 191;refine (order_any _ _).mono ?_;rintro e w' ⟨rfl,rfl⟩) | (go_at_call 188;refine (allows_any _ _ _).mono ?_;rintro e w' ⟨rfl,rfl⟩) | (go_at_call 192;refine (scope_any _ _).mono ?_;rintro e w' ⟨rfl,rfl⟩))
    go_ret
    simp only[List.map_cons,P.ordering_long st _ _ _ _ ho1 ho2 h0]
    exact⟨rfl,hg.setOrder _,grown_setCell (grown_refl _ _) _ _⟩
  ·have hz:(P.order o.toList).1=0:=by simpa using h0
   have HW:Hid (P.ordering st (o.toList::r.map ByteArray.toList)=({ st with order:=0 },(r.map ByteArray.toList).isEmpty)):=P.ordering_weak st _ _ ho1 ho2 hz
   rw[hz] at ho2
   clear h0
   have hr:((n:Int)==1)=r.isEmpty:=by
    cases r with
    | nil=>simp at hn;subst hn;rfl
    | cons a q=>simp at hn;simp;omega
   go_enter Tryz.func169,Tryz.ntmps169
   go_wp2_with (first | (go_at_call 191;refine (order_any _ _).mono ?_;rintro e w' ⟨rfl,rfl⟩) | (go_at_call 188;refine (allows_any _ _ _).mono ?_;rintro e w' ⟨rfl,rfl⟩) | (go_at_call 192;refine (scope_any _ _).mono ?_;rintro e w' ⟨rfl,rfl⟩))
   go_ret
   simp only[List.map_cons,HW.out]
   exact⟨by simp,hg.setOrder _,grown_setCell (grown_refl _ _) _ _⟩
set_option maxHeartbeats 800000 in
theorem load_any (g b off n cap:Nat) (st:P.Stm) (ws:List ByteArray) (w:World) (hg:StmAt w g st) (hw:WordsAt w b off ws) (hn:ws.length=n) (hc:n≤cap) (hbg:b≠g) :
  Calls Tryz.prog 172 #[.pointer (some ⟨g,0,none⟩),.slice (some ⟨b,off,none⟩) n cap] w fun e w'=>e=.returned (.bool (P.load st (ws.map ByteArray.toList)).2)∧StmAt w' g (P.load st (ws.map ByteArray.toList)).1∧w.grownBy w' (some g):=by
 obtain⟨hlt,hfr,hc0,hc1,hc2,hc3,hc4,hc5,hc6,hc7,hc8,hc9,hc10⟩:=hg.facts
 cases ws with
 | nil =>
  simp at hn;subst hn
  go_enter Tryz.func172,Tryz.ntmps172
  go_wp2
  go_ret
  exact⟨rfl,hg,grown_refl _ _⟩
 | cons o r =>
  obtain⟨hd,hblt,hw'⟩:=hw.head
  have hn1:1≤n:=by simp at hn;omega
  have hn2:r.length=n-1:=by simp at hn;omega
  cases ho1:(P.varOf o.toList).2
  ·go_enter Tryz.func172,Tryz.ntmps172
   go_wp2_with (first | (go_at_call 190;refine (variable_any _ _).mono ?_;rintro e w' ⟨rfl,rfl⟩))
   go_ret
   simp only[List.map_cons,P.load_no st _ _ ho1]
   exact⟨rfl,hg,grown_refl _ _⟩
  have HL:=hide (P.load_yes st o.toList (r.map ByteArray.toList) ho1)
  clear hn
  by_cases hcap:cap=1
  ·have hr:r=[]:=List.eq_nil_of_length_eq_zero (by omega)
   subst hr
   go_enter Tryz.func172,Tryz.ntmps172
   go_wp2_with (first | (go_at_call 190;refine (variable_any _ _).mono ?_;rintro e w' ⟨rfl,rfl⟩) | (go_at_call 169;refine (ordering_any _ _ _ _ _ { st with kind:=0,var:=(P.varOf o.toList).1 } [] _ (by exact (hg.setKind _).setVar _) (WordsAt.nil _ _ _) (by simp;omega) (by omega) hbg).mono ?_;rintro e w1 ⟨rfl,hs1,hgr⟩))
   go_ret
   simp only[List.map_cons,unhide HL]
   exact⟨rfl,hs1,grown_trans (grown_setCell (grown_setCell (grown_refl _ _) _ _) _ _) hgr⟩
  ·go_enter Tryz.func172,Tryz.ntmps172
   go_wp2_with (first | (go_at_call 190;refine (variable_any _ _).mono ?_;rintro e w' ⟨rfl,rfl⟩) | (go_at_call 169;refine (ordering_any _ _ _ _ _ { st with kind:=0,var:=(P.varOf o.toList).1 } r _ (by exact (hg.setKind _).setVar _) (by exact (hw'.set hbg _ _).set hbg _ _) hn2 (by omega) hbg).mono ?_;rintro e w1 ⟨rfl,hs1,hgr⟩))
   go_ret
   simp only[List.map_cons,unhide HL]
   exact⟨rfl,hs1,grown_trans (grown_setCell (grown_setCell (grown_refl _ _) _ _) _ _) hgr⟩
set_option maxHeartbeats 800000 in
theorem step_any (g b off n cap:Nat) (k:Int) (st:P.Stm) (ws:List ByteArray) (w:World) (hg:StmAt w g st) (hw:WordsAt w b off ws) (hn:ws.length=n) (hc:n≤cap) (hbg:b≠g) :
  Calls Tryz.prog 173 #[.pointer (some ⟨g,0,none⟩),.int .i64 k,.slice (some ⟨b,off,none⟩) n cap] w fun e w'=>e=.returned (.bool (P.step st k (ws.map ByteArray.toList)).2)∧StmAt w' g (P.step st k (ws.map ByteArray.toList)).1∧w.grownBy w' (some g):=by
 obtain⟨hlt,hfr,hc0,hc1,hc2,hc3,hc4,hc5,hc6,hc7,hc8,hc9,hc10⟩:=hg.facts
 match ws,hw,hn with
 | [],_,hn =>
  simp at hn;subst hn
  go_enter Tryz.func173,Tryz.ntmps173
  go_wp2
  go_ret
  exact⟨rfl,hg,grown_refl _ _⟩
 | [_],_,hn =>
  simp at hn;subst hn
  go_enter Tryz.func173,Tryz.ntmps173
  go_wp2
  go_ret
  exact⟨rfl,hg,grown_refl _ _⟩
 | p::v::r,hw,hn =>
  obtain⟨hd,hblt,hw'⟩:=hw.head
  obtain⟨hd2,_,hw2⟩:=hw'.head
  have hn1:2≤n:=by simp at hn;omega
  have hn2:r.length=n-2:=by simp at hn;omega
  clear hn hw hw'
  have hi0:0<n:=by omega
  have hi1:(1:Int)<(n:Int):=by omega
  cases ht:(P.target { st with kind:=k } p.toList v.toList).2
  ·have HL:=hide (P.step_no st k p.toList v.toList (r.map ByteArray.toList) ht)
   go_enter Tryz.func173,Tryz.ntmps173
   go_wp2_with fail
   go_region_held3 (fun w'=>w'.cell? ⟨b,off,none⟩=some (.string p)∧w'.cell? ⟨b,off+1,none⟩=some (.string v)) (first | exact⟨(cell_set_ne hbg).trans hd,(cell_set_ne hbg).trans hd2⟩ | exact⟨k1,k2⟩) (first | (go_at_call 168;refine (target_any g { st with kind:=k } _ _ _ ?_).mono ?_;(exact (hg.setKind _).drew);rintro e w1 ⟨rfl,hs1,hgr⟩;have k1:=hgr.cell (a:=⟨b,off,none⟩) (v:=.string p) ((cell_set_ne hbg).trans hd) (by simpa using hbg);have k2:=hgr.cell (a:=⟨b,off+1,none⟩) (v:=.string v) ((cell_set_ne hbg).trans hd2) (by simpa using hbg)))
   go_wp2
   go_ret
   simp only[List.map_cons,unhide HL]
   exact⟨rfl,hs1,grown_trans (grown_drew (grown_setCell (grown_refl _ _) _ _)) hgr⟩
  have HL:=hide (P.step_yes st k p.toList v.toList (r.map ByteArray.toList) ht)
  by_cases hcap:cap=2
  ·have hr:r=[]:=List.eq_nil_of_length_eq_zero (by omega)
   subst hr
   go_enter Tryz.func173,Tryz.ntmps173
   go_wp2_with fail
   go_region_held3 (fun w'=>w'.cell? ⟨b,off,none⟩=some (.string p)∧w'.cell? ⟨b,off+1,none⟩=some (.string v)) (first | exact⟨(cell_set_ne hbg).trans hd,(cell_set_ne hbg).trans hd2⟩ | exact⟨k1,k2⟩) (first | (go_at_call 168;refine (target_any g { st with kind:=k } _ _ _ ?_).mono ?_;(exact (hg.setKind _).drew);rintro e w1 ⟨rfl,hs1,hgr⟩;have k1:=hgr.cell (a:=⟨b,off,none⟩) (v:=.string p) ((cell_set_ne hbg).trans hd) (by simpa using hbg);have k2:=hgr.cell (a:=⟨b,off+1,none⟩) (v:=.string v) ((cell_set_ne hbg).trans hd2) (by simpa using hbg)))
   go_wp2_with (first | (go_at_call 169;refine (ordering_any _ _ _ _ _ _ [] _ hs1 (WordsAt.nil _ _ _) (by simp;omega) (by omega) hbg).mono ?_;rintro e w2 ⟨rfl,hs2,hgr2⟩))
   go_ret
   simp only[List.map_cons,unhide HL]
   exact⟨rfl,hs2,grown_trans (grown_trans (grown_drew (grown_setCell (grown_refl _ _) _ _)) hgr) hgr2⟩
  ·go_enter Tryz.func173,Tryz.ntmps173
   go_wp2_with fail
   go_region_held3 (fun w'=>w'.cell? ⟨b,off,none⟩=some (.string p)∧w'.cell? ⟨b,off+1,none⟩=some (.string v)) (first | exact⟨(cell_set_ne hbg).trans hd,(cell_set_ne hbg).trans hd2⟩ | exact⟨k1,k2⟩) (first | (go_at_call 168;refine (target_any g { st with kind:=k } _ _ _ ?_).mono ?_;(exact (hg.setKind _).drew);rintro e w1 ⟨rfl,hs1,hgr⟩;have k1:=hgr.cell (a:=⟨b,off,none⟩) (v:=.string p) ((cell_set_ne hbg).trans hd) (by simpa using hbg);have k2:=hgr.cell (a:=⟨b,off+1,none⟩) (v:=.string v) ((cell_set_ne hbg).trans hd2) (by simpa using hbg)))
   go_wp2_with (first | (go_at_call 169;refine (ordering_any _ _ _ _ _ _ r _ hs1 (by exact ((hw2.set hbg _ _).drew).grown hgr hbg) hn2 (by omega) hbg).mono ?_;rintro e w2 ⟨rfl,hs2,hgr2⟩))
   go_ret
   simp only[List.map_cons,unhide HL]
   exact⟨rfl,hs2,grown_trans (grown_trans (grown_drew (grown_setCell (grown_refl _ _) _ _)) hgr) hgr2⟩
set_option maxHeartbeats 800000 in
theorem sum_any (g b off n cap:Nat) (st:P.Stm) (ws:List ByteArray) (w:World) (hg:StmAt w g st) (hw:WordsAt w b off ws) (hn:ws.length=n) (hbg:b≠g) :
  Calls Tryz.prog 174 #[.pointer (some ⟨g,0,none⟩),.slice (some ⟨b,off,none⟩) n cap] w fun e w'=>e=.returned (.bool (P.sum st (ws.map ByteArray.toList)).2)∧StmAt w' g (P.sum st (ws.map ByteArray.toList)).1∧w.grownBy w' (some g):=by
 have hfr:=hg.free
 by_cases h1:n=1
 ·subst h1
  match ws,hw,hn with
  | [a],hw,hn =>
  clear hn
  obtain⟨hd,hblt,_⟩:=hw.head
  cases ha:(P.operand a.toList).2
  ·have HL:=hide (P.sum_no st a.toList [] ha)
   go_enter Tryz.func174,Tryz.ntmps174
   go_wp2_with (first | (go_at_call 170;refine (operand_any _ _).mono ?_;rintro e w1 ⟨rfl,hb⟩))
   go_ret
   simp only[List.map_cons,List.map_nil,unhide HL]
   exact⟨rfl,(hg.below hb).alloc _,grown_alloc (grown_of_below hb _) _⟩
  ·have HL:=hide (P.sum_one st a.toList ha)
   go_enter Tryz.func174,Tryz.ntmps174
   go_wp2_with (first | (go_at_call 170;refine (operand_any _ _).mono ?_;rintro e w1 ⟨rfl,hb⟩;have hg1:=hg.below hb;obtain⟨hlt,hfr,hc0,hc1,hc2,hc3,hc4,hc5,hc6,hc7,hc8,hc9,hc10⟩:=hg1.facts))
   go_ret
   simp only[List.map_cons,List.map_nil,unhide HL]
   exact⟨rfl,((hg1.setKind _).setA _).alloc _,grown_alloc (grown_setCell (grown_setCell (grown_setCell (grown_of_below hb _) _ _) _ _) _ _) _⟩
 by_cases h3:n=3
 ·subst h3
  match ws,hw,hn with
  | [a,s,c],hw,hn =>
  clear hn
  obtain⟨hd,hblt,hw1⟩:=hw.head
  obtain⟨hd1,_,hw2⟩:=hw1.head
  obtain⟨hd2,_,_⟩:=hw2.head
  cases ha:(P.operand a.toList).2
  ·have HL:=hide (P.sum_no st a.toList [s.toList,c.toList] ha)
   go_enter Tryz.func174,Tryz.ntmps174
   go_wp2_with (first | (go_at_call 170;refine (operand_any _ _).mono ?_;rintro e w1 ⟨rfl,hb⟩))
   go_ret
   simp only[List.map_cons,List.map_nil,unhide HL]
   exact⟨rfl,(hg.below hb).alloc _,grown_alloc (grown_of_below hb _) _⟩
  cases hs:(P.sign s.toList).2
  ·have HL:=hide (P.sum_sign st a.toList s.toList c.toList ha hs)
   go_enter Tryz.func174,Tryz.ntmps174
   go_wp2_with (first | (go_at_call_of 170 (Value.string a);refine (operand_any _ _).mono ?_;rintro e w1 ⟨rfl,hb⟩;have hg1:=hg.below hb;obtain⟨hlt,hfr,hc0,hc1,hc2,hc3,hc4,hc5,hc6,hc7,hc8,hc9,hc10⟩:=hg1.facts;have hb1:b<w1.heap.size:=Nat.lt_of_lt_of_le hblt hb.size;have e1:=(hb.cell (p:=⟨b,off+1,none⟩) hblt).trans hd1;have e2:=(hb.cell (p:=⟨b,off+1+1,none⟩) hblt).trans hd2) | (go_at_call 193;refine (sign_any _ _).mono ?_;rintro e w2 ⟨rfl,rfl⟩))
   go_ret
   simp only[List.map_cons,List.map_nil,unhide HL]
   exact⟨rfl,((hg1.setKind _).setA _).alloc _,grown_alloc (grown_setCell (grown_setCell (grown_setCell (grown_of_below hb _) _ _) _ _) _ _) _⟩
  ·have HL:=hide (P.sum_all st a.toList s.toList c.toList ha hs)
   go_enter Tryz.func174,Tryz.ntmps174
   go_wp2_with (first | (go_at_call_of 170 (Value.string a);refine (operand_any _ _).mono ?_;rintro e w1 ⟨rfl,hb⟩;have hg1:=hg.below hb;obtain⟨hlt,hfr,hc0,hc1,hc2,hc3,hc4,hc5,hc6,hc7,hc8,hc9,hc10⟩:=hg1.facts;have hb1:b<w1.heap.size:=Nat.lt_of_lt_of_le hblt hb.size;have e1:=(hb.cell (p:=⟨b,off+1,none⟩) hblt).trans hd1;have e2:=(hb.cell (p:=⟨b,off+1+1,none⟩) hblt).trans hd2) | (go_at_call 193;refine (sign_any _ _).mono ?_;rintro e w2 ⟨rfl,rfl⟩))
   have hgm:=((hg1.setKind 6).setA (P.operand a.toList).1).alloc (.cells #[.bool (P.operand a.toList).1.reg,.int .i64 (P.operand a.toList).1.n] 94)
   refine (operand_any _ _).mono ?_
   rintro e w2 ⟨rfl,hb2⟩
   have hg2:=hgm.below hb2
   have hgr:w.grownBy w2 (some g):=grown_trans (grown_alloc (grown_setCell (grown_setCell (grown_setCell (grown_of_below hb _) _ _) _ _) _ _) _) (grown_of_below hb2 _)
   clear hc0 hc1 hc2 hc3 hc4 hc5 hc6 hc7 hc8 hc9 hc10 hb2 hb hb1 e1 e2 hd hd1 hd2 hw hw1 hw2 hlt hgm hg1
   obtain⟨hlt,hfr,hc0,hc1,hc2,hc3,hc4,hc5,hc6,hc7,hc8,hc9,hc10⟩:=hg2.facts
   go_wp2
   go_ret
   simp only[List.map_cons,List.map_nil,unhide HL]
   exact⟨rfl,((hg2.setKind _).setB _).alloc _,grown_alloc (grown_setCell (grown_setCell (grown_setCell hgr _ _) _ _) _ _) _⟩
 ·have HL:=hide (P.sum_len st (ws.map ByteArray.toList) (by simp;omega) (by simp;omega))
  have hx1:((n:Int) != 1)=true:=by rw[bne_iff_ne];omega
  have hx3:((n:Int) != 3)=true:=by rw[bne_iff_ne];omega
  go_enter Tryz.func174,Tryz.ntmps174
  go_wp2
  go_ret
  simp only[unhide HL]
  exact⟨rfl,hg,grown_refl _ _⟩
set_option maxHeartbeats 800000 in
theorem condition_any (b off n cap:Nat) (ws:List ByteArray) (w:World) (hw:WordsAt w b off ws) (hn:ws.length=n) :
  Calls Tryz.prog 149 #[.slice (some ⟨b,off,none⟩) n cap] w fun e w'=>e=.returned (stmVal (P.condition (ws.map ByteArray.toList)))∧Below w.heap.size w w':=by
 by_cases h2:n=2
 ·subst h2
  match ws,hw,hn with
  | [a,c],hw,hn =>
  clear hn
  obtain⟨hd,hblt,hw1⟩:=hw.head
  obtain⟨hd1,_,_⟩:=hw1.head
  go_enter Tryz.func149,Tryz.ntmps149
  go_wp2_with (first | (go_at_call 170;refine (operand_any _ _).mono ?_;rintro e w1 ⟨rfl,hb⟩;have hr:=(StmAt.new w P.Stm.zero).below hb) | (refine wpList_store_stm (.tmp 2) (.tmp 18) rfl rfl w.heap.size _ { P.Stm.zero with kind:=10,a:=(P.operand c.toList).1 } rfl rfl (by exact hr.alloc _) ?_;intro w2 hs2 hgr2))
  refine ret_stm (p:=2) (u:=3) w.heap.size { P.Stm.zero with kind:=10,a:=(P.operand c.toList).1 } (P.operand c.toList).2 (by kernel_rfl) rfl rfl hs2 rfl ⟨rfl,?_⟩
  exact below_of_new ((((Below.refl _ _).alloc (Nat.le_refl _) _).trans (hb.mono (by simp))).alloc (by have:=hb.size;simp at this;omega) _) hgr2 (Nat.le_refl _)
 ·have hx:((n:Int) != 2)=true:=by rw[bne_iff_ne];omega
  have e:P.condition (ws.map ByteArray.toList)=(P.Stm.zero,false):=by
   match ws,hn with
   | [],_=>rfl
   | [_],_=>rfl
   | [_,_],hn=>simp at hn;omega
   | _::_::_::_,_=>rfl
  have HE:=hide e
  clear e
  go_enter Tryz.func149,Tryz.ntmps149
  go_wp2_with (first | (refine wpList_store_stm (.tmp 2) (.tmp 9) rfl rfl w.heap.size _ P.Stm.zero rfl rfl (by exact StmAt.new _ P.Stm.zero) ?_;intro w2 hs2 hgr2))
  rw[unhide HE]
  refine ret_stm (p:=2) (u:=3) w.heap.size P.Stm.zero false (by kernel_rfl) rfl rfl hs2 rfl ⟨rfl,?_⟩
  exact below_of_new ((Below.refl _ _).alloc (Nat.le_refl _) _) hgr2 (Nat.le_refl _)
set_option maxHeartbeats 800000 in
theorem fence_any (b off n cap:Nat) (c:ByteArray) (r:List ByteArray) (w:World) (hw:WordsAt w b off (c::r)) (hn:r.length=n-1) (h1:1≤n) (hc:n≤cap) :
  Calls Tryz.prog 148 #[.slice (some ⟨b,off,none⟩) n cap] w fun e w'=>e=.returned (stmVal (P.fence ((c::r).map ByteArray.toList)))∧Below w.heap.size w w':=by
 obtain⟨hd,hblt,hw1⟩:=hw.head
 have hS:∀ (w:World),StmAt ((w.alloc (.cells (stmCells P.Stm.zero) 96)).alloc (.cells (stmCells { P.Stm.zero with kind:=4 }) 96)) (w.heap.size+1) { P.Stm.zero with kind:=4 }:=fun w=>by
  have:=StmAt.new (w.alloc (.cells (stmCells P.Stm.zero) 96)) { P.Stm.zero with kind:=4 }
  simpa using this
 have main:∀ (w1:World),StmAt w1 (w.heap.size+1) (P.ordering { P.Stm.zero with kind:=4 } (r.map ByteArray.toList)).1→((w.alloc (.cells (stmCells P.Stm.zero) 96)).alloc (.cells (stmCells { P.Stm.zero with kind:=4 }) 96)).grownBy w1 (some (w.heap.size+1)) →
   StmAt w1 w.heap.size P.Stm.zero∧Below w.heap.size w w1:=fun w1 _ hgr=>by
  refine⟨((StmAt.new w P.Stm.zero).alloc _).of_block (hgr.block w.heap.size (by simp;omega) (by simp)),?_⟩
  exact below_of_new (((Below.refl _ _).alloc (Nat.le_refl _) _).alloc (by simp) _) hgr (by simp)
 by_cases hcap:cap=1
 ·have hr:r=[]:=List.eq_nil_of_length_eq_zero (by omega)
  subst hr
  go_enter Tryz.func148,Tryz.ntmps148
  go_wp2_with fail
  refine (ordering_any _ _ _ _ _ { P.Stm.zero with kind:=4 } [] _ (by exact hS w) (WordsAt.nil _ _ _) (by simp;omega) (by omega) (by omega)).mono ?_
  rintro e w1 ⟨rfl,hs1,hgr⟩
  obtain⟨hr,hb⟩:=main w1 hs1 hgr
  clear hgr main hS
  go_wp2_with (first | (refine wpList_load_stm (.tmp 4) rfl rfl (w.heap.size+1) _ rfl hs1 ?_) | (refine wpList_store_stm (.tmp 2) (.tmp 14) rfl rfl w.heap.size _ _ rfl rfl (by exact hr) ?_;intro w2 hs2 hgr2))
  refine ret_stm (p:=2) (u:=3) w.heap.size _ _ (by kernel_rfl) rfl rfl hs2 rfl ⟨rfl,below_of_new hb hgr2 (Nat.le_refl _)⟩
 ·go_enter Tryz.func148,Tryz.ntmps148
  go_wp2_with fail
  refine (ordering_any _ _ _ _ _ { P.Stm.zero with kind:=4 } r _ (by exact hS w) (by exact (hw1.alloc _).alloc _) hn (by omega) (by omega)).mono ?_
  rintro e w1 ⟨rfl,hs1,hgr⟩
  obtain⟨hr,hb⟩:=main w1 hs1 hgr
  clear hgr main hS
  go_wp2_with (first | (refine wpList_load_stm (.tmp 4) rfl rfl (w.heap.size+1) _ rfl hs1 ?_) | (refine wpList_store_stm (.tmp 2) (.tmp 14) rfl rfl w.heap.size _ _ rfl rfl (by exact hr) ?_;intro w2 hs2 hgr2))
  refine ret_stm (p:=2) (u:=3) w.heap.size _ _ (by kernel_rfl) rfl rfl hs2 rfl ⟨rfl,below_of_new hb hgr2 (Nat.le_refl _)⟩
def twoNew (w:World) (t:P.Stm):World:=(w.alloc (.cells (stmCells P.Stm.zero) 96)).alloc (.cells (stmCells t) 96)
theorem twoNew_at (w:World) (t:P.Stm):StmAt (twoNew w t) (w.heap.size+1) t:=by
 have:=StmAt.new (w.alloc (.cells (stmCells P.Stm.zero) 96)) t
 simpa [twoNew] using this
theorem twoNew_below (w:World) (t:P.Stm):Below w.heap.size w (twoNew w t):=(((Below.refl _ _).alloc (Nat.le_refl _) _).alloc (by simp) _)
theorem twoNew_kept {w w1:World} {t:P.Stm} (hgr:(twoNew w t).grownBy w1 (some (w.heap.size+1))):StmAt w1 w.heap.size P.Stm.zero∧Below w.heap.size w w1:=by
 refine⟨((StmAt.new w P.Stm.zero).alloc _).of_block (hgr.block w.heap.size (by simp[twoNew];omega) (by simp)),?_⟩
 exact below_of_new (twoNew_below w t) hgr (by omega)
theorem WordsAt.twoNew {w:World} {b off:Nat} {ws:List ByteArray} (h:WordsAt w b off ws) (t:P.Stm):WordsAt (twoNew w t) b off ws:=h.below (twoNew_below w t)
theorem three_of {α:Type} (l:List α) (h:3≤l.length):∃ a b c r,l=a::b::c::r:=by
 match l,h with
 | a::b::c::r,_=>exact⟨a,b,c,r,rfl⟩
set_option maxHeartbeats 1600000 in
theorem store_any (b off n cap:Nat) (ws:List ByteArray) (w:World) (hw:WordsAt w b off ws) (hn:ws.length=n) (hc:n≤cap) (hblt:b<w.heap.size) :
  Calls Tryz.prog 147 #[.slice (some ⟨b,off,none⟩) n cap] w fun e w'=>e=.returned (stmVal (P.store (ws.map ByteArray.toList)))∧Below w.heap.size w w':=by
 by_cases h3:n<3
 ·have e:P.store (ws.map ByteArray.toList)=(P.Stm.zero,false):=by
   match ws,hn with
   | [],_=>rfl
   | [_],_=>rfl
   | [_,_],_=>rfl
   | _::_::_::_,hn=>simp at hn;omega
  have HE:=hide e
  clear e
  go_enter Tryz.func147,Tryz.ntmps147
  go_wp2_with (first | (refine wpList_store_stm (.tmp 2) (.tmp 9) rfl rfl w.heap.size _ P.Stm.zero rfl rfl (by exact StmAt.new _ P.Stm.zero) ?_;intro w2 hs2 hgr2))
  rw[unhide HE]
  refine ret_stm (p:=2) (u:=3) w.heap.size P.Stm.zero false (by kernel_rfl) rfl rfl hs2 rfl ⟨rfl,?_⟩
  exact below_of_new ((Below.refl _ _).alloc (Nat.le_refl _) _) hgr2 (Nat.le_refl _)
 obtain⟨q,p,v,r,rfl⟩:=three_of ws (by omega)
 obtain⟨_,_,hw1⟩:=hw.head
 obtain⟨hd1,_,hw2⟩:=hw1.head
 obtain⟨hd2,_,hw3⟩:=hw2.head
 have hn2:r.length=n-3:=by simp at hn;omega
 have hi1:(1:Int)<(n:Int):=by omega
 have hi2:(2:Int)<(n:Int):=by omega
 have hn3:3≤n:=by omega
 clear hn h3 hw hw1 hw2
 have e1:=((twoNew_below w { P.Stm.zero with kind:=1 }).cell (p:=⟨b,off+1,none⟩) hblt).trans hd1
 have e2:=((twoNew_below w { P.Stm.zero with kind:=1 }).cell (p:=⟨b,off+2,none⟩) hblt).trans hd2
 have E1:=hide e1
 have E2:=hide e2
 clear e1 e2
 cases ht:(P.target { P.Stm.zero with kind:=1 } p.toList v.toList).2
 ·go_enter Tryz.func147,Tryz.ntmps147
  go_wp2_with fail
  go_region_held3 (fun w'=>w'.cell? ⟨b,off+1,none⟩=some (.string p)∧w'.cell? ⟨b,off+2,none⟩=some (.string v)) (first | exact⟨unhide E1,unhide E2⟩ | exact⟨k1,k2⟩) (first | (go_at_call 168;refine (target_any (w.heap.size+1) { P.Stm.zero with kind:=1 } _ _ _ ?_).mono ?_;(exact (twoNew_at w { P.Stm.zero with kind:=1 }).drew);rintro e w1 ⟨rfl,hs1,hgr⟩;have k1:=hgr.cell (a:=⟨b,off+1,none⟩) (v:=.string p) (unhide E1) (by simp;omega);have k2:=hgr.cell (a:=⟨b,off+2,none⟩) (v:=.string v) (unhide E2) (by simp;omega)))
  obtain⟨hr,hb⟩:=twoNew_kept (w:=w) (t:={ P.Stm.zero with kind:=1 }) (w1:=w1) (undrew hgr)
  clear hgr k1 k2 hs1 hd1 hd2 E1 E2
  go_wp2_with (first | (refine wpList_store_stm (.tmp 2) (.tmp 20) rfl rfl w.heap.size _ P.Stm.zero rfl rfl (by exact hr) ?_;intro w2 hs2 hgr2))
  have e:P.store ((q::p::v::r).map ByteArray.toList)=(P.Stm.zero,false):=by simp[P.store,ht]
  rw[e]
  refine ret_stm (p:=2) (u:=3) w.heap.size P.Stm.zero false (by kernel_rfl) rfl rfl hs2 rfl ⟨rfl,below_of_new hb hgr2 (Nat.le_refl _)⟩
 by_cases hcap:cap=3
 ·have hr0:r=[]:=List.eq_nil_of_length_eq_zero (by omega)
  subst hr0
  go_enter Tryz.func147,Tryz.ntmps147
  go_wp2_with fail
  go_region_held3 (fun w'=>w'.cell? ⟨b,off+1,none⟩=some (.string p)∧w'.cell? ⟨b,off+2,none⟩=some (.string v)) (first | exact⟨unhide E1,unhide E2⟩ | exact⟨k1,k2⟩) (first | (go_at_call 168;refine (target_any (w.heap.size+1) { P.Stm.zero with kind:=1 } _ _ _ ?_).mono ?_;(exact (twoNew_at w { P.Stm.zero with kind:=1 }).drew);rintro e w1 ⟨rfl,hs1,hgr⟩;have k1:=hgr.cell (a:=⟨b,off+1,none⟩) (v:=.string p) (unhide E1) (by simp;omega);have k2:=hgr.cell (a:=⟨b,off+2,none⟩) (v:=.string v) (unhide E2) (by simp;omega)))
  go_wp2_with (first | (go_at_call 169;refine (ordering_any _ _ _ _ _ _ [] _ hs1 (WordsAt.nil _ _ _) (by simp;omega) (by omega) (by omega)).mono ?_;rintro e w2 ⟨rfl,hsB,hgrB⟩;obtain⟨hr,hb⟩:=twoNew_kept (w:=w) (t:={ P.Stm.zero with kind:=1 }) (w1:=w2) (undrew (grown_trans hgr hgrB))) | (refine wpList_load_stm (.tmp 4) rfl rfl (w.heap.size+1) _ rfl hsB ?_) | (refine wpList_store_stm (.tmp 2) (.tmp 24) rfl rfl w.heap.size _ _ rfl rfl (by exact hr) ?_;intro w3 hs3 hgr3))
  have e:P.store ((q::p::v::[]).map ByteArray.toList)=P.ordering (P.target { P.Stm.zero with kind:=1 } p.toList v.toList).1 (([]:List ByteArray).map ByteArray.toList):=by simp[P.store,ht]
  rw[e]
  refine ret_stm (p:=2) (u:=3) w.heap.size _ _ (by kernel_rfl) rfl rfl hs3 rfl ⟨rfl,below_of_new hb hgr3 (Nat.le_refl _)⟩
 ·go_enter Tryz.func147,Tryz.ntmps147
  go_wp2_with fail
  go_region_held3 (fun w'=>w'.cell? ⟨b,off+1,none⟩=some (.string p)∧w'.cell? ⟨b,off+2,none⟩=some (.string v)) (first | exact⟨unhide E1,unhide E2⟩ | exact⟨k1,k2⟩) (first | (go_at_call 168;refine (target_any (w.heap.size+1) { P.Stm.zero with kind:=1 } _ _ _ ?_).mono ?_;(exact (twoNew_at w { P.Stm.zero with kind:=1 }).drew);rintro e w1 ⟨rfl,hs1,hgr⟩;have k1:=hgr.cell (a:=⟨b,off+1,none⟩) (v:=.string p) (unhide E1) (by simp;omega);have k2:=hgr.cell (a:=⟨b,off+2,none⟩) (v:=.string v) (unhide E2) (by simp;omega)))
  go_wp2_with (first | (go_at_call 169;refine (ordering_any _ _ _ _ _ _ r _ hs1 (by exact WordsAt.grown (WordsAt.drew (WordsAt.twoNew (off:=off+3) hw3 { P.Stm.zero with kind:=1 })) hgr (by omega)) hn2 (by omega) (by omega)).mono ?_;rintro e w2 ⟨rfl,hsB,hgrB⟩;obtain⟨hr,hb⟩:=twoNew_kept (w:=w) (t:={ P.Stm.zero with kind:=1 }) (w1:=w2) (undrew (grown_trans hgr hgrB))) | (refine wpList_load_stm (.tmp 4) rfl rfl (w.heap.size+1) _ rfl hsB ?_) | (refine wpList_store_stm (.tmp 2) (.tmp 24) rfl rfl w.heap.size _ _ rfl rfl (by exact hr) ?_;intro w3 hs3 hgr3))
  have e:P.store ((q::p::v::r).map ByteArray.toList)=P.ordering (P.target { P.Stm.zero with kind:=1 } p.toList v.toList).1 (r.map ByteArray.toList):=by simp[P.store,ht]
  rw[e]
  refine ret_stm (p:=2) (u:=3) w.heap.size _ _ (by kernel_rfl) rfl rfl hs3 rfl ⟨rfl,below_of_new hb hgr3 (Nat.le_refl _)⟩
end Go.Proofs.YtgceflcbckjjiaaGreatDoor
