import Derived.Test.YtgceflcbckjjiaaGreatDoorB02
set_option linter.unusedVariables false
set_option linter.unusedSimpArgs false
namespace Go.Proofs.YtgceflcbckjjiaaGreatDoor
open Go Go.RowKit
set_option maxRecDepth 100000
set_option maxHeartbeats 400000 in
theorem target_any (g:Nat) (st:P.Stm) (p v:ByteArray) (w:World) (hg:StmAt w g st) :
  Calls Tryz.prog 168 #[.pointer (some ⟨g,0,none⟩),.string p,.string v] w fun e w'=>e=.returned (.bool (P.target st p.toList v.toList).2)∧StmAt w' g (P.target st p.toList v.toList).1∧w.grownBy w' (some g):=by
 cases hv:(P.varOf p.toList).2
 ·go_enter Tryz.func168,Tryz.ntmps168
  go_wp2_with (first | (go_at_call 190;refine (variable_any _ _).mono ?_;rintro e w' ⟨rfl,rfl⟩) | (go_at_call 170;refine (operand_any _ _).mono ?_;rintro e w1 ⟨rfl,hb⟩))
  go_ret
  simp only[P.target,hv]
  exact⟨rfl,hg,grown_refl _ _⟩
 ·go_enter Tryz.func168,Tryz.ntmps168
  go_wp2_with (first | (go_at_call 190;refine (variable_any _ _).mono ?_;rintro e w' ⟨rfl,rfl⟩) | (go_at_call 170;refine (operand_any _ _).mono ?_;rintro e w1 ⟨rfl,hb⟩;have h1:=hg.below hb;obtain⟨hlt,hfr,hc0,hc1,hc2,hc3,hc4,hc5,hc6,hc7,hc8,hc9,hc10⟩:=h1.facts))
  go_ret
  have e:P.target st p.toList v.toList=({ st with var:=(P.varOf p.toList).1,a:=(P.operand v.toList).1 },(P.operand v.toList).2):=by simp[P.target,hv]
  rw[e]
  exact⟨rfl,((h1.setVar _).setA _).alloc _,grown_alloc (grown_setCell (grown_setCell (grown_setCell (grown_of_below hb _) _ _) _ _) _ _) _⟩
set_option maxHeartbeats 800000 in
theorem ordering_any (g b off n cap:Nat) (st:P.Stm) (ws:List ByteArray) (w:World) (hg:StmAt w g st) (hw:WordsAt w b off ws) (hn:ws.length=n) (hc:n≤cap) (hbg:b≠g) :
  Calls Tryz.prog 169 #[.pointer (some ⟨g,0,none⟩),.slice (some ⟨b,off,none⟩) n cap] w fun e w'=>e=.returned (.bool (P.ordering st (ws.map ByteArray.toList)).2)∧StmAt w' g (P.ordering st (ws.map ByteArray.toList)).1∧w.grownBy w' (some g):=by
 obtain⟨hlt,hfr,hc0,hc1,hc2,hc3,hc4,hc5,hc6,hc7,hc8,hc9,hc10⟩:=hg.facts
 cases ws with
 | nil =>
  simp at hn;subst hn
  go_enter Tryz.func169,Tryz.ntmps169
  go_wp2
  go_ret
  exact⟨rfl,hg,grown_refl _ _⟩
 | cons o r =>
  obtain⟨hd,hblt,hw'⟩:=hw.head
  have hn1:1≤n:=by simp at hn;omega
  cases ho1:(P.order o.toList).2
  ·go_enter Tryz.func169,Tryz.ntmps169
   go_wp2_with (first | (go_at_call 191;refine (order_any _ _).mono ?_;rintro e w' ⟨rfl,rfl⟩) | (go_at_call 188;refine (allows_any _ _ _).mono ?_;rintro e w' ⟨rfl,rfl⟩) | (go_at_call 192;refine (scope_any _ _).mono ?_;rintro e w' ⟨rfl,rfl⟩))
   go_ret
   simp only[List.map_cons,P.ordering_no1 st _ _ ho1]
   exact⟨rfl,hg,grown_refl _ _⟩
  cases ho2:P.allows st.kind (P.order o.toList).1
  ·go_enter Tryz.func169,Tryz.ntmps169
   go_wp2_with (first | (go_at_call 191;refine (order_any _ _).mono ?_;rintro e w' ⟨rfl,rfl⟩) | (go_at_call 188;refine (allows_any _ _ _).mono ?_;rintro e w' ⟨rfl,rfl⟩) | (go_at_call 192;refine (scope_any _ _).mono ?_;rintro e w' ⟨rfl,rfl⟩))
   go_ret
   simp only[List.map_cons,P.ordering_no2 st _ _ ho2]
   exact⟨rfl,hg,grown_refl _ _⟩
  cases h0:(P.order o.toList).1==0
  ·match r,hw',hn with
   | [],_,hn =>
    simp at hn;subst hn
    go_enter Tryz.func169,Tryz.ntmps169
    go_wp2_with (first | (go_at_call 191;refine (order_any _ _).mono ?_;rintro e w' ⟨rfl,rfl⟩) | (go_at_call 188;refine (allows_any _ _ _).mono ?_;rintro e w' ⟨rfl,rfl⟩) | (go_at_call 192;refine (scope_any _ _).mono ?_;rintro e w' ⟨rfl,rfl⟩))
    go_ret
    simp only[List.map_cons,List.map_nil,P.ordering_short st _ ho1 ho2 h0]
    exact⟨rfl,hg.setOrder _,grown_setCell (grown_refl _ _) _ _⟩
   | [s],hw',hn =>
    obtain⟨hd2,_,_⟩:=hw'.head
    simp at hn;subst hn
    go_enter Tryz.func169,Tryz.ntmps169
    go_wp2_with (first | (go_at_call 191;refine (order_any _ _).mono ?_;rintro e w' ⟨rfl,rfl⟩) | (go_at_call 188;refine (allows_any _ _ _).mono ?_;rintro e w' ⟨rfl,rfl⟩) | (go_at_call 192;refine (scope_any _ _).mono ?_;rintro e w' ⟨rfl,rfl⟩))
    go_ret
    simp only[List.map_cons,List.map_nil,P.ordering_two st _ _ ho1 ho2 h0]
    exact⟨rfl,(hg.setOrder _).setScope _,grown_setCell (grown_setCell (grown_refl _ _) _ _) _ _⟩
   | s::t::q,hw',hn =>
    have hn3:3≤n:=by simp at hn;omega
    go_enter Tryz.func169,Tryz.ntmps169
    go_wp2_with (first | (go_at_call 191;refine (order_any _ _).mono ?_;rintro e w' ⟨rfl,rfl⟩) | (go_at_call 188;refine (allows_any _ _ _).mono ?_;rintro e w' ⟨rfl,rfl⟩) | (go_at_call 192;refine (scope_any _ _).mono ?_;rintro e w' ⟨rfl,rfl⟩))
    go_ret
    simp only[List.map_cons,P.ordering_long st _ _ _ _ ho1 ho2 h0]
    exact⟨rfl,hg.setOrder _,grown_setCell (grown_refl _ _) _ _⟩
  ·have hz:(P.order o.toList).1=0:=by simpa using h0
   have HW:Hid (P.ordering st (o.toList::r.map ByteArray.toList)=({ st with order:=0 },(r.map ByteArray.toList).isEmpty)):=P.ordering_weak st _ _ ho1 ho2 hz
   rw[hz] at ho2
   clear h0
   have hr:((n:Int)==1)=r.isEmpty:=by
    cases r with
    | nil=>simp at hn;subst hn;rfl
    | cons a q=>simp at hn;simp;omega
   go_enter Tryz.func169,Tryz.ntmps169
   go_wp2_with (first | (go_at_call 191;refine (order_any _ _).mono ?_;rintro e w' ⟨rfl,rfl⟩) | (go_at_call 188;refine (allows_any _ _ _).mono ?_;rintro e w' ⟨rfl,rfl⟩) | (go_at_call 192;refine (scope_any _ _).mono ?_;rintro e w' ⟨rfl,rfl⟩))
   go_ret
   simp only[List.map_cons,HW.out]
   exact⟨by simp,hg.setOrder _,grown_setCell (grown_refl _ _) _ _⟩
set_option maxHeartbeats 800000 in
theorem load_any (g b off n cap:Nat) (st:P.Stm) (ws:List ByteArray) (w:World) (hg:StmAt w g st) (hw:WordsAt w b off ws) (hn:ws.length=n) (hc:n≤cap) (hbg:b≠g) :
  Calls Tryz.prog 172 #[.pointer (some ⟨g,0,none⟩),.slice (some ⟨b,off,none⟩) n cap] w fun e w'=>e=.returned (.bool (P.load st (ws.map ByteArray.toList)).2)∧StmAt w' g (P.load st (ws.map ByteArray.toList)).1∧w.grownBy w' (some g):=by
 obtain⟨hlt,hfr,hc0,hc1,hc2,hc3,hc4,hc5,hc6,hc7,hc8,hc9,hc10⟩:=hg.facts
 cases ws with
 | nil =>
  simp at hn;subst hn
  go_enter Tryz.func172,Tryz.ntmps172
  go_wp2
  go_ret
  exact⟨rfl,hg,grown_refl _ _⟩
 | cons o r =>
  obtain⟨hd,hblt,hw'⟩:=hw.head
  have hn1:1≤n:=by simp at hn;omega
  have hn2:r.length=n-1:=by simp at hn;omega
  cases ho1:(P.varOf o.toList).2
  ·go_enter Tryz.func172,Tryz.ntmps172
   go_wp2_with (first | (go_at_call 190;refine (variable_any _ _).mono ?_;rintro e w' ⟨rfl,rfl⟩))
   go_ret
   simp only[List.map_cons,P.load_no st _ _ ho1]
   exact⟨rfl,hg,grown_refl _ _⟩
  have HL:=hide (P.load_yes st o.toList (r.map ByteArray.toList) ho1)
  clear hn
  by_cases hcap:cap=1
  ·have hr:r=[]:=List.eq_nil_of_length_eq_zero (by omega)
   subst hr
   go_enter Tryz.func172,Tryz.ntmps172
   go_wp2_with (first | (go_at_call 190;refine (variable_any _ _).mono ?_;rintro e w' ⟨rfl,rfl⟩) | (go_at_call 169;refine (ordering_any _ _ _ _ _ { st with kind:=0,var:=(P.varOf o.toList).1 } [] _ (by exact (hg.setKind _).setVar _) (WordsAt.nil _ _ _) (by simp;omega) (by omega) hbg).mono ?_;rintro e w1 ⟨rfl,hs1,hgr⟩))
   go_ret
   simp only[List.map_cons,unhide HL]
   exact⟨rfl,hs1,grown_trans (grown_setCell (grown_setCell (grown_refl _ _) _ _) _ _) hgr⟩
  ·go_enter Tryz.func172,Tryz.ntmps172
   go_wp2_with (first | (go_at_call 190;refine (variable_any _ _).mono ?_;rintro e w' ⟨rfl,rfl⟩) | (go_at_call 169;refine (ordering_any _ _ _ _ _ { st with kind:=0,var:=(P.varOf o.toList).1 } r _ (by exact (hg.setKind _).setVar _) (by exact (hw'.set hbg _ _).set hbg _ _) hn2 (by omega) hbg).mono ?_;rintro e w1 ⟨rfl,hs1,hgr⟩))
   go_ret
   simp only[List.map_cons,unhide HL]
   exact⟨rfl,hs1,grown_trans (grown_setCell (grown_setCell (grown_refl _ _) _ _) _ _) hgr⟩
end Go.Proofs.YtgceflcbckjjiaaGreatDoor
