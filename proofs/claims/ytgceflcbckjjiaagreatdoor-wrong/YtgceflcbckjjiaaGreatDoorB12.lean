import Derived.Test.YtgceflcbckjjiaaGreatDoorB11
set_option linter.unusedVariables false
set_option linter.unusedSimpArgs false
namespace Go.Proofs.YtgceflcbckjjiaaGreatDoor
open Go Go.RowKit
set_option maxRecDepth 100000
theorem Pasg_len (ws:List (List UInt8)) (h:ws.length<3):P.assignment ws=(P.Stm.zero,false):=by
 match ws,h with
 | [],_=>rfl
 | [_],_=>rfl
 | [_,_],_=>rfl
theorem Pasg_eq (d e c:List UInt8) (r:List (List UInt8)) (h:(e==[61])=false):P.assignment (d::e::c::r)=(P.Stm.zero,false):=by simp[P.assignment,h]
theorem Pasg_reg (d e c:List UInt8) (r:List (List UInt8)) (h:(P.register d).2=false):P.assignment (d::e::c::r)=(P.Stm.zero,false):=by simp[P.assignment,h]
set_option maxHeartbeats 1600000 in
theorem assignment_any (b off n cap:Nat) (ws:List ByteArray) (w:World) (hw:WordsAt w b off ws) (hn:ws.length=n) (hc:n≤cap) (hblt:b<w.heap.size) :
  Calls Tryz.prog 150 #[.slice (some ⟨b,off,none⟩) n cap] w fun e w'=>e=.returned (stmVal (P.assignment (ws.map ByteArray.toList)))∧Below w.heap.size w w':=by
 by_cases h3:n<3
 ·have HE:=hide (Pasg_len (ws.map ByteArray.toList) (by simp;omega))
  go_enter Tryz.func150,Tryz.ntmps150
  go_wp2_with (first | (refine wpList_store_stm (.tmp 2) (.tmp 16) rfl rfl w.heap.size _ P.Stm.zero rfl rfl (by exact StmAt.new _ P.Stm.zero) ?_;intro w2 hs2 hgr2))
  rw[unhide HE]
  refine ret_stm (p:=2) (u:=3) w.heap.size P.Stm.zero false (by kernel_rfl) rfl rfl hs2 rfl ⟨rfl,?_⟩
  exact below_of_new ((Below.refl _ _).alloc (Nat.le_refl _) _) hgr2 (Nat.le_refl _)
 obtain⟨d,e,c,r,rfl⟩:=three_of ws (by omega)
 obtain⟨hd0,_,hw1⟩:=hw.head
 obtain⟨hd1,_,hw2⟩:=hw1.head
 obtain⟨hd2,_,hw3⟩:=hw2.head
 have hn2:r.length=n-3:=by simp at hn;omega
 have hn3:3≤n:=by omega
 have hi1:(1:Int)<(n:Int):=by omega
 have hi2:(2:Int)<(n:Int):=by omega
 clear hn h3 hw hw1
 cases he:e.toList==[61]
 ·have HE:=hide (Pasg_eq d.toList e.toList c.toList (r.map ByteArray.toList) he)
  go_enter Tryz.func150,Tryz.ntmps150
  go_wp2_with (first | (refine wpList_store_stm (.tmp 2) (.tmp 16) rfl rfl w.heap.size _ P.Stm.zero rfl rfl (by exact StmAt.new _ P.Stm.zero) ?_;intro w2 hs2 hgr2))
  simp only[List.map_cons]
  rw[unhide HE]
  refine ret_stm (p:=2) (u:=3) w.heap.size P.Stm.zero false (by kernel_rfl) rfl rfl hs2 rfl ⟨rfl,?_⟩
  exact below_of_new ((Below.refl _ _).alloc (Nat.le_refl _) _) hgr2 (Nat.le_refl _)
 cases hr:(P.register d.toList).2
 ·have HE:=hide (Pasg_reg d.toList e.toList c.toList (r.map ByteArray.toList) hr)
  go_enter Tryz.func150,Tryz.ntmps150
  go_wp2_with (first | (go_at_call 171;refine (register_any _ _).mono ?_;rintro e w' ⟨rfl,rfl⟩) | (refine wpList_store_stm (.tmp 2) (.tmp 26) rfl rfl w.heap.size _ P.Stm.zero rfl rfl (by exact StmAt.new _ P.Stm.zero) ?_;intro w2 hs2 hgr2))
  simp only[List.map_cons]
  rw[unhide HE]
  refine ret_stm (p:=2) (u:=3) w.heap.size P.Stm.zero false (by kernel_rfl) rfl rfl hs2 rfl ⟨rfl,?_⟩
  exact below_of_new ((Below.refl _ _).alloc (Nat.le_refl _) _) hgr2 (Nat.le_refl _)
 cases hl:c.toList==[108,111,97,100]
 rotate_left
 ·have HE:Hid (P.assignment (d.toList::e.toList::c.toList::r.map ByteArray.toList)=P.load { P.Stm.zero with dest:=(P.register d.toList).1 } (r.map ByteArray.toList)):=by
   unfold Hid;simp[P.assignment,he,hr,hl]
  by_cases hcap:cap=3
  ·have hr0:r=[]:=List.eq_nil_of_length_eq_zero (by omega)
   subst hr0
   go_enter Tryz.func150,Tryz.ntmps150
   go_wp2_with (first
    | (go_at_call 171;refine (register_any _ _).mono ?_;rintro e w' ⟨rfl,rfl⟩)
    | (go_at_call 172;refine (load_any (w.heap.size+1) _ _ _ _ { P.Stm.zero with dest:=(P.register d.toList).1 } [] _ (by exact twoNew_at w { P.Stm.zero with dest:=(P.register d.toList).1 }) (WordsAt.nil _ _ _) (by simp;omega) (by omega) (by omega)).mono ?_;rintro e w1 ⟨rfl,hs1,hgr⟩;obtain⟨hz,hb⟩:=twoNew_kept (w:=w) (t:={ P.Stm.zero with dest:=(P.register d.toList).1 }) (w1:=w1) hgr)
    | (refine wpList_load_stm (.tmp 6) rfl rfl (w.heap.size+1) _ rfl hs1 ?_)
    | (refine wpList_store_stm (.tmp 2) (.tmp 50) rfl rfl w.heap.size _ _ rfl rfl (by exact hz) ?_;intro w2 hs2 hgr2))
   simp only[List.map_cons]
   rw[unhide HE]
   refine ret_stm (p:=2) (u:=3) w.heap.size _ _ (by kernel_rfl) rfl rfl hs2 rfl ⟨rfl,below_of_new hb hgr2 (Nat.le_refl _)⟩
  ·go_enter Tryz.func150,Tryz.ntmps150
   go_wp2_with (first
    | (go_at_call 171;refine (register_any _ _).mono ?_;rintro e w' ⟨rfl,rfl⟩)
    | (go_at_call 172;refine (load_any (w.heap.size+1) _ _ _ _ { P.Stm.zero with dest:=(P.register d.toList).1 } r _ (by exact twoNew_at w { P.Stm.zero with dest:=(P.register d.toList).1 }) (by exact WordsAt.twoNew (off:=off+3) hw3 { P.Stm.zero with dest:=(P.register d.toList).1 }) hn2 (by omega) (by omega)).mono ?_;rintro e w1 ⟨rfl,hs1,hgr⟩;obtain⟨hz,hb⟩:=twoNew_kept (w:=w) (t:={ P.Stm.zero with dest:=(P.register d.toList).1 }) (w1:=w1) hgr)
    | (refine wpList_load_stm (.tmp 6) rfl rfl (w.heap.size+1) _ rfl hs1 ?_)
    | (refine wpList_store_stm (.tmp 2) (.tmp 50) rfl rfl w.heap.size _ _ rfl rfl (by exact hz) ?_;intro w2 hs2 hgr2))
   simp only[List.map_cons]
   rw[unhide HE]
   refine ret_stm (p:=2) (u:=3) w.heap.size _ _ (by kernel_rfl) rfl rfl hs2 rfl ⟨rfl,below_of_new hb hgr2 (Nat.le_refl _)⟩
 cases ha:c.toList==[97,100,100]
 rotate_left
 ·have HE:Hid (P.assignment (d.toList::e.toList::c.toList::r.map ByteArray.toList)=P.step { P.Stm.zero with dest:=(P.register d.toList).1 } 2 (r.map ByteArray.toList)):=by
   unfold Hid;simp[P.assignment,he,hr,hl,ha]
  by_cases hcap:cap=3
  ·have hr0:r=[]:=List.eq_nil_of_length_eq_zero (by omega)
   subst hr0
   go_enter Tryz.func150,Tryz.ntmps150
   go_wp2_with (first
    | (go_at_call 171;refine (register_any _ _).mono ?_;rintro e w' ⟨rfl,rfl⟩)
    | (go_at_call 173;refine (step_any (w.heap.size+1) _ _ _ _ 2 { P.Stm.zero with dest:=(P.register d.toList).1 } [] _ (by exact twoNew_at w { P.Stm.zero with dest:=(P.register d.toList).1 }) (WordsAt.nil _ _ _) (by simp;omega) (by omega) (by omega)).mono ?_;rintro e w1 ⟨rfl,hs1,hgr⟩;obtain⟨hz,hb⟩:=twoNew_kept (w:=w) (t:={ P.Stm.zero with dest:=(P.register d.toList).1 }) (w1:=w1) hgr)
    | (refine wpList_load_stm (.tmp 6) rfl rfl (w.heap.size+1) _ rfl hs1 ?_)
    | (refine wpList_store_stm (.tmp 2) (.tmp 50) rfl rfl w.heap.size _ _ rfl rfl (by exact hz) ?_;intro w2 hs2 hgr2))
   simp only[List.map_cons]
   rw[unhide HE]
   refine ret_stm (p:=2) (u:=3) w.heap.size _ _ (by kernel_rfl) rfl rfl hs2 rfl ⟨rfl,below_of_new hb hgr2 (Nat.le_refl _)⟩
  ·go_enter Tryz.func150,Tryz.ntmps150
   go_wp2_with (first
    | (go_at_call 171;refine (register_any _ _).mono ?_;rintro e w' ⟨rfl,rfl⟩)
    | (go_at_call 173;refine (step_any (w.heap.size+1) _ _ _ _ 2 { P.Stm.zero with dest:=(P.register d.toList).1 } r _ (by exact twoNew_at w { P.Stm.zero with dest:=(P.register d.toList).1 }) (by exact WordsAt.twoNew (off:=off+3) hw3 { P.Stm.zero with dest:=(P.register d.toList).1 }) hn2 (by omega) (by omega)).mono ?_;rintro e w1 ⟨rfl,hs1,hgr⟩;obtain⟨hz,hb⟩:=twoNew_kept (w:=w) (t:={ P.Stm.zero with dest:=(P.register d.toList).1 }) (w1:=w1) hgr)
    | (refine wpList_load_stm (.tmp 6) rfl rfl (w.heap.size+1) _ rfl hs1 ?_)
    | (refine wpList_store_stm (.tmp 2) (.tmp 50) rfl rfl w.heap.size _ _ rfl rfl (by exact hz) ?_;intro w2 hs2 hgr2))
   simp only[List.map_cons]
   rw[unhide HE]
   refine ret_stm (p:=2) (u:=3) w.heap.size _ _ (by kernel_rfl) rfl rfl hs2 rfl ⟨rfl,below_of_new hb hgr2 (Nat.le_refl _)⟩
 cases hs:c.toList==[115,119,97,112]
 rotate_left
 ·have HE:Hid (P.assignment (d.toList::e.toList::c.toList::r.map ByteArray.toList)=P.step { P.Stm.zero with dest:=(P.register d.toList).1 } 3 (r.map ByteArray.toList)):=by
   unfold Hid;simp[P.assignment,he,hr,hl,ha,hs]
  by_cases hcap:cap=3
  ·have hr0:r=[]:=List.eq_nil_of_length_eq_zero (by omega)
   subst hr0
   go_enter Tryz.func150,Tryz.ntmps150
   go_wp2_with (first
    | (go_at_call 171;refine (register_any _ _).mono ?_;rintro e w' ⟨rfl,rfl⟩)
    | (go_at_call 173;refine (step_any (w.heap.size+1) _ _ _ _ 3 { P.Stm.zero with dest:=(P.register d.toList).1 } [] _ (by exact twoNew_at w { P.Stm.zero with dest:=(P.register d.toList).1 }) (WordsAt.nil _ _ _) (by simp;omega) (by omega) (by omega)).mono ?_;rintro e w1 ⟨rfl,hs1,hgr⟩;obtain⟨hz,hb⟩:=twoNew_kept (w:=w) (t:={ P.Stm.zero with dest:=(P.register d.toList).1 }) (w1:=w1) hgr)
    | (refine wpList_load_stm (.tmp 6) rfl rfl (w.heap.size+1) _ rfl hs1 ?_)
    | (refine wpList_store_stm (.tmp 2) (.tmp 50) rfl rfl w.heap.size _ _ rfl rfl (by exact hz) ?_;intro w2 hs2 hgr2))
   simp only[List.map_cons]
   rw[unhide HE]
   refine ret_stm (p:=2) (u:=3) w.heap.size _ _ (by kernel_rfl) rfl rfl hs2 rfl ⟨rfl,below_of_new hb hgr2 (Nat.le_refl _)⟩
  ·go_enter Tryz.func150,Tryz.ntmps150
   go_wp2_with (first
    | (go_at_call 171;refine (register_any _ _).mono ?_;rintro e w' ⟨rfl,rfl⟩)
    | (go_at_call 173;refine (step_any (w.heap.size+1) _ _ _ _ 3 { P.Stm.zero with dest:=(P.register d.toList).1 } r _ (by exact twoNew_at w { P.Stm.zero with dest:=(P.register d.toList).1 }) (by exact WordsAt.twoNew (off:=off+3) hw3 { P.Stm.zero with dest:=(P.register d.toList).1 }) hn2 (by omega) (by omega)).mono ?_;rintro e w1 ⟨rfl,hs1,hgr⟩;obtain⟨hz,hb⟩:=twoNew_kept (w:=w) (t:={ P.Stm.zero with dest:=(P.register d.toList).1 }) (w1:=w1) hgr)
    | (refine wpList_load_stm (.tmp 6) rfl rfl (w.heap.size+1) _ rfl hs1 ?_)
    | (refine wpList_store_stm (.tmp 2) (.tmp 50) rfl rfl w.heap.size _ _ rfl rfl (by exact hz) ?_;intro w2 hs2 hgr2))
   simp only[List.map_cons]
   rw[unhide HE]
   refine ret_stm (p:=2) (u:=3) w.heap.size _ _ (by kernel_rfl) rfl rfl hs2 rfl ⟨rfl,below_of_new hb hgr2 (Nat.le_refl _)⟩
 have HE:Hid (P.assignment (d.toList::e.toList::c.toList::r.map ByteArray.toList)=P.sum { P.Stm.zero with dest:=(P.register d.toList).1 } (c.toList::r.map ByteArray.toList)):=by
  unfold Hid;simp[P.assignment,he,hr,hl,ha,hs]
 have hcap:¬ cap=2:=by omega
 go_enter Tryz.func150,Tryz.ntmps150
 go_wp2_with (first
  | (go_at_call 171;refine (register_any _ _).mono ?_;rintro e w' ⟨rfl,rfl⟩)
  | (go_at_call 174;refine (sum_any (w.heap.size+1) _ _ _ _ { P.Stm.zero with dest:=(P.register d.toList).1 } (c::r) _ (by exact twoNew_at w { P.Stm.zero with dest:=(P.register d.toList).1 }) (by exact WordsAt.twoNew (off:=off+2) hw2 { P.Stm.zero with dest:=(P.register d.toList).1 }) (by simp;omega) (by omega)).mono ?_;rintro e w1 ⟨rfl,hs1,hgr⟩;obtain⟨hz,hb⟩:=twoNew_kept (w:=w) (t:={ P.Stm.zero with dest:=(P.register d.toList).1 }) (w1:=w1) hgr)
  | (refine wpList_load_stm (.tmp 6) rfl rfl (w.heap.size+1) _ rfl hs1 ?_)
  | (refine wpList_store_stm (.tmp 2) (.tmp 50) rfl rfl w.heap.size _ _ rfl rfl (by exact hz) ?_;intro w2 hs2 hgr2))
 simp only[List.map_cons]
 rw[unhide HE]
 refine ret_stm (p:=2) (u:=3) w.heap.size _ _ (by kernel_rfl) rfl rfl hs2 rfl ⟨rfl,below_of_new hb hgr2 (Nat.le_refl _)⟩
end Go.Proofs.YtgceflcbckjjiaaGreatDoor
