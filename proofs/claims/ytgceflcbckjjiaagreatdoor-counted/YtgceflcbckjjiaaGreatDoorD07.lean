import Derived.Test.YtgceflcbckjjiaaGreatDoorD06
import Derived.Test.YtgceflcbckjjiaaGreatDoorD05
set_option linter.unusedVariables false
set_option linter.unusedSimpArgs false
set_option maxHeartbeats 12800000
namespace Go.Proofs.YtgceflcbckjjiaaGreatDoor
open Go Go.RowKit
set_option maxRecDepth 100000
theorem zHP (ws:List (List UInt8)) (h:ws.length<3):P.zKl ws=(P.Stm.zero,false):=by
 match ws,h with
 | [],_=>rfl
 | [_],_=>rfl
 | [_,_],_=>rfl
theorem zIH (d e c:List UInt8) (r:List (List UInt8)) (h:(e==[61])=false):P.zKl (d::e::c::r)=(P.Stm.zero,false):=by simp[P.zKl,h]
theorem zHQ (d e c:List UInt8) (r:List (List UInt8)) (h:(P.zKc d).2=false):P.zKl (d::e::c::r)=(P.Stm.zero,false):=by simp[P.zKl,h]
theorem zEc (b off n cap:Nat) (ws:List ByteArray) (w:World) (hw:zAz w b off ws) (hn:ws.length=n) (hc:n≤cap) (hblt:b<w.heap.size) :
  Calls Tryz.prog 150 #[.slice (some ⟨b,off,none⟩) n cap] w fun e w'=>e=.returned (zCl (P.zKl (ws.map ByteArray.toList)))∧Below w.heap.size w w':=by
 by_cases h3:n<3
 ·have HE:=zAa (zHP (ws.map ByteArray.toList) (by simp;omega))
  go_enter Tryz.func150,Tryz.ntmps150
  go_wp2_with (first | (refine zAm (.tmp 2) (.tmp 16) rfl rfl w.heap.size _ P.Stm.zero rfl rfl (by exact zAw.new _ P.Stm.zero) ?_;intro w2 hs2 hgr2))
  rw[zAB HE]
  refine zAX (p:=2) (u:=3) w.heap.size P.Stm.zero false (by kernel_rfl) rfl rfl hs2 rfl ⟨rfl,?_⟩
  exact zAy ((Below.refl _ _).alloc (Nat.le_refl _) _) hgr2 (Nat.le_refl _)
 obtain⟨d,e,c,r,rfl⟩:=zGc ws (by omega)
 obtain⟨hd0,_,hw1⟩:=hw.head
 obtain⟨hd1,_,hw2⟩:=hw1.head
 obtain⟨hd2,_,hw3⟩:=hw2.head
 have hn2:r.length=n-3:=by simp at hn;omega
 have hn3:3≤n:=by omega
 have hi1:(1:Int)<(n:Int):=by omega
 have hi2:(2:Int)<(n:Int):=by omega
 clear hn h3 hw hw1
 cases he:e.toList==[61]
 ·have HE:=zAa (zIH d.toList e.toList c.toList (r.map ByteArray.toList) he)
  go_enter Tryz.func150,Tryz.ntmps150
  go_wp2_with (first | (refine zAm (.tmp 2) (.tmp 16) rfl rfl w.heap.size _ P.Stm.zero rfl rfl (by exact zAw.new _ P.Stm.zero) ?_;intro w2 hs2 hgr2))
  simp only[List.map_cons]
  rw[zAB HE]
  refine zAX (p:=2) (u:=3) w.heap.size P.Stm.zero false (by kernel_rfl) rfl rfl hs2 rfl ⟨rfl,?_⟩
  exact zAy ((Below.refl _ _).alloc (Nat.le_refl _) _) hgr2 (Nat.le_refl _)
 cases hr:(P.zKc d.toList).2
 ·have HE:=zAa (zHQ d.toList e.toList c.toList (r.map ByteArray.toList) hr)
  go_enter Tryz.func150,Tryz.ntmps150
  go_wp2_with (first | (go_at_call 171;refine (zBb _ _).mono ?_;rintro e w' ⟨rfl,rfl⟩) | (refine zAm (.tmp 2) (.tmp 26) rfl rfl w.heap.size _ P.Stm.zero rfl rfl (by exact zAw.new _ P.Stm.zero) ?_;intro w2 hs2 hgr2))
  simp only[List.map_cons]
  rw[zAB HE]
  refine zAX (p:=2) (u:=3) w.heap.size P.Stm.zero false (by kernel_rfl) rfl rfl hs2 rfl ⟨rfl,?_⟩
  exact zAy ((Below.refl _ _).alloc (Nat.le_refl _) _) hgr2 (Nat.le_refl _)
 cases hl:c.toList==[108,111,97,100]
 rotate_left
 ·have HE:Hid (P.zKl (d.toList::e.toList::c.toList::r.map ByteArray.toList)=P.load { P.Stm.zero with dest:=(P.zKc d.toList).1 } (r.map ByteArray.toList)):=by
   unfold Hid;simp[P.zKl,he,hr,hl]
  by_cases hcap:cap=3
  ·have hr0:r=[]:=List.eq_nil_of_length_eq_zero (by omega)
   subst hr0
   go_enter Tryz.func150,Tryz.ntmps150
   go_wp2_with (first
    | (go_at_call 171;refine (zBb _ _).mono ?_;rintro e w' ⟨rfl,rfl⟩)
    | (go_at_call 172;refine (zGb (w.heap.size+1) _ _ _ _ { P.Stm.zero with dest:=(P.zKc d.toList).1 } [] _ (by exact zBw w { P.Stm.zero with dest:=(P.zKc d.toList).1 }) (zAz.nil _ _ _) (by simp;omega) (by omega) (by omega)).mono ?_;rintro e w1 ⟨rfl,hs1,hgr⟩;obtain⟨hz,hb⟩:=zBe (w:=w) (t:={ P.Stm.zero with dest:=(P.zKc d.toList).1 }) (w1:=w1) hgr)
    | (refine zAp (.tmp 6) rfl rfl (w.heap.size+1) _ rfl hs1 ?_)
    | (refine zAm (.tmp 2) (.tmp 50) rfl rfl w.heap.size _ _ rfl rfl (by exact hz) ?_;intro w2 hs2 hgr2))
   simp only[List.map_cons]
   rw[zAB HE]
   refine zAX (p:=2) (u:=3) w.heap.size _ _ (by kernel_rfl) rfl rfl hs2 rfl ⟨rfl,zAy hb hgr2 (Nat.le_refl _)⟩
  ·go_enter Tryz.func150,Tryz.ntmps150
   go_wp2_with (first
    | (go_at_call 171;refine (zBb _ _).mono ?_;rintro e w' ⟨rfl,rfl⟩)
    | (go_at_call 172;refine (zGb (w.heap.size+1) _ _ _ _ { P.Stm.zero with dest:=(P.zKc d.toList).1 } r _ (by exact zBw w { P.Stm.zero with dest:=(P.zKc d.toList).1 }) (by exact zAz.twoNew (off:=off+3) hw3 { P.Stm.zero with dest:=(P.zKc d.toList).1 }) hn2 (by omega) (by omega)).mono ?_;rintro e w1 ⟨rfl,hs1,hgr⟩;obtain⟨hz,hb⟩:=zBe (w:=w) (t:={ P.Stm.zero with dest:=(P.zKc d.toList).1 }) (w1:=w1) hgr)
    | (refine zAp (.tmp 6) rfl rfl (w.heap.size+1) _ rfl hs1 ?_)
    | (refine zAm (.tmp 2) (.tmp 50) rfl rfl w.heap.size _ _ rfl rfl (by exact hz) ?_;intro w2 hs2 hgr2))
   simp only[List.map_cons]
   rw[zAB HE]
   refine zAX (p:=2) (u:=3) w.heap.size _ _ (by kernel_rfl) rfl rfl hs2 rfl ⟨rfl,zAy hb hgr2 (Nat.le_refl _)⟩
 cases ha:c.toList==[97,100,100]
 rotate_left
 ·have HE:Hid (P.zKl (d.toList::e.toList::c.toList::r.map ByteArray.toList)=P.step { P.Stm.zero with dest:=(P.zKc d.toList).1 } 2 (r.map ByteArray.toList)):=by
   unfold Hid;simp[P.zKl,he,hr,hl,ha]
  by_cases hcap:cap=3
  ·have hr0:r=[]:=List.eq_nil_of_length_eq_zero (by omega)
   subst hr0
   go_enter Tryz.func150,Tryz.ntmps150
   go_wp2_with (first
    | (go_at_call 171;refine (zBb _ _).mono ?_;rintro e w' ⟨rfl,rfl⟩)
    | (go_at_call 173;refine (zDz (w.heap.size+1) _ _ _ _ 2 { P.Stm.zero with dest:=(P.zKc d.toList).1 } [] _ (by exact zBw w { P.Stm.zero with dest:=(P.zKc d.toList).1 }) (zAz.nil _ _ _) (by simp;omega) (by omega) (by omega)).mono ?_;rintro e w1 ⟨rfl,hs1,hgr⟩;obtain⟨hz,hb⟩:=zBe (w:=w) (t:={ P.Stm.zero with dest:=(P.zKc d.toList).1 }) (w1:=w1) hgr)
    | (refine zAp (.tmp 6) rfl rfl (w.heap.size+1) _ rfl hs1 ?_)
    | (refine zAm (.tmp 2) (.tmp 50) rfl rfl w.heap.size _ _ rfl rfl (by exact hz) ?_;intro w2 hs2 hgr2))
   simp only[List.map_cons]
   rw[zAB HE]
   refine zAX (p:=2) (u:=3) w.heap.size _ _ (by kernel_rfl) rfl rfl hs2 rfl ⟨rfl,zAy hb hgr2 (Nat.le_refl _)⟩
  ·go_enter Tryz.func150,Tryz.ntmps150
   go_wp2_with (first
    | (go_at_call 171;refine (zBb _ _).mono ?_;rintro e w' ⟨rfl,rfl⟩)
    | (go_at_call 173;refine (zDz (w.heap.size+1) _ _ _ _ 2 { P.Stm.zero with dest:=(P.zKc d.toList).1 } r _ (by exact zBw w { P.Stm.zero with dest:=(P.zKc d.toList).1 }) (by exact zAz.twoNew (off:=off+3) hw3 { P.Stm.zero with dest:=(P.zKc d.toList).1 }) hn2 (by omega) (by omega)).mono ?_;rintro e w1 ⟨rfl,hs1,hgr⟩;obtain⟨hz,hb⟩:=zBe (w:=w) (t:={ P.Stm.zero with dest:=(P.zKc d.toList).1 }) (w1:=w1) hgr)
    | (refine zAp (.tmp 6) rfl rfl (w.heap.size+1) _ rfl hs1 ?_)
    | (refine zAm (.tmp 2) (.tmp 50) rfl rfl w.heap.size _ _ rfl rfl (by exact hz) ?_;intro w2 hs2 hgr2))
   simp only[List.map_cons]
   rw[zAB HE]
   refine zAX (p:=2) (u:=3) w.heap.size _ _ (by kernel_rfl) rfl rfl hs2 rfl ⟨rfl,zAy hb hgr2 (Nat.le_refl _)⟩
 cases hs:c.toList==[115,119,97,112]
 rotate_left
 ·have HE:Hid (P.zKl (d.toList::e.toList::c.toList::r.map ByteArray.toList)=P.step { P.Stm.zero with dest:=(P.zKc d.toList).1 } 3 (r.map ByteArray.toList)):=by
   unfold Hid;simp[P.zKl,he,hr,hl,ha,hs]
  by_cases hcap:cap=3
  ·have hr0:r=[]:=List.eq_nil_of_length_eq_zero (by omega)
   subst hr0
   go_enter Tryz.func150,Tryz.ntmps150
   go_wp2_with (first
    | (go_at_call 171;refine (zBb _ _).mono ?_;rintro e w' ⟨rfl,rfl⟩)
    | (go_at_call 173;refine (zDz (w.heap.size+1) _ _ _ _ 3 { P.Stm.zero with dest:=(P.zKc d.toList).1 } [] _ (by exact zBw w { P.Stm.zero with dest:=(P.zKc d.toList).1 }) (zAz.nil _ _ _) (by simp;omega) (by omega) (by omega)).mono ?_;rintro e w1 ⟨rfl,hs1,hgr⟩;obtain⟨hz,hb⟩:=zBe (w:=w) (t:={ P.Stm.zero with dest:=(P.zKc d.toList).1 }) (w1:=w1) hgr)
    | (refine zAp (.tmp 6) rfl rfl (w.heap.size+1) _ rfl hs1 ?_)
    | (refine zAm (.tmp 2) (.tmp 50) rfl rfl w.heap.size _ _ rfl rfl (by exact hz) ?_;intro w2 hs2 hgr2))
   simp only[List.map_cons]
   rw[zAB HE]
   refine zAX (p:=2) (u:=3) w.heap.size _ _ (by kernel_rfl) rfl rfl hs2 rfl ⟨rfl,zAy hb hgr2 (Nat.le_refl _)⟩
  ·go_enter Tryz.func150,Tryz.ntmps150
   go_wp2_with (first
    | (go_at_call 171;refine (zBb _ _).mono ?_;rintro e w' ⟨rfl,rfl⟩)
    | (go_at_call 173;refine (zDz (w.heap.size+1) _ _ _ _ 3 { P.Stm.zero with dest:=(P.zKc d.toList).1 } r _ (by exact zBw w { P.Stm.zero with dest:=(P.zKc d.toList).1 }) (by exact zAz.twoNew (off:=off+3) hw3 { P.Stm.zero with dest:=(P.zKc d.toList).1 }) hn2 (by omega) (by omega)).mono ?_;rintro e w1 ⟨rfl,hs1,hgr⟩;obtain⟨hz,hb⟩:=zBe (w:=w) (t:={ P.Stm.zero with dest:=(P.zKc d.toList).1 }) (w1:=w1) hgr)
    | (refine zAp (.tmp 6) rfl rfl (w.heap.size+1) _ rfl hs1 ?_)
    | (refine zAm (.tmp 2) (.tmp 50) rfl rfl w.heap.size _ _ rfl rfl (by exact hz) ?_;intro w2 hs2 hgr2))
   simp only[List.map_cons]
   rw[zAB HE]
   refine zAX (p:=2) (u:=3) w.heap.size _ _ (by kernel_rfl) rfl rfl hs2 rfl ⟨rfl,zAy hb hgr2 (Nat.le_refl _)⟩
 have HE:Hid (P.zKl (d.toList::e.toList::c.toList::r.map ByteArray.toList)=P.sum { P.Stm.zero with dest:=(P.zKc d.toList).1 } (c.toList::r.map ByteArray.toList)):=by
  unfold Hid;simp[P.zKl,he,hr,hl,ha,hs]
 have hcap:¬ cap=2:=by omega
 go_enter Tryz.func150,Tryz.ntmps150
 go_wp2_with (first
  | (go_at_call 171;refine (zBb _ _).mono ?_;rintro e w' ⟨rfl,rfl⟩)
  | (go_at_call 174;refine (zIG (w.heap.size+1) _ _ _ _ { P.Stm.zero with dest:=(P.zKc d.toList).1 } (c::r) _ (by exact zBw w { P.Stm.zero with dest:=(P.zKc d.toList).1 }) (by exact zAz.twoNew (off:=off+2) hw2 { P.Stm.zero with dest:=(P.zKc d.toList).1 }) (by simp;omega) (by omega)).mono ?_;rintro e w1 ⟨rfl,hs1,hgr⟩;obtain⟨hz,hb⟩:=zBe (w:=w) (t:={ P.Stm.zero with dest:=(P.zKc d.toList).1 }) (w1:=w1) hgr)
  | (refine zAp (.tmp 6) rfl rfl (w.heap.size+1) _ rfl hs1 ?_)
  | (refine zAm (.tmp 2) (.tmp 50) rfl rfl w.heap.size _ _ rfl rfl (by exact hz) ?_;intro w2 hs2 hgr2))
 simp only[List.map_cons]
 rw[zAB HE]
 refine zAX (p:=2) (u:=3) w.heap.size _ _ (by kernel_rfl) rfl rfl hs2 rfl ⟨rfl,zAy hb hgr2 (Nat.le_refl _)⟩
theorem zCN (b off n cap:Nat) (c:ByteArray) (r:List ByteArray) (w:World) (hw:zAz w b off (c::r)) (hn:r.length=n-1) (hn1:1≤n) (hc:n≤cap) (hblt:b<w.heap.size) :
  Calls Tryz.prog 100 #[.slice (some ⟨b,off,none⟩) n cap] w fun e w'=>e=.returned (zCl (P.zKm ((c::r).map ByteArray.toList)))∧Below w.heap.size w w':=by
 obtain⟨hd,_,_⟩:=hw.head
 have hn0:(c::r).length=n:=by simp;omega
 have hr1:((n:Int)==1)=(r.map ByteArray.toList).isEmpty:=by
  cases r with
  | nil=>simp at hn;simp;omega
  | cons a q=>simp at hn;simp;omega
 have hz:((n:Int)==0)=false:=by simp;omega
 cases h1:c.toList==[115,116,111,114,101]
 rotate_left
 ·have HE:Hid (P.zKm (c.toList::r.map ByteArray.toList)=P.store (c.toList::r.map ByteArray.toList)):=by
   unfold Hid;simp[P.zKm,h1]
  go_enter Tryz.func100,Tryz.ntmps100
  go_wp2_with (first
   | (go_at_call 147;refine (zHb _ _ _ _ (c::r) _ (by exact hw.alloc _) hn0 hc (by simp;omega)).mono ?_;rintro e w1 ⟨he,hb⟩;rw[zCl] at he;subst he;have hr:=(zAw.new w P.Stm.zero).below hb)
   | (refine zAm (.tmp 2) (.tmp 15) rfl rfl w.heap.size _ _ rfl rfl (by exact hr) ?_;intro w2 hs2 hgr2))
  try simp only[List.map_cons]
  rw[zAB HE]
  refine zAX (p:=2) (u:=3) w.heap.size _ _ (by kernel_rfl) rfl rfl hs2 rfl ⟨rfl,?_⟩
  exact zAy (((Below.refl _ _).alloc (Nat.le_refl _) _).trans (hb.mono (by simp))) hgr2 (Nat.le_refl _)
 cases h2:c.toList==[102,101,110,99,101]
 rotate_left
 ·have HE:Hid (P.zKm (c.toList::r.map ByteArray.toList)=P.fence (c.toList::r.map ByteArray.toList)):=by
   unfold Hid;simp[P.zKm,h1,h2]
  go_enter Tryz.func100,Tryz.ntmps100
  go_wp2_with (first
   | (go_at_call 148;refine (zHa _ _ _ _ c r _ (by exact hw.alloc _) hn hn1 hc).mono ?_;rintro e w1 ⟨he,hb⟩;rw[zCl] at he;subst he;have hr:=(zAw.new w P.Stm.zero).below hb)
   | (refine zAm (.tmp 2) (.tmp 21) rfl rfl w.heap.size _ _ rfl rfl (by exact hr) ?_;intro w2 hs2 hgr2))
  try simp only[List.map_cons]
  rw[zAB HE]
  refine zAX (p:=2) (u:=3) w.heap.size _ _ (by kernel_rfl) rfl rfl hs2 rfl ⟨rfl,?_⟩
  exact zAy (((Below.refl _ _).alloc (Nat.le_refl _) _).trans (hb.mono (by simp))) hgr2 (Nat.le_refl _)
 cases h3:c.toList==[98,97,114,114,105,101,114]
 rotate_left
 ·have HE:Hid (P.zKm (c.toList::r.map ByteArray.toList)=({ P.Stm.zero with kind:=5 },(r.map ByteArray.toList).isEmpty)):=by
   unfold Hid;simp[P.zKm,h1,h2,h3]
  go_enter Tryz.func100,Tryz.ntmps100
  go_wp2_with (first
   | (refine zAm (.tmp 2) (.tmp 25) rfl rfl w.heap.size _ { P.Stm.zero with kind:=5 } rfl rfl (by exact zAw.new w P.Stm.zero) ?_;intro w2 hs2 hgr2))
  try simp only[List.map_cons]
  rw[zAB HE]
  refine zAX (p:=2) (u:=3) w.heap.size { P.Stm.zero with kind:=5 } _ (by kernel_rfl) rfl (by simp) hs2 rfl ⟨rfl,?_⟩
  exact zAy ((Below.refl _ _).alloc (Nat.le_refl _) _) hgr2 (Nat.le_refl _)
 cases h4:c.toList==[105,102]
 rotate_left
 ·have HE:Hid (P.zKm (c.toList::r.map ByteArray.toList)=P.zLE (c.toList::r.map ByteArray.toList)):=by
   unfold Hid;simp[P.zKm,h1,h2,h3,h4]
  go_enter Tryz.func100,Tryz.ntmps100
  go_wp2_with (first
   | (go_at_call 149;refine (zEw _ _ _ _ (c::r) _ (by exact hw.alloc _) hn0).mono ?_;rintro e w1 ⟨he,hb⟩;rw[zCl] at he;subst he;have hr:=(zAw.new w P.Stm.zero).below hb)
   | (refine zAm (.tmp 2) (.tmp 33) rfl rfl w.heap.size _ _ rfl rfl (by exact hr) ?_;intro w2 hs2 hgr2))
  try simp only[List.map_cons]
  rw[zAB HE]
  refine zAX (p:=2) (u:=3) w.heap.size _ _ (by kernel_rfl) rfl rfl hs2 rfl ⟨rfl,?_⟩
  exact zAy (((Below.refl _ _).alloc (Nat.le_refl _) _).trans (hb.mono (by simp))) hgr2 (Nat.le_refl _)
 cases h5:c.toList==[101,110,100]
 rotate_left
 ·have HE:Hid (P.zKm (c.toList::r.map ByteArray.toList)=({ P.Stm.zero with kind:=11 },(r.map ByteArray.toList).isEmpty)):=by
   unfold Hid;simp[P.zKm,h1,h2,h3,h4,h5]
  go_enter Tryz.func100,Tryz.ntmps100
  go_wp2_with (first
   | (refine zAm (.tmp 2) (.tmp 37) rfl rfl w.heap.size _ { P.Stm.zero with kind:=11 } rfl rfl (by exact zAw.new w P.Stm.zero) ?_;intro w2 hs2 hgr2))
  try simp only[List.map_cons]
  rw[zAB HE]
  refine zAX (p:=2) (u:=3) w.heap.size { P.Stm.zero with kind:=11 } _ (by kernel_rfl) rfl (by simp) hs2 rfl ⟨rfl,?_⟩
  exact zAy ((Below.refl _ _).alloc (Nat.le_refl _) _) hgr2 (Nat.le_refl _)
 have HE:Hid (P.zKm (c.toList::r.map ByteArray.toList)=P.zKl (c.toList::r.map ByteArray.toList)):=by
  unfold Hid;simp[P.zKm,h1,h2,h3,h4,h5]
 go_enter Tryz.func100,Tryz.ntmps100
 go_wp2_with (first
  | (go_at_call 150;refine (zEc _ _ _ _ (c::r) _ (by exact hw.alloc _) hn0 hc (by simp;omega)).mono ?_;rintro e w1 ⟨he,hb⟩;rw[zCl] at he;subst he;have hr:=(zAw.new w P.Stm.zero).below hb)
  | (refine zAm (.tmp 2) (.tmp 43) rfl rfl w.heap.size _ _ rfl rfl (by exact hr) ?_;intro w2 hs2 hgr2))
 simp only[List.map_cons]
 rw[zAB HE]
 refine zAX (p:=2) (u:=3) w.heap.size _ _ (by kernel_rfl) rfl rfl hs2 rfl ⟨rfl,?_⟩
 exact zAy (((Below.refl _ _).alloc (Nat.le_refl _) _).trans (hb.mono (by simp))) hgr2 (Nat.le_refl _)
theorem zEN (r:P.Rd) (c:List UInt8) (rs:List (List UInt8)) (h:(c==[116,104,114,101,97,100])=true):P.takes r (c::rs)=P.zKX r (c::rs):=by
 have:c=[116,104,114,101,97,100]:=by simpa using h
 simp[P.takes,this]
theorem RdIn.forms {w:World} {B g:Nat} {r:P.Rd} {tv ov:Value} {vs:List Value} (h:RdIn w B g r tv ov vs):∃ ta tc oa oc,tv=.slice ta r.threads.length tc∧ov=.slice oa r.opn.length oc:=by
 have h1:∃ a c,ov=.slice a r.opn.length c:=by
  rcases h.opn.2 with ⟨e,h0⟩ | ⟨k,c,cur,e,_⟩
  ·exact⟨none,0,by rw[e,h0]⟩
  ·exact⟨_,c,e⟩
 have h2:∃ a c,tv=.slice a r.threads.length c:=by
  rcases h.threads.2 with ⟨e,h0⟩ | ⟨k,c,cur,e,_⟩
  ·exact⟨none,0,by rw[e,h0]⟩
  ·exact⟨_,c,e⟩
 obtain⟨oa,oc,e1⟩:=h1
 obtain⟨ta,tc,e2⟩:=h2
 exact⟨ta,tc,oa,oc,e2,e1⟩
theorem zCv.counted {w:World} {B g:Nat} {r:P.Rd} (h:zCv w B g r) (x:Int):zCv (w.setCell ⟨g,2,none⟩ (.int .i64 x)) B g { r with count:=x }:=by
 obtain⟨tv,ov,vs,h⟩:=h
 exact⟨tv,ov,vs,h.setG { r with count:=x } ov 2 (.int .i64 x) rfl h.opn rfl⟩
theorem zCv.lined {w:World} {B g:Nat} {r:P.Rd} (h:zCv w B g r) (x:Int):zCv w B g { r with line:=x }:=by
 obtain⟨tv,ov,vs,h⟩:=h
 exact⟨tv,ov,vs,⟨h.cells,h.threads,h.opn,h.stmts⟩⟩
theorem zCv.alloc {w:World} {B g:Nat} {r:P.Rd} (h:zCv w B g r) (o:Obj):zCv (w.alloc o) B g r:=h.below ((Below.refl _ _).alloc (Nat.le_refl _) _)
theorem zCv.drew {w:World} {B g:Nat} {r:P.Rd} (h:zCv w B g r):zCv w.drew B g r:=h.below (Below.refl _ _).drew
theorem zFw (B g:Nat) (r:P.Rd) (st:P.Stm) (w:World) (h:zCv w B g r) (hB:B≤w.heap.size) (ho:2≤r.opn.length) :
  Calls Tryz.prog 152 #[.pointer (some ⟨g,0,none⟩),.agg (zAb st)] w fun e w'=>e=.returned (.bool false)∧zCv w' B g r∧BelowX B g w w':=by
 have hA:=zAa h
 obtain⟨tv,ov,vs,h⟩:=h
 obtain⟨ta,tc,oa,oc,rfl,rfl⟩:=h.forms
 obtain⟨glt,gfr,g0,g1,g2,g3,g4⟩:=h.facts
 have ho':(2:Int)≤(r.opn.length:Int):=by omega
 clear h
 go_enter Tryz.func152,Tryz.ntmps152
 go_wp2
 go_ret
 exact⟨rfl,hA.out.alloc _,(BelowX.refl _ _ _).alloc hB _⟩
theorem zHc (r:P.Rd) (st:P.Stm) (h:r.threads=[]):P.putD r st=(r,false):=by simp[P.putD,h]
theorem zHR (r:P.Rd) (st:P.Stm) (h:r.threads≠[]) (hk:(st.kind==11)=true):P.putD r st=P.ends r st:=by simp[P.putD,h,show st.kind=11 by simpa using hk]
theorem zHd (r:P.Rd) (st:P.Stm) (h:r.threads≠[]) (hk:(st.kind==11)=false) (hc:r.most≤r.count):P.putD r st=(r,false):=by
 simp[P.putD,h,show ¬ st.kind=11 by simpa using hk,hc]
theorem zHe (r:P.Rd) (st:P.Stm) (h:r.threads≠[]) (hc:¬ r.most≤r.count) (hb:(st.kind==10)=true) (ho:2≤r.opn.length):P.putD r st=({ r with count:=r.count+1 },false):=by
 simp[P.putD,h,show st.kind=10 by simpa using hb,hc,ho]
theorem zII (r:P.Rd) (st:P.Stm) (h:r.threads≠[]) (hc:¬ r.most≤r.count) (hb:(st.kind==10)=true) (ho:¬ 2≤r.opn.length):P.putD r st=P.zLQ { r with count:=r.count+1 } st:=by
 simp[P.putD,h,show st.kind=10 by simpa using hb,hc,ho]
theorem zHS (r:P.Rd) (st:P.Stm) (h:r.threads≠[]) (hk:(st.kind==11)=false) (hc:¬ r.most≤r.count) (hb:(st.kind==10)=false):P.putD r st=(P.put { r with count:=r.count+1 } st,true):=by
 simp[P.putD,h,show ¬ st.kind=11 by simpa using hk,show ¬ st.kind=10 by simpa using hb,hc]
theorem zHT (B g N:Nat) (r:P.Rd) (st:P.Stm) (w:World) (h:zCv w B g r) (hF:Few N r) (hN:N<10000) (hB:B≤w.heap.size) (ho9:r.opn.length<10) (hi0:0≤r.ifs) (hi1:r.ifs<10000) (hc0:0≤r.count) (hc1:r.count<10000) :
  Calls Tryz.prog 101 #[.pointer (some ⟨g,0,none⟩),.agg (zAb st)] w fun e w'=>e=.returned (.bool (P.putD r st).2)∧zCv w' B g (P.putD r st).1∧BelowX B g w w':=by
 have hA:=zAa (h.alloc (.cells (zAb st) 96))
 have HA2:=zAa (((h.counted (r.count+1)).alloc (.cells (zAb st) 96)).drew)
 obtain⟨tv,ov,vs,h⟩:=h
 obtain⟨ta,tc,oa,oc,rfl,rfl⟩:=h.forms
 obtain⟨glt,gfr,g0,g1,g2,g3,g4⟩:=h.facts
 have hSt:=zAa (zAw.new w st)
 have hBl:BelowX B g w (w.alloc (.cells (zAb st) 96)):=(BelowX.refl _ _ _).alloc hB _
 clear h
 by_cases hne:r.threads=[]
 ·have HE:=zAa (zHc r st hne)
  have hz:((r.threads.length:Int)==0)=true:=by simp[hne]
  clear hne
  simp only[zAb]
  go_enter Tryz.func101,Tryz.ntmps101
  go_wp2
  go_ret
  rw[zAB HE]
  exact⟨rfl,hA.out,hBl⟩
 have hz:((r.threads.length:Int)==0)=false:=by simpa using hne
 cases hk:(st.kind==11)
 rotate_left
 ·have HE:=zAa (zHR r st hne hk)
  simp only[zAb]
  go_enter Tryz.func101,Tryz.ntmps101
  go_wp2_with (first
   | (refine zAp (.tmp 3) rfl rfl w.heap.size st rfl (by exact hSt.out) ?_)
   | (go_at_call 151;refine (zHO B g N r st _ (by exact hA.out) hne hF hN (by simp;omega) ho9).mono ?_;rintro e w2 ⟨rfl,hr1,hb1⟩))
  go_ret
  rw[zAB HE]
  exact⟨rfl,hr1,hBl.trans hb1⟩
 by_cases h8:r.most≤r.count
 ·have HE:=zAa (zHd r st hne hk h8)
  simp only[zAb]
  go_enter Tryz.func101,Tryz.ntmps101
  go_wp2
  go_region
  all_goals go_wp2
  go_ret
  rw[zAB HE]
  exact⟨rfl,hA.out.drew,hBl.drew⟩
 have hSt2:Hid (zAw ((w.setCell ⟨g,2,none⟩ (.int .i64 (r.count+1))).alloc (.cells (zAb st) 96)).drew w.heap.size st):=by
  unfold Hid
  have:=(zAw.new (w.setCell ⟨g,2,none⟩ (.int .i64 (r.count+1))) st).drew
  simpa using this
 have hBl2:BelowX B g w ((w.setCell ⟨g,2,none⟩ (.int .i64 (r.count+1))).alloc (.cells (zAb st) 96)).drew:=(((BelowX.refl _ _ _).setCell _).alloc (by simp;exact hB) _).drew
 cases hbk:(st.kind==10)
 ·have HE:=zAa (zHS r st hne hk h8 hbk)
  simp only[zAb]
  go_enter Tryz.func101,Tryz.ntmps101
  go_wp2
  go_region
  all_goals
   go_wp2_with (first
    | (refine zAp (.tmp 3) rfl rfl w.heap.size st rfl (by exact hSt2.out) ?_)
    | (go_at_call 153;refine (zFv B g N { r with count:=r.count+1 } st _ (by exact HA2.out) hne hF hN (by simp;omega)).mono ?_;rintro e w2 ⟨rfl,hr1,hb1⟩))
   go_ret
   rw[zAB HE]
   exact⟨rfl,hr1,hBl2.trans (BelowX.of hb1)⟩
 by_cases ho:2≤r.opn.length
 ·have HE:=zAa (zHe r st hne h8 hbk ho)
  simp only[zAb]
  go_enter Tryz.func101,Tryz.ntmps101
  go_wp2
  go_region
  all_goals
   go_wp2_with (first
    | (refine zAp (.tmp 3) rfl rfl w.heap.size st rfl (by exact hSt2.out) ?_)
    | (go_at_call 152;refine (zFw B g { r with count:=r.count+1 } st _ (by exact HA2.out) (by simp;omega) ho).mono ?_;rintro e w2 ⟨rfl,hr1,hb1⟩))
   go_ret
   rw[zAB HE]
   exact⟨rfl,hr1,hBl2.trans hb1⟩
 ·have HE:=zAa (zII r st hne h8 hbk ho)
  simp only[zAb]
  go_enter Tryz.func101,Tryz.ntmps101
  go_wp2
  go_region
  all_goals
   go_wp2_with (first
    | (refine zAp (.tmp 3) rfl rfl w.heap.size st rfl (by exact hSt2.out) ?_)
    | (go_at_call 152;refine (zGx B g N { r with count:=r.count+1 } st _ (by exact HA2.out) hne hF hN (by simp;omega) (by simp;omega) hi0 hi1).mono ?_;rintro e w2 ⟨rfl,hr1,hb1⟩))
   go_ret
   rw[zAB HE]
   exact⟨rfl,hr1,hBl2.trans hb1⟩
theorem zHf (B g N b off n cap:Nat) (r:P.Rd) (c:ByteArray) (rs:List ByteArray) (w:World) (h:zCv w B g r) (hw:zAz w b off (c::rs)) (hn:rs.length=n-1) (hn1:1≤n) (hnb:n<10000) (hc:n≤cap) (hblt:b<w.heap.size) (hm8:r.most=8)
  (hF:Few N r) (hN:N<10000) (hB:B≤w.heap.size) (ho9:r.opn.length<10) (hi0:0≤r.ifs) (hi1:r.ifs<10000) (hc0:0≤r.count) (hc1:r.count<10000) :
  Calls Tryz.prog 53 #[.pointer (some ⟨g,0,none⟩),.slice (some ⟨b,off,none⟩) n cap,.int .i64 r.line] w fun e w'=>e=.returned (.bool (P.takes r (c.toList::rs.map ByteArray.toList)).2)∧zCv w' B g (P.takes r (c.toList::rs.map ByteArray.toList)).1∧BelowX B g w w':=by
 have hA:=zAa h
 obtain⟨hd,_,_⟩:=hw.head
 have hnp:(0:Int)<(n:Int):=by omega
 have hnp':0<n:=by omega
 cases ht:c.toList==[116,104,114,101,97,100]
 rotate_left
 ·have HE:=zAa (zEN r c.toList (rs.map ByteArray.toList) ht)
  go_enter Tryz.func53,Tryz.ntmps53
  go_wp2_with (first | (go_at_call 99;refine (zGz B g _ _ _ _ r (c::rs) _ hA.out hw (by simp;omega) hnb hB (by have:=hF.1;omega) ho9).mono ?_;rintro e w1 ⟨rfl,hr1,hb1⟩))
  go_ret
  rw[zAB HE]
  exact⟨rfl,hr1,hb1⟩
 have HD:=zAa (P.takes_D r c.toList (rs.map ByteArray.toList) ht hm8)
 clear h
 cases hs:(P.zKm (c.toList::rs.map ByteArray.toList)).2
 ·have HE:Hid (P.takes r (c.toList::rs.map ByteArray.toList)=(r,false)):=by unfold Hid;rw[HD.out,hs];rfl
  clear HD
  go_enter Tryz.func53,Tryz.ntmps53
  go_wp2_with (first | (go_at_call 100;refine (zCN _ _ _ _ c rs _ hw hn hn1 hc hblt).mono ?_;rintro e w1 ⟨he,hb⟩;simp only[zCl,zAb,List.map_cons] at he;subst he))
  go_ret
  rw[zAB HE]
  exact⟨rfl,(hA.out.below hb).alloc _,BelowX.of ((hb.mono hB).alloc (by have:=hb.size;omega) _)⟩
 ·have HE:Hid (P.takes r (c.toList::rs.map ByteArray.toList)=P.putD r { (P.zKm (c.toList::rs.map ByteArray.toList)).1 with line:=r.line }):=by unfold Hid;rw[HD.out,hs];rfl
  clear HD
  go_enter Tryz.func53,Tryz.ntmps53
  go_wp2_with (first | (go_at_call 100;refine (zCN _ _ _ _ c rs _ hw hn hn1 hc hblt).mono ?_;rintro e w1 ⟨he,hb⟩;simp only[zCl,zAb,List.map_cons] at he;subst he) | (go_at_call 101;refine (zHT B g N r { (P.zKm (c.toList::rs.map ByteArray.toList)).1 with line:=r.line } _ (by exact (hA.out.below hb).alloc (.cells (zAb { (P.zKm (c.toList::rs.map ByteArray.toList)).1 with line:=r.line }) 96)) hF hN (by have:=hb.size;simp;omega) ho9 hi0 hi1 hc0 hc1).mono ?_;rintro e w2 ⟨rfl,hr1,hb1⟩))
  go_ret
  rw[zAB HE]
  exact⟨rfl,hr1,(BelowX.of ((hb.mono hB).alloc (by have:=hb.size;omega) _)).trans hb1⟩
end Go.Proofs.YtgceflcbckjjiaaGreatDoor
