import Derived.Test.YtkmebkbpfmoeaaaGreatH04
set_option linter.unusedVariables false
set_option linter.unusedSimpArgs false
set_option maxHeartbeats 12800000
namespace Go.Proofs.YtkmebkbpfmoeaaaGreat
open Go Go.RowKit
set_option maxRecDepth 100000
def twoNew (w:World) (t:P.Stm):World:=(w.alloc (.cells (zAd P.Stm.zero) 97)).alloc (.cells (zAd t) 97)
theorem zBp (w:World) (t:P.Stm):zAu (twoNew w t) (w.heap.size+1) t:=by
 have:=zAu.new (w.alloc (.cells (zAd P.Stm.zero) 97)) t
 simpa [twoNew] using this
theorem zBK (w:World) (t:P.Stm):Below w.heap.size w (twoNew w t):=(((Below.refl _ _).alloc (Nat.le_refl _) _).alloc (by simp) _)
theorem zBb {w w1:World} {t:P.Stm} (hgr:(twoNew w t).grownBy w1 (some (w.heap.size+1))):zAu w1 w.heap.size P.Stm.zero∧Below w.heap.size w w1:=by
 refine⟨((zAu.new w P.Stm.zero).alloc _).of_block (hgr.block w.heap.size (by simp[twoNew];omega) (by simp)),?_⟩
 exact zAs (zBK w t) hgr (by omega)
theorem zAt.twoNew {w:World} {b off:Nat} {ws:List ByteArray} (h:zAt w b off ws) (t:P.Stm):zAt (twoNew w t) b off ws:=h.below (zBK w t)
theorem zFt {α:Type} (l:List α) (h:3≤l.length):∃ a b c r,l=a::b::c::r:=by
 match l,h with
 | a::b::c::r,_=>exact⟨a,b,c,r,rfl⟩
theorem zGp (b off n cap:Nat) (ws:List ByteArray) (w:World) (hw:zAt w b off ws) (hn:ws.length=n) (hc:n≤cap) (hblt:b<w.heap.size) :
  Calls Tryz.prog 95 #[.slice (some ⟨b,off,none⟩) n cap] w fun e w'=>e=.returned (zBU (P.store (ws.map ByteArray.toList)))∧Below w.heap.size w w':=by
 by_cases h3:n<3
 ·have e:P.store (ws.map ByteArray.toList)=(P.Stm.zero,false):=by
   match ws,hn with
   | [],_=>rfl
   | [_],_=>rfl
   | [_,_],_=>rfl
   | _::_::_::_,hn=>simp at hn;omega
  have HE:=zAa e
  clear e
  go_enter Tryz.func95,Tryz.ntmps95
  go_wp2_with (first | (refine zAk (.tmp 2) (.tmp 9) rfl rfl w.heap.size _ P.Stm.zero rfl rfl (by exact zAu.new _ P.Stm.zero) ?_;intro w2 hs2 hgr2))
  rw[zAC HE]
  refine zAV (p:=2) (u:=3) w.heap.size P.Stm.zero false (by kernel_rfl) rfl rfl hs2 rfl ⟨rfl,?_⟩
  exact zAs ((Below.refl _ _).alloc (Nat.le_refl _) _) hgr2 (Nat.le_refl _)
 obtain⟨q,p,v,r,rfl⟩:=zFt ws (by omega)
 obtain⟨_,_,hw1⟩:=hw.head
 obtain⟨hd1,_,hw2⟩:=hw1.head
 obtain⟨hd2,_,hw3⟩:=hw2.head
 have hn2:r.length=n-3:=by simp at hn;omega
 have hi1:(1:Int)<(n:Int):=by omega
 have hi2:(2:Int)<(n:Int):=by omega
 have hn3:3≤n:=by omega
 clear hn h3 hw hw1 hw2
 have e1:=((zBK w { P.Stm.zero with kind:=1 }).cell (p:=⟨b,off+1,none⟩) hblt).trans hd1
 have e2:=((zBK w { P.Stm.zero with kind:=1 }).cell (p:=⟨b,off+2,none⟩) hblt).trans hd2
 have E1:=zAa e1
 have E2:=zAa e2
 clear e1 e2
 cases ht:(P.target { P.Stm.zero with kind:=1 } p.toList v.toList).2
 ·go_enter Tryz.func95,Tryz.ntmps95
  go_wp2_with fail
  go_region_held3 (fun w'=>w'.cell? ⟨b,off+1,none⟩=some (.string p)∧w'.cell? ⟨b,off+2,none⟩=some (.string v)) (first | exact⟨zAC E1,zAC E2⟩ | exact⟨k1,k2⟩) (first | (go_at_call 112;refine (zBH (w.heap.size+1) { P.Stm.zero with kind:=1 } _ _ _ ?_).mono ?_;(exact (zBp w { P.Stm.zero with kind:=1 }).drew);rintro e w1 ⟨rfl,hs1,hgr⟩;have k1:=hgr.cell (a:=⟨b,off+1,none⟩) (v:=.string p) (zAC E1) (by simp;omega);have k2:=hgr.cell (a:=⟨b,off+2,none⟩) (v:=.string v) (zAC E2) (by simp;omega)))
  obtain⟨hr,hb⟩:=zBb (w:=w) (t:={ P.Stm.zero with kind:=1 }) (w1:=w1) (zGk hgr)
  clear hgr k1 k2 hs1 hd1 hd2 E1 E2
  go_wp2_with (first | (refine zAk (.tmp 2) (.tmp 20) rfl rfl w.heap.size _ P.Stm.zero rfl rfl (by exact hr) ?_;intro w2 hs2 hgr2))
  have e:P.store ((q::p::v::r).map ByteArray.toList)=(P.Stm.zero,false):=by simp[P.store,ht]
  rw[e]
  refine zAV (p:=2) (u:=3) w.heap.size P.Stm.zero false (by kernel_rfl) rfl rfl hs2 rfl ⟨rfl,zAs hb hgr2 (Nat.le_refl _)⟩
 by_cases hcap:cap=3
 ·have hr0:r=[]:=List.eq_nil_of_length_eq_zero (by omega)
  subst hr0
  go_enter Tryz.func95,Tryz.ntmps95
  go_wp2_with fail
  go_region_held3 (fun w'=>w'.cell? ⟨b,off+1,none⟩=some (.string p)∧w'.cell? ⟨b,off+2,none⟩=some (.string v)) (first | exact⟨zAC E1,zAC E2⟩ | exact⟨k1,k2⟩) (first | (go_at_call 112;refine (zBH (w.heap.size+1) { P.Stm.zero with kind:=1 } _ _ _ ?_).mono ?_;(exact (zBp w { P.Stm.zero with kind:=1 }).drew);rintro e w1 ⟨rfl,hs1,hgr⟩;have k1:=hgr.cell (a:=⟨b,off+1,none⟩) (v:=.string p) (zAC E1) (by simp;omega);have k2:=hgr.cell (a:=⟨b,off+2,none⟩) (v:=.string v) (zAC E2) (by simp;omega)))
  go_wp2_with (first | (go_at_call 113;refine (zBe _ _ _ _ _ _ [] _ hs1 (zAt.nil _ _ _) (by simp;omega) (by omega) (by omega)).mono ?_;rintro e w2 ⟨rfl,hsB,hgrB⟩;obtain⟨hr,hb⟩:=zBb (w:=w) (t:={ P.Stm.zero with kind:=1 }) (w1:=w2) (zGk (zAR hgr hgrB))) | (refine zAy (.tmp 4) rfl rfl (w.heap.size+1) _ rfl hsB ?_) | (refine zAk (.tmp 2) (.tmp 24) rfl rfl w.heap.size _ _ rfl rfl (by exact hr) ?_;intro w3 hs3 hgr3))
  have e:P.store ((q::p::v::[]).map ByteArray.toList)=P.zJd (P.target { P.Stm.zero with kind:=1 } p.toList v.toList).1 (([]:List ByteArray).map ByteArray.toList):=by simp[P.store,ht]
  rw[e]
  refine zAV (p:=2) (u:=3) w.heap.size _ _ (by kernel_rfl) rfl rfl hs3 rfl ⟨rfl,zAs hb hgr3 (Nat.le_refl _)⟩
 ·go_enter Tryz.func95,Tryz.ntmps95
  go_wp2_with fail
  go_region_held3 (fun w'=>w'.cell? ⟨b,off+1,none⟩=some (.string p)∧w'.cell? ⟨b,off+2,none⟩=some (.string v)) (first | exact⟨zAC E1,zAC E2⟩ | exact⟨k1,k2⟩) (first | (go_at_call 112;refine (zBH (w.heap.size+1) { P.Stm.zero with kind:=1 } _ _ _ ?_).mono ?_;(exact (zBp w { P.Stm.zero with kind:=1 }).drew);rintro e w1 ⟨rfl,hs1,hgr⟩;have k1:=hgr.cell (a:=⟨b,off+1,none⟩) (v:=.string p) (zAC E1) (by simp;omega);have k2:=hgr.cell (a:=⟨b,off+2,none⟩) (v:=.string v) (zAC E2) (by simp;omega)))
  go_wp2_with (first | (go_at_call 113;refine (zBe _ _ _ _ _ _ r _ hs1 (by exact zAt.grown (zAt.drew (zAt.twoNew (off:=off+3) hw3 { P.Stm.zero with kind:=1 })) hgr (by omega)) hn2 (by omega) (by omega)).mono ?_;rintro e w2 ⟨rfl,hsB,hgrB⟩;obtain⟨hr,hb⟩:=zBb (w:=w) (t:={ P.Stm.zero with kind:=1 }) (w1:=w2) (zGk (zAR hgr hgrB))) | (refine zAy (.tmp 4) rfl rfl (w.heap.size+1) _ rfl hsB ?_) | (refine zAk (.tmp 2) (.tmp 24) rfl rfl w.heap.size _ _ rfl rfl (by exact hr) ?_;intro w3 hs3 hgr3))
  have e:P.store ((q::p::v::r).map ByteArray.toList)=P.zJd (P.target { P.Stm.zero with kind:=1 } p.toList v.toList).1 (r.map ByteArray.toList):=by simp[P.store,ht]
  rw[e]
  refine zAV (p:=2) (u:=3) w.heap.size _ _ (by kernel_rfl) rfl rfl hs3 rfl ⟨rfl,zAs hb hgr3 (Nat.le_refl _)⟩
theorem zGT (ws:List (List UInt8)) (h:ws.length<3):P.zIt ws=(P.Stm.zero,false):=by
 match ws,h with
 | [],_=>rfl
 | [_],_=>rfl
 | [_,_],_=>rfl
theorem zHE (d e c:List UInt8) (r:List (List UInt8)) (h:(e==[61])=false):P.zIt (d::e::c::r)=(P.Stm.zero,false):=by simp[P.zIt,h]
theorem zGU (d e c:List UInt8) (r:List (List UInt8)) (h:(P.zIn d).2=false):P.zIt (d::e::c::r)=(P.Stm.zero,false):=by simp[P.zIt,h]
theorem zDG (b off n cap:Nat) (ws:List ByteArray) (w:World) (hw:zAt w b off ws) (hn:ws.length=n) (hc:n≤cap) (hblt:b<w.heap.size) :
  Calls Tryz.prog 98 #[.slice (some ⟨b,off,none⟩) n cap] w fun e w'=>e=.returned (zBU (P.zIt (ws.map ByteArray.toList)))∧Below w.heap.size w w':=by
 by_cases h3:n<3
 ·have HE:=zAa (zGT (ws.map ByteArray.toList) (by simp;omega))
  go_enter Tryz.func98,Tryz.ntmps98
  go_wp2_with (first | (refine zAk (.tmp 2) (.tmp 16) rfl rfl w.heap.size _ P.Stm.zero rfl rfl (by exact zAu.new _ P.Stm.zero) ?_;intro w2 hs2 hgr2))
  rw[zAC HE]
  refine zAV (p:=2) (u:=3) w.heap.size P.Stm.zero false (by kernel_rfl) rfl rfl hs2 rfl ⟨rfl,?_⟩
  exact zAs ((Below.refl _ _).alloc (Nat.le_refl _) _) hgr2 (Nat.le_refl _)
 obtain⟨d,e,c,r,rfl⟩:=zFt ws (by omega)
 obtain⟨hd0,_,hw1⟩:=hw.head
 obtain⟨hd1,_,hw2⟩:=hw1.head
 obtain⟨hd2,_,hw3⟩:=hw2.head
 have hn2:r.length=n-3:=by simp at hn;omega
 have hn3:3≤n:=by omega
 have hi1:(1:Int)<(n:Int):=by omega
 have hi2:(2:Int)<(n:Int):=by omega
 clear hn h3 hw hw1
 cases he:e.toList==[61]
 ·have HE:=zAa (zHE d.toList e.toList c.toList (r.map ByteArray.toList) he)
  go_enter Tryz.func98,Tryz.ntmps98
  go_wp2_with (first | (refine zAk (.tmp 2) (.tmp 16) rfl rfl w.heap.size _ P.Stm.zero rfl rfl (by exact zAu.new _ P.Stm.zero) ?_;intro w2 hs2 hgr2))
  simp only[List.map_cons]
  rw[zAC HE]
  refine zAV (p:=2) (u:=3) w.heap.size P.Stm.zero false (by kernel_rfl) rfl rfl hs2 rfl ⟨rfl,?_⟩
  exact zAs ((Below.refl _ _).alloc (Nat.le_refl _) _) hgr2 (Nat.le_refl _)
 cases hr:(P.zIn d.toList).2
 ·have HE:=zAa (zGU d.toList e.toList c.toList (r.map ByteArray.toList) hr)
  go_enter Tryz.func98,Tryz.ntmps98
  go_wp2_with (first | (go_at_call 115;refine (zAY _ _).mono ?_;rintro e w' ⟨rfl,rfl⟩) | (refine zAk (.tmp 2) (.tmp 26) rfl rfl w.heap.size _ P.Stm.zero rfl rfl (by exact zAu.new _ P.Stm.zero) ?_;intro w2 hs2 hgr2))
  simp only[List.map_cons]
  rw[zAC HE]
  refine zAV (p:=2) (u:=3) w.heap.size P.Stm.zero false (by kernel_rfl) rfl rfl hs2 rfl ⟨rfl,?_⟩
  exact zAs ((Below.refl _ _).alloc (Nat.le_refl _) _) hgr2 (Nat.le_refl _)
 cases hl:c.toList==[108,111,97,100]
 rotate_left
 ·have HE:Hid (P.zIt (d.toList::e.toList::c.toList::r.map ByteArray.toList)=P.load { P.Stm.zero with dest:=(P.zIn d.toList).1 } (r.map ByteArray.toList)):=by
   unfold Hid;simp[P.zIt,he,hr,hl]
  by_cases hcap:cap=3
  ·have hr0:r=[]:=List.eq_nil_of_length_eq_zero (by omega)
   subst hr0
   go_enter Tryz.func98,Tryz.ntmps98
   go_wp2_with (first
    | (go_at_call 115;refine (zAY _ _).mono ?_;rintro e w' ⟨rfl,rfl⟩)
    | (go_at_call 116;refine (zFs (w.heap.size+1) _ _ _ _ { P.Stm.zero with dest:=(P.zIn d.toList).1 } [] _ (by exact zBp w { P.Stm.zero with dest:=(P.zIn d.toList).1 }) (zAt.nil _ _ _) (by simp;omega) (by omega) (by omega)).mono ?_;rintro e w1 ⟨rfl,hs1,hgr⟩;obtain⟨hz,hb⟩:=zBb (w:=w) (t:={ P.Stm.zero with dest:=(P.zIn d.toList).1 }) (w1:=w1) hgr)
    | (refine zAy (.tmp 6) rfl rfl (w.heap.size+1) _ rfl hs1 ?_)
    | (refine zAk (.tmp 2) (.tmp 50) rfl rfl w.heap.size _ _ rfl rfl (by exact hz) ?_;intro w2 hs2 hgr2))
   simp only[List.map_cons]
   rw[zAC HE]
   refine zAV (p:=2) (u:=3) w.heap.size _ _ (by kernel_rfl) rfl rfl hs2 rfl ⟨rfl,zAs hb hgr2 (Nat.le_refl _)⟩
  ·go_enter Tryz.func98,Tryz.ntmps98
   go_wp2_with (first
    | (go_at_call 115;refine (zAY _ _).mono ?_;rintro e w' ⟨rfl,rfl⟩)
    | (go_at_call 116;refine (zFs (w.heap.size+1) _ _ _ _ { P.Stm.zero with dest:=(P.zIn d.toList).1 } r _ (by exact zBp w { P.Stm.zero with dest:=(P.zIn d.toList).1 }) (by exact zAt.twoNew (off:=off+3) hw3 { P.Stm.zero with dest:=(P.zIn d.toList).1 }) hn2 (by omega) (by omega)).mono ?_;rintro e w1 ⟨rfl,hs1,hgr⟩;obtain⟨hz,hb⟩:=zBb (w:=w) (t:={ P.Stm.zero with dest:=(P.zIn d.toList).1 }) (w1:=w1) hgr)
    | (refine zAy (.tmp 6) rfl rfl (w.heap.size+1) _ rfl hs1 ?_)
    | (refine zAk (.tmp 2) (.tmp 50) rfl rfl w.heap.size _ _ rfl rfl (by exact hz) ?_;intro w2 hs2 hgr2))
   simp only[List.map_cons]
   rw[zAC HE]
   refine zAV (p:=2) (u:=3) w.heap.size _ _ (by kernel_rfl) rfl rfl hs2 rfl ⟨rfl,zAs hb hgr2 (Nat.le_refl _)⟩
 cases ha:c.toList==[97,100,100]
 rotate_left
 ·have HE:Hid (P.zIt (d.toList::e.toList::c.toList::r.map ByteArray.toList)=P.step { P.Stm.zero with dest:=(P.zIn d.toList).1 } 2 (r.map ByteArray.toList)):=by
   unfold Hid;simp[P.zIt,he,hr,hl,ha]
  by_cases hcap:cap=3
  ·have hr0:r=[]:=List.eq_nil_of_length_eq_zero (by omega)
   subst hr0
   go_enter Tryz.func98,Tryz.ntmps98
   go_wp2_with (first
    | (go_at_call 115;refine (zAY _ _).mono ?_;rintro e w' ⟨rfl,rfl⟩)
    | (go_at_call 117;refine (zDh (w.heap.size+1) _ _ _ _ 2 { P.Stm.zero with dest:=(P.zIn d.toList).1 } [] _ (by exact zBp w { P.Stm.zero with dest:=(P.zIn d.toList).1 }) (zAt.nil _ _ _) (by simp;omega) (by omega) (by omega)).mono ?_;rintro e w1 ⟨rfl,hs1,hgr⟩;obtain⟨hz,hb⟩:=zBb (w:=w) (t:={ P.Stm.zero with dest:=(P.zIn d.toList).1 }) (w1:=w1) hgr)
    | (refine zAy (.tmp 6) rfl rfl (w.heap.size+1) _ rfl hs1 ?_)
    | (refine zAk (.tmp 2) (.tmp 50) rfl rfl w.heap.size _ _ rfl rfl (by exact hz) ?_;intro w2 hs2 hgr2))
   simp only[List.map_cons]
   rw[zAC HE]
   refine zAV (p:=2) (u:=3) w.heap.size _ _ (by kernel_rfl) rfl rfl hs2 rfl ⟨rfl,zAs hb hgr2 (Nat.le_refl _)⟩
  ·go_enter Tryz.func98,Tryz.ntmps98
   go_wp2_with (first
    | (go_at_call 115;refine (zAY _ _).mono ?_;rintro e w' ⟨rfl,rfl⟩)
    | (go_at_call 117;refine (zDh (w.heap.size+1) _ _ _ _ 2 { P.Stm.zero with dest:=(P.zIn d.toList).1 } r _ (by exact zBp w { P.Stm.zero with dest:=(P.zIn d.toList).1 }) (by exact zAt.twoNew (off:=off+3) hw3 { P.Stm.zero with dest:=(P.zIn d.toList).1 }) hn2 (by omega) (by omega)).mono ?_;rintro e w1 ⟨rfl,hs1,hgr⟩;obtain⟨hz,hb⟩:=zBb (w:=w) (t:={ P.Stm.zero with dest:=(P.zIn d.toList).1 }) (w1:=w1) hgr)
    | (refine zAy (.tmp 6) rfl rfl (w.heap.size+1) _ rfl hs1 ?_)
    | (refine zAk (.tmp 2) (.tmp 50) rfl rfl w.heap.size _ _ rfl rfl (by exact hz) ?_;intro w2 hs2 hgr2))
   simp only[List.map_cons]
   rw[zAC HE]
   refine zAV (p:=2) (u:=3) w.heap.size _ _ (by kernel_rfl) rfl rfl hs2 rfl ⟨rfl,zAs hb hgr2 (Nat.le_refl _)⟩
 cases hs:c.toList==[115,119,97,112]
 rotate_left
 ·have HE:Hid (P.zIt (d.toList::e.toList::c.toList::r.map ByteArray.toList)=P.step { P.Stm.zero with dest:=(P.zIn d.toList).1 } 3 (r.map ByteArray.toList)):=by
   unfold Hid;simp[P.zIt,he,hr,hl,ha,hs]
  by_cases hcap:cap=3
  ·have hr0:r=[]:=List.eq_nil_of_length_eq_zero (by omega)
   subst hr0
   go_enter Tryz.func98,Tryz.ntmps98
   go_wp2_with (first
    | (go_at_call 115;refine (zAY _ _).mono ?_;rintro e w' ⟨rfl,rfl⟩)
    | (go_at_call 117;refine (zDh (w.heap.size+1) _ _ _ _ 3 { P.Stm.zero with dest:=(P.zIn d.toList).1 } [] _ (by exact zBp w { P.Stm.zero with dest:=(P.zIn d.toList).1 }) (zAt.nil _ _ _) (by simp;omega) (by omega) (by omega)).mono ?_;rintro e w1 ⟨rfl,hs1,hgr⟩;obtain⟨hz,hb⟩:=zBb (w:=w) (t:={ P.Stm.zero with dest:=(P.zIn d.toList).1 }) (w1:=w1) hgr)
    | (refine zAy (.tmp 6) rfl rfl (w.heap.size+1) _ rfl hs1 ?_)
    | (refine zAk (.tmp 2) (.tmp 50) rfl rfl w.heap.size _ _ rfl rfl (by exact hz) ?_;intro w2 hs2 hgr2))
   simp only[List.map_cons]
   rw[zAC HE]
   refine zAV (p:=2) (u:=3) w.heap.size _ _ (by kernel_rfl) rfl rfl hs2 rfl ⟨rfl,zAs hb hgr2 (Nat.le_refl _)⟩
  ·go_enter Tryz.func98,Tryz.ntmps98
   go_wp2_with (first
    | (go_at_call 115;refine (zAY _ _).mono ?_;rintro e w' ⟨rfl,rfl⟩)
    | (go_at_call 117;refine (zDh (w.heap.size+1) _ _ _ _ 3 { P.Stm.zero with dest:=(P.zIn d.toList).1 } r _ (by exact zBp w { P.Stm.zero with dest:=(P.zIn d.toList).1 }) (by exact zAt.twoNew (off:=off+3) hw3 { P.Stm.zero with dest:=(P.zIn d.toList).1 }) hn2 (by omega) (by omega)).mono ?_;rintro e w1 ⟨rfl,hs1,hgr⟩;obtain⟨hz,hb⟩:=zBb (w:=w) (t:={ P.Stm.zero with dest:=(P.zIn d.toList).1 }) (w1:=w1) hgr)
    | (refine zAy (.tmp 6) rfl rfl (w.heap.size+1) _ rfl hs1 ?_)
    | (refine zAk (.tmp 2) (.tmp 50) rfl rfl w.heap.size _ _ rfl rfl (by exact hz) ?_;intro w2 hs2 hgr2))
   simp only[List.map_cons]
   rw[zAC HE]
   refine zAV (p:=2) (u:=3) w.heap.size _ _ (by kernel_rfl) rfl rfl hs2 rfl ⟨rfl,zAs hb hgr2 (Nat.le_refl _)⟩
 have HE:Hid (P.zIt (d.toList::e.toList::c.toList::r.map ByteArray.toList)=P.sum { P.Stm.zero with dest:=(P.zIn d.toList).1 } (c.toList::r.map ByteArray.toList)):=by
  unfold Hid;simp[P.zIt,he,hr,hl,ha,hs]
 have hcap:¬ cap=2:=by omega
 go_enter Tryz.func98,Tryz.ntmps98
 go_wp2_with (first
  | (go_at_call 115;refine (zAY _ _).mono ?_;rintro e w' ⟨rfl,rfl⟩)
  | (go_at_call 118;refine (zHD (w.heap.size+1) _ _ _ _ { P.Stm.zero with dest:=(P.zIn d.toList).1 } (c::r) _ (by exact zBp w { P.Stm.zero with dest:=(P.zIn d.toList).1 }) (by exact zAt.twoNew (off:=off+2) hw2 { P.Stm.zero with dest:=(P.zIn d.toList).1 }) (by simp;omega) (by omega)).mono ?_;rintro e w1 ⟨rfl,hs1,hgr⟩;obtain⟨hz,hb⟩:=zBb (w:=w) (t:={ P.Stm.zero with dest:=(P.zIn d.toList).1 }) (w1:=w1) hgr)
  | (refine zAy (.tmp 6) rfl rfl (w.heap.size+1) _ rfl hs1 ?_)
  | (refine zAk (.tmp 2) (.tmp 50) rfl rfl w.heap.size _ _ rfl rfl (by exact hz) ?_;intro w2 hs2 hgr2))
 simp only[List.map_cons]
 rw[zAC HE]
 refine zAV (p:=2) (u:=3) w.heap.size _ _ (by kernel_rfl) rfl rfl hs2 rfl ⟨rfl,zAs hb hgr2 (Nat.le_refl _)⟩
theorem zCw (b off n cap:Nat) (c:ByteArray) (r:List ByteArray) (w:World) (hw:zAt w b off (c::r)) (hn:r.length=n-1) (hn1:1≤n) (hc:n≤cap) (hblt:b<w.heap.size) :
  Calls Tryz.prog 63 #[.slice (some ⟨b,off,none⟩) n cap] w fun e w'=>e=.returned (zBU (P.zIu ((c::r).map ByteArray.toList)))∧Below w.heap.size w w':=by
 obtain⟨hd,_,_⟩:=hw.head
 have hn0:(c::r).length=n:=by simp;omega
 have hr1:((n:Int)==1)=(r.map ByteArray.toList).isEmpty:=by
  cases r with
  | nil=>simp at hn;simp;omega
  | cons a q=>simp at hn;simp;omega
 have hz:((n:Int)==0)=false:=by simp;omega
 cases h1:c.toList==[115,116,111,114,101]
 rotate_left
 ·have HE:Hid (P.zIu (c.toList::r.map ByteArray.toList)=P.store (c.toList::r.map ByteArray.toList)):=by
   unfold Hid;simp[P.zIu,h1]
  go_enter Tryz.func63,Tryz.ntmps63
  go_wp2_with (first
   | (go_at_call 95;refine (zGp _ _ _ _ (c::r) _ (by exact hw.alloc _) hn0 hc (by simp;omega)).mono ?_;rintro e w1 ⟨he,hb⟩;rw[zBU] at he;subst he;have hr:=(zAu.new w P.Stm.zero).below hb)
   | (refine zAk (.tmp 2) (.tmp 15) rfl rfl w.heap.size _ _ rfl rfl (by exact hr) ?_;intro w2 hs2 hgr2))
  try simp only[List.map_cons]
  rw[zAC HE]
  refine zAV (p:=2) (u:=3) w.heap.size _ _ (by kernel_rfl) rfl rfl hs2 rfl ⟨rfl,?_⟩
  exact zAs (((Below.refl _ _).alloc (Nat.le_refl _) _).trans (hb.mono (by simp))) hgr2 (Nat.le_refl _)
 cases h2:c.toList==[102,101,110,99,101]
 rotate_left
 ·have HE:Hid (P.zIu (c.toList::r.map ByteArray.toList)=P.fence (c.toList::r.map ByteArray.toList)):=by
   unfold Hid;simp[P.zIu,h1,h2]
  go_enter Tryz.func63,Tryz.ntmps63
  go_wp2_with (first
   | (go_at_call 96;refine (zGo _ _ _ _ c r _ (by exact hw.alloc _) hn hn1 hc).mono ?_;rintro e w1 ⟨he,hb⟩;rw[zBU] at he;subst he;have hr:=(zAu.new w P.Stm.zero).below hb)
   | (refine zAk (.tmp 2) (.tmp 21) rfl rfl w.heap.size _ _ rfl rfl (by exact hr) ?_;intro w2 hs2 hgr2))
  try simp only[List.map_cons]
  rw[zAC HE]
  refine zAV (p:=2) (u:=3) w.heap.size _ _ (by kernel_rfl) rfl rfl hs2 rfl ⟨rfl,?_⟩
  exact zAs (((Below.refl _ _).alloc (Nat.le_refl _) _).trans (hb.mono (by simp))) hgr2 (Nat.le_refl _)
 cases h3:c.toList==[98,97,114,114,105,101,114]
 rotate_left
 ·have HE:Hid (P.zIu (c.toList::r.map ByteArray.toList)=({ P.Stm.zero with kind:=5 },(r.map ByteArray.toList).isEmpty)):=by
   unfold Hid;simp[P.zIu,h1,h2,h3]
  go_enter Tryz.func63,Tryz.ntmps63
  go_wp2_with (first
   | (refine zAk (.tmp 2) (.tmp 25) rfl rfl w.heap.size _ { P.Stm.zero with kind:=5 } rfl rfl (by exact zAu.new w P.Stm.zero) ?_;intro w2 hs2 hgr2))
  try simp only[List.map_cons]
  rw[zAC HE]
  refine zAV (p:=2) (u:=3) w.heap.size { P.Stm.zero with kind:=5 } _ (by kernel_rfl) rfl (by simp) hs2 rfl ⟨rfl,?_⟩
  exact zAs ((Below.refl _ _).alloc (Nat.le_refl _) _) hgr2 (Nat.le_refl _)
 cases h4:c.toList==[105,102]
 rotate_left
 ·have HE:Hid (P.zIu (c.toList::r.map ByteArray.toList)=P.zJF (c.toList::r.map ByteArray.toList)):=by
   unfold Hid;simp[P.zIu,h1,h2,h3,h4]
  go_enter Tryz.func63,Tryz.ntmps63
  go_wp2_with (first
   | (go_at_call 97;refine (zDX _ _ _ _ (c::r) _ (by exact hw.alloc _) hn0).mono ?_;rintro e w1 ⟨he,hb⟩;rw[zBU] at he;subst he;have hr:=(zAu.new w P.Stm.zero).below hb)
   | (refine zAk (.tmp 2) (.tmp 33) rfl rfl w.heap.size _ _ rfl rfl (by exact hr) ?_;intro w2 hs2 hgr2))
  try simp only[List.map_cons]
  rw[zAC HE]
  refine zAV (p:=2) (u:=3) w.heap.size _ _ (by kernel_rfl) rfl rfl hs2 rfl ⟨rfl,?_⟩
  exact zAs (((Below.refl _ _).alloc (Nat.le_refl _) _).trans (hb.mono (by simp))) hgr2 (Nat.le_refl _)
 cases h5:c.toList==[101,110,100]
 rotate_left
 ·have HE:Hid (P.zIu (c.toList::r.map ByteArray.toList)=({ P.Stm.zero with kind:=11 },(r.map ByteArray.toList).isEmpty)):=by
   unfold Hid;simp[P.zIu,h1,h2,h3,h4,h5]
  go_enter Tryz.func63,Tryz.ntmps63
  go_wp2_with (first
   | (refine zAk (.tmp 2) (.tmp 37) rfl rfl w.heap.size _ { P.Stm.zero with kind:=11 } rfl rfl (by exact zAu.new w P.Stm.zero) ?_;intro w2 hs2 hgr2))
  try simp only[List.map_cons]
  rw[zAC HE]
  refine zAV (p:=2) (u:=3) w.heap.size { P.Stm.zero with kind:=11 } _ (by kernel_rfl) rfl (by simp) hs2 rfl ⟨rfl,?_⟩
  exact zAs ((Below.refl _ _).alloc (Nat.le_refl _) _) hgr2 (Nat.le_refl _)
 have HE:Hid (P.zIu (c.toList::r.map ByteArray.toList)=P.zIt (c.toList::r.map ByteArray.toList)):=by
  unfold Hid;simp[P.zIu,h1,h2,h3,h4,h5]
 go_enter Tryz.func63,Tryz.ntmps63
 go_wp2_with (first
  | (go_at_call 98;refine (zDG _ _ _ _ (c::r) _ (by exact hw.alloc _) hn0 hc (by simp;omega)).mono ?_;rintro e w1 ⟨he,hb⟩;rw[zBU] at he;subst he;have hr:=(zAu.new w P.Stm.zero).below hb)
  | (refine zAk (.tmp 2) (.tmp 43) rfl rfl w.heap.size _ _ rfl rfl (by exact hr) ?_;intro w2 hs2 hgr2))
 simp only[List.map_cons]
 rw[zAC HE]
 refine zAV (p:=2) (u:=3) w.heap.size _ _ (by kernel_rfl) rfl rfl hs2 rfl ⟨rfl,?_⟩
 exact zAs (((Below.refl _ _).alloc (Nat.le_refl _) _).trans (hb.mono (by simp))) hgr2 (Nat.le_refl _)
theorem zEl (r:P.Rd) (c:List UInt8) (rs:List (List UInt8)) (h:(c==[116,104,114,101,97,100])=true):P.takes r (c::rs)=P.zIX r (c::rs):=by
 have:c=[116,104,114,101,97,100]:=by simpa using h
 simp[P.takes,this]
theorem RdIn.forms {w:World} {B g:Nat} {r:P.Rd} {tv ov:Value} {vs:List Value} (h:RdIn w B g r tv ov vs):∃ ta tc oa oc,tv=.slice ta r.threads.length tc∧ov=.slice oa r.opn.length oc:=by
 have h1:∃ a c,ov=.slice a r.opn.length c:=by
  rcases h.opn.2 with ⟨e,h0⟩ | ⟨k,c,cur,e,_⟩
  ·exact⟨none,0,by rw[e,h0]⟩
  ·exact⟨_,c,e⟩
 have h2:∃ a c,tv=.slice a r.threads.length c:=by
  rcases h.threads.2 with ⟨e,h0⟩ | ⟨k,c,cur,e,_⟩
  ·exact⟨none,0,by rw[e,h0]⟩
  ·exact⟨_,c,e⟩
 obtain⟨oa,oc,e1⟩:=h1
 obtain⟨ta,tc,e2⟩:=h2
 exact⟨ta,tc,oa,oc,e2,e1⟩
theorem zCb.counted {w:World} {B g:Nat} {r:P.Rd} (h:zCb w B g r) (x:Int):zCb (w.setCell ⟨g,2,none⟩ (.int .i64 x)) B g { r with count:=x }:=by
 obtain⟨tv,ov,vs,h⟩:=h
 exact⟨tv,ov,vs,h.setG { r with count:=x } ov 2 (.int .i64 x) rfl h.opn rfl⟩
theorem zCb.lined {w:World} {B g:Nat} {r:P.Rd} (h:zCb w B g r) (x:Int):zCb w B g { r with line:=x }:=by
 obtain⟨tv,ov,vs,h⟩:=h
 exact⟨tv,ov,vs,⟨h.cells,h.threads,h.opn,h.stmts⟩⟩
theorem zCb.alloc {w:World} {B g:Nat} {r:P.Rd} (h:zCb w B g r) (o:Obj):zCb (w.alloc o) B g r:=h.below ((Below.refl _ _).alloc (Nat.le_refl _) _)
theorem zCb.drew {w:World} {B g:Nat} {r:P.Rd} (h:zCb w B g r):zCb w.drew B g r:=h.below (Below.refl _ _).drew
theorem zEP (B g:Nat) (r:P.Rd) (st:P.Stm) (w:World) (h:zCb w B g r) (hB:B≤w.heap.size) (ho:2≤r.opn.length) :
  Calls Tryz.prog 100 #[.pointer (some ⟨g,0,none⟩),.agg (zAd st)] w fun e w'=>e=.returned (.bool false)∧zCb w' B g r∧BelowX B g w w':=by
 have hA:=zAa h
 obtain⟨tv,ov,vs,h⟩:=h
 obtain⟨ta,tc,oa,oc,rfl,rfl⟩:=h.forms
 obtain⟨glt,gfr,g0,g1,g2,g3,g4⟩:=h.facts
 have ho':(2:Int)≤(r.opn.length:Int):=by omega
 clear h
 go_enter Tryz.func100,Tryz.ntmps100
 go_wp2
 go_ret
 exact⟨rfl,hA.out.alloc _,(BelowX.refl _ _ _).alloc hB _⟩
theorem zGq (r:P.Rd) (st:P.Stm) (h:r.threads=[]):P.putD r st=(r,false):=by simp[P.putD,h]
theorem zGV (r:P.Rd) (st:P.Stm) (h:r.threads≠[]) (hk:(st.kind==11)=true):P.putD r st=P.ends r st:=by simp[P.putD,h,show st.kind=11 by simpa using hk]
theorem zGr (r:P.Rd) (st:P.Stm) (h:r.threads≠[]) (hk:(st.kind==11)=false) (hc:r.most≤r.count):P.putD r st=(r,false):=by
 simp[P.putD,h,show ¬ st.kind=11 by simpa using hk,hc]
theorem zGs (r:P.Rd) (st:P.Stm) (h:r.threads≠[]) (hc:¬ r.most≤r.count) (hb:(st.kind==10)=true) (ho:2≤r.opn.length):P.putD r st=({ r with count:=r.count+1 },false):=by
 simp[P.putD,h,show st.kind=10 by simpa using hb,hc,ho]
theorem zHF (r:P.Rd) (st:P.Stm) (h:r.threads≠[]) (hc:¬ r.most≤r.count) (hb:(st.kind==10)=true) (ho:¬ 2≤r.opn.length):P.putD r st=P.branch { r with count:=r.count+1 } st:=by
 simp[P.putD,h,show st.kind=10 by simpa using hb,hc,ho]
theorem zGW (r:P.Rd) (st:P.Stm) (h:r.threads≠[]) (hk:(st.kind==11)=false) (hc:¬ r.most≤r.count) (hb:(st.kind==10)=false):P.putD r st=(P.put { r with count:=r.count+1 } st,true):=by
 simp[P.putD,h,show ¬ st.kind=11 by simpa using hk,show ¬ st.kind=10 by simpa using hb,hc]
theorem zGX (B g N:Nat) (r:P.Rd) (st:P.Stm) (w:World) (h:zCb w B g r) (hF:Few N r) (hN:N<10000) (hB:B≤w.heap.size) (ho9:r.opn.length<10) (hi0:0≤r.ifs) (hi1:r.ifs<10000) (hc0:0≤r.count) (hc1:r.count<10000) :
  Calls Tryz.prog 64 #[.pointer (some ⟨g,0,none⟩),.agg (zAd st)] w fun e w'=>e=.returned (.bool (P.putD r st).2)∧zCb w' B g (P.putD r st).1∧BelowX B g w w':=by
 have hA:=zAa (h.alloc (.cells (zAd st) 97))
 have HA2:=zAa (((h.counted (r.count+1)).alloc (.cells (zAd st) 97)).drew)
 obtain⟨tv,ov,vs,h⟩:=h
 obtain⟨ta,tc,oa,oc,rfl,rfl⟩:=h.forms
 obtain⟨glt,gfr,g0,g1,g2,g3,g4⟩:=h.facts
 have hSt:=zAa (zAu.new w st)
 have hBl:BelowX B g w (w.alloc (.cells (zAd st) 97)):=(BelowX.refl _ _ _).alloc hB _
 clear h
 by_cases hne:r.threads=[]
 ·have HE:=zAa (zGq r st hne)
  have hz:((r.threads.length:Int)==0)=true:=by simp[hne]
  clear hne
  simp only[zAd]
  go_enter Tryz.func64,Tryz.ntmps64
  go_wp2
  go_ret
  rw[zAC HE]
  exact⟨rfl,hA.out,hBl⟩
 have hz:((r.threads.length:Int)==0)=false:=by simpa using hne
 cases hk:(st.kind==11)
 rotate_left
 ·have HE:=zAa (zGV r st hne hk)
  simp only[zAd]
  go_enter Tryz.func64,Tryz.ntmps64
  go_wp2_with (first
   | (refine zAy (.tmp 3) rfl rfl w.heap.size st rfl (by exact hSt.out) ?_)
   | (go_at_call 99;refine (zGS B g N r st _ (by exact hA.out) hne hF hN (by simp;omega) ho9).mono ?_;rintro e w2 ⟨rfl,hr1,hb1⟩))
  go_ret
  rw[zAC HE]
  exact⟨rfl,hr1,hBl.trans hb1⟩
 by_cases h8:r.most≤r.count
 ·have HE:=zAa (zGr r st hne hk h8)
  simp only[zAd]
  go_enter Tryz.func64,Tryz.ntmps64
  go_wp2
  go_region
  all_goals go_wp2
  go_ret
  rw[zAC HE]
  exact⟨rfl,hA.out.drew,hBl.drew⟩
 have hSt2:Hid (zAu ((w.setCell ⟨g,2,none⟩ (.int .i64 (r.count+1))).alloc (.cells (zAd st) 97)).drew w.heap.size st):=by
  unfold Hid
  have:=(zAu.new (w.setCell ⟨g,2,none⟩ (.int .i64 (r.count+1))) st).drew
  simpa using this
 have hBl2:BelowX B g w ((w.setCell ⟨g,2,none⟩ (.int .i64 (r.count+1))).alloc (.cells (zAd st) 97)).drew:=(((BelowX.refl _ _ _).setCell _).alloc (by simp;exact hB) _).drew
 cases hbk:(st.kind==10)
 ·have HE:=zAa (zGW r st hne hk h8 hbk)
  simp only[zAd]
  go_enter Tryz.func64,Tryz.ntmps64
  go_wp2
  go_region
  all_goals
   go_wp2_with (first
    | (refine zAy (.tmp 3) rfl rfl w.heap.size st rfl (by exact hSt2.out) ?_)
    | (go_at_call 101;refine (zEO B g N { r with count:=r.count+1 } st _ (by exact HA2.out) hne hF hN (by simp;omega)).mono ?_;rintro e w2 ⟨rfl,hr1,hb1⟩))
   go_ret
   rw[zAC HE]
   exact⟨rfl,hr1,hBl2.trans (BelowX.of hb1)⟩
 by_cases ho:2≤r.opn.length
 ·have HE:=zAa (zGs r st hne h8 hbk ho)
  simp only[zAd]
  go_enter Tryz.func64,Tryz.ntmps64
  go_wp2
  go_region
  all_goals
   go_wp2_with (first
    | (refine zAy (.tmp 3) rfl rfl w.heap.size st rfl (by exact hSt2.out) ?_)
    | (go_at_call 100;refine (zEP B g { r with count:=r.count+1 } st _ (by exact HA2.out) (by simp;omega) ho).mono ?_;rintro e w2 ⟨rfl,hr1,hb1⟩))
   go_ret
   rw[zAC HE]
   exact⟨rfl,hr1,hBl2.trans hb1⟩
 ·have HE:=zAa (zHF r st hne h8 hbk ho)
  simp only[zAd]
  go_enter Tryz.func64,Tryz.ntmps64
  go_wp2
  go_region
  all_goals
   go_wp2_with (first
    | (refine zAy (.tmp 3) rfl rfl w.heap.size st rfl (by exact hSt2.out) ?_)
    | (go_at_call 100;refine (zFN B g N { r with count:=r.count+1 } st _ (by exact HA2.out) hne hF hN (by simp;omega) (by simp;omega) hi0 hi1).mono ?_;rintro e w2 ⟨rfl,hr1,hb1⟩))
   go_ret
   rw[zAC HE]
   exact⟨rfl,hr1,hBl2.trans hb1⟩
end Go.Proofs.YtkmebkbpfmoeaaaGreat
