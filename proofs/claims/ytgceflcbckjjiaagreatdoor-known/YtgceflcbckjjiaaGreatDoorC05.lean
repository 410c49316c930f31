import Derived.Deep.RegionHeld3
import Derived.Test.YtgceflcbckjjiaaGreatDoorC04
set_option linter.unusedVariables false
set_option linter.unusedSimpArgs false
set_option maxHeartbeats 12800000
namespace Go.Proofs.YtgceflcbckjjiaaGreatDoor
open Go Go.RowKit
set_option maxRecDepth 100000
theorem zHt (g b off n cap:Nat) (st:P.Stm) (ws:List ByteArray) (w:World) (hg:zAv w g st) (hw:zAB w b off ws) (hn:ws.length=n) (hc:n≤cap) (hbg:b≠g) :
  Calls Tryz.prog 172 #[.pointer (some ⟨g,0,none⟩),.slice (some ⟨b,off,none⟩) n cap] w fun e w'=>e=.returned (.bool (P.load st (ws.map ByteArray.toList)).2)∧zAv w' g (P.load st (ws.map ByteArray.toList)).1∧w.grownBy w' (some g):=by
 obtain⟨hlt,hfr,hc0,hc1,hc2,hc3,hc4,hc5,hc6,hc7,hc8,hc9,hc10⟩:=hg.facts
 cases ws with
 | nil =>
  simp at hn;subst hn
  go_enter Tryz.func172,Tryz.ntmps172
  go_wp2
  go_ret
  exact⟨rfl,hg,zAC _ _⟩
 | cons o r =>
  obtain⟨hd,hblt,hw'⟩:=hw.head
  have hn1:1≤n:=by simp at hn;omega
  have hn2:r.length=n-1:=by simp at hn;omega
  cases ho1:(P.varOf o.toList).2
  ·go_enter Tryz.func172,Tryz.ntmps172
   go_wp2_with (first | (go_at_call 190;refine (zBW _ _).mono ?_;rintro e w' ⟨rfl,rfl⟩))
   go_ret
   simp only[List.map_cons,P.load_no st _ _ ho1]
   exact⟨rfl,hg,zAC _ _⟩
  have HL:=zAa (P.load_yes st o.toList (r.map ByteArray.toList) ho1)
  clear hn
  by_cases hcap:cap=1
  ·have hr:r=[]:=List.eq_nil_of_length_eq_zero (by omega)
   subst hr
   go_enter Tryz.func172,Tryz.ntmps172
   go_wp2_with (first | (go_at_call 190;refine (zBW _ _).mono ?_;rintro e w' ⟨rfl,rfl⟩) | (go_at_call 169;refine (zBm _ _ _ _ _ { st with kind:=0,var:=(P.varOf o.toList).1 } [] _ (by exact (hg.setKind _).setVar _) (zAB.nil _ _ _) (by simp;omega) (by omega) hbg).mono ?_;rintro e w1 ⟨rfl,hs1,hgr⟩))
   go_ret
   simp only[List.map_cons,zAD HL]
   exact⟨rfl,hs1,zAW (zAl (zAl (zAC _ _) _ _) _ _) hgr⟩
  ·go_enter Tryz.func172,Tryz.ntmps172
   go_wp2_with (first | (go_at_call 190;refine (zBW _ _).mono ?_;rintro e w' ⟨rfl,rfl⟩) | (go_at_call 169;refine (zBm _ _ _ _ _ { st with kind:=0,var:=(P.varOf o.toList).1 } r _ (by exact (hg.setKind _).setVar _) (by exact (hw'.set hbg _ _).set hbg _ _) hn2 (by omega) hbg).mono ?_;rintro e w1 ⟨rfl,hs1,hgr⟩))
   go_ret
   simp only[List.map_cons,zAD HL]
   exact⟨rfl,hs1,zAW (zAl (zAl (zAC _ _) _ _) _ _) hgr⟩
theorem zEe (g b off n cap:Nat) (k:Int) (st:P.Stm) (ws:List ByteArray) (w:World) (hg:zAv w g st) (hw:zAB w b off ws) (hn:ws.length=n) (hc:n≤cap) (hbg:b≠g) :
  Calls Tryz.prog 173 #[.pointer (some ⟨g,0,none⟩),.int .i64 k,.slice (some ⟨b,off,none⟩) n cap] w fun e w'=>e=.returned (.bool (P.step st k (ws.map ByteArray.toList)).2)∧zAv w' g (P.step st k (ws.map ByteArray.toList)).1∧w.grownBy w' (some g):=by
 obtain⟨hlt,hfr,hc0,hc1,hc2,hc3,hc4,hc5,hc6,hc7,hc8,hc9,hc10⟩:=hg.facts
 match ws,hw,hn with
 | [],_,hn =>
  simp at hn;subst hn
  go_enter Tryz.func173,Tryz.ntmps173
  go_wp2
  go_ret
  exact⟨rfl,hg,zAC _ _⟩
 | [_],_,hn =>
  simp at hn;subst hn
  go_enter Tryz.func173,Tryz.ntmps173
  go_wp2
  go_ret
  exact⟨rfl,hg,zAC _ _⟩
 | p::v::r,hw,hn =>
  obtain⟨hd,hblt,hw'⟩:=hw.head
  obtain⟨hd2,_,hw2⟩:=hw'.head
  have hn1:2≤n:=by simp at hn;omega
  have hn2:r.length=n-2:=by simp at hn;omega
  clear hn hw hw'
  have hi0:0<n:=by omega
  have hi1:(1:Int)<(n:Int):=by omega
  cases ht:(P.target { st with kind:=k } p.toList v.toList).2
  ·have HL:=zAa (P.step_no st k p.toList v.toList (r.map ByteArray.toList) ht)
   go_enter Tryz.func173,Tryz.ntmps173
   go_wp2_with fail
   go_region_held3 (fun w'=>w'.cell? ⟨b,off,none⟩=some (.string p)∧w'.cell? ⟨b,off+1,none⟩=some (.string v)) (first | exact⟨(zAg hbg).trans hd,(zAg hbg).trans hd2⟩ | exact⟨k1,k2⟩) (first | (go_at_call 168;refine (zCb g { st with kind:=k } _ _ _ ?_).mono ?_;(exact (hg.setKind _).drew);rintro e w1 ⟨rfl,hs1,hgr⟩;have k1:=hgr.cell (a:=⟨b,off,none⟩) (v:=.string p) ((zAg hbg).trans hd) (by simpa using hbg);have k2:=hgr.cell (a:=⟨b,off+1,none⟩) (v:=.string v) ((zAg hbg).trans hd2) (by simpa using hbg)))
   go_wp2
   go_ret
   simp only[List.map_cons,zAD HL]
   exact⟨rfl,hs1,zAW (zCx (zAl (zAC _ _) _ _)) hgr⟩
  have HL:=zAa (P.step_yes st k p.toList v.toList (r.map ByteArray.toList) ht)
  by_cases hcap:cap=2
  ·have hr:r=[]:=List.eq_nil_of_length_eq_zero (by omega)
   subst hr
   go_enter Tryz.func173,Tryz.ntmps173
   go_wp2_with fail
   go_region_held3 (fun w'=>w'.cell? ⟨b,off,none⟩=some (.string p)∧w'.cell? ⟨b,off+1,none⟩=some (.string v)) (first | exact⟨(zAg hbg).trans hd,(zAg hbg).trans hd2⟩ | exact⟨k1,k2⟩) (first | (go_at_call 168;refine (zCb g { st with kind:=k } _ _ _ ?_).mono ?_;(exact (hg.setKind _).drew);rintro e w1 ⟨rfl,hs1,hgr⟩;have k1:=hgr.cell (a:=⟨b,off,none⟩) (v:=.string p) ((zAg hbg).trans hd) (by simpa using hbg);have k2:=hgr.cell (a:=⟨b,off+1,none⟩) (v:=.string v) ((zAg hbg).trans hd2) (by simpa using hbg)))
   go_wp2_with (first | (go_at_call 169;refine (zBm _ _ _ _ _ _ [] _ hs1 (zAB.nil _ _ _) (by simp;omega) (by omega) hbg).mono ?_;rintro e w2 ⟨rfl,hs2,hgr2⟩))
   go_ret
   simp only[List.map_cons,zAD HL]
   exact⟨rfl,hs2,zAW (zAW (zCx (zAl (zAC _ _) _ _)) hgr) hgr2⟩
  ·go_enter Tryz.func173,Tryz.ntmps173
   go_wp2_with fail
   go_region_held3 (fun w'=>w'.cell? ⟨b,off,none⟩=some (.string p)∧w'.cell? ⟨b,off+1,none⟩=some (.string v)) (first | exact⟨(zAg hbg).trans hd,(zAg hbg).trans hd2⟩ | exact⟨k1,k2⟩) (first | (go_at_call 168;refine (zCb g { st with kind:=k } _ _ _ ?_).mono ?_;(exact (hg.setKind _).drew);rintro e w1 ⟨rfl,hs1,hgr⟩;have k1:=hgr.cell (a:=⟨b,off,none⟩) (v:=.string p) ((zAg hbg).trans hd) (by simpa using hbg);have k2:=hgr.cell (a:=⟨b,off+1,none⟩) (v:=.string v) ((zAg hbg).trans hd2) (by simpa using hbg)))
   go_wp2_with (first | (go_at_call 169;refine (zBm _ _ _ _ _ _ r _ hs1 (by exact ((hw2.set hbg _ _).drew).grown hgr hbg) hn2 (by omega) hbg).mono ?_;rintro e w2 ⟨rfl,hs2,hgr2⟩))
   go_ret
   simp only[List.map_cons,zAD HL]
   exact⟨rfl,hs2,zAW (zAW (zCx (zAl (zAC _ _) _ _)) hgr) hgr2⟩
theorem zKJ (g b off n cap:Nat) (st:P.Stm) (ws:List ByteArray) (w:World) (hg:zAv w g st) (hw:zAB w b off ws) (hn:ws.length=n) (hbg:b≠g) :
  Calls Tryz.prog 174 #[.pointer (some ⟨g,0,none⟩),.slice (some ⟨b,off,none⟩) n cap] w fun e w'=>e=.returned (.bool (P.sum st (ws.map ByteArray.toList)).2)∧zAv w' g (P.sum st (ws.map ByteArray.toList)).1∧w.grownBy w' (some g):=by
 have hfr:=hg.free
 by_cases h1:n=1
 ·subst h1
  match ws,hw,hn with
  | [a],hw,hn =>
  clear hn
  obtain⟨hd,hblt,_⟩:=hw.head
  cases ha:(P.zOy a.toList).2
  ·have HL:=zAa (P.zQV st a.toList [] ha)
   go_enter Tryz.func174,Tryz.ntmps174
   go_wp2_with (first | (go_at_call 170;refine (zBn _ _).mono ?_;rintro e w1 ⟨rfl,hb⟩))
   go_ret
   simp only[List.map_cons,List.map_nil,zAD HL]
   exact⟨rfl,(hg.below hb).alloc _,zBo (zAX hb _) _⟩
  ·have HL:=zAa (P.sum_one st a.toList ha)
   go_enter Tryz.func174,Tryz.ntmps174
   go_wp2_with (first | (go_at_call 170;refine (zBn _ _).mono ?_;rintro e w1 ⟨rfl,hb⟩;have hg1:=hg.below hb;obtain⟨hlt,hfr,hc0,hc1,hc2,hc3,hc4,hc5,hc6,hc7,hc8,hc9,hc10⟩:=hg1.facts))
   go_ret
   simp only[List.map_cons,List.map_nil,zAD HL]
   exact⟨rfl,((hg1.setKind _).setA _).alloc _,zBo (zAl (zAl (zAl (zAX hb _) _ _) _ _) _ _) _⟩
 by_cases h3:n=3
 ·subst h3
  match ws,hw,hn with
  | [a,s,c],hw,hn =>
  clear hn
  obtain⟨hd,hblt,hw1⟩:=hw.head
  obtain⟨hd1,_,hw2⟩:=hw1.head
  obtain⟨hd2,_,_⟩:=hw2.head
  cases ha:(P.zOy a.toList).2
  ·have HL:=zAa (P.zQV st a.toList [s.toList,c.toList] ha)
   go_enter Tryz.func174,Tryz.ntmps174
   go_wp2_with (first | (go_at_call 170;refine (zBn _ _).mono ?_;rintro e w1 ⟨rfl,hb⟩))
   go_ret
   simp only[List.map_cons,List.map_nil,zAD HL]
   exact⟨rfl,(hg.below hb).alloc _,zBo (zAX hb _) _⟩
  cases hs:(P.sign s.toList).2
  ·have HL:=zAa (P.sum_sign st a.toList s.toList c.toList ha hs)
   go_enter Tryz.func174,Tryz.ntmps174
   go_wp2_with (first | (go_at_call_of 170 (Value.string a);refine (zBn _ _).mono ?_;rintro e w1 ⟨rfl,hb⟩;have hg1:=hg.below hb;obtain⟨hlt,hfr,hc0,hc1,hc2,hc3,hc4,hc5,hc6,hc7,hc8,hc9,hc10⟩:=hg1.facts;have hb1:b<w1.heap.size:=Nat.lt_of_lt_of_le hblt hb.size;have e1:=cfL hb hblt hd1;have e2:=cfL hb hblt hd2) | (go_at_call 193;refine (zHr _ _).mono ?_;rintro e w2 ⟨rfl,rfl⟩))
   go_ret
   simp only[List.map_cons,List.map_nil,zAD HL]
   exact⟨rfl,((hg1.setKind _).setA _).alloc _,zBo (zAl (zAl (zAl (zAX hb _) _ _) _ _) _ _) _⟩
  ·have HL:=zAa (P.sum_all st a.toList s.toList c.toList ha hs)
   go_enter Tryz.func174,Tryz.ntmps174
   go_wp2_with (first | (go_at_call_of 170 (Value.string a);refine (zBn _ _).mono ?_;rintro e w1 ⟨rfl,hb⟩;have hg1:=hg.below hb;obtain⟨hlt,hfr,hc0,hc1,hc2,hc3,hc4,hc5,hc6,hc7,hc8,hc9,hc10⟩:=hg1.facts;have hb1:b<w1.heap.size:=Nat.lt_of_lt_of_le hblt hb.size;have e1:=cfL hb hblt hd1;have e2:=cfL hb hblt hd2) | (go_at_call 193;refine (zHr _ _).mono ?_;rintro e w2 ⟨rfl,rfl⟩))
   have hgm:=((hg1.setKind 6).setA (P.zOy a.toList).1).alloc (.cells #[.bool (P.zOy a.toList).1.reg,.int .i64 (P.zOy a.toList).1.n] 94)
   refine (zBn _ _).mono ?_
   rintro e w2 ⟨rfl,hb2⟩
   have hg2:=hgm.below hb2
   have hgr:w.grownBy w2 (some g):=zAW (zBo (zAl (zAl (zAl (zAX hb _) _ _) _ _) _ _) _) (zAX hb2 _)
   clear hc0 hc1 hc2 hc3 hc4 hc5 hc6 hc7 hc8 hc9 hc10 hb2 hb hb1 e1 e2 hd hd1 hd2 hw hw1 hw2 hlt hgm hg1
   obtain⟨hlt,hfr,hc0,hc1,hc2,hc3,hc4,hc5,hc6,hc7,hc8,hc9,hc10⟩:=hg2.facts
   go_wp2
   go_ret
   simp only[List.map_cons,List.map_nil,zAD HL]
   exact⟨rfl,((hg2.setKind _).setB _).alloc _,zBo (zAl (zAl (zAl hgr _ _) _ _) _ _) _⟩
 ·have HL:=zAa (P.sum_len st (ws.map ByteArray.toList) (by simp;omega) (by simp;omega))
  have hx1:((n:Int) != 1)=true:=by rw[bne_iff_ne];omega
  have hx3:((n:Int) != 3)=true:=by rw[bne_iff_ne];omega
  go_enter Tryz.func174,Tryz.ntmps174
  go_wp2
  go_ret
  simp only[zAD HL]
  exact⟨rfl,hg,zAC _ _⟩
theorem zFo (b off n cap:Nat) (ws:List ByteArray) (w:World) (hw:zAB w b off ws) (hn:ws.length=n) :
  Calls Tryz.prog 149 #[.slice (some ⟨b,off,none⟩) n cap] w fun e w'=>e=.returned (zBA (P.zPT (ws.map ByteArray.toList)))∧Below w.heap.size w w':=by
 by_cases h2:n=2
 ·subst h2
  match ws,hw,hn with
  | [a,c],hw,hn =>
  clear hn
  obtain⟨hd,hblt,hw1⟩:=hw.head
  obtain⟨hd1,_,_⟩:=hw1.head
  go_enter Tryz.func149,Tryz.ntmps149
  go_wp2_with (first | (go_at_call 170;refine (zBn _ _).mono ?_;rintro e w1 ⟨rfl,hb⟩;have hr:=(zAv.new w P.Stm.zero).below hb) | (refine zAo (.tmp 2) (.tmp 18) rfl rfl w.heap.size _ { P.Stm.zero with kind:=10,a:=(P.zOy c.toList).1 } rfl rfl (by exact hr.alloc _) ?_;intro w2 hs2 hgr2))
  refine zAT (p:=2) (u:=3) w.heap.size { P.Stm.zero with kind:=10,a:=(P.zOy c.toList).1 } (P.zOy c.toList).2 (by kernel_rfl) rfl rfl hs2 rfl ⟨rfl,?_⟩
  exact zAu ((((Below.refl _ _).alloc (Nat.le_refl _) _).trans (hb.mono (by simp))).alloc (by have:=hb.size;simp at this;omega) _) hgr2 (Nat.le_refl _)
 ·have hx:((n:Int) != 2)=true:=by rw[bne_iff_ne];omega
  have e:P.zPT (ws.map ByteArray.toList)=(P.Stm.zero,false):=by
   match ws,hn with
   | [],_=>rfl
   | [_],_=>rfl
   | [_,_],hn=>simp at hn;omega
   | _::_::_::_,_=>rfl
  have HE:=zAa e
  clear e
  go_enter Tryz.func149,Tryz.ntmps149
  go_wp2_with (first | (refine zAo (.tmp 2) (.tmp 9) rfl rfl w.heap.size _ P.Stm.zero rfl rfl (by exact zAv.new _ P.Stm.zero) ?_;intro w2 hs2 hgr2))
  rw[zAD HE]
  refine zAT (p:=2) (u:=3) w.heap.size P.Stm.zero false (by kernel_rfl) rfl rfl hs2 rfl ⟨rfl,?_⟩
  exact zAu ((Below.refl _ _).alloc (Nat.le_refl _) _) hgr2 (Nat.le_refl _)
theorem zIP (b off n cap:Nat) (c:ByteArray) (r:List ByteArray) (w:World) (hw:zAB w b off (c::r)) (hn:r.length=n-1) (h1:1≤n) (hc:n≤cap) :
  Calls Tryz.prog 148 #[.slice (some ⟨b,off,none⟩) n cap] w fun e w'=>e=.returned (zBA (P.fence ((c::r).map ByteArray.toList)))∧Below w.heap.size w w':=by
 obtain⟨hd,hblt,hw1⟩:=hw.head
 have hS:∀ (w:World),zAv ((w.alloc (.cells (zAb P.Stm.zero) 96)).alloc (.cells (zAb { P.Stm.zero with kind:=4 }) 96)) (w.heap.size+1) { P.Stm.zero with kind:=4 }:=fun w=>by
  have:=zAv.new (w.alloc (.cells (zAb P.Stm.zero) 96)) { P.Stm.zero with kind:=4 }
  simpa using this
 have main:∀ (w1:World),zAv w1 (w.heap.size+1) (P.zPn { P.Stm.zero with kind:=4 } (r.map ByteArray.toList)).1→((w.alloc (.cells (zAb P.Stm.zero) 96)).alloc (.cells (zAb { P.Stm.zero with kind:=4 }) 96)).grownBy w1 (some (w.heap.size+1)) →
   zAv w1 w.heap.size P.Stm.zero∧Below w.heap.size w w1:=fun w1 _ hgr=>by
  refine⟨((zAv.new w P.Stm.zero).alloc _).of_block (hgr.block w.heap.size (by simp;omega) (by simp)),?_⟩
  exact zAu (((Below.refl _ _).alloc (Nat.le_refl _) _).alloc (by simp) _) hgr (by simp)
 by_cases hcap:cap=1
 ·have hr:r=[]:=List.eq_nil_of_length_eq_zero (by omega)
  subst hr
  go_enter Tryz.func148,Tryz.ntmps148
  go_wp2_with fail
  refine (zBm _ _ _ _ _ { P.Stm.zero with kind:=4 } [] _ (by exact hS w) (zAB.nil _ _ _) (by simp;omega) (by omega) (by omega)).mono ?_
  rintro e w1 ⟨rfl,hs1,hgr⟩
  obtain⟨hr,hb⟩:=main w1 hs1 hgr
  clear hgr main hS
  go_wp2_with (first | (refine zAs (.tmp 4) rfl rfl (w.heap.size+1) _ rfl hs1 ?_) | (refine zAo (.tmp 2) (.tmp 14) rfl rfl w.heap.size _ _ rfl rfl (by exact hr) ?_;intro w2 hs2 hgr2))
  refine zAT (p:=2) (u:=3) w.heap.size _ _ (by kernel_rfl) rfl rfl hs2 rfl ⟨rfl,zAu hb hgr2 (Nat.le_refl _)⟩
 ·go_enter Tryz.func148,Tryz.ntmps148
  go_wp2_with fail
  refine (zBm _ _ _ _ _ { P.Stm.zero with kind:=4 } r _ (by exact hS w) (by exact (hw1.alloc _).alloc _) hn (by omega) (by omega)).mono ?_
  rintro e w1 ⟨rfl,hs1,hgr⟩
  obtain⟨hr,hb⟩:=main w1 hs1 hgr
  clear hgr main hS
  go_wp2_with (first | (refine zAs (.tmp 4) rfl rfl (w.heap.size+1) _ rfl hs1 ?_) | (refine zAo (.tmp 2) (.tmp 14) rfl rfl w.heap.size _ _ rfl rfl (by exact hr) ?_;intro w2 hs2 hgr2))
  refine zAT (p:=2) (u:=3) w.heap.size _ _ (by kernel_rfl) rfl rfl hs2 rfl ⟨rfl,zAu hb hgr2 (Nat.le_refl _)⟩
def twoNew (w:World) (t:P.Stm):World:=(w.alloc (.cells (zAb P.Stm.zero) 96)).alloc (.cells (zAb t) 96)
theorem zBE (w:World) (t:P.Stm):zAv (twoNew w t) (w.heap.size+1) t:=by
 have:=zAv.new (w.alloc (.cells (zAb P.Stm.zero) 96)) t
 simpa [twoNew] using this
theorem zCm (w:World) (t:P.Stm):Below w.heap.size w (twoNew w t):=(((Below.refl _ _).alloc (Nat.le_refl _) _).alloc (by simp) _)
theorem zBh {w w1:World} {t:P.Stm} (hgr:(twoNew w t).grownBy w1 (some (w.heap.size+1))):zAv w1 w.heap.size P.Stm.zero∧Below w.heap.size w w1:=by
 refine⟨((zAv.new w P.Stm.zero).alloc _).of_block (hgr.block w.heap.size (by simp[twoNew];omega) (by simp)),?_⟩
 exact zAu (zCm w t) hgr (by omega)
theorem zAB.twoNew {w:World} {b off:Nat} {ws:List ByteArray} (h:zAB w b off ws) (t:P.Stm):zAB (twoNew w t) b off ws:=h.below (zCm w t)
theorem zHu {α:Type} (l:List α) (h:3≤l.length):∃ a b c r,l=a::b::c::r:=by
 match l,h with
 | a::b::c::r,_=>exact⟨a,b,c,r,rfl⟩
theorem zIQ (b off n cap:Nat) (ws:List ByteArray) (w:World) (hw:zAB w b off ws) (hn:ws.length=n) (hc:n≤cap) (hblt:b<w.heap.size) :
  Calls Tryz.prog 147 #[.slice (some ⟨b,off,none⟩) n cap] w fun e w'=>e=.returned (zBA (P.store (ws.map ByteArray.toList)))∧Below w.heap.size w w':=by
 by_cases h3:n<3
 ·have e:P.store (ws.map ByteArray.toList)=(P.Stm.zero,false):=by
   match ws,hn with
   | [],_=>rfl
   | [_],_=>rfl
   | [_,_],_=>rfl
   | _::_::_::_,hn=>simp at hn;omega
  have HE:=zAa e
  clear e
  go_enter Tryz.func147,Tryz.ntmps147
  go_wp2_with (first | (refine zAo (.tmp 2) (.tmp 9) rfl rfl w.heap.size _ P.Stm.zero rfl rfl (by exact zAv.new _ P.Stm.zero) ?_;intro w2 hs2 hgr2))
  rw[zAD HE]
  refine zAT (p:=2) (u:=3) w.heap.size P.Stm.zero false (by kernel_rfl) rfl rfl hs2 rfl ⟨rfl,?_⟩
  exact zAu ((Below.refl _ _).alloc (Nat.le_refl _) _) hgr2 (Nat.le_refl _)
 obtain⟨q,p,v,r,rfl⟩:=zHu ws (by omega)
 obtain⟨_,_,hw1⟩:=hw.head
 obtain⟨hd1,_,hw2⟩:=hw1.head
 obtain⟨hd2,_,hw3⟩:=hw2.head
 have hn2:r.length=n-3:=by simp at hn;omega
 have hi1:(1:Int)<(n:Int):=by omega
 have hi2:(2:Int)<(n:Int):=by omega
 have hn3:3≤n:=by omega
 clear hn h3 hw hw1 hw2
 have e1:=((zCm w { P.Stm.zero with kind:=1 }).cell (p:=⟨b,off+1,none⟩) hblt).trans hd1
 have e2:=((zCm w { P.Stm.zero with kind:=1 }).cell (p:=⟨b,off+2,none⟩) hblt).trans hd2
 have E1:=zAa e1
 have E2:=zAa e2
 clear e1 e2
 cases ht:(P.target { P.Stm.zero with kind:=1 } p.toList v.toList).2
 ·go_enter Tryz.func147,Tryz.ntmps147
  go_wp2_with fail
  go_region_held3 (fun w'=>w'.cell? ⟨b,off+1,none⟩=some (.string p)∧w'.cell? ⟨b,off+2,none⟩=some (.string v)) (first | exact⟨zAD E1,zAD E2⟩ | exact⟨k1,k2⟩) (first | (go_at_call 168;refine (zCb (w.heap.size+1) { P.Stm.zero with kind:=1 } _ _ _ ?_).mono ?_;(exact (zBE w { P.Stm.zero with kind:=1 }).drew);rintro e w1 ⟨rfl,hs1,hgr⟩;have k1:=hgr.cell (a:=⟨b,off+1,none⟩) (v:=.string p) (zAD E1) (by simp;omega);have k2:=hgr.cell (a:=⟨b,off+2,none⟩) (v:=.string v) (zAD E2) (by simp;omega)))
  obtain⟨hr,hb⟩:=zBh (w:=w) (t:={ P.Stm.zero with kind:=1 }) (w1:=w1) (zIL hgr)
  clear hgr k1 k2 hs1 hd1 hd2 E1 E2
  go_wp2_with (first | (refine zAo (.tmp 2) (.tmp 20) rfl rfl w.heap.size _ P.Stm.zero rfl rfl (by exact hr) ?_;intro w2 hs2 hgr2))
  have e:P.store ((q::p::v::r).map ByteArray.toList)=(P.Stm.zero,false):=by simp[P.store,ht]
  rw[e]
  refine zAT (p:=2) (u:=3) w.heap.size P.Stm.zero false (by kernel_rfl) rfl rfl hs2 rfl ⟨rfl,zAu hb hgr2 (Nat.le_refl _)⟩
 by_cases hcap:cap=3
 ·have hr0:r=[]:=List.eq_nil_of_length_eq_zero (by omega)
  subst hr0
  go_enter Tryz.func147,Tryz.ntmps147
  go_wp2_with fail
  go_region_held3 (fun w'=>w'.cell? ⟨b,off+1,none⟩=some (.string p)∧w'.cell? ⟨b,off+2,none⟩=some (.string v)) (first | exact⟨zAD E1,zAD E2⟩ | exact⟨k1,k2⟩) (first | (go_at_call 168;refine (zCb (w.heap.size+1) { P.Stm.zero with kind:=1 } _ _ _ ?_).mono ?_;(exact (zBE w { P.Stm.zero with kind:=1 }).drew);rintro e w1 ⟨rfl,hs1,hgr⟩;have k1:=hgr.cell (a:=⟨b,off+1,none⟩) (v:=.string p) (zAD E1) (by simp;omega);have k2:=hgr.cell (a:=⟨b,off+2,none⟩) (v:=.string v) (zAD E2) (by simp;omega)))
  go_wp2_with (first | (go_at_call 169;refine (zBm _ _ _ _ _ _ [] _ hs1 (zAB.nil _ _ _) (by simp;omega) (by omega) (by omega)).mono ?_;rintro e w2 ⟨rfl,hsB,hgrB⟩;obtain⟨hr,hb⟩:=zBh (w:=w) (t:={ P.Stm.zero with kind:=1 }) (w1:=w2) (zIL (zAW hgr hgrB))) | (refine zAs (.tmp 4) rfl rfl (w.heap.size+1) _ rfl hsB ?_) | (refine zAo (.tmp 2) (.tmp 24) rfl rfl w.heap.size _ _ rfl rfl (by exact hr) ?_;intro w3 hs3 hgr3))
  have e:P.store ((q::p::v::[]).map ByteArray.toList)=P.zPn (P.target { P.Stm.zero with kind:=1 } p.toList v.toList).1 (([]:List ByteArray).map ByteArray.toList):=by simp[P.store,ht]
  rw[e]
  refine zAT (p:=2) (u:=3) w.heap.size _ _ (by kernel_rfl) rfl rfl hs3 rfl ⟨rfl,zAu hb hgr3 (Nat.le_refl _)⟩
 ·go_enter Tryz.func147,Tryz.ntmps147
  go_wp2_with fail
  go_region_held3 (fun w'=>w'.cell? ⟨b,off+1,none⟩=some (.string p)∧w'.cell? ⟨b,off+2,none⟩=some (.string v)) (first | exact⟨zAD E1,zAD E2⟩ | exact⟨k1,k2⟩) (first | (go_at_call 168;refine (zCb (w.heap.size+1) { P.Stm.zero with kind:=1 } _ _ _ ?_).mono ?_;(exact (zBE w { P.Stm.zero with kind:=1 }).drew);rintro e w1 ⟨rfl,hs1,hgr⟩;have k1:=hgr.cell (a:=⟨b,off+1,none⟩) (v:=.string p) (zAD E1) (by simp;omega);have k2:=hgr.cell (a:=⟨b,off+2,none⟩) (v:=.string v) (zAD E2) (by simp;omega)))
  go_wp2_with (first | (go_at_call 169;refine (zBm _ _ _ _ _ _ r _ hs1 (by exact zAB.grown (zAB.drew (zAB.twoNew (off:=off+3) hw3 { P.Stm.zero with kind:=1 })) hgr (by omega)) hn2 (by omega) (by omega)).mono ?_;rintro e w2 ⟨rfl,hsB,hgrB⟩;obtain⟨hr,hb⟩:=zBh (w:=w) (t:={ P.Stm.zero with kind:=1 }) (w1:=w2) (zIL (zAW hgr hgrB))) | (refine zAs (.tmp 4) rfl rfl (w.heap.size+1) _ rfl hsB ?_) | (refine zAo (.tmp 2) (.tmp 24) rfl rfl w.heap.size _ _ rfl rfl (by exact hr) ?_;intro w3 hs3 hgr3))
  have e:P.store ((q::p::v::r).map ByteArray.toList)=P.zPn (P.target { P.Stm.zero with kind:=1 } p.toList v.toList).1 (r.map ByteArray.toList):=by simp[P.store,ht]
  rw[e]
  refine zAT (p:=2) (u:=3) w.heap.size _ _ (by kernel_rfl) rfl rfl hs3 rfl ⟨rfl,zAu hb hgr3 (Nat.le_refl _)⟩
theorem zJT (ws:List (List UInt8)) (h:ws.length<3):P.zOj ws=(P.Stm.zero,false):=by
 match ws,h with
 | [],_=>rfl
 | [_],_=>rfl
 | [_,_],_=>rfl
theorem zKK (d e c:List UInt8) (r:List (List UInt8)) (h:(e==[61])=false):P.zOj (d::e::c::r)=(P.Stm.zero,false):=by simp[P.zOj,h]
theorem zJU (d e c:List UInt8) (r:List (List UInt8)) (h:(P.zOa d).2=false):P.zOj (d::e::c::r)=(P.Stm.zero,false):=by simp[P.zOj,h]
theorem zEO (b off n cap:Nat) (ws:List ByteArray) (w:World) (hw:zAB w b off ws) (hn:ws.length=n) (hc:n≤cap) (hblt:b<w.heap.size) :
  Calls Tryz.prog 150 #[.slice (some ⟨b,off,none⟩) n cap] w fun e w'=>e=.returned (zBA (P.zOj (ws.map ByteArray.toList)))∧Below w.heap.size w w':=by
 by_cases h3:n<3
 ·have HE:=zAa (zJT (ws.map ByteArray.toList) (by simp;omega))
  go_enter Tryz.func150,Tryz.ntmps150
  go_wp2_with (first | (refine zAo (.tmp 2) (.tmp 16) rfl rfl w.heap.size _ P.Stm.zero rfl rfl (by exact zAv.new _ P.Stm.zero) ?_;intro w2 hs2 hgr2))
  rw[zAD HE]
  refine zAT (p:=2) (u:=3) w.heap.size P.Stm.zero false (by kernel_rfl) rfl rfl hs2 rfl ⟨rfl,?_⟩
  exact zAu ((Below.refl _ _).alloc (Nat.le_refl _) _) hgr2 (Nat.le_refl _)
 obtain⟨d,e,c,r,rfl⟩:=zHu ws (by omega)
 obtain⟨hd0,_,hw1⟩:=hw.head
 obtain⟨hd1,_,hw2⟩:=hw1.head
 obtain⟨hd2,_,hw3⟩:=hw2.head
 have hn2:r.length=n-3:=by simp at hn;omega
 have hn3:3≤n:=by omega
 have hi1:(1:Int)<(n:Int):=by omega
 have hi2:(2:Int)<(n:Int):=by omega
 clear hn h3 hw hw1
 cases he:e.toList==[61]
 ·have HE:=zAa (zKK d.toList e.toList c.toList (r.map ByteArray.toList) he)
  go_enter Tryz.func150,Tryz.ntmps150
  go_wp2_with (first | (refine zAo (.tmp 2) (.tmp 16) rfl rfl w.heap.size _ P.Stm.zero rfl rfl (by exact zAv.new _ P.Stm.zero) ?_;intro w2 hs2 hgr2))
  simp only[List.map_cons]
  rw[zAD HE]
  refine zAT (p:=2) (u:=3) w.heap.size P.Stm.zero false (by kernel_rfl) rfl rfl hs2 rfl ⟨rfl,?_⟩
  exact zAu ((Below.refl _ _).alloc (Nat.le_refl _) _) hgr2 (Nat.le_refl _)
 cases hr:(P.zOa d.toList).2
 ·have HE:=zAa (zJU d.toList e.toList c.toList (r.map ByteArray.toList) hr)
  go_enter Tryz.func150,Tryz.ntmps150
  go_wp2_with (first | (go_at_call 171;refine (zBf _ _).mono ?_;rintro e w' ⟨rfl,rfl⟩) | (refine zAo (.tmp 2) (.tmp 26) rfl rfl w.heap.size _ P.Stm.zero rfl rfl (by exact zAv.new _ P.Stm.zero) ?_;intro w2 hs2 hgr2))
  simp only[List.map_cons]
  rw[zAD HE]
  refine zAT (p:=2) (u:=3) w.heap.size P.Stm.zero false (by kernel_rfl) rfl rfl hs2 rfl ⟨rfl,?_⟩
  exact zAu ((Below.refl _ _).alloc (Nat.le_refl _) _) hgr2 (Nat.le_refl _)
 cases hl:c.toList==[108,111,97,100]
 rotate_left
 ·have HE:Hid (P.zOj (d.toList::e.toList::c.toList::r.map ByteArray.toList)=P.load { P.Stm.zero with dest:=(P.zOa d.toList).1 } (r.map ByteArray.toList)):=by
   unfold Hid;simp[P.zOj,he,hr,hl]
  by_cases hcap:cap=3
  ·have hr0:r=[]:=List.eq_nil_of_length_eq_zero (by omega)
   subst hr0
   go_enter Tryz.func150,Tryz.ntmps150
   go_wp2_with (first
    | (go_at_call 171;refine (zBf _ _).mono ?_;rintro e w' ⟨rfl,rfl⟩)
    | (go_at_call 172;refine (zHt (w.heap.size+1) _ _ _ _ { P.Stm.zero with dest:=(P.zOa d.toList).1 } [] _ (by exact zBE w { P.Stm.zero with dest:=(P.zOa d.toList).1 }) (zAB.nil _ _ _) (by simp;omega) (by omega) (by omega)).mono ?_;rintro e w1 ⟨rfl,hs1,hgr⟩;obtain⟨hz,hb⟩:=zBh (w:=w) (t:={ P.Stm.zero with dest:=(P.zOa d.toList).1 }) (w1:=w1) hgr)
    | (refine zAs (.tmp 6) rfl rfl (w.heap.size+1) _ rfl hs1 ?_)
    | (refine zAo (.tmp 2) (.tmp 50) rfl rfl w.heap.size _ _ rfl rfl (by exact hz) ?_;intro w2 hs2 hgr2))
   simp only[List.map_cons]
   rw[zAD HE]
   refine zAT (p:=2) (u:=3) w.heap.size _ _ (by kernel_rfl) rfl rfl hs2 rfl ⟨rfl,zAu hb hgr2 (Nat.le_refl _)⟩
  ·go_enter Tryz.func150,Tryz.ntmps150
   go_wp2_with (first
    | (go_at_call 171;refine (zBf _ _).mono ?_;rintro e w' ⟨rfl,rfl⟩)
    | (go_at_call 172;refine (zHt (w.heap.size+1) _ _ _ _ { P.Stm.zero with dest:=(P.zOa d.toList).1 } r _ (by exact zBE w { P.Stm.zero with dest:=(P.zOa d.toList).1 }) (by exact zAB.twoNew (off:=off+3) hw3 { P.Stm.zero with dest:=(P.zOa d.toList).1 }) hn2 (by omega) (by omega)).mono ?_;rintro e w1 ⟨rfl,hs1,hgr⟩;obtain⟨hz,hb⟩:=zBh (w:=w) (t:={ P.Stm.zero with dest:=(P.zOa d.toList).1 }) (w1:=w1) hgr)
    | (refine zAs (.tmp 6) rfl rfl (w.heap.size+1) _ rfl hs1 ?_)
    | (refine zAo (.tmp 2) (.tmp 50) rfl rfl w.heap.size _ _ rfl rfl (by exact hz) ?_;intro w2 hs2 hgr2))
   simp only[List.map_cons]
   rw[zAD HE]
   refine zAT (p:=2) (u:=3) w.heap.size _ _ (by kernel_rfl) rfl rfl hs2 rfl ⟨rfl,zAu hb hgr2 (Nat.le_refl _)⟩
 cases ha:c.toList==[97,100,100]
 rotate_left
 ·have HE:Hid (P.zOj (d.toList::e.toList::c.toList::r.map ByteArray.toList)=P.step { P.Stm.zero with dest:=(P.zOa d.toList).1 } 2 (r.map ByteArray.toList)):=by
   unfold Hid;simp[P.zOj,he,hr,hl,ha]
  by_cases hcap:cap=3
  ·have hr0:r=[]:=List.eq_nil_of_length_eq_zero (by omega)
   subst hr0
   go_enter Tryz.func150,Tryz.ntmps150
   go_wp2_with (first
    | (go_at_call 171;refine (zBf _ _).mono ?_;rintro e w' ⟨rfl,rfl⟩)
    | (go_at_call 173;refine (zEe (w.heap.size+1) _ _ _ _ 2 { P.Stm.zero with dest:=(P.zOa d.toList).1 } [] _ (by exact zBE w { P.Stm.zero with dest:=(P.zOa d.toList).1 }) (zAB.nil _ _ _) (by simp;omega) (by omega) (by omega)).mono ?_;rintro e w1 ⟨rfl,hs1,hgr⟩;obtain⟨hz,hb⟩:=zBh (w:=w) (t:={ P.Stm.zero with dest:=(P.zOa d.toList).1 }) (w1:=w1) hgr)
    | (refine zAs (.tmp 6) rfl rfl (w.heap.size+1) _ rfl hs1 ?_)
    | (refine zAo (.tmp 2) (.tmp 50) rfl rfl w.heap.size _ _ rfl rfl (by exact hz) ?_;intro w2 hs2 hgr2))
   simp only[List.map_cons]
   rw[zAD HE]
   refine zAT (p:=2) (u:=3) w.heap.size _ _ (by kernel_rfl) rfl rfl hs2 rfl ⟨rfl,zAu hb hgr2 (Nat.le_refl _)⟩
  ·go_enter Tryz.func150,Tryz.ntmps150
   go_wp2_with (first
    | (go_at_call 171;refine (zBf _ _).mono ?_;rintro e w' ⟨rfl,rfl⟩)
    | (go_at_call 173;refine (zEe (w.heap.size+1) _ _ _ _ 2 { P.Stm.zero with dest:=(P.zOa d.toList).1 } r _ (by exact zBE w { P.Stm.zero with dest:=(P.zOa d.toList).1 }) (by exact zAB.twoNew (off:=off+3) hw3 { P.Stm.zero with dest:=(P.zOa d.toList).1 }) hn2 (by omega) (by omega)).mono ?_;rintro e w1 ⟨rfl,hs1,hgr⟩;obtain⟨hz,hb⟩:=zBh (w:=w) (t:={ P.Stm.zero with dest:=(P.zOa d.toList).1 }) (w1:=w1) hgr)
    | (refine zAs (.tmp 6) rfl rfl (w.heap.size+1) _ rfl hs1 ?_)
    | (refine zAo (.tmp 2) (.tmp 50) rfl rfl w.heap.size _ _ rfl rfl (by exact hz) ?_;intro w2 hs2 hgr2))
   simp only[List.map_cons]
   rw[zAD HE]
   refine zAT (p:=2) (u:=3) w.heap.size _ _ (by kernel_rfl) rfl rfl hs2 rfl ⟨rfl,zAu hb hgr2 (Nat.le_refl _)⟩
 cases hs:c.toList==[115,119,97,112]
 rotate_left
 ·have HE:Hid (P.zOj (d.toList::e.toList::c.toList::r.map ByteArray.toList)=P.step { P.Stm.zero with dest:=(P.zOa d.toList).1 } 3 (r.map ByteArray.toList)):=by
   unfold Hid;simp[P.zOj,he,hr,hl,ha,hs]
  by_cases hcap:cap=3
  ·have hr0:r=[]:=List.eq_nil_of_length_eq_zero (by omega)
   subst hr0
   go_enter Tryz.func150,Tryz.ntmps150
   go_wp2_with (first
    | (go_at_call 171;refine (zBf _ _).mono ?_;rintro e w' ⟨rfl,rfl⟩)
    | (go_at_call 173;refine (zEe (w.heap.size+1) _ _ _ _ 3 { P.Stm.zero with dest:=(P.zOa d.toList).1 } [] _ (by exact zBE w { P.Stm.zero with dest:=(P.zOa d.toList).1 }) (zAB.nil _ _ _) (by simp;omega) (by omega) (by omega)).mono ?_;rintro e w1 ⟨rfl,hs1,hgr⟩;obtain⟨hz,hb⟩:=zBh (w:=w) (t:={ P.Stm.zero with dest:=(P.zOa d.toList).1 }) (w1:=w1) hgr)
    | (refine zAs (.tmp 6) rfl rfl (w.heap.size+1) _ rfl hs1 ?_)
    | (refine zAo (.tmp 2) (.tmp 50) rfl rfl w.heap.size _ _ rfl rfl (by exact hz) ?_;intro w2 hs2 hgr2))
   simp only[List.map_cons]
   rw[zAD HE]
   refine zAT (p:=2) (u:=3) w.heap.size _ _ (by kernel_rfl) rfl rfl hs2 rfl ⟨rfl,zAu hb hgr2 (Nat.le_refl _)⟩
  ·go_enter Tryz.func150,Tryz.ntmps150
   go_wp2_with (first
    | (go_at_call 171;refine (zBf _ _).mono ?_;rintro e w' ⟨rfl,rfl⟩)
    | (go_at_call 173;refine (zEe (w.heap.size+1) _ _ _ _ 3 { P.Stm.zero with dest:=(P.zOa d.toList).1 } r _ (by exact zBE w { P.Stm.zero with dest:=(P.zOa d.toList).1 }) (by exact zAB.twoNew (off:=off+3) hw3 { P.Stm.zero with dest:=(P.zOa d.toList).1 }) hn2 (by omega) (by omega)).mono ?_;rintro e w1 ⟨rfl,hs1,hgr⟩;obtain⟨hz,hb⟩:=zBh (w:=w) (t:={ P.Stm.zero with dest:=(P.zOa d.toList).1 }) (w1:=w1) hgr)
    | (refine zAs (.tmp 6) rfl rfl (w.heap.size+1) _ rfl hs1 ?_)
    | (refine zAo (.tmp 2) (.tmp 50) rfl rfl w.heap.size _ _ rfl rfl (by exact hz) ?_;intro w2 hs2 hgr2))
   simp only[List.map_cons]
   rw[zAD HE]
   refine zAT (p:=2) (u:=3) w.heap.size _ _ (by kernel_rfl) rfl rfl hs2 rfl ⟨rfl,zAu hb hgr2 (Nat.le_refl _)⟩
 have HE:Hid (P.zOj (d.toList::e.toList::c.toList::r.map ByteArray.toList)=P.sum { P.Stm.zero with dest:=(P.zOa d.toList).1 } (c.toList::r.map ByteArray.toList)):=by
  unfold Hid;simp[P.zOj,he,hr,hl,ha,hs]
 have hcap:¬ cap=2:=by omega
 go_enter Tryz.func150,Tryz.ntmps150
 go_wp2_with (first
  | (go_at_call 171;refine (zBf _ _).mono ?_;rintro e w' ⟨rfl,rfl⟩)
  | (go_at_call 174;refine (zKJ (w.heap.size+1) _ _ _ _ { P.Stm.zero with dest:=(P.zOa d.toList).1 } (c::r) _ (by exact zBE w { P.Stm.zero with dest:=(P.zOa d.toList).1 }) (by exact zAB.twoNew (off:=off+2) hw2 { P.Stm.zero with dest:=(P.zOa d.toList).1 }) (by simp;omega) (by omega)).mono ?_;rintro e w1 ⟨rfl,hs1,hgr⟩;obtain⟨hz,hb⟩:=zBh (w:=w) (t:={ P.Stm.zero with dest:=(P.zOa d.toList).1 }) (w1:=w1) hgr)
  | (refine zAs (.tmp 6) rfl rfl (w.heap.size+1) _ rfl hs1 ?_)
  | (refine zAo (.tmp 2) (.tmp 50) rfl rfl w.heap.size _ _ rfl rfl (by exact hz) ?_;intro w2 hs2 hgr2))
 simp only[List.map_cons]
 rw[zAD HE]
 refine zAT (p:=2) (u:=3) w.heap.size _ _ (by kernel_rfl) rfl rfl hs2 rfl ⟨rfl,zAu hb hgr2 (Nat.le_refl _)⟩
end Go.Proofs.YtgceflcbckjjiaaGreatDoor
