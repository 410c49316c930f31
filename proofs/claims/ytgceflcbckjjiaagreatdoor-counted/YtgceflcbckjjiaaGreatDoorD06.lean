import Derived.Deep.RegionHeld3
import Derived.Test.YtgceflcbckjjiaaGreatDoorD02
set_option linter.unusedVariables false
set_option linter.unusedSimpArgs false
set_option maxHeartbeats 12800000
namespace Go.Proofs.YtgceflcbckjjiaaGreatDoor
open Go Go.RowKit
set_option maxRecDepth 100000
theorem zBV (g:Nat) (st:P.Stm) (p v:ByteArray) (w:World) (hg:zAw w g st) :
  Calls Tryz.prog 168 #[.pointer (some ⟨g,0,none⟩),.string p,.string v] w fun e w'=>e=.returned (.bool (P.target st p.toList v.toList).2)∧zAw w' g (P.target st p.toList v.toList).1∧w.grownBy w' (some g):=by
 cases hv:(P.varOf p.toList).2
 ·go_enter Tryz.func168,Tryz.ntmps168
  go_wp2_with (first | (go_at_call 190;refine (zBO _ _).mono ?_;rintro e w' ⟨rfl,rfl⟩) | (go_at_call 170;refine (zBl _ _).mono ?_;rintro e w1 ⟨rfl,hb⟩))
  go_ret
  simp only[P.target,hv]
  exact⟨rfl,hg,zAE _ _⟩
 ·go_enter Tryz.func168,Tryz.ntmps168
  go_wp2_with (first | (go_at_call 190;refine (zBO _ _).mono ?_;rintro e w' ⟨rfl,rfl⟩) | (go_at_call 170;refine (zBl _ _).mono ?_;rintro e w1 ⟨rfl,hb⟩;have h1:=hg.below hb;obtain⟨hlt,hfr,hc0,hc1,hc2,hc3,hc4,hc5,hc6,hc7,hc8,hc9,hc10⟩:=h1.facts))
  go_ret
  have e:P.target st p.toList v.toList=({ st with var:=(P.varOf p.toList).1,a:=(P.zKv v.toList).1 },(P.zKv v.toList).2):=by simp[P.target,hv]
  rw[e]
  exact⟨rfl,((h1.setVar _).setA _).alloc _,zBz (zAk (zAk (zAk (zBd hb _) _ _) _ _) _ _) _⟩
theorem zBk (g b off n cap:Nat) (st:P.Stm) (ws:List ByteArray) (w:World) (hg:zAw w g st) (hw:zAz w b off ws) (hn:ws.length=n) (hc:n≤cap) (hbg:b≠g) :
  Calls Tryz.prog 169 #[.pointer (some ⟨g,0,none⟩),.slice (some ⟨b,off,none⟩) n cap] w fun e w'=>e=.returned (.bool (P.zLd st (ws.map ByteArray.toList)).2)∧zAw w' g (P.zLd st (ws.map ByteArray.toList)).1∧w.grownBy w' (some g):=by
 obtain⟨hlt,hfr,hc0,hc1,hc2,hc3,hc4,hc5,hc6,hc7,hc8,hc9,hc10⟩:=hg.facts
 cases ws with
 | nil =>
  simp at hn;subst hn
  go_enter Tryz.func169,Tryz.ntmps169
  go_wp2
  go_ret
  exact⟨rfl,hg,zAE _ _⟩
 | cons o r =>
  obtain⟨hd,hblt,hw'⟩:=hw.head
  have hn1:1≤n:=by simp at hn;omega
  cases ho1:(P.order o.toList).2
  ·go_enter Tryz.func169,Tryz.ntmps169
   go_wp2_with (first | (go_at_call 191;refine (zCi _ _).mono ?_;rintro e w' ⟨rfl,rfl⟩) | (go_at_call 188;refine (zBU _ _ _).mono ?_;rintro e w' ⟨rfl,rfl⟩) | (go_at_call 192;refine (zCj _ _).mono ?_;rintro e w' ⟨rfl,rfl⟩))
   go_ret
   simp only[List.map_cons,P.ordering_no1 st _ _ ho1]
   exact⟨rfl,hg,zAE _ _⟩
  cases ho2:P.zMw st.kind (P.order o.toList).1
  ·go_enter Tryz.func169,Tryz.ntmps169
   go_wp2_with (first | (go_at_call 191;refine (zCi _ _).mono ?_;rintro e w' ⟨rfl,rfl⟩) | (go_at_call 188;refine (zBU _ _ _).mono ?_;rintro e w' ⟨rfl,rfl⟩) | (go_at_call 192;refine (zCj _ _).mono ?_;rintro e w' ⟨rfl,rfl⟩))
   go_ret
   simp only[List.map_cons,P.ordering_no2 st _ _ ho2]
   exact⟨rfl,hg,zAE _ _⟩
  cases h0:(P.order o.toList).1==0
  ·match r,hw',hn with
   | [],_,hn =>
    simp at hn;subst hn
    go_enter Tryz.func169,Tryz.ntmps169
    go_wp2_with (first | (go_at_call 191;refine (zCi _ _).mono ?_;rintro e w' ⟨rfl,rfl⟩) | (go_at_call 188;refine (zBU _ _ _).mono ?_;rintro e w' ⟨rfl,rfl⟩) | (go_at_call 192;refine (zCj _ _).mono ?_;rintro e w' ⟨rfl,rfl⟩))
    go_ret
    simp only[List.map_cons,List.map_nil,P.ordering_short st _ ho1 ho2 h0]
    exact⟨rfl,hg.setOrder _,zAk (zAE _ _) _ _⟩
   | [s],hw',hn =>
    obtain⟨hd2,_,_⟩:=hw'.head
    simp at hn;subst hn
    go_enter Tryz.func169,Tryz.ntmps169
    go_wp2_with (first | (go_at_call 191;refine (zCi _ _).mono ?_;rintro e w' ⟨rfl,rfl⟩) | (go_at_call 188;refine (zBU _ _ _).mono ?_;rintro e w' ⟨rfl,rfl⟩) | (go_at_call 192;refine (zCj _ _).mono ?_;rintro e w' ⟨rfl,rfl⟩))
    go_ret
    simp only[List.map_cons,List.map_nil,P.ordering_two st _ _ ho1 ho2 h0]
    exact⟨rfl,(hg.setOrder _).setScope _,zAk (zAk (zAE _ _) _ _) _ _⟩
   | s::t::q,hw',hn =>
    have hn3:3≤n:=by simp at hn;omega
    go_enter Tryz.func169,Tryz.ntmps169
    go_wp2_with (first | (go_at_call 191;refine (zCi _ _).mono ?_;rintro e w' ⟨rfl,rfl⟩) | (go_at_call 188;refine (zBU _ _ _).mono ?_;rintro e w' ⟨rfl,rfl⟩) | (go_at_call 192;refine (zCj _ _).mono ?_;rintro e w' ⟨rfl,rfl⟩))
    go_ret
    simp only[List.map_cons,P.ordering_long st _ _ _ _ ho1 ho2 h0]
    exact⟨rfl,hg.setOrder _,zAk (zAE _ _) _ _⟩
  ·have hz:(P.order o.toList).1=0:=by simpa using h0
   have HW:Hid (P.zLd st (o.toList::r.map ByteArray.toList)=({ st with order:=0 },(r.map ByteArray.toList).isEmpty)):=P.ordering_weak st _ _ ho1 ho2 hz
   rw[hz] at ho2
   clear h0
   have hr:((n:Int)==1)=r.isEmpty:=by
    cases r with
    | nil=>simp at hn;subst hn;rfl
    | cons a q=>simp at hn;simp;omega
   go_enter Tryz.func169,Tryz.ntmps169
   go_wp2_with (first | (go_at_call 191;refine (zCi _ _).mono ?_;rintro e w' ⟨rfl,rfl⟩) | (go_at_call 188;refine (zBU _ _ _).mono ?_;rintro e w' ⟨rfl,rfl⟩) | (go_at_call 192;refine (zCj _ _).mono ?_;rintro e w' ⟨rfl,rfl⟩))
   go_ret
   simp only[List.map_cons,HW.out]
   exact⟨by simp,hg.setOrder _,zAk (zAE _ _) _ _⟩
theorem zGb (g b off n cap:Nat) (st:P.Stm) (ws:List ByteArray) (w:World) (hg:zAw w g st) (hw:zAz w b off ws) (hn:ws.length=n) (hc:n≤cap) (hbg:b≠g) :
  Calls Tryz.prog 172 #[.pointer (some ⟨g,0,none⟩),.slice (some ⟨b,off,none⟩) n cap] w fun e w'=>e=.returned (.bool (P.load st (ws.map ByteArray.toList)).2)∧zAw w' g (P.load st (ws.map ByteArray.toList)).1∧w.grownBy w' (some g):=by
 obtain⟨hlt,hfr,hc0,hc1,hc2,hc3,hc4,hc5,hc6,hc7,hc8,hc9,hc10⟩:=hg.facts
 cases ws with
 | nil =>
  simp at hn;subst hn
  go_enter Tryz.func172,Tryz.ntmps172
  go_wp2
  go_ret
  exact⟨rfl,hg,zAE _ _⟩
 | cons o r =>
  obtain⟨hd,hblt,hw'⟩:=hw.head
  have hn1:1≤n:=by simp at hn;omega
  have hn2:r.length=n-1:=by simp at hn;omega
  cases ho1:(P.varOf o.toList).2
  ·go_enter Tryz.func172,Tryz.ntmps172
   go_wp2_with (first | (go_at_call 190;refine (zBO _ _).mono ?_;rintro e w' ⟨rfl,rfl⟩))
   go_ret
   simp only[List.map_cons,P.load_no st _ _ ho1]
   exact⟨rfl,hg,zAE _ _⟩
  have HL:=zAa (P.load_yes st o.toList (r.map ByteArray.toList) ho1)
  clear hn
  by_cases hcap:cap=1
  ·have hr:r=[]:=List.eq_nil_of_length_eq_zero (by omega)
   subst hr
   go_enter Tryz.func172,Tryz.ntmps172
   go_wp2_with (first | (go_at_call 190;refine (zBO _ _).mono ?_;rintro e w' ⟨rfl,rfl⟩) | (go_at_call 169;refine (zBk _ _ _ _ _ { st with kind:=0,var:=(P.varOf o.toList).1 } [] _ (by exact (hg.setKind _).setVar _) (zAz.nil _ _ _) (by simp;omega) (by omega) hbg).mono ?_;rintro e w1 ⟨rfl,hs1,hgr⟩))
   go_ret
   simp only[List.map_cons,zAB HL]
   exact⟨rfl,hs1,zAT (zAk (zAk (zAE _ _) _ _) _ _) hgr⟩
  ·go_enter Tryz.func172,Tryz.ntmps172
   go_wp2_with (first | (go_at_call 190;refine (zBO _ _).mono ?_;rintro e w' ⟨rfl,rfl⟩) | (go_at_call 169;refine (zBk _ _ _ _ _ { st with kind:=0,var:=(P.varOf o.toList).1 } r _ (by exact (hg.setKind _).setVar _) (by exact (hw'.set hbg _ _).set hbg _ _) hn2 (by omega) hbg).mono ?_;rintro e w1 ⟨rfl,hs1,hgr⟩))
   go_ret
   simp only[List.map_cons,zAB HL]
   exact⟨rfl,hs1,zAT (zAk (zAk (zAE _ _) _ _) _ _) hgr⟩
theorem zDz (g b off n cap:Nat) (k:Int) (st:P.Stm) (ws:List ByteArray) (w:World) (hg:zAw w g st) (hw:zAz w b off ws) (hn:ws.length=n) (hc:n≤cap) (hbg:b≠g) :
  Calls Tryz.prog 173 #[.pointer (some ⟨g,0,none⟩),.int .i64 k,.slice (some ⟨b,off,none⟩) n cap] w fun e w'=>e=.returned (.bool (P.step st k (ws.map ByteArray.toList)).2)∧zAw w' g (P.step st k (ws.map ByteArray.toList)).1∧w.grownBy w' (some g):=by
 obtain⟨hlt,hfr,hc0,hc1,hc2,hc3,hc4,hc5,hc6,hc7,hc8,hc9,hc10⟩:=hg.facts
 match ws,hw,hn with
 | [],_,hn =>
  simp at hn;subst hn
  go_enter Tryz.func173,Tryz.ntmps173
  go_wp2
  go_ret
  exact⟨rfl,hg,zAE _ _⟩
 | [_],_,hn =>
  simp at hn;subst hn
  go_enter Tryz.func173,Tryz.ntmps173
  go_wp2
  go_ret
  exact⟨rfl,hg,zAE _ _⟩
 | p::v::r,hw,hn =>
  obtain⟨hd,hblt,hw'⟩:=hw.head
  obtain⟨hd2,_,hw2⟩:=hw'.head
  have hn1:2≤n:=by simp at hn;omega
  have hn2:r.length=n-2:=by simp at hn;omega
  clear hn hw hw'
  have hi0:0<n:=by omega
  have hi1:(1:Int)<(n:Int):=by omega
  cases ht:(P.target { st with kind:=k } p.toList v.toList).2
  ·have HL:=zAa (P.step_no st k p.toList v.toList (r.map ByteArray.toList) ht)
   go_enter Tryz.func173,Tryz.ntmps173
   go_wp2_with fail
   go_region_held3 (fun w'=>w'.cell? ⟨b,off,none⟩=some (.string p)∧w'.cell? ⟨b,off+1,none⟩=some (.string v)) (first | exact⟨(zAh hbg).trans hd,(zAh hbg).trans hd2⟩ | exact⟨k1,k2⟩) (first | (go_at_call 168;refine (zBV g { st with kind:=k } _ _ _ ?_).mono ?_;(exact (hg.setKind _).drew);rintro e w1 ⟨rfl,hs1,hgr⟩;have k1:=hgr.cell (a:=⟨b,off,none⟩) (v:=.string p) ((zAh hbg).trans hd) (by simpa using hbg);have k2:=hgr.cell (a:=⟨b,off+1,none⟩) (v:=.string v) ((zAh hbg).trans hd2) (by simpa using hbg)))
   go_wp2
   go_ret
   simp only[List.map_cons,zAB HL]
   exact⟨rfl,hs1,zAT (zCk (zAk (zAE _ _) _ _)) hgr⟩
  have HL:=zAa (P.step_yes st k p.toList v.toList (r.map ByteArray.toList) ht)
  by_cases hcap:cap=2
  ·have hr:r=[]:=List.eq_nil_of_length_eq_zero (by omega)
   subst hr
   go_enter Tryz.func173,Tryz.ntmps173
   go_wp2_with fail
   go_region_held3 (fun w'=>w'.cell? ⟨b,off,none⟩=some (.string p)∧w'.cell? ⟨b,off+1,none⟩=some (.string v)) (first | exact⟨(zAh hbg).trans hd,(zAh hbg).trans hd2⟩ | exact⟨k1,k2⟩) (first | (go_at_call 168;refine (zBV g { st with kind:=k } _ _ _ ?_).mono ?_;(exact (hg.setKind _).drew);rintro e w1 ⟨rfl,hs1,hgr⟩;have k1:=hgr.cell (a:=⟨b,off,none⟩) (v:=.string p) ((zAh hbg).trans hd) (by simpa using hbg);have k2:=hgr.cell (a:=⟨b,off+1,none⟩) (v:=.string v) ((zAh hbg).trans hd2) (by simpa using hbg)))
   go_wp2_with (first | (go_at_call 169;refine (zBk _ _ _ _ _ _ [] _ hs1 (zAz.nil _ _ _) (by simp;omega) (by omega) hbg).mono ?_;rintro e w2 ⟨rfl,hs2,hgr2⟩))
   go_ret
   simp only[List.map_cons,zAB HL]
   exact⟨rfl,hs2,zAT (zAT (zCk (zAk (zAE _ _) _ _)) hgr) hgr2⟩
  ·go_enter Tryz.func173,Tryz.ntmps173
   go_wp2_with fail
   go_region_held3 (fun w'=>w'.cell? ⟨b,off,none⟩=some (.string p)∧w'.cell? ⟨b,off+1,none⟩=some (.string v)) (first | exact⟨(zAh hbg).trans hd,(zAh hbg).trans hd2⟩ | exact⟨k1,k2⟩) (first | (go_at_call 168;refine (zBV g { st with kind:=k } _ _ _ ?_).mono ?_;(exact (hg.setKind _).drew);rintro e w1 ⟨rfl,hs1,hgr⟩;have k1:=hgr.cell (a:=⟨b,off,none⟩) (v:=.string p) ((zAh hbg).trans hd) (by simpa using hbg);have k2:=hgr.cell (a:=⟨b,off+1,none⟩) (v:=.string v) ((zAh hbg).trans hd2) (by simpa using hbg)))
   go_wp2_with (first | (go_at_call 169;refine (zBk _ _ _ _ _ _ r _ hs1 (by exact ((hw2.set hbg _ _).drew).grown hgr hbg) hn2 (by omega) hbg).mono ?_;rintro e w2 ⟨rfl,hs2,hgr2⟩))
   go_ret
   simp only[List.map_cons,zAB HL]
   exact⟨rfl,hs2,zAT (zAT (zCk (zAk (zAE _ _) _ _)) hgr) hgr2⟩
theorem zIG (g b off n cap:Nat) (st:P.Stm) (ws:List ByteArray) (w:World) (hg:zAw w g st) (hw:zAz w b off ws) (hn:ws.length=n) (hbg:b≠g) :
  Calls Tryz.prog 174 #[.pointer (some ⟨g,0,none⟩),.slice (some ⟨b,off,none⟩) n cap] w fun e w'=>e=.returned (.bool (P.sum st (ws.map ByteArray.toList)).2)∧zAw w' g (P.sum st (ws.map ByteArray.toList)).1∧w.grownBy w' (some g):=by
 have hfr:=hg.free
 by_cases h1:n=1
 ·subst h1
  match ws,hw,hn with
  | [a],hw,hn =>
  clear hn
  obtain⟨hd,hblt,_⟩:=hw.head
  cases ha:(P.zKv a.toList).2
  ·have HL:=zAa (P.zMG st a.toList [] ha)
   go_enter Tryz.func174,Tryz.ntmps174
   go_wp2_with (first | (go_at_call 170;refine (zBl _ _).mono ?_;rintro e w1 ⟨rfl,hb⟩))
   go_ret
   simp only[List.map_cons,List.map_nil,zAB HL]
   exact⟨rfl,(hg.below hb).alloc _,zBz (zBd hb _) _⟩
  ·have HL:=zAa (P.sum_one st a.toList ha)
   go_enter Tryz.func174,Tryz.ntmps174
   go_wp2_with (first | (go_at_call 170;refine (zBl _ _).mono ?_;rintro e w1 ⟨rfl,hb⟩;have hg1:=hg.below hb;obtain⟨hlt,hfr,hc0,hc1,hc2,hc3,hc4,hc5,hc6,hc7,hc8,hc9,hc10⟩:=hg1.facts))
   go_ret
   simp only[List.map_cons,List.map_nil,zAB HL]
   exact⟨rfl,((hg1.setKind _).setA _).alloc _,zBz (zAk (zAk (zAk (zBd hb _) _ _) _ _) _ _) _⟩
 by_cases h3:n=3
 ·subst h3
  match ws,hw,hn with
  | [a,s,c],hw,hn =>
  clear hn
  obtain⟨hd,hblt,hw1⟩:=hw.head
  obtain⟨hd1,_,hw2⟩:=hw1.head
  obtain⟨hd2,_,_⟩:=hw2.head
  cases ha:(P.zKv a.toList).2
  ·have HL:=zAa (P.zMG st a.toList [s.toList,c.toList] ha)
   go_enter Tryz.func174,Tryz.ntmps174
   go_wp2_with (first | (go_at_call 170;refine (zBl _ _).mono ?_;rintro e w1 ⟨rfl,hb⟩))
   go_ret
   simp only[List.map_cons,List.map_nil,zAB HL]
   exact⟨rfl,(hg.below hb).alloc _,zBz (zBd hb _) _⟩
  cases hs:(P.sign s.toList).2
  ·have HL:=zAa (P.sum_sign st a.toList s.toList c.toList ha hs)
   go_enter Tryz.func174,Tryz.ntmps174
   go_wp2_with (first | (go_at_call_of 170 (Value.string a);refine (zBl _ _).mono ?_;rintro e w1 ⟨rfl,hb⟩;have hg1:=hg.below hb;obtain⟨hlt,hfr,hc0,hc1,hc2,hc3,hc4,hc5,hc6,hc7,hc8,hc9,hc10⟩:=hg1.facts;have hb1:b<w1.heap.size:=Nat.lt_of_lt_of_le hblt hb.size;have e1:=cfL hb hblt hd1;have e2:=cfL hb hblt hd2) | (go_at_call 193;refine (zFY _ _).mono ?_;rintro e w2 ⟨rfl,rfl⟩))
   go_ret
   simp only[List.map_cons,List.map_nil,zAB HL]
   exact⟨rfl,((hg1.setKind _).setA _).alloc _,zBz (zAk (zAk (zAk (zBd hb _) _ _) _ _) _ _) _⟩
  ·have HL:=zAa (P.sum_all st a.toList s.toList c.toList ha hs)
   go_enter Tryz.func174,Tryz.ntmps174
   go_wp2_with (first | (go_at_call_of 170 (Value.string a);refine (zBl _ _).mono ?_;rintro e w1 ⟨rfl,hb⟩;have hg1:=hg.below hb;obtain⟨hlt,hfr,hc0,hc1,hc2,hc3,hc4,hc5,hc6,hc7,hc8,hc9,hc10⟩:=hg1.facts;have hb1:b<w1.heap.size:=Nat.lt_of_lt_of_le hblt hb.size;have e1:=cfL hb hblt hd1;have e2:=cfL hb hblt hd2) | (go_at_call 193;refine (zFY _ _).mono ?_;rintro e w2 ⟨rfl,rfl⟩))
   have hgm:=((hg1.setKind 6).setA (P.zKv a.toList).1).alloc (.cells #[.bool (P.zKv a.toList).1.reg,.int .i64 (P.zKv a.toList).1.n] 94)
   refine (zBl _ _).mono ?_
   rintro e w2 ⟨rfl,hb2⟩
   have hg2:=hgm.below hb2
   have hgr:w.grownBy w2 (some g):=zAT (zBz (zAk (zAk (zAk (zBd hb _) _ _) _ _) _ _) _) (zBd hb2 _)
   clear hc0 hc1 hc2 hc3 hc4 hc5 hc6 hc7 hc8 hc9 hc10 hb2 hb hb1 e1 e2 hd hd1 hd2 hw hw1 hw2 hlt hgm hg1
   obtain⟨hlt,hfr,hc0,hc1,hc2,hc3,hc4,hc5,hc6,hc7,hc8,hc9,hc10⟩:=hg2.facts
   go_wp2
   go_ret
   simp only[List.map_cons,List.map_nil,zAB HL]
   exact⟨rfl,((hg2.setKind _).setB _).alloc _,zBz (zAk (zAk (zAk hgr _ _) _ _) _ _) _⟩
 ·have HL:=zAa (P.sum_len st (ws.map ByteArray.toList) (by simp;omega) (by simp;omega))
  have hx1:((n:Int) != 1)=true:=by rw[bne_iff_ne];omega
  have hx3:((n:Int) != 3)=true:=by rw[bne_iff_ne];omega
  go_enter Tryz.func174,Tryz.ntmps174
  go_wp2
  go_ret
  simp only[zAB HL]
  exact⟨rfl,hg,zAE _ _⟩
theorem zEw (b off n cap:Nat) (ws:List ByteArray) (w:World) (hw:zAz w b off ws) (hn:ws.length=n) :
  Calls Tryz.prog 149 #[.slice (some ⟨b,off,none⟩) n cap] w fun e w'=>e=.returned (zCl (P.zLE (ws.map ByteArray.toList)))∧Below w.heap.size w w':=by
 by_cases h2:n=2
 ·subst h2
  match ws,hw,hn with
  | [a,c],hw,hn =>
  clear hn
  obtain⟨hd,hblt,hw1⟩:=hw.head
  obtain⟨hd1,_,_⟩:=hw1.head
  go_enter Tryz.func149,Tryz.ntmps149
  go_wp2_with (first | (go_at_call 170;refine (zBl _ _).mono ?_;rintro e w1 ⟨rfl,hb⟩;have hr:=(zAw.new w P.Stm.zero).below hb) | (refine zAm (.tmp 2) (.tmp 18) rfl rfl w.heap.size _ { P.Stm.zero with kind:=10,a:=(P.zKv c.toList).1 } rfl rfl (by exact hr.alloc _) ?_;intro w2 hs2 hgr2))
  refine zAX (p:=2) (u:=3) w.heap.size { P.Stm.zero with kind:=10,a:=(P.zKv c.toList).1 } (P.zKv c.toList).2 (by kernel_rfl) rfl rfl hs2 rfl ⟨rfl,?_⟩
  exact zAy ((((Below.refl _ _).alloc (Nat.le_refl _) _).trans (hb.mono (by simp))).alloc (by have:=hb.size;simp at this;omega) _) hgr2 (Nat.le_refl _)
 ·have hx:((n:Int) != 2)=true:=by rw[bne_iff_ne];omega
  have e:P.zLE (ws.map ByteArray.toList)=(P.Stm.zero,false):=by
   match ws,hn with
   | [],_=>rfl
   | [_],_=>rfl
   | [_,_],hn=>simp at hn;omega
   | _::_::_::_,_=>rfl
  have HE:=zAa e
  clear e
  go_enter Tryz.func149,Tryz.ntmps149
  go_wp2_with (first | (refine zAm (.tmp 2) (.tmp 9) rfl rfl w.heap.size _ P.Stm.zero rfl rfl (by exact zAw.new _ P.Stm.zero) ?_;intro w2 hs2 hgr2))
  rw[zAB HE]
  refine zAX (p:=2) (u:=3) w.heap.size P.Stm.zero false (by kernel_rfl) rfl rfl hs2 rfl ⟨rfl,?_⟩
  exact zAy ((Below.refl _ _).alloc (Nat.le_refl _) _) hgr2 (Nat.le_refl _)
theorem zHa (b off n cap:Nat) (c:ByteArray) (r:List ByteArray) (w:World) (hw:zAz w b off (c::r)) (hn:r.length=n-1) (h1:1≤n) (hc:n≤cap) :
  Calls Tryz.prog 148 #[.slice (some ⟨b,off,none⟩) n cap] w fun e w'=>e=.returned (zCl (P.fence ((c::r).map ByteArray.toList)))∧Below w.heap.size w w':=by
 obtain⟨hd,hblt,hw1⟩:=hw.head
 have hS:∀ (w:World),zAw ((w.alloc (.cells (zAb P.Stm.zero) 96)).alloc (.cells (zAb { P.Stm.zero with kind:=4 }) 96)) (w.heap.size+1) { P.Stm.zero with kind:=4 }:=fun w=>by
  have:=zAw.new (w.alloc (.cells (zAb P.Stm.zero) 96)) { P.Stm.zero with kind:=4 }
  simpa using this
 have main:∀ (w1:World),zAw w1 (w.heap.size+1) (P.zLd { P.Stm.zero with kind:=4 } (r.map ByteArray.toList)).1→((w.alloc (.cells (zAb P.Stm.zero) 96)).alloc (.cells (zAb { P.Stm.zero with kind:=4 }) 96)).grownBy w1 (some (w.heap.size+1)) →
   zAw w1 w.heap.size P.Stm.zero∧Below w.heap.size w w1:=fun w1 _ hgr=>by
  refine⟨((zAw.new w P.Stm.zero).alloc _).of_block (hgr.block w.heap.size (by simp;omega) (by simp)),?_⟩
  exact zAy (((Below.refl _ _).alloc (Nat.le_refl _) _).alloc (by simp) _) hgr (by simp)
 by_cases hcap:cap=1
 ·have hr:r=[]:=List.eq_nil_of_length_eq_zero (by omega)
  subst hr
  go_enter Tryz.func148,Tryz.ntmps148
  go_wp2_with fail
  refine (zBk _ _ _ _ _ { P.Stm.zero with kind:=4 } [] _ (by exact hS w) (zAz.nil _ _ _) (by simp;omega) (by omega) (by omega)).mono ?_
  rintro e w1 ⟨rfl,hs1,hgr⟩
  obtain⟨hr,hb⟩:=main w1 hs1 hgr
  clear hgr main hS
  go_wp2_with (first | (refine zAp (.tmp 4) rfl rfl (w.heap.size+1) _ rfl hs1 ?_) | (refine zAm (.tmp 2) (.tmp 14) rfl rfl w.heap.size _ _ rfl rfl (by exact hr) ?_;intro w2 hs2 hgr2))
  refine zAX (p:=2) (u:=3) w.heap.size _ _ (by kernel_rfl) rfl rfl hs2 rfl ⟨rfl,zAy hb hgr2 (Nat.le_refl _)⟩
 ·go_enter Tryz.func148,Tryz.ntmps148
  go_wp2_with fail
  refine (zBk _ _ _ _ _ { P.Stm.zero with kind:=4 } r _ (by exact hS w) (by exact (hw1.alloc _).alloc _) hn (by omega) (by omega)).mono ?_
  rintro e w1 ⟨rfl,hs1,hgr⟩
  obtain⟨hr,hb⟩:=main w1 hs1 hgr
  clear hgr main hS
  go_wp2_with (first | (refine zAp (.tmp 4) rfl rfl (w.heap.size+1) _ rfl hs1 ?_) | (refine zAm (.tmp 2) (.tmp 14) rfl rfl w.heap.size _ _ rfl rfl (by exact hr) ?_;intro w2 hs2 hgr2))
  refine zAX (p:=2) (u:=3) w.heap.size _ _ (by kernel_rfl) rfl rfl hs2 rfl ⟨rfl,zAy hb hgr2 (Nat.le_refl _)⟩
def twoNew (w:World) (t:P.Stm):World:=(w.alloc (.cells (zAb P.Stm.zero) 96)).alloc (.cells (zAb t) 96)
theorem zBw (w:World) (t:P.Stm):zAw (twoNew w t) (w.heap.size+1) t:=by
 have:=zAw.new (w.alloc (.cells (zAb P.Stm.zero) 96)) t
 simpa [twoNew] using this
theorem zCb (w:World) (t:P.Stm):Below w.heap.size w (twoNew w t):=(((Below.refl _ _).alloc (Nat.le_refl _) _).alloc (by simp) _)
theorem zBe {w w1:World} {t:P.Stm} (hgr:(twoNew w t).grownBy w1 (some (w.heap.size+1))):zAw w1 w.heap.size P.Stm.zero∧Below w.heap.size w w1:=by
 refine⟨((zAw.new w P.Stm.zero).alloc _).of_block (hgr.block w.heap.size (by simp[twoNew];omega) (by simp)),?_⟩
 exact zAy (zCb w t) hgr (by omega)
theorem zAz.twoNew {w:World} {b off:Nat} {ws:List ByteArray} (h:zAz w b off ws) (t:P.Stm):zAz (twoNew w t) b off ws:=h.below (zCb w t)
theorem zGc {α:Type} (l:List α) (h:3≤l.length):∃ a b c r,l=a::b::c::r:=by
 match l,h with
 | a::b::c::r,_=>exact⟨a,b,c,r,rfl⟩
theorem zHb (b off n cap:Nat) (ws:List ByteArray) (w:World) (hw:zAz w b off ws) (hn:ws.length=n) (hc:n≤cap) (hblt:b<w.heap.size) :
  Calls Tryz.prog 147 #[.slice (some ⟨b,off,none⟩) n cap] w fun e w'=>e=.returned (zCl (P.store (ws.map ByteArray.toList)))∧Below w.heap.size w w':=by
 by_cases h3:n<3
 ·have e:P.store (ws.map ByteArray.toList)=(P.Stm.zero,false):=by
   match ws,hn with
   | [],_=>rfl
   | [_],_=>rfl
   | [_,_],_=>rfl
   | _::_::_::_,hn=>simp at hn;omega
  have HE:=zAa e
  clear e
  go_enter Tryz.func147,Tryz.ntmps147
  go_wp2_with (first | (refine zAm (.tmp 2) (.tmp 9) rfl rfl w.heap.size _ P.Stm.zero rfl rfl (by exact zAw.new _ P.Stm.zero) ?_;intro w2 hs2 hgr2))
  rw[zAB HE]
  refine zAX (p:=2) (u:=3) w.heap.size P.Stm.zero false (by kernel_rfl) rfl rfl hs2 rfl ⟨rfl,?_⟩
  exact zAy ((Below.refl _ _).alloc (Nat.le_refl _) _) hgr2 (Nat.le_refl _)
 obtain⟨q,p,v,r,rfl⟩:=zGc ws (by omega)
 obtain⟨_,_,hw1⟩:=hw.head
 obtain⟨hd1,_,hw2⟩:=hw1.head
 obtain⟨hd2,_,hw3⟩:=hw2.head
 have hn2:r.length=n-3:=by simp at hn;omega
 have hi1:(1:Int)<(n:Int):=by omega
 have hi2:(2:Int)<(n:Int):=by omega
 have hn3:3≤n:=by omega
 clear hn h3 hw hw1 hw2
 have e1:=((zCb w { P.Stm.zero with kind:=1 }).cell (p:=⟨b,off+1,none⟩) hblt).trans hd1
 have e2:=((zCb w { P.Stm.zero with kind:=1 }).cell (p:=⟨b,off+2,none⟩) hblt).trans hd2
 have E1:=zAa e1
 have E2:=zAa e2
 clear e1 e2
 cases ht:(P.target { P.Stm.zero with kind:=1 } p.toList v.toList).2
 ·go_enter Tryz.func147,Tryz.ntmps147
  go_wp2_with fail
  go_region_held3 (fun w'=>w'.cell? ⟨b,off+1,none⟩=some (.string p)∧w'.cell? ⟨b,off+2,none⟩=some (.string v)) (first | exact⟨zAB E1,zAB E2⟩ | exact⟨k1,k2⟩) (first | (go_at_call 168;refine (zBV (w.heap.size+1) { P.Stm.zero with kind:=1 } _ _ _ ?_).mono ?_;(exact (zBw w { P.Stm.zero with kind:=1 }).drew);rintro e w1 ⟨rfl,hs1,hgr⟩;have k1:=hgr.cell (a:=⟨b,off+1,none⟩) (v:=.string p) (zAB E1) (by simp;omega);have k2:=hgr.cell (a:=⟨b,off+2,none⟩) (v:=.string v) (zAB E2) (by simp;omega)))
  obtain⟨hr,hb⟩:=zBe (w:=w) (t:={ P.Stm.zero with kind:=1 }) (w1:=w1) (zGV hgr)
  clear hgr k1 k2 hs1 hd1 hd2 E1 E2
  go_wp2_with (first | (refine zAm (.tmp 2) (.tmp 20) rfl rfl w.heap.size _ P.Stm.zero rfl rfl (by exact hr) ?_;intro w2 hs2 hgr2))
  have e:P.store ((q::p::v::r).map ByteArray.toList)=(P.Stm.zero,false):=by simp[P.store,ht]
  rw[e]
  refine zAX (p:=2) (u:=3) w.heap.size P.Stm.zero false (by kernel_rfl) rfl rfl hs2 rfl ⟨rfl,zAy hb hgr2 (Nat.le_refl _)⟩
 by_cases hcap:cap=3
 ·have hr0:r=[]:=List.eq_nil_of_length_eq_zero (by omega)
  subst hr0
  go_enter Tryz.func147,Tryz.ntmps147
  go_wp2_with fail
  go_region_held3 (fun w'=>w'.cell? ⟨b,off+1,none⟩=some (.string p)∧w'.cell? ⟨b,off+2,none⟩=some (.string v)) (first | exact⟨zAB E1,zAB E2⟩ | exact⟨k1,k2⟩) (first | (go_at_call 168;refine (zBV (w.heap.size+1) { P.Stm.zero with kind:=1 } _ _ _ ?_).mono ?_;(exact (zBw w { P.Stm.zero with kind:=1 }).drew);rintro e w1 ⟨rfl,hs1,hgr⟩;have k1:=hgr.cell (a:=⟨b,off+1,none⟩) (v:=.string p) (zAB E1) (by simp;omega);have k2:=hgr.cell (a:=⟨b,off+2,none⟩) (v:=.string v) (zAB E2) (by simp;omega)))
  go_wp2_with (first | (go_at_call 169;refine (zBk _ _ _ _ _ _ [] _ hs1 (zAz.nil _ _ _) (by simp;omega) (by omega) (by omega)).mono ?_;rintro e w2 ⟨rfl,hsB,hgrB⟩;obtain⟨hr,hb⟩:=zBe (w:=w) (t:={ P.Stm.zero with kind:=1 }) (w1:=w2) (zGV (zAT hgr hgrB))) | (refine zAp (.tmp 4) rfl rfl (w.heap.size+1) _ rfl hsB ?_) | (refine zAm (.tmp 2) (.tmp 24) rfl rfl w.heap.size _ _ rfl rfl (by exact hr) ?_;intro w3 hs3 hgr3))
  have e:P.store ((q::p::v::[]).map ByteArray.toList)=P.zLd (P.target { P.Stm.zero with kind:=1 } p.toList v.toList).1 (([]:List ByteArray).map ByteArray.toList):=by simp[P.store,ht]
  rw[e]
  refine zAX (p:=2) (u:=3) w.heap.size _ _ (by kernel_rfl) rfl rfl hs3 rfl ⟨rfl,zAy hb hgr3 (Nat.le_refl _)⟩
 ·go_enter Tryz.func147,Tryz.ntmps147
  go_wp2_with fail
  go_region_held3 (fun w'=>w'.cell? ⟨b,off+1,none⟩=some (.string p)∧w'.cell? ⟨b,off+2,none⟩=some (.string v)) (first | exact⟨zAB E1,zAB E2⟩ | exact⟨k1,k2⟩) (first | (go_at_call 168;refine (zBV (w.heap.size+1) { P.Stm.zero with kind:=1 } _ _ _ ?_).mono ?_;(exact (zBw w { P.Stm.zero with kind:=1 }).drew);rintro e w1 ⟨rfl,hs1,hgr⟩;have k1:=hgr.cell (a:=⟨b,off+1,none⟩) (v:=.string p) (zAB E1) (by simp;omega);have k2:=hgr.cell (a:=⟨b,off+2,none⟩) (v:=.string v) (zAB E2) (by simp;omega)))
  go_wp2_with (first | (go_at_call 169;refine (zBk _ _ _ _ _ _ r _ hs1 (by exact zAz.grown (zAz.drew (zAz.twoNew (off:=off+3) hw3 { P.Stm.zero with kind:=1 })) hgr (by omega)) hn2 (by omega) (by omega)).mono ?_;rintro e w2 ⟨rfl,hsB,hgrB⟩;obtain⟨hr,hb⟩:=zBe (w:=w) (t:={ P.Stm.zero with kind:=1 }) (w1:=w2) (zGV (zAT hgr hgrB))) | (refine zAp (.tmp 4) rfl rfl (w.heap.size+1) _ rfl hsB ?_) | (refine zAm (.tmp 2) (.tmp 24) rfl rfl w.heap.size _ _ rfl rfl (by exact hr) ?_;intro w3 hs3 hgr3))
  have e:P.store ((q::p::v::r).map ByteArray.toList)=P.zLd (P.target { P.Stm.zero with kind:=1 } p.toList v.toList).1 (r.map ByteArray.toList):=by simp[P.store,ht]
  rw[e]
  refine zAX (p:=2) (u:=3) w.heap.size _ _ (by kernel_rfl) rfl rfl hs3 rfl ⟨rfl,zAy hb hgr3 (Nat.le_refl _)⟩
end Go.Proofs.YtgceflcbckjjiaaGreatDoor
