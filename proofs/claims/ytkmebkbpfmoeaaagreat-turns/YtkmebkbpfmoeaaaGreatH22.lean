import Derived.Test.YtkmebkbpfmoeaaaGreatH21
set_option linter.unusedVariables false
set_option linter.unusedSimpArgs false
set_option maxHeartbeats 12800000
namespace Go.Proofs.YtkmebkbpfmoeaaaGreat
open Go Go.RowKit
set_option maxRecDepth 100000
theorem zHJ (B g k:Nat) (m:Q.Mach) (ev:Value) (st:P.Stm) (w:World) (h:MachIn w B g m ev) (hok:m.Ok k) (hst:Q.StOk st) (hk:k<1000) (hB:B≤w.heap.size) :
  Calls Tryz.prog 121 #[.pointer (some ⟨g,0,none⟩),.agg (zAd st)] w fun x w'=>x=.returned (.tuple #[])∧zCv B g w w' ev (m.doIt st):=by
 obtain⟨k0,hsz,hbw⟩:=zBt w (zAd st) 97
 have HM0:=zAa (h.below hbw)
 have BW0:=zAa hbw
 have HST:Hid (zAu _ _ st):=k0
 have HOK:=zAa hok
 have HSO:=zAa hst
 have hlen:=hok.len
 have hszB:=hbw.size
 have HD:Hid (m.doIt st=if st.kind==0 then (m.read st).giveRead st.dest m.events.length else if st.kind==1 then m.store st else if st.kind==2||st.kind==3 then m.step st else if st.kind==4 then m.put (m.event 2 st) else if st.kind==5 then m.barrier st else if st.kind==6||st.kind==7||st.kind==8||st.kind==9 then m.give st.dest (m.result st) (m.madeOf ⟨st.a.reg,st.a.n⟩ ||| m.madeOf ⟨st.b.reg,st.b.n⟩) else m):=rfl
 clear h hbw k0 hsz hok hst
 simp only[zAd] at *
 go_enter Tryz.func121,Tryz.ntmps121
 go_upto_region 1 with fail
 generalize hE:w.alloc (.cells #[.int .i64 st.kind,.int .i64 st.line,.int .i64 st.dest,.int .i64 st.var,.bool st.a.reg,.int .i64 st.a.n,.bool st.b.reg,.int .i64 st.b.n,.int .i64 st.order,.int .i64 st.scope,.int .i64 st.label] 97)=W0 at *
 obtain⟨s0,s1,s2,s3,s4,s5,s6,s7,s8,s9,s10,s11,s12⟩:=HST.out.facts
 clear hE
 cases z0:(st.kind==0)
 rotate_left
 ·have hrl:(m.read st).events.length=m.events.length+1:=(HOK.out.read st).2.2.2.2.1
  have HE:Hid (m.doIt st=(m.read st).giveRead st.dest m.events.length):=by unfold Hid;rw[HD.out,z0];rfl
  have hun:=HOK.out.unread
  go_wp2_with (first
   | (go_at_call 135;refine (zCk B g _ ev3 st.dest m.events.length _ HM3.out (by omega) (by omega)).mono ?_;rintro e w5 ⟨rfl,hm5,hf5⟩)
   | (go_at_call 134;refine (zEw B g m ev st _ HM0.out (by omega) (by omega) hun).mono ?_;rintro e w3 ⟨rfl,ev3,hm3,hf3⟩;have HM3:=zAa hm3;have HS3:=zAa (hf3.stm HM0.out HST.out);have F3:=zAa ((MFrame.of BW0.out g ev).trans hf3);clear hm3 hf3;clear s0 s1 s2 s3 s4 s5 s6 s7 s8 s9 s10 s11 s12;obtain⟨s0,s1,s2,s3,s4,s5,s6,s7,s8,s9,s10,s11,s12⟩:=HS3.out.facts))
  go_end0
  refine⟨rfl,ev3,?_,F3.out.trans hf5⟩
  rw[HE.out];exact hm5
 cases z1:(st.kind==1)
 rotate_left
 ·skip
  have HE:Hid (m.doIt st=m.store st):=by unfold Hid;rw[HD.out,z0,z1];rfl
  go_wp2_with (first | (go_at_call 136;refine (zGa B g m ev st _ HM0.out (by omega) (by omega) HOK.out.asked HOK.out.made).mono ?_;rintro e w3 ⟨rfl,hm3⟩))
  go_end0
  refine⟨rfl,zCv.next (MFrame.of BW0.out g ev) ?_⟩
  rw[HE.out];exact hm3
 cases z2:(st.kind==2)
 rotate_left
 ·skip
  have HE:Hid (m.doIt st=m.step st):=by unfold Hid;rw[HD.out,z0,z1,z2];rfl
  go_wp2_with (first | (go_at_call 137;refine (zEy B g k m ev st _ HM0.out HOK.out HSO.out hk (by omega)).mono ?_;rintro e w3 ⟨rfl,hm3⟩))
  go_end0
  refine⟨rfl,zCv.next (MFrame.of BW0.out g ev) ?_⟩
  rw[HE.out];exact hm3
 cases z3:(st.kind==3)
 rotate_left
 ·skip
  have HE:Hid (m.doIt st=m.step st):=by unfold Hid;rw[HD.out,z0,z1,z2,z3];rfl
  go_wp2_with (first | (go_at_call 137;refine (zEy B g k m ev st _ HM0.out HOK.out HSO.out hk (by omega)).mono ?_;rintro e w3 ⟨rfl,hm3⟩))
  go_end0
  refine⟨rfl,zCv.next (MFrame.of BW0.out g ev) ?_⟩
  rw[HE.out];exact hm3
 cases z4:(st.kind==4)
 rotate_left
 ·skip
  have HE:Hid (m.doIt st=m.put (m.event 2 st)):=by unfold Hid;rw[HD.out,z0,z1,z2,z3,z4];rfl
  go_upto_region 12 with (first | (go_at_call 138;refine (zCl B g m ev 2 st _ HM0.out (by omega)).mono ?_;rintro e w1 ⟨rfl,hb1⟩;generalize hev:m.event 2 st=e0 at *;simp only[zAb]))
  have E1:Hid (zAQ (w1.alloc (.cells (zAb e0) 129)) w1.heap.size e0):=zAQ.new w1 e0
  have BX:Below W0.heap.size W0 (w1.alloc (.cells (zAb e0) 129)):=hb1.alloc hb1.size _
  have HM1:=zAa (HM0.out.below BX)
  have B1:=zAa (zAn BW0.out (Nat.le_refl _) BX)
  have hs1:=BX.size
  clear BX hb1 hev
  simp only[zAb] at E1 HM1 B1 hs1
  generalize hb:w1.heap.size=b at *
  generalize hW1:w1.alloc _=W1 at *
  clear hW1
  go_wp2_with (first | (refine zAg (.tmp 5) rfl rfl b 0 e0 rfl E1.out.range ?_) | (go_at_call 139;refine (zCE B g m ev e0 _ HM1.out (by omega) (by omega)).mono ?_;rintro e w3 ⟨rfl,ev3,hm3,hf3⟩))
  go_end0
  refine⟨rfl,ev3,?_,(MFrame.of B1.out g ev).trans hf3⟩
  rw[HE.out];exact hm3
 cases z5:(st.kind==5)
 rotate_left
 ·skip
  have HE:Hid (m.doIt st=m.barrier st):=by unfold Hid;rw[HD.out,z0,z1,z2,z3,z4,z5];rfl
  have hbr:=HOK.out.bars
  go_wp2_with (first | (go_at_call 140;refine (zEx B g m ev st _ HM0.out (by omega) (by omega) (by omega)).mono ?_;rintro e w3 ⟨rfl,hm3⟩))
  go_end0
  refine⟨rfl,zCv.next (MFrame.of BW0.out g ev) ?_⟩
  rw[HE.out];exact hm3
 have hma:=zBk HOK.out.made ⟨st.a.reg,st.a.n⟩
 have hmb:=zBk HOK.out.made ⟨st.b.reg,st.b.n⟩
 have hor:=bits_or_u64_nat (m.madeOf ⟨st.a.reg,st.a.n⟩) (m.madeOf ⟨st.b.reg,st.b.n⟩) hma hmb
 cases z6:(st.kind==6)
 rotate_left
 ·skip
  have HE:Hid (m.doIt st=m.give st.dest (m.result st) (m.madeOf ⟨st.a.reg,st.a.n⟩ ||| m.madeOf ⟨st.b.reg,st.b.n⟩)):=by unfold Hid;rw[HD.out,z0,z1,z2,z3,z4,z5,z6];rfl
  go_upto_region 20 with (first | (go_at_call 141;refine (zCe B g k m ev st _ HM0.out HOK.out HSO.out).mono ?_;rintro e w1 ⟨rfl,hb1⟩;have HM1:=zAa (HM0.out.below hb1);have HS1:=zAa (HST.out.below hb1);have B1:=zAa (zAn BW0.out (Nat.le_refl _) hb1);clear s0 s1 s2 s3 s4 s5 s6 s7 s8 s9 s10 s11 s12;obtain⟨s0,s1,s2,s3,s4,s5,s6,s7,s8,s9,s10,s11,s12⟩:=HS1.out.facts))
  generalize m.result st=rv at *
  generalize hma':m.madeOf ⟨st.a.reg,st.a.n⟩=ma at *
  generalize hmb':m.madeOf ⟨st.b.reg,st.b.n⟩=mb at *
  have HMA:=zAa hma'
  have HMB:=zAa hmb'
  clear hma' hmb'
  clear s1 s2 s3 s4 s5 s10 s11 s12
  go_region_held3 (fun w'=>w'.cell? ⟨w.heap.size,4,none⟩=some (.bool st.a.reg)∧w'.cell? ⟨w.heap.size,5,none⟩=some (.int .i64 st.a.n)∧w'.cell? ⟨w.heap.size,6,none⟩=some (.bool st.b.reg)∧w'.cell? ⟨w.heap.size,7,none⟩=some (.int .i64 st.b.n)) (first | exact⟨s6,s7,s8,s9⟩ | exact⟨p6,p7,p8,p9⟩ | exact⟨q6,q7,q8,q9⟩) (first
   | (go_at_call_of 119 (Value.bool st.b.reg);refine (zBc B g m ev st.b.reg st.b.n _ (HM1.out.below BB1.out)).mono ?_;rintro e v2 ⟨rfl,hc2⟩;have BB2:Hid (Below w1.heap.size w1 v2):=zAn BB1.out (Nat.le_refl _) hc2;rw[HMB.out];have q6:=cfL BB2.out s0 s6;have q7:=cfL BB2.out s0 s7;have q8:=cfL BB2.out s0 s8;have q9:=cfL BB2.out s0 s9)
   | (go_at_call 119;refine (zBc B g m ev st.a.reg st.a.n _ (HM1.out.below (Below.refl _ _).drew)).mono ?_;rintro e v1 ⟨rfl,hc1⟩;have BB1:Hid (Below w1.heap.size w1 v1):=((Below.refl w1.heap.size w1).drew).trans (hc1.mono (by simp));rw[HMA.out];have p6:=cfL BB1.out s0 s6;have p7:=cfL BB1.out s0 s7;have p8:=cfL BB1.out s0 s8;have p9:=cfL BB1.out s0 s9))
  have HS2:=zAa (HS1.out.below BB2.out)
  have HM2:=zAa (HM1.out.below BB2.out)
  have F2:=zAa (MFrame.of (zAn B1.out (Nat.le_refl _) BB2.out) g ev)
  obtain⟨t0,t1,t2,t3,t4,t5,t6,t7,t8,t9,t10,t11,t12⟩:=HS2.out.facts
  go_wp2_with (first | (go_at_call 142;refine (zCD B g m ev st.dest rv (ma ||| mb) _ HM2.out).mono ?_;rintro e w5 ⟨rfl,hm5,hf5⟩))
  go_end0
  refine⟨rfl,ev,?_,F2.out.trans hf5⟩
  rw[HE.out];exact hm5
 cases z7:(st.kind==7)
 rotate_left
 ·skip
  have HE:Hid (m.doIt st=m.give st.dest (m.result st) (m.madeOf ⟨st.a.reg,st.a.n⟩ ||| m.madeOf ⟨st.b.reg,st.b.n⟩)):=by unfold Hid;rw[HD.out,z0,z1,z2,z3,z4,z5,z6,z7];rfl
  go_upto_region 20 with (first | (go_at_call 141;refine (zCe B g k m ev st _ HM0.out HOK.out HSO.out).mono ?_;rintro e w1 ⟨rfl,hb1⟩;have HM1:=zAa (HM0.out.below hb1);have HS1:=zAa (HST.out.below hb1);have B1:=zAa (zAn BW0.out (Nat.le_refl _) hb1);clear s0 s1 s2 s3 s4 s5 s6 s7 s8 s9 s10 s11 s12;obtain⟨s0,s1,s2,s3,s4,s5,s6,s7,s8,s9,s10,s11,s12⟩:=HS1.out.facts))
  generalize m.result st=rv at *
  generalize hma':m.madeOf ⟨st.a.reg,st.a.n⟩=ma at *
  generalize hmb':m.madeOf ⟨st.b.reg,st.b.n⟩=mb at *
  have HMA:=zAa hma'
  have HMB:=zAa hmb'
  clear hma' hmb'
  clear s1 s2 s3 s4 s5 s10 s11 s12
  go_region_held3 (fun w'=>w'.cell? ⟨w.heap.size,4,none⟩=some (.bool st.a.reg)∧w'.cell? ⟨w.heap.size,5,none⟩=some (.int .i64 st.a.n)∧w'.cell? ⟨w.heap.size,6,none⟩=some (.bool st.b.reg)∧w'.cell? ⟨w.heap.size,7,none⟩=some (.int .i64 st.b.n)) (first | exact⟨s6,s7,s8,s9⟩ | exact⟨p6,p7,p8,p9⟩ | exact⟨q6,q7,q8,q9⟩) (first
   | (go_at_call_of 119 (Value.bool st.b.reg);refine (zBc B g m ev st.b.reg st.b.n _ (HM1.out.below BB1.out)).mono ?_;rintro e v2 ⟨rfl,hc2⟩;have BB2:Hid (Below w1.heap.size w1 v2):=zAn BB1.out (Nat.le_refl _) hc2;rw[HMB.out];have q6:=cfL BB2.out s0 s6;have q7:=cfL BB2.out s0 s7;have q8:=cfL BB2.out s0 s8;have q9:=cfL BB2.out s0 s9)
   | (go_at_call 119;refine (zBc B g m ev st.a.reg st.a.n _ (HM1.out.below (Below.refl _ _).drew)).mono ?_;rintro e v1 ⟨rfl,hc1⟩;have BB1:Hid (Below w1.heap.size w1 v1):=((Below.refl w1.heap.size w1).drew).trans (hc1.mono (by simp));rw[HMA.out];have p6:=cfL BB1.out s0 s6;have p7:=cfL BB1.out s0 s7;have p8:=cfL BB1.out s0 s8;have p9:=cfL BB1.out s0 s9))
  have HS2:=zAa (HS1.out.below BB2.out)
  have HM2:=zAa (HM1.out.below BB2.out)
  have F2:=zAa (MFrame.of (zAn B1.out (Nat.le_refl _) BB2.out) g ev)
  obtain⟨t0,t1,t2,t3,t4,t5,t6,t7,t8,t9,t10,t11,t12⟩:=HS2.out.facts
  go_wp2_with (first | (go_at_call 142;refine (zCD B g m ev st.dest rv (ma ||| mb) _ HM2.out).mono ?_;rintro e w5 ⟨rfl,hm5,hf5⟩))
  go_end0
  refine⟨rfl,ev,?_,F2.out.trans hf5⟩
  rw[HE.out];exact hm5
 cases z8:(st.kind==8)
 rotate_left
 ·skip
  have HE:Hid (m.doIt st=m.give st.dest (m.result st) (m.madeOf ⟨st.a.reg,st.a.n⟩ ||| m.madeOf ⟨st.b.reg,st.b.n⟩)):=by unfold Hid;rw[HD.out,z0,z1,z2,z3,z4,z5,z6,z7,z8];rfl
  go_upto_region 20 with (first | (go_at_call 141;refine (zCe B g k m ev st _ HM0.out HOK.out HSO.out).mono ?_;rintro e w1 ⟨rfl,hb1⟩;have HM1:=zAa (HM0.out.below hb1);have HS1:=zAa (HST.out.below hb1);have B1:=zAa (zAn BW0.out (Nat.le_refl _) hb1);clear s0 s1 s2 s3 s4 s5 s6 s7 s8 s9 s10 s11 s12;obtain⟨s0,s1,s2,s3,s4,s5,s6,s7,s8,s9,s10,s11,s12⟩:=HS1.out.facts))
  generalize m.result st=rv at *
  generalize hma':m.madeOf ⟨st.a.reg,st.a.n⟩=ma at *
  generalize hmb':m.madeOf ⟨st.b.reg,st.b.n⟩=mb at *
  have HMA:=zAa hma'
  have HMB:=zAa hmb'
  clear hma' hmb'
  clear s1 s2 s3 s4 s5 s10 s11 s12
  go_region_held3 (fun w'=>w'.cell? ⟨w.heap.size,4,none⟩=some (.bool st.a.reg)∧w'.cell? ⟨w.heap.size,5,none⟩=some (.int .i64 st.a.n)∧w'.cell? ⟨w.heap.size,6,none⟩=some (.bool st.b.reg)∧w'.cell? ⟨w.heap.size,7,none⟩=some (.int .i64 st.b.n)) (first | exact⟨s6,s7,s8,s9⟩ | exact⟨p6,p7,p8,p9⟩ | exact⟨q6,q7,q8,q9⟩) (first
   | (go_at_call_of 119 (Value.bool st.b.reg);refine (zBc B g m ev st.b.reg st.b.n _ (HM1.out.below BB1.out)).mono ?_;rintro e v2 ⟨rfl,hc2⟩;have BB2:Hid (Below w1.heap.size w1 v2):=zAn BB1.out (Nat.le_refl _) hc2;rw[HMB.out];have q6:=cfL BB2.out s0 s6;have q7:=cfL BB2.out s0 s7;have q8:=cfL BB2.out s0 s8;have q9:=cfL BB2.out s0 s9)
   | (go_at_call 119;refine (zBc B g m ev st.a.reg st.a.n _ (HM1.out.below (Below.refl _ _).drew)).mono ?_;rintro e v1 ⟨rfl,hc1⟩;have BB1:Hid (Below w1.heap.size w1 v1):=((Below.refl w1.heap.size w1).drew).trans (hc1.mono (by simp));rw[HMA.out];have p6:=cfL BB1.out s0 s6;have p7:=cfL BB1.out s0 s7;have p8:=cfL BB1.out s0 s8;have p9:=cfL BB1.out s0 s9))
  have HS2:=zAa (HS1.out.below BB2.out)
  have HM2:=zAa (HM1.out.below BB2.out)
  have F2:=zAa (MFrame.of (zAn B1.out (Nat.le_refl _) BB2.out) g ev)
  obtain⟨t0,t1,t2,t3,t4,t5,t6,t7,t8,t9,t10,t11,t12⟩:=HS2.out.facts
  go_wp2_with (first | (go_at_call 142;refine (zCD B g m ev st.dest rv (ma ||| mb) _ HM2.out).mono ?_;rintro e w5 ⟨rfl,hm5,hf5⟩))
  go_end0
  refine⟨rfl,ev,?_,F2.out.trans hf5⟩
  rw[HE.out];exact hm5
 cases z9:(st.kind==9)
 rotate_left
 ·skip
  have HE:Hid (m.doIt st=m.give st.dest (m.result st) (m.madeOf ⟨st.a.reg,st.a.n⟩ ||| m.madeOf ⟨st.b.reg,st.b.n⟩)):=by unfold Hid;rw[HD.out,z0,z1,z2,z3,z4,z5,z6,z7,z8,z9];rfl
  go_upto_region 20 with (first | (go_at_call 141;refine (zCe B g k m ev st _ HM0.out HOK.out HSO.out).mono ?_;rintro e w1 ⟨rfl,hb1⟩;have HM1:=zAa (HM0.out.below hb1);have HS1:=zAa (HST.out.below hb1);have B1:=zAa (zAn BW0.out (Nat.le_refl _) hb1);clear s0 s1 s2 s3 s4 s5 s6 s7 s8 s9 s10 s11 s12;obtain⟨s0,s1,s2,s3,s4,s5,s6,s7,s8,s9,s10,s11,s12⟩:=HS1.out.facts))
  generalize m.result st=rv at *
  generalize hma':m.madeOf ⟨st.a.reg,st.a.n⟩=ma at *
  generalize hmb':m.madeOf ⟨st.b.reg,st.b.n⟩=mb at *
  have HMA:=zAa hma'
  have HMB:=zAa hmb'
  clear hma' hmb'
  clear s1 s2 s3 s4 s5 s10 s11 s12
  go_region_held3 (fun w'=>w'.cell? ⟨w.heap.size,4,none⟩=some (.bool st.a.reg)∧w'.cell? ⟨w.heap.size,5,none⟩=some (.int .i64 st.a.n)∧w'.cell? ⟨w.heap.size,6,none⟩=some (.bool st.b.reg)∧w'.cell? ⟨w.heap.size,7,none⟩=some (.int .i64 st.b.n)) (first | exact⟨s6,s7,s8,s9⟩ | exact⟨p6,p7,p8,p9⟩ | exact⟨q6,q7,q8,q9⟩) (first
   | (go_at_call_of 119 (Value.bool st.b.reg);refine (zBc B g m ev st.b.reg st.b.n _ (HM1.out.below BB1.out)).mono ?_;rintro e v2 ⟨rfl,hc2⟩;have BB2:Hid (Below w1.heap.size w1 v2):=zAn BB1.out (Nat.le_refl _) hc2;rw[HMB.out];have q6:=cfL BB2.out s0 s6;have q7:=cfL BB2.out s0 s7;have q8:=cfL BB2.out s0 s8;have q9:=cfL BB2.out s0 s9)
   | (go_at_call 119;refine (zBc B g m ev st.a.reg st.a.n _ (HM1.out.below (Below.refl _ _).drew)).mono ?_;rintro e v1 ⟨rfl,hc1⟩;have BB1:Hid (Below w1.heap.size w1 v1):=((Below.refl w1.heap.size w1).drew).trans (hc1.mono (by simp));rw[HMA.out];have p6:=cfL BB1.out s0 s6;have p7:=cfL BB1.out s0 s7;have p8:=cfL BB1.out s0 s8;have p9:=cfL BB1.out s0 s9))
  have HS2:=zAa (HS1.out.below BB2.out)
  have HM2:=zAa (HM1.out.below BB2.out)
  have F2:=zAa (MFrame.of (zAn B1.out (Nat.le_refl _) BB2.out) g ev)
  obtain⟨t0,t1,t2,t3,t4,t5,t6,t7,t8,t9,t10,t11,t12⟩:=HS2.out.facts
  go_wp2_with (first | (go_at_call 142;refine (zCD B g m ev st.dest rv (ma ||| mb) _ HM2.out).mono ?_;rintro e w5 ⟨rfl,hm5,hf5⟩))
  go_end0
  refine⟨rfl,ev,?_,F2.out.trans hf5⟩
  rw[HE.out];exact hm5
 have HE:Hid (m.doIt st=m):=by unfold Hid;rw[HD.out,z0,z1,z2,z3,z4,z5,z6,z7,z8,z9];rfl
 go_wp2
 go_end0
 refine⟨rfl,ev,?_,MFrame.of BW0.out g ev⟩
 rw[HE.out];exact HM0.out
theorem zEc (p:Q.Mach × Nat) (st:P.Stm) (h0:(p.2==0)=false) (h:(st.kind==10)=true):Q.carry p st=(p.1,p.2+1):=by unfold Q.carry;rw[h0,h];rfl
theorem zDH (p:Q.Mach × Nat) (st:P.Stm) (h0:(p.2==0)=false) (h:(st.kind==10)=false) (h1:(st.kind==11)=true):Q.carry p st=(p.1,p.2-1):=by unfold Q.carry;rw[h0,h,h1];rfl
theorem zEd (p:Q.Mach × Nat) (st:P.Stm) (h0:(p.2==0)=false) (h:(st.kind==10)=false) (h1:(st.kind==11)=false):Q.carry p st=p:=by unfold Q.carry;rw[h0,h,h1];rfl
theorem zHf (m:Q.Mach) (st:P.Stm) (h:(st.kind==10)=true):Q.carry (m,0) st=(m.ask st,if m.value st.a==0 then 1 else 0):=by unfold Q.carry;rw[h];rfl
theorem zHg (m:Q.Mach) (st:P.Stm) (h:(st.kind==10)=false):Q.carry (m,0) st=(m.doIt st,0):=by unfold Q.carry;rw[h];rfl
theorem zAu.grownM {w w':World} {B g:Nat} {m:Q.Mach} {ev:Value} {b:Nat} {st:P.Stm} (hm:MachIn w B g m ev) (hs:zAu w b st) (hk:∀ k,k≠g→w'.heap[k]?=w.heap[k]?):zAu w' b st:=by
 refine hs.of_block (hk b ?_)
 intro e;have h1:=hm.box;unfold zAu at hs;rw[← e,hs] at h1;simp at h1
theorem zEz (B g bs sc:Nat) (m:Q.Mach) (ev:Value) (ss:List P.Stm) (sa:Option Addr) (w:World) (h:MachIn w B g m ev) (hok:m.Ok 0) (hst:∀ s∈ss,Q.StOk s) (hn:ss.length<900) (hB:B≤w.heap.size)
  (hss:0<ss.length→sa=some ⟨bs,0,none⟩) (hbs:0<ss.length→bs<B) (hr:∀ q (hq:q<ss.length),w.rangeAt bs (q*11) (zAd ss[q]).toList) :
  Calls Tryz.prog 102 #[.pointer (some ⟨g,0,none⟩),.slice sa ss.length sc] w fun x w'=>x=.returned (.tuple #[])∧zCv B g w w' ev (Q.zJB m ss):=by
 have HM0:=zAa h
 have HRS:=zAa hr
 have HOK:=zAa hok
 have HSO:=zAa hst
 have HCE:Hid (Q.zJB m ss=(ss.foldl Q.carry (m,0)).1):=rfl
 clear h hr hok hst
 go_enter Tryz.func102,Tryz.ntmps102
 go_wp2
 go_loopw [4,9] (fun c j wr=>∃ (k:Nat) (p:Q.Mach × Nat) (evk:Value),k≤ss.length∧j=.int .i64 k∧c=.int .i64 (p.2:Nat)∧Hid (p=(ss.take k).foldl Q.carry (m,0))∧Hid (p.1.Ok k)∧p.2≤k∧Hid (MachIn wr B g p.1 evk)∧Hid (MFrame w wr g ev evk)) (fun _ j _=>ss.length-(intOf j).toNat)
 case atStart=>exact⟨0,(m,0),ev,Nat.zero_le _,rfl,rfl,by simp[Hid],HOK,Nat.le_refl _,HM0,MFrame.of (Below.refl _ _) g ev⟩
 case round =>
  obtain⟨k,⟨mk,pk⟩,evk,hk,rfl,rfl,HP,HO,hpk,HI,HF⟩:=hrel
  simp only at HO hpk HI
  by_cases hlt:k<ss.length
  ·have hin:(k:Int)<(ss.length:Int):=by omega
   have hsa:=hss (by omega)
   subst hsa
   have hbB:=hbs (by omega)
   have HBW:=HF.out.below HM0.out hB
   have HR1:Hid (wr.rangeAt bs (k*11) (zAd ss[k]).toList):=zAz (HRS.out k hlt) (HBW.block bs hbB)
   have HPS:Hid ((ss.take (k+1)).foldl Q.carry (m,0)=Q.carry (mk,pk) ss[k]):=by
    unfold Hid;rw[List.take_succ_eq_append_getElem hlt,List.foldl_append,← HP.out];rfl
   have hso:=HSO.out ss[k] (List.getElem_mem hlt)
   generalize ss[k]=st at *
   have HCO:=zAa (Q.carry_ok (p:=(mk,pk)) HO.out hso)
   have HCP:=Q.carry_pass (mk,pk) st
   have HSA:=zAa (zAu.new wr st)
   have HI1:=zAa (HI.out.below ((Below.refl _ _).alloc (Nat.le_refl _) (.cells (zAd st) 97)))
   have HF1:=zAa (HF.out.trans (MFrame.of ((Below.refl wr.heap.size wr).alloc (Nat.le_refl _) (.cells (zAd st) 97)) g evk))
   have hwB:B≤(wr.alloc (.cells (zAd st) 97)).heap.size:=by have:=HF1.out.size;omega
   have hlb:bs<wr.heap.size:=by have:=HBW.size;omega
   clear HBW
   cases hp0:(pk==0)
   ·have hpos:0<pk:=by have h9:pk≠0:=(by simpa using hp0);omega
    have hposi:(0:Int)<(pk:Int):=by omega
    cases hz:(st.kind==10)
    rotate_left
    ·have HC:=zAa (zEc (mk,pk) st hp0 hz)
     rw[HC.out] at HPS HCO
     go_wp2_with (first | (refine zAE (.tmp 11) rfl rfl bs (k*11) st rfl HR1.out ?_))
     go_roundw
     case rel=>exact⟨k+1,(mk,pk+1),evk,by omega,by go_num,by go_num,HPS.out.symm,HCO,by simp;omega,HI1,HF1⟩
     case measure=>simp[intOf];omega
    cases hz1:(st.kind==11)
    ·have HC:=zAa (zEd (mk,pk) st hp0 hz hz1)
     rw[HC.out] at HPS HCO
     go_wp2_with (first | (refine zAE (.tmp 11) rfl rfl bs (k*11) st rfl HR1.out ?_))
     go_roundw
     case rel=>exact⟨k+1,(mk,pk),evk,by omega,by go_num,rfl,HPS.out.symm,HCO,by simp;omega,HI1,HF1⟩
     case measure=>simp[intOf];omega
    ·have HC:=zAa (zDH (mk,pk) st hp0 hz hz1)
     rw[HC.out] at HPS HCO
     have hsub:((pk-1:Nat):Int)=(pk:Int)-1:=by omega
     go_wp2_with (first | (refine zAE (.tmp 11) rfl rfl bs (k*11) st rfl HR1.out ?_))
     go_roundw
     case rel=>exact⟨k+1,(mk,pk-1),evk,by omega,by go_num,by rw[hsub],HPS.out.symm,HCO,by simp;omega,HI1,HF1⟩
     case measure=>simp[intOf];omega
   ·have hp00:pk=0:=by simpa using hp0
    subst hp00
    cases hz:(st.kind==10)
    ·have HC:=zAa (zHg mk st hz)
     rw[HC.out] at HPS HCO
     have hok1:=HO.out
     go_wp2_with (first | (refine zAE (.tmp 11) rfl rfl bs (k*11) st rfl HR1.out ?_) | (go_at_call 121;refine (zHJ B g k mk evk st _ HI1.out hok1 hso (by omega) hwB).mono ?_;rintro e w3 ⟨rfl,ev3,hm3,hf3⟩))
     go_roundw
     case rel=>exact⟨k+1,(mk.doIt st,0),ev3,by omega,by go_num,rfl,HPS.out.symm,HCO,by simp,hm3,HF1.out.trans hf3⟩
     case measure=>simp[intOf];omega
    ·have HC:=zAa (zHf mk st hz)
     rw[HC.out] at HPS HCO
     have HAE:Hid (mk.ask st={ mk with asked:=mk.asked ||| mk.madeOf ⟨st.a.reg,st.a.n⟩ }):=rfl
     have HVE:Hid (mk.value st.a=mk.value ⟨st.a.reg,st.a.n⟩):=rfl
     have hor:=bits_or_u64_nat mk.asked (mk.madeOf ⟨st.a.reg,st.a.n⟩) HO.out.asked (zBk HO.out.made _)
     obtain⟨s0,s1,s2,s3,s4,s5,s6,s7,s8,s9,s10,s11,s12⟩:=HSA.out.facts
     obtain⟨c0,c1,c2,c3,c4,c5,c6,c7,c8,c9,c10,c11,c12,c13,cf⟩:=HI1.out.facts
     have hgl:=HI1.out.lt
     clear c0 c1 c2 c3 c4 c5 c6 c7 c8 c9 c10 c12 c13 s3 s4 s5 s10 s11 s12
     simp only[zAd] at s0 s1 s2 s6 s7 s8 s9 c11 cf hgl hwB
     go_upto_region 11 with (first | (refine zAE (.tmp 11) rfl rfl bs (k*11) st rfl HR1.out ?_))
     generalize hb0:wr.heap.size=b0 at *
     have HS1:Hid (zAu (wr.alloc (.cells (zAd st) 97)) b0 st):=HSA
     simp only[zAd] at HI1 HF1 HS1
     generalize hW1:wr.alloc (.cells #[.int .i64 st.kind,.int .i64 st.line,.int .i64 st.dest,.int .i64 st.var,.bool st.a.reg,.int .i64 st.a.n,.bool st.b.reg,.int .i64 st.b.n,.int .i64 st.order,.int .i64 st.scope,.int .i64 st.label] 97)=W1 at *
     clear hW1 HSA
     generalize hmo:mk.madeOf ⟨st.a.reg,st.a.n⟩=mo at *
     have HMO:=zAa hmo
     clear hmo
     go_cut [] from 43 to 53 (fun wx=>∃ ev5,Hid (MachIn wx B g (mk.ask st) ev5)∧Hid (MFrame w wx g ev ev5)∧Hid (zAu wx b0 st))
     case first =>
      go_region_with (go_at_call 119;refine (zBc B g mk evk st.a.reg st.a.n _ (HI1.out.below (by first | exact (Below.refl _ _).drew | exact Below.refl _ _))).mono ?_;rintro e w2 ⟨rfl,hb2⟩;rw[HMO.out];have B2:Hid (Below W1.heap.size W1 w2):=(by first | exact ((Below.refl W1.heap.size W1).drew).trans (hb2.mono (by simp)) | exact hb2);have d11:=cfL B2.out hgl c11;have df:∀ j,w2.frozen? ⟨g,j,none⟩=false:=(fun j=>(B2.out.frozen (p:=⟨g,j,none⟩) hgl).trans (cf j));have t6:=cfL B2.out s0 s6;have t7:=cfL B2.out s0 s7;have l2:=Nat.lt_of_lt_of_le hgl B2.out.size;have l2b:=Nat.lt_of_lt_of_le s0 B2.out.size)
      all_goals
       (try go_wp2)
       go_meet
       case rel =>
        have hM2:=HI1.out.below B2.out
        refine⟨evk,?_,HF1.out.trans ((MFrame.of B2.out g evk).trans (MFrame.set evk [(11,.int .u64 ((mk.asked ||| mo:Nat):Int))])),zAu.grownM hM2 (HS1.out.below B2.out) (fun k hk=>Below.heap_setCell _ _ _ _ hk)⟩
        rw[HAE.out]
        refine hM2.set ?_ (fun k hk=>Below.heap_setCell _ _ _ _ hk) rfl hM2.lr hM2.lm
        rw[zAf hM2.box];rfl
     case rest =>
      obtain⟨ev5,H5,HF5,HS5⟩:=hcut
      clear s0 s1 s2 s6 s7 s8 s9 c11 cf hgl
      obtain⟨s0,s1,s2,s3,s4,s5,s6,s7,s8,s9,s10,s11,s12⟩:=HS5.out.facts
      have HVA:Hid ((mk.ask st).value ⟨st.a.reg,st.a.n⟩=mk.value ⟨st.a.reg,st.a.n⟩):=rfl
      rw[HVE.out] at HPS HCO
      generalize hvv:mk.value ⟨st.a.reg,st.a.n⟩=vv at *
      cases hv0:(vv==0)
      ·rw[hv0] at HPS HCO
       go_wp2_with (first | (go_at_call 120;refine (zBY B g (mk.ask st) ev5 st.a.reg st.a.n _ H5.out).mono ?_;rintro e w6 ⟨rfl,hb6⟩;rw[HVA.out]))
       go_roundw
       case rel=>exact⟨k+1,(mk.ask st,0),ev5,by omega,by go_num,rfl,HPS.out.symm,HCO,by simp,H5.out.below hb6,HF5.out.trans (MFrame.of hb6 g ev5)⟩
       case measure=>simp[intOf];omega
      ·rw[hv0] at HPS HCO
       go_wp2_with (first | (go_at_call 120;refine (zBY B g (mk.ask st) ev5 st.a.reg st.a.n _ H5.out).mono ?_;rintro e w6 ⟨rfl,hb6⟩;rw[HVA.out]))
       go_roundw
       case rel=>exact⟨k+1,(mk.ask st,1),ev5,by omega,by go_num,rfl,HPS.out.symm,HCO,by simp,H5.out.below hb6,HF5.out.trans (MFrame.of hb6 g ev5)⟩
       case measure=>simp[intOf];omega
  ·have hkn:k=ss.length:=by omega
   have HE:Hid (mk=Q.zJB m ss):=by
    have h1:=HP.out
    rw[hkn,List.take_length] at h1
    unfold Hid;rw[HCE.out,← h1]
   go_wp2
   go_end0
   exact⟨rfl,evk,by rw[← HE.out];exact HI.out,HF.out⟩
end Go.Proofs.YtkmebkbpfmoeaaaGreat
