import Derived.Test.YtgceflcbckjjiaaGreatDoorD36
set_option linter.unusedVariables false
set_option linter.unusedSimpArgs false
set_option maxHeartbeats 12800000
namespace Go.Proofs.YtgceflcbckjjiaaGreatDoor
open Go Go.RowKit
set_option maxRecDepth 100000
theorem zIR (a:FA) (f:Q.Facts) (gr:Nat) (rd:List Nat) (gf:Nat) (bf:List Nat) (w:World) (hf:FactsIn w a f) (hr:RelAt w gr a.n rd) (hb:RelAt w gf a.n bf) (pv:Value) (ps:List Int) (hp:zBS w pv ps) (hpl:ps.length=a.n) (h1:Q.zKG bf=false) (h2:f.splits (Q.thenR rd (Q.zKy f.events ps)) (Q.zKy f.events ps)=false) (h3:Q.zKG (Q.thenR bf (Q.zMj rd (Q.zKy f.events ps)))=true) :
  Calls Tryz.prog 72 #[.agg (zDi a gr gf),pv] w fun e w'=>e=.returned (.bool (false))∧Below w.heap.size w w':=by
 obtain⟨x,c,hev,_⟩:=hf.form
 obtain⟨n,ev,g1,g2,g3,g4,g5,g6,g7,g8,g9⟩:=a
 simp only at hev hr hb
 subst hev
 simp only[zAn,zDi]
 obtain⟨k0,hsz,hbw⟩:=zBC w #[.slice x n c,.slice (some ⟨g1,0,none⟩) n n,.slice (some ⟨g2,0,none⟩) n n,.slice (some ⟨g3,0,none⟩) n n,.slice (some ⟨g4,0,none⟩) n n,.slice (some ⟨g5,0,none⟩) n n,.slice (some ⟨g6,0,none⟩) n n,.slice (some ⟨g7,0,none⟩) n n,.slice (some ⟨g8,0,none⟩) n n,.slice (some ⟨g9,0,none⟩) n n,.slice (some ⟨gr,0,none⟩) n n,.slice (some ⟨gf,0,none⟩) n n] 84
 have HF:=zAa (hf.below hbw)
 have Rr:=zAa (hr.below hbw)
 have Rb:=zAa (hb.below hbw)
 have BW0:=zAa hbw
 clear hbw hf hr hb
 have HP:=zAa (hp.below BW0.out)
 clear hp
 simp only at hpl
 go_enter Tryz.func72,Tryz.ntmps72
 go_upto_region 1 with fail
 generalize hE:(w.alloc (.cells #[.slice x n c,.slice (some ⟨g1,0,none⟩) n n,.slice (some ⟨g2,0,none⟩) n n,.slice (some ⟨g3,0,none⟩) n n,.slice (some ⟨g4,0,none⟩) n n,.slice (some ⟨g5,0,none⟩) n n,.slice (some ⟨g6,0,none⟩) n n,.slice (some ⟨g7,0,none⟩) n n,.slice (some ⟨g8,0,none⟩) n n,.slice (some ⟨g9,0,none⟩) n n,.slice (some ⟨gr,0,none⟩) n n,.slice (some ⟨gf,0,none⟩) n n] 84))=W0 at *
 have c0_0_0:=ceL k0 0 _ rfl
 have c0_0_1:=ceL k0 1 _ rfl
 have c0_0_2:=ceL k0 2 _ rfl
 have c0_0_3:=ceL k0 3 _ rfl
 have c0_0_4:=ceL k0 4 _ rfl
 have c0_0_5:=ceL k0 5 _ rfl
 have c0_0_6:=ceL k0 6 _ rfl
 have c0_0_7:=ceL k0 7 _ rfl
 have c0_0_8:=ceL k0 8 _ rfl
 have c0_0_9:=ceL k0 9 _ rfl
 have c0_0_10:=ceL k0 10 _ rfl
 have c0_0_11:=ceL k0 11 _ rfl
 have l0_0:w.heap.size<W0.heap.size:=by omega
 have f0_0:∀ j,W0.frozen? ⟨w.heap.size,j,none⟩=false:=fun j=>by simp[World.frozen?,k0]
 have K0_0:=zAa k0
 have hsq0:w.heap.size+1≤W0.heap.size:=by omega
 clear hE hsz k0
 go_upto_region 4 with (first
  | (go_at_call 94;refine (zDl (FA.mk n (.slice x n c) g1 g2 g3 g4 g5 g6 g7 g8 g9) f pv ps _ (HF.out.below B0_0.out) (HP.out.below B0_0.out) hpl).mono ?_;rintro e w0_1 ⟨q0_1,rfl,hq0_1,hb0_1⟩;have B0_1:Hid (Below W0.heap.size W0 w0_1):=zAr B0_0.out (Nat.le_refl _) hb0_1;have c1_1_0:=cfL B0_1.out l0_0 c0_0_0;have c1_1_1:=cfL B0_1.out l0_0 c0_0_1;have c1_1_2:=cfL B0_1.out l0_0 c0_0_2;have c1_1_3:=cfL B0_1.out l0_0 c0_0_3;have c1_1_4:=cfL B0_1.out l0_0 c0_0_4;have c1_1_5:=cfL B0_1.out l0_0 c0_0_5;have c1_1_6:=cfL B0_1.out l0_0 c0_0_6;have c1_1_7:=cfL B0_1.out l0_0 c0_0_7;have c1_1_8:=cfL B0_1.out l0_0 c0_0_8;have c1_1_9:=cfL B0_1.out l0_0 c0_0_9;have c1_1_10:=cfL B0_1.out l0_0 c0_0_10;have c1_1_11:=cfL B0_1.out l0_0 c0_0_11;have Q0_1:=zAa hq0_1;clear hq0_1)
  | (go_at_call_of 119 (Value.slice (some ⟨gf,0,none⟩) n n);refine (zBY gf n _ _ (Rb.out.below (Below.refl _ _))).mono ?_;rintro e w0_0 ⟨rfl,hb0_0⟩;(try rw[h1]);have B0_0:Hid (Below W0.heap.size W0 w0_0):=hb0_0;have c1_0_0:=cfL B0_0.out l0_0 c0_0_0;have c1_0_1:=cfL B0_0.out l0_0 c0_0_1;have c1_0_2:=cfL B0_0.out l0_0 c0_0_2;have c1_0_3:=cfL B0_0.out l0_0 c0_0_3;have c1_0_4:=cfL B0_0.out l0_0 c0_0_4;have c1_0_5:=cfL B0_0.out l0_0 c0_0_5;have c1_0_6:=cfL B0_0.out l0_0 c0_0_6;have c1_0_7:=cfL B0_0.out l0_0 c0_0_7;have c1_0_8:=cfL B0_0.out l0_0 c0_0_8;have c1_0_9:=cfL B0_0.out l0_0 c0_0_9;have c1_0_10:=cfL B0_0.out l0_0 c0_0_10;have c1_0_11:=cfL B0_0.out l0_0 c0_0_11;skip))
 have k1_n:=heap_alloc_new w0_1 (.cells #[.slice (some ⟨q0_1,0,none⟩) n n] 68)
 have BX:Below W0.heap.size W0 (w0_1.alloc (.cells #[.slice (some ⟨q0_1,0,none⟩) n n] 68)):=B0_1.out.alloc B0_1.out.size _
 have hsq1:=B0_1.out.size
 have hwz:=BX.size
 have HF1:=zAa (HF.out.below BX)
 have R1_0:=zAa (Rr.out.below BX)
 have R1_1:=zAa (Rb.out.below BX)
 have R1_2:=zAa (Q0_1.out.below ((Below.refl _ _).alloc (Nat.le_refl _) (.cells #[.slice (some ⟨q0_1,0,none⟩) n n] 68)))
 have BW1:=zAa (zAr BW0.out (Nat.le_refl _) BX)
 have d1_0:=cfL BX l0_0 c0_0_0
 have d1_1:=cfL BX l0_0 c0_0_1
 have d1_2:=cfL BX l0_0 c0_0_2
 have d1_3:=cfL BX l0_0 c0_0_3
 have d1_4:=cfL BX l0_0 c0_0_4
 have d1_5:=cfL BX l0_0 c0_0_5
 have d1_6:=cfL BX l0_0 c0_0_6
 have d1_7:=cfL BX l0_0 c0_0_7
 have d1_8:=cfL BX l0_0 c0_0_8
 have d1_9:=cfL BX l0_0 c0_0_9
 have d1_10:=cfL BX l0_0 c0_0_10
 have d1_11:=cfL BX l0_0 c0_0_11
 have f1_0:∀ j,(w0_1.alloc (.cells #[.slice (some ⟨q0_1,0,none⟩) n n] 68)).frozen? ⟨w.heap.size,j,none⟩=false:=fun j=>(BX.frozen (p:=⟨w.heap.size,j,none⟩) l0_0).trans (f0_0 j)
 have l1_0:=Nat.lt_of_lt_of_le l0_0 hwz
 have K1_0:=zAa ((BX.block _ l0_0).trans K0_0.out)
 have hn1:w0_1.heap.size<(w0_1.alloc (.cells #[.slice (some ⟨q0_1,0,none⟩) n n] 68)).heap.size:=by simp
 clear BX hwz
 generalize hE1:w0_1.alloc (.cells #[.slice (some ⟨q0_1,0,none⟩) n n] 68)=W1 at *
 obtain⟨cn1,fn1,ln1⟩:=zAo k1_n
 have fm1:∀ j,W1.frozen? ⟨w0_1.heap.size,j,none⟩=false:=fun j=>by simp[World.frozen?,k1_n]
 have KN1:=zAa k1_n
 clear k1_n hE1 hn1
 clear c0_0_0 c0_0_1 c0_0_2 c0_0_3 c0_0_4 c0_0_5 c0_0_6 c0_0_7 c0_0_8 c0_0_9 c0_0_10 c0_0_11
 go_upto_region 5 with (first
  | (go_at_call 95;refine (zDj (FA.mk n (.slice x n c) g1 g2 g3 g4 g5 g6 g7 g8 g9) f gr _ q0_1 _ _ (HF1.out.below (Below.refl _ _)) (R1_0.out.below (Below.refl _ _)) (R1_2.out.below (Below.refl _ _))).mono ?_;rintro e w1_0 ⟨q1_0,rfl,hq1_0,hb1_0⟩;have B1_0:Hid (Below W1.heap.size W1 w1_0):=hb1_0;have c2_0_0:=cfL B1_0.out l1_0 d1_0;have c2_0_1:=cfL B1_0.out l1_0 d1_1;have c2_0_2:=cfL B1_0.out l1_0 d1_2;have c2_0_3:=cfL B1_0.out l1_0 d1_3;have c2_0_4:=cfL B1_0.out l1_0 d1_4;have c2_0_5:=cfL B1_0.out l1_0 d1_5;have c2_0_6:=cfL B1_0.out l1_0 d1_6;have c2_0_7:=cfL B1_0.out l1_0 d1_7;have c2_0_8:=cfL B1_0.out l1_0 d1_8;have c2_0_9:=cfL B1_0.out l1_0 d1_9;have c2_0_10:=cfL B1_0.out l1_0 d1_10;have c2_0_11:=cfL B1_0.out l1_0 d1_11;have c2_0_12:=cfL B1_0.out ln1 cn1;have Q1_0:=zAa hq1_0;clear hq1_0))
 have k2_n:=heap_alloc_new w1_0 (.cells #[.slice (some ⟨q1_0,0,none⟩) n n] 68)
 have BX:Below W1.heap.size W1 (w1_0.alloc (.cells #[.slice (some ⟨q1_0,0,none⟩) n n] 68)):=B1_0.out.alloc B1_0.out.size _
 have hsq2:=B1_0.out.size
 have hwz:=BX.size
 have HF2:=zAa (HF1.out.below BX)
 have R2_0:=zAa (R1_0.out.below BX)
 have R2_1:=zAa (R1_1.out.below BX)
 have R2_2:=zAa (R1_2.out.below BX)
 have R2_3:=zAa (Q1_0.out.below ((Below.refl _ _).alloc (Nat.le_refl _) (.cells #[.slice (some ⟨q1_0,0,none⟩) n n] 68)))
 have BW2:=zAa (zAr BW1.out (Nat.le_refl _) BX)
 have d2_0:=cfL BX l1_0 d1_0
 have d2_1:=cfL BX l1_0 d1_1
 have d2_2:=cfL BX l1_0 d1_2
 have d2_3:=cfL BX l1_0 d1_3
 have d2_4:=cfL BX l1_0 d1_4
 have d2_5:=cfL BX l1_0 d1_5
 have d2_6:=cfL BX l1_0 d1_6
 have d2_7:=cfL BX l1_0 d1_7
 have d2_8:=cfL BX l1_0 d1_8
 have d2_9:=cfL BX l1_0 d1_9
 have d2_10:=cfL BX l1_0 d1_10
 have d2_11:=cfL BX l1_0 d1_11
 have d2_12:=cfL BX ln1 cn1
 have f2_0:∀ j,(w1_0.alloc (.cells #[.slice (some ⟨q1_0,0,none⟩) n n] 68)).frozen? ⟨w.heap.size,j,none⟩=false:=fun j=>(BX.frozen (p:=⟨w.heap.size,j,none⟩) l1_0).trans (f1_0 j)
 have l2_0:=Nat.lt_of_lt_of_le l1_0 hwz
 have K2_0:=zAa ((BX.block _ l1_0).trans K1_0.out)
 have f2_1:∀ j,(w1_0.alloc (.cells #[.slice (some ⟨q1_0,0,none⟩) n n] 68)).frozen? ⟨w0_1.heap.size,j,none⟩=false:=fun j=>(BX.frozen (p:=⟨w0_1.heap.size,j,none⟩) ln1).trans (fm1 j)
 have l2_1:=Nat.lt_of_lt_of_le ln1 hwz
 have K2_1:=zAa ((BX.block _ ln1).trans KN1.out)
 have hn2:w1_0.heap.size<(w1_0.alloc (.cells #[.slice (some ⟨q1_0,0,none⟩) n n] 68)).heap.size:=by simp
 clear BX hwz
 generalize hE2:w1_0.alloc (.cells #[.slice (some ⟨q1_0,0,none⟩) n n] 68)=W2 at *
 obtain⟨cn2,fn2,ln2⟩:=zAo k2_n
 have fm2:∀ j,W2.frozen? ⟨w1_0.heap.size,j,none⟩=false:=fun j=>by simp[World.frozen?,k2_n]
 have KN2:=zAa k2_n
 clear k2_n hE2 hn2
 clear d1_0 d1_1 d1_2 d1_3 d1_4 d1_5 d1_6 d1_7 d1_8 d1_9 d1_10 d1_11 cn1
 go_upto_region 8 with (first
  | (go_at_call_of 68 (Value.slice (some ⟨q2_1,0,none⟩) n n);refine (zCI q2_1 n _ _ Q2_1.out).mono ?_;rintro e w2_2 ⟨q2_2,rfl,hq2_2,hb2_2⟩;have B2_2:Hid (Below W2.heap.size W2 w2_2):=zAr B2_1.out (Nat.le_refl _) hb2_2;have c3_2_0:=cfL B2_2.out l2_0 d2_0;have c3_2_1:=cfL B2_2.out l2_0 d2_1;have c3_2_2:=cfL B2_2.out l2_0 d2_2;have c3_2_3:=cfL B2_2.out l2_0 d2_3;have c3_2_4:=cfL B2_2.out l2_0 d2_4;have c3_2_5:=cfL B2_2.out l2_0 d2_5;have c3_2_6:=cfL B2_2.out l2_0 d2_6;have c3_2_7:=cfL B2_2.out l2_0 d2_7;have c3_2_8:=cfL B2_2.out l2_0 d2_8;have c3_2_9:=cfL B2_2.out l2_0 d2_9;have c3_2_10:=cfL B2_2.out l2_0 d2_10;have c3_2_11:=cfL B2_2.out l2_0 d2_11;have c3_2_12:=cfL B2_2.out l2_1 d2_12;have c3_2_13:=cfL B2_2.out ln2 cn2;have Q2_2:=zAa hq2_2;clear hq2_2)
  | (go_at_call 121;refine (zGp (FA.mk n (.slice x n c) g1 g2 g3 g4 g5 g6 g7 g8 g9) f gr _ q0_1 _ q1_0 _ _ (HF2.out.below B2_0.out) (R2_0.out.below B2_0.out) (R2_2.out.below B2_0.out) (R2_3.out.below B2_0.out)).mono ?_;rintro e w2_1 ⟨q2_1,rfl,hq2_1,hb2_1⟩;have B2_1:Hid (Below W2.heap.size W2 w2_1):=zAr B2_0.out (Nat.le_refl _) hb2_1;have c3_1_0:=cfL B2_1.out l2_0 d2_0;have c3_1_1:=cfL B2_1.out l2_0 d2_1;have c3_1_2:=cfL B2_1.out l2_0 d2_2;have c3_1_3:=cfL B2_1.out l2_0 d2_3;have c3_1_4:=cfL B2_1.out l2_0 d2_4;have c3_1_5:=cfL B2_1.out l2_0 d2_5;have c3_1_6:=cfL B2_1.out l2_0 d2_6;have c3_1_7:=cfL B2_1.out l2_0 d2_7;have c3_1_8:=cfL B2_1.out l2_0 d2_8;have c3_1_9:=cfL B2_1.out l2_0 d2_9;have c3_1_10:=cfL B2_1.out l2_0 d2_10;have c3_1_11:=cfL B2_1.out l2_0 d2_11;have c3_1_12:=cfL B2_1.out l2_1 d2_12;have c3_1_13:=cfL B2_1.out ln2 cn2;have Q2_1:=zAa hq2_1;clear hq2_1)
  | (go_at_call 120;refine (zDk (FA.mk n (.slice x n c) g1 g2 g3 g4 g5 g6 g7 g8 g9) f q1_0 _ q0_1 _ _ (HF2.out.below (Below.refl _ _)) (R2_3.out.below (Below.refl _ _)) (R2_2.out.below (Below.refl _ _))).mono ?_;rintro e w2_0 ⟨rfl,hb2_0⟩;(try rw[h2]);have B2_0:Hid (Below W2.heap.size W2 w2_0):=hb2_0;have c3_0_0:=cfL B2_0.out l2_0 d2_0;have c3_0_1:=cfL B2_0.out l2_0 d2_1;have c3_0_2:=cfL B2_0.out l2_0 d2_2;have c3_0_3:=cfL B2_0.out l2_0 d2_3;have c3_0_4:=cfL B2_0.out l2_0 d2_4;have c3_0_5:=cfL B2_0.out l2_0 d2_5;have c3_0_6:=cfL B2_0.out l2_0 d2_6;have c3_0_7:=cfL B2_0.out l2_0 d2_7;have c3_0_8:=cfL B2_0.out l2_0 d2_8;have c3_0_9:=cfL B2_0.out l2_0 d2_9;have c3_0_10:=cfL B2_0.out l2_0 d2_10;have c3_0_11:=cfL B2_0.out l2_0 d2_11;have c3_0_12:=cfL B2_0.out l2_1 d2_12;have c3_0_13:=cfL B2_0.out ln2 cn2;skip))
 have k3_n:=heap_alloc_new w2_2 (.cells #[.slice (some ⟨q2_2,0,none⟩) n n] 68)
 have BX:Below W2.heap.size W2 (w2_2.alloc (.cells #[.slice (some ⟨q2_2,0,none⟩) n n] 68)):=B2_2.out.alloc B2_2.out.size _
 have hsq3:=B2_2.out.size
 have hwz:=BX.size
 have HF3:=zAa (HF2.out.below BX)
 have R3_0:=zAa (R2_0.out.below BX)
 have R3_1:=zAa (R2_1.out.below BX)
 have R3_2:=zAa (R2_2.out.below BX)
 have R3_3:=zAa (R2_3.out.below BX)
 have R3_4:=zAa ((Q2_1.out.below hb2_2).below ((Below.refl _ _).alloc (Nat.le_refl _) (.cells #[.slice (some ⟨q2_2,0,none⟩) n n] 68)))
 have R3_5:=zAa (Q2_2.out.below ((Below.refl _ _).alloc (Nat.le_refl _) (.cells #[.slice (some ⟨q2_2,0,none⟩) n n] 68)))
 have BW3:=zAa (zAr BW2.out (Nat.le_refl _) BX)
 have d3_0:=cfL BX l2_0 d2_0
 have d3_1:=cfL BX l2_0 d2_1
 have d3_2:=cfL BX l2_0 d2_2
 have d3_3:=cfL BX l2_0 d2_3
 have d3_4:=cfL BX l2_0 d2_4
 have d3_5:=cfL BX l2_0 d2_5
 have d3_6:=cfL BX l2_0 d2_6
 have d3_7:=cfL BX l2_0 d2_7
 have d3_8:=cfL BX l2_0 d2_8
 have d3_9:=cfL BX l2_0 d2_9
 have d3_10:=cfL BX l2_0 d2_10
 have d3_11:=cfL BX l2_0 d2_11
 have d3_12:=cfL BX l2_1 d2_12
 have d3_13:=cfL BX ln2 cn2
 have f3_0:∀ j,(w2_2.alloc (.cells #[.slice (some ⟨q2_2,0,none⟩) n n] 68)).frozen? ⟨w.heap.size,j,none⟩=false:=fun j=>(BX.frozen (p:=⟨w.heap.size,j,none⟩) l2_0).trans (f2_0 j)
 have l3_0:=Nat.lt_of_lt_of_le l2_0 hwz
 have K3_0:=zAa ((BX.block _ l2_0).trans K2_0.out)
 have f3_1:∀ j,(w2_2.alloc (.cells #[.slice (some ⟨q2_2,0,none⟩) n n] 68)).frozen? ⟨w0_1.heap.size,j,none⟩=false:=fun j=>(BX.frozen (p:=⟨w0_1.heap.size,j,none⟩) l2_1).trans (f2_1 j)
 have l3_1:=Nat.lt_of_lt_of_le l2_1 hwz
 have K3_1:=zAa ((BX.block _ l2_1).trans K2_1.out)
 have f3_2:∀ j,(w2_2.alloc (.cells #[.slice (some ⟨q2_2,0,none⟩) n n] 68)).frozen? ⟨w1_0.heap.size,j,none⟩=false:=fun j=>(BX.frozen (p:=⟨w1_0.heap.size,j,none⟩) ln2).trans (fm2 j)
 have l3_2:=Nat.lt_of_lt_of_le ln2 hwz
 have K3_2:=zAa ((BX.block _ ln2).trans KN2.out)
 have hn3:w2_2.heap.size<(w2_2.alloc (.cells #[.slice (some ⟨q2_2,0,none⟩) n n] 68)).heap.size:=by simp
 clear BX hwz
 generalize hE3:w2_2.alloc (.cells #[.slice (some ⟨q2_2,0,none⟩) n n] 68)=W3 at *
 obtain⟨cn3,fn3,ln3⟩:=zAo k3_n
 have fm3:∀ j,W3.frozen? ⟨w2_2.heap.size,j,none⟩=false:=fun j=>by simp[World.frozen?,k3_n]
 have KN3:=zAa k3_n
 clear k3_n hE3 hn3
 clear d2_0 d2_1 d2_2 d2_3 d2_4 d2_5 d2_6 d2_7 d2_8 d2_9 d2_10 d2_11 d2_12 cn2
 go_wp2_with (first
  | (go_at_call_of 119 (Value.slice (some ⟨q3_0,0,none⟩) n n);refine (zBY q3_0 n _ _ Q3_0.out).mono ?_;rintro e w3_1 ⟨rfl,hb3_1⟩;(try rw[show Q.zKG (Q.thenR bf (Q.zLl (Q.zLb rd (Q.zKy f.events ps) (Q.thenR rd (Q.zKy f.events ps)))))=true from h3]);have B3_1:Hid (Below W3.heap.size W3 w3_1):=zAr B3_0.out (Nat.le_refl _) hb3_1;skip)
  | (go_at_call_of 113 (Value.slice (some ⟨gf,0,none⟩) n n);refine (zBF gf q2_2 n _ _ _ (R3_1.out.below (Below.refl _ _)) (R3_5.out.below (Below.refl _ _))).mono ?_;rintro e w3_0 ⟨q3_0,rfl,hq3_0,hb3_0⟩;have B3_0:Hid (Below W3.heap.size W3 w3_0):=hb3_0;have Q3_0:=zAa hq3_0;clear hq3_0))
 all_goals
  go_wp2
  go_ret
  exact⟨rfl,zAr BW3.out (Nat.le_refl _) B3_1.out⟩
theorem zIS (a:FA) (f:Q.Facts) (gr:Nat) (rd:List Nat) (gf:Nat) (bf:List Nat) (w:World) (hf:FactsIn w a f) (hr:RelAt w gr a.n rd) (hb:RelAt w gf a.n bf) (pv:Value) (ps:List Int) (hp:zBS w pv ps) (hpl:ps.length=a.n) (h1:Q.zKG bf=false) (h2:f.splits (Q.thenR rd (Q.zKy f.events ps)) (Q.zKy f.events ps)=false) (h3:Q.zKG (Q.thenR bf (Q.zMj rd (Q.zKy f.events ps)))=false) :
  Calls Tryz.prog 72 #[.agg (zDi a gr gf),pv] w fun e w'=>e=.returned (.bool (!f.fencesCircle bf (Q.zMj rd (Q.zKy f.events ps))))∧Below w.heap.size w w':=by
 obtain⟨x,c,hev,_⟩:=hf.form
 obtain⟨n,ev,g1,g2,g3,g4,g5,g6,g7,g8,g9⟩:=a
 simp only at hev hr hb
 subst hev
 simp only[zAn,zDi]
 obtain⟨k0,hsz,hbw⟩:=zBC w #[.slice x n c,.slice (some ⟨g1,0,none⟩) n n,.slice (some ⟨g2,0,none⟩) n n,.slice (some ⟨g3,0,none⟩) n n,.slice (some ⟨g4,0,none⟩) n n,.slice (some ⟨g5,0,none⟩) n n,.slice (some ⟨g6,0,none⟩) n n,.slice (some ⟨g7,0,none⟩) n n,.slice (some ⟨g8,0,none⟩) n n,.slice (some ⟨g9,0,none⟩) n n,.slice (some ⟨gr,0,none⟩) n n,.slice (some ⟨gf,0,none⟩) n n] 84
 have HF:=zAa (hf.below hbw)
 have Rr:=zAa (hr.below hbw)
 have Rb:=zAa (hb.below hbw)
 have BW0:=zAa hbw
 clear hbw hf hr hb
 have HP:=zAa (hp.below BW0.out)
 clear hp
 simp only at hpl
 go_enter Tryz.func72,Tryz.ntmps72
 go_upto_region 1 with fail
 generalize hE:(w.alloc (.cells #[.slice x n c,.slice (some ⟨g1,0,none⟩) n n,.slice (some ⟨g2,0,none⟩) n n,.slice (some ⟨g3,0,none⟩) n n,.slice (some ⟨g4,0,none⟩) n n,.slice (some ⟨g5,0,none⟩) n n,.slice (some ⟨g6,0,none⟩) n n,.slice (some ⟨g7,0,none⟩) n n,.slice (some ⟨g8,0,none⟩) n n,.slice (some ⟨g9,0,none⟩) n n,.slice (some ⟨gr,0,none⟩) n n,.slice (some ⟨gf,0,none⟩) n n] 84))=W0 at *
 have c0_0_0:=ceL k0 0 _ rfl
 have c0_0_1:=ceL k0 1 _ rfl
 have c0_0_2:=ceL k0 2 _ rfl
 have c0_0_3:=ceL k0 3 _ rfl
 have c0_0_4:=ceL k0 4 _ rfl
 have c0_0_5:=ceL k0 5 _ rfl
 have c0_0_6:=ceL k0 6 _ rfl
 have c0_0_7:=ceL k0 7 _ rfl
 have c0_0_8:=ceL k0 8 _ rfl
 have c0_0_9:=ceL k0 9 _ rfl
 have c0_0_10:=ceL k0 10 _ rfl
 have c0_0_11:=ceL k0 11 _ rfl
 have l0_0:w.heap.size<W0.heap.size:=by omega
 have f0_0:∀ j,W0.frozen? ⟨w.heap.size,j,none⟩=false:=fun j=>by simp[World.frozen?,k0]
 have K0_0:=zAa k0
 have hsq0:w.heap.size+1≤W0.heap.size:=by omega
 clear hE hsz k0
 go_upto_region 4 with (first
  | (go_at_call 94;refine (zDl (FA.mk n (.slice x n c) g1 g2 g3 g4 g5 g6 g7 g8 g9) f pv ps _ (HF.out.below B0_0.out) (HP.out.below B0_0.out) hpl).mono ?_;rintro e w0_1 ⟨q0_1,rfl,hq0_1,hb0_1⟩;have B0_1:Hid (Below W0.heap.size W0 w0_1):=zAr B0_0.out (Nat.le_refl _) hb0_1;have c1_1_0:=cfL B0_1.out l0_0 c0_0_0;have c1_1_1:=cfL B0_1.out l0_0 c0_0_1;have c1_1_2:=cfL B0_1.out l0_0 c0_0_2;have c1_1_3:=cfL B0_1.out l0_0 c0_0_3;have c1_1_4:=cfL B0_1.out l0_0 c0_0_4;have c1_1_5:=cfL B0_1.out l0_0 c0_0_5;have c1_1_6:=cfL B0_1.out l0_0 c0_0_6;have c1_1_7:=cfL B0_1.out l0_0 c0_0_7;have c1_1_8:=cfL B0_1.out l0_0 c0_0_8;have c1_1_9:=cfL B0_1.out l0_0 c0_0_9;have c1_1_10:=cfL B0_1.out l0_0 c0_0_10;have c1_1_11:=cfL B0_1.out l0_0 c0_0_11;have Q0_1:=zAa hq0_1;clear hq0_1)
  | (go_at_call_of 119 (Value.slice (some ⟨gf,0,none⟩) n n);refine (zBY gf n _ _ (Rb.out.below (Below.refl _ _))).mono ?_;rintro e w0_0 ⟨rfl,hb0_0⟩;(try rw[h1]);have B0_0:Hid (Below W0.heap.size W0 w0_0):=hb0_0;have c1_0_0:=cfL B0_0.out l0_0 c0_0_0;have c1_0_1:=cfL B0_0.out l0_0 c0_0_1;have c1_0_2:=cfL B0_0.out l0_0 c0_0_2;have c1_0_3:=cfL B0_0.out l0_0 c0_0_3;have c1_0_4:=cfL B0_0.out l0_0 c0_0_4;have c1_0_5:=cfL B0_0.out l0_0 c0_0_5;have c1_0_6:=cfL B0_0.out l0_0 c0_0_6;have c1_0_7:=cfL B0_0.out l0_0 c0_0_7;have c1_0_8:=cfL B0_0.out l0_0 c0_0_8;have c1_0_9:=cfL B0_0.out l0_0 c0_0_9;have c1_0_10:=cfL B0_0.out l0_0 c0_0_10;have c1_0_11:=cfL B0_0.out l0_0 c0_0_11;skip))
 have k1_n:=heap_alloc_new w0_1 (.cells #[.slice (some ⟨q0_1,0,none⟩) n n] 68)
 have BX:Below W0.heap.size W0 (w0_1.alloc (.cells #[.slice (some ⟨q0_1,0,none⟩) n n] 68)):=B0_1.out.alloc B0_1.out.size _
 have hsq1:=B0_1.out.size
 have hwz:=BX.size
 have HF1:=zAa (HF.out.below BX)
 have R1_0:=zAa (Rr.out.below BX)
 have R1_1:=zAa (Rb.out.below BX)
 have R1_2:=zAa (Q0_1.out.below ((Below.refl _ _).alloc (Nat.le_refl _) (.cells #[.slice (some ⟨q0_1,0,none⟩) n n] 68)))
 have BW1:=zAa (zAr BW0.out (Nat.le_refl _) BX)
 have d1_0:=cfL BX l0_0 c0_0_0
 have d1_1:=cfL BX l0_0 c0_0_1
 have d1_2:=cfL BX l0_0 c0_0_2
 have d1_3:=cfL BX l0_0 c0_0_3
 have d1_4:=cfL BX l0_0 c0_0_4
 have d1_5:=cfL BX l0_0 c0_0_5
 have d1_6:=cfL BX l0_0 c0_0_6
 have d1_7:=cfL BX l0_0 c0_0_7
 have d1_8:=cfL BX l0_0 c0_0_8
 have d1_9:=cfL BX l0_0 c0_0_9
 have d1_10:=cfL BX l0_0 c0_0_10
 have d1_11:=cfL BX l0_0 c0_0_11
 have f1_0:∀ j,(w0_1.alloc (.cells #[.slice (some ⟨q0_1,0,none⟩) n n] 68)).frozen? ⟨w.heap.size,j,none⟩=false:=fun j=>(BX.frozen (p:=⟨w.heap.size,j,none⟩) l0_0).trans (f0_0 j)
 have l1_0:=Nat.lt_of_lt_of_le l0_0 hwz
 have K1_0:=zAa ((BX.block _ l0_0).trans K0_0.out)
 have hn1:w0_1.heap.size<(w0_1.alloc (.cells #[.slice (some ⟨q0_1,0,none⟩) n n] 68)).heap.size:=by simp
 clear BX hwz
 generalize hE1:w0_1.alloc (.cells #[.slice (some ⟨q0_1,0,none⟩) n n] 68)=W1 at *
 obtain⟨cn1,fn1,ln1⟩:=zAo k1_n
 have fm1:∀ j,W1.frozen? ⟨w0_1.heap.size,j,none⟩=false:=fun j=>by simp[World.frozen?,k1_n]
 have KN1:=zAa k1_n
 clear k1_n hE1 hn1
 clear c0_0_0 c0_0_1 c0_0_2 c0_0_3 c0_0_4 c0_0_5 c0_0_6 c0_0_7 c0_0_8 c0_0_9 c0_0_10 c0_0_11
 go_upto_region 5 with (first
  | (go_at_call 95;refine (zDj (FA.mk n (.slice x n c) g1 g2 g3 g4 g5 g6 g7 g8 g9) f gr _ q0_1 _ _ (HF1.out.below (Below.refl _ _)) (R1_0.out.below (Below.refl _ _)) (R1_2.out.below (Below.refl _ _))).mono ?_;rintro e w1_0 ⟨q1_0,rfl,hq1_0,hb1_0⟩;have B1_0:Hid (Below W1.heap.size W1 w1_0):=hb1_0;have c2_0_0:=cfL B1_0.out l1_0 d1_0;have c2_0_1:=cfL B1_0.out l1_0 d1_1;have c2_0_2:=cfL B1_0.out l1_0 d1_2;have c2_0_3:=cfL B1_0.out l1_0 d1_3;have c2_0_4:=cfL B1_0.out l1_0 d1_4;have c2_0_5:=cfL B1_0.out l1_0 d1_5;have c2_0_6:=cfL B1_0.out l1_0 d1_6;have c2_0_7:=cfL B1_0.out l1_0 d1_7;have c2_0_8:=cfL B1_0.out l1_0 d1_8;have c2_0_9:=cfL B1_0.out l1_0 d1_9;have c2_0_10:=cfL B1_0.out l1_0 d1_10;have c2_0_11:=cfL B1_0.out l1_0 d1_11;have c2_0_12:=cfL B1_0.out ln1 cn1;have Q1_0:=zAa hq1_0;clear hq1_0))
 have k2_n:=heap_alloc_new w1_0 (.cells #[.slice (some ⟨q1_0,0,none⟩) n n] 68)
 have BX:Below W1.heap.size W1 (w1_0.alloc (.cells #[.slice (some ⟨q1_0,0,none⟩) n n] 68)):=B1_0.out.alloc B1_0.out.size _
 have hsq2:=B1_0.out.size
 have hwz:=BX.size
 have HF2:=zAa (HF1.out.below BX)
 have R2_0:=zAa (R1_0.out.below BX)
 have R2_1:=zAa (R1_1.out.below BX)
 have R2_2:=zAa (R1_2.out.below BX)
 have R2_3:=zAa (Q1_0.out.below ((Below.refl _ _).alloc (Nat.le_refl _) (.cells #[.slice (some ⟨q1_0,0,none⟩) n n] 68)))
 have BW2:=zAa (zAr BW1.out (Nat.le_refl _) BX)
 have d2_0:=cfL BX l1_0 d1_0
 have d2_1:=cfL BX l1_0 d1_1
 have d2_2:=cfL BX l1_0 d1_2
 have d2_3:=cfL BX l1_0 d1_3
 have d2_4:=cfL BX l1_0 d1_4
 have d2_5:=cfL BX l1_0 d1_5
 have d2_6:=cfL BX l1_0 d1_6
 have d2_7:=cfL BX l1_0 d1_7
 have d2_8:=cfL BX l1_0 d1_8
 have d2_9:=cfL BX l1_0 d1_9
 have d2_10:=cfL BX l1_0 d1_10
 have d2_11:=cfL BX l1_0 d1_11
 have d2_12:=cfL BX ln1 cn1
 have f2_0:∀ j,(w1_0.alloc (.cells #[.slice (some ⟨q1_0,0,none⟩) n n] 68)).frozen? ⟨w.heap.size,j,none⟩=false:=fun j=>(BX.frozen (p:=⟨w.heap.size,j,none⟩) l1_0).trans (f1_0 j)
 have l2_0:=Nat.lt_of_lt_of_le l1_0 hwz
 have K2_0:=zAa ((BX.block _ l1_0).trans K1_0.out)
 have f2_1:∀ j,(w1_0.alloc (.cells #[.slice (some ⟨q1_0,0,none⟩) n n] 68)).frozen? ⟨w0_1.heap.size,j,none⟩=false:=fun j=>(BX.frozen (p:=⟨w0_1.heap.size,j,none⟩) ln1).trans (fm1 j)
 have l2_1:=Nat.lt_of_lt_of_le ln1 hwz
 have K2_1:=zAa ((BX.block _ ln1).trans KN1.out)
 have hn2:w1_0.heap.size<(w1_0.alloc (.cells #[.slice (some ⟨q1_0,0,none⟩) n n] 68)).heap.size:=by simp
 clear BX hwz
 generalize hE2:w1_0.alloc (.cells #[.slice (some ⟨q1_0,0,none⟩) n n] 68)=W2 at *
 obtain⟨cn2,fn2,ln2⟩:=zAo k2_n
 have fm2:∀ j,W2.frozen? ⟨w1_0.heap.size,j,none⟩=false:=fun j=>by simp[World.frozen?,k2_n]
 have KN2:=zAa k2_n
 clear k2_n hE2 hn2
 clear d1_0 d1_1 d1_2 d1_3 d1_4 d1_5 d1_6 d1_7 d1_8 d1_9 d1_10 d1_11 cn1
 go_upto_region 8 with (first
  | (go_at_call_of 68 (Value.slice (some ⟨q2_1,0,none⟩) n n);refine (zCI q2_1 n _ _ Q2_1.out).mono ?_;rintro e w2_2 ⟨q2_2,rfl,hq2_2,hb2_2⟩;have B2_2:Hid (Below W2.heap.size W2 w2_2):=zAr B2_1.out (Nat.le_refl _) hb2_2;have c3_2_0:=cfL B2_2.out l2_0 d2_0;have c3_2_1:=cfL B2_2.out l2_0 d2_1;have c3_2_2:=cfL B2_2.out l2_0 d2_2;have c3_2_3:=cfL B2_2.out l2_0 d2_3;have c3_2_4:=cfL B2_2.out l2_0 d2_4;have c3_2_5:=cfL B2_2.out l2_0 d2_5;have c3_2_6:=cfL B2_2.out l2_0 d2_6;have c3_2_7:=cfL B2_2.out l2_0 d2_7;have c3_2_8:=cfL B2_2.out l2_0 d2_8;have c3_2_9:=cfL B2_2.out l2_0 d2_9;have c3_2_10:=cfL B2_2.out l2_0 d2_10;have c3_2_11:=cfL B2_2.out l2_0 d2_11;have c3_2_12:=cfL B2_2.out l2_1 d2_12;have c3_2_13:=cfL B2_2.out ln2 cn2;have Q2_2:=zAa hq2_2;clear hq2_2)
  | (go_at_call 121;refine (zGp (FA.mk n (.slice x n c) g1 g2 g3 g4 g5 g6 g7 g8 g9) f gr _ q0_1 _ q1_0 _ _ (HF2.out.below B2_0.out) (R2_0.out.below B2_0.out) (R2_2.out.below B2_0.out) (R2_3.out.below B2_0.out)).mono ?_;rintro e w2_1 ⟨q2_1,rfl,hq2_1,hb2_1⟩;have B2_1:Hid (Below W2.heap.size W2 w2_1):=zAr B2_0.out (Nat.le_refl _) hb2_1;have c3_1_0:=cfL B2_1.out l2_0 d2_0;have c3_1_1:=cfL B2_1.out l2_0 d2_1;have c3_1_2:=cfL B2_1.out l2_0 d2_2;have c3_1_3:=cfL B2_1.out l2_0 d2_3;have c3_1_4:=cfL B2_1.out l2_0 d2_4;have c3_1_5:=cfL B2_1.out l2_0 d2_5;have c3_1_6:=cfL B2_1.out l2_0 d2_6;have c3_1_7:=cfL B2_1.out l2_0 d2_7;have c3_1_8:=cfL B2_1.out l2_0 d2_8;have c3_1_9:=cfL B2_1.out l2_0 d2_9;have c3_1_10:=cfL B2_1.out l2_0 d2_10;have c3_1_11:=cfL B2_1.out l2_0 d2_11;have c3_1_12:=cfL B2_1.out l2_1 d2_12;have c3_1_13:=cfL B2_1.out ln2 cn2;have Q2_1:=zAa hq2_1;clear hq2_1)
  | (go_at_call 120;refine (zDk (FA.mk n (.slice x n c) g1 g2 g3 g4 g5 g6 g7 g8 g9) f q1_0 _ q0_1 _ _ (HF2.out.below (Below.refl _ _)) (R2_3.out.below (Below.refl _ _)) (R2_2.out.below (Below.refl _ _))).mono ?_;rintro e w2_0 ⟨rfl,hb2_0⟩;(try rw[h2]);have B2_0:Hid (Below W2.heap.size W2 w2_0):=hb2_0;have c3_0_0:=cfL B2_0.out l2_0 d2_0;have c3_0_1:=cfL B2_0.out l2_0 d2_1;have c3_0_2:=cfL B2_0.out l2_0 d2_2;have c3_0_3:=cfL B2_0.out l2_0 d2_3;have c3_0_4:=cfL B2_0.out l2_0 d2_4;have c3_0_5:=cfL B2_0.out l2_0 d2_5;have c3_0_6:=cfL B2_0.out l2_0 d2_6;have c3_0_7:=cfL B2_0.out l2_0 d2_7;have c3_0_8:=cfL B2_0.out l2_0 d2_8;have c3_0_9:=cfL B2_0.out l2_0 d2_9;have c3_0_10:=cfL B2_0.out l2_0 d2_10;have c3_0_11:=cfL B2_0.out l2_0 d2_11;have c3_0_12:=cfL B2_0.out l2_1 d2_12;have c3_0_13:=cfL B2_0.out ln2 cn2;skip))
 have k3_n:=heap_alloc_new w2_2 (.cells #[.slice (some ⟨q2_2,0,none⟩) n n] 68)
 have BX:Below W2.heap.size W2 (w2_2.alloc (.cells #[.slice (some ⟨q2_2,0,none⟩) n n] 68)):=B2_2.out.alloc B2_2.out.size _
 have hsq3:=B2_2.out.size
 have hwz:=BX.size
 have HF3:=zAa (HF2.out.below BX)
 have R3_0:=zAa (R2_0.out.below BX)
 have R3_1:=zAa (R2_1.out.below BX)
 have R3_2:=zAa (R2_2.out.below BX)
 have R3_3:=zAa (R2_3.out.below BX)
 have R3_4:=zAa ((Q2_1.out.below hb2_2).below ((Below.refl _ _).alloc (Nat.le_refl _) (.cells #[.slice (some ⟨q2_2,0,none⟩) n n] 68)))
 have R3_5:=zAa (Q2_2.out.below ((Below.refl _ _).alloc (Nat.le_refl _) (.cells #[.slice (some ⟨q2_2,0,none⟩) n n] 68)))
 have BW3:=zAa (zAr BW2.out (Nat.le_refl _) BX)
 have d3_0:=cfL BX l2_0 d2_0
 have d3_1:=cfL BX l2_0 d2_1
 have d3_2:=cfL BX l2_0 d2_2
 have d3_3:=cfL BX l2_0 d2_3
 have d3_4:=cfL BX l2_0 d2_4
 have d3_5:=cfL BX l2_0 d2_5
 have d3_6:=cfL BX l2_0 d2_6
 have d3_7:=cfL BX l2_0 d2_7
 have d3_8:=cfL BX l2_0 d2_8
 have d3_9:=cfL BX l2_0 d2_9
 have d3_10:=cfL BX l2_0 d2_10
 have d3_11:=cfL BX l2_0 d2_11
 have d3_12:=cfL BX l2_1 d2_12
 have d3_13:=cfL BX ln2 cn2
 have f3_0:∀ j,(w2_2.alloc (.cells #[.slice (some ⟨q2_2,0,none⟩) n n] 68)).frozen? ⟨w.heap.size,j,none⟩=false:=fun j=>(BX.frozen (p:=⟨w.heap.size,j,none⟩) l2_0).trans (f2_0 j)
 have l3_0:=Nat.lt_of_lt_of_le l2_0 hwz
 have K3_0:=zAa ((BX.block _ l2_0).trans K2_0.out)
 have f3_1:∀ j,(w2_2.alloc (.cells #[.slice (some ⟨q2_2,0,none⟩) n n] 68)).frozen? ⟨w0_1.heap.size,j,none⟩=false:=fun j=>(BX.frozen (p:=⟨w0_1.heap.size,j,none⟩) l2_1).trans (f2_1 j)
 have l3_1:=Nat.lt_of_lt_of_le l2_1 hwz
 have K3_1:=zAa ((BX.block _ l2_1).trans K2_1.out)
 have f3_2:∀ j,(w2_2.alloc (.cells #[.slice (some ⟨q2_2,0,none⟩) n n] 68)).frozen? ⟨w1_0.heap.size,j,none⟩=false:=fun j=>(BX.frozen (p:=⟨w1_0.heap.size,j,none⟩) ln2).trans (fm2 j)
 have l3_2:=Nat.lt_of_lt_of_le ln2 hwz
 have K3_2:=zAa ((BX.block _ ln2).trans KN2.out)
 have hn3:w2_2.heap.size<(w2_2.alloc (.cells #[.slice (some ⟨q2_2,0,none⟩) n n] 68)).heap.size:=by simp
 clear BX hwz
 generalize hE3:w2_2.alloc (.cells #[.slice (some ⟨q2_2,0,none⟩) n n] 68)=W3 at *
 obtain⟨cn3,fn3,ln3⟩:=zAo k3_n
 have fm3:∀ j,W3.frozen? ⟨w2_2.heap.size,j,none⟩=false:=fun j=>by simp[World.frozen?,k3_n]
 have KN3:=zAa k3_n
 clear k3_n hE3 hn3
 clear d2_0 d2_1 d2_2 d2_3 d2_4 d2_5 d2_6 d2_7 d2_8 d2_9 d2_10 d2_11 d2_12 cn2
 go_wp2_with (first
  | (go_at_call 122;refine (zDx (FA.mk n (.slice x n c) g1 g2 g3 g4 g5 g6 g7 g8 g9) f gr _ gf _ q2_2 _ _ (HF3.out.below B3_1.out) (R3_0.out.below B3_1.out) (R3_1.out.below B3_1.out) (R3_5.out.below B3_1.out)).mono ?_;rintro e w3_2 ⟨rfl,hb3_2⟩;have B3_2:Hid (Below W3.heap.size W3 w3_2):=zAr B3_1.out (Nat.le_refl _) hb3_2;have c4_2_0:=cfL B3_2.out l3_0 d3_0;have c4_2_1:=cfL B3_2.out l3_0 d3_1;have c4_2_2:=cfL B3_2.out l3_0 d3_2;have c4_2_3:=cfL B3_2.out l3_0 d3_3;have c4_2_4:=cfL B3_2.out l3_0 d3_4;have c4_2_5:=cfL B3_2.out l3_0 d3_5;have c4_2_6:=cfL B3_2.out l3_0 d3_6;have c4_2_7:=cfL B3_2.out l3_0 d3_7;have c4_2_8:=cfL B3_2.out l3_0 d3_8;have c4_2_9:=cfL B3_2.out l3_0 d3_9;have c4_2_10:=cfL B3_2.out l3_0 d3_10;have c4_2_11:=cfL B3_2.out l3_0 d3_11;have c4_2_12:=cfL B3_2.out l3_1 d3_12;have c4_2_13:=cfL B3_2.out l3_2 d3_13;have c4_2_14:=cfL B3_2.out ln3 cn3;skip)
  | (go_at_call_of 119 (Value.slice (some ⟨q3_0,0,none⟩) n n);refine (zBY q3_0 n _ _ Q3_0.out).mono ?_;rintro e w3_1 ⟨rfl,hb3_1⟩;(try rw[show Q.zKG (Q.thenR bf (Q.zLl (Q.zLb rd (Q.zKy f.events ps) (Q.thenR rd (Q.zKy f.events ps)))))=false from h3]);have B3_1:Hid (Below W3.heap.size W3 w3_1):=zAr B3_0.out (Nat.le_refl _) hb3_1;have c4_1_0:=cfL B3_1.out l3_0 d3_0;have c4_1_1:=cfL B3_1.out l3_0 d3_1;have c4_1_2:=cfL B3_1.out l3_0 d3_2;have c4_1_3:=cfL B3_1.out l3_0 d3_3;have c4_1_4:=cfL B3_1.out l3_0 d3_4;have c4_1_5:=cfL B3_1.out l3_0 d3_5;have c4_1_6:=cfL B3_1.out l3_0 d3_6;have c4_1_7:=cfL B3_1.out l3_0 d3_7;have c4_1_8:=cfL B3_1.out l3_0 d3_8;have c4_1_9:=cfL B3_1.out l3_0 d3_9;have c4_1_10:=cfL B3_1.out l3_0 d3_10;have c4_1_11:=cfL B3_1.out l3_0 d3_11;have c4_1_12:=cfL B3_1.out l3_1 d3_12;have c4_1_13:=cfL B3_1.out l3_2 d3_13;have c4_1_14:=cfL B3_1.out ln3 cn3;skip)
  | (go_at_call_of 113 (Value.slice (some ⟨gf,0,none⟩) n n);refine (zBF gf q2_2 n _ _ _ (R3_1.out.below (Below.refl _ _)) (R3_5.out.below (Below.refl _ _))).mono ?_;rintro e w3_0 ⟨q3_0,rfl,hq3_0,hb3_0⟩;have B3_0:Hid (Below W3.heap.size W3 w3_0):=hb3_0;have c4_0_0:=cfL B3_0.out l3_0 d3_0;have c4_0_1:=cfL B3_0.out l3_0 d3_1;have c4_0_2:=cfL B3_0.out l3_0 d3_2;have c4_0_3:=cfL B3_0.out l3_0 d3_3;have c4_0_4:=cfL B3_0.out l3_0 d3_4;have c4_0_5:=cfL B3_0.out l3_0 d3_5;have c4_0_6:=cfL B3_0.out l3_0 d3_6;have c4_0_7:=cfL B3_0.out l3_0 d3_7;have c4_0_8:=cfL B3_0.out l3_0 d3_8;have c4_0_9:=cfL B3_0.out l3_0 d3_9;have c4_0_10:=cfL B3_0.out l3_0 d3_10;have c4_0_11:=cfL B3_0.out l3_0 d3_11;have c4_0_12:=cfL B3_0.out l3_1 d3_12;have c4_0_13:=cfL B3_0.out l3_2 d3_13;have c4_0_14:=cfL B3_0.out ln3 cn3;have Q3_0:=zAa hq3_0;clear hq3_0))
 all_goals
  go_wp2
  go_ret
  exact⟨rfl,zAr BW3.out (Nat.le_refl _) B3_2.out⟩
end Go.Proofs.YtgceflcbckjjiaaGreatDoor
