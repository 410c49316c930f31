import Derived.Test.YtkmebkbpfmoeaaaGreatH33
set_option linter.unusedVariables false
set_option linter.unusedSimpArgs false
set_option maxHeartbeats 12800000
namespace Go.Proofs.YtkmebkbpfmoeaaaGreat
open Go Go.RowKit
set_option maxRecDepth 100000
theorem zHR (a:FA) (f:Q.Facts) (gr:Nat) (rd:List Nat) (gf:Nat) (bf:List Nat) (w:World) (hf:FactsIn w a f) (hr:RelAt w gr a.n rd) (hb:RelAt w gf a.n bf) (pv:Value) (ps:List Int) (hp:zBA w pv ps) (hpl:ps.length=a.n) (h1:Q.zIK bf=false) (h2:f.splits (Q.thenR rd (Q.zIB f.events ps)) (Q.zIB f.events ps)=false) (h3:Q.zIK (Q.thenR bf (Q.linked rd (Q.zIB f.events ps)))=false) :
  Calls Tryz.prog 58 #[.agg (zCO a gr gf),pv] w fun e w'=>e=.returned (.bool (!f.fencesCircle bf (Q.linked rd (Q.zIB f.events ps))))∧Below w.heap.size w w':=by
 obtain⟨x,c,hev,_⟩:=hf.form
 obtain⟨n,ev,g1,g2,g3,g4,g5,g6,g7,g8,g9⟩:=a
 simp only at hev hr hb
 subst hev
 simp only[zAl,zCO]
 obtain⟨k0,hsz,hbw⟩:=zBt w #[.slice x n c,.slice (some ⟨g1,0,none⟩) n n,.slice (some ⟨g2,0,none⟩) n n,.slice (some ⟨g3,0,none⟩) n n,.slice (some ⟨g4,0,none⟩) n n,.slice (some ⟨g5,0,none⟩) n n,.slice (some ⟨g6,0,none⟩) n n,.slice (some ⟨g7,0,none⟩) n n,.slice (some ⟨g8,0,none⟩) n n,.slice (some ⟨g9,0,none⟩) n n,.slice (some ⟨gr,0,none⟩) n n,.slice (some ⟨gf,0,none⟩) n n] 80
 have HF:=zAa (hf.below hbw)
 have Rr:=zAa (hr.below hbw)
 have Rb:=zAa (hb.below hbw)
 have BW0:=zAa hbw
 clear hbw hf hr hb
 have HP:=zAa (hp.below BW0.out)
 clear hp
 simp only at hpl
 go_enter Tryz.func58,Tryz.ntmps58
 go_upto_region 1 with fail
 generalize hE:(w.alloc (.cells #[.slice x n c,.slice (some ⟨g1,0,none⟩) n n,.slice (some ⟨g2,0,none⟩) n n,.slice (some ⟨g3,0,none⟩) n n,.slice (some ⟨g4,0,none⟩) n n,.slice (some ⟨g5,0,none⟩) n n,.slice (some ⟨g6,0,none⟩) n n,.slice (some ⟨g7,0,none⟩) n n,.slice (some ⟨g8,0,none⟩) n n,.slice (some ⟨g9,0,none⟩) n n,.slice (some ⟨gr,0,none⟩) n n,.slice (some ⟨gf,0,none⟩) n n] 80))=W0 at *
 have c0_0_0:=ceL k0 0 _ rfl
 have c0_0_1:=ceL k0 1 _ rfl
 have c0_0_2:=ceL k0 2 _ rfl
 have c0_0_3:=ceL k0 3 _ rfl
 have c0_0_4:=ceL k0 4 _ rfl
 have c0_0_5:=ceL k0 5 _ rfl
 have c0_0_6:=ceL k0 6 _ rfl
 have c0_0_7:=ceL k0 7 _ rfl
 have c0_0_8:=ceL k0 8 _ rfl
 have c0_0_9:=ceL k0 9 _ rfl
 have c0_0_10:=ceL k0 10 _ rfl
 have c0_0_11:=ceL k0 11 _ rfl
 have l0_0:w.heap.size<W0.heap.size:=by omega
 have f0_0:∀ j,W0.frozen? ⟨w.heap.size,j,none⟩=false:=fun j=>by simp[World.frozen?,k0]
 have K0_0:=zAa k0
 have hsq0:w.heap.size+1≤W0.heap.size:=by omega
 clear hE hsz k0
 go_upto_region 4 with (first
  | (go_at_call 83;refine (zCR (FA.mk n (.slice x n c) g1 g2 g3 g4 g5 g6 g7 g8 g9) f pv ps _ (HF.out.below B0_0.out) (HP.out.below B0_0.out) hpl).mono ?_;rintro e w0_1 ⟨q0_1,rfl,hq0_1,hb0_1⟩;have B0_1:Hid (Below W0.heap.size W0 w0_1):=zAn B0_0.out (Nat.le_refl _) hb0_1;have c1_1_0:=cfL B0_1.out l0_0 c0_0_0;have c1_1_1:=cfL B0_1.out l0_0 c0_0_1;have c1_1_2:=cfL B0_1.out l0_0 c0_0_2;have c1_1_3:=cfL B0_1.out l0_0 c0_0_3;have c1_1_4:=cfL B0_1.out l0_0 c0_0_4;have c1_1_5:=cfL B0_1.out l0_0 c0_0_5;have c1_1_6:=cfL B0_1.out l0_0 c0_0_6;have c1_1_7:=cfL B0_1.out l0_0 c0_0_7;have c1_1_8:=cfL B0_1.out l0_0 c0_0_8;have c1_1_9:=cfL B0_1.out l0_0 c0_0_9;have c1_1_10:=cfL B0_1.out l0_0 c0_0_10;have c1_1_11:=cfL B0_1.out l0_0 c0_0_11;have Q0_1:=zAa hq0_1;clear hq0_1)
  | (go_at_call_of 82 (Value.slice (some ⟨gf,0,none⟩) n n);refine (zBI gf n _ _ (Rb.out.below (Below.refl _ _))).mono ?_;rintro e w0_0 ⟨rfl,hb0_0⟩;(try rw[h1]);have B0_0:Hid (Below W0.heap.size W0 w0_0):=hb0_0;have c1_0_0:=cfL B0_0.out l0_0 c0_0_0;have c1_0_1:=cfL B0_0.out l0_0 c0_0_1;have c1_0_2:=cfL B0_0.out l0_0 c0_0_2;have c1_0_3:=cfL B0_0.out l0_0 c0_0_3;have c1_0_4:=cfL B0_0.out l0_0 c0_0_4;have c1_0_5:=cfL B0_0.out l0_0 c0_0_5;have c1_0_6:=cfL B0_0.out l0_0 c0_0_6;have c1_0_7:=cfL B0_0.out l0_0 c0_0_7;have c1_0_8:=cfL B0_0.out l0_0 c0_0_8;have c1_0_9:=cfL B0_0.out l0_0 c0_0_9;have c1_0_10:=cfL B0_0.out l0_0 c0_0_10;have c1_0_11:=cfL B0_0.out l0_0 c0_0_11;skip))
 have k1_n:=heap_alloc_new w0_1 (.cells #[.slice (some ⟨q0_1,0,none⟩) n n] 64)
 have BX:Below W0.heap.size W0 (w0_1.alloc (.cells #[.slice (some ⟨q0_1,0,none⟩) n n] 64)):=B0_1.out.alloc B0_1.out.size _
 have hsq1:=B0_1.out.size
 have hwz:=BX.size
 have HF1:=zAa (HF.out.below BX)
 have R1_0:=zAa (Rr.out.below BX)
 have R1_1:=zAa (Rb.out.below BX)
 have R1_2:=zAa (Q0_1.out.below ((Below.refl _ _).alloc (Nat.le_refl _) (.cells #[.slice (some ⟨q0_1,0,none⟩) n n] 64)))
 have BW1:=zAa (zAn BW0.out (Nat.le_refl _) BX)
 have d1_0:=cfL BX l0_0 c0_0_0
 have d1_1:=cfL BX l0_0 c0_0_1
 have d1_2:=cfL BX l0_0 c0_0_2
 have d1_3:=cfL BX l0_0 c0_0_3
 have d1_4:=cfL BX l0_0 c0_0_4
 have d1_5:=cfL BX l0_0 c0_0_5
 have d1_6:=cfL BX l0_0 c0_0_6
 have d1_7:=cfL BX l0_0 c0_0_7
 have d1_8:=cfL BX l0_0 c0_0_8
 have d1_9:=cfL BX l0_0 c0_0_9
 have d1_10:=cfL BX l0_0 c0_0_10
 have d1_11:=cfL BX l0_0 c0_0_11
 have f1_0:∀ j,(w0_1.alloc (.cells #[.slice (some ⟨q0_1,0,none⟩) n n] 64)).frozen? ⟨w.heap.size,j,none⟩=false:=fun j=>(BX.frozen (p:=⟨w.heap.size,j,none⟩) l0_0).trans (f0_0 j)
 have l1_0:=Nat.lt_of_lt_of_le l0_0 hwz
 have K1_0:=zAa ((BX.block _ l0_0).trans K0_0.out)
 have hn1:w0_1.heap.size<(w0_1.alloc (.cells #[.slice (some ⟨q0_1,0,none⟩) n n] 64)).heap.size:=by simp
 clear BX hwz
 generalize hE1:w0_1.alloc (.cells #[.slice (some ⟨q0_1,0,none⟩) n n] 64)=W1 at *
 obtain⟨cn1,fn1,ln1⟩:=zAm k1_n
 have fm1:∀ j,W1.frozen? ⟨w0_1.heap.size,j,none⟩=false:=fun j=>by simp[World.frozen?,k1_n]
 have KN1:=zAa k1_n
 clear k1_n hE1 hn1
 clear c0_0_0 c0_0_1 c0_0_2 c0_0_3 c0_0_4 c0_0_5 c0_0_6 c0_0_7 c0_0_8 c0_0_9 c0_0_10 c0_0_11
 go_upto_region 5 with (first
  | (go_at_call 84;refine (zCP (FA.mk n (.slice x n c) g1 g2 g3 g4 g5 g6 g7 g8 g9) f gr _ q0_1 _ _ (HF1.out.below (Below.refl _ _)) (R1_0.out.below (Below.refl _ _)) (R1_2.out.below (Below.refl _ _))).mono ?_;rintro e w1_0 ⟨q1_0,rfl,hq1_0,hb1_0⟩;have B1_0:Hid (Below W1.heap.size W1 w1_0):=hb1_0;have c2_0_0:=cfL B1_0.out l1_0 d1_0;have c2_0_1:=cfL B1_0.out l1_0 d1_1;have c2_0_2:=cfL B1_0.out l1_0 d1_2;have c2_0_3:=cfL B1_0.out l1_0 d1_3;have c2_0_4:=cfL B1_0.out l1_0 d1_4;have c2_0_5:=cfL B1_0.out l1_0 d1_5;have c2_0_6:=cfL B1_0.out l1_0 d1_6;have c2_0_7:=cfL B1_0.out l1_0 d1_7;have c2_0_8:=cfL B1_0.out l1_0 d1_8;have c2_0_9:=cfL B1_0.out l1_0 d1_9;have c2_0_10:=cfL B1_0.out l1_0 d1_10;have c2_0_11:=cfL B1_0.out l1_0 d1_11;have c2_0_12:=cfL B1_0.out ln1 cn1;have Q1_0:=zAa hq1_0;clear hq1_0))
 have k2_n:=heap_alloc_new w1_0 (.cells #[.slice (some ⟨q1_0,0,none⟩) n n] 64)
 have BX:Below W1.heap.size W1 (w1_0.alloc (.cells #[.slice (some ⟨q1_0,0,none⟩) n n] 64)):=B1_0.out.alloc B1_0.out.size _
 have hsq2:=B1_0.out.size
 have hwz:=BX.size
 have HF2:=zAa (HF1.out.below BX)
 have R2_0:=zAa (R1_0.out.below BX)
 have R2_1:=zAa (R1_1.out.below BX)
 have R2_2:=zAa (R1_2.out.below BX)
 have R2_3:=zAa (Q1_0.out.below ((Below.refl _ _).alloc (Nat.le_refl _) (.cells #[.slice (some ⟨q1_0,0,none⟩) n n] 64)))
 have BW2:=zAa (zAn BW1.out (Nat.le_refl _) BX)
 have d2_0:=cfL BX l1_0 d1_0
 have d2_1:=cfL BX l1_0 d1_1
 have d2_2:=cfL BX l1_0 d1_2
 have d2_3:=cfL BX l1_0 d1_3
 have d2_4:=cfL BX l1_0 d1_4
 have d2_5:=cfL BX l1_0 d1_5
 have d2_6:=cfL BX l1_0 d1_6
 have d2_7:=cfL BX l1_0 d1_7
 have d2_8:=cfL BX l1_0 d1_8
 have d2_9:=cfL BX l1_0 d1_9
 have d2_10:=cfL BX l1_0 d1_10
 have d2_11:=cfL BX l1_0 d1_11
 have d2_12:=cfL BX ln1 cn1
 have f2_0:∀ j,(w1_0.alloc (.cells #[.slice (some ⟨q1_0,0,none⟩) n n] 64)).frozen? ⟨w.heap.size,j,none⟩=false:=fun j=>(BX.frozen (p:=⟨w.heap.size,j,none⟩) l1_0).trans (f1_0 j)
 have l2_0:=Nat.lt_of_lt_of_le l1_0 hwz
 have K2_0:=zAa ((BX.block _ l1_0).trans K1_0.out)
 have f2_1:∀ j,(w1_0.alloc (.cells #[.slice (some ⟨q1_0,0,none⟩) n n] 64)).frozen? ⟨w0_1.heap.size,j,none⟩=false:=fun j=>(BX.frozen (p:=⟨w0_1.heap.size,j,none⟩) ln1).trans (fm1 j)
 have l2_1:=Nat.lt_of_lt_of_le ln1 hwz
 have K2_1:=zAa ((BX.block _ ln1).trans KN1.out)
 have hn2:w1_0.heap.size<(w1_0.alloc (.cells #[.slice (some ⟨q1_0,0,none⟩) n n] 64)).heap.size:=by simp
 clear BX hwz
 generalize hE2:w1_0.alloc (.cells #[.slice (some ⟨q1_0,0,none⟩) n n] 64)=W2 at *
 obtain⟨cn2,fn2,ln2⟩:=zAm k2_n
 have fm2:∀ j,W2.frozen? ⟨w1_0.heap.size,j,none⟩=false:=fun j=>by simp[World.frozen?,k2_n]
 have KN2:=zAa k2_n
 clear k2_n hE2 hn2
 clear d1_0 d1_1 d1_2 d1_3 d1_4 d1_5 d1_6 d1_7 d1_8 d1_9 d1_10 d1_11 cn1
 go_upto_region 8 with (first
  | (go_at_call_of 54 (Value.slice (some ⟨q2_1,0,none⟩) n n);refine (zCq q2_1 n _ _ Q2_1.out).mono ?_;rintro e w2_2 ⟨q2_2,rfl,hq2_2,hb2_2⟩;have B2_2:Hid (Below W2.heap.size W2 w2_2):=zAn B2_1.out (Nat.le_refl _) hb2_2;have c3_2_0:=cfL B2_2.out l2_0 d2_0;have c3_2_1:=cfL B2_2.out l2_0 d2_1;have c3_2_2:=cfL B2_2.out l2_0 d2_2;have c3_2_3:=cfL B2_2.out l2_0 d2_3;have c3_2_4:=cfL B2_2.out l2_0 d2_4;have c3_2_5:=cfL B2_2.out l2_0 d2_5;have c3_2_6:=cfL B2_2.out l2_0 d2_6;have c3_2_7:=cfL B2_2.out l2_0 d2_7;have c3_2_8:=cfL B2_2.out l2_0 d2_8;have c3_2_9:=cfL B2_2.out l2_0 d2_9;have c3_2_10:=cfL B2_2.out l2_0 d2_10;have c3_2_11:=cfL B2_2.out l2_0 d2_11;have c3_2_12:=cfL B2_2.out l2_1 d2_12;have c3_2_13:=cfL B2_2.out ln2 cn2;have Q2_2:=zAa hq2_2;clear hq2_2)
  | (go_at_call 86;refine (zFE (FA.mk n (.slice x n c) g1 g2 g3 g4 g5 g6 g7 g8 g9) f gr _ q0_1 _ q1_0 _ _ (HF2.out.below B2_0.out) (R2_0.out.below B2_0.out) (R2_2.out.below B2_0.out) (R2_3.out.below B2_0.out)).mono ?_;rintro e w2_1 ⟨q2_1,rfl,hq2_1,hb2_1⟩;have B2_1:Hid (Below W2.heap.size W2 w2_1):=zAn B2_0.out (Nat.le_refl _) hb2_1;have c3_1_0:=cfL B2_1.out l2_0 d2_0;have c3_1_1:=cfL B2_1.out l2_0 d2_1;have c3_1_2:=cfL B2_1.out l2_0 d2_2;have c3_1_3:=cfL B2_1.out l2_0 d2_3;have c3_1_4:=cfL B2_1.out l2_0 d2_4;have c3_1_5:=cfL B2_1.out l2_0 d2_5;have c3_1_6:=cfL B2_1.out l2_0 d2_6;have c3_1_7:=cfL B2_1.out l2_0 d2_7;have c3_1_8:=cfL B2_1.out l2_0 d2_8;have c3_1_9:=cfL B2_1.out l2_0 d2_9;have c3_1_10:=cfL B2_1.out l2_0 d2_10;have c3_1_11:=cfL B2_1.out l2_0 d2_11;have c3_1_12:=cfL B2_1.out l2_1 d2_12;have c3_1_13:=cfL B2_1.out ln2 cn2;have Q2_1:=zAa hq2_1;clear hq2_1)
  | (go_at_call 85;refine (zCQ (FA.mk n (.slice x n c) g1 g2 g3 g4 g5 g6 g7 g8 g9) f q1_0 _ q0_1 _ _ (HF2.out.below (Below.refl _ _)) (R2_3.out.below (Below.refl _ _)) (R2_2.out.below (Below.refl _ _))).mono ?_;rintro e w2_0 ⟨rfl,hb2_0⟩;(try rw[h2]);have B2_0:Hid (Below W2.heap.size W2 w2_0):=hb2_0;have c3_0_0:=cfL B2_0.out l2_0 d2_0;have c3_0_1:=cfL B2_0.out l2_0 d2_1;have c3_0_2:=cfL B2_0.out l2_0 d2_2;have c3_0_3:=cfL B2_0.out l2_0 d2_3;have c3_0_4:=cfL B2_0.out l2_0 d2_4;have c3_0_5:=cfL B2_0.out l2_0 d2_5;have c3_0_6:=cfL B2_0.out l2_0 d2_6;have c3_0_7:=cfL B2_0.out l2_0 d2_7;have c3_0_8:=cfL B2_0.out l2_0 d2_8;have c3_0_9:=cfL B2_0.out l2_0 d2_9;have c3_0_10:=cfL B2_0.out l2_0 d2_10;have c3_0_11:=cfL B2_0.out l2_0 d2_11;have c3_0_12:=cfL B2_0.out l2_1 d2_12;have c3_0_13:=cfL B2_0.out ln2 cn2;skip))
 have k3_n:=heap_alloc_new w2_2 (.cells #[.slice (some ⟨q2_2,0,none⟩) n n] 64)
 have BX:Below W2.heap.size W2 (w2_2.alloc (.cells #[.slice (some ⟨q2_2,0,none⟩) n n] 64)):=B2_2.out.alloc B2_2.out.size _
 have hsq3:=B2_2.out.size
 have hwz:=BX.size
 have HF3:=zAa (HF2.out.below BX)
 have R3_0:=zAa (R2_0.out.below BX)
 have R3_1:=zAa (R2_1.out.below BX)
 have R3_2:=zAa (R2_2.out.below BX)
 have R3_3:=zAa (R2_3.out.below BX)
 have R3_4:=zAa ((Q2_1.out.below hb2_2).below ((Below.refl _ _).alloc (Nat.le_refl _) (.cells #[.slice (some ⟨q2_2,0,none⟩) n n] 64)))
 have R3_5:=zAa (Q2_2.out.below ((Below.refl _ _).alloc (Nat.le_refl _) (.cells #[.slice (some ⟨q2_2,0,none⟩) n n] 64)))
 have BW3:=zAa (zAn BW2.out (Nat.le_refl _) BX)
 have d3_0:=cfL BX l2_0 d2_0
 have d3_1:=cfL BX l2_0 d2_1
 have d3_2:=cfL BX l2_0 d2_2
 have d3_3:=cfL BX l2_0 d2_3
 have d3_4:=cfL BX l2_0 d2_4
 have d3_5:=cfL BX l2_0 d2_5
 have d3_6:=cfL BX l2_0 d2_6
 have d3_7:=cfL BX l2_0 d2_7
 have d3_8:=cfL BX l2_0 d2_8
 have d3_9:=cfL BX l2_0 d2_9
 have d3_10:=cfL BX l2_0 d2_10
 have d3_11:=cfL BX l2_0 d2_11
 have d3_12:=cfL BX l2_1 d2_12
 have d3_13:=cfL BX ln2 cn2
 have f3_0:∀ j,(w2_2.alloc (.cells #[.slice (some ⟨q2_2,0,none⟩) n n] 64)).frozen? ⟨w.heap.size,j,none⟩=false:=fun j=>(BX.frozen (p:=⟨w.heap.size,j,none⟩) l2_0).trans (f2_0 j)
 have l3_0:=Nat.lt_of_lt_of_le l2_0 hwz
 have K3_0:=zAa ((BX.block _ l2_0).trans K2_0.out)
 have f3_1:∀ j,(w2_2.alloc (.cells #[.slice (some ⟨q2_2,0,none⟩) n n] 64)).frozen? ⟨w0_1.heap.size,j,none⟩=false:=fun j=>(BX.frozen (p:=⟨w0_1.heap.size,j,none⟩) l2_1).trans (f2_1 j)
 have l3_1:=Nat.lt_of_lt_of_le l2_1 hwz
 have K3_1:=zAa ((BX.block _ l2_1).trans K2_1.out)
 have f3_2:∀ j,(w2_2.alloc (.cells #[.slice (some ⟨q2_2,0,none⟩) n n] 64)).frozen? ⟨w1_0.heap.size,j,none⟩=false:=fun j=>(BX.frozen (p:=⟨w1_0.heap.size,j,none⟩) ln2).trans (fm2 j)
 have l3_2:=Nat.lt_of_lt_of_le ln2 hwz
 have K3_2:=zAa ((BX.block _ ln2).trans KN2.out)
 have hn3:w2_2.heap.size<(w2_2.alloc (.cells #[.slice (some ⟨q2_2,0,none⟩) n n] 64)).heap.size:=by simp
 clear BX hwz
 generalize hE3:w2_2.alloc (.cells #[.slice (some ⟨q2_2,0,none⟩) n n] 64)=W3 at *
 obtain⟨cn3,fn3,ln3⟩:=zAm k3_n
 have fm3:∀ j,W3.frozen? ⟨w2_2.heap.size,j,none⟩=false:=fun j=>by simp[World.frozen?,k3_n]
 have KN3:=zAa k3_n
 clear k3_n hE3 hn3
 clear d2_0 d2_1 d2_2 d2_3 d2_4 d2_5 d2_6 d2_7 d2_8 d2_9 d2_10 d2_11 d2_12 cn2
 go_wp2_with (first
  | (go_at_call 87;refine (zDg (FA.mk n (.slice x n c) g1 g2 g3 g4 g5 g6 g7 g8 g9) f gr _ gf _ q2_2 _ _ (HF3.out.below B3_1.out) (R3_0.out.below B3_1.out) (R3_1.out.below B3_1.out) (R3_5.out.below B3_1.out)).mono ?_;rintro e w3_2 ⟨rfl,hb3_2⟩;have B3_2:Hid (Below W3.heap.size W3 w3_2):=zAn B3_1.out (Nat.le_refl _) hb3_2;have c4_2_0:=cfL B3_2.out l3_0 d3_0;have c4_2_1:=cfL B3_2.out l3_0 d3_1;have c4_2_2:=cfL B3_2.out l3_0 d3_2;have c4_2_3:=cfL B3_2.out l3_0 d3_3;have c4_2_4:=cfL B3_2.out l3_0 d3_4;have c4_2_5:=cfL B3_2.out l3_0 d3_5;have c4_2_6:=cfL B3_2.out l3_0 d3_6;have c4_2_7:=cfL B3_2.out l3_0 d3_7;have c4_2_8:=cfL B3_2.out l3_0 d3_8;have c4_2_9:=cfL B3_2.out l3_0 d3_9;have c4_2_10:=cfL B3_2.out l3_0 d3_10;have c4_2_11:=cfL B3_2.out l3_0 d3_11;have c4_2_12:=cfL B3_2.out l3_1 d3_12;have c4_2_13:=cfL B3_2.out l3_2 d3_13;have c4_2_14:=cfL B3_2.out ln3 cn3;skip)
  | (go_at_call_of 82 (Value.slice (some ⟨q3_0,0,none⟩) n n);refine (zBI q3_0 n _ _ Q3_0.out).mono ?_;rintro e w3_1 ⟨rfl,hb3_1⟩;(try rw[show Q.zIK (Q.thenR bf (Q.zJj (Q.zJa rd (Q.zIB f.events ps) (Q.thenR rd (Q.zIB f.events ps)))))=false from h3]);have B3_1:Hid (Below W3.heap.size W3 w3_1):=zAn B3_0.out (Nat.le_refl _) hb3_1;have c4_1_0:=cfL B3_1.out l3_0 d3_0;have c4_1_1:=cfL B3_1.out l3_0 d3_1;have c4_1_2:=cfL B3_1.out l3_0 d3_2;have c4_1_3:=cfL B3_1.out l3_0 d3_3;have c4_1_4:=cfL B3_1.out l3_0 d3_4;have c4_1_5:=cfL B3_1.out l3_0 d3_5;have c4_1_6:=cfL B3_1.out l3_0 d3_6;have c4_1_7:=cfL B3_1.out l3_0 d3_7;have c4_1_8:=cfL B3_1.out l3_0 d3_8;have c4_1_9:=cfL B3_1.out l3_0 d3_9;have c4_1_10:=cfL B3_1.out l3_0 d3_10;have c4_1_11:=cfL B3_1.out l3_0 d3_11;have c4_1_12:=cfL B3_1.out l3_1 d3_12;have c4_1_13:=cfL B3_1.out l3_2 d3_13;have c4_1_14:=cfL B3_1.out ln3 cn3;skip)
  | (go_at_call_of 76 (Value.slice (some ⟨gf,0,none⟩) n n);refine (zBm gf q2_2 n _ _ _ (R3_1.out.below (Below.refl _ _)) (R3_5.out.below (Below.refl _ _))).mono ?_;rintro e w3_0 ⟨q3_0,rfl,hq3_0,hb3_0⟩;have B3_0:Hid (Below W3.heap.size W3 w3_0):=hb3_0;have c4_0_0:=cfL B3_0.out l3_0 d3_0;have c4_0_1:=cfL B3_0.out l3_0 d3_1;have c4_0_2:=cfL B3_0.out l3_0 d3_2;have c4_0_3:=cfL B3_0.out l3_0 d3_3;have c4_0_4:=cfL B3_0.out l3_0 d3_4;have c4_0_5:=cfL B3_0.out l3_0 d3_5;have c4_0_6:=cfL B3_0.out l3_0 d3_6;have c4_0_7:=cfL B3_0.out l3_0 d3_7;have c4_0_8:=cfL B3_0.out l3_0 d3_8;have c4_0_9:=cfL B3_0.out l3_0 d3_9;have c4_0_10:=cfL B3_0.out l3_0 d3_10;have c4_0_11:=cfL B3_0.out l3_0 d3_11;have c4_0_12:=cfL B3_0.out l3_1 d3_12;have c4_0_13:=cfL B3_0.out l3_2 d3_13;have c4_0_14:=cfL B3_0.out ln3 cn3;have Q3_0:=zAa hq3_0;clear hq3_0))
 all_goals
  go_wp2
  go_ret
  exact⟨rfl,zAn BW3.out (Nat.le_refl _) B3_2.out⟩


theorem zDB (a:FA) (f:Q.Facts) (gr:Nat) (rd:List Nat) (gf:Nat) (bf:List Nat) (w:World) (hf:FactsIn w a f) (hr:RelAt w gr a.n rd) (hb:RelAt w gf a.n bf) (pv:Value) (ps:List Int) (hp:zBA w pv ps) (hpl:ps.length=a.n) :
  Calls Tryz.prog 58 #[.agg (zCO a gr gf),pv] w fun e w'=>e=.returned (.bool (f.mayBe rd bf ps))∧Below w.heap.size w w':=by
 cases h1:Q.zIK bf with
 | true =>
  have e:f.mayBe rd bf ps=false:=by simp[Q.Facts.mayBe,h1]
  rw[e];exact zHO a f gr rd gf bf w hf hr hb pv ps hp hpl h1
 | false =>
  cases h2:f.splits (Q.thenR rd (Q.zIB f.events ps)) (Q.zIB f.events ps) with
  | true =>
   have e:f.mayBe rd bf ps=false:=by simp[Q.Facts.mayBe,h1,h2]
   rw[e];exact zHP a f gr rd gf bf w hf hr hb pv ps hp hpl h1 h2
  | false =>
   cases h3:Q.zIK (Q.thenR bf (Q.linked rd (Q.zIB f.events ps))) with
   | true =>
    have e:f.mayBe rd bf ps=false:=by simp[Q.Facts.mayBe,h1,h2,h3]
    rw[e];exact zHQ a f gr rd gf bf w hf hr hb pv ps hp hpl h1 h2 h3
   | false =>
    have e:f.mayBe rd bf ps=!f.fencesCircle bf (Q.linked rd (Q.zIB f.events ps)):=by simp[Q.Facts.mayBe,h1,h2,h3]
    rw[e];exact zHR a f gr rd gf bf w hf hr hb pv ps hp hpl h1 h2 h3
theorem zFl (a:FA) (f:Q.Facts) (gb:Nat) (bf:List Nat) (w:World) (hf:FactsIn w a f) (hb:RelAt w gb a.n bf) :
  Calls Tryz.prog 61 #[.agg (zAl a),.agg #[.slice (some ⟨gb,0,none⟩) a.n a.n]] w fun e w'=>e=.returned (.bool (f.clashes bf))∧Below w.heap.size w w':=by
 have HFE:Hid (f.clashes bf=(List.range a.n).any fun i=>(List.range a.n).any fun k=>f.clashAt bf i k):=by unfold Hid Q.Facts.clashes;rw[hf.len]
 obtain⟨x,c,hev,hx⟩:=hf.form
 have hn64:=hf.n64
 have hln:=hf.len
 obtain⟨n,ev,g1,g2,g3,g4,g5,g6,g7,g8,g9⟩:=a
 simp only at hev hn64 hln hx
 subst hev
 simp only[zAl]
 simp only at HFE hb
 have HEV:=zAa hf.ev
 obtain⟨k0,k1,hsz,hbw⟩:=zBM w #[.slice x n c,.slice (some ⟨g1,0,none⟩) n n,.slice (some ⟨g2,0,none⟩) n n,.slice (some ⟨g3,0,none⟩) n n,.slice (some ⟨g4,0,none⟩) n n,.slice (some ⟨g5,0,none⟩) n n,.slice (some ⟨g6,0,none⟩) n n,.slice (some ⟨g7,0,none⟩) n n,.slice (some ⟨g8,0,none⟩) n n,.slice (some ⟨g9,0,none⟩) n n] #[.slice (some ⟨gb,0,none⟩) n n] 66 64
 have HF:=zAa (hf.below hbw)
 have RB:=zAa (hb.below hbw)
 have BW0:=zAa hbw
 clear hbw hf hb
 go_enter Tryz.func61,Tryz.ntmps61
 go_upto_region 1 with fail
 generalize hE:(w.alloc (.cells #[.slice x n c,.slice (some ⟨g1,0,none⟩) n n,.slice (some ⟨g2,0,none⟩) n n,.slice (some ⟨g3,0,none⟩) n n,.slice (some ⟨g4,0,none⟩) n n,.slice (some ⟨g5,0,none⟩) n n,.slice (some ⟨g6,0,none⟩) n n,.slice (some ⟨g7,0,none⟩) n n,.slice (some ⟨g8,0,none⟩) n n,.slice (some ⟨g9,0,none⟩) n n] 66)).alloc (.cells #[.slice (some ⟨gb,0,none⟩) n n] 64)=W0 at *
 have c00:=ceL k0 0 _ rfl
 obtain⟨c1,f1,l1⟩:=zAm k1
 have l0:w.heap.size<W0.heap.size:=by omega
 have K0:=zAa k0
 clear hE k0 k1 f1
 go_wp2
 go_loopw [12] (fun i wr=>∃ (k:Nat),k≤n∧i=.int .i64 k∧Hid ((List.range k).any (fun i=>(List.range n).any fun k=>f.clashAt bf i k)=false)∧Hid (Below W0.heap.size W0 wr)) (fun i _=>n-(intOf i).toNat)
 case atStart=>exact⟨0,Nat.zero_le _,rfl,by simp[Hid],Below.refl _ _⟩
 case round =>
  obtain⟨k,hk,rfl,HT,HI⟩:=hrel
  have d00:=cfL HI.out l0 c00
  have l0w:=Nat.lt_of_lt_of_le l0 HI.out.size
  by_cases hlt:k<n
  ·have hin:(k:Int)<(n:Int):=by omega
   obtain⟨be,rfl,hbe⟩:=hx (by omega)
   have hbeW:be<W0.heap.size:=by omega
   have HR1:Hid (wr.rangeAt be (k*10) (zAb (Q.ev f.events k)).toList):=zAz (HEV.out.range' hln.symm k (by omega)) ((HI.out.block be hbeW).trans (BW0.out.block be hbe))
   have HTS:=zAa (Q.zIP (fun i=>(List.range n).any fun k=>f.clashAt bf i k) k)
   have HBP:Hid (∀ q,f.clashAt bf k q=(f.mayClash k (Q.ev f.events k) q (Q.ev f.events q)&&!Q.hasR bf k q&&!Q.hasR bf q k)):=fun q=>rfl
   generalize Q.ev f.events k=e1 at *
   have HA1:Hid (zAQ (wr.alloc (.cells (zAb e1) 129)) wr.heap.size e1):=zAQ.new wr e1
   have HF1:Hid (Below W0.heap.size W0 (wr.alloc (.cells (zAb e1) 129))):=HI.out.alloc HI.out.size _
   go_wp2_with (first | (refine zAg (.tmp 15) rfl rfl be (k*10) e1 rfl HR1.out ?_))
   go_loopw [20] (fun j wq=>∃ (q:Nat),q≤n∧j=.int .i64 q∧Hid ((List.range q).any (fun j=>f.clashAt bf k j)=false)∧Hid (Below W0.heap.size W0 wq)∧Hid (zAQ wq wr.heap.size e1)) (fun j _=>n-(intOf j).toNat)
   case atStart=>exact⟨0,Nat.zero_le _,rfl,by simp[Hid],HF1,HA1⟩
   case round =>
    clear d00 HF1 HA1 HR1 l0w
    obtain⟨q,hq,rfl,HU,HJ,HA⟩:=hrel
    by_cases hql:q<n
    ·have hqi:(q:Int)<(n:Int):=by omega
     have HR2:Hid (wr.rangeAt be (q*10) (zAb (Q.ev f.events q)).toList):=zAz (HEV.out.range' hln.symm q (by omega)) ((HJ.out.block be hbeW).trans (BW0.out.block be hbe))
     have HUS:=zAa (Q.zIP (fun j=>f.clashAt bf k j) q)
     have HBQ:=zAa (HBP.out q)
     generalize Q.ev f.events q=e2 at *
     have HF2:Hid (Below W0.heap.size W0 (wr.alloc (.cells (zAb e2) 129))):=HJ.out.alloc HJ.out.size _
     have HA2:=zAa (HA.out.alloc (.cells (zAb e2) 129))
     have HA3:=zAa (zAQ.new wr e2)
     have HRB:=zAa (RB.out.below HF2.out)
     have HFF:=zAa (HF.out.below HF2.out)
     have hK0:=(HF2.out.block _ l0).trans K0.out
     have l0v:=Nat.lt_of_lt_of_le l0 HF2.out.size
     have l1v:=Nat.lt_of_lt_of_le l1 HF2.out.size
     have d1:=cfL HF2.out l1 c1
     have dd0:(wr.alloc (.cells (zAb e2) 129)).cell? ⟨w.heap.size,0,none⟩=some (.slice (some ⟨be,0,none⟩) n c):=by simp only[World.cell?,hK0];rfl
     have dd1:(wr.alloc (.cells (zAb e2) 129)).cell? ⟨w.heap.size,1,none⟩=some (.slice (some ⟨g1,0,none⟩) n n):=by simp only[World.cell?,hK0];rfl
     have dd2:(wr.alloc (.cells (zAb e2) 129)).cell? ⟨w.heap.size,2,none⟩=some (.slice (some ⟨g2,0,none⟩) n n):=by simp only[World.cell?,hK0];rfl
     have dd3:(wr.alloc (.cells (zAb e2) 129)).cell? ⟨w.heap.size,3,none⟩=some (.slice (some ⟨g3,0,none⟩) n n):=by simp only[World.cell?,hK0];rfl
     have dd4:(wr.alloc (.cells (zAb e2) 129)).cell? ⟨w.heap.size,4,none⟩=some (.slice (some ⟨g4,0,none⟩) n n):=by simp only[World.cell?,hK0];rfl
     have dd5:(wr.alloc (.cells (zAb e2) 129)).cell? ⟨w.heap.size,5,none⟩=some (.slice (some ⟨g5,0,none⟩) n n):=by simp only[World.cell?,hK0];rfl
     have dd6:(wr.alloc (.cells (zAb e2) 129)).cell? ⟨w.heap.size,6,none⟩=some (.slice (some ⟨g6,0,none⟩) n n):=by simp only[World.cell?,hK0];rfl
     have dd7:(wr.alloc (.cells (zAb e2) 129)).cell? ⟨w.heap.size,7,none⟩=some (.slice (some ⟨g7,0,none⟩) n n):=by simp only[World.cell?,hK0];rfl
     have dd8:(wr.alloc (.cells (zAb e2) 129)).cell? ⟨w.heap.size,8,none⟩=some (.slice (some ⟨g8,0,none⟩) n n):=by simp only[World.cell?,hK0];rfl
     have dd9:(wr.alloc (.cells (zAb e2) 129)).cell? ⟨w.heap.size,9,none⟩=some (.slice (some ⟨g9,0,none⟩) n n):=by simp only[World.cell?,hK0];rfl
     obtain⟨x0,x1,x2,x3,x4,x5,x6,x7,x8,x9,xf,xl⟩:=HA2.out.facts
     obtain⟨y0,y1,y2,y3,y4,y5,y6,y7,y8,y9,yf,yl⟩:=HA3.out.facts
     simp only[zAb] at x0 x1 x2 x3 x4 x5 x6 x7 x8 x9 xf xl y0 y1 y2 y3 y4 y5 y6 y7 y8 y9 yf yl d1 l0v l1v dd0 dd1 dd2 dd3 dd4 dd5 dd6 dd7 dd8 dd9
     clear hK0
     cases z1:f.mayClash k e1 q e2
     ·have HUN:Hid ((List.range (q+1)).any (fun j=>f.clashAt bf k j)=false):=by unfold Hid;rw[HUS.out,HU.out,HBQ.out,z1];rfl
      go_wp2_with (first | (refine zAg (.tmp 23) rfl rfl be (q*10) e2 rfl HR2.out ?_) | (go_at_call 92;refine (zBN (FA.mk n (.slice (some ⟨be,0,none⟩) n c) g1 g2 g3 g4 g5 g6 g7 g8 g9) f k q e1 e2 _ HFF.out).mono ?_;rintro e v1 ⟨rfl,hb1⟩;rw[z1];have B1:Hid (Below W0.heap.size W0 v1):=zAn HF2.out (Nat.le_refl _) hb1;have HA4:=zAa (HA2.out.below hb1);have p1:=cfL B1.out l1 c1;have q1:=Nat.lt_of_lt_of_le l1 B1.out.size))
      go_roundw
      case rel=>exact⟨q+1,by omega,by go_num,HUN,B1,HA4⟩
      case measure=>simp[intOf];omega
     cases z2:Q.hasR bf (k:Int) (q:Int)
     rotate_left
     ·have HUN:Hid ((List.range (q+1)).any (fun j=>f.clashAt bf k j)=false):=by unfold Hid;rw[HUS.out,HU.out,HBQ.out,z1,z2];rfl
      go_wp2_with (first | (refine zAg (.tmp 23) rfl rfl be (q*10) e2 rfl HR2.out ?_) | (go_at_call 92;refine (zBN (FA.mk n (.slice (some ⟨be,0,none⟩) n c) g1 g2 g3 g4 g5 g6 g7 g8 g9) f k q e1 e2 _ HFF.out).mono ?_;rintro e v1 ⟨rfl,hb1⟩;rw[z1];have B1:Hid (Below W0.heap.size W0 v1):=zAn HF2.out (Nat.le_refl _) hb1;have HA4:=zAa (HA2.out.below hb1);have p1:=cfL B1.out l1 c1;have q1:=Nat.lt_of_lt_of_le l1 B1.out.size) | (go_at_call_of 75 (Value.int IntKind.i64 (k:Int));refine (zBE gb n bf (k:Int) (q:Int) _ (HRB.out.below hb1)).mono ?_;rintro e v2 ⟨rfl,hb2⟩;rw[z2];have B2:Hid (Below W0.heap.size W0 v2):=zAn B1.out (Nat.le_refl _) hb2;have HA5:=zAa (HA4.out.below hb2);have p2:=cfL B2.out l1 c1;have q2:=Nat.lt_of_lt_of_le l1 B2.out.size))
      go_roundw
      case rel=>exact⟨q+1,by omega,by go_num,HUN,B2,HA5⟩
      case measure=>simp[intOf];omega
     cases z3:Q.hasR bf (q:Int) (k:Int)
     rotate_left
     ·have HUN:Hid ((List.range (q+1)).any (fun j=>f.clashAt bf k j)=false):=by unfold Hid;rw[HUS.out,HU.out,HBQ.out,z1,z2,z3];rfl
      go_wp2_with (first | (refine zAg (.tmp 23) rfl rfl be (q*10) e2 rfl HR2.out ?_) | (go_at_call 92;refine (zBN (FA.mk n (.slice (some ⟨be,0,none⟩) n c) g1 g2 g3 g4 g5 g6 g7 g8 g9) f k q e1 e2 _ HFF.out).mono ?_;rintro e v1 ⟨rfl,hb1⟩;rw[z1];have B1:Hid (Below W0.heap.size W0 v1):=zAn HF2.out (Nat.le_refl _) hb1;have HA4:=zAa (HA2.out.below hb1);have p1:=cfL B1.out l1 c1;have q1:=Nat.lt_of_lt_of_le l1 B1.out.size) | (go_at_call 75;refine (zBE gb n bf (q:Int) (k:Int) _ ((HRB.out.below hb1).below hb2)).mono ?_;rintro e v3 ⟨rfl,hb3⟩;rw[z3];have B3:Hid (Below W0.heap.size W0 v3):=zAn B2.out (Nat.le_refl _) hb3;have HA6:=zAa (HA5.out.below hb3)) | (go_at_call_of 75 (Value.int IntKind.i64 (k:Int));refine (zBE gb n bf (k:Int) (q:Int) _ (HRB.out.below hb1)).mono ?_;rintro e v2 ⟨rfl,hb2⟩;rw[z2];have B2:Hid (Below W0.heap.size W0 v2):=zAn B1.out (Nat.le_refl _) hb2;have HA5:=zAa (HA4.out.below hb2);have p2:=cfL B2.out l1 c1;have q2:=Nat.lt_of_lt_of_le l1 B2.out.size))
      go_roundw
      case rel=>exact⟨q+1,by omega,by go_num,HUN,B3,HA6⟩
      case measure=>simp[intOf];omega
     ·have HV:Hid (f.clashes bf=true):=by
       unfold Hid
       rw[HFE.out]
       refine Q.zIQ _ (k+1) n hlt ?_
       rw[HTS.out,Q.zIQ (fun j=>f.clashAt bf k j) (q+1) n hql (by rw[HUS.out,HBQ.out,z1,z2,z3];simp)];simp
      go_wp2_with (first | (refine zAg (.tmp 23) rfl rfl be (q*10) e2 rfl HR2.out ?_) | (go_at_call 92;refine (zBN (FA.mk n (.slice (some ⟨be,0,none⟩) n c) g1 g2 g3 g4 g5 g6 g7 g8 g9) f k q e1 e2 _ HFF.out).mono ?_;rintro e v1 ⟨rfl,hb1⟩;rw[z1];have B1:Hid (Below W0.heap.size W0 v1):=zAn HF2.out (Nat.le_refl _) hb1;have HA4:=zAa (HA2.out.below hb1);have p1:=cfL B1.out l1 c1;have q1:=Nat.lt_of_lt_of_le l1 B1.out.size) | (go_at_call 75;refine (zBE gb n bf (q:Int) (k:Int) _ ((HRB.out.below hb1).below hb2)).mono ?_;rintro e v3 ⟨rfl,hb3⟩;rw[z3];have B3:Hid (Below W0.heap.size W0 v3):=zAn B2.out (Nat.le_refl _) hb3;have HA6:=zAa (HA5.out.below hb3)) | (go_at_call_of 75 (Value.int IntKind.i64 (k:Int));refine (zBE gb n bf (k:Int) (q:Int) _ (HRB.out.below hb1)).mono ?_;rintro e v2 ⟨rfl,hb2⟩;rw[z2];have B2:Hid (Below W0.heap.size W0 v2):=zAn B1.out (Nat.le_refl _) hb2;have HA5:=zAa (HA4.out.below hb2);have p2:=cfL B2.out l1 c1;have q2:=Nat.lt_of_lt_of_le l1 B2.out.size))
      go_ret
      rw[HV.out];exact⟨rfl,zAn BW0.out (Nat.le_refl _) B3.out⟩
    ·have HN2:Hid ((List.range (k+1)).any (fun i=>(List.range n).any fun k=>f.clashAt bf i k)=false):=by
      have h1:=HU.out
      rw[show q=n by omega] at h1
      unfold Hid;rw[HTS.out,HT.out,h1];rfl
     go_wp2
     go_roundw
     case rel=>exact⟨k+1,by omega,by go_num,HN2,HJ⟩
     case measure=>simp[intOf];omega
  ·have hkn:k=n:=by omega
   have HV:Hid (f.clashes bf=false):=by unfold Hid;rw[HFE.out,← hkn];have h1:=HT.out;rw[← hkn] at h1;exact h1
   go_wp2
   go_ret
   rw[HV.out];exact⟨rfl,zAn BW0.out (Nat.le_refl _) HI.out⟩
end Go.Proofs.YtkmebkbpfmoeaaaGreat
