import Derived.Test.YtgceflcbckjjiaaGreatDoorC33
set_option linter.unusedVariables false
set_option linter.unusedSimpArgs false
set_option maxHeartbeats 12800000
namespace Go.Proofs.YtgceflcbckjjiaaGreatDoor
open Go Go.RowKit
set_option maxRecDepth 100000
theorem zIl (a:FA) (f:Q.Facts) (gr:Nat) (rd:List Nat) (gb:Nat) (bh:List Nat) (gm:Nat) (ms:List Nat) (w:World) (hf:FactsIn w a f) (hr:RelAt w gr a.n rd) (hb:RelAt w gb a.n bh) (hm:RelAt w gm a.n ms) (h1:f.splits ms bh=true) :
  Calls Tryz.prog 96 #[.agg (zCF a gr),.agg #[.slice (some ⟨gb,0,none⟩) a.n a.n],.agg #[.slice (some ⟨gm,0,none⟩) a.n a.n]] w fun e w'=>e=.returned (.bool (false))∧Below w.heap.size w w':=by
 obtain⟨x,c,hev,_⟩:=hf.form
 obtain⟨n,ev,g1,g2,g3,g4,g5,g6,g7,g8,g9⟩:=a
 simp only at hev hr hb hm
 subst hev
 simp only[zAp,zCF]
 obtain⟨k0,k1,k2,hsz,hbw⟩:=zCB w #[.slice x n c,.slice (some ⟨g1,0,none⟩) n n,.slice (some ⟨g2,0,none⟩) n n,.slice (some ⟨g3,0,none⟩) n n,.slice (some ⟨g4,0,none⟩) n n,.slice (some ⟨g5,0,none⟩) n n,.slice (some ⟨g6,0,none⟩) n n,.slice (some ⟨g7,0,none⟩) n n,.slice (some ⟨g8,0,none⟩) n n,.slice (some ⟨g9,0,none⟩) n n,.slice (some ⟨gr,0,none⟩) n n] #[.slice (some ⟨gb,0,none⟩) n n] #[.slice (some ⟨gm,0,none⟩) n n] 101 68 68
 have HF:=zAa (hf.below hbw)
 have Rr:=zAa (hr.below hbw)
 have Rb:=zAa (hb.below hbw)
 have Rm:=zAa (hm.below hbw)
 have BW0:=zAa hbw
 clear hbw hf hr hb hm
 go_enter Tryz.func96,Tryz.ntmps96
 go_upto_region 1 with fail
 generalize hE:(((w.alloc (.cells #[.slice x n c,.slice (some ⟨g1,0,none⟩) n n,.slice (some ⟨g2,0,none⟩) n n,.slice (some ⟨g3,0,none⟩) n n,.slice (some ⟨g4,0,none⟩) n n,.slice (some ⟨g5,0,none⟩) n n,.slice (some ⟨g6,0,none⟩) n n,.slice (some ⟨g7,0,none⟩) n n,.slice (some ⟨g8,0,none⟩) n n,.slice (some ⟨g9,0,none⟩) n n,.slice (some ⟨gr,0,none⟩) n n] 101)).alloc (.cells #[.slice (some ⟨gb,0,none⟩) n n] 68)).alloc (.cells #[.slice (some ⟨gm,0,none⟩) n n] 68))=W0 at *
 have c0_0_0:=ceL k0 0 _ rfl
 have c0_0_1:=ceL k0 1 _ rfl
 have c0_0_2:=ceL k0 2 _ rfl
 have c0_0_3:=ceL k0 3 _ rfl
 have c0_0_4:=ceL k0 4 _ rfl
 have c0_0_5:=ceL k0 5 _ rfl
 have c0_0_6:=ceL k0 6 _ rfl
 have c0_0_7:=ceL k0 7 _ rfl
 have c0_0_8:=ceL k0 8 _ rfl
 have c0_0_9:=ceL k0 9 _ rfl
 have c0_0_10:=ceL k0 10 _ rfl
 have l0_0:w.heap.size<W0.heap.size:=by omega
 have f0_0:∀ j,W0.frozen? ⟨w.heap.size,j,none⟩=false:=fun j=>by simp[World.frozen?,k0]
 have K0_0:=zAa k0
 have c0_1_0:=ceL k1 0 _ rfl
 have l0_1:w.heap.size+1<W0.heap.size:=by omega
 have f0_1:∀ j,W0.frozen? ⟨w.heap.size+1,j,none⟩=false:=fun j=>by simp[World.frozen?,k1]
 have K0_1:=zAa k1
 have c0_2_0:=ceL k2 0 _ rfl
 have l0_2:w.heap.size+2<W0.heap.size:=by omega
 have f0_2:∀ j,W0.frozen? ⟨w.heap.size+2,j,none⟩=false:=fun j=>by simp[World.frozen?,k2]
 have K0_2:=zAa k2
 have hsq0:w.heap.size+3≤W0.heap.size:=by omega
 clear hE hsz k0 k1 k2
 go_wp2_with (first
  | (go_at_call 120;refine (zCG (FA.mk n (.slice x n c) g1 g2 g3 g4 g5 g6 g7 g8 g9) f gm _ gb _ _ (HF.out.below (Below.refl _ _)) (Rm.out.below (Below.refl _ _)) (Rb.out.below (Below.refl _ _))).mono ?_;rintro e w0_0 ⟨rfl,hb0_0⟩;(try rw[h1]);have B0_0:Hid (Below W0.heap.size W0 w0_0):=hb0_0;skip))
 all_goals
  go_wp2
  go_ret
  exact⟨rfl,zAm BW0.out (Nat.le_refl _) B0_0.out⟩
theorem zIm (a:FA) (f:Q.Facts) (gr:Nat) (rd:List Nat) (gb:Nat) (bh:List Nat) (gm:Nat) (ms:List Nat) (w:World) (hf:FactsIn w a f) (hr:RelAt w gr a.n rd) (hb:RelAt w gb a.n bh) (hm:RelAt w gm a.n ms) (h1:f.splits ms bh=false) :
  Calls Tryz.prog 96 #[.agg (zCF a gr),.agg #[.slice (some ⟨gb,0,none⟩) a.n a.n],.agg #[.slice (some ⟨gm,0,none⟩) a.n a.n]] w fun e w'=>e=.returned (.bool (!Q.circlesR (Q.orR f.rows (Q.andR (Q.zOH rd bh ms) f.strong))))∧Below w.heap.size w w':=by
 obtain⟨x,c,hev,_⟩:=hf.form
 obtain⟨n,ev,g1,g2,g3,g4,g5,g6,g7,g8,g9⟩:=a
 simp only at hev hr hb hm
 subst hev
 simp only[zAp,zCF]
 obtain⟨k0,k1,k2,hsz,hbw⟩:=zCB w #[.slice x n c,.slice (some ⟨g1,0,none⟩) n n,.slice (some ⟨g2,0,none⟩) n n,.slice (some ⟨g3,0,none⟩) n n,.slice (some ⟨g4,0,none⟩) n n,.slice (some ⟨g5,0,none⟩) n n,.slice (some ⟨g6,0,none⟩) n n,.slice (some ⟨g7,0,none⟩) n n,.slice (some ⟨g8,0,none⟩) n n,.slice (some ⟨g9,0,none⟩) n n,.slice (some ⟨gr,0,none⟩) n n] #[.slice (some ⟨gb,0,none⟩) n n] #[.slice (some ⟨gm,0,none⟩) n n] 101 68 68
 have HF:=zAa (hf.below hbw)
 have Rr:=zAa (hr.below hbw)
 have Rb:=zAa (hb.below hbw)
 have Rm:=zAa (hm.below hbw)
 have BW0:=zAa hbw
 clear hbw hf hr hb hm
 go_enter Tryz.func96,Tryz.ntmps96
 go_upto_region 1 with fail
 generalize hE:(((w.alloc (.cells #[.slice x n c,.slice (some ⟨g1,0,none⟩) n n,.slice (some ⟨g2,0,none⟩) n n,.slice (some ⟨g3,0,none⟩) n n,.slice (some ⟨g4,0,none⟩) n n,.slice (some ⟨g5,0,none⟩) n n,.slice (some ⟨g6,0,none⟩) n n,.slice (some ⟨g7,0,none⟩) n n,.slice (some ⟨g8,0,none⟩) n n,.slice (some ⟨g9,0,none⟩) n n,.slice (some ⟨gr,0,none⟩) n n] 101)).alloc (.cells #[.slice (some ⟨gb,0,none⟩) n n] 68)).alloc (.cells #[.slice (some ⟨gm,0,none⟩) n n] 68))=W0 at *
 have c0_0_0:=ceL k0 0 _ rfl
 have c0_0_1:=ceL k0 1 _ rfl
 have c0_0_2:=ceL k0 2 _ rfl
 have c0_0_3:=ceL k0 3 _ rfl
 have c0_0_4:=ceL k0 4 _ rfl
 have c0_0_5:=ceL k0 5 _ rfl
 have c0_0_6:=ceL k0 6 _ rfl
 have c0_0_7:=ceL k0 7 _ rfl
 have c0_0_8:=ceL k0 8 _ rfl
 have c0_0_9:=ceL k0 9 _ rfl
 have c0_0_10:=ceL k0 10 _ rfl
 have l0_0:w.heap.size<W0.heap.size:=by omega
 have f0_0:∀ j,W0.frozen? ⟨w.heap.size,j,none⟩=false:=fun j=>by simp[World.frozen?,k0]
 have K0_0:=zAa k0
 have c0_1_0:=ceL k1 0 _ rfl
 have l0_1:w.heap.size+1<W0.heap.size:=by omega
 have f0_1:∀ j,W0.frozen? ⟨w.heap.size+1,j,none⟩=false:=fun j=>by simp[World.frozen?,k1]
 have K0_1:=zAa k1
 have c0_2_0:=ceL k2 0 _ rfl
 have l0_2:w.heap.size+2<W0.heap.size:=by omega
 have f0_2:∀ j,W0.frozen? ⟨w.heap.size+2,j,none⟩=false:=fun j=>by simp[World.frozen?,k2]
 have K0_2:=zAa k2
 have hsq0:w.heap.size+3≤W0.heap.size:=by omega
 clear hE hsz k0 k1 k2
 go_upto_region 4 with (first
  | (go_at_call 121;refine (zFy (FA.mk n (.slice x n c) g1 g2 g3 g4 g5 g6 g7 g8 g9) f gr _ gb _ gm _ _ (HF.out.below B0_0.out) (Rr.out.below B0_0.out) (Rb.out.below B0_0.out) (Rm.out.below B0_0.out)).mono ?_;rintro e w0_1 ⟨q0_1,rfl,hq0_1,hb0_1⟩;have B0_1:Hid (Below W0.heap.size W0 w0_1):=zAm B0_0.out (Nat.le_refl _) hb0_1;have c1_1_0:=cfL B0_1.out l0_0 c0_0_0;have c1_1_1:=cfL B0_1.out l0_0 c0_0_1;have c1_1_2:=cfL B0_1.out l0_0 c0_0_2;have c1_1_3:=cfL B0_1.out l0_0 c0_0_3;have c1_1_4:=cfL B0_1.out l0_0 c0_0_4;have c1_1_5:=cfL B0_1.out l0_0 c0_0_5;have c1_1_6:=cfL B0_1.out l0_0 c0_0_6;have c1_1_7:=cfL B0_1.out l0_0 c0_0_7;have c1_1_8:=cfL B0_1.out l0_0 c0_0_8;have c1_1_9:=cfL B0_1.out l0_0 c0_0_9;have c1_1_10:=cfL B0_1.out l0_0 c0_0_10;have c1_1_11:=cfL B0_1.out l0_1 c0_1_0;have c1_1_12:=cfL B0_1.out l0_2 c0_2_0;have Q0_1:=zAa hq0_1;clear hq0_1)
  | (go_at_call 120;refine (zCG (FA.mk n (.slice x n c) g1 g2 g3 g4 g5 g6 g7 g8 g9) f gm _ gb _ _ (HF.out.below (Below.refl _ _)) (Rm.out.below (Below.refl _ _)) (Rb.out.below (Below.refl _ _))).mono ?_;rintro e w0_0 ⟨rfl,hb0_0⟩;(try rw[h1]);have B0_0:Hid (Below W0.heap.size W0 w0_0):=hb0_0;have c1_0_0:=cfL B0_0.out l0_0 c0_0_0;have c1_0_1:=cfL B0_0.out l0_0 c0_0_1;have c1_0_2:=cfL B0_0.out l0_0 c0_0_2;have c1_0_3:=cfL B0_0.out l0_0 c0_0_3;have c1_0_4:=cfL B0_0.out l0_0 c0_0_4;have c1_0_5:=cfL B0_0.out l0_0 c0_0_5;have c1_0_6:=cfL B0_0.out l0_0 c0_0_6;have c1_0_7:=cfL B0_0.out l0_0 c0_0_7;have c1_0_8:=cfL B0_0.out l0_0 c0_0_8;have c1_0_9:=cfL B0_0.out l0_0 c0_0_9;have c1_0_10:=cfL B0_0.out l0_0 c0_0_10;have c1_0_11:=cfL B0_0.out l0_1 c0_1_0;have c1_0_12:=cfL B0_0.out l0_2 c0_2_0;skip))
 have k1_n:=heap_alloc_new w0_1 (.cells #[.slice (some ⟨q0_1,0,none⟩) n n] 68)
 have BX:Below W0.heap.size W0 (w0_1.alloc (.cells #[.slice (some ⟨q0_1,0,none⟩) n n] 68)):=B0_1.out.alloc B0_1.out.size _
 have hsq1:=B0_1.out.size
 have hwz:=BX.size
 have HF1:=zAa (HF.out.below BX)
 have R1_0:=zAa (Rr.out.below BX)
 have R1_1:=zAa (Rb.out.below BX)
 have R1_2:=zAa (Rm.out.below BX)
 have R1_3:=zAa (Q0_1.out.below ((Below.refl _ _).alloc (Nat.le_refl _) (.cells #[.slice (some ⟨q0_1,0,none⟩) n n] 68)))
 have BW1:=zAa (zAm BW0.out (Nat.le_refl _) BX)
 have d1_0:=cfL BX l0_0 c0_0_0
 have d1_1:=cfL BX l0_0 c0_0_1
 have d1_2:=cfL BX l0_0 c0_0_2
 have d1_3:=cfL BX l0_0 c0_0_3
 have d1_4:=cfL BX l0_0 c0_0_4
 have d1_5:=cfL BX l0_0 c0_0_5
 have d1_6:=cfL BX l0_0 c0_0_6
 have d1_7:=cfL BX l0_0 c0_0_7
 have d1_8:=cfL BX l0_0 c0_0_8
 have d1_9:=cfL BX l0_0 c0_0_9
 have d1_10:=cfL BX l0_0 c0_0_10
 have d1_11:=cfL BX l0_1 c0_1_0
 have d1_12:=cfL BX l0_2 c0_2_0
 have f1_0:∀ j,(w0_1.alloc (.cells #[.slice (some ⟨q0_1,0,none⟩) n n] 68)).frozen? ⟨w.heap.size,j,none⟩=false:=fun j=>(BX.frozen (p:=⟨w.heap.size,j,none⟩) l0_0).trans (f0_0 j)
 have l1_0:=Nat.lt_of_lt_of_le l0_0 hwz
 have K1_0:=zAa ((BX.block _ l0_0).trans K0_0.out)
 have f1_1:∀ j,(w0_1.alloc (.cells #[.slice (some ⟨q0_1,0,none⟩) n n] 68)).frozen? ⟨w.heap.size+1,j,none⟩=false:=fun j=>(BX.frozen (p:=⟨w.heap.size+1,j,none⟩) l0_1).trans (f0_1 j)
 have l1_1:=Nat.lt_of_lt_of_le l0_1 hwz
 have K1_1:=zAa ((BX.block _ l0_1).trans K0_1.out)
 have f1_2:∀ j,(w0_1.alloc (.cells #[.slice (some ⟨q0_1,0,none⟩) n n] 68)).frozen? ⟨w.heap.size+2,j,none⟩=false:=fun j=>(BX.frozen (p:=⟨w.heap.size+2,j,none⟩) l0_2).trans (f0_2 j)
 have l1_2:=Nat.lt_of_lt_of_le l0_2 hwz
 have K1_2:=zAa ((BX.block _ l0_2).trans K0_2.out)
 have hn1:w0_1.heap.size<(w0_1.alloc (.cells #[.slice (some ⟨q0_1,0,none⟩) n n] 68)).heap.size:=by simp
 clear BX hwz
 generalize hE1:w0_1.alloc (.cells #[.slice (some ⟨q0_1,0,none⟩) n n] 68)=W1 at *
 obtain⟨cn1,fn1,ln1⟩:=zAk k1_n
 have fm1:∀ j,W1.frozen? ⟨w0_1.heap.size,j,none⟩=false:=fun j=>by simp[World.frozen?,k1_n]
 have KN1:=zAa k1_n
 clear k1_n hE1 hn1
 clear c0_0_0 c0_0_1 c0_0_2 c0_0_3 c0_0_4 c0_0_5 c0_0_6 c0_0_7 c0_0_8 c0_0_9 c0_0_10 c0_1_0 c0_2_0
 clear d1_0 d1_1 d1_3 d1_4 d1_6 d1_7 d1_8 d1_9 d1_10 d1_11 d1_12
 clear f1_0 f1_1 f1_2 fm1
 go_region_held3 (fun w'=>w'.cell? ⟨w.heap.size,2,none⟩=some (.slice (some ⟨g2,0,none⟩) n n)∧w'.cell? ⟨w.heap.size,5,none⟩=some (.slice (some ⟨g5,0,none⟩) n n)∧w'.cell? ⟨w0_1.heap.size,0,none⟩=some (.slice (some ⟨q0_1,0,none⟩) n n)) (first | exact⟨d1_2,d1_5,cn1⟩ | exact⟨c2_0_0,c2_0_1,c2_0_2⟩ | exact⟨c2_1_0,c2_1_1,c2_1_2⟩ | exact⟨c2_2_0,c2_2_1,c2_2_2⟩) (first
  | (go_at_call_of 111 (Value.slice (some ⟨q1_1,0,none⟩) n n);refine (zDg q1_1 n _ _ Q1_1.out).mono ?_;rintro e w1_2 ⟨rfl,hb1_2⟩;have B1_2:Hid (Below W1.heap.size W1 w1_2):=zAm B1_1.out (Nat.le_refl _) hb1_2;have c2_2_0:=cfL B1_2.out l1_0 d1_2;have c2_2_1:=cfL B1_2.out l1_0 d1_5;have c2_2_2:=cfL B1_2.out ln1 cn1;skip)
  | (go_at_call_of 67 (Value.slice (some ⟨g5,0,none⟩) n n);refine (zCg g5 q1_0 n _ _ _ (HF1.out.r5.below B1_0.out) Q1_0.out).mono ?_;rintro e w1_1 ⟨q1_1,rfl,hq1_1,hb1_1⟩;have B1_1:Hid (Below W1.heap.size W1 w1_1):=zAm B1_0.out (Nat.le_refl _) hb1_1;have c2_1_0:=cfL B1_1.out l1_0 d1_2;have c2_1_1:=cfL B1_1.out l1_0 d1_5;have c2_1_2:=cfL B1_1.out ln1 cn1;have Q1_1:=zAa hq1_1;clear hq1_1)
  | (go_at_call_of 114 (Value.slice (some ⟨q0_1,0,none⟩) n n);refine (zEt q0_1 g2 n _ _ _ (R1_3.out.below (Below.refl _ _).drew) (HF1.out.r2.below (Below.refl _ _).drew)).mono ?_;rintro e w1_0 ⟨q1_0,rfl,hq1_0,hb1_0⟩;have B1_0:Hid (Below W1.heap.size W1 w1_0):=((Below.refl W1.heap.size W1).drew).trans (hb1_0.mono (by simp));have c2_0_0:=cfL B1_0.out l1_0 d1_2;have c2_0_1:=cfL B1_0.out l1_0 d1_5;have c2_0_2:=cfL B1_0.out ln1 cn1;have Q1_0:=zAa hq1_0;clear hq1_0))
 all_goals
  go_wp2
  go_ret
  exact⟨rfl,zAm BW1.out (Nat.le_refl _) B1_2.out⟩
theorem zEA (a:FA) (f:Q.Facts) (gr:Nat) (rd:List Nat) (gf:Nat) (bf:List Nat) (w:World) (hf:FactsIn w a f) (hr:RelAt w gr a.n rd) (hb:RelAt w gf a.n bf) (pv:Value) (ps:List Int) (hp:zBS w pv ps) (hpl:ps.length=a.n) :
  Calls Tryz.prog 72 #[.agg (zDJ a gr gf),pv] w fun e w'=>e=.returned (.bool (f.mayBe rd bf ps))∧Below w.heap.size w w':=by
 cases h1:Q.loopsR bf with
 | true =>
  have e:f.mayBe rd bf ps=false:=by simp[Q.Facts.mayBe,h1]
  rw[e];exact zKS a f gr rd gf bf w hf hr hb pv ps hp hpl h1
 | false =>
  cases h2:f.splits (Q.thenR rd (Q.zOn f.events ps)) (Q.zOn f.events ps) with
  | true =>
   have e:f.mayBe rd bf ps=false:=by simp[Q.Facts.mayBe,h1,h2]
   rw[e];exact zKT a f gr rd gf bf w hf hr hb pv ps hp hpl h1 h2
  | false =>
   cases h3:Q.loopsR (Q.thenR bf (Q.zQw rd (Q.zOn f.events ps))) with
   | true =>
    have e:f.mayBe rd bf ps=false:=by simp[Q.Facts.mayBe,h1,h2,h3]
    rw[e];exact zKU a f gr rd gf bf w hf hr hb pv ps hp hpl h1 h2 h3
   | false =>
    have e:f.mayBe rd bf ps=!f.fencesCircle bf (Q.zQw rd (Q.zOn f.events ps)):=by simp[Q.Facts.mayBe,h1,h2,h3]
    rw[e];exact zKV a f gr rd gf bf w hf hr hb pv ps hp hpl h1 h2 h3
theorem zDT (a:FA) (f:Q.Facts) (gr:Nat) (rd:List Nat) (gc:Nat) (cs:List Nat) (gf:Nat) (fb:List Nat) (w:World) (hf:FactsIn w a f) (hr:RelAt w gr a.n rd) (hc:RelAt w gc a.n cs) (hk:RelAt w gf a.n fb) :
  Calls Tryz.prog 93 #[.agg (zCF a gr),.agg #[.slice (some ⟨gc,0,none⟩) a.n a.n],.agg #[.slice (some ⟨gf,0,none⟩) a.n a.n]] w fun e w'=>e=.returned (.bool (Q.zOI rd cs fb))∧Below w.heap.size w w':=by
 cases h1:Q.loopsR cs with
 | true =>
  have e:Q.zOI rd cs fb=false:=by simp[Q.zOI,h1]
  rw[e];exact zIi a f gr rd gc cs gf fb w hf hr hc hk h1
 | false =>
  cases h2:Q.loopsR (Q.thenR fb cs) with
  | true =>
   have e:Q.zOI rd cs fb=false:=by simp[Q.zOI,h1,h2]
   rw[e];exact zIj a f gr rd gc cs gf fb w hf hr hc hk h1 h2
  | false =>
   have e:Q.zOI rd cs fb=!Q.leadsR (Q.andR rd cs):=by simp[Q.zOI,h1,h2]
   rw[e];exact zIk a f gr rd gc cs gf fb w hf hr hc hk h1 h2
theorem zDU (a:FA) (f:Q.Facts) (gr:Nat) (rd:List Nat) (gb:Nat) (bh:List Nat) (gm:Nat) (ms:List Nat) (w:World) (hf:FactsIn w a f) (hr:RelAt w gr a.n rd) (hb:RelAt w gb a.n bh) (hm:RelAt w gm a.n ms) :
  Calls Tryz.prog 96 #[.agg (zCF a gr),.agg #[.slice (some ⟨gb,0,none⟩) a.n a.n],.agg #[.slice (some ⟨gm,0,none⟩) a.n a.n]] w fun e w'=>e=.returned (.bool (f.mayStand rd bh ms))∧Below w.heap.size w w':=by
 cases h1:f.splits ms bh with
 | true =>
  have e:f.mayStand rd bh ms=false:=by simp[Q.Facts.mayStand,h1]
  rw[e];exact zIl a f gr rd gb bh gm ms w hf hr hb hm h1
 | false =>
  have e:f.mayStand rd bh ms=!Q.circlesR (Q.orR f.rows (Q.andR (Q.zOH rd bh ms) f.strong)):=by simp[Q.Facts.mayStand,h1]
  rw[e];exact zIm a f gr rd gb bh gm ms w hf hr hb hm h1
theorem zEB (a:FA) (f:Q.Facts) (gb:Nat) (bf:List Nat) (w:World) (hf:FactsIn w a f) (hb:RelAt w gb a.n bf) :
  Calls Tryz.prog 75 #[.agg (zAp a),.agg #[.slice (some ⟨gb,0,none⟩) a.n a.n]] w fun e w'=>e=.returned (.bool (f.clashes bf))∧Below w.heap.size w w':=by
 have HFE:Hid (f.clashes bf=(List.range a.n).any fun i=>(List.range a.n).any fun k=>f.clashAt bf i k):=by unfold Hid Q.Facts.clashes;rw[hf.len]
 obtain⟨x,c,hev,hx⟩:=hf.form
 have hn64:=hf.n64
 have hln:=hf.len
 obtain⟨n,ev,g1,g2,g3,g4,g5,g6,g7,g8,g9⟩:=a
 simp only at hev hn64 hln hx
 subst hev
 simp only[zAp]
 simp only at HFE hb
 have HEV:=zAa hf.ev
 obtain⟨k0,k1,hsz,hbw⟩:=zBN w #[.slice x n c,.slice (some ⟨g1,0,none⟩) n n,.slice (some ⟨g2,0,none⟩) n n,.slice (some ⟨g3,0,none⟩) n n,.slice (some ⟨g4,0,none⟩) n n,.slice (some ⟨g5,0,none⟩) n n,.slice (some ⟨g6,0,none⟩) n n,.slice (some ⟨g7,0,none⟩) n n,.slice (some ⟨g8,0,none⟩) n n,.slice (some ⟨g9,0,none⟩) n n] #[.slice (some ⟨gb,0,none⟩) n n] 70 68
 have HF:=zAa (hf.below hbw)
 have RB:=zAa (hb.below hbw)
 have BW0:=zAa hbw
 clear hbw hf hb
 go_enter Tryz.func75,Tryz.ntmps75
 go_upto_region 1 with fail
 generalize hE:(w.alloc (.cells #[.slice x n c,.slice (some ⟨g1,0,none⟩) n n,.slice (some ⟨g2,0,none⟩) n n,.slice (some ⟨g3,0,none⟩) n n,.slice (some ⟨g4,0,none⟩) n n,.slice (some ⟨g5,0,none⟩) n n,.slice (some ⟨g6,0,none⟩) n n,.slice (some ⟨g7,0,none⟩) n n,.slice (some ⟨g8,0,none⟩) n n,.slice (some ⟨g9,0,none⟩) n n] 70)).alloc (.cells #[.slice (some ⟨gb,0,none⟩) n n] 68)=W0 at *
 have c00:=ceL k0 0 _ rfl
 obtain⟨c1,f1,l1⟩:=zAk k1
 have l0:w.heap.size<W0.heap.size:=by omega
 have K0:=zAa k0
 clear hE k0 k1 f1
 go_wp2
 go_loopw [12] (fun i wr=>∃ (k:Nat),k≤n∧i=.int .i64 k∧Hid ((List.range k).any (fun i=>(List.range n).any fun k=>f.clashAt bf i k)=false)∧Hid (Below W0.heap.size W0 wr)) (fun i _=>n-(intOf i).toNat)
 case atStart=>exact⟨0,Nat.zero_le _,rfl,by simp[Hid],Below.refl _ _⟩
 case round =>
  obtain⟨k,hk,rfl,HT,HI⟩:=hrel
  have d00:=cfL HI.out l0 c00
  have l0w:=Nat.lt_of_lt_of_le l0 HI.out.size
  by_cases hlt:k<n
  ·have hin:(k:Int)<(n:Int):=by omega
   obtain⟨be,rfl,hbe⟩:=hx (by omega)
   have hbeW:be<W0.heap.size:=by omega
   have HR1:Hid (wr.rangeAt be (k*10) (zAd (Q.ev f.events k)).toList):=zAy (HEV.out.range' hln.symm k (by omega)) ((HI.out.block be hbeW).trans (BW0.out.block be hbe))
   have HTS:=zAa (Q.zOP (fun i=>(List.range n).any fun k=>f.clashAt bf i k) k)
   have HBP:Hid (∀ q,f.clashAt bf k q=(f.mayClash k (Q.ev f.events k) q (Q.ev f.events q)&&!Q.hasR bf k q&&!Q.hasR bf q k)):=fun q=>rfl
   generalize Q.ev f.events k=e1 at *
   have HA1:Hid (zAV (wr.alloc (.cells (zAd e1) 158)) wr.heap.size e1):=zAV.new wr e1
   have HF1:Hid (Below W0.heap.size W0 (wr.alloc (.cells (zAd e1) 158))):=HI.out.alloc HI.out.size _
   go_wp2_with (first | (refine zAi (.tmp 15) rfl rfl be (k*10) e1 rfl HR1.out ?_))
   go_loopw [20] (fun j wq=>∃ (q:Nat),q≤n∧j=.int .i64 q∧Hid ((List.range q).any (fun j=>f.clashAt bf k j)=false)∧Hid (Below W0.heap.size W0 wq)∧Hid (zAV wq wr.heap.size e1)) (fun j _=>n-(intOf j).toNat)
   case atStart=>exact⟨0,Nat.zero_le _,rfl,by simp[Hid],HF1,HA1⟩
   case round =>
    clear d00 HF1 HA1 HR1 l0w
    obtain⟨q,hq,rfl,HU,HJ,HA⟩:=hrel
    by_cases hql:q<n
    ·have hqi:(q:Int)<(n:Int):=by omega
     have HR2:Hid (wr.rangeAt be (q*10) (zAd (Q.ev f.events q)).toList):=zAy (HEV.out.range' hln.symm q (by omega)) ((HJ.out.block be hbeW).trans (BW0.out.block be hbe))
     have HUS:=zAa (Q.zOP (fun j=>f.clashAt bf k j) q)
     have HBQ:=zAa (HBP.out q)
     generalize Q.ev f.events q=e2 at *
     have HF2:Hid (Below W0.heap.size W0 (wr.alloc (.cells (zAd e2) 158))):=HJ.out.alloc HJ.out.size _
     have HA2:=zAa (HA.out.alloc (.cells (zAd e2) 158))
     have HA3:=zAa (zAV.new wr e2)
     have HRB:=zAa (RB.out.below HF2.out)
     have HFF:=zAa (HF.out.below HF2.out)
     have hK0:=(HF2.out.block _ l0).trans K0.out
     have l0v:=Nat.lt_of_lt_of_le l0 HF2.out.size
     have l1v:=Nat.lt_of_lt_of_le l1 HF2.out.size
     have d1:=cfL HF2.out l1 c1
     have dd0:(wr.alloc (.cells (zAd e2) 158)).cell? ⟨w.heap.size,0,none⟩=some (.slice (some ⟨be,0,none⟩) n c):=by simp only[World.cell?,hK0];rfl
     have dd1:(wr.alloc (.cells (zAd e2) 158)).cell? ⟨w.heap.size,1,none⟩=some (.slice (some ⟨g1,0,none⟩) n n):=by simp only[World.cell?,hK0];rfl
     have dd2:(wr.alloc (.cells (zAd e2) 158)).cell? ⟨w.heap.size,2,none⟩=some (.slice (some ⟨g2,0,none⟩) n n):=by simp only[World.cell?,hK0];rfl
     have dd3:(wr.alloc (.cells (zAd e2) 158)).cell? ⟨w.heap.size,3,none⟩=some (.slice (some ⟨g3,0,none⟩) n n):=by simp only[World.cell?,hK0];rfl
     have dd4:(wr.alloc (.cells (zAd e2) 158)).cell? ⟨w.heap.size,4,none⟩=some (.slice (some ⟨g4,0,none⟩) n n):=by simp only[World.cell?,hK0];rfl
     have dd5:(wr.alloc (.cells (zAd e2) 158)).cell? ⟨w.heap.size,5,none⟩=some (.slice (some ⟨g5,0,none⟩) n n):=by simp only[World.cell?,hK0];rfl
     have dd6:(wr.alloc (.cells (zAd e2) 158)).cell? ⟨w.heap.size,6,none⟩=some (.slice (some ⟨g6,0,none⟩) n n):=by simp only[World.cell?,hK0];rfl
     have dd7:(wr.alloc (.cells (zAd e2) 158)).cell? ⟨w.heap.size,7,none⟩=some (.slice (some ⟨g7,0,none⟩) n n):=by simp only[World.cell?,hK0];rfl
     have dd8:(wr.alloc (.cells (zAd e2) 158)).cell? ⟨w.heap.size,8,none⟩=some (.slice (some ⟨g8,0,none⟩) n n):=by simp only[World.cell?,hK0];rfl
     have dd9:(wr.alloc (.cells (zAd e2) 158)).cell? ⟨w.heap.size,9,none⟩=some (.slice (some ⟨g9,0,none⟩) n n):=by simp only[World.cell?,hK0];rfl
     obtain⟨x0,x1,x2,x3,x4,x5,x6,x7,x8,x9,xf,xl⟩:=HA2.out.facts
     obtain⟨y0,y1,y2,y3,y4,y5,y6,y7,y8,y9,yf,yl⟩:=HA3.out.facts
     simp only[zAd] at x0 x1 x2 x3 x4 x5 x6 x7 x8 x9 xf xl y0 y1 y2 y3 y4 y5 y6 y7 y8 y9 yf yl d1 l0v l1v dd0 dd1 dd2 dd3 dd4 dd5 dd6 dd7 dd8 dd9
     clear hK0
     cases z1:f.mayClash k e1 q e2
     ·have HUN:Hid ((List.range (q+1)).any (fun j=>f.clashAt bf k j)=false):=by unfold Hid;rw[HUS.out,HU.out,HBQ.out,z1];rfl
      go_wp2_with (first | (refine zAi (.tmp 23) rfl rfl be (q*10) e2 rfl HR2.out ?_) | (go_at_call 127;refine (zCq (FA.mk n (.slice (some ⟨be,0,none⟩) n c) g1 g2 g3 g4 g5 g6 g7 g8 g9) f k q e1 e2 _ HFF.out).mono ?_;rintro e v1 ⟨rfl,hb1⟩;rw[z1];have B1:Hid (Below W0.heap.size W0 v1):=zAm HF2.out (Nat.le_refl _) hb1;have HA4:=zAa (HA2.out.below hb1);have p1:=cfL B1.out l1 c1;have q1:=Nat.lt_of_lt_of_le l1 B1.out.size))
      go_roundw
      case rel=>exact⟨q+1,by omega,by go_num,HUN,B1,HA4⟩
      case measure=>simp[intOf];omega
     cases z2:Q.hasR bf (k:Int) (q:Int)
     rotate_left
     ·have HUN:Hid ((List.range (q+1)).any (fun j=>f.clashAt bf k j)=false):=by unfold Hid;rw[HUS.out,HU.out,HBQ.out,z1,z2];rfl
      go_wp2_with (first | (refine zAi (.tmp 23) rfl rfl be (q*10) e2 rfl HR2.out ?_) | (go_at_call 127;refine (zCq (FA.mk n (.slice (some ⟨be,0,none⟩) n c) g1 g2 g3 g4 g5 g6 g7 g8 g9) f k q e1 e2 _ HFF.out).mono ?_;rintro e v1 ⟨rfl,hb1⟩;rw[z1];have B1:Hid (Below W0.heap.size W0 v1):=zAm HF2.out (Nat.le_refl _) hb1;have HA4:=zAa (HA2.out.below hb1);have p1:=cfL B1.out l1 c1;have q1:=Nat.lt_of_lt_of_le l1 B1.out.size) | (go_at_call_of 112 (Value.int IntKind.i64 (k:Int));refine (zBJ gb n bf (k:Int) (q:Int) _ (HRB.out.below hb1)).mono ?_;rintro e v2 ⟨rfl,hb2⟩;rw[z2];have B2:Hid (Below W0.heap.size W0 v2):=zAm B1.out (Nat.le_refl _) hb2;have HA5:=zAa (HA4.out.below hb2);have p2:=cfL B2.out l1 c1;have q2:=Nat.lt_of_lt_of_le l1 B2.out.size))
      go_roundw
      case rel=>exact⟨q+1,by omega,by go_num,HUN,B2,HA5⟩
      case measure=>simp[intOf];omega
     cases z3:Q.hasR bf (q:Int) (k:Int)
     rotate_left
     ·have HUN:Hid ((List.range (q+1)).any (fun j=>f.clashAt bf k j)=false):=by unfold Hid;rw[HUS.out,HU.out,HBQ.out,z1,z2,z3];rfl
      go_wp2_with (first | (refine zAi (.tmp 23) rfl rfl be (q*10) e2 rfl HR2.out ?_) | (go_at_call 127;refine (zCq (FA.mk n (.slice (some ⟨be,0,none⟩) n c) g1 g2 g3 g4 g5 g6 g7 g8 g9) f k q e1 e2 _ HFF.out).mono ?_;rintro e v1 ⟨rfl,hb1⟩;rw[z1];have B1:Hid (Below W0.heap.size W0 v1):=zAm HF2.out (Nat.le_refl _) hb1;have HA4:=zAa (HA2.out.below hb1);have p1:=cfL B1.out l1 c1;have q1:=Nat.lt_of_lt_of_le l1 B1.out.size) | (go_at_call 112;refine (zBJ gb n bf (q:Int) (k:Int) _ ((HRB.out.below hb1).below hb2)).mono ?_;rintro e v3 ⟨rfl,hb3⟩;rw[z3];have B3:Hid (Below W0.heap.size W0 v3):=zAm B2.out (Nat.le_refl _) hb3;have HA6:=zAa (HA5.out.below hb3)) | (go_at_call_of 112 (Value.int IntKind.i64 (k:Int));refine (zBJ gb n bf (k:Int) (q:Int) _ (HRB.out.below hb1)).mono ?_;rintro e v2 ⟨rfl,hb2⟩;rw[z2];have B2:Hid (Below W0.heap.size W0 v2):=zAm B1.out (Nat.le_refl _) hb2;have HA5:=zAa (HA4.out.below hb2);have p2:=cfL B2.out l1 c1;have q2:=Nat.lt_of_lt_of_le l1 B2.out.size))
      go_roundw
      case rel=>exact⟨q+1,by omega,by go_num,HUN,B3,HA6⟩
      case measure=>simp[intOf];omega
     ·have HV:Hid (f.clashes bf=true):=by
       unfold Hid
       rw[HFE.out]
       refine Q.zOQ _ (k+1) n hlt ?_
       rw[HTS.out,Q.zOQ (fun j=>f.clashAt bf k j) (q+1) n hql (by rw[HUS.out,HBQ.out,z1,z2,z3];simp)];simp
      go_wp2_with (first | (refine zAi (.tmp 23) rfl rfl be (q*10) e2 rfl HR2.out ?_) | (go_at_call 127;refine (zCq (FA.mk n (.slice (some ⟨be,0,none⟩) n c) g1 g2 g3 g4 g5 g6 g7 g8 g9) f k q e1 e2 _ HFF.out).mono ?_;rintro e v1 ⟨rfl,hb1⟩;rw[z1];have B1:Hid (Below W0.heap.size W0 v1):=zAm HF2.out (Nat.le_refl _) hb1;have HA4:=zAa (HA2.out.below hb1);have p1:=cfL B1.out l1 c1;have q1:=Nat.lt_of_lt_of_le l1 B1.out.size) | (go_at_call 112;refine (zBJ gb n bf (q:Int) (k:Int) _ ((HRB.out.below hb1).below hb2)).mono ?_;rintro e v3 ⟨rfl,hb3⟩;rw[z3];have B3:Hid (Below W0.heap.size W0 v3):=zAm B2.out (Nat.le_refl _) hb3;have HA6:=zAa (HA5.out.below hb3)) | (go_at_call_of 112 (Value.int IntKind.i64 (k:Int));refine (zBJ gb n bf (k:Int) (q:Int) _ (HRB.out.below hb1)).mono ?_;rintro e v2 ⟨rfl,hb2⟩;rw[z2];have B2:Hid (Below W0.heap.size W0 v2):=zAm B1.out (Nat.le_refl _) hb2;have HA5:=zAa (HA4.out.below hb2);have p2:=cfL B2.out l1 c1;have q2:=Nat.lt_of_lt_of_le l1 B2.out.size))
      go_ret
      rw[HV.out];exact⟨rfl,zAm BW0.out (Nat.le_refl _) B3.out⟩
    ·have HN2:Hid ((List.range (k+1)).any (fun i=>(List.range n).any fun k=>f.clashAt bf i k)=false):=by
      have h1:=HU.out
      rw[show q=n by omega] at h1
      unfold Hid;rw[HTS.out,HT.out,h1];rfl
     go_wp2
     go_roundw
     case rel=>exact⟨k+1,by omega,by go_num,HN2,HJ⟩
     case measure=>simp[intOf];omega
  ·have hkn:k=n:=by omega
   have HV:Hid (f.clashes bf=false):=by unfold Hid;rw[HFE.out,← hkn];have h1:=HT.out;rw[← hkn] at h1;exact h1
   go_wp2
   go_ret
   rw[HV.out];exact⟨rfl,zAm BW0.out (Nat.le_refl _) HI.out⟩
end Go.Proofs.YtgceflcbckjjiaaGreatDoor
