import Derived.Test.YtgceflcbckjjiaaGreatDoorD34
set_option linter.unusedVariables false
set_option linter.unusedSimpArgs false
set_option maxHeartbeats 12800000
namespace Go.Proofs.YtgceflcbckjjiaaGreatDoor
open Go Go.RowKit
set_option maxRecDepth 100000
theorem zDx (a:FA) (f:Q.Facts) (gr:Nat) (rd:List Nat) (gf:Nat) (bf:List Nat) (gl:Nat) (lk:List Nat) (w:World) (hf:FactsIn w a f) (hr:RelAt w gr a.n rd) (hb:RelAt w gf a.n bf) (hl:RelAt w gl a.n lk) :
  Calls Tryz.prog 122 #[.agg (zDi a gr gf),.agg #[.slice (some ⟨gl,0,none⟩) a.n a.n]] w fun e w'=>e=.returned (.bool (f.fencesCircle bf lk))∧Below w.heap.size w w':=by
 obtain⟨x,c,hev,_⟩:=hf.form
 obtain⟨n,ev,g1,g2,g3,g4,g5,g6,g7,g8,g9⟩:=a
 simp only at hev hr hb hl
 subst hev
 simp only[zAn,zDi]
 obtain⟨k0,k1,hsz,hbw⟩:=zCd w #[.slice x n c,.slice (some ⟨g1,0,none⟩) n n,.slice (some ⟨g2,0,none⟩) n n,.slice (some ⟨g3,0,none⟩) n n,.slice (some ⟨g4,0,none⟩) n n,.slice (some ⟨g5,0,none⟩) n n,.slice (some ⟨g6,0,none⟩) n n,.slice (some ⟨g7,0,none⟩) n n,.slice (some ⟨g8,0,none⟩) n n,.slice (some ⟨g9,0,none⟩) n n,.slice (some ⟨gr,0,none⟩) n n,.slice (some ⟨gf,0,none⟩) n n] #[.slice (some ⟨gl,0,none⟩) n n] 84 68
 have HF:=zAa (hf.below hbw)
 have Rr:=zAa (hr.below hbw)
 have Rb:=zAa (hb.below hbw)
 have Rl:=zAa (hl.below hbw)
 have BW0:=zAa hbw
 clear hbw hf hr hb hl
 go_enter Tryz.func122,Tryz.ntmps122
 go_upto_region 1 with fail
 generalize hE:((w.alloc (.cells #[.slice x n c,.slice (some ⟨g1,0,none⟩) n n,.slice (some ⟨g2,0,none⟩) n n,.slice (some ⟨g3,0,none⟩) n n,.slice (some ⟨g4,0,none⟩) n n,.slice (some ⟨g5,0,none⟩) n n,.slice (some ⟨g6,0,none⟩) n n,.slice (some ⟨g7,0,none⟩) n n,.slice (some ⟨g8,0,none⟩) n n,.slice (some ⟨g9,0,none⟩) n n,.slice (some ⟨gr,0,none⟩) n n,.slice (some ⟨gf,0,none⟩) n n] 84)).alloc (.cells #[.slice (some ⟨gl,0,none⟩) n n] 68))=W0 at *
 have c0_0_0:=ceL k0 0 _ rfl
 have c0_0_1:=ceL k0 1 _ rfl
 have c0_0_2:=ceL k0 2 _ rfl
 have c0_0_3:=ceL k0 3 _ rfl
 have c0_0_4:=ceL k0 4 _ rfl
 have c0_0_5:=ceL k0 5 _ rfl
 have c0_0_6:=ceL k0 6 _ rfl
 have c0_0_7:=ceL k0 7 _ rfl
 have c0_0_8:=ceL k0 8 _ rfl
 have c0_0_9:=ceL k0 9 _ rfl
 have c0_0_10:=ceL k0 10 _ rfl
 have c0_0_11:=ceL k0 11 _ rfl
 have l0_0:w.heap.size<W0.heap.size:=by omega
 have f0_0:∀ j,W0.frozen? ⟨w.heap.size,j,none⟩=false:=fun j=>by simp[World.frozen?,k0]
 have K0_0:=zAa k0
 have c0_1_0:=ceL k1 0 _ rfl
 have l0_1:w.heap.size+1<W0.heap.size:=by omega
 have f0_1:∀ j,W0.frozen? ⟨w.heap.size+1,j,none⟩=false:=fun j=>by simp[World.frozen?,k1]
 have K0_1:=zAa k1
 have hsq0:w.heap.size+2≤W0.heap.size:=by omega
 clear hE hsz k0 k1
 go_cut [5] from 6 to 12 (fun p wx=>∃ gx qx,p=.pointer (some ⟨gx,0,none⟩)∧wx.heap[gx]?=some (.cells #[.slice (some ⟨qx,0,none⟩) n n] 68 (0,0))∧RelAt wx qx n (Q.thenR (Q.thenR bf lk) bf)∧Below W0.heap.size W0 wx∧W0.heap.size≤gx)
 case first =>
  clear c0_0_0 c0_0_1 c0_0_2 c0_0_3 c0_0_4 c0_0_5 c0_0_6 c0_0_7 c0_0_8 c0_0_9 c0_0_10 f0_0 f0_1
  have hgeW:=Nat.le_refl W0.heap.size
  go_region_held3 (fun w'=>w'.cell? ⟨w.heap.size,11,none⟩=some (.slice (some ⟨gf,0,none⟩) n n)∧w'.cell? ⟨w.heap.size+1,0,none⟩=some (.slice (some ⟨gl,0,none⟩) n n)) (first | exact⟨c0_0_11,c0_1_0⟩ | exact⟨(zAD l0_0).trans c0_0_11,(zAD l0_1).trans c0_1_0⟩ | exact⟨c1_0_0,c1_0_1⟩ | exact⟨(zAD e1_0_0).trans c1_0_0,(zAD e1_0_1).trans c1_0_1⟩ | exact⟨c1_1_0,c1_1_1⟩ | exact⟨(zAD e1_1_0).trans c1_1_0,(zAD e1_1_1).trans c1_1_1⟩ | exact⟨(zAh (by omega)).trans c1_1_0,(zAh (by omega)).trans c1_1_1⟩) (first
   | (go_at_call_of 113 (Value.slice (some ⟨q0_0,0,none⟩) n n);refine (zBF q0_0 gf n _ _ _ (by first | exact Q0_0.out | exact Q0_0.out.below ((Below.refl _ _).alloc (Nat.le_refl _) _)) (Rb.out.below (by first | exact B0_0.out | exact B0_0.out.alloc B0_0.out.size _))).mono ?_;rintro e w0_1 ⟨q0_1,rfl,hq0_1,hb0_1⟩;have B0_1:Hid (Below W0.heap.size W0 w0_1):=(by first | exact zAr B0_0.out (Nat.le_refl _) hb0_1 | exact zAr (B0_0.out.alloc B0_0.out.size _) (Nat.le_refl _) hb0_1);have c1_1_0:=cfL B0_1.out l0_0 c0_0_11;have c1_1_1:=cfL B0_1.out l0_1 c0_1_0;have e1_1_0:=Nat.lt_of_lt_of_le l0_0 B0_1.out.size;have e1_1_1:=Nat.lt_of_lt_of_le l0_1 B0_1.out.size;(try (have bx1:w0_1.cell? ⟨w0_0.heap.size,0,none⟩=some (.slice none 0 0)∧w0_1.frozen? ⟨w0_0.heap.size,0,none⟩=false∧w0_1.heap[w0_0.heap.size]?=some (.cells #[.slice none 0 0] 68 (0,0)):=(by first | exact zDr hb0_1 | exact zDr (w:=w0_0.drew) hb0_1)));(try (have by1_0:w0_1.cell? ⟨W0.heap.size,0,none⟩=some (.slice none 0 0)∧w0_1.frozen? ⟨W0.heap.size,0,none⟩=false∧w0_1.heap[W0.heap.size]?=some (.cells #[.slice none 0 0] 68 (0,0)):=zIw hb0_1 bx0));(try have bc:=bx1.1);(try have bf:=bx1.2.1);(try have bc:=by1_0.1);(try have bf:=by1_0.2.1);have Q0_1:=zAa hq0_1;clear hq0_1)
   | (go_at_call_of 113 (Value.slice (some ⟨gf,0,none⟩) n n);refine (zBF gf gl n _ _ _ (Rb.out.below (by first | exact (Below.refl _ _).drew | exact ((Below.refl _ _).drew).alloc (by simp) _)) (Rl.out.below (by first | exact (Below.refl _ _).drew | exact ((Below.refl _ _).drew).alloc (by simp) _))).mono ?_;rintro e w0_0 ⟨q0_0,rfl,hq0_0,hb0_0⟩;have B0_0:Hid (Below W0.heap.size W0 w0_0):=(by first | exact ((Below.refl W0.heap.size W0).drew).trans (hb0_0.mono (by simp)) | exact (((Below.refl W0.heap.size W0).drew).alloc (by simp) _).trans (hb0_0.mono (by simp)));have c1_0_0:=cfL B0_0.out l0_0 c0_0_11;have c1_0_1:=cfL B0_0.out l0_1 c0_1_0;have e1_0_0:=Nat.lt_of_lt_of_le l0_0 B0_0.out.size;have e1_0_1:=Nat.lt_of_lt_of_le l0_1 B0_0.out.size;(try (have bx0:w0_0.cell? ⟨W0.heap.size,0,none⟩=some (.slice none 0 0)∧w0_0.frozen? ⟨W0.heap.size,0,none⟩=false∧w0_0.heap[W0.heap.size]?=some (.cells #[.slice none 0 0] 68 (0,0)):=(by first | exact zDr hb0_0 | exact zDr (w:=W0.drew) hb0_0)));(try have bc:=bx0.1);(try have bf:=bx0.2.1);have Q0_0:=zAa hq0_0;clear hq0_0))
  all_goals
   (try go_wp2)
   go_meet
   case rel=>first | exact zGj B0_1.out Q0_1.out | exact zDC B0_1.out hgeW Q0_1.out by1_0.2.2 | exact zDC B0_1.out B0_0.out.size Q0_1.out bx1.2.2
 case rest =>
 obtain⟨gx1,qx1,rfl,kx1,hqx1,hbx1,hgx1⟩:=hcut
 have HF1:=zAa (HF.out.below hbx1)
 have R1_0:=zAa (Rr.out.below hbx1)
 have R1_1:=zAa (Rb.out.below hbx1)
 have R1_2:=zAa (Rl.out.below hbx1)
 have R1_3:=zAa hqx1
 have BW1:=zAa (zAr BW0.out (Nat.le_refl _) hbx1)
 have d1_0:=cfL hbx1 l0_0 c0_0_0
 have d1_1:=cfL hbx1 l0_0 c0_0_1
 have d1_2:=cfL hbx1 l0_0 c0_0_2
 have d1_3:=cfL hbx1 l0_0 c0_0_3
 have d1_4:=cfL hbx1 l0_0 c0_0_4
 have d1_5:=cfL hbx1 l0_0 c0_0_5
 have d1_6:=cfL hbx1 l0_0 c0_0_6
 have d1_7:=cfL hbx1 l0_0 c0_0_7
 have d1_8:=cfL hbx1 l0_0 c0_0_8
 have d1_9:=cfL hbx1 l0_0 c0_0_9
 have d1_10:=cfL hbx1 l0_0 c0_0_10
 have d1_11:=cfL hbx1 l0_0 c0_0_11
 have d1_12:=cfL hbx1 l0_1 c0_1_0
 have f1_0:∀ j,wc.frozen? ⟨w.heap.size,j,none⟩=false:=fun j=>(hbx1.frozen (p:=⟨w.heap.size,j,none⟩) l0_0).trans (f0_0 j)
 have l1_0:=Nat.lt_of_lt_of_le l0_0 hbx1.size
 have K1_0:=zAa ((hbx1.block _ l0_0).trans K0_0.out)
 have f1_1:∀ j,wc.frozen? ⟨w.heap.size+1,j,none⟩=false:=fun j=>(hbx1.frozen (p:=⟨w.heap.size+1,j,none⟩) l0_1).trans (f0_1 j)
 have l1_1:=Nat.lt_of_lt_of_le l0_1 hbx1.size
 have K1_1:=zAa ((hbx1.block _ l0_1).trans K0_1.out)
 obtain⟨cn1,fn1,ln1⟩:=zAo kx1
 have KN1:=zAa kx1
 clear kx1 hqx1 hbx1 c0_0_0 c0_0_1 c0_0_2 c0_0_3 c0_0_4 c0_0_5 c0_0_6 c0_0_7 c0_0_8 c0_0_9 c0_0_10 c0_0_11 c0_1_0
 go_upto_region 2 with fail
 clear d1_0 d1_1 d1_2 d1_3 d1_5 d1_6 d1_7 d1_8 d1_9 d1_10 d1_12
 clear f1_0 f1_1 fn1
 go_region_held3 (fun w'=>w'.cell? ⟨w.heap.size,4,none⟩=some (.slice (some ⟨g4,0,none⟩) n n)∧w'.cell? ⟨w.heap.size,11,none⟩=some (.slice (some ⟨gf,0,none⟩) n n)∧w'.cell? ⟨gx1,0,none⟩=some (.slice (some ⟨qx1,0,none⟩) n n)) (first | exact⟨d1_4,d1_11,cn1⟩ | exact⟨c2_0_0,c2_0_1,c2_0_2⟩ | exact⟨c2_1_0,c2_1_1,c2_1_2⟩ | exact⟨c2_2_0,c2_2_1,c2_2_2⟩) (first
  | (go_at_call_of 111 (Value.slice (some ⟨q1_1,0,none⟩) n n);refine (zDO q1_1 n _ _ Q1_1.out).mono ?_;rintro e w1_2 ⟨rfl,hb1_2⟩;have B1_2:Hid (Below wc.heap.size wc w1_2):=zAr B1_1.out (Nat.le_refl _) hb1_2;have c2_2_0:=cfL B1_2.out l1_0 d1_4;have c2_2_1:=cfL B1_2.out l1_0 d1_11;have c2_2_2:=cfL B1_2.out ln1 cn1;skip)
  | (go_at_call_of 114 (Value.slice (some ⟨q1_0,0,none⟩) n n);refine (zFD q1_0 g4 n _ _ _ Q1_0.out (HF1.out.r4.below B1_0.out)).mono ?_;rintro e w1_1 ⟨q1_1,rfl,hq1_1,hb1_1⟩;have B1_1:Hid (Below wc.heap.size wc w1_1):=zAr B1_0.out (Nat.le_refl _) hb1_1;have c2_1_0:=cfL B1_1.out l1_0 d1_4;have c2_1_1:=cfL B1_1.out l1_0 d1_11;have c2_1_2:=cfL B1_1.out ln1 cn1;have Q1_1:=zAa hq1_1;clear hq1_1)
  | (go_at_call_of 67 (Value.slice (some ⟨gf,0,none⟩) n n);refine (zDN gf qx1 n _ _ _ (R1_1.out.below (Below.refl _ _).drew) (R1_3.out.below (Below.refl _ _).drew)).mono ?_;rintro e w1_0 ⟨q1_0,rfl,hq1_0,hb1_0⟩;have B1_0:Hid (Below wc.heap.size wc w1_0):=((Below.refl wc.heap.size wc).drew).trans (hb1_0.mono (by simp));have c2_0_0:=cfL B1_0.out l1_0 d1_4;have c2_0_1:=cfL B1_0.out l1_0 d1_11;have c2_0_2:=cfL B1_0.out ln1 cn1;have Q1_0:=zAa hq1_0;clear hq1_0))
 all_goals
  go_wp2
  go_ret
  exact⟨rfl,zAr BW1.out (Nat.le_refl _) B1_2.out⟩
theorem zDj (a:FA) (f:Q.Facts) (gr:Nat) (rd:List Nat) (gb:Nat) (bh:List Nat) (w:World) (hf:FactsIn w a f) (hr:RelAt w gr a.n rd) (hb:RelAt w gb a.n bh) :
  Calls Tryz.prog 95 #[.agg (zAn a),.agg #[.slice (some ⟨gr,0,none⟩) a.n a.n],.agg #[.slice (some ⟨gb,0,none⟩) a.n a.n]] w fun e w'=>zGh w w' a.n (Q.thenR rd bh) e:=by
 obtain⟨x,c,hev,_⟩:=hf.form
 obtain⟨n,ev,g1,g2,g3,g4,g5,g6,g7,g8,g9⟩:=a
 simp only at hev hr hb
 subst hev
 simp only[zAn]
 obtain⟨k0,k1,k2,k3,hsz,hbw⟩:=zIv w #[.slice x n c,.slice (some ⟨g1,0,none⟩) n n,.slice (some ⟨g2,0,none⟩) n n,.slice (some ⟨g3,0,none⟩) n n,.slice (some ⟨g4,0,none⟩) n n,.slice (some ⟨g5,0,none⟩) n n,.slice (some ⟨g6,0,none⟩) n n,.slice (some ⟨g7,0,none⟩) n n,.slice (some ⟨g8,0,none⟩) n n,.slice (some ⟨g9,0,none⟩) n n] #[.slice (some ⟨gr,0,none⟩) n n] #[.slice (some ⟨gb,0,none⟩) n n] #[.slice none 0 0] 70 68 68 68
 have HF:=zAa (hf.below hbw)
 have Rr:=zAa (hr.below hbw)
 have Rb:=zAa (hb.below hbw)
 have BW0:=zAa hbw
 clear hbw hf hr hb
 go_enter Tryz.func95,Tryz.ntmps95
 go_upto_region 1 with fail
 generalize hE:((((w.alloc (.cells #[.slice x n c,.slice (some ⟨g1,0,none⟩) n n,.slice (some ⟨g2,0,none⟩) n n,.slice (some ⟨g3,0,none⟩) n n,.slice (some ⟨g4,0,none⟩) n n,.slice (some ⟨g5,0,none⟩) n n,.slice (some ⟨g6,0,none⟩) n n,.slice (some ⟨g7,0,none⟩) n n,.slice (some ⟨g8,0,none⟩) n n,.slice (some ⟨g9,0,none⟩) n n] 70)).alloc (.cells #[.slice (some ⟨gr,0,none⟩) n n] 68)).alloc (.cells #[.slice (some ⟨gb,0,none⟩) n n] 68)).alloc (.cells #[.slice none 0 0] 68))=W0 at *
 have c0_0_0:=ceL k0 0 _ rfl
 have c0_0_1:=ceL k0 1 _ rfl
 have c0_0_2:=ceL k0 2 _ rfl
 have c0_0_3:=ceL k0 3 _ rfl
 have c0_0_4:=ceL k0 4 _ rfl
 have c0_0_5:=ceL k0 5 _ rfl
 have c0_0_6:=ceL k0 6 _ rfl
 have c0_0_7:=ceL k0 7 _ rfl
 have c0_0_8:=ceL k0 8 _ rfl
 have c0_0_9:=ceL k0 9 _ rfl
 have l0_0:w.heap.size<W0.heap.size:=by omega
 have f0_0:∀ j,W0.frozen? ⟨w.heap.size,j,none⟩=false:=fun j=>by simp[World.frozen?,k0]
 have K0_0:=zAa k0
 have c0_1_0:=ceL k1 0 _ rfl
 have l0_1:w.heap.size+1<W0.heap.size:=by omega
 have f0_1:∀ j,W0.frozen? ⟨w.heap.size+1,j,none⟩=false:=fun j=>by simp[World.frozen?,k1]
 have K0_1:=zAa k1
 have c0_2_0:=ceL k2 0 _ rfl
 have l0_2:w.heap.size+2<W0.heap.size:=by omega
 have f0_2:∀ j,W0.frozen? ⟨w.heap.size+2,j,none⟩=false:=fun j=>by simp[World.frozen?,k2]
 have K0_2:=zAa k2
 have c0_3_0:=ceL k3 0 _ rfl
 have l0_3:w.heap.size+3<W0.heap.size:=by omega
 have f0_3:∀ j,W0.frozen? ⟨w.heap.size+3,j,none⟩=false:=fun j=>by simp[World.frozen?,k3]
 have K0_3:=zAa k3
 have hsq0:w.heap.size+4≤W0.heap.size:=by omega
 clear hE hsz k0 k1 k2 k3
 go_wp2_with (first
  | (go_at_call_of 113 (Value.slice (some ⟨gr,0,none⟩) n n);refine (zBF gr gb n _ _ _ (Rr.out.below (Below.refl _ _)) (Rb.out.below (Below.refl _ _))).mono ?_;rintro e w0_0 ⟨q0_0,rfl,hq0_0,hb0_0⟩;have B0_0:Hid (Below W0.heap.size W0 w0_0):=hb0_0;have c1_0_0:=cfL B0_0.out l0_1 c0_1_0;have c1_0_1:=cfL B0_0.out l0_2 c0_2_0;have z1_0:=(B0_0.out.frozen (p:=⟨w.heap.size+3,0,none⟩) l0_3).trans (f0_3 0);have y1_0:=cfL B0_0.out l0_3 c0_3_0;have Q0_0:=zAa hq0_0;clear hq0_0))
 all_goals
  (try go_wp2)
  have KR:=zAf ((B0_0.out.block _ l0_3).trans K0_3.out) 0 (.slice (some ⟨q0_0,0,none⟩) n n)
  refine zBH (p:=6) (w.heap.size+3) _ (by kernel_rfl) rfl (by exact KR) rfl ⟨q0_0,rfl,⟨(Q0_0.out).at_.of_block (Below.heap_setCell _ _ _ _ (by have:=Q0_0.out.at_;unfold zAs at this;intro e;rw[e] at this;rw[(B0_0.out.block _ l0_3).trans K0_3.out] at this;simp at this)),(Q0_0.out).len,(Q0_0.out).fits⟩,(zAr BW0.out (Nat.le_refl _) B0_0.out).setCell (p:=⟨w.heap.size+3,0,none⟩) (by simp) _⟩
theorem zGp (a:FA) (f:Q.Facts) (gr:Nat) (rd:List Nat) (gb:Nat) (bh:List Nat) (gm:Nat) (ms:List Nat) (w:World) (hf:FactsIn w a f) (hr:RelAt w gr a.n rd) (hb:RelAt w gb a.n bh) (hm:RelAt w gm a.n ms) :
  Calls Tryz.prog 121 #[.agg (zAn a),.agg #[.slice (some ⟨gr,0,none⟩) a.n a.n],.agg #[.slice (some ⟨gb,0,none⟩) a.n a.n],.agg #[.slice (some ⟨gm,0,none⟩) a.n a.n]] w fun e w'=>zGh w w' a.n (Q.zLb rd bh ms) e:=by
 obtain⟨x,c,hev,_⟩:=hf.form
 obtain⟨n,ev,g1,g2,g3,g4,g5,g6,g7,g8,g9⟩:=a
 simp only at hev hr hb hm
 subst hev
 simp only[zAn]
 obtain⟨k0,k1,k2,k3,k4,hsz,hbw⟩:=zIX w #[.slice x n c,.slice (some ⟨g1,0,none⟩) n n,.slice (some ⟨g2,0,none⟩) n n,.slice (some ⟨g3,0,none⟩) n n,.slice (some ⟨g4,0,none⟩) n n,.slice (some ⟨g5,0,none⟩) n n,.slice (some ⟨g6,0,none⟩) n n,.slice (some ⟨g7,0,none⟩) n n,.slice (some ⟨g8,0,none⟩) n n,.slice (some ⟨g9,0,none⟩) n n] #[.slice (some ⟨gr,0,none⟩) n n] #[.slice (some ⟨gb,0,none⟩) n n] #[.slice (some ⟨gm,0,none⟩) n n] #[.slice none 0 0] 70 68 68 68 68
 have HF:=zAa (hf.below hbw)
 have Rr:=zAa (hr.below hbw)
 have Rb:=zAa (hb.below hbw)
 have Rm:=zAa (hm.below hbw)
 have BW0:=zAa hbw
 clear hbw hf hr hb hm
 go_enter Tryz.func121,Tryz.ntmps121
 go_upto_region 1 with fail
 generalize hE:(((((w.alloc (.cells #[.slice x n c,.slice (some ⟨g1,0,none⟩) n n,.slice (some ⟨g2,0,none⟩) n n,.slice (some ⟨g3,0,none⟩) n n,.slice (some ⟨g4,0,none⟩) n n,.slice (some ⟨g5,0,none⟩) n n,.slice (some ⟨g6,0,none⟩) n n,.slice (some ⟨g7,0,none⟩) n n,.slice (some ⟨g8,0,none⟩) n n,.slice (some ⟨g9,0,none⟩) n n] 70)).alloc (.cells #[.slice (some ⟨gr,0,none⟩) n n] 68)).alloc (.cells #[.slice (some ⟨gb,0,none⟩) n n] 68)).alloc (.cells #[.slice (some ⟨gm,0,none⟩) n n] 68)).alloc (.cells #[.slice none 0 0] 68))=W0 at *
 have c0_0_0:=ceL k0 0 _ rfl
 have c0_0_1:=ceL k0 1 _ rfl
 have c0_0_2:=ceL k0 2 _ rfl
 have c0_0_3:=ceL k0 3 _ rfl
 have c0_0_4:=ceL k0 4 _ rfl
 have c0_0_5:=ceL k0 5 _ rfl
 have c0_0_6:=ceL k0 6 _ rfl
 have c0_0_7:=ceL k0 7 _ rfl
 have c0_0_8:=ceL k0 8 _ rfl
 have c0_0_9:=ceL k0 9 _ rfl
 have l0_0:w.heap.size<W0.heap.size:=by omega
 have f0_0:∀ j,W0.frozen? ⟨w.heap.size,j,none⟩=false:=fun j=>by simp[World.frozen?,k0]
 have K0_0:=zAa k0
 have c0_1_0:=ceL k1 0 _ rfl
 have l0_1:w.heap.size+1<W0.heap.size:=by omega
 have f0_1:∀ j,W0.frozen? ⟨w.heap.size+1,j,none⟩=false:=fun j=>by simp[World.frozen?,k1]
 have K0_1:=zAa k1
 have c0_2_0:=ceL k2 0 _ rfl
 have l0_2:w.heap.size+2<W0.heap.size:=by omega
 have f0_2:∀ j,W0.frozen? ⟨w.heap.size+2,j,none⟩=false:=fun j=>by simp[World.frozen?,k2]
 have K0_2:=zAa k2
 have c0_3_0:=ceL k3 0 _ rfl
 have l0_3:w.heap.size+3<W0.heap.size:=by omega
 have f0_3:∀ j,W0.frozen? ⟨w.heap.size+3,j,none⟩=false:=fun j=>by simp[World.frozen?,k3]
 have K0_3:=zAa k3
 have c0_4_0:=ceL k4 0 _ rfl
 have l0_4:w.heap.size+4<W0.heap.size:=by omega
 have f0_4:∀ j,W0.frozen? ⟨w.heap.size+4,j,none⟩=false:=fun j=>by simp[World.frozen?,k4]
 have K0_4:=zAa k4
 have hsq0:w.heap.size+5≤W0.heap.size:=by omega
 clear hE hsz k0 k1 k2 k3 k4
 clear c0_0_0 c0_0_1 c0_0_2 c0_0_3 c0_0_4 c0_0_5 c0_0_6 c0_0_7 c0_0_8 c0_0_9
 clear f0_0 f0_1 f0_2 f0_3
 go_region_held3 (fun w'=>w'.cell? ⟨w.heap.size+1,0,none⟩=some (.slice (some ⟨gr,0,none⟩) n n)∧w'.cell? ⟨w.heap.size+2,0,none⟩=some (.slice (some ⟨gb,0,none⟩) n n)∧w'.cell? ⟨w.heap.size+3,0,none⟩=some (.slice (some ⟨gm,0,none⟩) n n)) (first | exact⟨c0_1_0,c0_2_0,c0_3_0⟩ | exact⟨c1_0_0,c1_0_1,c1_0_2⟩ | exact⟨c1_1_0,c1_1_1,c1_1_2⟩ | exact⟨c1_2_0,c1_2_1,c1_2_2⟩ | exact⟨(zAh (by omega)).trans c1_2_0,(zAh (by omega)).trans c1_2_1,(zAh (by omega)).trans c1_2_2⟩) (first
  | (go_at_call_of 67 (Value.slice (some ⟨q0_1,0,none⟩) n n);refine (zDN q0_1 gm n _ _ _ Q0_1.out (Rm.out.below B0_1.out)).mono ?_;rintro e w0_2 ⟨q0_2,rfl,hq0_2,hb0_2⟩;have B0_2:Hid (Below W0.heap.size W0 w0_2):=zAr B0_1.out (Nat.le_refl _) hb0_2;have c1_2_0:=cfL B0_2.out l0_1 c0_1_0;have c1_2_1:=cfL B0_2.out l0_2 c0_2_0;have c1_2_2:=cfL B0_2.out l0_3 c0_3_0;have z1_2:=(B0_2.out.frozen (p:=⟨w.heap.size+4,0,none⟩) l0_4).trans (f0_4 0);have y1_2:=cfL B0_2.out l0_4 c0_4_0;have Q0_2:=zAa hq0_2;clear hq0_2)
  | (go_at_call_of 67 (Value.slice (some ⟨q0_0,0,none⟩) n n);refine (zDN q0_0 gb n _ _ _ Q0_0.out (Rb.out.below B0_0.out)).mono ?_;rintro e w0_1 ⟨q0_1,rfl,hq0_1,hb0_1⟩;have B0_1:Hid (Below W0.heap.size W0 w0_1):=zAr B0_0.out (Nat.le_refl _) hb0_1;have c1_1_0:=cfL B0_1.out l0_1 c0_1_0;have c1_1_1:=cfL B0_1.out l0_2 c0_2_0;have c1_1_2:=cfL B0_1.out l0_3 c0_3_0;have z1_1:=(B0_1.out.frozen (p:=⟨w.heap.size+4,0,none⟩) l0_4).trans (f0_4 0);have y1_1:=cfL B0_1.out l0_4 c0_4_0;have Q0_1:=zAa hq0_1;clear hq0_1)
  | (go_at_call_of 144 (Value.slice (some ⟨gr,0,none⟩) n n);refine (zGH gr n _ _ (Rr.out.below (Below.refl _ _).drew)).mono ?_;rintro e w0_0 ⟨q0_0,rfl,hq0_0,hb0_0⟩;have B0_0:Hid (Below W0.heap.size W0 w0_0):=((Below.refl W0.heap.size W0).drew).trans (hb0_0.mono (by simp));have c1_0_0:=cfL B0_0.out l0_1 c0_1_0;have c1_0_1:=cfL B0_0.out l0_2 c0_2_0;have c1_0_2:=cfL B0_0.out l0_3 c0_3_0;have z1_0:=(B0_0.out.frozen (p:=⟨w.heap.size+4,0,none⟩) l0_4).trans (f0_4 0);have y1_0:=cfL B0_0.out l0_4 c0_4_0;have Q0_0:=zAa hq0_0;clear hq0_0))
 all_goals
  (try go_wp2)
  have KR:=zAf ((B0_2.out.block _ l0_4).trans K0_4.out) 0 (.slice (some ⟨q0_2,0,none⟩) n n)
  refine zBH (p:=8) (w.heap.size+4) _ (by kernel_rfl) rfl (by exact KR) rfl ⟨q0_2,rfl,⟨(Q0_2.out).at_.of_block (Below.heap_setCell _ _ _ _ (by have:=Q0_2.out.at_;unfold zAs at this;intro e;rw[e] at this;rw[(B0_2.out.block _ l0_4).trans K0_4.out] at this;simp at this)),(Q0_2.out).len,(Q0_2.out).fits⟩,(zAr BW0.out (Nat.le_refl _) B0_2.out).setCell (p:=⟨w.heap.size+4,0,none⟩) (by simp) _⟩
theorem zDk (a:FA) (f:Q.Facts) (gm:Nat) (ms:List Nat) (gb:Nat) (bh:List Nat) (w:World) (hf:FactsIn w a f) (hm:RelAt w gm a.n ms) (hb:RelAt w gb a.n bh) :
  Calls Tryz.prog 120 #[.agg (zAn a),.agg #[.slice (some ⟨gm,0,none⟩) a.n a.n],.agg #[.slice (some ⟨gb,0,none⟩) a.n a.n]] w fun e w'=>e=.returned (.bool (f.splits ms bh))∧Below w.heap.size w w':=by
 obtain⟨x,c,hev,_⟩:=hf.form
 obtain⟨n,ev,g1,g2,g3,g4,g5,g6,g7,g8,g9⟩:=a
 simp only at hev hm hb
 subst hev
 simp only[zAn]
 obtain⟨k0,k1,k2,hsz,hbw⟩:=zEn w #[.slice x n c,.slice (some ⟨g1,0,none⟩) n n,.slice (some ⟨g2,0,none⟩) n n,.slice (some ⟨g3,0,none⟩) n n,.slice (some ⟨g4,0,none⟩) n n,.slice (some ⟨g5,0,none⟩) n n,.slice (some ⟨g6,0,none⟩) n n,.slice (some ⟨g7,0,none⟩) n n,.slice (some ⟨g8,0,none⟩) n n,.slice (some ⟨g9,0,none⟩) n n] #[.slice (some ⟨gm,0,none⟩) n n] #[.slice (some ⟨gb,0,none⟩) n n] 70 68 68
 have HF:=zAa (hf.below hbw)
 have Rm:=zAa (hm.below hbw)
 have Rb:=zAa (hb.below hbw)
 have BW0:=zAa hbw
 clear hbw hf hm hb
 go_enter Tryz.func120,Tryz.ntmps120
 go_upto_region 1 with fail
 generalize hE:(((w.alloc (.cells #[.slice x n c,.slice (some ⟨g1,0,none⟩) n n,.slice (some ⟨g2,0,none⟩) n n,.slice (some ⟨g3,0,none⟩) n n,.slice (some ⟨g4,0,none⟩) n n,.slice (some ⟨g5,0,none⟩) n n,.slice (some ⟨g6,0,none⟩) n n,.slice (some ⟨g7,0,none⟩) n n,.slice (some ⟨g8,0,none⟩) n n,.slice (some ⟨g9,0,none⟩) n n] 70)).alloc (.cells #[.slice (some ⟨gm,0,none⟩) n n] 68)).alloc (.cells #[.slice (some ⟨gb,0,none⟩) n n] 68))=W0 at *
 have c0_0_0:=ceL k0 0 _ rfl
 have c0_0_1:=ceL k0 1 _ rfl
 have c0_0_2:=ceL k0 2 _ rfl
 have c0_0_3:=ceL k0 3 _ rfl
 have c0_0_4:=ceL k0 4 _ rfl
 have c0_0_5:=ceL k0 5 _ rfl
 have c0_0_6:=ceL k0 6 _ rfl
 have c0_0_7:=ceL k0 7 _ rfl
 have c0_0_8:=ceL k0 8 _ rfl
 have c0_0_9:=ceL k0 9 _ rfl
 have l0_0:w.heap.size<W0.heap.size:=by omega
 have f0_0:∀ j,W0.frozen? ⟨w.heap.size,j,none⟩=false:=fun j=>by simp[World.frozen?,k0]
 have K0_0:=zAa k0
 have c0_1_0:=ceL k1 0 _ rfl
 have l0_1:w.heap.size+1<W0.heap.size:=by omega
 have f0_1:∀ j,W0.frozen? ⟨w.heap.size+1,j,none⟩=false:=fun j=>by simp[World.frozen?,k1]
 have K0_1:=zAa k1
 have c0_2_0:=ceL k2 0 _ rfl
 have l0_2:w.heap.size+2<W0.heap.size:=by omega
 have f0_2:∀ j,W0.frozen? ⟨w.heap.size+2,j,none⟩=false:=fun j=>by simp[World.frozen?,k2]
 have K0_2:=zAa k2
 have hsq0:w.heap.size+3≤W0.heap.size:=by omega
 clear hE hsz k0 k1 k2
 clear c0_0_0 c0_0_1 c0_0_2 c0_0_3 c0_0_4 c0_0_5 c0_0_6 c0_0_8 c0_0_9
 clear f0_0 f0_1 f0_2
 go_region_held3 (fun w'=>w'.cell? ⟨w.heap.size,7,none⟩=some (.slice (some ⟨g7,0,none⟩) n n)∧w'.cell? ⟨w.heap.size+1,0,none⟩=some (.slice (some ⟨gm,0,none⟩) n n)∧w'.cell? ⟨w.heap.size+2,0,none⟩=some (.slice (some ⟨gb,0,none⟩) n n)) (first | exact⟨c0_0_7,c0_1_0,c0_2_0⟩ | exact⟨c1_0_0,c1_0_1,c1_0_2⟩ | exact⟨c1_1_0,c1_1_1,c1_1_2⟩ | exact⟨c1_2_0,c1_2_1,c1_2_2⟩) (first
  | (go_at_call_of 119 (Value.slice (some ⟨q0_1,0,none⟩) n n);refine (zBY q0_1 n _ _ Q0_1.out).mono ?_;rintro e w0_2 ⟨rfl,hb0_2⟩;have B0_2:Hid (Below W0.heap.size W0 w0_2):=zAr B0_1.out (Nat.le_refl _) hb0_2;have c1_2_0:=cfL B0_2.out l0_0 c0_0_7;have c1_2_1:=cfL B0_2.out l0_1 c0_1_0;have c1_2_2:=cfL B0_2.out l0_2 c0_2_0;skip)
  | (go_at_call_of 113 (Value.slice (some ⟨q0_0,0,none⟩) n n);refine (zBF q0_0 gb n _ _ _ Q0_0.out (Rb.out.below B0_0.out)).mono ?_;rintro e w0_1 ⟨q0_1,rfl,hq0_1,hb0_1⟩;have B0_1:Hid (Below W0.heap.size W0 w0_1):=zAr B0_0.out (Nat.le_refl _) hb0_1;have c1_1_0:=cfL B0_1.out l0_0 c0_0_7;have c1_1_1:=cfL B0_1.out l0_1 c0_1_0;have c1_1_2:=cfL B0_1.out l0_2 c0_2_0;have Q0_1:=zAa hq0_1;clear hq0_1)
  | (go_at_call_of 113 (Value.slice (some ⟨g7,0,none⟩) n n);refine (zBF g7 gm n _ _ _ (HF.out.r7.below (Below.refl _ _).drew) (Rm.out.below (Below.refl _ _).drew)).mono ?_;rintro e w0_0 ⟨q0_0,rfl,hq0_0,hb0_0⟩;have B0_0:Hid (Below W0.heap.size W0 w0_0):=((Below.refl W0.heap.size W0).drew).trans (hb0_0.mono (by simp));have c1_0_0:=cfL B0_0.out l0_0 c0_0_7;have c1_0_1:=cfL B0_0.out l0_1 c0_1_0;have c1_0_2:=cfL B0_0.out l0_2 c0_2_0;have Q0_0:=zAa hq0_0;clear hq0_0))
 all_goals
  go_wp2
  go_ret
  exact⟨rfl,zAr BW0.out (Nat.le_refl _) B0_2.out⟩
end Go.Proofs.YtgceflcbckjjiaaGreatDoor
