import Derived.Test.YtgceflcbckjjiaaGreatDoorD39
import Derived.Test.YtgceflcbckjjiaaGreatDoorD38
set_option linter.unusedVariables false
set_option linter.unusedSimpArgs false
set_option maxHeartbeats 12800000
namespace Go.Proofs.YtgceflcbckjjiaaGreatDoor
open Go Go.RowKit
set_option maxRecDepth 100000
theorem zFh (a:FA) (f:Q.Facts) (gr:Nat) (rd:List Nat) (w:World) (hf:FactsIn w a f) (hr:RelAt w gr a.n rd) :
  Calls Tryz.prog 36 #[.agg (zAn a),.agg #[.slice (some ⟨gr,0,none⟩) a.n a.n]] w fun e w'=>zGh w w' a.n (f.before rd) e:=by
 obtain⟨x,c,hev,_⟩:=hf.form
 obtain⟨n,ev,g1,g2,g3,g4,g5,g6,g7,g8,g9⟩:=a
 simp only at hev hr
 subst hev
 simp only[zAn]
 obtain⟨k0,k1,k2,hsz,hbw⟩:=zEn w #[.slice x n c,.slice (some ⟨g1,0,none⟩) n n,.slice (some ⟨g2,0,none⟩) n n,.slice (some ⟨g3,0,none⟩) n n,.slice (some ⟨g4,0,none⟩) n n,.slice (some ⟨g5,0,none⟩) n n,.slice (some ⟨g6,0,none⟩) n n,.slice (some ⟨g7,0,none⟩) n n,.slice (some ⟨g8,0,none⟩) n n,.slice (some ⟨g9,0,none⟩) n n] #[.slice (some ⟨gr,0,none⟩) n n] #[.slice none 0 0] 70 68 68
 have HF:=zAa (hf.below hbw)
 have Rr:=zAa (hr.below hbw)
 have BW0:=zAa hbw
 clear hbw hf hr
 go_enter Tryz.func36,Tryz.ntmps36
 go_upto_region 1 with fail
 generalize hE:(((w.alloc (.cells #[.slice x n c,.slice (some ⟨g1,0,none⟩) n n,.slice (some ⟨g2,0,none⟩) n n,.slice (some ⟨g3,0,none⟩) n n,.slice (some ⟨g4,0,none⟩) n n,.slice (some ⟨g5,0,none⟩) n n,.slice (some ⟨g6,0,none⟩) n n,.slice (some ⟨g7,0,none⟩) n n,.slice (some ⟨g8,0,none⟩) n n,.slice (some ⟨g9,0,none⟩) n n] 70)).alloc (.cells #[.slice (some ⟨gr,0,none⟩) n n] 68)).alloc (.cells #[.slice none 0 0] 68))=W0 at *
 have c0_0_0:=ceL k0 0 _ rfl
 have c0_0_1:=ceL k0 1 _ rfl
 have c0_0_2:=ceL k0 2 _ rfl
 have c0_0_3:=ceL k0 3 _ rfl
 have c0_0_4:=ceL k0 4 _ rfl
 have c0_0_5:=ceL k0 5 _ rfl
 have c0_0_6:=ceL k0 6 _ rfl
 have c0_0_7:=ceL k0 7 _ rfl
 have c0_0_8:=ceL k0 8 _ rfl
 have c0_0_9:=ceL k0 9 _ rfl
 have l0_0:w.heap.size<W0.heap.size:=by omega
 have f0_0:∀ j,W0.frozen? ⟨w.heap.size,j,none⟩=false:=fun j=>by simp[World.frozen?,k0]
 have K0_0:=zAa k0
 have c0_1_0:=ceL k1 0 _ rfl
 have l0_1:w.heap.size+1<W0.heap.size:=by omega
 have f0_1:∀ j,W0.frozen? ⟨w.heap.size+1,j,none⟩=false:=fun j=>by simp[World.frozen?,k1]
 have K0_1:=zAa k1
 have c0_2_0:=ceL k2 0 _ rfl
 have l0_2:w.heap.size+2<W0.heap.size:=by omega
 have f0_2:∀ j,W0.frozen? ⟨w.heap.size+2,j,none⟩=false:=fun j=>by simp[World.frozen?,k2]
 have K0_2:=zAa k2
 have hsq0:w.heap.size+3≤W0.heap.size:=by omega
 clear hE hsz k0 k1 k2
 go_cut [5] from 6 to 10 (fun p wx=>∃ gx qx,p=.pointer (some ⟨gx,0,none⟩)∧wx.heap[gx]?=some (.cells #[.slice (some ⟨qx,0,none⟩) n n] 68 (0,0))∧RelAt wx qx n (f.tells (f.sees rd))∧Below W0.heap.size W0 wx∧W0.heap.size≤gx)
 case first =>
  clear c0_2_0 f0_0 f0_1 f0_2
  have hgeW:=Nat.le_refl W0.heap.size
  go_region_held3 (fun w'=>w'.cell? ⟨w.heap.size,0,none⟩=some (.slice x n c)∧w'.cell? ⟨w.heap.size,1,none⟩=some (.slice (some ⟨g1,0,none⟩) n n)∧w'.cell? ⟨w.heap.size,2,none⟩=some (.slice (some ⟨g2,0,none⟩) n n)∧w'.cell? ⟨w.heap.size,3,none⟩=some (.slice (some ⟨g3,0,none⟩) n n)∧w'.cell? ⟨w.heap.size,4,none⟩=some (.slice (some ⟨g4,0,none⟩) n n)∧w'.cell? ⟨w.heap.size,5,none⟩=some (.slice (some ⟨g5,0,none⟩) n n)∧w'.cell? ⟨w.heap.size,6,none⟩=some (.slice (some ⟨g6,0,none⟩) n n)∧w'.cell? ⟨w.heap.size,7,none⟩=some (.slice (some ⟨g7,0,none⟩) n n)∧w'.cell? ⟨w.heap.size,8,none⟩=some (.slice (some ⟨g8,0,none⟩) n n)∧w'.cell? ⟨w.heap.size,9,none⟩=some (.slice (some ⟨g9,0,none⟩) n n)∧w'.cell? ⟨w.heap.size+1,0,none⟩=some (.slice (some ⟨gr,0,none⟩) n n)) (first | exact⟨c0_0_0,c0_0_1,c0_0_2,c0_0_3,c0_0_4,c0_0_5,c0_0_6,c0_0_7,c0_0_8,c0_0_9,c0_1_0⟩ | exact⟨(zAD l0_0).trans c0_0_0,(zAD l0_0).trans c0_0_1,(zAD l0_0).trans c0_0_2,(zAD l0_0).trans c0_0_3,(zAD l0_0).trans c0_0_4,(zAD l0_0).trans c0_0_5,(zAD l0_0).trans c0_0_6,(zAD l0_0).trans c0_0_7,(zAD l0_0).trans c0_0_8,(zAD l0_0).trans c0_0_9,(zAD l0_1).trans c0_1_0⟩ | exact⟨c1_0_0,c1_0_1,c1_0_2,c1_0_3,c1_0_4,c1_0_5,c1_0_6,c1_0_7,c1_0_8,c1_0_9,c1_0_10⟩ | exact⟨(zAD e1_0_0).trans c1_0_0,(zAD e1_0_1).trans c1_0_1,(zAD e1_0_2).trans c1_0_2,(zAD e1_0_3).trans c1_0_3,(zAD e1_0_4).trans c1_0_4,(zAD e1_0_5).trans c1_0_5,(zAD e1_0_6).trans c1_0_6,(zAD e1_0_7).trans c1_0_7,(zAD e1_0_8).trans c1_0_8,(zAD e1_0_9).trans c1_0_9,(zAD e1_0_10).trans c1_0_10⟩ | exact⟨c1_1_0,c1_1_1,c1_1_2,c1_1_3,c1_1_4,c1_1_5,c1_1_6,c1_1_7,c1_1_8,c1_1_9,c1_1_10⟩ | exact⟨(zAD e1_1_0).trans c1_1_0,(zAD e1_1_1).trans c1_1_1,(zAD e1_1_2).trans c1_1_2,(zAD e1_1_3).trans c1_1_3,(zAD e1_1_4).trans c1_1_4,(zAD e1_1_5).trans c1_1_5,(zAD e1_1_6).trans c1_1_6,(zAD e1_1_7).trans c1_1_7,(zAD e1_1_8).trans c1_1_8,(zAD e1_1_9).trans c1_1_9,(zAD e1_1_10).trans c1_1_10⟩ | exact⟨(zAh (by omega)).trans c1_1_0,(zAh (by omega)).trans c1_1_1,(zAh (by omega)).trans c1_1_2,(zAh (by omega)).trans c1_1_3,(zAh (by omega)).trans c1_1_4,(zAh (by omega)).trans c1_1_5,(zAh (by omega)).trans c1_1_6,(zAh (by omega)).trans c1_1_7,(zAh (by omega)).trans c1_1_8,(zAh (by omega)).trans c1_1_9,(zAh (by omega)).trans c1_1_10⟩) (first
   | (go_at_call 65;refine (zHA (FA.mk n (.slice x n c) g1 g2 g3 g4 g5 g6 g7 g8 g9) f q0_0 _ _ (HF.out.below (by first | exact B0_0.out | exact B0_0.out.alloc B0_0.out.size _)) (by first | exact Q0_0.out | exact Q0_0.out.below ((Below.refl _ _).alloc (Nat.le_refl _) _))).mono ?_;rintro e w0_1 ⟨q0_1,rfl,hq0_1,hb0_1⟩;have B0_1:Hid (Below W0.heap.size W0 w0_1):=(by first | exact zAr B0_0.out (Nat.le_refl _) hb0_1 | exact zAr (B0_0.out.alloc B0_0.out.size _) (Nat.le_refl _) hb0_1);have c1_1_0:=cfL B0_1.out l0_0 c0_0_0;have c1_1_1:=cfL B0_1.out l0_0 c0_0_1;have c1_1_2:=cfL B0_1.out l0_0 c0_0_2;have c1_1_3:=cfL B0_1.out l0_0 c0_0_3;have c1_1_4:=cfL B0_1.out l0_0 c0_0_4;have c1_1_5:=cfL B0_1.out l0_0 c0_0_5;have c1_1_6:=cfL B0_1.out l0_0 c0_0_6;have c1_1_7:=cfL B0_1.out l0_0 c0_0_7;have c1_1_8:=cfL B0_1.out l0_0 c0_0_8;have c1_1_9:=cfL B0_1.out l0_0 c0_0_9;have c1_1_10:=cfL B0_1.out l0_1 c0_1_0;have e1_1_0:=Nat.lt_of_lt_of_le l0_0 B0_1.out.size;have e1_1_1:=Nat.lt_of_lt_of_le l0_0 B0_1.out.size;have e1_1_2:=Nat.lt_of_lt_of_le l0_0 B0_1.out.size;have e1_1_3:=Nat.lt_of_lt_of_le l0_0 B0_1.out.size;have e1_1_4:=Nat.lt_of_lt_of_le l0_0 B0_1.out.size;have e1_1_5:=Nat.lt_of_lt_of_le l0_0 B0_1.out.size;have e1_1_6:=Nat.lt_of_lt_of_le l0_0 B0_1.out.size;have e1_1_7:=Nat.lt_of_lt_of_le l0_0 B0_1.out.size;have e1_1_8:=Nat.lt_of_lt_of_le l0_0 B0_1.out.size;have e1_1_9:=Nat.lt_of_lt_of_le l0_0 B0_1.out.size;have e1_1_10:=Nat.lt_of_lt_of_le l0_1 B0_1.out.size;(try (have bx1:w0_1.cell? ⟨w0_0.heap.size,0,none⟩=some (.slice none 0 0)∧w0_1.frozen? ⟨w0_0.heap.size,0,none⟩=false∧w0_1.heap[w0_0.heap.size]?=some (.cells #[.slice none 0 0] 68 (0,0)):=(by first | exact zDr hb0_1 | exact zDr (w:=w0_0.drew) hb0_1)));(try (have by1_0:w0_1.cell? ⟨W0.heap.size,0,none⟩=some (.slice none 0 0)∧w0_1.frozen? ⟨W0.heap.size,0,none⟩=false∧w0_1.heap[W0.heap.size]?=some (.cells #[.slice none 0 0] 68 (0,0)):=zIw hb0_1 bx0));(try have bc:=bx1.1);(try have bf:=bx1.2.1);(try have bc:=by1_0.1);(try have bf:=by1_0.2.1);have Q0_1:=zAa hq0_1;clear hq0_1)
   | (go_at_call 66;refine (zIp (FA.mk n (.slice x n c) g1 g2 g3 g4 g5 g6 g7 g8 g9) f gr _ _ (HF.out.below (by first | exact (Below.refl _ _).drew | exact ((Below.refl _ _).drew).alloc (by simp) _)) (Rr.out.below (by first | exact (Below.refl _ _).drew | exact ((Below.refl _ _).drew).alloc (by simp) _))).mono ?_;rintro e w0_0 ⟨q0_0,rfl,hq0_0,hb0_0⟩;have B0_0:Hid (Below W0.heap.size W0 w0_0):=(by first | exact ((Below.refl W0.heap.size W0).drew).trans (hb0_0.mono (by simp)) | exact (((Below.refl W0.heap.size W0).drew).alloc (by simp) _).trans (hb0_0.mono (by simp)));have c1_0_0:=cfL B0_0.out l0_0 c0_0_0;have c1_0_1:=cfL B0_0.out l0_0 c0_0_1;have c1_0_2:=cfL B0_0.out l0_0 c0_0_2;have c1_0_3:=cfL B0_0.out l0_0 c0_0_3;have c1_0_4:=cfL B0_0.out l0_0 c0_0_4;have c1_0_5:=cfL B0_0.out l0_0 c0_0_5;have c1_0_6:=cfL B0_0.out l0_0 c0_0_6;have c1_0_7:=cfL B0_0.out l0_0 c0_0_7;have c1_0_8:=cfL B0_0.out l0_0 c0_0_8;have c1_0_9:=cfL B0_0.out l0_0 c0_0_9;have c1_0_10:=cfL B0_0.out l0_1 c0_1_0;have e1_0_0:=Nat.lt_of_lt_of_le l0_0 B0_0.out.size;have e1_0_1:=Nat.lt_of_lt_of_le l0_0 B0_0.out.size;have e1_0_2:=Nat.lt_of_lt_of_le l0_0 B0_0.out.size;have e1_0_3:=Nat.lt_of_lt_of_le l0_0 B0_0.out.size;have e1_0_4:=Nat.lt_of_lt_of_le l0_0 B0_0.out.size;have e1_0_5:=Nat.lt_of_lt_of_le l0_0 B0_0.out.size;have e1_0_6:=Nat.lt_of_lt_of_le l0_0 B0_0.out.size;have e1_0_7:=Nat.lt_of_lt_of_le l0_0 B0_0.out.size;have e1_0_8:=Nat.lt_of_lt_of_le l0_0 B0_0.out.size;have e1_0_9:=Nat.lt_of_lt_of_le l0_0 B0_0.out.size;have e1_0_10:=Nat.lt_of_lt_of_le l0_1 B0_0.out.size;(try (have bx0:w0_0.cell? ⟨W0.heap.size,0,none⟩=some (.slice none 0 0)∧w0_0.frozen? ⟨W0.heap.size,0,none⟩=false∧w0_0.heap[W0.heap.size]?=some (.cells #[.slice none 0 0] 68 (0,0)):=(by first | exact zDr hb0_0 | exact zDr (w:=W0.drew) hb0_0)));(try have bc:=bx0.1);(try have bf:=bx0.2.1);have Q0_0:=zAa hq0_0;clear hq0_0))
  all_goals
   (try go_wp2)
   go_meet
   case rel=>first | exact zGj B0_1.out Q0_1.out | exact zDC B0_1.out hgeW Q0_1.out by1_0.2.2 | exact zDC B0_1.out B0_0.out.size Q0_1.out bx1.2.2
 case rest =>
 obtain⟨gx1,qx1,rfl,kx1,hqx1,hbx1,hgx1⟩:=hcut
 have HF1:=zAa (HF.out.below hbx1)
 have R1_0:=zAa (Rr.out.below hbx1)
 have R1_1:=zAa hqx1
 have BW1:=zAa (zAr BW0.out (Nat.le_refl _) hbx1)
 have d1_0:=cfL hbx1 l0_0 c0_0_0
 have d1_1:=cfL hbx1 l0_0 c0_0_1
 have d1_2:=cfL hbx1 l0_0 c0_0_2
 have d1_3:=cfL hbx1 l0_0 c0_0_3
 have d1_4:=cfL hbx1 l0_0 c0_0_4
 have d1_5:=cfL hbx1 l0_0 c0_0_5
 have d1_6:=cfL hbx1 l0_0 c0_0_6
 have d1_7:=cfL hbx1 l0_0 c0_0_7
 have d1_8:=cfL hbx1 l0_0 c0_0_8
 have d1_9:=cfL hbx1 l0_0 c0_0_9
 have d1_10:=cfL hbx1 l0_1 c0_1_0
 have d1_11:=cfL hbx1 l0_2 c0_2_0
 have f1_0:∀ j,wc.frozen? ⟨w.heap.size,j,none⟩=false:=fun j=>(hbx1.frozen (p:=⟨w.heap.size,j,none⟩) l0_0).trans (f0_0 j)
 have l1_0:=Nat.lt_of_lt_of_le l0_0 hbx1.size
 have K1_0:=zAa ((hbx1.block _ l0_0).trans K0_0.out)
 have f1_1:∀ j,wc.frozen? ⟨w.heap.size+1,j,none⟩=false:=fun j=>(hbx1.frozen (p:=⟨w.heap.size+1,j,none⟩) l0_1).trans (f0_1 j)
 have l1_1:=Nat.lt_of_lt_of_le l0_1 hbx1.size
 have K1_1:=zAa ((hbx1.block _ l0_1).trans K0_1.out)
 have f1_2:∀ j,wc.frozen? ⟨w.heap.size+2,j,none⟩=false:=fun j=>(hbx1.frozen (p:=⟨w.heap.size+2,j,none⟩) l0_2).trans (f0_2 j)
 have l1_2:=Nat.lt_of_lt_of_le l0_2 hbx1.size
 have K1_2:=zAa ((hbx1.block _ l0_2).trans K0_2.out)
 obtain⟨cn1,fn1,ln1⟩:=zAo kx1
 have KN1:=zAa kx1
 clear kx1 hqx1 hbx1 c0_0_0 c0_0_1 c0_0_2 c0_0_3 c0_0_4 c0_0_5 c0_0_6 c0_0_7 c0_0_8 c0_0_9 c0_1_0 c0_2_0
 go_upto_region 2 with fail
 clear d1_0 d1_2 d1_4 d1_5 d1_6 d1_7 d1_8 d1_9 d1_10
 clear f1_0 f1_1 fn1
 go_region_held3 (fun w'=>w'.cell? ⟨w.heap.size,1,none⟩=some (.slice (some ⟨g1,0,none⟩) n n)∧w'.cell? ⟨w.heap.size,3,none⟩=some (.slice (some ⟨g3,0,none⟩) n n)∧w'.cell? ⟨gx1,0,none⟩=some (.slice (some ⟨qx1,0,none⟩) n n)) (first | exact⟨d1_1,d1_3,cn1⟩ | exact⟨c2_0_0,c2_0_1,c2_0_2⟩ | exact⟨c2_1_0,c2_1_1,c2_1_2⟩ | exact⟨c2_2_0,c2_2_1,c2_2_2⟩ | exact⟨(zAh (by omega)).trans c2_2_0,(zAh (by omega)).trans c2_2_1,(zAh (by omega)).trans c2_2_2⟩) (first
  | (go_at_call_of 68 (Value.slice (some ⟨q1_1,0,none⟩) n n);refine (zCI q1_1 n _ _ Q1_1.out).mono ?_;rintro e w1_2 ⟨q1_2,rfl,hq1_2,hb1_2⟩;have B1_2:Hid (Below wc.heap.size wc w1_2):=zAr B1_1.out (Nat.le_refl _) hb1_2;have c2_2_0:=cfL B1_2.out l1_0 d1_1;have c2_2_1:=cfL B1_2.out l1_0 d1_3;have c2_2_2:=cfL B1_2.out ln1 cn1;have z2_2:=(B1_2.out.frozen (p:=⟨w.heap.size+2,0,none⟩) l1_2).trans (f1_2 0);have y2_2:=cfL B1_2.out l1_2 d1_11;have Q1_2:=zAa hq1_2;clear hq1_2)
  | (go_at_call_of 67 (Value.slice (some ⟨q1_0,0,none⟩) n n);refine (zDN q1_0 g3 n _ _ _ Q1_0.out (HF1.out.r3.below B1_0.out)).mono ?_;rintro e w1_1 ⟨q1_1,rfl,hq1_1,hb1_1⟩;have B1_1:Hid (Below wc.heap.size wc w1_1):=zAr B1_0.out (Nat.le_refl _) hb1_1;have c2_1_0:=cfL B1_1.out l1_0 d1_1;have c2_1_1:=cfL B1_1.out l1_0 d1_3;have c2_1_2:=cfL B1_1.out ln1 cn1;have z2_1:=(B1_1.out.frozen (p:=⟨w.heap.size+2,0,none⟩) l1_2).trans (f1_2 0);have y2_1:=cfL B1_1.out l1_2 d1_11;have Q1_1:=zAa hq1_1;clear hq1_1)
  | (go_at_call_of 67 (Value.slice (some ⟨g1,0,none⟩) n n);refine (zDN g1 qx1 n _ _ _ (HF1.out.r1.below (Below.refl _ _).drew) (R1_1.out.below (Below.refl _ _).drew)).mono ?_;rintro e w1_0 ⟨q1_0,rfl,hq1_0,hb1_0⟩;have B1_0:Hid (Below wc.heap.size wc w1_0):=((Below.refl wc.heap.size wc).drew).trans (hb1_0.mono (by simp));have c2_0_0:=cfL B1_0.out l1_0 d1_1;have c2_0_1:=cfL B1_0.out l1_0 d1_3;have c2_0_2:=cfL B1_0.out ln1 cn1;have z2_0:=(B1_0.out.frozen (p:=⟨w.heap.size+2,0,none⟩) l1_2).trans (f1_2 0);have y2_0:=cfL B1_0.out l1_2 d1_11;have Q1_0:=zAa hq1_0;clear hq1_0))
 all_goals
  (try go_wp2)
  have KR:=zAf ((B1_2.out.block _ l1_2).trans K1_2.out) 0 (.slice (some ⟨q1_2,0,none⟩) n n)
  refine zBH (p:=4) (w.heap.size+2) _ (by kernel_rfl) rfl (by exact KR) rfl ⟨q1_2,rfl,⟨(Q1_2.out).at_.of_block (Below.heap_setCell _ _ _ _ (by have:=Q1_2.out.at_;unfold zAs at this;intro e;rw[e] at this;rw[(B1_2.out.block _ l1_2).trans K1_2.out] at this;simp at this)),(Q1_2.out).len,(Q1_2.out).fits⟩,(zAr BW1.out (Nat.le_refl _) B1_2.out).setCell (p:=⟨w.heap.size+2,0,none⟩) (by simp) _⟩
namespace Q
theorem srcCand_rows (a:Ans) (c:Cand):a.rows.length≤(zLc a c).rows.length:=zMm _ (srcOrder_rows _ _ _ _) _ _
theorem source_eq (ts:List P.Thr):(zKE (zCF (runs ts) none (zKt (zBL (runs ts))))).foldl zLc ⟨[],false⟩=zKK ts:=by rw[← cands_eq];rfl
end Q
theorem zDY (B bt cap:Nat) (ts:List P.Thr) (w:World) (h:zAl w B (.slice (some ⟨bt,0,none⟩) ts.length cap) ts) (hn:ts.length<20) (hok:∀ t∈ts,(∀ s∈t.stmts,Q.StOk s)∧t.stmts.length<900∧Q.codes t.stmts<100000) (hrb:∀ r∈Q.runs ts,r.length<100000000) (hrn:∀ rs∈Q.runs ts,∀ r∈rs,r.regs.length=4∧∀ e∈r.events,e.hangs<Q.M64) (hW:∀ d,Q.DigOk (zBL (Q.runs ts)) d→Q.WdOk (Q.zKa (Q.runs ts) d)) (hfin:(Q.zKK ts).rows.length<100000000) :
  Calls Tryz.prog 24 #[.agg #[.slice (some ⟨bt,0,none⟩) ts.length cap]] w fun e w'=>∃ ov vs,e=.returned (.tuple #[ov,.bool (Q.zKK ts).clash])∧RowsI w' 0 ov (Q.zKK ts).rows vs∧Below w.heap.size w w':=by
 obtain⟨k0,k1,hsz,hbw⟩:=zCd w #[.slice (some ⟨bt,0,none⟩) ts.length cap] #[.slice none 0 0,.bool false] 48 62
 have HT:=zAa (h.keep fun k hk=>hbw.block k hk)
 have HOK:=zAa hok
 have HRB:=zAa hrb
 have HRN:=zAa hrn
 have HW:=zAa hW
 have HFIN:=zAa hfin
 have BW0:=zAa hbw
 have HEQ:=zAa (Q.source_eq ts)
 have hrl:(Q.runs ts).length<20:=by rw[Q.zLB];exact hn
 generalize Q.zKK ts=fin at *
 clear hbw h hok hrb hrn hW hfin
 go_enter Tryz.func24,Tryz.ntmps24
 go_upto_region 2 with fail
 generalize hE:(w.alloc (.cells #[.slice (some ⟨bt,0,none⟩) ts.length cap] 48)).alloc (.cells #[.slice none 0 0,.bool false] 62)=W0 at *
 have c00:=ceL k0 0 _ rfl
 have l0:w.heap.size<W0.heap.size:=by omega
 have l1:w.heap.size+1<W0.heap.size:=by omega
 have K1:=zAa k1
 clear hE k0 k1 hsz
 go_upto_region 3 with (first
  | (go_at_call 34;refine (zDw B bt cap ts _ HT.out hn HOK.out).mono ?_;rintro e w1 ⟨rv,vs,wss,gb,gd,rfl,⟨xa,xn,xc,hrv⟩,hra,hib,hid,hgb,hgd,hne,hb1⟩;obtain⟨ya,yc,hrv2⟩:=zGn hra.own;rw[hrv] at hrv2;simp only[Value.slice.injEq] at hrv2;obtain⟨-,hxn, -⟩:=hrv2;subst hxn;subst hrv;have RA1:=zAa hra;have IB1:=zAa hib;have ID1:=zAa hid;have B1:=zAa hb1;have KB:Hid ((w1.alloc (.cells #[.slice none 0 0,.slice none 0 0,.slice none 0 0,.slice none 0 0,.slice none 0 0,.slice none 0 0,.slice none 0 0,.slice none 0 0,.slice none 0 0,.slice none 0 0,.slice none 0 0,.slice none 0 0,.slice none 0 0,.slice none 0 0,.slice none 0 0,.slice none 0 0,.bool false,.slice none 0 0,.slice none 0 0,.slice none 0 0,.bool false,.bool false] 79)).heap[w1.heap.size]?=some (.cells #[.slice none 0 0,.slice none 0 0,.slice none 0 0,.slice none 0 0,.slice none 0 0,.slice none 0 0,.slice none 0 0,.slice none 0 0,.slice none 0 0,.slice none 0 0,.slice none 0 0,.slice none 0 0,.slice none 0 0,.slice none 0 0,.slice none 0 0,.slice none 0 0,.bool false,.slice none 0 0,.slice none 0 0,.slice none 0 0,.bool false,.bool false] 79 (0,0))):=heap_alloc_new w1 _;have BA:Hid (Below w1.heap.size w1 (w1.alloc (.cells #[.slice none 0 0,.slice none 0 0,.slice none 0 0,.slice none 0 0,.slice none 0 0,.slice none 0 0,.slice none 0 0,.slice none 0 0,.slice none 0 0,.slice none 0 0,.slice none 0 0,.slice none 0 0,.slice none 0 0,.slice none 0 0,.slice none 0 0,.slice none 0 0,.bool false,.slice none 0 0,.slice none 0 0,.slice none 0 0,.bool false,.bool false] 79))):=(Below.refl _ _).alloc (Nat.le_refl _) _;clear hra hib hid hb1)
  | (refine wpList_store_mid rfl 79 (.tmp 5) (.tmp 8) rfl w1.heap.size 0 (zCz (.slice xa (Q.runs ts).length xc) (.slice (some ⟨gb,0,none⟩) (Q.runs ts).length (Q.runs ts).length) (.slice (some ⟨gd,0,none⟩) (Q.runs ts).length (Q.runs ts).length) (.bool false)) rfl rfl (zCs KB.out (by simp[zCz])) (by kernel_rfl) (by simp[zCz,Value.oneCell']) ?_;have SW:=zAa (zBN (zCz (.slice xa (Q.runs ts).length xc) (.slice (some ⟨gb,0,none⟩) (Q.runs ts).length (Q.runs ts).length) (.slice (some ⟨gd,0,none⟩) (Q.runs ts).length (Q.runs ts).length) (.bool false)).toList KB.out (by simp[zCz]));generalize (w1.alloc (.cells #[.slice none 0 0,.slice none 0 0,.slice none 0 0,.slice none 0 0,.slice none 0 0,.slice none 0 0,.slice none 0 0,.slice none 0 0,.slice none 0 0,.slice none 0 0,.slice none 0 0,.slice none 0 0,.slice none 0 0,.slice none 0 0,.slice none 0 0,.slice none 0 0,.bool false,.slice none 0 0,.slice none 0 0,.slice none 0 0,.bool false,.bool false] 79)).setCells w1.heap.size 0 (zCz (.slice xa (Q.runs ts).length xc) (.slice (some ⟨gb,0,none⟩) (Q.runs ts).length (Q.runs ts).length) (.slice (some ⟨gd,0,none⟩) (Q.runs ts).length (Q.runs ts).length) (.bool false)).toList=W1 at *))
 obtain⟨s0,s1,s2⟩:=SW.out
 have BL:=zAa (s2 w1 w1.heap.size (Nat.le_refl _) BA.out)
 have S0:=zAa s0
 have hs1:=B1.out.size
 have hs2:=BL.out.size
 have KG:=zAa ((BL.out.block _ (by omega)).trans ((B1.out.block _ l1).trans K1.out))
 have BWW:Hid (Below w.heap.size w W1):=zAr (zAr BW0.out (Nat.le_refl _) B1.out) (Nat.le_refl _) BL.out
 have INI:Hid (zGo w w1.heap.size (w.heap.size+1) ⟨.slice xa (Q.runs ts).length xc,vs,wss,gb,gd⟩ (Q.runs ts) Q.zLc fin W1 (Q.zKE (zCF (Q.runs ts) none (Q.zKt (zBL (Q.runs ts))))).length):=⟨none,_,_,_,_,_,_,zGP (t:=62) RA1.out IB1.out ID1.out hne (by simpa using S0.out) BL.out KG.out (Or.inl rfl) (by omega) (by omega) (by omega) BWW.out,HEQ.out,rfl⟩
 generalize (⟨.slice xa (Q.runs ts).length xc,vs,wss,gb,gd⟩:WA)=A at *
 clear s0 s1 s2 SW BL S0 KG BWW RA1 IB1 ID1 B1 KB BA HT K1 BW0 HEQ c00 hs1 hs2 HOK
 generalize w1.heap.size=gc at *
 obtain⟨μ,hμ⟩:=zCZ (zGo w gc (w.heap.size+1) A (Q.runs ts) Q.zLc fin)
 have HMU:=zAa hμ
 clear hμ
 simp only[Act.put]
 go_loopw [] (fun wr=>∃ m,Hid (zGo w gc (w.heap.size+1) A (Q.runs ts) Q.zLc fin wr m)) (fun wr=>μ wr)
 case atStart=>exact⟨_,INI⟩
 case round =>
  obtain⟨hI,hmin⟩:=HMU.out wr (by obtain⟨n,h⟩:=hrel;exact⟨n,h.out⟩)
  clear hrel hmin INI
  obtain⟨st,ds,rest,an,ov,vs1,fp,hB,hFD,hlen⟩:=hI
  have BO:=zAa hB
  have FD:=zAa hFD
  have HL:=zAa hlen
  have lgc:=hB.cand.box.lt
  clear hB hFD hlen
  go_upto_region 4 with (first | (go_at_call 35;refine (zFf gc A _ st ds rest _ BO.out.cand hrl HRB.out HRN.out HW.out).mono ?_;rintro e w2 ⟨b,rfl,hF,h1⟩;have HF2:=zAa hF;clear hF;rcases h1 with ⟨rfl,hcs⟩ | ⟨rfl,s,ds2,rest2,gr,hnow,hcs,hnb,hgs⟩))
  ·obtain⟨hA2,hbl2⟩:=BO.out.frame HF2.out
   have HA2:=zAa hA2
   have HBL2:=zAa hbl2
   have hfa:an=fin:=by
    have h3:=FD.out
    rw[hcs] at h3
    exact h3
   subst hfa
   have c0:=hA2.out.cell
   have c1:=hA2.clash
   have lg2:=hA2.out.lt
   obtain⟨oa,oc,hov,_⟩:=hA2.out.rows.form
   subst hov
   clear hA2 hbl2 hcs
   go_upto_region 6 with fail
   go_region_held3 (fun w'=>w'.cell? ⟨w.heap.size+1,1,none⟩=some (.bool an.clash)∧w'.cell? ⟨w.heap.size+1,0,none⟩=some (.slice oa an.rows.length oc)) (first | exact⟨c1,c0⟩) (first
    | (go_at_call 38;refine (zIn (w.heap.size+1) (.slice oa an.rows.length oc) _ (by exact c0) (by exact lg2) ⟨_,_,_,rfl⟩).mono ?_;rintro e w3 ⟨rfl,rfl⟩))
   all_goals
    (try go_wp2)
    go_ret2
    exact⟨_,vs1,rfl,HA2.out.out.rows.below (Below.refl _ _).drew,HBL2.out.drew⟩
  ·have B2:=zAa (BO.out.next HF2.out hnow.on hnb hgs)
   have HCS:=zAa hcs
   have NOW:=zAa hnow
   obtain⟨hon,hwk⟩:=hnow.on.rs s rfl
   have HON:=zAa hon
   have HWK:=zAa hwk
   have l2:=hnow.on.box.lt
   have hfc:=hon.fc
   have k10:=hnow.c12
   have k11:=hon.c0
   have k12:=hon.c1
   have REL2:=zAa hnow.rel
   obtain⟨fx,fcp,hfev,_⟩:=hon.fin.form
   obtain⟨ea,ec,hev,_⟩:=hon.wdi.evs.form
   obtain⟨ra,rc,hrg,_⟩:=hon.wdi.regs.form
   have FI2:=zAa hon.fin
   have WI2:=zAa hon.wdi
   have FDN:Hid ((Q.zKE (zCF (Q.runs ts) (some s) rest2)).foldl Q.zLc (Q.zLc an (Q.zLj (s.wd,s.ds)))=fin):=by
    have h3:=FD.out
    rw[hcs,List.foldl_cons] at h3
    exact h3
   have HLN:Hid ((Q.zKE (zCF (Q.runs ts) (some s) rest2)).length+1=μ wr):=by
    have h3:=HL.out
    rw[hcs,List.length_cons] at h3
    exact h3
   have hrows:(Q.zLc an (Q.zLj (s.wd,s.ds))).rows.length<100000000:=by
    have h3:=Q.zMm _ Q.srcCand_rows (Q.zKE (zCF (Q.runs ts) (some s) rest2)) (Q.zLc an (Q.zLj (s.wd,s.ds)))
    have h4:=HFIN.out
    rw[FDN.out] at h3
    omega
   have HROWS:=zAa hrows
   have HEV:=zAa (Q.factsOf_events s.wd.events)
   clear hnow hon hwk hcs hnb hgs HF2 hrows FD HL BO HCS NOW HON
   obtain⟨⟨ev,rg,⟨n,fev,g1,g2,g3,g4,g5,g6,g7,g8,g9⟩,cv,cvs,rgb,rgd⟩,wd,dr,rr⟩:=s
   simp only at hfev hfc k10 k11 k12 hev hrg REL2 FI2 WI2 HWK HEV
   subst hfev
   subst hev
   subst hrg
   have k0:w2.cell? ⟨gc,2,none⟩=some (.slice fx n fcp):=hfc 0 _ rfl
   have k1:w2.cell? ⟨gc,3,none⟩=some (.slice (some ⟨g1,0,none⟩) n n):=hfc 1 _ rfl
   have k2:w2.cell? ⟨gc,4,none⟩=some (.slice (some ⟨g2,0,none⟩) n n):=hfc 2 _ rfl
   have k3:w2.cell? ⟨gc,5,none⟩=some (.slice (some ⟨g3,0,none⟩) n n):=hfc 3 _ rfl
   have k4:w2.cell? ⟨gc,6,none⟩=some (.slice (some ⟨g4,0,none⟩) n n):=hfc 4 _ rfl
   have k5:w2.cell? ⟨gc,7,none⟩=some (.slice (some ⟨g5,0,none⟩) n n):=hfc 5 _ rfl
   have k6:w2.cell? ⟨gc,8,none⟩=some (.slice (some ⟨g6,0,none⟩) n n):=hfc 6 _ rfl
   have k7:w2.cell? ⟨gc,9,none⟩=some (.slice (some ⟨g7,0,none⟩) n n):=hfc 7 _ rfl
   have k8:w2.cell? ⟨gc,10,none⟩=some (.slice (some ⟨g8,0,none⟩) n n):=hfc 8 _ rfl
   have k9:w2.cell? ⟨gc,11,none⟩=some (.slice (some ⟨g9,0,none⟩) n n):=hfc 9 _ rfl
   clear hfc
   go_upto_region 5 with (first
    | (go_at_call 36;refine (zFh (FA.mk n (.slice fx n fcp) g1 g2 g3 g4 g5 g6 g7 g8 g9) (Q.zKw wd.events) gr (Q.zLj (wd,dr)).reads _ FI2.out REL2.out).mono ?_;rintro e w3 ⟨q3,rfl,hq3,hb3⟩;have B3:=zAa hb3;have RQ3:=zAa hq3;clear hq3 hb3))
   have KA:Hid ((w3.alloc (.cells #[.slice (some ⟨q3,0,none⟩) n n] 68)).heap[w3.heap.size]?=some (.cells #[.slice (some ⟨q3,0,none⟩) n n] 68 (0,0))):=heap_alloc_new w3 _
   have BA:Hid (Below w3.heap.size w3 (w3.alloc (.cells #[.slice (some ⟨q3,0,none⟩) n n] 68))):=(Below.refl _ _).alloc (Nat.le_refl _) _
   generalize w3.alloc (.cells #[.slice (some ⟨q3,0,none⟩) n n] 68)=Va at *
   have BV:=zAa (zAr B3.out (Nat.le_refl _) BA.out)
   have BO3:=zAa (B2.out.below BV.out)
   have FI3:=zAa (FI2.out.below BV.out)
   have WI3:=zAa (WI2.out.below BV.out)
   have RL3:=zAa (REL2.out.below BV.out)
   have RB3:=zAa (RQ3.out.below BA.out)
   obtain⟨ka0,ka1,ka2⟩:=zAo KA.out
   have lgv:=Nat.lt_of_lt_of_le l2 BV.out.size
   have lgg:=BO3.out.ans.out.lt
   have m0:=cfL BV.out l2 k0
   have m1:=cfL BV.out l2 k1
   have m2:=cfL BV.out l2 k2
   have m3:=cfL BV.out l2 k3
   have m4:=cfL BV.out l2 k4
   have m5:=cfL BV.out l2 k5
   have m6:=cfL BV.out l2 k6
   have m7:=cfL BV.out l2 k7
   have m8:=cfL BV.out l2 k8
   have m9:=cfL BV.out l2 k9
   have m10:=cfL BV.out l2 k10
   have m11:=cfL BV.out l2 k11
   have m12:=cfL BV.out l2 k12
   generalize hbb:w3.heap.size=bb at *
   clear hbb BA B3 RQ3 KA k0 k1 k2 k3 k4 k5 k6 k7 k8 k9 k10 k11 k12
   go_wp2_with (first
    | (go_at_call 37;refine (zED (w.heap.size+1) an ov vs1 fp _ _ wd (FA.mk n (.slice fx n fcp) g1 g2 g3 g4 g5 g6 g7 g8 g9) (Q.zKw wd.events) gr (Q.zLj (wd,dr)).reads q3 ((Q.zKw wd.events).before (Q.zLj (wd,dr)).reads) _ BO3.out.ans WI3.out HWK.out FI3.out HEV.out RL3.out RB3.out (fun k e=>BO3.out.nb k ⟨_,rfl,Or.inl e⟩) HROWS.out).mono ?_;rintro e w4 ⟨rfl,ov4,vs4,fp4,hA4,hF4⟩;have BO4:=zAa (BO3.out.grow hA4 hF4);clear hA4 hF4))
   have hR:zGo w gc (w.heap.size+1) A (Q.runs ts) Q.zLc fin w4 (Q.zKE (zCF (Q.runs ts) (some ⟨⟨.slice ea wd.events.length ec,.slice ra wd.regs.length rc,(FA.mk n (.slice fx n fcp) g1 g2 g3 g4 g5 g6 g7 g8 g9),cv,cvs,rgb,rgd⟩,wd,dr,rr⟩) rest2)).length:=⟨_,_,_,_,_,_,_,BO4.out,FDN.out,rfl⟩
   go_roundw
   case rel=>exact⟨_,hR⟩
   case measure =>
    have h1:=(HMU.out _ ⟨_,hR⟩).2 _ hR
    have h2:=HLN.out
    omega
end Go.Proofs.YtgceflcbckjjiaaGreatDoor
