import Derived.Test.YtgceflcbckjjiaaGreatDoorB33
set_option linter.unusedVariables false
set_option linter.unusedSimpArgs false
namespace Go.Proofs.YtgceflcbckjjiaaGreatDoor
open Go Go.RowKit
set_option maxRecDepth 100000
set_option maxHeartbeats 1600000 in
theorem baseOf_any (ga:Nat) (ah:List Nat) (gl:Nat) (lk:List Nat) (n:Nat) (w:World) (ha:RelAt w ga n ah) (hl:RelAt w gl n lk) :
  Calls Tryz.prog 143 #[.agg #[.slice (some ⟨ga,0,none⟩) n n],.agg #[.slice (some ⟨gl,0,none⟩) n n]] w fun e w'=>RelR w w' n (Q.baseOf ah lk) e:=by
 obtain⟨k0,k1,k2,hsz,hbw⟩:=boxes3 w #[.slice (some ⟨ga,0,none⟩) n n] #[.slice (some ⟨gl,0,none⟩) n n] #[.slice none 0 0] 68 68 68
 have Ra:=hide (ha.below hbw)
 have Rl:=hide (hl.below hbw)
 have BW0:=hide hbw
 clear hbw ha hl
 go_enter Tryz.func143,Tryz.ntmps143
 go_upto_region 1 with fail
 generalize hE:(((w.alloc (.cells #[.slice (some ⟨ga,0,none⟩) n n] 68)).alloc (.cells #[.slice (some ⟨gl,0,none⟩) n n] 68)).alloc (.cells #[.slice none 0 0] 68))=W0 at *
 have c0_0_0:W0.cell? ⟨w.heap.size,0,none⟩=some (.slice (some ⟨ga,0,none⟩) n n):=by simp[World.cell?,k0]
 have l0_0:w.heap.size<W0.heap.size:=by omega
 have f0_0:∀ j,W0.frozen? ⟨w.heap.size,j,none⟩=false:=fun j=>by simp[World.frozen?,k0]
 have K0_0:=hide k0
 have c0_1_0:W0.cell? ⟨w.heap.size+1,0,none⟩=some (.slice (some ⟨gl,0,none⟩) n n):=by simp[World.cell?,k1]
 have l0_1:w.heap.size+1<W0.heap.size:=by omega
 have f0_1:∀ j,W0.frozen? ⟨w.heap.size+1,j,none⟩=false:=fun j=>by simp[World.frozen?,k1]
 have K0_1:=hide k1
 have c0_2_0:W0.cell? ⟨w.heap.size+2,0,none⟩=some (.slice none 0 0):=by simp[World.cell?,k2]
 have l0_2:w.heap.size+2<W0.heap.size:=by omega
 have f0_2:∀ j,W0.frozen? ⟨w.heap.size+2,j,none⟩=false:=fun j=>by simp[World.frozen?,k2]
 have K0_2:=hide k2
 have hsq0:w.heap.size+3≤W0.heap.size:=by omega
 clear hE hsz k0 k1 k2
 go_cut [5] from 6 to 10 (fun p wx=>∃ gx qx,p=.pointer (some ⟨gx,0,none⟩)∧wx.heap[gx]?=some (.cells #[.slice (some ⟨qx,0,none⟩) n n] 68 (0,0))∧RelAt wx qx n (Q.orR lk (Q.thenR lk ah))∧Below W0.heap.size W0 wx∧W0.heap.size≤gx)
 case first =>
  clear c0_2_0 f0_0 f0_1 f0_2
  have hgeW:=Nat.le_refl W0.heap.size
  go_region_held3 (fun w'=>w'.cell? ⟨w.heap.size,0,none⟩=some (.slice (some ⟨ga,0,none⟩) n n)∧w'.cell? ⟨w.heap.size+1,0,none⟩=some (.slice (some ⟨gl,0,none⟩) n n)) (first | exact⟨c0_0_0,c0_1_0⟩ | exact⟨(cell_al l0_0).trans c0_0_0,(cell_al l0_1).trans c0_1_0⟩ | exact⟨c1_0_0,c1_0_1⟩ | exact⟨(cell_al e1_0_0).trans c1_0_0,(cell_al e1_0_1).trans c1_0_1⟩ | exact⟨c1_1_0,c1_1_1⟩ | exact⟨(cell_al e1_1_0).trans c1_1_0,(cell_al e1_1_1).trans c1_1_1⟩ | exact⟨(cell_set_ne (by omega)).trans c1_1_0,(cell_set_ne (by omega)).trans c1_1_1⟩) (first
   | (go_at_call_of 67 (Value.slice (some ⟨gl,0,none⟩) n n);refine (or_rel gl q0_0 n _ _ _ (Rl.out.below (by first | exact B0_0.out | exact B0_0.out.alloc B0_0.out.size _)) (by first | exact Q0_0.out | exact Q0_0.out.below ((Below.refl _ _).alloc (Nat.le_refl _) _))).mono ?_;rintro e w0_1 ⟨q0_1,rfl,hq0_1,hb0_1⟩;have B0_1:Hid (Below W0.heap.size W0 w0_1):=(by first | exact bstep B0_0.out (Nat.le_refl _) hb0_1 | exact bstep (B0_0.out.alloc B0_0.out.size _) (Nat.le_refl _) hb0_1);have c1_1_0:=(B0_1.out.cell (p:=⟨w.heap.size,0,none⟩) l0_0).trans c0_0_0;have c1_1_1:=(B0_1.out.cell (p:=⟨w.heap.size+1,0,none⟩) l0_1).trans c0_1_0;have e1_1_0:=Nat.lt_of_lt_of_le l0_0 B0_1.out.size;have e1_1_1:=Nat.lt_of_lt_of_le l0_1 B0_1.out.size;(try (have bx1:w0_1.cell? ⟨w0_0.heap.size,0,none⟩=some (.slice none 0 0)∧w0_1.frozen? ⟨w0_0.heap.size,0,none⟩=false∧w0_1.heap[w0_0.heap.size]?=some (.cells #[.slice none 0 0] 68 (0,0)):=(by first | exact box_on hb0_1 | exact box_on (w:=w0_0.drew) hb0_1)));(try (have by1_0:w0_1.cell? ⟨W0.heap.size,0,none⟩=some (.slice none 0 0)∧w0_1.frozen? ⟨W0.heap.size,0,none⟩=false∧w0_1.heap[W0.heap.size]?=some (.cells #[.slice none 0 0] 68 (0,0)):=box_go hb0_1 bx0));(try have bc:=bx1.1);(try have bf:=bx1.2.1);(try have bc:=by1_0.1);(try have bf:=by1_0.2.1);have Q0_1:=hide hq0_1;clear hq0_1)
   | (go_at_call_of 113 (Value.slice (some ⟨gl,0,none⟩) n n);refine (then_rel gl ga n _ _ _ (Rl.out.below (by first | exact (Below.refl _ _).drew | exact ((Below.refl _ _).drew).alloc (by simp) _)) (Ra.out.below (by first | exact (Below.refl _ _).drew | exact ((Below.refl _ _).drew).alloc (by simp) _))).mono ?_;rintro e w0_0 ⟨q0_0,rfl,hq0_0,hb0_0⟩;have B0_0:Hid (Below W0.heap.size W0 w0_0):=(by first | exact ((Below.refl W0.heap.size W0).drew).trans (hb0_0.mono (by simp)) | exact (((Below.refl W0.heap.size W0).drew).alloc (by simp) _).trans (hb0_0.mono (by simp)));have c1_0_0:=(B0_0.out.cell (p:=⟨w.heap.size,0,none⟩) l0_0).trans c0_0_0;have c1_0_1:=(B0_0.out.cell (p:=⟨w.heap.size+1,0,none⟩) l0_1).trans c0_1_0;have e1_0_0:=Nat.lt_of_lt_of_le l0_0 B0_0.out.size;have e1_0_1:=Nat.lt_of_lt_of_le l0_1 B0_0.out.size;(try (have bx0:w0_0.cell? ⟨W0.heap.size,0,none⟩=some (.slice none 0 0)∧w0_0.frozen? ⟨W0.heap.size,0,none⟩=false∧w0_0.heap[W0.heap.size]?=some (.cells #[.slice none 0 0] 68 (0,0)):=(by first | exact box_on hb0_0 | exact box_on (w:=W0.drew) hb0_0)));(try have bc:=bx0.1);(try have bf:=bx0.2.1);have Q0_0:=hide hq0_0;clear hq0_0))
  all_goals
   (try go_wp2)
   go_meet
   case rel=>first | exact box_end0 B0_1.out Q0_1.out | exact box_end1 B0_1.out hgeW Q0_1.out by1_0.2.2 | exact box_end1 B0_1.out B0_0.out.size Q0_1.out bx1.2.2
 case rest =>
 obtain⟨gx1,qx1,rfl,kx1,hqx1,hbx1,hgx1⟩:=hcut
 have R1_0:=hide (Ra.out.below hbx1)
 have R1_1:=hide (Rl.out.below hbx1)
 have R1_2:=hide hqx1
 have BW1:=hide (bstep BW0.out (Nat.le_refl _) hbx1)
 have d1_0:=(hbx1.cell (p:=⟨w.heap.size,0,none⟩) l0_0).trans c0_0_0
 have d1_1:=(hbx1.cell (p:=⟨w.heap.size+1,0,none⟩) l0_1).trans c0_1_0
 have d1_2:=(hbx1.cell (p:=⟨w.heap.size+2,0,none⟩) l0_2).trans c0_2_0
 have f1_0:∀ j,wc.frozen? ⟨w.heap.size,j,none⟩=false:=fun j=>(hbx1.frozen (p:=⟨w.heap.size,j,none⟩) l0_0).trans (f0_0 j)
 have l1_0:=Nat.lt_of_lt_of_le l0_0 hbx1.size
 have K1_0:=hide ((hbx1.block _ l0_0).trans K0_0.out)
 have f1_1:∀ j,wc.frozen? ⟨w.heap.size+1,j,none⟩=false:=fun j=>(hbx1.frozen (p:=⟨w.heap.size+1,j,none⟩) l0_1).trans (f0_1 j)
 have l1_1:=Nat.lt_of_lt_of_le l0_1 hbx1.size
 have K1_1:=hide ((hbx1.block _ l0_1).trans K0_1.out)
 have f1_2:∀ j,wc.frozen? ⟨w.heap.size+2,j,none⟩=false:=fun j=>(hbx1.frozen (p:=⟨w.heap.size+2,j,none⟩) l0_2).trans (f0_2 j)
 have l1_2:=Nat.lt_of_lt_of_le l0_2 hbx1.size
 have K1_2:=hide ((hbx1.block _ l0_2).trans K0_2.out)
 obtain⟨cn1,fn1,ln1⟩:=one_cellR kx1
 have KN1:=hide kx1
 clear kx1 hqx1 hbx1 c0_0_0 c0_1_0 c0_2_0
 go_upto_region 2 with fail
 clear d1_1
 clear f1_0 f1_1 fn1
 go_region_held3 (fun w'=>w'.cell? ⟨w.heap.size,0,none⟩=some (.slice (some ⟨ga,0,none⟩) n n)∧w'.cell? ⟨gx1,0,none⟩=some (.slice (some ⟨qx1,0,none⟩) n n)) (first | exact⟨d1_0,cn1⟩ | exact⟨c2_0_0,c2_0_1⟩ | exact⟨c2_1_0,c2_1_1⟩ | exact⟨c2_2_0,c2_2_1⟩ | exact⟨(cell_set_ne (by omega)).trans c2_2_0,(cell_set_ne (by omega)).trans c2_2_1⟩) (first
  | (go_at_call_of 68 (Value.slice (some ⟨q1_1,0,none⟩) n n);refine (closed_rel q1_1 n _ _ Q1_1.out).mono ?_;rintro e w1_2 ⟨q1_2,rfl,hq1_2,hb1_2⟩;have B1_2:Hid (Below wc.heap.size wc w1_2):=bstep B1_1.out (Nat.le_refl _) hb1_2;have c2_2_0:=(B1_2.out.cell (p:=⟨w.heap.size,0,none⟩) l1_0).trans d1_0;have c2_2_1:=(B1_2.out.cell (p:=⟨gx1,0,none⟩) ln1).trans cn1;have z2_2:=(B1_2.out.frozen (p:=⟨w.heap.size+2,0,none⟩) l1_2).trans (f1_2 0);have y2_2:=(B1_2.out.cell (p:=⟨w.heap.size+2,0,none⟩) l1_2).trans d1_2;have Q1_2:=hide hq1_2;clear hq1_2)
  | (go_at_call_of 67 (Value.slice (some ⟨qx1,0,none⟩) n n);refine (or_rel qx1 q1_0 n _ _ _ (R1_2.out.below B1_0.out) Q1_0.out).mono ?_;rintro e w1_1 ⟨q1_1,rfl,hq1_1,hb1_1⟩;have B1_1:Hid (Below wc.heap.size wc w1_1):=bstep B1_0.out (Nat.le_refl _) hb1_1;have c2_1_0:=(B1_1.out.cell (p:=⟨w.heap.size,0,none⟩) l1_0).trans d1_0;have c2_1_1:=(B1_1.out.cell (p:=⟨gx1,0,none⟩) ln1).trans cn1;have z2_1:=(B1_1.out.frozen (p:=⟨w.heap.size+2,0,none⟩) l1_2).trans (f1_2 0);have y2_1:=(B1_1.out.cell (p:=⟨w.heap.size+2,0,none⟩) l1_2).trans d1_2;have Q1_1:=hide hq1_1;clear hq1_1)
  | (go_at_call_of 113 (Value.slice (some ⟨ga,0,none⟩) n n);refine (then_rel ga qx1 n _ _ _ (R1_0.out.below (Below.refl _ _).drew) (R1_2.out.below (Below.refl _ _).drew)).mono ?_;rintro e w1_0 ⟨q1_0,rfl,hq1_0,hb1_0⟩;have B1_0:Hid (Below wc.heap.size wc w1_0):=((Below.refl wc.heap.size wc).drew).trans (hb1_0.mono (by simp));have c2_0_0:=(B1_0.out.cell (p:=⟨w.heap.size,0,none⟩) l1_0).trans d1_0;have c2_0_1:=(B1_0.out.cell (p:=⟨gx1,0,none⟩) ln1).trans cn1;have z2_0:=(B1_0.out.frozen (p:=⟨w.heap.size+2,0,none⟩) l1_2).trans (f1_2 0);have y2_0:=(B1_0.out.cell (p:=⟨w.heap.size+2,0,none⟩) l1_2).trans d1_2;have Q1_0:=hide hq1_0;clear hq1_0))
 all_goals
  (try go_wp2)
  have KR:=setCell_block ((B1_2.out.block _ l1_2).trans K1_2.out) 0 (.slice (some ⟨q1_2,0,none⟩) n n)
  refine ret_rel (p:=4) (w.heap.size+2) _ (by kernel_rfl) rfl (by exact KR) rfl ⟨q1_2,rfl,⟨(Q1_2.out).at_.of_block (Below.heap_setCell _ _ _ _ (by have:=Q1_2.out.at_;unfold SetsAt at this;intro e;rw[e] at this;rw[(B1_2.out.block _ l1_2).trans K1_2.out] at this;simp at this)),(Q1_2.out).len,(Q1_2.out).fits⟩,(bstep BW1.out (Nat.le_refl _) B1_2.out).setCell (p:=⟨w.heap.size+2,0,none⟩) (by simp) _⟩
set_option maxHeartbeats 1600000 in
theorem cause_any (a:FA) (f:Q.Facts) (gr:Nat) (rd:List Nat) (gs:Nat) (sees:List Nat) (gl:Nat) (lk:List Nat) (w:World) (hf:FactsIn w a f) (hr:RelAt w gr a.n rd) (hs:RelAt w gs a.n sees) (hl:RelAt w gl a.n lk) :
  Calls Tryz.prog 92 #[.agg (candT a gr),.agg #[.slice (some ⟨gs,0,none⟩) a.n a.n],.agg #[.slice (some ⟨gl,0,none⟩) a.n a.n]] w fun e w'=>RelR w w' a.n (f.cause sees lk) e:=by
 obtain⟨x,c,hev,_⟩:=hf.form
 obtain⟨n,ev,g1,g2,g3,g4,g5,g6,g7,g8,g9⟩:=a
 simp only at hev hr hs hl
 subst hev
 simp only[facCells,candT]
 obtain⟨k0,k1,k2,k3,hsz,hbw⟩:=boxes4 w #[.slice x n c,.slice (some ⟨g1,0,none⟩) n n,.slice (some ⟨g2,0,none⟩) n n,.slice (some ⟨g3,0,none⟩) n n,.slice (some ⟨g4,0,none⟩) n n,.slice (some ⟨g5,0,none⟩) n n,.slice (some ⟨g6,0,none⟩) n n,.slice (some ⟨g7,0,none⟩) n n,.slice (some ⟨g8,0,none⟩) n n,.slice (some ⟨g9,0,none⟩) n n,.slice (some ⟨gr,0,none⟩) n n] #[.slice (some ⟨gs,0,none⟩) n n] #[.slice (some ⟨gl,0,none⟩) n n] #[.slice none 0 0] 101 68 68 68
 have HF:=hide (hf.below hbw)
 have Rr:=hide (hr.below hbw)
 have Rs:=hide (hs.below hbw)
 have Rl:=hide (hl.below hbw)
 have BW0:=hide hbw
 clear hbw hf hr hs hl
 go_enter Tryz.func92,Tryz.ntmps92
 go_upto_region 1 with fail
 generalize hE:((((w.alloc (.cells #[.slice x n c,.slice (some ⟨g1,0,none⟩) n n,.slice (some ⟨g2,0,none⟩) n n,.slice (some ⟨g3,0,none⟩) n n,.slice (some ⟨g4,0,none⟩) n n,.slice (some ⟨g5,0,none⟩) n n,.slice (some ⟨g6,0,none⟩) n n,.slice (some ⟨g7,0,none⟩) n n,.slice (some ⟨g8,0,none⟩) n n,.slice (some ⟨g9,0,none⟩) n n,.slice (some ⟨gr,0,none⟩) n n] 101)).alloc (.cells #[.slice (some ⟨gs,0,none⟩) n n] 68)).alloc (.cells #[.slice (some ⟨gl,0,none⟩) n n] 68)).alloc (.cells #[.slice none 0 0] 68))=W0 at *
 have c0_0_0:W0.cell? ⟨w.heap.size,0,none⟩=some (.slice x n c):=by simp[World.cell?,k0]
 have c0_0_1:W0.cell? ⟨w.heap.size,1,none⟩=some (.slice (some ⟨g1,0,none⟩) n n):=by simp[World.cell?,k0]
 have c0_0_2:W0.cell? ⟨w.heap.size,2,none⟩=some (.slice (some ⟨g2,0,none⟩) n n):=by simp[World.cell?,k0]
 have c0_0_3:W0.cell? ⟨w.heap.size,3,none⟩=some (.slice (some ⟨g3,0,none⟩) n n):=by simp[World.cell?,k0]
 have c0_0_4:W0.cell? ⟨w.heap.size,4,none⟩=some (.slice (some ⟨g4,0,none⟩) n n):=by simp[World.cell?,k0]
 have c0_0_5:W0.cell? ⟨w.heap.size,5,none⟩=some (.slice (some ⟨g5,0,none⟩) n n):=by simp[World.cell?,k0]
 have c0_0_6:W0.cell? ⟨w.heap.size,6,none⟩=some (.slice (some ⟨g6,0,none⟩) n n):=by simp[World.cell?,k0]
 have c0_0_7:W0.cell? ⟨w.heap.size,7,none⟩=some (.slice (some ⟨g7,0,none⟩) n n):=by simp[World.cell?,k0]
 have c0_0_8:W0.cell? ⟨w.heap.size,8,none⟩=some (.slice (some ⟨g8,0,none⟩) n n):=by simp[World.cell?,k0]
 have c0_0_9:W0.cell? ⟨w.heap.size,9,none⟩=some (.slice (some ⟨g9,0,none⟩) n n):=by simp[World.cell?,k0]
 have c0_0_10:W0.cell? ⟨w.heap.size,10,none⟩=some (.slice (some ⟨gr,0,none⟩) n n):=by simp[World.cell?,k0]
 have l0_0:w.heap.size<W0.heap.size:=by omega
 have f0_0:∀ j,W0.frozen? ⟨w.heap.size,j,none⟩=false:=fun j=>by simp[World.frozen?,k0]
 have K0_0:=hide k0
 have c0_1_0:W0.cell? ⟨w.heap.size+1,0,none⟩=some (.slice (some ⟨gs,0,none⟩) n n):=by simp[World.cell?,k1]
 have l0_1:w.heap.size+1<W0.heap.size:=by omega
 have f0_1:∀ j,W0.frozen? ⟨w.heap.size+1,j,none⟩=false:=fun j=>by simp[World.frozen?,k1]
 have K0_1:=hide k1
 have c0_2_0:W0.cell? ⟨w.heap.size+2,0,none⟩=some (.slice (some ⟨gl,0,none⟩) n n):=by simp[World.cell?,k2]
 have l0_2:w.heap.size+2<W0.heap.size:=by omega
 have f0_2:∀ j,W0.frozen? ⟨w.heap.size+2,j,none⟩=false:=fun j=>by simp[World.frozen?,k2]
 have K0_2:=hide k2
 have c0_3_0:W0.cell? ⟨w.heap.size+3,0,none⟩=some (.slice none 0 0):=by simp[World.cell?,k3]
 have l0_3:w.heap.size+3<W0.heap.size:=by omega
 have f0_3:∀ j,W0.frozen? ⟨w.heap.size+3,j,none⟩=false:=fun j=>by simp[World.frozen?,k3]
 have K0_3:=hide k3
 have hsq0:w.heap.size+4≤W0.heap.size:=by omega
 clear hE hsz k0 k1 k2 k3
 go_upto_region 2 with (first
  | (go_at_call 143;refine (baseOf_any g1 _ gl _ n _ (HF.out.r1.below (Below.refl _ _)) (Rl.out.below (Below.refl _ _))).mono ?_;rintro e w0_0 ⟨q0_0,rfl,hq0_0,hb0_0⟩;have B0_0:Hid (Below W0.heap.size W0 w0_0):=hb0_0;have Q0_0:=hide hq0_0;clear hq0_0))
 have k1_n:=heap_alloc_new w0_0 (.cells #[.slice (some ⟨q0_0,0,none⟩) n n] 68)
 have BX:Below W0.heap.size W0 (w0_0.alloc (.cells #[.slice (some ⟨q0_0,0,none⟩) n n] 68)):=B0_0.out.alloc B0_0.out.size _
 have hsq1:=B0_0.out.size
 have hwz:=BX.size
 have HF1:=hide (HF.out.below BX)
 have R1_0:=hide (Rr.out.below BX)
 have R1_1:=hide (Rs.out.below BX)
 have R1_2:=hide (Rl.out.below BX)
 have R1_3:=hide (Q0_0.out.below ((Below.refl _ _).alloc (Nat.le_refl _) (.cells #[.slice (some ⟨q0_0,0,none⟩) n n] 68)))
 have BW1:=hide (bstep BW0.out (Nat.le_refl _) BX)
 have d1_0:=(BX.cell (p:=⟨w.heap.size,0,none⟩) l0_0).trans c0_0_0
 have d1_1:=(BX.cell (p:=⟨w.heap.size,1,none⟩) l0_0).trans c0_0_1
 have d1_2:=(BX.cell (p:=⟨w.heap.size,2,none⟩) l0_0).trans c0_0_2
 have d1_3:=(BX.cell (p:=⟨w.heap.size,3,none⟩) l0_0).trans c0_0_3
 have d1_4:=(BX.cell (p:=⟨w.heap.size,4,none⟩) l0_0).trans c0_0_4
 have d1_5:=(BX.cell (p:=⟨w.heap.size,5,none⟩) l0_0).trans c0_0_5
 have d1_6:=(BX.cell (p:=⟨w.heap.size,6,none⟩) l0_0).trans c0_0_6
 have d1_7:=(BX.cell (p:=⟨w.heap.size,7,none⟩) l0_0).trans c0_0_7
 have d1_8:=(BX.cell (p:=⟨w.heap.size,8,none⟩) l0_0).trans c0_0_8
 have d1_9:=(BX.cell (p:=⟨w.heap.size,9,none⟩) l0_0).trans c0_0_9
 have d1_10:=(BX.cell (p:=⟨w.heap.size,10,none⟩) l0_0).trans c0_0_10
 have d1_11:=(BX.cell (p:=⟨w.heap.size+1,0,none⟩) l0_1).trans c0_1_0
 have d1_12:=(BX.cell (p:=⟨w.heap.size+2,0,none⟩) l0_2).trans c0_2_0
 have d1_13:=(BX.cell (p:=⟨w.heap.size+3,0,none⟩) l0_3).trans c0_3_0
 have f1_0:∀ j,(w0_0.alloc (.cells #[.slice (some ⟨q0_0,0,none⟩) n n] 68)).frozen? ⟨w.heap.size,j,none⟩=false:=fun j=>(BX.frozen (p:=⟨w.heap.size,j,none⟩) l0_0).trans (f0_0 j)
 have l1_0:=Nat.lt_of_lt_of_le l0_0 hwz
 have K1_0:=hide ((BX.block _ l0_0).trans K0_0.out)
 have f1_1:∀ j,(w0_0.alloc (.cells #[.slice (some ⟨q0_0,0,none⟩) n n] 68)).frozen? ⟨w.heap.size+1,j,none⟩=false:=fun j=>(BX.frozen (p:=⟨w.heap.size+1,j,none⟩) l0_1).trans (f0_1 j)
 have l1_1:=Nat.lt_of_lt_of_le l0_1 hwz
 have K1_1:=hide ((BX.block _ l0_1).trans K0_1.out)
 have f1_2:∀ j,(w0_0.alloc (.cells #[.slice (some ⟨q0_0,0,none⟩) n n] 68)).frozen? ⟨w.heap.size+2,j,none⟩=false:=fun j=>(BX.frozen (p:=⟨w.heap.size+2,j,none⟩) l0_2).trans (f0_2 j)
 have l1_2:=Nat.lt_of_lt_of_le l0_2 hwz
 have K1_2:=hide ((BX.block _ l0_2).trans K0_2.out)
 have f1_3:∀ j,(w0_0.alloc (.cells #[.slice (some ⟨q0_0,0,none⟩) n n] 68)).frozen? ⟨w.heap.size+3,j,none⟩=false:=fun j=>(BX.frozen (p:=⟨w.heap.size+3,j,none⟩) l0_3).trans (f0_3 j)
 have l1_3:=Nat.lt_of_lt_of_le l0_3 hwz
 have K1_3:=hide ((BX.block _ l0_3).trans K0_3.out)
 have hn1:w0_0.heap.size<(w0_0.alloc (.cells #[.slice (some ⟨q0_0,0,none⟩) n n] 68)).heap.size:=by simp
 clear BX hwz
 generalize hE1:w0_0.alloc (.cells #[.slice (some ⟨q0_0,0,none⟩) n n] 68)=W1 at *
 obtain⟨cn1,fn1,ln1⟩:=one_cellR k1_n
 have fm1:∀ j,W1.frozen? ⟨w0_0.heap.size,j,none⟩=false:=fun j=>by simp[World.frozen?,k1_n]
 have KN1:=hide k1_n
 clear k1_n hE1 hn1
 clear c0_0_0 c0_0_1 c0_0_2 c0_0_3 c0_0_4 c0_0_5 c0_0_6 c0_0_7 c0_0_8 c0_0_9 c0_0_10 c0_1_0 c0_2_0 c0_3_0
 clear d1_0 d1_2 d1_3 d1_4 d1_5 d1_6 d1_7 d1_8 d1_9 d1_10 d1_12
 clear f1_0 f1_1 f1_2 fm1
 go_region_held3 (fun w'=>w'.cell? ⟨w.heap.size,1,none⟩=some (.slice (some ⟨g1,0,none⟩) n n)∧w'.cell? ⟨w.heap.size+1,0,none⟩=some (.slice (some ⟨gs,0,none⟩) n n)∧w'.cell? ⟨w0_0.heap.size,0,none⟩=some (.slice (some ⟨q0_0,0,none⟩) n n)) (first | exact⟨d1_1,d1_11,cn1⟩ | exact⟨c2_0_0,c2_0_1,c2_0_2⟩ | exact⟨c2_1_0,c2_1_1,c2_1_2⟩ | exact⟨c2_2_0,c2_2_1,c2_2_2⟩ | exact⟨c2_3_0,c2_3_1,c2_3_2⟩ | exact⟨(cell_set_ne (by omega)).trans c2_3_0,(cell_set_ne (by omega)).trans c2_3_1,(cell_set_ne (by omega)).trans c2_3_2⟩) (first
  | (go_at_call_of 67 (Value.slice (some ⟨q1_0,0,none⟩) n n);refine (or_rel q1_0 q1_2 n _ _ _ ((Q1_0.out.below hb1_1).below hb1_2) Q1_2.out).mono ?_;rintro e w1_3 ⟨q1_3,rfl,hq1_3,hb1_3⟩;have B1_3:Hid (Below W1.heap.size W1 w1_3):=bstep B1_2.out (Nat.le_refl _) hb1_3;have c2_3_0:=(B1_3.out.cell (p:=⟨w.heap.size,1,none⟩) l1_0).trans d1_1;have c2_3_1:=(B1_3.out.cell (p:=⟨w.heap.size+1,0,none⟩) l1_1).trans d1_11;have c2_3_2:=(B1_3.out.cell (p:=⟨w0_0.heap.size,0,none⟩) ln1).trans cn1;have z2_3:=(B1_3.out.frozen (p:=⟨w.heap.size+3,0,none⟩) l1_3).trans (f1_3 0);have y2_3:=(B1_3.out.cell (p:=⟨w.heap.size+3,0,none⟩) l1_3).trans d1_13;have Q1_3:=hide hq1_3;clear hq1_3)
  | (go_at_call_of 113 (Value.slice (some ⟨q1_1,0,none⟩) n n);refine (then_rel q1_1 q0_0 n _ _ _ Q1_1.out (R1_3.out.below B1_1.out)).mono ?_;rintro e w1_2 ⟨q1_2,rfl,hq1_2,hb1_2⟩;have B1_2:Hid (Below W1.heap.size W1 w1_2):=bstep B1_1.out (Nat.le_refl _) hb1_2;have c2_2_0:=(B1_2.out.cell (p:=⟨w.heap.size,1,none⟩) l1_0).trans d1_1;have c2_2_1:=(B1_2.out.cell (p:=⟨w.heap.size+1,0,none⟩) l1_1).trans d1_11;have c2_2_2:=(B1_2.out.cell (p:=⟨w0_0.heap.size,0,none⟩) ln1).trans cn1;have z2_2:=(B1_2.out.frozen (p:=⟨w.heap.size+3,0,none⟩) l1_3).trans (f1_3 0);have y2_2:=(B1_2.out.cell (p:=⟨w.heap.size+3,0,none⟩) l1_3).trans d1_13;have Q1_2:=hide hq1_2;clear hq1_2)
  | (go_at_call_of 144 (Value.slice (some ⟨gs,0,none⟩) n n);refine (turned_rel gs n _ _ (R1_1.out.below B1_0.out)).mono ?_;rintro e w1_1 ⟨q1_1,rfl,hq1_1,hb1_1⟩;have B1_1:Hid (Below W1.heap.size W1 w1_1):=bstep B1_0.out (Nat.le_refl _) hb1_1;have c2_1_0:=(B1_1.out.cell (p:=⟨w.heap.size,1,none⟩) l1_0).trans d1_1;have c2_1_1:=(B1_1.out.cell (p:=⟨w.heap.size+1,0,none⟩) l1_1).trans d1_11;have c2_1_2:=(B1_1.out.cell (p:=⟨w0_0.heap.size,0,none⟩) ln1).trans cn1;have z2_1:=(B1_1.out.frozen (p:=⟨w.heap.size+3,0,none⟩) l1_3).trans (f1_3 0);have y2_1:=(B1_1.out.cell (p:=⟨w.heap.size+3,0,none⟩) l1_3).trans d1_13;have Q1_1:=hide hq1_1;clear hq1_1)
  | (go_at_call_of 67 (Value.slice (some ⟨q0_0,0,none⟩) n n);refine (or_rel q0_0 g1 n _ _ _ (R1_3.out.below (Below.refl _ _).drew) (HF1.out.r1.below (Below.refl _ _).drew)).mono ?_;rintro e w1_0 ⟨q1_0,rfl,hq1_0,hb1_0⟩;have B1_0:Hid (Below W1.heap.size W1 w1_0):=((Below.refl W1.heap.size W1).drew).trans (hb1_0.mono (by simp));have c2_0_0:=(B1_0.out.cell (p:=⟨w.heap.size,1,none⟩) l1_0).trans d1_1;have c2_0_1:=(B1_0.out.cell (p:=⟨w.heap.size+1,0,none⟩) l1_1).trans d1_11;have c2_0_2:=(B1_0.out.cell (p:=⟨w0_0.heap.size,0,none⟩) ln1).trans cn1;have z2_0:=(B1_0.out.frozen (p:=⟨w.heap.size+3,0,none⟩) l1_3).trans (f1_3 0);have y2_0:=(B1_0.out.cell (p:=⟨w.heap.size+3,0,none⟩) l1_3).trans d1_13;have Q1_0:=hide hq1_0;clear hq1_0))
 all_goals
  (try go_wp2)
  have KR:=setCell_block ((B1_3.out.block _ l1_3).trans K1_3.out) 0 (.slice (some ⟨q1_3,0,none⟩) n n)
  refine ret_rel (p:=6) (w.heap.size+3) _ (by kernel_rfl) rfl (by exact KR) rfl ⟨q1_3,rfl,⟨(Q1_3.out).at_.of_block (Below.heap_setCell _ _ _ _ (by have:=Q1_3.out.at_;unfold SetsAt at this;intro e;rw[e] at this;rw[(B1_3.out.block _ l1_3).trans K1_3.out] at this;simp at this)),(Q1_3.out).len,(Q1_3.out).fits⟩,(bstep BW1.out (Nat.le_refl _) B1_3.out).setCell (p:=⟨w.heap.size+3,0,none⟩) (by simp) _⟩
namespace Q
def frowF (es:List Ev) (k:Nat):Int:=if isSC (ev es k) then 0 else -1
theorem fenceRows_range (es:List Ev):fenceRows es=(List.range es.length).map (frowF es):=by
 unfold fenceRows
 apply List.ext_getElem
 ·simp
 ·intro i h1 h2
  simp at h1
  simp[frowF,ev,h1]
end Q
set_option maxHeartbeats 6400000 in
theorem fenceOrders_any (ev rg:Value) (es:List Q.Ev) (w:World) (he:EvsIn w ev es) (hrg:∃ a n c,rg=.slice a n c) (hn:es.length≤64) :
  Calls Tryz.prog 90 #[.agg #[ev,rg]] w fun e w'=>OrdNew w w' (Q.fenceRows es) (Q.ordBases es (Q.fenceRows es)) e:=by
 have hmk:∀ w,(Instr.makeSlice 32 (.int .i64 (es.length:Int)) (.int .i64 (es.length:Int))).run Tryz.prog w=.ok (.slice (some ⟨w.heap.size,0,none⟩) es.length es.length) (w.alloc (.cells (madeCells #[.int .i64 0] es.length) 3)) :=
  fun w=>run_make_row' 32 3 (.int .i64 0) 8 Tryz.underlying32 Tryz.infoInt rfl .i64 .i64 es.length (by omega) (by omega) w
 obtain⟨ea,ec,rfl,hea⟩:=he.form
 obtain⟨ra,rn,rc,rfl⟩:=hrg
 obtain⟨k0,k1,hsz,hbw⟩:=boxes2 w #[.slice ea es.length ec,.slice ra rn rc] #[.slice none 0 0,.slice none 0 0,.slice none 0 0,.bool false] 65 124
 have HE0:=hide he
 have BW0:=hide hbw
 have HRO:Hid (Q.fenceRows es=(List.range es.length).map (Q.frowF es)):=Q.fenceRows_range es
 have HRL:Hid ((Q.fenceRows es).length=es.length):=by simp[Hid,Q.fenceRows]
 clear hbw he
 go_enter Tryz.func90,Tryz.ntmps90
 go_upto_region 1 with fail
 generalize hE:(w.alloc (.cells #[.slice ea es.length ec,.slice ra rn rc] 65)).alloc (.cells #[.slice none 0 0,.slice none 0 0,.slice none 0 0,.bool false] 124)=W0 at *
 have c00:W0.cell? ⟨w.heap.size,0,none⟩=some (.slice ea es.length ec):=by simp[World.cell?,k0]
 have c01:W0.cell? ⟨w.heap.size,1,none⟩=some (.slice ra rn rc):=by simp[World.cell?,k0]
 have l0:w.heap.size<W0.heap.size:=by omega
 have l1:w.heap.size+1<W0.heap.size:=by omega
 have hszl:w.heap.size+2≤W0.heap.size:=by omega
 have K1:=hide k1
 have HM0:Hid (IntsAt (W0.alloc (.cells (madeCells #[.int .i64 0] es.length) 3)) W0.heap.size (Q.mixI (Q.frowF es) es.length 0)):=by
  unfold Hid IntsAt;rw[Q.mixI_zero,← made_ints];exact heap_alloc_new W0 _
 have HB0:Hid (Below W0.heap.size W0 (W0.alloc (.cells (madeCells #[.int .i64 0] es.length) 3))):=(Below.refl _ _).alloc (Nat.le_refl _) _
 clear hE k0 k1 hsz
 go_wp2
 go_loopw [13] (fun j wr=>∃ (k:Nat),k≤es.length∧j=.int .i64 k∧Hid (IntsAt wr W0.heap.size (Q.mixI (Q.frowF es) es.length k))∧Hid (Below W0.heap.size W0 wr)) (fun j _=>es.length-(intOf j).toNat)
 case atStart=>exact⟨0,Nat.zero_le _,rfl,HM0,HB0⟩
 case round =>
  obtain⟨k,hk,rfl,HI,HBL2⟩:=hrel
  by_cases hlt:k<es.length
  ·have hin:(k:Int)<(es.length:Int):=by omega
   obtain⟨be,rfl,hbe⟩:=hea (by omega)
   have hbeW:be<W0.heap.size:=by omega
   have HR1:Hid (wr.rangeAt be (k*10) (evCells (Q.ev es k)).toList):=rangeAt_keep (HE0.out.range' rfl k (by omega)) ((HBL2.out.block be hbeW).trans (BW0.out.block be hbe))
   have HMS:=hide (Q.mixI_set (Q.frowF es) es.length k hlt)
   have HPF:Hid (Q.frowF es k=if Q.isSC (Q.ev es k) then 0 else -1):=rfl
   generalize Q.ev es k=e1 at *
   have HI1:=hide (HI.out.below ((Below.refl _ _).alloc (Nat.le_refl _) (.cells (evCells e1) 158)))
   have HBX1:Hid (Below W0.heap.size W0 (wr.alloc (.cells (evCells e1) 158))):=HBL2.out.alloc HBL2.out.size _
   have hkl:k<(Q.mixI (Q.frowF es) es.length k).length:=by rw[Q.mixI_len];exact hlt
   have hkl2:k<((Q.mixI (Q.frowF es) es.length k).set k (-1)).length:=by rw[List.length_set];exact hkl
   have t0:=HI1.out.cellD k hkl
   have ff:=HI1.out.free k
   have tl:=HI1.out.lt
   have JX:=hide (HI1.out.set k (-1))
   have BX:Hid (Below W0.heap.size W0 ((wr.alloc (.cells (evCells e1) 158)).setCell ⟨W0.heap.size,k,none⟩ (.int .i64 (-1)))):=HBX1.out.setCell (p:=⟨W0.heap.size,k,none⟩) (Nat.le_refl _) _
   have EA:Hid (EvAt ((wr.alloc (.cells (evCells e1) 158)).setCell ⟨W0.heap.size,k,none⟩ (.int .i64 (-1))) wr.heap.size e1):=by
    have h1:=EvAt.new wr e1
    have h2:=HI.out.lt
    unfold Hid EvAt at *
    rw[Below.heap_setCell _ _ _ _ (by simp;omega)];exact h1
   obtain⟨x0,x1,x2,x3,x4,x5,x6,x7,x8,x9,xf,xl⟩:=EA.out.facts
   simp only[evCells] at t0 ff tl x0 x1 x2 x3 x4 x5 x6 x7 x8 x9 xf xl
   generalize hgm:(Q.mixI (Q.frowF es) es.length k).getD k 0=gm at *
   cases z1:(Q.isSC e1)
   ·have HN:Hid ((Q.mixI (Q.frowF es) es.length k).set k (-1)=Q.mixI (Q.frowF es) es.length (k+1)):=by unfold Hid;rw[← HMS.out,HPF.out,z1];rfl
    skip
    go_wp2_with (first | (refine wpList_load_ev (.tmp 16) rfl rfl be (k*10) e1 rfl HR1.out ?_) | (go_at_call 142;refine (isSC_any e1 _).mono ?_;rintro e w5 ⟨rfl,hb5⟩;rw[z1];have J5:=hide (JX.out.below hb5);have B5:=hide (bstep BX.out (Nat.le_refl _) hb5);have t5:=J5.out.cellD k hkl2;have ff5:=J5.out.free k;have tl5:=J5.out.lt))
    go_roundw
    case rel=>exact⟨k+1,by omega,by go_num,(by rw[← HN.out];exact J5.out),B5⟩
    case measure=>simp[intOf];omega
   ·have HN:Hid (((Q.mixI (Q.frowF es) es.length k).set k (-1)).set k (0)=Q.mixI (Q.frowF es) es.length (k+1)):=by unfold Hid;rw[List.set_set,← HMS.out,HPF.out,z1];rfl
    skip
    go_wp2_with (first | (refine wpList_load_ev (.tmp 16) rfl rfl be (k*10) e1 rfl HR1.out ?_) | (go_at_call 142;refine (isSC_any e1 _).mono ?_;rintro e w5 ⟨rfl,hb5⟩;rw[z1];have J5:=hide (JX.out.below hb5);have B5:=hide (bstep BX.out (Nat.le_refl _) hb5);have t5:=J5.out.cellD k hkl2;have ff5:=J5.out.free k;have tl5:=J5.out.lt))
    go_roundw
    case rel=>exact⟨k+1,by omega,by go_num,by rw[← HN.out];exact J5.out.set k 0,B5.out.setCell (p:=⟨W0.heap.size,k,none⟩) (Nat.le_refl _) _⟩
    case measure=>simp[intOf];omega
  ·have hkn:k=es.length:=by omega
   have HF:Hid (IntsAt wr W0.heap.size (Q.fenceRows es)):=by
    have h1:=HI.out
    rw[hkn,Q.mixI_full,← HRO.out] at h1
    exact h1
   have HE1:Hid (EvsIn wr (.slice ea es.length ec) es):=HE0.out.keep fun q hq=>(HBL2.out.block q (by omega)).trans (BW0.out.block q hq)
   have d0:=(HBL2.out.cell (p:=⟨w.heap.size,0,none⟩) l0).trans c00
   have d1:=(HBL2.out.cell (p:=⟨w.heap.size,1,none⟩) l0).trans c01
   have ld0:=Nat.lt_of_lt_of_le l0 HBL2.out.size
   clear HI hea
   go_wp2_with (first | (go_at_call 116;refine (orders_any _ _ _ es (Q.fenceRows es) _ HE1.out ⟨_,_,_,rfl⟩ (by have h1:=HF.out.rowI es.length;rw[HRL.out] at h1;exact h1) (by rw[HRL.out]) (by rw[HRL.out];exact hn)).mono ?_;rintro e w2 ⟨gr,gb,gd,rfl,hir,hib,hid,hgr,hgb,hgd,hne,hne2,hb2⟩;have B2:Hid (Below W0.heap.size W0 w2):=bstep HBL2.out (Nat.le_refl _) hb2;have K2:=hide ((B2.out.block _ l1).trans K1.out);obtain⟨t0,t1,t2,t3,tf,tl⟩:=four_cells K2.out;have IB:=hide hib;have ID:=hide hid;have IR:=hide hir))
   obtain⟨s0,s1,s2⟩:=set4 (s0:=.slice (some ⟨gr,0,none⟩) (Q.fenceRows es).length (Q.fenceRows es).length) (s1:=.slice (some ⟨gb,0,none⟩) (Q.ordBases es (Q.fenceRows es)).length (Q.ordBases es (Q.fenceRows es)).length) (s2:=.slice (some ⟨gd,0,none⟩) (Q.ordBases es (Q.fenceRows es)).length (Q.ordBases es (Q.fenceRows es)).length) (s3:=.bool false) K2.out
   have hws:=HBL2.out.size
   refine ret_row (p:=2) (w.heap.size+1) _ (by kernel_rfl) Tryz.underlying124 rfl (by kernel_rfl) rfl (by exact s0) rfl ⟨gr,gb,gd,rfl,IR.out.of_block (s1 _ (by omega)),IB.out.of_block (s1 _ (by omega)),ID.out.of_block (s1 _ (by omega)),by omega,by omega,by omega,hne,hne2,s2 _ _ (by omega) (bstep BW0.out (Nat.le_refl _) B2.out)⟩
end Go.Proofs.YtgceflcbckjjiaaGreatDoor
