import Derived.Test.YtgceflcbckjjiaaGreatDoorB35
set_option linter.unusedVariables false
set_option linter.unusedSimpArgs false
namespace Go.Proofs.YtgceflcbckjjiaaGreatDoor
open Go Go.RowKit
set_option maxRecDepth 100000
namespace Q
theorem fold_rows {α:Type} (F:Ans→α→Ans) (hF:∀ a x,a.rows.length≤(F a x).rows.length):∀ (l:List α) (a:Ans),a.rows.length≤(l.foldl F a).rows.length
 | [],a=>Nat.le_refl _
 | x::l,a=>by rw[List.foldl_cons];exact Nat.le_trans (hF a x) (fold_rows F hF l _)
end Q
theorem ord_laid {w1 W1:World} {gr gb gd:Nat} {rs bs:List Int} (hr:IntsAt w1 gr rs) (hb:IntsAt w1 gb bs) (hd:IntsAt w1 gd (Q.zeros bs.length)) (n1:gr≠gd) (n2:gb≠gd) (hl:bs.length=rs.length)
  (hgo:W1.heap[w1.heap.size]?=some (.cells #[.slice (some ⟨gr,0,none⟩) rs.length rs.length,.slice (some ⟨gb,0,none⟩) bs.length bs.length,.slice (some ⟨gd,0,none⟩) bs.length bs.length,.bool false] 124 (0,0))) (hB:Below w1.heap.size w1 W1):OrdOn W1 w1.heap.size gr gb gd rs bs (Q.zeros bs.length) (Q.digitRows bs):=by
 obtain⟨t0,t1,t2,t3,tf,tl⟩:=four_cells hgo
 have l1:=hr.lt
 have l2:=hb.lt
 have l3:=hd.lt
 have e:(Q.zeros bs.length).length=bs.length:=by simp[Q.zeros]
 exact⟨t0,hr.below hB,⟨false,⟨t1,by rw[e];exact t2,t3,tf,tl,hb.below hB,hd.below hB,by omega,by omega,n2,e⟩,Or.inl ⟨rfl,rfl,rfl⟩⟩,hl,n1,by omega⟩
set_option maxHeartbeats 1600000 in
theorem sees_any (a:FA) (f:Q.Facts) (gr:Nat) (rd:List Nat) (w:World) (hf:FactsIn w a f) (hr:RelAt w gr a.n rd) :
  Calls Tryz.prog 66 #[.agg (facCells a),.agg #[.slice (some ⟨gr,0,none⟩) a.n a.n]] w fun e w'=>RelR w w' a.n (f.sees rd) e:=by
 obtain⟨x,c,hev,_⟩:=hf.form
 obtain⟨n,ev,g1,g2,g3,g4,g5,g6,g7,g8,g9⟩:=a
 simp only at hev hr
 subst hev
 simp only[facCells]
 obtain⟨k0,k1,k2,hsz,hbw⟩:=boxes3 w #[.slice x n c,.slice (some ⟨g1,0,none⟩) n n,.slice (some ⟨g2,0,none⟩) n n,.slice (some ⟨g3,0,none⟩) n n,.slice (some ⟨g4,0,none⟩) n n,.slice (some ⟨g5,0,none⟩) n n,.slice (some ⟨g6,0,none⟩) n n,.slice (some ⟨g7,0,none⟩) n n,.slice (some ⟨g8,0,none⟩) n n,.slice (some ⟨g9,0,none⟩) n n] #[.slice (some ⟨gr,0,none⟩) n n] #[.slice none 0 0] 70 68 68
 have HF:=hide (hf.below hbw)
 have Rr:=hide (hr.below hbw)
 have BW0:=hide hbw
 clear hbw hf hr
 go_enter Tryz.func66,Tryz.ntmps66
 go_upto_region 1 with fail
 generalize hE:(((w.alloc (.cells #[.slice x n c,.slice (some ⟨g1,0,none⟩) n n,.slice (some ⟨g2,0,none⟩) n n,.slice (some ⟨g3,0,none⟩) n n,.slice (some ⟨g4,0,none⟩) n n,.slice (some ⟨g5,0,none⟩) n n,.slice (some ⟨g6,0,none⟩) n n,.slice (some ⟨g7,0,none⟩) n n,.slice (some ⟨g8,0,none⟩) n n,.slice (some ⟨g9,0,none⟩) n n] 70)).alloc (.cells #[.slice (some ⟨gr,0,none⟩) n n] 68)).alloc (.cells #[.slice none 0 0] 68))=W0 at *
 have c0_0_0:W0.cell? ⟨w.heap.size,0,none⟩=some (.slice x n c):=by simp[World.cell?,k0]
 have c0_0_1:W0.cell? ⟨w.heap.size,1,none⟩=some (.slice (some ⟨g1,0,none⟩) n n):=by simp[World.cell?,k0]
 have c0_0_2:W0.cell? ⟨w.heap.size,2,none⟩=some (.slice (some ⟨g2,0,none⟩) n n):=by simp[World.cell?,k0]
 have c0_0_3:W0.cell? ⟨w.heap.size,3,none⟩=some (.slice (some ⟨g3,0,none⟩) n n):=by simp[World.cell?,k0]
 have c0_0_4:W0.cell? ⟨w.heap.size,4,none⟩=some (.slice (some ⟨g4,0,none⟩) n n):=by simp[World.cell?,k0]
 have c0_0_5:W0.cell? ⟨w.heap.size,5,none⟩=some (.slice (some ⟨g5,0,none⟩) n n):=by simp[World.cell?,k0]
 have c0_0_6:W0.cell? ⟨w.heap.size,6,none⟩=some (.slice (some ⟨g6,0,none⟩) n n):=by simp[World.cell?,k0]
 have c0_0_7:W0.cell? ⟨w.heap.size,7,none⟩=some (.slice (some ⟨g7,0,none⟩) n n):=by simp[World.cell?,k0]
 have c0_0_8:W0.cell? ⟨w.heap.size,8,none⟩=some (.slice (some ⟨g8,0,none⟩) n n):=by simp[World.cell?,k0]
 have c0_0_9:W0.cell? ⟨w.heap.size,9,none⟩=some (.slice (some ⟨g9,0,none⟩) n n):=by simp[World.cell?,k0]
 have l0_0:w.heap.size<W0.heap.size:=by omega
 have f0_0:∀ j,W0.frozen? ⟨w.heap.size,j,none⟩=false:=fun j=>by simp[World.frozen?,k0]
 have K0_0:=hide k0
 have c0_1_0:W0.cell? ⟨w.heap.size+1,0,none⟩=some (.slice (some ⟨gr,0,none⟩) n n):=by simp[World.cell?,k1]
 have l0_1:w.heap.size+1<W0.heap.size:=by omega
 have f0_1:∀ j,W0.frozen? ⟨w.heap.size+1,j,none⟩=false:=fun j=>by simp[World.frozen?,k1]
 have K0_1:=hide k1
 have c0_2_0:W0.cell? ⟨w.heap.size+2,0,none⟩=some (.slice none 0 0):=by simp[World.cell?,k2]
 have l0_2:w.heap.size+2<W0.heap.size:=by omega
 have f0_2:∀ j,W0.frozen? ⟨w.heap.size+2,j,none⟩=false:=fun j=>by simp[World.frozen?,k2]
 have K0_2:=hide k2
 have hsq0:w.heap.size+3≤W0.heap.size:=by omega
 clear hE hsz k0 k1 k2
 go_upto_region 2 with (first
  | (go_at_call_of 114 (Value.slice (some ⟨gr,0,none⟩) n n);refine (and_rel gr g2 n _ _ _ (Rr.out.below (Below.refl _ _)) (HF.out.r2.below (Below.refl _ _))).mono ?_;rintro e w0_0 ⟨q0_0,rfl,hq0_0,hb0_0⟩;have B0_0:Hid (Below W0.heap.size W0 w0_0):=hb0_0;have c1_0_0:=(B0_0.out.cell (p:=⟨w.heap.size+1,0,none⟩) l0_1).trans c0_1_0;have Q0_0:=hide hq0_0;clear hq0_0))
 have k1_n:=heap_alloc_new w0_0 (.cells #[.slice (some ⟨q0_0,0,none⟩) n n] 68)
 have BX:Below W0.heap.size W0 (w0_0.alloc (.cells #[.slice (some ⟨q0_0,0,none⟩) n n] 68)):=B0_0.out.alloc B0_0.out.size _
 have hsq1:=B0_0.out.size
 have hwz:=BX.size
 have HF1:=hide (HF.out.below BX)
 have R1_0:=hide (Rr.out.below BX)
 have R1_1:=hide (Q0_0.out.below ((Below.refl _ _).alloc (Nat.le_refl _) (.cells #[.slice (some ⟨q0_0,0,none⟩) n n] 68)))
 have BW1:=hide (bstep BW0.out (Nat.le_refl _) BX)
 have d1_0:=(BX.cell (p:=⟨w.heap.size,0,none⟩) l0_0).trans c0_0_0
 have d1_1:=(BX.cell (p:=⟨w.heap.size,1,none⟩) l0_0).trans c0_0_1
 have d1_2:=(BX.cell (p:=⟨w.heap.size,2,none⟩) l0_0).trans c0_0_2
 have d1_3:=(BX.cell (p:=⟨w.heap.size,3,none⟩) l0_0).trans c0_0_3
 have d1_4:=(BX.cell (p:=⟨w.heap.size,4,none⟩) l0_0).trans c0_0_4
 have d1_5:=(BX.cell (p:=⟨w.heap.size,5,none⟩) l0_0).trans c0_0_5
 have d1_6:=(BX.cell (p:=⟨w.heap.size,6,none⟩) l0_0).trans c0_0_6
 have d1_7:=(BX.cell (p:=⟨w.heap.size,7,none⟩) l0_0).trans c0_0_7
 have d1_8:=(BX.cell (p:=⟨w.heap.size,8,none⟩) l0_0).trans c0_0_8
 have d1_9:=(BX.cell (p:=⟨w.heap.size,9,none⟩) l0_0).trans c0_0_9
 have d1_10:=(BX.cell (p:=⟨w.heap.size+1,0,none⟩) l0_1).trans c0_1_0
 have d1_11:=(BX.cell (p:=⟨w.heap.size+2,0,none⟩) l0_2).trans c0_2_0
 have f1_0:∀ j,(w0_0.alloc (.cells #[.slice (some ⟨q0_0,0,none⟩) n n] 68)).frozen? ⟨w.heap.size,j,none⟩=false:=fun j=>(BX.frozen (p:=⟨w.heap.size,j,none⟩) l0_0).trans (f0_0 j)
 have l1_0:=Nat.lt_of_lt_of_le l0_0 hwz
 have K1_0:=hide ((BX.block _ l0_0).trans K0_0.out)
 have f1_1:∀ j,(w0_0.alloc (.cells #[.slice (some ⟨q0_0,0,none⟩) n n] 68)).frozen? ⟨w.heap.size+1,j,none⟩=false:=fun j=>(BX.frozen (p:=⟨w.heap.size+1,j,none⟩) l0_1).trans (f0_1 j)
 have l1_1:=Nat.lt_of_lt_of_le l0_1 hwz
 have K1_1:=hide ((BX.block _ l0_1).trans K0_1.out)
 have f1_2:∀ j,(w0_0.alloc (.cells #[.slice (some ⟨q0_0,0,none⟩) n n] 68)).frozen? ⟨w.heap.size+2,j,none⟩=false:=fun j=>(BX.frozen (p:=⟨w.heap.size+2,j,none⟩) l0_2).trans (f0_2 j)
 have l1_2:=Nat.lt_of_lt_of_le l0_2 hwz
 have K1_2:=hide ((BX.block _ l0_2).trans K0_2.out)
 have hn1:w0_0.heap.size<(w0_0.alloc (.cells #[.slice (some ⟨q0_0,0,none⟩) n n] 68)).heap.size:=by simp
 clear BX hwz
 generalize hE1:w0_0.alloc (.cells #[.slice (some ⟨q0_0,0,none⟩) n n] 68)=W1 at *
 obtain⟨cn1,fn1,ln1⟩:=one_cellR k1_n
 have fm1:∀ j,W1.frozen? ⟨w0_0.heap.size,j,none⟩=false:=fun j=>by simp[World.frozen?,k1_n]
 have KN1:=hide k1_n
 clear k1_n hE1 hn1
 clear c0_0_0 c0_0_1 c0_0_2 c0_0_3 c0_0_4 c0_0_5 c0_0_6 c0_0_7 c0_0_8 c0_0_9 c0_1_0 c0_2_0
 go_upto_region 3 with (first
  | (go_at_call_of 68 (Value.slice (some ⟨q1_0,0,none⟩) n n);refine (closed_rel q1_0 n _ _ Q1_0.out).mono ?_;rintro e w1_1 ⟨q1_1,rfl,hq1_1,hb1_1⟩;have B1_1:Hid (Below W1.heap.size W1 w1_1):=bstep B1_0.out (Nat.le_refl _) hb1_1;have Q1_1:=hide hq1_1;clear hq1_1)
  | (go_at_call_of 113 (Value.slice (some ⟨q0_0,0,none⟩) n n);refine (then_rel q0_0 g7 n _ _ _ (R1_1.out.below (Below.refl _ _)) (HF1.out.r7.below (Below.refl _ _))).mono ?_;rintro e w1_0 ⟨q1_0,rfl,hq1_0,hb1_0⟩;have B1_0:Hid (Below W1.heap.size W1 w1_0):=hb1_0;have Q1_0:=hide hq1_0;clear hq1_0))
 have k2_n:=heap_alloc_new w1_1 (.cells #[.slice (some ⟨q1_1,0,none⟩) n n] 68)
 have BX:Below W1.heap.size W1 (w1_1.alloc (.cells #[.slice (some ⟨q1_1,0,none⟩) n n] 68)):=B1_1.out.alloc B1_1.out.size _
 have hsq2:=B1_1.out.size
 have hwz:=BX.size
 have HF2:=hide (HF1.out.below BX)
 have R2_0:=hide (R1_0.out.below BX)
 have R2_1:=hide (R1_1.out.below BX)
 have R2_2:=hide ((Q1_0.out.below hb1_1).below ((Below.refl _ _).alloc (Nat.le_refl _) (.cells #[.slice (some ⟨q1_1,0,none⟩) n n] 68)))
 have R2_3:=hide (Q1_1.out.below ((Below.refl _ _).alloc (Nat.le_refl _) (.cells #[.slice (some ⟨q1_1,0,none⟩) n n] 68)))
 have BW2:=hide (bstep BW1.out (Nat.le_refl _) BX)
 have d2_0:=(BX.cell (p:=⟨w.heap.size,0,none⟩) l1_0).trans d1_0
 have d2_1:=(BX.cell (p:=⟨w.heap.size,1,none⟩) l1_0).trans d1_1
 have d2_2:=(BX.cell (p:=⟨w.heap.size,2,none⟩) l1_0).trans d1_2
 have d2_3:=(BX.cell (p:=⟨w.heap.size,3,none⟩) l1_0).trans d1_3
 have d2_4:=(BX.cell (p:=⟨w.heap.size,4,none⟩) l1_0).trans d1_4
 have d2_5:=(BX.cell (p:=⟨w.heap.size,5,none⟩) l1_0).trans d1_5
 have d2_6:=(BX.cell (p:=⟨w.heap.size,6,none⟩) l1_0).trans d1_6
 have d2_7:=(BX.cell (p:=⟨w.heap.size,7,none⟩) l1_0).trans d1_7
 have d2_8:=(BX.cell (p:=⟨w.heap.size,8,none⟩) l1_0).trans d1_8
 have d2_9:=(BX.cell (p:=⟨w.heap.size,9,none⟩) l1_0).trans d1_9
 have d2_10:=(BX.cell (p:=⟨w.heap.size+1,0,none⟩) l1_1).trans d1_10
 have d2_11:=(BX.cell (p:=⟨w.heap.size+2,0,none⟩) l1_2).trans d1_11
 have d2_12:=(BX.cell (p:=⟨w0_0.heap.size,0,none⟩) ln1).trans cn1
 have f2_0:∀ j,(w1_1.alloc (.cells #[.slice (some ⟨q1_1,0,none⟩) n n] 68)).frozen? ⟨w.heap.size,j,none⟩=false:=fun j=>(BX.frozen (p:=⟨w.heap.size,j,none⟩) l1_0).trans (f1_0 j)
 have l2_0:=Nat.lt_of_lt_of_le l1_0 hwz
 have K2_0:=hide ((BX.block _ l1_0).trans K1_0.out)
 have f2_1:∀ j,(w1_1.alloc (.cells #[.slice (some ⟨q1_1,0,none⟩) n n] 68)).frozen? ⟨w.heap.size+1,j,none⟩=false:=fun j=>(BX.frozen (p:=⟨w.heap.size+1,j,none⟩) l1_1).trans (f1_1 j)
 have l2_1:=Nat.lt_of_lt_of_le l1_1 hwz
 have K2_1:=hide ((BX.block _ l1_1).trans K1_1.out)
 have f2_2:∀ j,(w1_1.alloc (.cells #[.slice (some ⟨q1_1,0,none⟩) n n] 68)).frozen? ⟨w.heap.size+2,j,none⟩=false:=fun j=>(BX.frozen (p:=⟨w.heap.size+2,j,none⟩) l1_2).trans (f1_2 j)
 have l2_2:=Nat.lt_of_lt_of_le l1_2 hwz
 have K2_2:=hide ((BX.block _ l1_2).trans K1_2.out)
 have f2_3:∀ j,(w1_1.alloc (.cells #[.slice (some ⟨q1_1,0,none⟩) n n] 68)).frozen? ⟨w0_0.heap.size,j,none⟩=false:=fun j=>(BX.frozen (p:=⟨w0_0.heap.size,j,none⟩) ln1).trans (fm1 j)
 have l2_3:=Nat.lt_of_lt_of_le ln1 hwz
 have K2_3:=hide ((BX.block _ ln1).trans KN1.out)
 have hn2:w1_1.heap.size<(w1_1.alloc (.cells #[.slice (some ⟨q1_1,0,none⟩) n n] 68)).heap.size:=by simp
 clear BX hwz
 generalize hE2:w1_1.alloc (.cells #[.slice (some ⟨q1_1,0,none⟩) n n] 68)=W2 at *
 obtain⟨cn2,fn2,ln2⟩:=one_cellR k2_n
 have fm2:∀ j,W2.frozen? ⟨w1_1.heap.size,j,none⟩=false:=fun j=>by simp[World.frozen?,k2_n]
 have KN2:=hide k2_n
 clear k2_n hE2 hn2
 clear d1_0 d1_1 d1_2 d1_3 d1_4 d1_5 d1_6 d1_7 d1_8 d1_9 d1_10 d1_11 cn1
 clear d2_0 d2_1 d2_2 d2_3 d2_4 d2_5 d2_6 d2_7 d2_8 d2_9 d2_10
 clear f2_0 f2_1 f2_3 fm2
 go_region_held3 (fun w'=>w'.cell? ⟨w0_0.heap.size,0,none⟩=some (.slice (some ⟨q0_0,0,none⟩) n n)∧w'.cell? ⟨w1_1.heap.size,0,none⟩=some (.slice (some ⟨q1_1,0,none⟩) n n)) (first | exact⟨d2_12,cn2⟩ | exact⟨c3_0_0,c3_0_1⟩ | exact⟨c3_1_0,c3_1_1⟩ | exact⟨(cell_set_ne (by omega)).trans c3_1_0,(cell_set_ne (by omega)).trans c3_1_1⟩) (first
  | (go_at_call_of 67 (Value.slice (some ⟨q0_0,0,none⟩) n n);refine (or_rel q0_0 q2_0 n _ _ _ (R2_1.out.below B2_0.out) Q2_0.out).mono ?_;rintro e w2_1 ⟨q2_1,rfl,hq2_1,hb2_1⟩;have B2_1:Hid (Below W2.heap.size W2 w2_1):=bstep B2_0.out (Nat.le_refl _) hb2_1;have c3_1_0:=(B2_1.out.cell (p:=⟨w0_0.heap.size,0,none⟩) l2_3).trans d2_12;have c3_1_1:=(B2_1.out.cell (p:=⟨w1_1.heap.size,0,none⟩) ln2).trans cn2;have z3_1:=(B2_1.out.frozen (p:=⟨w.heap.size+2,0,none⟩) l2_2).trans (f2_2 0);have y3_1:=(B2_1.out.cell (p:=⟨w.heap.size+2,0,none⟩) l2_2).trans d2_11;have Q2_1:=hide hq2_1;clear hq2_1)
  | (go_at_call_of 113 (Value.slice (some ⟨q1_1,0,none⟩) n n);refine (then_rel q1_1 q0_0 n _ _ _ (R2_3.out.below (Below.refl _ _).drew) (R2_1.out.below (Below.refl _ _).drew)).mono ?_;rintro e w2_0 ⟨q2_0,rfl,hq2_0,hb2_0⟩;have B2_0:Hid (Below W2.heap.size W2 w2_0):=((Below.refl W2.heap.size W2).drew).trans (hb2_0.mono (by simp));have c3_0_0:=(B2_0.out.cell (p:=⟨w0_0.heap.size,0,none⟩) l2_3).trans d2_12;have c3_0_1:=(B2_0.out.cell (p:=⟨w1_1.heap.size,0,none⟩) ln2).trans cn2;have z3_0:=(B2_0.out.frozen (p:=⟨w.heap.size+2,0,none⟩) l2_2).trans (f2_2 0);have y3_0:=(B2_0.out.cell (p:=⟨w.heap.size+2,0,none⟩) l2_2).trans d2_11;have Q2_0:=hide hq2_0;clear hq2_0))
 all_goals
  (try go_wp2)
  have KR:=setCell_block ((B2_1.out.block _ l2_2).trans K2_2.out) 0 (.slice (some ⟨q2_1,0,none⟩) n n)
  refine ret_rel (p:=4) (w.heap.size+2) _ (by kernel_rfl) rfl (by exact KR) rfl ⟨q2_1,rfl,⟨(Q2_1.out).at_.of_block (Below.heap_setCell _ _ _ _ (by have:=Q2_1.out.at_;unfold SetsAt at this;intro e;rw[e] at this;rw[(B2_1.out.block _ l2_2).trans K2_2.out] at this;simp at this)),(Q2_1.out).len,(Q2_1.out).fits⟩,(bstep BW2.out (Nat.le_refl _) B2_1.out).setCell (p:=⟨w.heap.size+2,0,none⟩) (by simp) _⟩
set_option maxHeartbeats 6400000 in
theorem tells_any (a:FA) (f:Q.Facts) (gs:Nat) (sees:List Nat) (w:World) (hf:FactsIn w a f) (hs:RelAt w gs a.n sees) :
  Calls Tryz.prog 65 #[.agg (facCells a),.agg #[.slice (some ⟨gs,0,none⟩) a.n a.n]] w fun e w'=>RelR w w' a.n (f.tells sees) e:=by
 have HFE:Hid (Q.heard f.events sees=(List.range a.n).foldl (Q.heardR f.events sees) (Q.newR a.n)):=by unfold Hid Q.heard;rw[hf.len]
 obtain⟨x,c,hev,hx⟩:=hf.form
 have hn64:=hf.n64
 have hln:=hf.len
 obtain⟨n,ev,g1,g2,g3,g4,g5,g6,g7,g8,g9⟩:=a
 simp only at hev hn64 hln hx
 subst hev
 simp only[facCells]
 simp only at HFE hs
 have HEV:=hide hf.ev
 obtain⟨k0,k2,k1,hsz,hbw⟩:=boxes3 w #[.slice x n c,.slice (some ⟨g1,0,none⟩) n n,.slice (some ⟨g2,0,none⟩) n n,.slice (some ⟨g3,0,none⟩) n n,.slice (some ⟨g4,0,none⟩) n n,.slice (some ⟨g5,0,none⟩) n n,.slice (some ⟨g6,0,none⟩) n n,.slice (some ⟨g7,0,none⟩) n n,.slice (some ⟨g8,0,none⟩) n n,.slice (some ⟨g9,0,none⟩) n n] #[.slice (some ⟨gs,0,none⟩) n n] #[.slice none 0 0] 70 68 68
 have HF:=hide (hf.below hbw)
 have RS:=hide (hs.below hbw)
 have BW0:=hide hbw
 clear hbw hf hs
 go_enter Tryz.func65,Tryz.ntmps65
 go_upto_region 1 with fail
 generalize hE:((w.alloc (.cells #[.slice x n c,.slice (some ⟨g1,0,none⟩) n n,.slice (some ⟨g2,0,none⟩) n n,.slice (some ⟨g3,0,none⟩) n n,.slice (some ⟨g4,0,none⟩) n n,.slice (some ⟨g5,0,none⟩) n n,.slice (some ⟨g6,0,none⟩) n n,.slice (some ⟨g7,0,none⟩) n n,.slice (some ⟨g8,0,none⟩) n n,.slice (some ⟨g9,0,none⟩) n n] 70)).alloc (.cells #[.slice (some ⟨gs,0,none⟩) n n] 68)).alloc (.cells #[.slice none 0 0] 68)=W0 at *
 have c00:W0.cell? ⟨w.heap.size,0,none⟩=some (.slice x n c):=by simp[World.cell?,k0]
 have c02:W0.cell? ⟨w.heap.size,2,none⟩=some (.slice (some ⟨g2,0,none⟩) n n):=by simp[World.cell?,k0]
 have c08:W0.cell? ⟨w.heap.size,8,none⟩=some (.slice (some ⟨g8,0,none⟩) n n):=by simp[World.cell?,k0]
 have c09:W0.cell? ⟨w.heap.size,9,none⟩=some (.slice (some ⟨g9,0,none⟩) n n):=by simp[World.cell?,k0]
 obtain⟨c1,f1,l1⟩:=one_cellR k1
 obtain⟨c2,f2,l2⟩:=one_cellR k2
 have l0:w.heap.size<W0.heap.size:=by omega
 have K1:=hide k1
 clear hE k0 k1 k2 f2
 go_wp2_with (first | (go_at_call 109;refine (new_any n _ hn64).mono ?_;rintro e w1 ⟨gn,rfl,hsn,hgn,hll,hfn,hb1⟩;have HS:=hide (Fill.start ⟨hsn,hll,hfn⟩ hgn hb1);have hz1:=hb1.size;have c00b:=HS.out.cell (p:=⟨w.heap.size,0,none⟩) l0 c00;clear hsn hb1 hll hfn))
 have HC2:=hide c02
 have HC8:=hide c08
 have HC9:=hide c09
 have HC1:=hide c1
 have HFZ:=hide f1
 clear c02 c08 c09 c1 f1
 go_loopw [17] (fun i wr=>∃ (k:Nat) (t:List Nat),k≤n∧i=.int .i64 k∧Hid (t=(List.range k).foldl (Q.heardR f.events sees) (Q.newR n))∧Hid (Fill W0 wr w1.heap.size gn n t)) (fun i _=>n-(intOf i).toNat)
 case atStart=>exact⟨0,_,Nat.zero_le _,rfl,rfl,HS⟩
 case round =>
  clear c00b
  obtain⟨k,t,hk,rfl,HT,HI⟩:=hrel
  obtain⟨b0,b1,b2⟩:=one_cellR HI.out.box
  have d00:=HI.out.cell (p:=⟨w.heap.size,0,none⟩) l0 c00
  have l0w:=Nat.lt_of_lt_of_le l0 HI.out.bel.size
  by_cases hlt:k<n
  ·have hin:(k:Int)<(n:Int):=by omega
   obtain⟨be,rfl,hbe⟩:=hx (by omega)
   have hbeW:be<W0.heap.size:=by omega
   have HR1:Hid (wr.rangeAt be (k*10) (evCells (Q.ev f.events k)).toList):=rangeAt_keep (HEV.out.range' hln.symm k (by omega)) ((HI.out.bel.block be hbeW).trans (BW0.out.block be hbe))
   have HTS:Hid ((List.range (k+1)).foldl (Q.heardR f.events sees) (Q.newR n)=(List.range n).foldl (Q.heardK f.events sees k) t):=by unfold Hid;rw[Q.foldl_range_succ,← HT.out];unfold Q.heardR;rw[hln]
   have HBP:Hid (∀ q u,Q.heardK f.events sees k u q=if Q.hasR sees k q&&(Q.ev f.events k).order != 0&&(Q.ev f.events q).order != 0 then Q.addR u q k else u):=fun q u=>rfl
   generalize Q.ev f.events k=e1 at *
   have HA1:Hid (EvAt (wr.alloc (.cells (evCells e1) 158)) wr.heap.size e1):=EvAt.new wr e1
   have HF1:=hide (HI.out.alloc (.cells (evCells e1) 158))
   have d00b:=HF1.out.cell (p:=⟨w.heap.size,0,none⟩) l0 c00
   go_wp2_with (first | (refine wpList_load_ev (.tmp 20) rfl rfl be (k*10) e1 rfl HR1.out ?_))
   go_loopw [25] (fun j wq=>∃ (q:Nat) (u:List Nat),q≤n∧j=.int .i64 q∧Hid (u=(List.range q).foldl (Q.heardK f.events sees k) t)∧Hid (Fill W0 wq w1.heap.size gn n u)∧Hid (EvAt wq wr.heap.size e1)) (fun j _=>n-(intOf j).toNat)
   case atStart=>exact⟨0,t,Nat.zero_le _,rfl,rfl,HF1,HA1⟩
   case round =>
    clear d00b d00 HF1 HA1 b0 b1 b2 HR1 l0w
    obtain⟨q,u,hq,rfl,HU,HJ,HA⟩:=hrel
    by_cases hql:q<n
    ·have hqi:(q:Int)<(n:Int):=by omega
     have HR2:Hid (wr.rangeAt be (q*10) (evCells (Q.ev f.events q)).toList):=rangeAt_keep (HEV.out.range' hln.symm q (by omega)) ((HJ.out.bel.block be hbeW).trans (BW0.out.block be hbe))
     have HUS:Hid ((List.range (q+1)).foldl (Q.heardK f.events sees k) t=if Q.hasR sees k q&&e1.order != 0&&(Q.ev f.events q).order != 0 then Q.addR u q k else u):=by unfold Hid;rw[Q.foldl_range_succ,← HU.out];exact HBP.out q u
     generalize Q.ev f.events q=e2 at *
     have HF2:=hide (HJ.out.alloc (.cells (evCells e2) 158))
     have HA2:=hide (HA.out.alloc (.cells (evCells e2) 158))
     have HA3:=hide (EvAt.new wr e2)
     have HRS:=hide (RS.out.below HF2.out.bel)
     have l1w:=Nat.lt_of_lt_of_le l2 HJ.out.bel.size
     have d2:=HJ.out.cell (p:=⟨w.heap.size+1,0,none⟩) l2 c2
     cases z1:Q.hasR sees (k:Int) (q:Int)
     ·have HUN:Hid (u=(List.range (q+1)).foldl (Q.heardK f.events sees k) t):=by unfold Hid;rw[HUS.out];simp[z1]
      go_wp2_with (first | (refine wpList_load_ev (.tmp 28) rfl rfl be (q*10) e2 rfl HR2.out ?_) | (go_at_call 112;refine (has_rel gs n sees (k:Int) (q:Int) _ HRS.out).mono ?_;rintro e wb ⟨rfl,hbb⟩;rw[z1];have HJ1:=hide (HF2.out.keep hbb);have HA4:=hide (HA2.out.below hbb);obtain⟨x0,x1,x2,x3,x4,x5,x6,x7,x8,x9,xf,xl⟩:=HA4.out.facts;clear x0 x1 x2 x3 x4 x6 x7 x8 x9;have HA5:=hide (HA3.out.below hbb);obtain⟨y0,y1,y2,y3,y4,y5,y6,y7,y8,y9,yf,yl⟩:=HA5.out.facts;clear y0 y1 y2 y3 y4 y6 y7 y8 y9))
      go_roundw
      case rel=>exact⟨q+1,u,by omega,by go_num,HUN,HJ1,HA4⟩
      case measure=>simp[intOf];omega
     cases z2:(e1.order != 0)
     ·have HUN:Hid (u=(List.range (q+1)).foldl (Q.heardK f.events sees k) t):=by unfold Hid;rw[HUS.out];simp[z1,z2]
      go_wp2_with (first | (refine wpList_load_ev (.tmp 28) rfl rfl be (q*10) e2 rfl HR2.out ?_) | (go_at_call 112;refine (has_rel gs n sees (k:Int) (q:Int) _ HRS.out).mono ?_;rintro e wb ⟨rfl,hbb⟩;rw[z1];have HJ1:=hide (HF2.out.keep hbb);have HA4:=hide (HA2.out.below hbb);obtain⟨x0,x1,x2,x3,x4,x5,x6,x7,x8,x9,xf,xl⟩:=HA4.out.facts;clear x0 x1 x2 x3 x4 x6 x7 x8 x9;have HA5:=hide (HA3.out.below hbb);obtain⟨y0,y1,y2,y3,y4,y5,y6,y7,y8,y9,yf,yl⟩:=HA5.out.facts;clear y0 y1 y2 y3 y4 y6 y7 y8 y9))
      go_roundw
      case rel=>exact⟨q+1,u,by omega,by go_num,HUN,HJ1,HA4⟩
      case measure=>simp[intOf];omega
     cases z3:(e2.order != 0)
     ·have HUN:Hid (u=(List.range (q+1)).foldl (Q.heardK f.events sees k) t):=by unfold Hid;rw[HUS.out];simp[z1,z2,z3]
      go_wp2_with (first | (refine wpList_load_ev (.tmp 28) rfl rfl be (q*10) e2 rfl HR2.out ?_) | (go_at_call 112;refine (has_rel gs n sees (k:Int) (q:Int) _ HRS.out).mono ?_;rintro e wb ⟨rfl,hbb⟩;rw[z1];have HJ1:=hide (HF2.out.keep hbb);have HA4:=hide (HA2.out.below hbb);obtain⟨x0,x1,x2,x3,x4,x5,x6,x7,x8,x9,xf,xl⟩:=HA4.out.facts;clear x0 x1 x2 x3 x4 x6 x7 x8 x9;have HA5:=hide (HA3.out.below hbb);obtain⟨y0,y1,y2,y3,y4,y5,y6,y7,y8,y9,yf,yl⟩:=HA5.out.facts;clear y0 y1 y2 y3 y4 y6 y7 y8 y9))
      go_roundw
      case rel=>exact⟨q+1,u,by omega,by go_num,HUN,HJ1,HA4⟩
      case measure=>simp[intOf];omega
     ·have HUN:Hid (Q.addR u (q:Int) (k:Int)=(List.range (q+1)).foldl (Q.heardK f.events sees k) t):=by unfold Hid;rw[HUS.out];simp[z1,z2,z3]
      go_wp2_with (first | (refine wpList_load_ev (.tmp 28) rfl rfl be (q*10) e2 rfl HR2.out ?_) | (go_at_call 112;refine (has_rel gs n sees (k:Int) (q:Int) _ HRS.out).mono ?_;rintro e wb ⟨rfl,hbb⟩;rw[z1];have HJ1:=hide (HF2.out.keep hbb);have HA4:=hide (HA2.out.below hbb);obtain⟨x0,x1,x2,x3,x4,x5,x6,x7,x8,x9,xf,xl⟩:=HA4.out.facts;clear x0 x1 x2 x3 x4 x6 x7 x8 x9;have HA5:=hide (HA3.out.below hbb);obtain⟨y0,y1,y2,y3,y4,y5,y6,y7,y8,y9,yf,yl⟩:=HA5.out.facts;clear y0 y1 y2 y3 y4 y6 y7 y8 y9) | (go_at_call 110;refine (add_any w1.heap.size 0 gn n u (q:Int) (k:Int) _ HJ1.out.relIn HJ1.out.rel.fits).mono ?_;rintro e wc ⟨rfl,hsc,hgc⟩;have HJ2:=hide (HJ1.out.grown hgc hsc);have HA6:=hide (EvAt.grown HA4.out HJ1.out.rel.at_ hgc)))
      go_roundw
      case rel=>exact⟨q+1,_,by omega,by go_num,HUN,HJ2,HA6⟩
      case measure=>simp[intOf];omega
    ·have HN2:Hid (u=(List.range (k+1)).foldl (Q.heardR f.events sees) (Q.newR n)):=by unfold Hid;rw[HTS.out,HU.out,show q=n by omega]
     go_wp2
     go_roundw
     case rel=>exact⟨k+1,u,by omega,by go_num,HN2,HJ⟩
     case measure=>simp[intOf];omega
  ·have hkn:k=n:=by omega
   have HE2:Hid (t=Q.heard f.events sees):=by unfold Hid;rw[HFE.out,HT.out,hkn]
   rw[HE2.out] at HI
   clear d00
   go_upto_region 12 with fail
   have m2:=HI.out.cell (p:=⟨w.heap.size,2,none⟩) l0 HC2.out
   have m8:=HI.out.cell (p:=⟨w.heap.size,8,none⟩) l0 HC8.out
   have m9:=HI.out.cell (p:=⟨w.heap.size,9,none⟩) l0 HC9.out
   have m1:=HI.out.cell (p:=⟨w.heap.size+2,0,none⟩) l1 HC1.out
   have mf:=(HI.out.bel.frozen (p:=⟨w.heap.size+2,0,none⟩) l1).trans HFZ.out
   have l1w:=Nat.lt_of_lt_of_le l1 HI.out.bel.size
   have hgb:=HI.out.gb
   have HFW:=hide (HF.out.below HI.out.bel)
   have HB:=hide HI.out.bel
   have HRL:=hide HI.out.rel
   go_region_held3 (fun w'=>w'.cell? ⟨w.heap.size,2,none⟩=some (.slice (some ⟨g2,0,none⟩) n n)∧w'.cell? ⟨w.heap.size,8,none⟩=some (.slice (some ⟨g8,0,none⟩) n n)∧w'.cell? ⟨w.heap.size,9,none⟩=some (.slice (some ⟨g9,0,none⟩) n n)∧w'.cell? ⟨w1.heap.size,0,none⟩=some (.slice (some ⟨gn,0,none⟩) n n)) (first | exact⟨m2,m8,m9,b0⟩ | exact⟨pa0,pb0,pc0,pd0⟩ | exact⟨pa1,pb1,pc1,pd1⟩ | exact⟨pa2,pb2,pc2,pd2⟩ | exact⟨(cell_set_ne (by omega)).trans pa2,(cell_set_ne (by omega)).trans pb2,(cell_set_ne (by omega)).trans pc2,(cell_set_ne (by omega)).trans pd2⟩) (first
    | (go_at_call 114;refine (and_rel j1 g2 n _ _ _ J1.out (HFW.out.r2.below BB1.out)).mono ?_;rintro e v2 ⟨j2,rfl,hj2,hb2⟩;have BB2:Hid (Below wr.heap.size wr v2):=bstep BB1.out (Nat.le_refl _) hb2;have pa2:=(BB2.out.cell (p:=⟨w.heap.size,2,none⟩) l0w).trans m2;have pb2:=(BB2.out.cell (p:=⟨w.heap.size,8,none⟩) l0w).trans m8;have pc2:=(BB2.out.cell (p:=⟨w.heap.size,9,none⟩) l0w).trans m9;have pd2:=(BB2.out.cell (p:=⟨w1.heap.size,0,none⟩) b2).trans b0;have pe2:=(BB2.out.cell (p:=⟨w.heap.size+2,0,none⟩) l1w).trans m1;have pf2:=(BB2.out.frozen (p:=⟨w.heap.size+2,0,none⟩) l1w).trans mf;have J2:=hide hj2;clear hj2)
    | (go_at_call_of 113 (Value.slice (some ⟨j0,0,none⟩) n n);refine (then_rel j0 g9 n _ _ _ J0.out (HFW.out.r9.below BB0.out)).mono ?_;rintro e v1 ⟨j1,rfl,hj1,hb1⟩;have BB1:Hid (Below wr.heap.size wr v1):=bstep BB0.out (Nat.le_refl _) hb1;have pa1:=(BB1.out.cell (p:=⟨w.heap.size,2,none⟩) l0w).trans m2;have pb1:=(BB1.out.cell (p:=⟨w.heap.size,8,none⟩) l0w).trans m8;have pc1:=(BB1.out.cell (p:=⟨w.heap.size,9,none⟩) l0w).trans m9;have pd1:=(BB1.out.cell (p:=⟨w1.heap.size,0,none⟩) b2).trans b0;have pe1:=(BB1.out.cell (p:=⟨w.heap.size+2,0,none⟩) l1w).trans m1;have pf1:=(BB1.out.frozen (p:=⟨w.heap.size+2,0,none⟩) l1w).trans mf;have J1:=hide hj1;clear hj1)
    | (go_at_call_of 113 (Value.slice (some ⟨g8,0,none⟩) n n);refine (then_rel g8 gn n _ _ _ (HFW.out.r8.below (Below.refl _ _).drew) (HRL.out.below (Below.refl _ _).drew)).mono ?_;rintro e v0 ⟨j0,rfl,hj0,hb0⟩;have BB0:Hid (Below wr.heap.size wr v0):=((Below.refl wr.heap.size wr).drew).trans (hb0.mono (by simp));have pa0:=(BB0.out.cell (p:=⟨w.heap.size,2,none⟩) l0w).trans m2;have pb0:=(BB0.out.cell (p:=⟨w.heap.size,8,none⟩) l0w).trans m8;have pc0:=(BB0.out.cell (p:=⟨w.heap.size,9,none⟩) l0w).trans m9;have pd0:=(BB0.out.cell (p:=⟨w1.heap.size,0,none⟩) b2).trans b0;have pe0:=(BB0.out.cell (p:=⟨w.heap.size+2,0,none⟩) l1w).trans m1;have pf0:=(BB0.out.frozen (p:=⟨w.heap.size+2,0,none⟩) l1w).trans mf;have J0:=hide hj0;clear hj0))
   all_goals
    (try go_wp2)
    have KR:=setCell_block ((BB2.out.block _ l1w).trans ((HB.out.block _ l1).trans K1.out)) 0 (.slice (some ⟨j2,0,none⟩) n n)
    refine ret_rel (p:=4) (w.heap.size+2) _ (by kernel_rfl) rfl (by exact KR) rfl ⟨j2,rfl,⟨J2.out.at_.of_block (Below.heap_setCell _ _ _ _ (by have:=J2.out.at_;unfold SetsAt at this;intro e;rw[e] at this;rw[(BB2.out.block _ l1w).trans ((HB.out.block _ l1).trans K1.out)] at this;simp at this)),J2.out.len,J2.out.fits⟩,(bstep BW0.out (Nat.le_refl _) (bstep HB.out (Nat.le_refl _) BB2.out)).setCell (p:=⟨w.heap.size+2,0,none⟩) (by simp) _⟩

namespace Q
end Q
end Go.Proofs.YtgceflcbckjjiaaGreatDoor
