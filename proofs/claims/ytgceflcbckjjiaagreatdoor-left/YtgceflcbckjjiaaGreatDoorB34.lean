import Derived.Test.YtgceflcbckjjiaaGreatDoorB33
set_option linter.unusedVariables false
set_option linter.unusedSimpArgs false
namespace Go.Proofs.YtgceflcbckjjiaaGreatDoor
open Go Go.RowKit
set_option maxRecDepth 100000
set_option maxHeartbeats 1600000 in
theorem splits_any (a:FA) (f:Q.Facts) (gm:Nat) (ms:List Nat) (gb:Nat) (bh:List Nat) (w:World) (hf:FactsIn w a f) (hm:RelAt w gm a.n ms) (hb:RelAt w gb a.n bh) :
  Calls Tryz.prog 120 #[.agg (facCells a),.agg #[.slice (some ⟨gm,0,none⟩) a.n a.n],.agg #[.slice (some ⟨gb,0,none⟩) a.n a.n]] w fun e w'=>e=.returned (.bool (f.splits ms bh))∧Below w.heap.size w w':=by
 obtain⟨x,c,hev,_⟩:=hf.form
 obtain⟨n,ev,g1,g2,g3,g4,g5,g6,g7,g8,g9⟩:=a
 simp only at hev hm hb
 subst hev
 simp only[facCells]
 obtain⟨k0,k1,k2,hsz,hbw⟩:=boxes3 w #[.slice x n c,.slice (some ⟨g1,0,none⟩) n n,.slice (some ⟨g2,0,none⟩) n n,.slice (some ⟨g3,0,none⟩) n n,.slice (some ⟨g4,0,none⟩) n n,.slice (some ⟨g5,0,none⟩) n n,.slice (some ⟨g6,0,none⟩) n n,.slice (some ⟨g7,0,none⟩) n n,.slice (some ⟨g8,0,none⟩) n n,.slice (some ⟨g9,0,none⟩) n n] #[.slice (some ⟨gm,0,none⟩) n n] #[.slice (some ⟨gb,0,none⟩) n n] 70 68 68
 have HF:=hide (hf.below hbw)
 have Rm:=hide (hm.below hbw)
 have Rb:=hide (hb.below hbw)
 have BW0:=hide hbw
 clear hbw hf hm hb
 go_enter Tryz.func120,Tryz.ntmps120
 go_upto_region 1 with fail
 generalize hE:(((w.alloc (.cells #[.slice x n c,.slice (some ⟨g1,0,none⟩) n n,.slice (some ⟨g2,0,none⟩) n n,.slice (some ⟨g3,0,none⟩) n n,.slice (some ⟨g4,0,none⟩) n n,.slice (some ⟨g5,0,none⟩) n n,.slice (some ⟨g6,0,none⟩) n n,.slice (some ⟨g7,0,none⟩) n n,.slice (some ⟨g8,0,none⟩) n n,.slice (some ⟨g9,0,none⟩) n n] 70)).alloc (.cells #[.slice (some ⟨gm,0,none⟩) n n] 68)).alloc (.cells #[.slice (some ⟨gb,0,none⟩) n n] 68))=W0 at *
 have c0_0_0:W0.cell? ⟨w.heap.size,0,none⟩=some (.slice x n c):=by simp[World.cell?,k0]
 have c0_0_1:W0.cell? ⟨w.heap.size,1,none⟩=some (.slice (some ⟨g1,0,none⟩) n n):=by simp[World.cell?,k0]
 have c0_0_2:W0.cell? ⟨w.heap.size,2,none⟩=some (.slice (some ⟨g2,0,none⟩) n n):=by simp[World.cell?,k0]
 have c0_0_3:W0.cell? ⟨w.heap.size,3,none⟩=some (.slice (some ⟨g3,0,none⟩) n n):=by simp[World.cell?,k0]
 have c0_0_4:W0.cell? ⟨w.heap.size,4,none⟩=some (.slice (some ⟨g4,0,none⟩) n n):=by simp[World.cell?,k0]
 have c0_0_5:W0.cell? ⟨w.heap.size,5,none⟩=some (.slice (some ⟨g5,0,none⟩) n n):=by simp[World.cell?,k0]
 have c0_0_6:W0.cell? ⟨w.heap.size,6,none⟩=some (.slice (some ⟨g6,0,none⟩) n n):=by simp[World.cell?,k0]
 have c0_0_7:W0.cell? ⟨w.heap.size,7,none⟩=some (.slice (some ⟨g7,0,none⟩) n n):=by simp[World.cell?,k0]
 have c0_0_8:W0.cell? ⟨w.heap.size,8,none⟩=some (.slice (some ⟨g8,0,none⟩) n n):=by simp[World.cell?,k0]
 have c0_0_9:W0.cell? ⟨w.heap.size,9,none⟩=some (.slice (some ⟨g9,0,none⟩) n n):=by simp[World.cell?,k0]
 have l0_0:w.heap.size<W0.heap.size:=by omega
 have f0_0:∀ j,W0.frozen? ⟨w.heap.size,j,none⟩=false:=fun j=>by simp[World.frozen?,k0]
 have K0_0:=hide k0
 have c0_1_0:W0.cell? ⟨w.heap.size+1,0,none⟩=some (.slice (some ⟨gm,0,none⟩) n n):=by simp[World.cell?,k1]
 have l0_1:w.heap.size+1<W0.heap.size:=by omega
 have f0_1:∀ j,W0.frozen? ⟨w.heap.size+1,j,none⟩=false:=fun j=>by simp[World.frozen?,k1]
 have K0_1:=hide k1
 have c0_2_0:W0.cell? ⟨w.heap.size+2,0,none⟩=some (.slice (some ⟨gb,0,none⟩) n n):=by simp[World.cell?,k2]
 have l0_2:w.heap.size+2<W0.heap.size:=by omega
 have f0_2:∀ j,W0.frozen? ⟨w.heap.size+2,j,none⟩=false:=fun j=>by simp[World.frozen?,k2]
 have K0_2:=hide k2
 have hsq0:w.heap.size+3≤W0.heap.size:=by omega
 clear hE hsz k0 k1 k2
 clear c0_0_0 c0_0_1 c0_0_2 c0_0_3 c0_0_4 c0_0_5 c0_0_6 c0_0_8 c0_0_9
 clear f0_0 f0_1 f0_2
 go_region_held3 (fun w'=>w'.cell? ⟨w.heap.size,7,none⟩=some (.slice (some ⟨g7,0,none⟩) n n)∧w'.cell? ⟨w.heap.size+1,0,none⟩=some (.slice (some ⟨gm,0,none⟩) n n)∧w'.cell? ⟨w.heap.size+2,0,none⟩=some (.slice (some ⟨gb,0,none⟩) n n)) (first | exact⟨c0_0_7,c0_1_0,c0_2_0⟩ | exact⟨c1_0_0,c1_0_1,c1_0_2⟩ | exact⟨c1_1_0,c1_1_1,c1_1_2⟩ | exact⟨c1_2_0,c1_2_1,c1_2_2⟩) (first
  | (go_at_call_of 119 (Value.slice (some ⟨q0_1,0,none⟩) n n);refine (loops_rel q0_1 n _ _ Q0_1.out).mono ?_;rintro e w0_2 ⟨rfl,hb0_2⟩;have B0_2:Hid (Below W0.heap.size W0 w0_2):=bstep B0_1.out (Nat.le_refl _) hb0_2;have c1_2_0:=(B0_2.out.cell (p:=⟨w.heap.size,7,none⟩) l0_0).trans c0_0_7;have c1_2_1:=(B0_2.out.cell (p:=⟨w.heap.size+1,0,none⟩) l0_1).trans c0_1_0;have c1_2_2:=(B0_2.out.cell (p:=⟨w.heap.size+2,0,none⟩) l0_2).trans c0_2_0;skip)
  | (go_at_call_of 113 (Value.slice (some ⟨q0_0,0,none⟩) n n);refine (then_rel q0_0 gb n _ _ _ Q0_0.out (Rb.out.below B0_0.out)).mono ?_;rintro e w0_1 ⟨q0_1,rfl,hq0_1,hb0_1⟩;have B0_1:Hid (Below W0.heap.size W0 w0_1):=bstep B0_0.out (Nat.le_refl _) hb0_1;have c1_1_0:=(B0_1.out.cell (p:=⟨w.heap.size,7,none⟩) l0_0).trans c0_0_7;have c1_1_1:=(B0_1.out.cell (p:=⟨w.heap.size+1,0,none⟩) l0_1).trans c0_1_0;have c1_1_2:=(B0_1.out.cell (p:=⟨w.heap.size+2,0,none⟩) l0_2).trans c0_2_0;have Q0_1:=hide hq0_1;clear hq0_1)
  | (go_at_call_of 113 (Value.slice (some ⟨g7,0,none⟩) n n);refine (then_rel g7 gm n _ _ _ (HF.out.r7.below (Below.refl _ _).drew) (Rm.out.below (Below.refl _ _).drew)).mono ?_;rintro e w0_0 ⟨q0_0,rfl,hq0_0,hb0_0⟩;have B0_0:Hid (Below W0.heap.size W0 w0_0):=((Below.refl W0.heap.size W0).drew).trans (hb0_0.mono (by simp));have c1_0_0:=(B0_0.out.cell (p:=⟨w.heap.size,7,none⟩) l0_0).trans c0_0_7;have c1_0_1:=(B0_0.out.cell (p:=⟨w.heap.size+1,0,none⟩) l0_1).trans c0_1_0;have c1_0_2:=(B0_0.out.cell (p:=⟨w.heap.size+2,0,none⟩) l0_2).trans c0_2_0;have Q0_0:=hide hq0_0;clear hq0_0))
 all_goals
  go_wp2
  go_ret
  exact⟨rfl,bstep BW0.out (Nat.le_refl _) B0_2.out⟩
set_option maxHeartbeats 6400000 in
theorem behind_any (a:FA) (f:Q.Facts) (v:Value) (ps:List Int) (w:World) (hf:FactsIn w a f) (hv:RowI w v ps) (hpl:ps.length=a.n) :
  Calls Tryz.prog 94 #[.agg (facCells a),v] w fun e w'=>RelR w w' a.n (Q.behind f.events ps) e:=by
 have HFE:Hid (Q.behind f.events ps=(List.range a.n).foldl (Q.behindI f.events ps) (Q.newR a.n)):=by unfold Hid Q.behind;rw[hf.len]
 obtain⟨va,vc,rfl,hva⟩:=hv.form
 have hvb:0<a.n→∃ g,va=some ⟨g,0,none⟩∧g<w.heap.size∧∀ i,i<a.n→w.cell? ⟨g,i,none⟩=some (.int .i64 (ps.getD i 0)):=fun h0=>by
  obtain⟨g,e1,e2,e3⟩:=hva (by omega)
  exact⟨g,e1,e2,fun i hi=>by rw[getD_int ps i (by omega)];exact e3 i (by omega)⟩
 clear hva
 rw[hpl]
 obtain⟨x,c,hev,hx⟩:=hf.form
 have hn64:=hf.n64
 have hln:=hf.len
 obtain⟨n,ev,g1,g2,g3,g4,g5,g6,g7,g8,g9⟩:=a
 simp only at hev hn64 hln hx
 subst hev
 simp only[facCells]
 simp only at HFE hpl hvb
 have HEV:=hide hf.ev
 obtain⟨k0,k1,hsz,hbw⟩:=boxes2 w #[.slice x n c,.slice (some ⟨g1,0,none⟩) n n,.slice (some ⟨g2,0,none⟩) n n,.slice (some ⟨g3,0,none⟩) n n,.slice (some ⟨g4,0,none⟩) n n,.slice (some ⟨g5,0,none⟩) n n,.slice (some ⟨g6,0,none⟩) n n,.slice (some ⟨g7,0,none⟩) n n,.slice (some ⟨g8,0,none⟩) n n,.slice (some ⟨g9,0,none⟩) n n] #[.slice none 0 0] 70 68
 have BW0:=hide hbw
 clear hbw hf hv
 go_enter Tryz.func94,Tryz.ntmps94
 go_upto_region 1 with fail
 generalize hE:(w.alloc (.cells #[.slice x n c,.slice (some ⟨g1,0,none⟩) n n,.slice (some ⟨g2,0,none⟩) n n,.slice (some ⟨g3,0,none⟩) n n,.slice (some ⟨g4,0,none⟩) n n,.slice (some ⟨g5,0,none⟩) n n,.slice (some ⟨g6,0,none⟩) n n,.slice (some ⟨g7,0,none⟩) n n,.slice (some ⟨g8,0,none⟩) n n,.slice (some ⟨g9,0,none⟩) n n] 70)).alloc (.cells #[.slice none 0 0] 68)=W0 at *
 have c00:W0.cell? ⟨w.heap.size,0,none⟩=some (.slice x n c):=by simp[World.cell?,k0]
 obtain⟨c1,f1,l1⟩:=one_cellR k1
 have l0:w.heap.size<W0.heap.size:=by omega
 have K1:=hide k1
 clear hE k0 k1 c1 f1
 go_wp2_with (first | (go_at_call 109;refine (new_any n _ hn64).mono ?_;rintro e w1 ⟨gn,rfl,hsn,hgn,hll,hfn,hb1⟩;have HS:=hide (Fill.start ⟨hsn,hll,hfn⟩ hgn hb1);have hz1:=hb1.size;have c00b:=HS.out.cell (p:=⟨w.heap.size,0,none⟩) l0 c00;clear hsn hb1 hll hfn))
 go_loopw [17] (fun i wr=>∃ (k:Nat) (t:List Nat),k≤n∧i=.int .i64 k∧Hid (t=(List.range k).foldl (Q.behindI f.events ps) (Q.newR n))∧Hid (Fill W0 wr w1.heap.size gn n t)) (fun i _=>n-(intOf i).toNat)
 case atStart=>exact⟨0,_,Nat.zero_le _,rfl,rfl,HS⟩
 case round =>
  clear c00b
  obtain⟨k,t,hk,rfl,HT,HI⟩:=hrel
  obtain⟨b0,b1,b2⟩:=one_cellR HI.out.box
  have d00:=HI.out.cell (p:=⟨w.heap.size,0,none⟩) l0 c00
  have l0w:=Nat.lt_of_lt_of_le l0 HI.out.bel.size
  by_cases hlt:k<n
  ·have hin:(k:Int)<(n:Int):=by omega
   obtain⟨be,rfl,hbe⟩:=hx (by omega)
   obtain⟨gp,rfl,hgp,hps⟩:=hvb (by omega)
   have hbeW:be<W0.heap.size:=by omega
   have hgpW:gp<W0.heap.size:=by omega
   have HR1:Hid (wr.rangeAt be (k*10) (evCells (Q.ev f.events k)).toList):=rangeAt_keep (HEV.out.range' hln.symm k (by omega)) ((HI.out.bel.block be hbeW).trans (BW0.out.block be hbe))
   have HPK:Hid (W0.cell? ⟨gp,k,none⟩=some (.int .i64 (ps.getD k 0))):=(BW0.out.cell (p:=⟨gp,k,none⟩) hgp).trans (hps k (by omega))
   have HTS:Hid ((List.range (k+1)).foldl (Q.behindI f.events ps) (Q.newR n)=(List.range n).foldl (Q.behindK f.events ps k) t):=by unfold Hid;rw[Q.foldl_range_succ,← HT.out];unfold Q.behindI;rw[hln]
   have HBP:Hid (∀ q,Q.behindP f.events ps k q=((Q.ev f.events k).kind==1&&(Q.ev f.events q).kind==1&&(Q.ev f.events k).var==(Q.ev f.events q).var&&decide (ps.getD k 0<ps.getD q 0))):=fun q=>rfl
   generalize Q.ev f.events k=e1 at *
   generalize hpk:ps.getD k 0=pk at *
   clear hpk
   have HA1:Hid (EvAt (wr.alloc (.cells (evCells e1) 158)) wr.heap.size e1):=EvAt.new wr e1
   have HF1:=hide (HI.out.alloc (.cells (evCells e1) 158))
   have d00b:=HF1.out.cell (p:=⟨w.heap.size,0,none⟩) l0 c00
   go_wp2_with (first | (refine wpList_load_ev (.tmp 20) rfl rfl be (k*10) e1 rfl HR1.out ?_))
   go_loopw [25] (fun j wq=>∃ (q:Nat) (u:List Nat),q≤n∧j=.int .i64 q∧Hid (u=(List.range q).foldl (Q.behindK f.events ps k) t)∧Hid (Fill W0 wq w1.heap.size gn n u)∧Hid (EvAt wq wr.heap.size e1)) (fun j _=>n-(intOf j).toNat)
   case atStart=>exact⟨0,t,Nat.zero_le _,rfl,rfl,HF1,HA1⟩
   case round =>
    clear d00b d00 HF1 HA1 b0 b1 b2 HR1 l0w
    obtain⟨q,u,hq,rfl,HU,HJ,HA⟩:=hrel
    by_cases hql:q<n
    ·have hqi:(q:Int)<(n:Int):=by omega
     have HR2:Hid (wr.rangeAt be (q*10) (evCells (Q.ev f.events q)).toList):=rangeAt_keep (HEV.out.range' hln.symm q (by omega)) ((HJ.out.bel.block be hbeW).trans (BW0.out.block be hbe))
     have HPQ:Hid (W0.cell? ⟨gp,q,none⟩=some (.int .i64 (ps.getD q 0))):=(BW0.out.cell (p:=⟨gp,q,none⟩) hgp).trans (hps q (by omega))
     have HB:=hide (HBP.out q)
     have HUS:Hid ((List.range (q+1)).foldl (Q.behindK f.events ps k) t=Q.addIf (Q.behindP f.events ps k q) u k q):=by unfold Hid;rw[Q.foldl_range_succ,← HU.out];rfl
     rw[HB.out] at HUS
     generalize Q.ev f.events q=e2 at *
     generalize hpq:ps.getD q 0=pq at *
     clear hpq
     have HF2:=hide (HJ.out.alloc (.cells (evCells e2) 158))
     have HA2:=hide (HA.out.alloc (.cells (evCells e2) 158))
     have cpk:=HF2.out.cell (p:=⟨gp,k,none⟩) hgpW HPK.out
     have cpq:=HF2.out.cell (p:=⟨gp,q,none⟩) hgpW HPQ.out
     have lgp:=Nat.lt_of_lt_of_le hgpW HF2.out.bel.size
     obtain⟨x0,x1,x2,x3,x4,x5,x6,x7,x8,x9,xf,xl⟩:=HA2.out.facts
     clear x1 x2 x4 x5 x6 x7 x8 x9
     have HA3:=hide (EvAt.new wr e2)
     obtain⟨y0,y1,y2,y3,y4,y5,y6,y7,y8,y9,yf,yl⟩:=HA3.out.facts
     clear y1 y2 y4 y5 y6 y7 y8 y9
     simp only[evCells] at x0 x3 xf xl y0 y3 yf yl cpk cpq lgp
     cases z1:(e1.kind==1)
     ·have HUN:Hid (u=(List.range (q+1)).foldl (Q.behindK f.events ps k) t):=by unfold Hid;rw[HUS.out];simp[Q.addIf,z1]
      go_wp2_with (first | (refine wpList_load_ev (.tmp 28) rfl rfl be (q*10) e2 rfl HR2.out ?_))
      go_quiet (fail)
      all_goals
       go_wp2
       go_roundw
       case rel=>exact⟨q+1,u,by omega,by go_num,HUN,HF2.out.keep (drewN_bel _ _ _),HA2.out.below (drewN_bel _ _ _)⟩
       case measure=>simp[intOf];omega
     cases z2:(e2.kind==1)
     ·have HUN:Hid (u=(List.range (q+1)).foldl (Q.behindK f.events ps k) t):=by unfold Hid;rw[HUS.out];simp[Q.addIf,z1,z2]
      go_wp2_with (first | (refine wpList_load_ev (.tmp 28) rfl rfl be (q*10) e2 rfl HR2.out ?_))
      go_quiet (fail)
      all_goals
       go_wp2
       go_roundw
       case rel=>exact⟨q+1,u,by omega,by go_num,HUN,HF2.out.keep (drewN_bel _ _ _),HA2.out.below (drewN_bel _ _ _)⟩
       case measure=>simp[intOf];omega
     cases z3:(e1.var==e2.var)
     ·have HUN:Hid (u=(List.range (q+1)).foldl (Q.behindK f.events ps k) t):=by unfold Hid;rw[HUS.out];simp[Q.addIf,z1,z2,z3]
      go_wp2_with (first | (refine wpList_load_ev (.tmp 28) rfl rfl be (q*10) e2 rfl HR2.out ?_))
      go_quiet (fail)
      all_goals
       go_wp2
       go_roundw
       case rel=>exact⟨q+1,u,by omega,by go_num,HUN,HF2.out.keep (drewN_bel _ _ _),HA2.out.below (drewN_bel _ _ _)⟩
       case measure=>simp[intOf];omega
     by_cases hz4:pk<pq
     ·have z4:decide (pk<pq)=true:=decide_eq_true hz4
      have HUN:Hid (Q.addR u (k:Int) (q:Int)=(List.range (q+1)).foldl (Q.behindK f.events ps k) t):=by unfold Hid;rw[HUS.out];simp[Q.addIf,z1,z2,z3,z4]
      go_wp2_with (first | (refine wpList_load_ev (.tmp 28) rfl rfl be (q*10) e2 rfl HR2.out ?_))
      go_quiet (fail)
      all_goals
       go_wp2_with (first | (go_at_call 110;refine (add_any w1.heap.size 0 gn n u (k:Int) (q:Int) _ (HF2.out.keep (drewN_bel _ _ _)).relIn HF2.out.rel.fits).mono ?_;rintro e wc ⟨rfl,hsc,hgc⟩;have HJ2:=hide ((HF2.out.keep (drewN_bel _ _ _)).grown hgc hsc);have HA4:=hide (EvAt.grown (HA2.out.below (drewN_bel _ _ _)) (HF2.out.keep (drewN_bel _ _ _)).rel.at_ hgc)))
       go_roundw
       case rel=>exact⟨q+1,_,by omega,by go_num,HUN,HJ2,HA4⟩
       case measure=>simp[intOf];omega
     ·have z4:decide (pk<pq)=false:=decide_eq_false hz4
      have HUN:Hid (u=(List.range (q+1)).foldl (Q.behindK f.events ps k) t):=by unfold Hid;rw[HUS.out];simp[Q.addIf,z1,z2,z3,z4]
      go_wp2_with (first | (refine wpList_load_ev (.tmp 28) rfl rfl be (q*10) e2 rfl HR2.out ?_))
      go_quiet (fail)
      all_goals
       go_wp2
       go_roundw
       case rel=>exact⟨q+1,u,by omega,by go_num,HUN,HF2.out.keep (drewN_bel _ _ _),HA2.out.below (drewN_bel _ _ _)⟩
       case measure=>simp[intOf];omega
    ·have HN2:Hid (u=(List.range (k+1)).foldl (Q.behindI f.events ps) (Q.newR n)):=by unfold Hid;rw[HTS.out,HU.out,show q=n by omega]
     go_wp2
     go_roundw
     case rel=>exact⟨k+1,u,by omega,by go_num,HN2,HJ⟩
     case measure=>simp[intOf];omega
  ·have hkn:k=n:=by omega
   have HE2:Hid (t=Q.behind f.events ps):=by unfold Hid;rw[HFE.out,HT.out,hkn]
   obtain⟨q1,q2⟩:=HI.out.out BW0.out K1.out (by omega)
   rw[HE2.out] at q1
   go_wp2_with (first | (refine wpList_load_rel (.tmp 5) rfl rfl w1.heap.size _ rfl HI.out.box ?_) | (refine wpList_store_rel (.tmp 4) (.tmp 71) rfl rfl (w.heap.size+1) _ _ rfl rfl ((HI.out.bel.block _ l1).trans K1.out) rfl ?_))
   refine ret_rel (p:=4) (w.heap.size+1) _ (by kernel_rfl) rfl q2 rfl q1




set_option maxHeartbeats 1600000 in
theorem mayCause_1 (a:FA) (f:Q.Facts) (gr:Nat) (rd:List Nat) (gc:Nat) (cs:List Nat) (gf:Nat) (fb:List Nat) (w:World) (hf:FactsIn w a f) (hr:RelAt w gr a.n rd) (hc:RelAt w gc a.n cs) (hk:RelAt w gf a.n fb) (h1:Q.loopsR cs=true) :
  Calls Tryz.prog 93 #[.agg (candT a gr),.agg #[.slice (some ⟨gc,0,none⟩) a.n a.n],.agg #[.slice (some ⟨gf,0,none⟩) a.n a.n]] w fun e w'=>e=.returned (.bool (false))∧Below w.heap.size w w':=by
 obtain⟨x,c,hev,_⟩:=hf.form
 obtain⟨n,ev,g1,g2,g3,g4,g5,g6,g7,g8,g9⟩:=a
 simp only at hev hr hc hk
 subst hev
 simp only[facCells,candT]
 obtain⟨k0,k1,k2,hsz,hbw⟩:=boxes3 w #[.slice x n c,.slice (some ⟨g1,0,none⟩) n n,.slice (some ⟨g2,0,none⟩) n n,.slice (some ⟨g3,0,none⟩) n n,.slice (some ⟨g4,0,none⟩) n n,.slice (some ⟨g5,0,none⟩) n n,.slice (some ⟨g6,0,none⟩) n n,.slice (some ⟨g7,0,none⟩) n n,.slice (some ⟨g8,0,none⟩) n n,.slice (some ⟨g9,0,none⟩) n n,.slice (some ⟨gr,0,none⟩) n n] #[.slice (some ⟨gc,0,none⟩) n n] #[.slice (some ⟨gf,0,none⟩) n n] 101 68 68
 have HF:=hide (hf.below hbw)
 have Rr:=hide (hr.below hbw)
 have Rc:=hide (hc.below hbw)
 have Rk:=hide (hk.below hbw)
 have BW0:=hide hbw
 clear hbw hf hr hc hk
 go_enter Tryz.func93,Tryz.ntmps93
 go_upto_region 1 with fail
 generalize hE:(((w.alloc (.cells #[.slice x n c,.slice (some ⟨g1,0,none⟩) n n,.slice (some ⟨g2,0,none⟩) n n,.slice (some ⟨g3,0,none⟩) n n,.slice (some ⟨g4,0,none⟩) n n,.slice (some ⟨g5,0,none⟩) n n,.slice (some ⟨g6,0,none⟩) n n,.slice (some ⟨g7,0,none⟩) n n,.slice (some ⟨g8,0,none⟩) n n,.slice (some ⟨g9,0,none⟩) n n,.slice (some ⟨gr,0,none⟩) n n] 101)).alloc (.cells #[.slice (some ⟨gc,0,none⟩) n n] 68)).alloc (.cells #[.slice (some ⟨gf,0,none⟩) n n] 68))=W0 at *
 have c0_0_0:W0.cell? ⟨w.heap.size,0,none⟩=some (.slice x n c):=by simp[World.cell?,k0]
 have c0_0_1:W0.cell? ⟨w.heap.size,1,none⟩=some (.slice (some ⟨g1,0,none⟩) n n):=by simp[World.cell?,k0]
 have c0_0_2:W0.cell? ⟨w.heap.size,2,none⟩=some (.slice (some ⟨g2,0,none⟩) n n):=by simp[World.cell?,k0]
 have c0_0_3:W0.cell? ⟨w.heap.size,3,none⟩=some (.slice (some ⟨g3,0,none⟩) n n):=by simp[World.cell?,k0]
 have c0_0_4:W0.cell? ⟨w.heap.size,4,none⟩=some (.slice (some ⟨g4,0,none⟩) n n):=by simp[World.cell?,k0]
 have c0_0_5:W0.cell? ⟨w.heap.size,5,none⟩=some (.slice (some ⟨g5,0,none⟩) n n):=by simp[World.cell?,k0]
 have c0_0_6:W0.cell? ⟨w.heap.size,6,none⟩=some (.slice (some ⟨g6,0,none⟩) n n):=by simp[World.cell?,k0]
 have c0_0_7:W0.cell? ⟨w.heap.size,7,none⟩=some (.slice (some ⟨g7,0,none⟩) n n):=by simp[World.cell?,k0]
 have c0_0_8:W0.cell? ⟨w.heap.size,8,none⟩=some (.slice (some ⟨g8,0,none⟩) n n):=by simp[World.cell?,k0]
 have c0_0_9:W0.cell? ⟨w.heap.size,9,none⟩=some (.slice (some ⟨g9,0,none⟩) n n):=by simp[World.cell?,k0]
 have c0_0_10:W0.cell? ⟨w.heap.size,10,none⟩=some (.slice (some ⟨gr,0,none⟩) n n):=by simp[World.cell?,k0]
 have l0_0:w.heap.size<W0.heap.size:=by omega
 have f0_0:∀ j,W0.frozen? ⟨w.heap.size,j,none⟩=false:=fun j=>by simp[World.frozen?,k0]
 have K0_0:=hide k0
 have c0_1_0:W0.cell? ⟨w.heap.size+1,0,none⟩=some (.slice (some ⟨gc,0,none⟩) n n):=by simp[World.cell?,k1]
 have l0_1:w.heap.size+1<W0.heap.size:=by omega
 have f0_1:∀ j,W0.frozen? ⟨w.heap.size+1,j,none⟩=false:=fun j=>by simp[World.frozen?,k1]
 have K0_1:=hide k1
 have c0_2_0:W0.cell? ⟨w.heap.size+2,0,none⟩=some (.slice (some ⟨gf,0,none⟩) n n):=by simp[World.cell?,k2]
 have l0_2:w.heap.size+2<W0.heap.size:=by omega
 have f0_2:∀ j,W0.frozen? ⟨w.heap.size+2,j,none⟩=false:=fun j=>by simp[World.frozen?,k2]
 have K0_2:=hide k2
 have hsq0:w.heap.size+3≤W0.heap.size:=by omega
 clear hE hsz k0 k1 k2
 go_wp2_with (first
  | (go_at_call_of 119 (Value.slice (some ⟨gc,0,none⟩) n n);refine (loops_rel gc n _ _ (Rc.out.below (Below.refl _ _))).mono ?_;rintro e w0_0 ⟨rfl,hb0_0⟩;(try rw[h1]);have B0_0:Hid (Below W0.heap.size W0 w0_0):=hb0_0;skip))
 all_goals
  go_wp2
  go_ret
  exact⟨rfl,bstep BW0.out (Nat.le_refl _) B0_0.out⟩
set_option maxHeartbeats 1600000 in
theorem mayCause_2 (a:FA) (f:Q.Facts) (gr:Nat) (rd:List Nat) (gc:Nat) (cs:List Nat) (gf:Nat) (fb:List Nat) (w:World) (hf:FactsIn w a f) (hr:RelAt w gr a.n rd) (hc:RelAt w gc a.n cs) (hk:RelAt w gf a.n fb) (h1:Q.loopsR cs=false) (h2:Q.loopsR (Q.thenR fb cs)=true) :
  Calls Tryz.prog 93 #[.agg (candT a gr),.agg #[.slice (some ⟨gc,0,none⟩) a.n a.n],.agg #[.slice (some ⟨gf,0,none⟩) a.n a.n]] w fun e w'=>e=.returned (.bool (false))∧Below w.heap.size w w':=by
 obtain⟨x,c,hev,_⟩:=hf.form
 obtain⟨n,ev,g1,g2,g3,g4,g5,g6,g7,g8,g9⟩:=a
 simp only at hev hr hc hk
 subst hev
 simp only[facCells,candT]
 obtain⟨k0,k1,k2,hsz,hbw⟩:=boxes3 w #[.slice x n c,.slice (some ⟨g1,0,none⟩) n n,.slice (some ⟨g2,0,none⟩) n n,.slice (some ⟨g3,0,none⟩) n n,.slice (some ⟨g4,0,none⟩) n n,.slice (some ⟨g5,0,none⟩) n n,.slice (some ⟨g6,0,none⟩) n n,.slice (some ⟨g7,0,none⟩) n n,.slice (some ⟨g8,0,none⟩) n n,.slice (some ⟨g9,0,none⟩) n n,.slice (some ⟨gr,0,none⟩) n n] #[.slice (some ⟨gc,0,none⟩) n n] #[.slice (some ⟨gf,0,none⟩) n n] 101 68 68
 have HF:=hide (hf.below hbw)
 have Rr:=hide (hr.below hbw)
 have Rc:=hide (hc.below hbw)
 have Rk:=hide (hk.below hbw)
 have BW0:=hide hbw
 clear hbw hf hr hc hk
 go_enter Tryz.func93,Tryz.ntmps93
 go_upto_region 1 with fail
 generalize hE:(((w.alloc (.cells #[.slice x n c,.slice (some ⟨g1,0,none⟩) n n,.slice (some ⟨g2,0,none⟩) n n,.slice (some ⟨g3,0,none⟩) n n,.slice (some ⟨g4,0,none⟩) n n,.slice (some ⟨g5,0,none⟩) n n,.slice (some ⟨g6,0,none⟩) n n,.slice (some ⟨g7,0,none⟩) n n,.slice (some ⟨g8,0,none⟩) n n,.slice (some ⟨g9,0,none⟩) n n,.slice (some ⟨gr,0,none⟩) n n] 101)).alloc (.cells #[.slice (some ⟨gc,0,none⟩) n n] 68)).alloc (.cells #[.slice (some ⟨gf,0,none⟩) n n] 68))=W0 at *
 have c0_0_0:W0.cell? ⟨w.heap.size,0,none⟩=some (.slice x n c):=by simp[World.cell?,k0]
 have c0_0_1:W0.cell? ⟨w.heap.size,1,none⟩=some (.slice (some ⟨g1,0,none⟩) n n):=by simp[World.cell?,k0]
 have c0_0_2:W0.cell? ⟨w.heap.size,2,none⟩=some (.slice (some ⟨g2,0,none⟩) n n):=by simp[World.cell?,k0]
 have c0_0_3:W0.cell? ⟨w.heap.size,3,none⟩=some (.slice (some ⟨g3,0,none⟩) n n):=by simp[World.cell?,k0]
 have c0_0_4:W0.cell? ⟨w.heap.size,4,none⟩=some (.slice (some ⟨g4,0,none⟩) n n):=by simp[World.cell?,k0]
 have c0_0_5:W0.cell? ⟨w.heap.size,5,none⟩=some (.slice (some ⟨g5,0,none⟩) n n):=by simp[World.cell?,k0]
 have c0_0_6:W0.cell? ⟨w.heap.size,6,none⟩=some (.slice (some ⟨g6,0,none⟩) n n):=by simp[World.cell?,k0]
 have c0_0_7:W0.cell? ⟨w.heap.size,7,none⟩=some (.slice (some ⟨g7,0,none⟩) n n):=by simp[World.cell?,k0]
 have c0_0_8:W0.cell? ⟨w.heap.size,8,none⟩=some (.slice (some ⟨g8,0,none⟩) n n):=by simp[World.cell?,k0]
 have c0_0_9:W0.cell? ⟨w.heap.size,9,none⟩=some (.slice (some ⟨g9,0,none⟩) n n):=by simp[World.cell?,k0]
 have c0_0_10:W0.cell? ⟨w.heap.size,10,none⟩=some (.slice (some ⟨gr,0,none⟩) n n):=by simp[World.cell?,k0]
 have l0_0:w.heap.size<W0.heap.size:=by omega
 have f0_0:∀ j,W0.frozen? ⟨w.heap.size,j,none⟩=false:=fun j=>by simp[World.frozen?,k0]
 have K0_0:=hide k0
 have c0_1_0:W0.cell? ⟨w.heap.size+1,0,none⟩=some (.slice (some ⟨gc,0,none⟩) n n):=by simp[World.cell?,k1]
 have l0_1:w.heap.size+1<W0.heap.size:=by omega
 have f0_1:∀ j,W0.frozen? ⟨w.heap.size+1,j,none⟩=false:=fun j=>by simp[World.frozen?,k1]
 have K0_1:=hide k1
 have c0_2_0:W0.cell? ⟨w.heap.size+2,0,none⟩=some (.slice (some ⟨gf,0,none⟩) n n):=by simp[World.cell?,k2]
 have l0_2:w.heap.size+2<W0.heap.size:=by omega
 have f0_2:∀ j,W0.frozen? ⟨w.heap.size+2,j,none⟩=false:=fun j=>by simp[World.frozen?,k2]
 have K0_2:=hide k2
 have hsq0:w.heap.size+3≤W0.heap.size:=by omega
 clear hE hsz k0 k1 k2
 go_wp2_with (first
  | (go_at_call_of 119 (Value.slice (some ⟨q0_1,0,none⟩) n n);refine (loops_rel q0_1 n _ _ Q0_1.out).mono ?_;rintro e w0_2 ⟨rfl,hb0_2⟩;(try rw[h2]);have B0_2:Hid (Below W0.heap.size W0 w0_2):=bstep B0_1.out (Nat.le_refl _) hb0_2;have c1_2_0:=(B0_2.out.cell (p:=⟨w.heap.size+1,0,none⟩) l0_1).trans c0_1_0;have c1_2_1:=(B0_2.out.cell (p:=⟨w.heap.size+2,0,none⟩) l0_2).trans c0_2_0;skip)
  | (go_at_call_of 113 (Value.slice (some ⟨gf,0,none⟩) n n);refine (then_rel gf gc n _ _ _ (Rk.out.below B0_0.out) (Rc.out.below B0_0.out)).mono ?_;rintro e w0_1 ⟨q0_1,rfl,hq0_1,hb0_1⟩;have B0_1:Hid (Below W0.heap.size W0 w0_1):=bstep B0_0.out (Nat.le_refl _) hb0_1;have c1_1_0:=(B0_1.out.cell (p:=⟨w.heap.size+1,0,none⟩) l0_1).trans c0_1_0;have c1_1_1:=(B0_1.out.cell (p:=⟨w.heap.size+2,0,none⟩) l0_2).trans c0_2_0;have Q0_1:=hide hq0_1;clear hq0_1)
  | (go_at_call_of 119 (Value.slice (some ⟨gc,0,none⟩) n n);refine (loops_rel gc n _ _ (Rc.out.below (Below.refl _ _))).mono ?_;rintro e w0_0 ⟨rfl,hb0_0⟩;(try rw[h1]);have B0_0:Hid (Below W0.heap.size W0 w0_0):=hb0_0;have c1_0_0:=(B0_0.out.cell (p:=⟨w.heap.size+1,0,none⟩) l0_1).trans c0_1_0;have c1_0_1:=(B0_0.out.cell (p:=⟨w.heap.size+2,0,none⟩) l0_2).trans c0_2_0;skip))
 all_goals
  go_wp2
  go_ret
  exact⟨rfl,bstep BW0.out (Nat.le_refl _) B0_2.out⟩
set_option maxHeartbeats 1600000 in
theorem mayCause_3 (a:FA) (f:Q.Facts) (gr:Nat) (rd:List Nat) (gc:Nat) (cs:List Nat) (gf:Nat) (fb:List Nat) (w:World) (hf:FactsIn w a f) (hr:RelAt w gr a.n rd) (hc:RelAt w gc a.n cs) (hk:RelAt w gf a.n fb) (h1:Q.loopsR cs=false) (h2:Q.loopsR (Q.thenR fb cs)=false) :
  Calls Tryz.prog 93 #[.agg (candT a gr),.agg #[.slice (some ⟨gc,0,none⟩) a.n a.n],.agg #[.slice (some ⟨gf,0,none⟩) a.n a.n]] w fun e w'=>e=.returned (.bool (!Q.leadsR (Q.andR rd cs)))∧Below w.heap.size w w':=by
 obtain⟨x,c,hev,_⟩:=hf.form
 obtain⟨n,ev,g1,g2,g3,g4,g5,g6,g7,g8,g9⟩:=a
 simp only at hev hr hc hk
 subst hev
 simp only[facCells,candT]
 obtain⟨k0,k1,k2,hsz,hbw⟩:=boxes3 w #[.slice x n c,.slice (some ⟨g1,0,none⟩) n n,.slice (some ⟨g2,0,none⟩) n n,.slice (some ⟨g3,0,none⟩) n n,.slice (some ⟨g4,0,none⟩) n n,.slice (some ⟨g5,0,none⟩) n n,.slice (some ⟨g6,0,none⟩) n n,.slice (some ⟨g7,0,none⟩) n n,.slice (some ⟨g8,0,none⟩) n n,.slice (some ⟨g9,0,none⟩) n n,.slice (some ⟨gr,0,none⟩) n n] #[.slice (some ⟨gc,0,none⟩) n n] #[.slice (some ⟨gf,0,none⟩) n n] 101 68 68
 have HF:=hide (hf.below hbw)
 have Rr:=hide (hr.below hbw)
 have Rc:=hide (hc.below hbw)
 have Rk:=hide (hk.below hbw)
 have BW0:=hide hbw
 clear hbw hf hr hc hk
 go_enter Tryz.func93,Tryz.ntmps93
 go_upto_region 1 with fail
 generalize hE:(((w.alloc (.cells #[.slice x n c,.slice (some ⟨g1,0,none⟩) n n,.slice (some ⟨g2,0,none⟩) n n,.slice (some ⟨g3,0,none⟩) n n,.slice (some ⟨g4,0,none⟩) n n,.slice (some ⟨g5,0,none⟩) n n,.slice (some ⟨g6,0,none⟩) n n,.slice (some ⟨g7,0,none⟩) n n,.slice (some ⟨g8,0,none⟩) n n,.slice (some ⟨g9,0,none⟩) n n,.slice (some ⟨gr,0,none⟩) n n] 101)).alloc (.cells #[.slice (some ⟨gc,0,none⟩) n n] 68)).alloc (.cells #[.slice (some ⟨gf,0,none⟩) n n] 68))=W0 at *
 have c0_0_0:W0.cell? ⟨w.heap.size,0,none⟩=some (.slice x n c):=by simp[World.cell?,k0]
 have c0_0_1:W0.cell? ⟨w.heap.size,1,none⟩=some (.slice (some ⟨g1,0,none⟩) n n):=by simp[World.cell?,k0]
 have c0_0_2:W0.cell? ⟨w.heap.size,2,none⟩=some (.slice (some ⟨g2,0,none⟩) n n):=by simp[World.cell?,k0]
 have c0_0_3:W0.cell? ⟨w.heap.size,3,none⟩=some (.slice (some ⟨g3,0,none⟩) n n):=by simp[World.cell?,k0]
 have c0_0_4:W0.cell? ⟨w.heap.size,4,none⟩=some (.slice (some ⟨g4,0,none⟩) n n):=by simp[World.cell?,k0]
 have c0_0_5:W0.cell? ⟨w.heap.size,5,none⟩=some (.slice (some ⟨g5,0,none⟩) n n):=by simp[World.cell?,k0]
 have c0_0_6:W0.cell? ⟨w.heap.size,6,none⟩=some (.slice (some ⟨g6,0,none⟩) n n):=by simp[World.cell?,k0]
 have c0_0_7:W0.cell? ⟨w.heap.size,7,none⟩=some (.slice (some ⟨g7,0,none⟩) n n):=by simp[World.cell?,k0]
 have c0_0_8:W0.cell? ⟨w.heap.size,8,none⟩=some (.slice (some ⟨g8,0,none⟩) n n):=by simp[World.cell?,k0]
 have c0_0_9:W0.cell? ⟨w.heap.size,9,none⟩=some (.slice (some ⟨g9,0,none⟩) n n):=by simp[World.cell?,k0]
 have c0_0_10:W0.cell? ⟨w.heap.size,10,none⟩=some (.slice (some ⟨gr,0,none⟩) n n):=by simp[World.cell?,k0]
 have l0_0:w.heap.size<W0.heap.size:=by omega
 have f0_0:∀ j,W0.frozen? ⟨w.heap.size,j,none⟩=false:=fun j=>by simp[World.frozen?,k0]
 have K0_0:=hide k0
 have c0_1_0:W0.cell? ⟨w.heap.size+1,0,none⟩=some (.slice (some ⟨gc,0,none⟩) n n):=by simp[World.cell?,k1]
 have l0_1:w.heap.size+1<W0.heap.size:=by omega
 have f0_1:∀ j,W0.frozen? ⟨w.heap.size+1,j,none⟩=false:=fun j=>by simp[World.frozen?,k1]
 have K0_1:=hide k1
 have c0_2_0:W0.cell? ⟨w.heap.size+2,0,none⟩=some (.slice (some ⟨gf,0,none⟩) n n):=by simp[World.cell?,k2]
 have l0_2:w.heap.size+2<W0.heap.size:=by omega
 have f0_2:∀ j,W0.frozen? ⟨w.heap.size+2,j,none⟩=false:=fun j=>by simp[World.frozen?,k2]
 have K0_2:=hide k2
 have hsq0:w.heap.size+3≤W0.heap.size:=by omega
 clear hE hsz k0 k1 k2
 go_wp2_with (first
  | (go_at_call_of 145 (Value.slice (some ⟨q0_3,0,none⟩) n n);refine (leads_rel q0_3 n _ _ Q0_3.out).mono ?_;rintro e w0_4 ⟨rfl,hb0_4⟩;have B0_4:Hid (Below W0.heap.size W0 w0_4):=bstep B0_3.out (Nat.le_refl _) hb0_4;have c1_4_0:=(B0_4.out.cell (p:=⟨w.heap.size,10,none⟩) l0_0).trans c0_0_10;have c1_4_1:=(B0_4.out.cell (p:=⟨w.heap.size+1,0,none⟩) l0_1).trans c0_1_0;have c1_4_2:=(B0_4.out.cell (p:=⟨w.heap.size+2,0,none⟩) l0_2).trans c0_2_0;skip)
  | (go_at_call_of 114 (Value.slice (some ⟨gr,0,none⟩) n n);refine (and_rel gr gc n _ _ _ (Rr.out.below B0_2.out) (Rc.out.below B0_2.out)).mono ?_;rintro e w0_3 ⟨q0_3,rfl,hq0_3,hb0_3⟩;have B0_3:Hid (Below W0.heap.size W0 w0_3):=bstep B0_2.out (Nat.le_refl _) hb0_3;have c1_3_0:=(B0_3.out.cell (p:=⟨w.heap.size,10,none⟩) l0_0).trans c0_0_10;have c1_3_1:=(B0_3.out.cell (p:=⟨w.heap.size+1,0,none⟩) l0_1).trans c0_1_0;have c1_3_2:=(B0_3.out.cell (p:=⟨w.heap.size+2,0,none⟩) l0_2).trans c0_2_0;have Q0_3:=hide hq0_3;clear hq0_3)
  | (go_at_call_of 119 (Value.slice (some ⟨q0_1,0,none⟩) n n);refine (loops_rel q0_1 n _ _ Q0_1.out).mono ?_;rintro e w0_2 ⟨rfl,hb0_2⟩;(try rw[h2]);have B0_2:Hid (Below W0.heap.size W0 w0_2):=bstep B0_1.out (Nat.le_refl _) hb0_2;have c1_2_0:=(B0_2.out.cell (p:=⟨w.heap.size,10,none⟩) l0_0).trans c0_0_10;have c1_2_1:=(B0_2.out.cell (p:=⟨w.heap.size+1,0,none⟩) l0_1).trans c0_1_0;have c1_2_2:=(B0_2.out.cell (p:=⟨w.heap.size+2,0,none⟩) l0_2).trans c0_2_0;skip)
  | (go_at_call_of 113 (Value.slice (some ⟨gf,0,none⟩) n n);refine (then_rel gf gc n _ _ _ (Rk.out.below B0_0.out) (Rc.out.below B0_0.out)).mono ?_;rintro e w0_1 ⟨q0_1,rfl,hq0_1,hb0_1⟩;have B0_1:Hid (Below W0.heap.size W0 w0_1):=bstep B0_0.out (Nat.le_refl _) hb0_1;have c1_1_0:=(B0_1.out.cell (p:=⟨w.heap.size,10,none⟩) l0_0).trans c0_0_10;have c1_1_1:=(B0_1.out.cell (p:=⟨w.heap.size+1,0,none⟩) l0_1).trans c0_1_0;have c1_1_2:=(B0_1.out.cell (p:=⟨w.heap.size+2,0,none⟩) l0_2).trans c0_2_0;have Q0_1:=hide hq0_1;clear hq0_1)
  | (go_at_call_of 119 (Value.slice (some ⟨gc,0,none⟩) n n);refine (loops_rel gc n _ _ (Rc.out.below (Below.refl _ _))).mono ?_;rintro e w0_0 ⟨rfl,hb0_0⟩;(try rw[h1]);have B0_0:Hid (Below W0.heap.size W0 w0_0):=hb0_0;have c1_0_0:=(B0_0.out.cell (p:=⟨w.heap.size,10,none⟩) l0_0).trans c0_0_10;have c1_0_1:=(B0_0.out.cell (p:=⟨w.heap.size+1,0,none⟩) l0_1).trans c0_1_0;have c1_0_2:=(B0_0.out.cell (p:=⟨w.heap.size+2,0,none⟩) l0_2).trans c0_2_0;skip))
 all_goals
  go_wp2
  go_ret
  exact⟨rfl,bstep BW0.out (Nat.le_refl _) B0_4.out⟩
end Go.Proofs.YtgceflcbckjjiaaGreatDoor
