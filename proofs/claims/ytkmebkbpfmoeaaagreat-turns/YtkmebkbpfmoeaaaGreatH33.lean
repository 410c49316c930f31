import Derived.Test.YtkmebkbpfmoeaaaGreatH32
set_option linter.unusedVariables false
set_option linter.unusedSimpArgs false
set_option maxHeartbeats 12800000
namespace Go.Proofs.YtkmebkbpfmoeaaaGreat
open Go Go.RowKit
set_option maxRecDepth 100000
theorem zCR (a:FA) (f:Q.Facts) (v:Value) (ps:List Int) (w:World) (hf:FactsIn w a f) (hv:zBA w v ps) (hpl:ps.length=a.n) :
  Calls Tryz.prog 83 #[.agg (zAl a),v] w fun e w'=>zFv w w' a.n (Q.zIB f.events ps) e:=by
 have HFE:Hid (Q.zIB f.events ps=(List.range a.n).foldl (Q.zJK f.events ps) (Q.newR a.n)):=by unfold Hid Q.zIB;rw[hf.len]
 obtain⟨va,vc,rfl,hva⟩:=hv.form
 have hvb:0<a.n→∃ g,va=some ⟨g,0,none⟩∧g<w.heap.size∧∀ i,i<a.n→w.cell? ⟨g,i,none⟩=some (.int .i64 (ps.getD i 0)):=fun h0=>by
  obtain⟨g,e1,e2,e3⟩:=hva (by omega)
  exact⟨g,e1,e2,fun i hi=>by rw[zAH ps i (by omega)];exact e3 i (by omega)⟩
 clear hva
 rw[hpl]
 obtain⟨x,c,hev,hx⟩:=hf.form
 have hn64:=hf.n64
 have hln:=hf.len
 obtain⟨n,ev,g1,g2,g3,g4,g5,g6,g7,g8,g9⟩:=a
 simp only at hev hn64 hln hx
 subst hev
 simp only[zAl]
 simp only at HFE hpl hvb
 have HEV:=zAa hf.ev
 obtain⟨k0,k1,hsz,hbw⟩:=zBM w #[.slice x n c,.slice (some ⟨g1,0,none⟩) n n,.slice (some ⟨g2,0,none⟩) n n,.slice (some ⟨g3,0,none⟩) n n,.slice (some ⟨g4,0,none⟩) n n,.slice (some ⟨g5,0,none⟩) n n,.slice (some ⟨g6,0,none⟩) n n,.slice (some ⟨g7,0,none⟩) n n,.slice (some ⟨g8,0,none⟩) n n,.slice (some ⟨g9,0,none⟩) n n] #[.slice none 0 0] 66 64
 have BW0:=zAa hbw
 clear hbw hf hv
 go_enter Tryz.func83,Tryz.ntmps83
 go_upto_region 1 with fail
 generalize hE:(w.alloc (.cells #[.slice x n c,.slice (some ⟨g1,0,none⟩) n n,.slice (some ⟨g2,0,none⟩) n n,.slice (some ⟨g3,0,none⟩) n n,.slice (some ⟨g4,0,none⟩) n n,.slice (some ⟨g5,0,none⟩) n n,.slice (some ⟨g6,0,none⟩) n n,.slice (some ⟨g7,0,none⟩) n n,.slice (some ⟨g8,0,none⟩) n n,.slice (some ⟨g9,0,none⟩) n n] 66)).alloc (.cells #[.slice none 0 0] 64)=W0 at *
 have c00:=ceL k0 0 _ rfl
 obtain⟨c1,f1,l1⟩:=zAm k1
 have l0:w.heap.size<W0.heap.size:=by omega
 have K1:=zAa k1
 clear hE k0 k1 c1 f1
 go_wp2_with (first | (go_at_call 72;refine (zBn n _ hn64).mono ?_;rintro e w1 ⟨gn,rfl,hsn,hgn,hll,hfn,hb1⟩;have HS:=zAa (Fill.start ⟨hsn,hll,hfn⟩ hgn hb1);have hz1:=hb1.size;have c00b:=HS.out.cell (p:=⟨w.heap.size,0,none⟩) l0 c00;clear hsn hb1 hll hfn))
 go_loopw [17] (fun i wr=>∃ (k:Nat) (t:List Nat),k≤n∧i=.int .i64 k∧Hid (t=(List.range k).foldl (Q.zJK f.events ps) (Q.newR n))∧Hid (Fill W0 wr w1.heap.size gn n t)) (fun i _=>n-(intOf i).toNat)
 case atStart=>exact⟨0,_,Nat.zero_le _,rfl,rfl,HS⟩
 case round =>
  clear c00b
  obtain⟨k,t,hk,rfl,HT,HI⟩:=hrel
  obtain⟨b0,b1,b2⟩:=zAm HI.out.box
  have d00:=HI.out.cell (p:=⟨w.heap.size,0,none⟩) l0 c00
  have l0w:=Nat.lt_of_lt_of_le l0 HI.out.bel.size
  by_cases hlt:k<n
  ·have hin:(k:Int)<(n:Int):=by omega
   obtain⟨be,rfl,hbe⟩:=hx (by omega)
   obtain⟨gp,rfl,hgp,hps⟩:=hvb (by omega)
   have hbeW:be<W0.heap.size:=by omega
   have hgpW:gp<W0.heap.size:=by omega
   have HR1:Hid (wr.rangeAt be (k*10) (zAb (Q.ev f.events k)).toList):=zAz (HEV.out.range' hln.symm k (by omega)) ((HI.out.bel.block be hbeW).trans (BW0.out.block be hbe))
   have HPK:Hid (W0.cell? ⟨gp,k,none⟩=some (.int .i64 (ps.getD k 0))):=(BW0.out.cell (p:=⟨gp,k,none⟩) hgp).trans (hps k (by omega))
   have HTS:Hid ((List.range (k+1)).foldl (Q.zJK f.events ps) (Q.newR n)=(List.range n).foldl (Q.zIZ f.events ps k) t):=by unfold Hid;rw[Q.zIm,← HT.out];unfold Q.zJK;rw[hln]
   have HBP:Hid (∀ q,Q.zKB f.events ps k q=((Q.ev f.events k).kind==1&&(Q.ev f.events q).kind==1&&(Q.ev f.events k).var==(Q.ev f.events q).var&&decide (ps.getD k 0<ps.getD q 0))):=fun q=>rfl
   generalize Q.ev f.events k=e1 at *
   generalize hpk:ps.getD k 0=pk at *
   clear hpk
   have HA1:Hid (zAQ (wr.alloc (.cells (zAb e1) 129)) wr.heap.size e1):=zAQ.new wr e1
   have HF1:=zAa (HI.out.alloc (.cells (zAb e1) 129))
   have d00b:=HF1.out.cell (p:=⟨w.heap.size,0,none⟩) l0 c00
   go_wp2_with (first | (refine zAg (.tmp 20) rfl rfl be (k*10) e1 rfl HR1.out ?_))
   go_loopw [25] (fun j wq=>∃ (q:Nat) (u:List Nat),q≤n∧j=.int .i64 q∧Hid (u=(List.range q).foldl (Q.zIZ f.events ps k) t)∧Hid (Fill W0 wq w1.heap.size gn n u)∧Hid (zAQ wq wr.heap.size e1)) (fun j _=>n-(intOf j).toNat)
   case atStart=>exact⟨0,t,Nat.zero_le _,rfl,rfl,HF1,HA1⟩
   case round =>
    clear d00b d00 HF1 HA1 b0 b1 b2 HR1 l0w
    obtain⟨q,u,hq,rfl,HU,HJ,HA⟩:=hrel
    by_cases hql:q<n
    ·have hqi:(q:Int)<(n:Int):=by omega
     have HR2:Hid (wr.rangeAt be (q*10) (zAb (Q.ev f.events q)).toList):=zAz (HEV.out.range' hln.symm q (by omega)) ((HJ.out.bel.block be hbeW).trans (BW0.out.block be hbe))
     have HPQ:Hid (W0.cell? ⟨gp,q,none⟩=some (.int .i64 (ps.getD q 0))):=(BW0.out.cell (p:=⟨gp,q,none⟩) hgp).trans (hps q (by omega))
     have HB:=zAa (HBP.out q)
     have HUS:Hid ((List.range (q+1)).foldl (Q.zIZ f.events ps k) t=Q.addIf (Q.zKB f.events ps k q) u k q):=by unfold Hid;rw[Q.zIm,← HU.out];rfl
     rw[HB.out] at HUS
     generalize Q.ev f.events q=e2 at *
     generalize hpq:ps.getD q 0=pq at *
     clear hpq
     have HF2:=zAa (HJ.out.alloc (.cells (zAb e2) 129))
     have HA2:=zAa (HA.out.alloc (.cells (zAb e2) 129))
     have cpk:=HF2.out.cell (p:=⟨gp,k,none⟩) hgpW HPK.out
     have cpq:=HF2.out.cell (p:=⟨gp,q,none⟩) hgpW HPQ.out
     have lgp:=Nat.lt_of_lt_of_le hgpW HF2.out.bel.size
     obtain⟨x0,x1,x2,x3,x4,x5,x6,x7,x8,x9,xf,xl⟩:=HA2.out.facts
     clear x1 x2 x4 x5 x6 x7 x8 x9
     have HA3:=zAa (zAQ.new wr e2)
     obtain⟨y0,y1,y2,y3,y4,y5,y6,y7,y8,y9,yf,yl⟩:=HA3.out.facts
     clear y1 y2 y4 y5 y6 y7 y8 y9
     simp only[zAb] at x0 x3 xf xl y0 y3 yf yl cpk cpq lgp
     cases z1:(e1.kind==1)
     ·have HUN:Hid (u=(List.range (q+1)).foldl (Q.zIZ f.events ps k) t):=by unfold Hid;rw[HUS.out];simp[Q.addIf,z1]
      go_wp2_with (first | (refine zAg (.tmp 28) rfl rfl be (q*10) e2 rfl HR2.out ?_))
      go_quiet (fail)
      all_goals
       go_wp2
       go_roundw
       case rel=>exact⟨q+1,u,by omega,by go_num,HUN,HF2.out.keep (zAD _ _ _),HA2.out.below (zAD _ _ _)⟩
       case measure=>simp[intOf];omega
     cases z2:(e2.kind==1)
     ·have HUN:Hid (u=(List.range (q+1)).foldl (Q.zIZ f.events ps k) t):=by unfold Hid;rw[HUS.out];simp[Q.addIf,z1,z2]
      go_wp2_with (first | (refine zAg (.tmp 28) rfl rfl be (q*10) e2 rfl HR2.out ?_))
      go_quiet (fail)
      all_goals
       go_wp2
       go_roundw
       case rel=>exact⟨q+1,u,by omega,by go_num,HUN,HF2.out.keep (zAD _ _ _),HA2.out.below (zAD _ _ _)⟩
       case measure=>simp[intOf];omega
     cases z3:(e1.var==e2.var)
     ·have HUN:Hid (u=(List.range (q+1)).foldl (Q.zIZ f.events ps k) t):=by unfold Hid;rw[HUS.out];simp[Q.addIf,z1,z2,z3]
      go_wp2_with (first | (refine zAg (.tmp 28) rfl rfl be (q*10) e2 rfl HR2.out ?_))
      go_quiet (fail)
      all_goals
       go_wp2
       go_roundw
       case rel=>exact⟨q+1,u,by omega,by go_num,HUN,HF2.out.keep (zAD _ _ _),HA2.out.below (zAD _ _ _)⟩
       case measure=>simp[intOf];omega
     by_cases hz4:pk<pq
     ·have z4:decide (pk<pq)=true:=decide_eq_true hz4
      have HUN:Hid (Q.addR u (k:Int) (q:Int)=(List.range (q+1)).foldl (Q.zIZ f.events ps k) t):=by unfold Hid;rw[HUS.out];simp[Q.addIf,z1,z2,z3,z4]
      go_wp2_with (first | (refine zAg (.tmp 28) rfl rfl be (q*10) e2 rfl HR2.out ?_))
      go_quiet (fail)
      all_goals
       go_wp2_with (first | (go_at_call 73;refine (zBw w1.heap.size 0 gn n u (k:Int) (q:Int) _ (HF2.out.keep (zAD _ _ _)).relIn HF2.out.rel.fits).mono ?_;rintro e wc ⟨rfl,hsc,hgc⟩;have HJ2:=zAa ((HF2.out.keep (zAD _ _ _)).grown hgc hsc);have HA4:=zAa (zAQ.grown (HA2.out.below (zAD _ _ _)) (HF2.out.keep (zAD _ _ _)).rel.at_ hgc)))
       go_roundw
       case rel=>exact⟨q+1,_,by omega,by go_num,HUN,HJ2,HA4⟩
       case measure=>simp[intOf];omega
     ·have z4:decide (pk<pq)=false:=decide_eq_false hz4
      have HUN:Hid (u=(List.range (q+1)).foldl (Q.zIZ f.events ps k) t):=by unfold Hid;rw[HUS.out];simp[Q.addIf,z1,z2,z3,z4]
      go_wp2_with (first | (refine zAg (.tmp 28) rfl rfl be (q*10) e2 rfl HR2.out ?_))
      go_quiet (fail)
      all_goals
       go_wp2
       go_roundw
       case rel=>exact⟨q+1,u,by omega,by go_num,HUN,HF2.out.keep (zAD _ _ _),HA2.out.below (zAD _ _ _)⟩
       case measure=>simp[intOf];omega
    ·have HN2:Hid (u=(List.range (k+1)).foldl (Q.zJK f.events ps) (Q.newR n)):=by unfold Hid;rw[HTS.out,HU.out,show q=n by omega]
     go_wp2
     go_roundw
     case rel=>exact⟨k+1,u,by omega,by go_num,HN2,HJ⟩
     case measure=>simp[intOf];omega
  ·have hkn:k=n:=by omega
   have HE2:Hid (t=Q.zIB f.events ps):=by unfold Hid;rw[HFE.out,HT.out,hkn]
   obtain⟨q1,q2⟩:=HI.out.out BW0.out K1.out (by omega)
   rw[HE2.out] at q1
   go_wp2_with (first | (refine zAw (.tmp 5) rfl rfl w1.heap.size _ rfl HI.out.box ?_) | (refine zAU (.tmp 4) (.tmp 71) rfl rfl (w.heap.size+1) _ _ rfl rfl ((HI.out.bel.block _ l1).trans K1.out) rfl ?_))
   refine zBv (p:=4) (w.heap.size+1) _ (by kernel_rfl) rfl q2 rfl q1
theorem zHO (a:FA) (f:Q.Facts) (gr:Nat) (rd:List Nat) (gf:Nat) (bf:List Nat) (w:World) (hf:FactsIn w a f) (hr:RelAt w gr a.n rd) (hb:RelAt w gf a.n bf) (pv:Value) (ps:List Int) (hp:zBA w pv ps) (hpl:ps.length=a.n) (h1:Q.zIK bf=true) :
  Calls Tryz.prog 58 #[.agg (zCO a gr gf),pv] w fun e w'=>e=.returned (.bool (false))∧Below w.heap.size w w':=by
 obtain⟨x,c,hev,_⟩:=hf.form
 obtain⟨n,ev,g1,g2,g3,g4,g5,g6,g7,g8,g9⟩:=a
 simp only at hev hr hb
 subst hev
 simp only[zAl,zCO]
 obtain⟨k0,hsz,hbw⟩:=zBt w #[.slice x n c,.slice (some ⟨g1,0,none⟩) n n,.slice (some ⟨g2,0,none⟩) n n,.slice (some ⟨g3,0,none⟩) n n,.slice (some ⟨g4,0,none⟩) n n,.slice (some ⟨g5,0,none⟩) n n,.slice (some ⟨g6,0,none⟩) n n,.slice (some ⟨g7,0,none⟩) n n,.slice (some ⟨g8,0,none⟩) n n,.slice (some ⟨g9,0,none⟩) n n,.slice (some ⟨gr,0,none⟩) n n,.slice (some ⟨gf,0,none⟩) n n] 80
 have HF:=zAa (hf.below hbw)
 have Rr:=zAa (hr.below hbw)
 have Rb:=zAa (hb.below hbw)
 have BW0:=zAa hbw
 clear hbw hf hr hb
 have HP:=zAa (hp.below BW0.out)
 clear hp
 simp only at hpl
 go_enter Tryz.func58,Tryz.ntmps58
 go_upto_region 1 with fail
 generalize hE:(w.alloc (.cells #[.slice x n c,.slice (some ⟨g1,0,none⟩) n n,.slice (some ⟨g2,0,none⟩) n n,.slice (some ⟨g3,0,none⟩) n n,.slice (some ⟨g4,0,none⟩) n n,.slice (some ⟨g5,0,none⟩) n n,.slice (some ⟨g6,0,none⟩) n n,.slice (some ⟨g7,0,none⟩) n n,.slice (some ⟨g8,0,none⟩) n n,.slice (some ⟨g9,0,none⟩) n n,.slice (some ⟨gr,0,none⟩) n n,.slice (some ⟨gf,0,none⟩) n n] 80))=W0 at *
 have c0_0_0:=ceL k0 0 _ rfl
 have c0_0_1:=ceL k0 1 _ rfl
 have c0_0_2:=ceL k0 2 _ rfl
 have c0_0_3:=ceL k0 3 _ rfl
 have c0_0_4:=ceL k0 4 _ rfl
 have c0_0_5:=ceL k0 5 _ rfl
 have c0_0_6:=ceL k0 6 _ rfl
 have c0_0_7:=ceL k0 7 _ rfl
 have c0_0_8:=ceL k0 8 _ rfl
 have c0_0_9:=ceL k0 9 _ rfl
 have c0_0_10:=ceL k0 10 _ rfl
 have c0_0_11:=ceL k0 11 _ rfl
 have l0_0:w.heap.size<W0.heap.size:=by omega
 have f0_0:∀ j,W0.frozen? ⟨w.heap.size,j,none⟩=false:=fun j=>by simp[World.frozen?,k0]
 have K0_0:=zAa k0
 have hsq0:w.heap.size+1≤W0.heap.size:=by omega
 clear hE hsz k0
 go_wp2_with (first
  | (go_at_call_of 82 (Value.slice (some ⟨gf,0,none⟩) n n);refine (zBI gf n _ _ (Rb.out.below (Below.refl _ _))).mono ?_;rintro e w0_0 ⟨rfl,hb0_0⟩;(try rw[h1]);have B0_0:Hid (Below W0.heap.size W0 w0_0):=hb0_0;skip))
 all_goals
  go_wp2
  go_ret
  exact⟨rfl,zAn BW0.out (Nat.le_refl _) B0_0.out⟩
theorem zHP (a:FA) (f:Q.Facts) (gr:Nat) (rd:List Nat) (gf:Nat) (bf:List Nat) (w:World) (hf:FactsIn w a f) (hr:RelAt w gr a.n rd) (hb:RelAt w gf a.n bf) (pv:Value) (ps:List Int) (hp:zBA w pv ps) (hpl:ps.length=a.n) (h1:Q.zIK bf=false) (h2:f.splits (Q.thenR rd (Q.zIB f.events ps)) (Q.zIB f.events ps)=true) :
  Calls Tryz.prog 58 #[.agg (zCO a gr gf),pv] w fun e w'=>e=.returned (.bool (false))∧Below w.heap.size w w':=by
 obtain⟨x,c,hev,_⟩:=hf.form
 obtain⟨n,ev,g1,g2,g3,g4,g5,g6,g7,g8,g9⟩:=a
 simp only at hev hr hb
 subst hev
 simp only[zAl,zCO]
 obtain⟨k0,hsz,hbw⟩:=zBt w #[.slice x n c,.slice (some ⟨g1,0,none⟩) n n,.slice (some ⟨g2,0,none⟩) n n,.slice (some ⟨g3,0,none⟩) n n,.slice (some ⟨g4,0,none⟩) n n,.slice (some ⟨g5,0,none⟩) n n,.slice (some ⟨g6,0,none⟩) n n,.slice (some ⟨g7,0,none⟩) n n,.slice (some ⟨g8,0,none⟩) n n,.slice (some ⟨g9,0,none⟩) n n,.slice (some ⟨gr,0,none⟩) n n,.slice (some ⟨gf,0,none⟩) n n] 80
 have HF:=zAa (hf.below hbw)
 have Rr:=zAa (hr.below hbw)
 have Rb:=zAa (hb.below hbw)
 have BW0:=zAa hbw
 clear hbw hf hr hb
 have HP:=zAa (hp.below BW0.out)
 clear hp
 simp only at hpl
 go_enter Tryz.func58,Tryz.ntmps58
 go_upto_region 1 with fail
 generalize hE:(w.alloc (.cells #[.slice x n c,.slice (some ⟨g1,0,none⟩) n n,.slice (some ⟨g2,0,none⟩) n n,.slice (some ⟨g3,0,none⟩) n n,.slice (some ⟨g4,0,none⟩) n n,.slice (some ⟨g5,0,none⟩) n n,.slice (some ⟨g6,0,none⟩) n n,.slice (some ⟨g7,0,none⟩) n n,.slice (some ⟨g8,0,none⟩) n n,.slice (some ⟨g9,0,none⟩) n n,.slice (some ⟨gr,0,none⟩) n n,.slice (some ⟨gf,0,none⟩) n n] 80))=W0 at *
 have c0_0_0:=ceL k0 0 _ rfl
 have c0_0_1:=ceL k0 1 _ rfl
 have c0_0_2:=ceL k0 2 _ rfl
 have c0_0_3:=ceL k0 3 _ rfl
 have c0_0_4:=ceL k0 4 _ rfl
 have c0_0_5:=ceL k0 5 _ rfl
 have c0_0_6:=ceL k0 6 _ rfl
 have c0_0_7:=ceL k0 7 _ rfl
 have c0_0_8:=ceL k0 8 _ rfl
 have c0_0_9:=ceL k0 9 _ rfl
 have c0_0_10:=ceL k0 10 _ rfl
 have c0_0_11:=ceL k0 11 _ rfl
 have l0_0:w.heap.size<W0.heap.size:=by omega
 have f0_0:∀ j,W0.frozen? ⟨w.heap.size,j,none⟩=false:=fun j=>by simp[World.frozen?,k0]
 have K0_0:=zAa k0
 have hsq0:w.heap.size+1≤W0.heap.size:=by omega
 clear hE hsz k0
 go_upto_region 4 with (first
  | (go_at_call 83;refine (zCR (FA.mk n (.slice x n c) g1 g2 g3 g4 g5 g6 g7 g8 g9) f pv ps _ (HF.out.below B0_0.out) (HP.out.below B0_0.out) hpl).mono ?_;rintro e w0_1 ⟨q0_1,rfl,hq0_1,hb0_1⟩;have B0_1:Hid (Below W0.heap.size W0 w0_1):=zAn B0_0.out (Nat.le_refl _) hb0_1;have c1_1_0:=cfL B0_1.out l0_0 c0_0_0;have c1_1_1:=cfL B0_1.out l0_0 c0_0_1;have c1_1_2:=cfL B0_1.out l0_0 c0_0_2;have c1_1_3:=cfL B0_1.out l0_0 c0_0_3;have c1_1_4:=cfL B0_1.out l0_0 c0_0_4;have c1_1_5:=cfL B0_1.out l0_0 c0_0_5;have c1_1_6:=cfL B0_1.out l0_0 c0_0_6;have c1_1_7:=cfL B0_1.out l0_0 c0_0_7;have c1_1_8:=cfL B0_1.out l0_0 c0_0_8;have c1_1_9:=cfL B0_1.out l0_0 c0_0_9;have c1_1_10:=cfL B0_1.out l0_0 c0_0_10;have c1_1_11:=cfL B0_1.out l0_0 c0_0_11;have Q0_1:=zAa hq0_1;clear hq0_1)
  | (go_at_call_of 82 (Value.slice (some ⟨gf,0,none⟩) n n);refine (zBI gf n _ _ (Rb.out.below (Below.refl _ _))).mono ?_;rintro e w0_0 ⟨rfl,hb0_0⟩;(try rw[h1]);have B0_0:Hid (Below W0.heap.size W0 w0_0):=hb0_0;have c1_0_0:=cfL B0_0.out l0_0 c0_0_0;have c1_0_1:=cfL B0_0.out l0_0 c0_0_1;have c1_0_2:=cfL B0_0.out l0_0 c0_0_2;have c1_0_3:=cfL B0_0.out l0_0 c0_0_3;have c1_0_4:=cfL B0_0.out l0_0 c0_0_4;have c1_0_5:=cfL B0_0.out l0_0 c0_0_5;have c1_0_6:=cfL B0_0.out l0_0 c0_0_6;have c1_0_7:=cfL B0_0.out l0_0 c0_0_7;have c1_0_8:=cfL B0_0.out l0_0 c0_0_8;have c1_0_9:=cfL B0_0.out l0_0 c0_0_9;have c1_0_10:=cfL B0_0.out l0_0 c0_0_10;have c1_0_11:=cfL B0_0.out l0_0 c0_0_11;skip))
 have k1_n:=heap_alloc_new w0_1 (.cells #[.slice (some ⟨q0_1,0,none⟩) n n] 64)
 have BX:Below W0.heap.size W0 (w0_1.alloc (.cells #[.slice (some ⟨q0_1,0,none⟩) n n] 64)):=B0_1.out.alloc B0_1.out.size _
 have hsq1:=B0_1.out.size
 have hwz:=BX.size
 have HF1:=zAa (HF.out.below BX)
 have R1_0:=zAa (Rr.out.below BX)
 have R1_1:=zAa (Rb.out.below BX)
 have R1_2:=zAa (Q0_1.out.below ((Below.refl _ _).alloc (Nat.le_refl _) (.cells #[.slice (some ⟨q0_1,0,none⟩) n n] 64)))
 have BW1:=zAa (zAn BW0.out (Nat.le_refl _) BX)
 have d1_0:=cfL BX l0_0 c0_0_0
 have d1_1:=cfL BX l0_0 c0_0_1
 have d1_2:=cfL BX l0_0 c0_0_2
 have d1_3:=cfL BX l0_0 c0_0_3
 have d1_4:=cfL BX l0_0 c0_0_4
 have d1_5:=cfL BX l0_0 c0_0_5
 have d1_6:=cfL BX l0_0 c0_0_6
 have d1_7:=cfL BX l0_0 c0_0_7
 have d1_8:=cfL BX l0_0 c0_0_8
 have d1_9:=cfL BX l0_0 c0_0_9
 have d1_10:=cfL BX l0_0 c0_0_10
 have d1_11:=cfL BX l0_0 c0_0_11
 have f1_0:∀ j,(w0_1.alloc (.cells #[.slice (some ⟨q0_1,0,none⟩) n n] 64)).frozen? ⟨w.heap.size,j,none⟩=false:=fun j=>(BX.frozen (p:=⟨w.heap.size,j,none⟩) l0_0).trans (f0_0 j)
 have l1_0:=Nat.lt_of_lt_of_le l0_0 hwz
 have K1_0:=zAa ((BX.block _ l0_0).trans K0_0.out)
 have hn1:w0_1.heap.size<(w0_1.alloc (.cells #[.slice (some ⟨q0_1,0,none⟩) n n] 64)).heap.size:=by simp
 clear BX hwz
 generalize hE1:w0_1.alloc (.cells #[.slice (some ⟨q0_1,0,none⟩) n n] 64)=W1 at *
 obtain⟨cn1,fn1,ln1⟩:=zAm k1_n
 have fm1:∀ j,W1.frozen? ⟨w0_1.heap.size,j,none⟩=false:=fun j=>by simp[World.frozen?,k1_n]
 have KN1:=zAa k1_n
 clear k1_n hE1 hn1
 clear c0_0_0 c0_0_1 c0_0_2 c0_0_3 c0_0_4 c0_0_5 c0_0_6 c0_0_7 c0_0_8 c0_0_9 c0_0_10 c0_0_11
 go_upto_region 5 with (first
  | (go_at_call 84;refine (zCP (FA.mk n (.slice x n c) g1 g2 g3 g4 g5 g6 g7 g8 g9) f gr _ q0_1 _ _ (HF1.out.below (Below.refl _ _)) (R1_0.out.below (Below.refl _ _)) (R1_2.out.below (Below.refl _ _))).mono ?_;rintro e w1_0 ⟨q1_0,rfl,hq1_0,hb1_0⟩;have B1_0:Hid (Below W1.heap.size W1 w1_0):=hb1_0;have c2_0_0:=cfL B1_0.out l1_0 d1_0;have c2_0_1:=cfL B1_0.out l1_0 d1_1;have c2_0_2:=cfL B1_0.out l1_0 d1_2;have c2_0_3:=cfL B1_0.out l1_0 d1_3;have c2_0_4:=cfL B1_0.out l1_0 d1_4;have c2_0_5:=cfL B1_0.out l1_0 d1_5;have c2_0_6:=cfL B1_0.out l1_0 d1_6;have c2_0_7:=cfL B1_0.out l1_0 d1_7;have c2_0_8:=cfL B1_0.out l1_0 d1_8;have c2_0_9:=cfL B1_0.out l1_0 d1_9;have c2_0_10:=cfL B1_0.out l1_0 d1_10;have c2_0_11:=cfL B1_0.out l1_0 d1_11;have c2_0_12:=cfL B1_0.out ln1 cn1;have Q1_0:=zAa hq1_0;clear hq1_0))
 have k2_n:=heap_alloc_new w1_0 (.cells #[.slice (some ⟨q1_0,0,none⟩) n n] 64)
 have BX:Below W1.heap.size W1 (w1_0.alloc (.cells #[.slice (some ⟨q1_0,0,none⟩) n n] 64)):=B1_0.out.alloc B1_0.out.size _
 have hsq2:=B1_0.out.size
 have hwz:=BX.size
 have HF2:=zAa (HF1.out.below BX)
 have R2_0:=zAa (R1_0.out.below BX)
 have R2_1:=zAa (R1_1.out.below BX)
 have R2_2:=zAa (R1_2.out.below BX)
 have R2_3:=zAa (Q1_0.out.below ((Below.refl _ _).alloc (Nat.le_refl _) (.cells #[.slice (some ⟨q1_0,0,none⟩) n n] 64)))
 have BW2:=zAa (zAn BW1.out (Nat.le_refl _) BX)
 have d2_0:=cfL BX l1_0 d1_0
 have d2_1:=cfL BX l1_0 d1_1
 have d2_2:=cfL BX l1_0 d1_2
 have d2_3:=cfL BX l1_0 d1_3
 have d2_4:=cfL BX l1_0 d1_4
 have d2_5:=cfL BX l1_0 d1_5
 have d2_6:=cfL BX l1_0 d1_6
 have d2_7:=cfL BX l1_0 d1_7
 have d2_8:=cfL BX l1_0 d1_8
 have d2_9:=cfL BX l1_0 d1_9
 have d2_10:=cfL BX l1_0 d1_10
 have d2_11:=cfL BX l1_0 d1_11
 have d2_12:=cfL BX ln1 cn1
 have f2_0:∀ j,(w1_0.alloc (.cells #[.slice (some ⟨q1_0,0,none⟩) n n] 64)).frozen? ⟨w.heap.size,j,none⟩=false:=fun j=>(BX.frozen (p:=⟨w.heap.size,j,none⟩) l1_0).trans (f1_0 j)
 have l2_0:=Nat.lt_of_lt_of_le l1_0 hwz
 have K2_0:=zAa ((BX.block _ l1_0).trans K1_0.out)
 have f2_1:∀ j,(w1_0.alloc (.cells #[.slice (some ⟨q1_0,0,none⟩) n n] 64)).frozen? ⟨w0_1.heap.size,j,none⟩=false:=fun j=>(BX.frozen (p:=⟨w0_1.heap.size,j,none⟩) ln1).trans (fm1 j)
 have l2_1:=Nat.lt_of_lt_of_le ln1 hwz
 have K2_1:=zAa ((BX.block _ ln1).trans KN1.out)
 have hn2:w1_0.heap.size<(w1_0.alloc (.cells #[.slice (some ⟨q1_0,0,none⟩) n n] 64)).heap.size:=by simp
 clear BX hwz
 generalize hE2:w1_0.alloc (.cells #[.slice (some ⟨q1_0,0,none⟩) n n] 64)=W2 at *
 obtain⟨cn2,fn2,ln2⟩:=zAm k2_n
 have fm2:∀ j,W2.frozen? ⟨w1_0.heap.size,j,none⟩=false:=fun j=>by simp[World.frozen?,k2_n]
 have KN2:=zAa k2_n
 clear k2_n hE2 hn2
 clear d1_0 d1_1 d1_2 d1_3 d1_4 d1_5 d1_6 d1_7 d1_8 d1_9 d1_10 d1_11 cn1
 go_wp2_with (first
  | (go_at_call 85;refine (zCQ (FA.mk n (.slice x n c) g1 g2 g3 g4 g5 g6 g7 g8 g9) f q1_0 _ q0_1 _ _ (HF2.out.below (Below.refl _ _)) (R2_3.out.below (Below.refl _ _)) (R2_2.out.below (Below.refl _ _))).mono ?_;rintro e w2_0 ⟨rfl,hb2_0⟩;(try rw[h2]);have B2_0:Hid (Below W2.heap.size W2 w2_0):=hb2_0;skip))
 all_goals
  go_wp2
  go_ret
  exact⟨rfl,zAn BW2.out (Nat.le_refl _) B2_0.out⟩
theorem zHQ (a:FA) (f:Q.Facts) (gr:Nat) (rd:List Nat) (gf:Nat) (bf:List Nat) (w:World) (hf:FactsIn w a f) (hr:RelAt w gr a.n rd) (hb:RelAt w gf a.n bf) (pv:Value) (ps:List Int) (hp:zBA w pv ps) (hpl:ps.length=a.n) (h1:Q.zIK bf=false) (h2:f.splits (Q.thenR rd (Q.zIB f.events ps)) (Q.zIB f.events ps)=false) (h3:Q.zIK (Q.thenR bf (Q.linked rd (Q.zIB f.events ps)))=true) :
  Calls Tryz.prog 58 #[.agg (zCO a gr gf),pv] w fun e w'=>e=.returned (.bool (false))∧Below w.heap.size w w':=by
 obtain⟨x,c,hev,_⟩:=hf.form
 obtain⟨n,ev,g1,g2,g3,g4,g5,g6,g7,g8,g9⟩:=a
 simp only at hev hr hb
 subst hev
 simp only[zAl,zCO]
 obtain⟨k0,hsz,hbw⟩:=zBt w #[.slice x n c,.slice (some ⟨g1,0,none⟩) n n,.slice (some ⟨g2,0,none⟩) n n,.slice (some ⟨g3,0,none⟩) n n,.slice (some ⟨g4,0,none⟩) n n,.slice (some ⟨g5,0,none⟩) n n,.slice (some ⟨g6,0,none⟩) n n,.slice (some ⟨g7,0,none⟩) n n,.slice (some ⟨g8,0,none⟩) n n,.slice (some ⟨g9,0,none⟩) n n,.slice (some ⟨gr,0,none⟩) n n,.slice (some ⟨gf,0,none⟩) n n] 80
 have HF:=zAa (hf.below hbw)
 have Rr:=zAa (hr.below hbw)
 have Rb:=zAa (hb.below hbw)
 have BW0:=zAa hbw
 clear hbw hf hr hb
 have HP:=zAa (hp.below BW0.out)
 clear hp
 simp only at hpl
 go_enter Tryz.func58,Tryz.ntmps58
 go_upto_region 1 with fail
 generalize hE:(w.alloc (.cells #[.slice x n c,.slice (some ⟨g1,0,none⟩) n n,.slice (some ⟨g2,0,none⟩) n n,.slice (some ⟨g3,0,none⟩) n n,.slice (some ⟨g4,0,none⟩) n n,.slice (some ⟨g5,0,none⟩) n n,.slice (some ⟨g6,0,none⟩) n n,.slice (some ⟨g7,0,none⟩) n n,.slice (some ⟨g8,0,none⟩) n n,.slice (some ⟨g9,0,none⟩) n n,.slice (some ⟨gr,0,none⟩) n n,.slice (some ⟨gf,0,none⟩) n n] 80))=W0 at *
 have c0_0_0:=ceL k0 0 _ rfl
 have c0_0_1:=ceL k0 1 _ rfl
 have c0_0_2:=ceL k0 2 _ rfl
 have c0_0_3:=ceL k0 3 _ rfl
 have c0_0_4:=ceL k0 4 _ rfl
 have c0_0_5:=ceL k0 5 _ rfl
 have c0_0_6:=ceL k0 6 _ rfl
 have c0_0_7:=ceL k0 7 _ rfl
 have c0_0_8:=ceL k0 8 _ rfl
 have c0_0_9:=ceL k0 9 _ rfl
 have c0_0_10:=ceL k0 10 _ rfl
 have c0_0_11:=ceL k0 11 _ rfl
 have l0_0:w.heap.size<W0.heap.size:=by omega
 have f0_0:∀ j,W0.frozen? ⟨w.heap.size,j,none⟩=false:=fun j=>by simp[World.frozen?,k0]
 have K0_0:=zAa k0
 have hsq0:w.heap.size+1≤W0.heap.size:=by omega
 clear hE hsz k0
 go_upto_region 4 with (first
  | (go_at_call 83;refine (zCR (FA.mk n (.slice x n c) g1 g2 g3 g4 g5 g6 g7 g8 g9) f pv ps _ (HF.out.below B0_0.out) (HP.out.below B0_0.out) hpl).mono ?_;rintro e w0_1 ⟨q0_1,rfl,hq0_1,hb0_1⟩;have B0_1:Hid (Below W0.heap.size W0 w0_1):=zAn B0_0.out (Nat.le_refl _) hb0_1;have c1_1_0:=cfL B0_1.out l0_0 c0_0_0;have c1_1_1:=cfL B0_1.out l0_0 c0_0_1;have c1_1_2:=cfL B0_1.out l0_0 c0_0_2;have c1_1_3:=cfL B0_1.out l0_0 c0_0_3;have c1_1_4:=cfL B0_1.out l0_0 c0_0_4;have c1_1_5:=cfL B0_1.out l0_0 c0_0_5;have c1_1_6:=cfL B0_1.out l0_0 c0_0_6;have c1_1_7:=cfL B0_1.out l0_0 c0_0_7;have c1_1_8:=cfL B0_1.out l0_0 c0_0_8;have c1_1_9:=cfL B0_1.out l0_0 c0_0_9;have c1_1_10:=cfL B0_1.out l0_0 c0_0_10;have c1_1_11:=cfL B0_1.out l0_0 c0_0_11;have Q0_1:=zAa hq0_1;clear hq0_1)
  | (go_at_call_of 82 (Value.slice (some ⟨gf,0,none⟩) n n);refine (zBI gf n _ _ (Rb.out.below (Below.refl _ _))).mono ?_;rintro e w0_0 ⟨rfl,hb0_0⟩;(try rw[h1]);have B0_0:Hid (Below W0.heap.size W0 w0_0):=hb0_0;have c1_0_0:=cfL B0_0.out l0_0 c0_0_0;have c1_0_1:=cfL B0_0.out l0_0 c0_0_1;have c1_0_2:=cfL B0_0.out l0_0 c0_0_2;have c1_0_3:=cfL B0_0.out l0_0 c0_0_3;have c1_0_4:=cfL B0_0.out l0_0 c0_0_4;have c1_0_5:=cfL B0_0.out l0_0 c0_0_5;have c1_0_6:=cfL B0_0.out l0_0 c0_0_6;have c1_0_7:=cfL B0_0.out l0_0 c0_0_7;have c1_0_8:=cfL B0_0.out l0_0 c0_0_8;have c1_0_9:=cfL B0_0.out l0_0 c0_0_9;have c1_0_10:=cfL B0_0.out l0_0 c0_0_10;have c1_0_11:=cfL B0_0.out l0_0 c0_0_11;skip))
 have k1_n:=heap_alloc_new w0_1 (.cells #[.slice (some ⟨q0_1,0,none⟩) n n] 64)
 have BX:Below W0.heap.size W0 (w0_1.alloc (.cells #[.slice (some ⟨q0_1,0,none⟩) n n] 64)):=B0_1.out.alloc B0_1.out.size _
 have hsq1:=B0_1.out.size
 have hwz:=BX.size
 have HF1:=zAa (HF.out.below BX)
 have R1_0:=zAa (Rr.out.below BX)
 have R1_1:=zAa (Rb.out.below BX)
 have R1_2:=zAa (Q0_1.out.below ((Below.refl _ _).alloc (Nat.le_refl _) (.cells #[.slice (some ⟨q0_1,0,none⟩) n n] 64)))
 have BW1:=zAa (zAn BW0.out (Nat.le_refl _) BX)
 have d1_0:=cfL BX l0_0 c0_0_0
 have d1_1:=cfL BX l0_0 c0_0_1
 have d1_2:=cfL BX l0_0 c0_0_2
 have d1_3:=cfL BX l0_0 c0_0_3
 have d1_4:=cfL BX l0_0 c0_0_4
 have d1_5:=cfL BX l0_0 c0_0_5
 have d1_6:=cfL BX l0_0 c0_0_6
 have d1_7:=cfL BX l0_0 c0_0_7
 have d1_8:=cfL BX l0_0 c0_0_8
 have d1_9:=cfL BX l0_0 c0_0_9
 have d1_10:=cfL BX l0_0 c0_0_10
 have d1_11:=cfL BX l0_0 c0_0_11
 have f1_0:∀ j,(w0_1.alloc (.cells #[.slice (some ⟨q0_1,0,none⟩) n n] 64)).frozen? ⟨w.heap.size,j,none⟩=false:=fun j=>(BX.frozen (p:=⟨w.heap.size,j,none⟩) l0_0).trans (f0_0 j)
 have l1_0:=Nat.lt_of_lt_of_le l0_0 hwz
 have K1_0:=zAa ((BX.block _ l0_0).trans K0_0.out)
 have hn1:w0_1.heap.size<(w0_1.alloc (.cells #[.slice (some ⟨q0_1,0,none⟩) n n] 64)).heap.size:=by simp
 clear BX hwz
 generalize hE1:w0_1.alloc (.cells #[.slice (some ⟨q0_1,0,none⟩) n n] 64)=W1 at *
 obtain⟨cn1,fn1,ln1⟩:=zAm k1_n
 have fm1:∀ j,W1.frozen? ⟨w0_1.heap.size,j,none⟩=false:=fun j=>by simp[World.frozen?,k1_n]
 have KN1:=zAa k1_n
 clear k1_n hE1 hn1
 clear c0_0_0 c0_0_1 c0_0_2 c0_0_3 c0_0_4 c0_0_5 c0_0_6 c0_0_7 c0_0_8 c0_0_9 c0_0_10 c0_0_11
 go_upto_region 5 with (first
  | (go_at_call 84;refine (zCP (FA.mk n (.slice x n c) g1 g2 g3 g4 g5 g6 g7 g8 g9) f gr _ q0_1 _ _ (HF1.out.below (Below.refl _ _)) (R1_0.out.below (Below.refl _ _)) (R1_2.out.below (Below.refl _ _))).mono ?_;rintro e w1_0 ⟨q1_0,rfl,hq1_0,hb1_0⟩;have B1_0:Hid (Below W1.heap.size W1 w1_0):=hb1_0;have c2_0_0:=cfL B1_0.out l1_0 d1_0;have c2_0_1:=cfL B1_0.out l1_0 d1_1;have c2_0_2:=cfL B1_0.out l1_0 d1_2;have c2_0_3:=cfL B1_0.out l1_0 d1_3;have c2_0_4:=cfL B1_0.out l1_0 d1_4;have c2_0_5:=cfL B1_0.out l1_0 d1_5;have c2_0_6:=cfL B1_0.out l1_0 d1_6;have c2_0_7:=cfL B1_0.out l1_0 d1_7;have c2_0_8:=cfL B1_0.out l1_0 d1_8;have c2_0_9:=cfL B1_0.out l1_0 d1_9;have c2_0_10:=cfL B1_0.out l1_0 d1_10;have c2_0_11:=cfL B1_0.out l1_0 d1_11;have c2_0_12:=cfL B1_0.out ln1 cn1;have Q1_0:=zAa hq1_0;clear hq1_0))
 have k2_n:=heap_alloc_new w1_0 (.cells #[.slice (some ⟨q1_0,0,none⟩) n n] 64)
 have BX:Below W1.heap.size W1 (w1_0.alloc (.cells #[.slice (some ⟨q1_0,0,none⟩) n n] 64)):=B1_0.out.alloc B1_0.out.size _
 have hsq2:=B1_0.out.size
 have hwz:=BX.size
 have HF2:=zAa (HF1.out.below BX)
 have R2_0:=zAa (R1_0.out.below BX)
 have R2_1:=zAa (R1_1.out.below BX)
 have R2_2:=zAa (R1_2.out.below BX)
 have R2_3:=zAa (Q1_0.out.below ((Below.refl _ _).alloc (Nat.le_refl _) (.cells #[.slice (some ⟨q1_0,0,none⟩) n n] 64)))
 have BW2:=zAa (zAn BW1.out (Nat.le_refl _) BX)
 have d2_0:=cfL BX l1_0 d1_0
 have d2_1:=cfL BX l1_0 d1_1
 have d2_2:=cfL BX l1_0 d1_2
 have d2_3:=cfL BX l1_0 d1_3
 have d2_4:=cfL BX l1_0 d1_4
 have d2_5:=cfL BX l1_0 d1_5
 have d2_6:=cfL BX l1_0 d1_6
 have d2_7:=cfL BX l1_0 d1_7
 have d2_8:=cfL BX l1_0 d1_8
 have d2_9:=cfL BX l1_0 d1_9
 have d2_10:=cfL BX l1_0 d1_10
 have d2_11:=cfL BX l1_0 d1_11
 have d2_12:=cfL BX ln1 cn1
 have f2_0:∀ j,(w1_0.alloc (.cells #[.slice (some ⟨q1_0,0,none⟩) n n] 64)).frozen? ⟨w.heap.size,j,none⟩=false:=fun j=>(BX.frozen (p:=⟨w.heap.size,j,none⟩) l1_0).trans (f1_0 j)
 have l2_0:=Nat.lt_of_lt_of_le l1_0 hwz
 have K2_0:=zAa ((BX.block _ l1_0).trans K1_0.out)
 have f2_1:∀ j,(w1_0.alloc (.cells #[.slice (some ⟨q1_0,0,none⟩) n n] 64)).frozen? ⟨w0_1.heap.size,j,none⟩=false:=fun j=>(BX.frozen (p:=⟨w0_1.heap.size,j,none⟩) ln1).trans (fm1 j)
 have l2_1:=Nat.lt_of_lt_of_le ln1 hwz
 have K2_1:=zAa ((BX.block _ ln1).trans KN1.out)
 have hn2:w1_0.heap.size<(w1_0.alloc (.cells #[.slice (some ⟨q1_0,0,none⟩) n n] 64)).heap.size:=by simp
 clear BX hwz
 generalize hE2:w1_0.alloc (.cells #[.slice (some ⟨q1_0,0,none⟩) n n] 64)=W2 at *
 obtain⟨cn2,fn2,ln2⟩:=zAm k2_n
 have fm2:∀ j,W2.frozen? ⟨w1_0.heap.size,j,none⟩=false:=fun j=>by simp[World.frozen?,k2_n]
 have KN2:=zAa k2_n
 clear k2_n hE2 hn2
 clear d1_0 d1_1 d1_2 d1_3 d1_4 d1_5 d1_6 d1_7 d1_8 d1_9 d1_10 d1_11 cn1
 go_upto_region 8 with (first
  | (go_at_call_of 54 (Value.slice (some ⟨q2_1,0,none⟩) n n);refine (zCq q2_1 n _ _ Q2_1.out).mono ?_;rintro e w2_2 ⟨q2_2,rfl,hq2_2,hb2_2⟩;have B2_2:Hid (Below W2.heap.size W2 w2_2):=zAn B2_1.out (Nat.le_refl _) hb2_2;have c3_2_0:=cfL B2_2.out l2_0 d2_0;have c3_2_1:=cfL B2_2.out l2_0 d2_1;have c3_2_2:=cfL B2_2.out l2_0 d2_2;have c3_2_3:=cfL B2_2.out l2_0 d2_3;have c3_2_4:=cfL B2_2.out l2_0 d2_4;have c3_2_5:=cfL B2_2.out l2_0 d2_5;have c3_2_6:=cfL B2_2.out l2_0 d2_6;have c3_2_7:=cfL B2_2.out l2_0 d2_7;have c3_2_8:=cfL B2_2.out l2_0 d2_8;have c3_2_9:=cfL B2_2.out l2_0 d2_9;have c3_2_10:=cfL B2_2.out l2_0 d2_10;have c3_2_11:=cfL B2_2.out l2_0 d2_11;have c3_2_12:=cfL B2_2.out l2_1 d2_12;have c3_2_13:=cfL B2_2.out ln2 cn2;have Q2_2:=zAa hq2_2;clear hq2_2)
  | (go_at_call 86;refine (zFE (FA.mk n (.slice x n c) g1 g2 g3 g4 g5 g6 g7 g8 g9) f gr _ q0_1 _ q1_0 _ _ (HF2.out.below B2_0.out) (R2_0.out.below B2_0.out) (R2_2.out.below B2_0.out) (R2_3.out.below B2_0.out)).mono ?_;rintro e w2_1 ⟨q2_1,rfl,hq2_1,hb2_1⟩;have B2_1:Hid (Below W2.heap.size W2 w2_1):=zAn B2_0.out (Nat.le_refl _) hb2_1;have c3_1_0:=cfL B2_1.out l2_0 d2_0;have c3_1_1:=cfL B2_1.out l2_0 d2_1;have c3_1_2:=cfL B2_1.out l2_0 d2_2;have c3_1_3:=cfL B2_1.out l2_0 d2_3;have c3_1_4:=cfL B2_1.out l2_0 d2_4;have c3_1_5:=cfL B2_1.out l2_0 d2_5;have c3_1_6:=cfL B2_1.out l2_0 d2_6;have c3_1_7:=cfL B2_1.out l2_0 d2_7;have c3_1_8:=cfL B2_1.out l2_0 d2_8;have c3_1_9:=cfL B2_1.out l2_0 d2_9;have c3_1_10:=cfL B2_1.out l2_0 d2_10;have c3_1_11:=cfL B2_1.out l2_0 d2_11;have c3_1_12:=cfL B2_1.out l2_1 d2_12;have c3_1_13:=cfL B2_1.out ln2 cn2;have Q2_1:=zAa hq2_1;clear hq2_1)
  | (go_at_call 85;refine (zCQ (FA.mk n (.slice x n c) g1 g2 g3 g4 g5 g6 g7 g8 g9) f q1_0 _ q0_1 _ _ (HF2.out.below (Below.refl _ _)) (R2_3.out.below (Below.refl _ _)) (R2_2.out.below (Below.refl _ _))).mono ?_;rintro e w2_0 ⟨rfl,hb2_0⟩;(try rw[h2]);have B2_0:Hid (Below W2.heap.size W2 w2_0):=hb2_0;have c3_0_0:=cfL B2_0.out l2_0 d2_0;have c3_0_1:=cfL B2_0.out l2_0 d2_1;have c3_0_2:=cfL B2_0.out l2_0 d2_2;have c3_0_3:=cfL B2_0.out l2_0 d2_3;have c3_0_4:=cfL B2_0.out l2_0 d2_4;have c3_0_5:=cfL B2_0.out l2_0 d2_5;have c3_0_6:=cfL B2_0.out l2_0 d2_6;have c3_0_7:=cfL B2_0.out l2_0 d2_7;have c3_0_8:=cfL B2_0.out l2_0 d2_8;have c3_0_9:=cfL B2_0.out l2_0 d2_9;have c3_0_10:=cfL B2_0.out l2_0 d2_10;have c3_0_11:=cfL B2_0.out l2_0 d2_11;have c3_0_12:=cfL B2_0.out l2_1 d2_12;have c3_0_13:=cfL B2_0.out ln2 cn2;skip))
 have k3_n:=heap_alloc_new w2_2 (.cells #[.slice (some ⟨q2_2,0,none⟩) n n] 64)
 have BX:Below W2.heap.size W2 (w2_2.alloc (.cells #[.slice (some ⟨q2_2,0,none⟩) n n] 64)):=B2_2.out.alloc B2_2.out.size _
 have hsq3:=B2_2.out.size
 have hwz:=BX.size
 have HF3:=zAa (HF2.out.below BX)
 have R3_0:=zAa (R2_0.out.below BX)
 have R3_1:=zAa (R2_1.out.below BX)
 have R3_2:=zAa (R2_2.out.below BX)
 have R3_3:=zAa (R2_3.out.below BX)
 have R3_4:=zAa ((Q2_1.out.below hb2_2).below ((Below.refl _ _).alloc (Nat.le_refl _) (.cells #[.slice (some ⟨q2_2,0,none⟩) n n] 64)))
 have R3_5:=zAa (Q2_2.out.below ((Below.refl _ _).alloc (Nat.le_refl _) (.cells #[.slice (some ⟨q2_2,0,none⟩) n n] 64)))
 have BW3:=zAa (zAn BW2.out (Nat.le_refl _) BX)
 have d3_0:=cfL BX l2_0 d2_0
 have d3_1:=cfL BX l2_0 d2_1
 have d3_2:=cfL BX l2_0 d2_2
 have d3_3:=cfL BX l2_0 d2_3
 have d3_4:=cfL BX l2_0 d2_4
 have d3_5:=cfL BX l2_0 d2_5
 have d3_6:=cfL BX l2_0 d2_6
 have d3_7:=cfL BX l2_0 d2_7
 have d3_8:=cfL BX l2_0 d2_8
 have d3_9:=cfL BX l2_0 d2_9
 have d3_10:=cfL BX l2_0 d2_10
 have d3_11:=cfL BX l2_0 d2_11
 have d3_12:=cfL BX l2_1 d2_12
 have d3_13:=cfL BX ln2 cn2
 have f3_0:∀ j,(w2_2.alloc (.cells #[.slice (some ⟨q2_2,0,none⟩) n n] 64)).frozen? ⟨w.heap.size,j,none⟩=false:=fun j=>(BX.frozen (p:=⟨w.heap.size,j,none⟩) l2_0).trans (f2_0 j)
 have l3_0:=Nat.lt_of_lt_of_le l2_0 hwz
 have K3_0:=zAa ((BX.block _ l2_0).trans K2_0.out)
 have f3_1:∀ j,(w2_2.alloc (.cells #[.slice (some ⟨q2_2,0,none⟩) n n] 64)).frozen? ⟨w0_1.heap.size,j,none⟩=false:=fun j=>(BX.frozen (p:=⟨w0_1.heap.size,j,none⟩) l2_1).trans (f2_1 j)
 have l3_1:=Nat.lt_of_lt_of_le l2_1 hwz
 have K3_1:=zAa ((BX.block _ l2_1).trans K2_1.out)
 have f3_2:∀ j,(w2_2.alloc (.cells #[.slice (some ⟨q2_2,0,none⟩) n n] 64)).frozen? ⟨w1_0.heap.size,j,none⟩=false:=fun j=>(BX.frozen (p:=⟨w1_0.heap.size,j,none⟩) ln2).trans (fm2 j)
 have l3_2:=Nat.lt_of_lt_of_le ln2 hwz
 have K3_2:=zAa ((BX.block _ ln2).trans KN2.out)
 have hn3:w2_2.heap.size<(w2_2.alloc (.cells #[.slice (some ⟨q2_2,0,none⟩) n n] 64)).heap.size:=by simp
 clear BX hwz
 generalize hE3:w2_2.alloc (.cells #[.slice (some ⟨q2_2,0,none⟩) n n] 64)=W3 at *
 obtain⟨cn3,fn3,ln3⟩:=zAm k3_n
 have fm3:∀ j,W3.frozen? ⟨w2_2.heap.size,j,none⟩=false:=fun j=>by simp[World.frozen?,k3_n]
 have KN3:=zAa k3_n
 clear k3_n hE3 hn3
 clear d2_0 d2_1 d2_2 d2_3 d2_4 d2_5 d2_6 d2_7 d2_8 d2_9 d2_10 d2_11 d2_12 cn2
 go_wp2_with (first
  | (go_at_call_of 82 (Value.slice (some ⟨q3_0,0,none⟩) n n);refine (zBI q3_0 n _ _ Q3_0.out).mono ?_;rintro e w3_1 ⟨rfl,hb3_1⟩;(try rw[show Q.zIK (Q.thenR bf (Q.zJj (Q.zJa rd (Q.zIB f.events ps) (Q.thenR rd (Q.zIB f.events ps)))))=true from h3]);have B3_1:Hid (Below W3.heap.size W3 w3_1):=zAn B3_0.out (Nat.le_refl _) hb3_1;skip)
  | (go_at_call_of 76 (Value.slice (some ⟨gf,0,none⟩) n n);refine (zBm gf q2_2 n _ _ _ (R3_1.out.below (Below.refl _ _)) (R3_5.out.below (Below.refl _ _))).mono ?_;rintro e w3_0 ⟨q3_0,rfl,hq3_0,hb3_0⟩;have B3_0:Hid (Below W3.heap.size W3 w3_0):=hb3_0;have Q3_0:=zAa hq3_0;clear hq3_0))
 all_goals
  go_wp2
  go_ret
  exact⟨rfl,zAn BW3.out (Nat.le_refl _) B3_1.out⟩
end Go.Proofs.YtkmebkbpfmoeaaaGreat
