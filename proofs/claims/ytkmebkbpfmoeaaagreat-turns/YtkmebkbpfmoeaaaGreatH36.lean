import Derived.Test.YtkmebkbpfmoeaaaGreatH35
set_option linter.unusedVariables false
set_option linter.unusedSimpArgs false
set_option maxHeartbeats 12800000
namespace Go.Proofs.YtkmebkbpfmoeaaaGreat
open Go Go.RowKit
set_option maxRecDepth 100000
theorem zGL (a:FA) (f:Q.Facts) (gs:Nat) (sees:List Nat) (w:World) (hf:FactsIn w a f) (hs:RelAt w gs a.n sees) :
  Calls Tryz.prog 51 #[.agg (zAl a),.agg #[.slice (some ⟨gs,0,none⟩) a.n a.n]] w fun e w'=>zFv w w' a.n (f.tells sees) e:=by
 have HFE:Hid (Q.heard f.events sees=(List.range a.n).foldl (Q.zKh f.events sees) (Q.newR a.n)):=by unfold Hid Q.heard;rw[hf.len]
 obtain⟨x,c,hev,hx⟩:=hf.form
 have hn64:=hf.n64
 have hln:=hf.len
 obtain⟨n,ev,g1,g2,g3,g4,g5,g6,g7,g8,g9⟩:=a
 simp only at hev hn64 hln hx
 subst hev
 simp only[zAl]
 simp only at HFE hs
 have HEV:=zAa hf.ev
 obtain⟨k0,k2,k1,hsz,hbw⟩:=zDP w #[.slice x n c,.slice (some ⟨g1,0,none⟩) n n,.slice (some ⟨g2,0,none⟩) n n,.slice (some ⟨g3,0,none⟩) n n,.slice (some ⟨g4,0,none⟩) n n,.slice (some ⟨g5,0,none⟩) n n,.slice (some ⟨g6,0,none⟩) n n,.slice (some ⟨g7,0,none⟩) n n,.slice (some ⟨g8,0,none⟩) n n,.slice (some ⟨g9,0,none⟩) n n] #[.slice (some ⟨gs,0,none⟩) n n] #[.slice none 0 0] 66 64 64
 have HF:=zAa (hf.below hbw)
 have RS:=zAa (hs.below hbw)
 have BW0:=zAa hbw
 clear hbw hf hs
 go_enter Tryz.func51,Tryz.ntmps51
 go_upto_region 1 with fail
 generalize hE:((w.alloc (.cells #[.slice x n c,.slice (some ⟨g1,0,none⟩) n n,.slice (some ⟨g2,0,none⟩) n n,.slice (some ⟨g3,0,none⟩) n n,.slice (some ⟨g4,0,none⟩) n n,.slice (some ⟨g5,0,none⟩) n n,.slice (some ⟨g6,0,none⟩) n n,.slice (some ⟨g7,0,none⟩) n n,.slice (some ⟨g8,0,none⟩) n n,.slice (some ⟨g9,0,none⟩) n n] 66)).alloc (.cells #[.slice (some ⟨gs,0,none⟩) n n] 64)).alloc (.cells #[.slice none 0 0] 64)=W0 at *
 have c00:=ceL k0 0 _ rfl
 have c02:=ceL k0 2 _ rfl
 have c08:=ceL k0 8 _ rfl
 have c09:=ceL k0 9 _ rfl
 obtain⟨c1,f1,l1⟩:=zAm k1
 obtain⟨c2,f2,l2⟩:=zAm k2
 have l0:w.heap.size<W0.heap.size:=by omega
 have K1:=zAa k1
 clear hE k0 k1 k2 f2
 go_wp2_with (first | (go_at_call 72;refine (zBn n _ hn64).mono ?_;rintro e w1 ⟨gn,rfl,hsn,hgn,hll,hfn,hb1⟩;have HS:=zAa (Fill.start ⟨hsn,hll,hfn⟩ hgn hb1);have hz1:=hb1.size;have c00b:=HS.out.cell (p:=⟨w.heap.size,0,none⟩) l0 c00;clear hsn hb1 hll hfn))
 have HC2:=zAa c02
 have HC8:=zAa c08
 have HC9:=zAa c09
 have HC1:=zAa c1
 have HFZ:=zAa f1
 clear c02 c08 c09 c1 f1
 go_loopw [17] (fun i wr=>∃ (k:Nat) (t:List Nat),k≤n∧i=.int .i64 k∧Hid (t=(List.range k).foldl (Q.zKh f.events sees) (Q.newR n))∧Hid (Fill W0 wr w1.heap.size gn n t)) (fun i _=>n-(intOf i).toNat)
 case atStart=>exact⟨0,_,Nat.zero_le _,rfl,rfl,HS⟩
 case round =>
  clear c00b
  obtain⟨k,t,hk,rfl,HT,HI⟩:=hrel
  obtain⟨b0,b1,b2⟩:=zAm HI.out.box
  have d00:=HI.out.cell (p:=⟨w.heap.size,0,none⟩) l0 c00
  have l0w:=Nat.lt_of_lt_of_le l0 HI.out.bel.size
  by_cases hlt:k<n
  ·have hin:(k:Int)<(n:Int):=by omega
   obtain⟨be,rfl,hbe⟩:=hx (by omega)
   have hbeW:be<W0.heap.size:=by omega
   have HR1:Hid (wr.rangeAt be (k*10) (zAb (Q.ev f.events k)).toList):=zAz (HEV.out.range' hln.symm k (by omega)) ((HI.out.bel.block be hbeW).trans (BW0.out.block be hbe))
   have HTS:Hid ((List.range (k+1)).foldl (Q.zKh f.events sees) (Q.newR n)=(List.range n).foldl (Q.zJz f.events sees k) t):=by unfold Hid;rw[Q.zIm,← HT.out];unfold Q.zKh;rw[hln]
   have HBP:Hid (∀ q u,Q.zJz f.events sees k u q=if Q.hasR sees k q&&(Q.ev f.events k).order != 0&&(Q.ev f.events q).order != 0 then Q.addR u q k else u):=fun q u=>rfl
   generalize Q.ev f.events k=e1 at *
   have HA1:Hid (zAQ (wr.alloc (.cells (zAb e1) 129)) wr.heap.size e1):=zAQ.new wr e1
   have HF1:=zAa (HI.out.alloc (.cells (zAb e1) 129))
   have d00b:=HF1.out.cell (p:=⟨w.heap.size,0,none⟩) l0 c00
   go_wp2_with (first | (refine zAg (.tmp 20) rfl rfl be (k*10) e1 rfl HR1.out ?_))
   go_loopw [25] (fun j wq=>∃ (q:Nat) (u:List Nat),q≤n∧j=.int .i64 q∧Hid (u=(List.range q).foldl (Q.zJz f.events sees k) t)∧Hid (Fill W0 wq w1.heap.size gn n u)∧Hid (zAQ wq wr.heap.size e1)) (fun j _=>n-(intOf j).toNat)
   case atStart=>exact⟨0,t,Nat.zero_le _,rfl,rfl,HF1,HA1⟩
   case round =>
    clear d00b d00 HF1 HA1 b0 b1 b2 HR1 l0w
    obtain⟨q,u,hq,rfl,HU,HJ,HA⟩:=hrel
    by_cases hql:q<n
    ·have hqi:(q:Int)<(n:Int):=by omega
     have HR2:Hid (wr.rangeAt be (q*10) (zAb (Q.ev f.events q)).toList):=zAz (HEV.out.range' hln.symm q (by omega)) ((HJ.out.bel.block be hbeW).trans (BW0.out.block be hbe))
     have HUS:Hid ((List.range (q+1)).foldl (Q.zJz f.events sees k) t=if Q.hasR sees k q&&e1.order != 0&&(Q.ev f.events q).order != 0 then Q.addR u q k else u):=by unfold Hid;rw[Q.zIm,← HU.out];exact HBP.out q u
     generalize Q.ev f.events q=e2 at *
     have HF2:=zAa (HJ.out.alloc (.cells (zAb e2) 129))
     have HA2:=zAa (HA.out.alloc (.cells (zAb e2) 129))
     have HA3:=zAa (zAQ.new wr e2)
     have HRS:=zAa (RS.out.below HF2.out.bel)
     have l1w:=Nat.lt_of_lt_of_le l2 HJ.out.bel.size
     have d2:=HJ.out.cell (p:=⟨w.heap.size+1,0,none⟩) l2 c2
     cases z1:Q.hasR sees (k:Int) (q:Int)
     ·have HUN:Hid (u=(List.range (q+1)).foldl (Q.zJz f.events sees k) t):=by unfold Hid;rw[HUS.out];simp[z1]
      go_wp2_with (first | (refine zAg (.tmp 28) rfl rfl be (q*10) e2 rfl HR2.out ?_) | (go_at_call 75;refine (zBE gs n sees (k:Int) (q:Int) _ HRS.out).mono ?_;rintro e wb ⟨rfl,hbb⟩;rw[z1];have HJ1:=zAa (HF2.out.keep hbb);have HA4:=zAa (HA2.out.below hbb);obtain⟨x0,x1,x2,x3,x4,x5,x6,x7,x8,x9,xf,xl⟩:=HA4.out.facts;clear x0 x1 x2 x3 x4 x6 x7 x8 x9;have HA5:=zAa (HA3.out.below hbb);obtain⟨y0,y1,y2,y3,y4,y5,y6,y7,y8,y9,yf,yl⟩:=HA5.out.facts;clear y0 y1 y2 y3 y4 y6 y7 y8 y9))
      go_roundw
      case rel=>exact⟨q+1,u,by omega,by go_num,HUN,HJ1,HA4⟩
      case measure=>simp[intOf];omega
     cases z2:(e1.order != 0)
     ·have HUN:Hid (u=(List.range (q+1)).foldl (Q.zJz f.events sees k) t):=by unfold Hid;rw[HUS.out];simp[z1,z2]
      go_wp2_with (first | (refine zAg (.tmp 28) rfl rfl be (q*10) e2 rfl HR2.out ?_) | (go_at_call 75;refine (zBE gs n sees (k:Int) (q:Int) _ HRS.out).mono ?_;rintro e wb ⟨rfl,hbb⟩;rw[z1];have HJ1:=zAa (HF2.out.keep hbb);have HA4:=zAa (HA2.out.below hbb);obtain⟨x0,x1,x2,x3,x4,x5,x6,x7,x8,x9,xf,xl⟩:=HA4.out.facts;clear x0 x1 x2 x3 x4 x6 x7 x8 x9;have HA5:=zAa (HA3.out.below hbb);obtain⟨y0,y1,y2,y3,y4,y5,y6,y7,y8,y9,yf,yl⟩:=HA5.out.facts;clear y0 y1 y2 y3 y4 y6 y7 y8 y9))
      go_roundw
      case rel=>exact⟨q+1,u,by omega,by go_num,HUN,HJ1,HA4⟩
      case measure=>simp[intOf];omega
     cases z3:(e2.order != 0)
     ·have HUN:Hid (u=(List.range (q+1)).foldl (Q.zJz f.events sees k) t):=by unfold Hid;rw[HUS.out];simp[z1,z2,z3]
      go_wp2_with (first | (refine zAg (.tmp 28) rfl rfl be (q*10) e2 rfl HR2.out ?_) | (go_at_call 75;refine (zBE gs n sees (k:Int) (q:Int) _ HRS.out).mono ?_;rintro e wb ⟨rfl,hbb⟩;rw[z1];have HJ1:=zAa (HF2.out.keep hbb);have HA4:=zAa (HA2.out.below hbb);obtain⟨x0,x1,x2,x3,x4,x5,x6,x7,x8,x9,xf,xl⟩:=HA4.out.facts;clear x0 x1 x2 x3 x4 x6 x7 x8 x9;have HA5:=zAa (HA3.out.below hbb);obtain⟨y0,y1,y2,y3,y4,y5,y6,y7,y8,y9,yf,yl⟩:=HA5.out.facts;clear y0 y1 y2 y3 y4 y6 y7 y8 y9))
      go_roundw
      case rel=>exact⟨q+1,u,by omega,by go_num,HUN,HJ1,HA4⟩
      case measure=>simp[intOf];omega
     ·have HUN:Hid (Q.addR u (q:Int) (k:Int)=(List.range (q+1)).foldl (Q.zJz f.events sees k) t):=by unfold Hid;rw[HUS.out];simp[z1,z2,z3]
      go_wp2_with (first | (refine zAg (.tmp 28) rfl rfl be (q*10) e2 rfl HR2.out ?_) | (go_at_call 75;refine (zBE gs n sees (k:Int) (q:Int) _ HRS.out).mono ?_;rintro e wb ⟨rfl,hbb⟩;rw[z1];have HJ1:=zAa (HF2.out.keep hbb);have HA4:=zAa (HA2.out.below hbb);obtain⟨x0,x1,x2,x3,x4,x5,x6,x7,x8,x9,xf,xl⟩:=HA4.out.facts;clear x0 x1 x2 x3 x4 x6 x7 x8 x9;have HA5:=zAa (HA3.out.below hbb);obtain⟨y0,y1,y2,y3,y4,y5,y6,y7,y8,y9,yf,yl⟩:=HA5.out.facts;clear y0 y1 y2 y3 y4 y6 y7 y8 y9) | (go_at_call 73;refine (zBw w1.heap.size 0 gn n u (q:Int) (k:Int) _ HJ1.out.relIn HJ1.out.rel.fits).mono ?_;rintro e wc ⟨rfl,hsc,hgc⟩;have HJ2:=zAa (HJ1.out.grown hgc hsc);have HA6:=zAa (zAQ.grown HA4.out HJ1.out.rel.at_ hgc)))
      go_roundw
      case rel=>exact⟨q+1,_,by omega,by go_num,HUN,HJ2,HA6⟩
      case measure=>simp[intOf];omega
    ·have HN2:Hid (u=(List.range (k+1)).foldl (Q.zKh f.events sees) (Q.newR n)):=by unfold Hid;rw[HTS.out,HU.out,show q=n by omega]
     go_wp2
     go_roundw
     case rel=>exact⟨k+1,u,by omega,by go_num,HN2,HJ⟩
     case measure=>simp[intOf];omega
  ·have hkn:k=n:=by omega
   have HE2:Hid (t=Q.heard f.events sees):=by unfold Hid;rw[HFE.out,HT.out,hkn]
   rw[HE2.out] at HI
   clear d00
   go_upto_region 12 with fail
   have m2:=HI.out.cell (p:=⟨w.heap.size,2,none⟩) l0 HC2.out
   have m8:=HI.out.cell (p:=⟨w.heap.size,8,none⟩) l0 HC8.out
   have m9:=HI.out.cell (p:=⟨w.heap.size,9,none⟩) l0 HC9.out
   have m1:=HI.out.cell (p:=⟨w.heap.size+2,0,none⟩) l1 HC1.out
   have mf:=(HI.out.bel.frozen (p:=⟨w.heap.size+2,0,none⟩) l1).trans HFZ.out
   have l1w:=Nat.lt_of_lt_of_le l1 HI.out.bel.size
   have hgb:=HI.out.gb
   have HFW:=zAa (HF.out.below HI.out.bel)
   have HB:=zAa HI.out.bel
   have HRL:=zAa HI.out.rel
   go_region_held3 (fun w'=>w'.cell? ⟨w.heap.size,2,none⟩=some (.slice (some ⟨g2,0,none⟩) n n)∧w'.cell? ⟨w.heap.size,8,none⟩=some (.slice (some ⟨g8,0,none⟩) n n)∧w'.cell? ⟨w.heap.size,9,none⟩=some (.slice (some ⟨g9,0,none⟩) n n)∧w'.cell? ⟨w1.heap.size,0,none⟩=some (.slice (some ⟨gn,0,none⟩) n n)) (first | exact⟨m2,m8,m9,b0⟩ | exact⟨pa0,pb0,pc0,pd0⟩ | exact⟨pa1,pb1,pc1,pd1⟩ | exact⟨pa2,pb2,pc2,pd2⟩ | exact⟨(zAh (by omega)).trans pa2,(zAh (by omega)).trans pb2,(zAh (by omega)).trans pc2,(zAh (by omega)).trans pd2⟩) (first
    | (go_at_call 77;refine (zDr j1 g2 n _ _ _ J1.out (HFW.out.r2.below BB1.out)).mono ?_;rintro e v2 ⟨j2,rfl,hj2,hb2⟩;have BB2:Hid (Below wr.heap.size wr v2):=zAn BB1.out (Nat.le_refl _) hb2;have pa2:=cfL BB2.out l0w m2;have pb2:=cfL BB2.out l0w m8;have pc2:=cfL BB2.out l0w m9;have pd2:=cfL BB2.out b2 b0;have pe2:=cfL BB2.out l1w m1;have pf2:=(BB2.out.frozen (p:=⟨w.heap.size+2,0,none⟩) l1w).trans mf;have J2:=zAa hj2;clear hj2)
    | (go_at_call_of 76 (Value.slice (some ⟨j0,0,none⟩) n n);refine (zBm j0 g9 n _ _ _ J0.out (HFW.out.r9.below BB0.out)).mono ?_;rintro e v1 ⟨j1,rfl,hj1,hb1⟩;have BB1:Hid (Below wr.heap.size wr v1):=zAn BB0.out (Nat.le_refl _) hb1;have pa1:=cfL BB1.out l0w m2;have pb1:=cfL BB1.out l0w m8;have pc1:=cfL BB1.out l0w m9;have pd1:=cfL BB1.out b2 b0;have pe1:=cfL BB1.out l1w m1;have pf1:=(BB1.out.frozen (p:=⟨w.heap.size+2,0,none⟩) l1w).trans mf;have J1:=zAa hj1;clear hj1)
    | (go_at_call_of 76 (Value.slice (some ⟨g8,0,none⟩) n n);refine (zBm g8 gn n _ _ _ (HFW.out.r8.below (Below.refl _ _).drew) (HRL.out.below (Below.refl _ _).drew)).mono ?_;rintro e v0 ⟨j0,rfl,hj0,hb0⟩;have BB0:Hid (Below wr.heap.size wr v0):=((Below.refl wr.heap.size wr).drew).trans (hb0.mono (by simp));have pa0:=cfL BB0.out l0w m2;have pb0:=cfL BB0.out l0w m8;have pc0:=cfL BB0.out l0w m9;have pd0:=cfL BB0.out b2 b0;have pe0:=cfL BB0.out l1w m1;have pf0:=(BB0.out.frozen (p:=⟨w.heap.size+2,0,none⟩) l1w).trans mf;have J0:=zAa hj0;clear hj0))
   all_goals
    (try go_wp2)
    have KR:=zAf ((BB2.out.block _ l1w).trans ((HB.out.block _ l1).trans K1.out)) 0 (.slice (some ⟨j2,0,none⟩) n n)
    refine zBv (p:=4) (w.heap.size+2) _ (by kernel_rfl) rfl (by exact KR) rfl ⟨j2,rfl,⟨J2.out.at_.of_block (Below.heap_setCell _ _ _ _ (by have:=J2.out.at_;unfold zAo at this;intro e;rw[e] at this;rw[(BB2.out.block _ l1w).trans ((HB.out.block _ l1).trans K1.out)] at this;simp at this)),J2.out.len,J2.out.fits⟩,(zAn BW0.out (Nat.le_refl _) (zAn HB.out (Nat.le_refl _) BB2.out)).setCell (p:=⟨w.heap.size+2,0,none⟩) (by simp) _⟩
theorem zEE (a:FA) (f:Q.Facts) (gr:Nat) (rd:List Nat) (w:World) (hf:FactsIn w a f) (hr:RelAt w gr a.n rd) :
  Calls Tryz.prog 33 #[.agg (zAl a),.agg #[.slice (some ⟨gr,0,none⟩) a.n a.n]] w fun e w'=>zFv w w' a.n (f.before rd) e:=by
 obtain⟨x,c,hev,_⟩:=hf.form
 obtain⟨n,ev,g1,g2,g3,g4,g5,g6,g7,g8,g9⟩:=a
 simp only at hev hr
 subst hev
 simp only[zAl]
 obtain⟨k0,k1,k2,hsz,hbw⟩:=zDP w #[.slice x n c,.slice (some ⟨g1,0,none⟩) n n,.slice (some ⟨g2,0,none⟩) n n,.slice (some ⟨g3,0,none⟩) n n,.slice (some ⟨g4,0,none⟩) n n,.slice (some ⟨g5,0,none⟩) n n,.slice (some ⟨g6,0,none⟩) n n,.slice (some ⟨g7,0,none⟩) n n,.slice (some ⟨g8,0,none⟩) n n,.slice (some ⟨g9,0,none⟩) n n] #[.slice (some ⟨gr,0,none⟩) n n] #[.slice none 0 0] 66 64 64
 have HF:=zAa (hf.below hbw)
 have Rr:=zAa (hr.below hbw)
 have BW0:=zAa hbw
 clear hbw hf hr
 go_enter Tryz.func33,Tryz.ntmps33
 go_upto_region 1 with fail
 generalize hE:(((w.alloc (.cells #[.slice x n c,.slice (some ⟨g1,0,none⟩) n n,.slice (some ⟨g2,0,none⟩) n n,.slice (some ⟨g3,0,none⟩) n n,.slice (some ⟨g4,0,none⟩) n n,.slice (some ⟨g5,0,none⟩) n n,.slice (some ⟨g6,0,none⟩) n n,.slice (some ⟨g7,0,none⟩) n n,.slice (some ⟨g8,0,none⟩) n n,.slice (some ⟨g9,0,none⟩) n n] 66)).alloc (.cells #[.slice (some ⟨gr,0,none⟩) n n] 64)).alloc (.cells #[.slice none 0 0] 64))=W0 at *
 have c0_0_0:=ceL k0 0 _ rfl
 have c0_0_1:=ceL k0 1 _ rfl
 have c0_0_2:=ceL k0 2 _ rfl
 have c0_0_3:=ceL k0 3 _ rfl
 have c0_0_4:=ceL k0 4 _ rfl
 have c0_0_5:=ceL k0 5 _ rfl
 have c0_0_6:=ceL k0 6 _ rfl
 have c0_0_7:=ceL k0 7 _ rfl
 have c0_0_8:=ceL k0 8 _ rfl
 have c0_0_9:=ceL k0 9 _ rfl
 have l0_0:w.heap.size<W0.heap.size:=by omega
 have f0_0:∀ j,W0.frozen? ⟨w.heap.size,j,none⟩=false:=fun j=>by simp[World.frozen?,k0]
 have K0_0:=zAa k0
 have c0_1_0:=ceL k1 0 _ rfl
 have l0_1:w.heap.size+1<W0.heap.size:=by omega
 have f0_1:∀ j,W0.frozen? ⟨w.heap.size+1,j,none⟩=false:=fun j=>by simp[World.frozen?,k1]
 have K0_1:=zAa k1
 have c0_2_0:=ceL k2 0 _ rfl
 have l0_2:w.heap.size+2<W0.heap.size:=by omega
 have f0_2:∀ j,W0.frozen? ⟨w.heap.size+2,j,none⟩=false:=fun j=>by simp[World.frozen?,k2]
 have K0_2:=zAa k2
 have hsq0:w.heap.size+3≤W0.heap.size:=by omega
 clear hE hsz k0 k1 k2
 go_cut [5] from 6 to 10 (fun p wx=>∃ gx qx,p=.pointer (some ⟨gx,0,none⟩)∧wx.heap[gx]?=some (.cells #[.slice (some ⟨qx,0,none⟩) n n] 64 (0,0))∧RelAt wx qx n (f.tells (f.sees rd))∧Below W0.heap.size W0 wx∧W0.heap.size≤gx)
 case first =>
  clear c0_2_0 f0_0 f0_1 f0_2
  have hgeW:=Nat.le_refl W0.heap.size
  go_region_held3 (fun w'=>w'.cell? ⟨w.heap.size,0,none⟩=some (.slice x n c)∧w'.cell? ⟨w.heap.size,1,none⟩=some (.slice (some ⟨g1,0,none⟩) n n)∧w'.cell? ⟨w.heap.size,2,none⟩=some (.slice (some ⟨g2,0,none⟩) n n)∧w'.cell? ⟨w.heap.size,3,none⟩=some (.slice (some ⟨g3,0,none⟩) n n)∧w'.cell? ⟨w.heap.size,4,none⟩=some (.slice (some ⟨g4,0,none⟩) n n)∧w'.cell? ⟨w.heap.size,5,none⟩=some (.slice (some ⟨g5,0,none⟩) n n)∧w'.cell? ⟨w.heap.size,6,none⟩=some (.slice (some ⟨g6,0,none⟩) n n)∧w'.cell? ⟨w.heap.size,7,none⟩=some (.slice (some ⟨g7,0,none⟩) n n)∧w'.cell? ⟨w.heap.size,8,none⟩=some (.slice (some ⟨g8,0,none⟩) n n)∧w'.cell? ⟨w.heap.size,9,none⟩=some (.slice (some ⟨g9,0,none⟩) n n)∧w'.cell? ⟨w.heap.size+1,0,none⟩=some (.slice (some ⟨gr,0,none⟩) n n)) (first | exact⟨c0_0_0,c0_0_1,c0_0_2,c0_0_3,c0_0_4,c0_0_5,c0_0_6,c0_0_7,c0_0_8,c0_0_9,c0_1_0⟩ | exact⟨(zAx l0_0).trans c0_0_0,(zAx l0_0).trans c0_0_1,(zAx l0_0).trans c0_0_2,(zAx l0_0).trans c0_0_3,(zAx l0_0).trans c0_0_4,(zAx l0_0).trans c0_0_5,(zAx l0_0).trans c0_0_6,(zAx l0_0).trans c0_0_7,(zAx l0_0).trans c0_0_8,(zAx l0_0).trans c0_0_9,(zAx l0_1).trans c0_1_0⟩ | exact⟨c1_0_0,c1_0_1,c1_0_2,c1_0_3,c1_0_4,c1_0_5,c1_0_6,c1_0_7,c1_0_8,c1_0_9,c1_0_10⟩ | exact⟨(zAx e1_0_0).trans c1_0_0,(zAx e1_0_1).trans c1_0_1,(zAx e1_0_2).trans c1_0_2,(zAx e1_0_3).trans c1_0_3,(zAx e1_0_4).trans c1_0_4,(zAx e1_0_5).trans c1_0_5,(zAx e1_0_6).trans c1_0_6,(zAx e1_0_7).trans c1_0_7,(zAx e1_0_8).trans c1_0_8,(zAx e1_0_9).trans c1_0_9,(zAx e1_0_10).trans c1_0_10⟩ | exact⟨c1_1_0,c1_1_1,c1_1_2,c1_1_3,c1_1_4,c1_1_5,c1_1_6,c1_1_7,c1_1_8,c1_1_9,c1_1_10⟩ | exact⟨(zAx e1_1_0).trans c1_1_0,(zAx e1_1_1).trans c1_1_1,(zAx e1_1_2).trans c1_1_2,(zAx e1_1_3).trans c1_1_3,(zAx e1_1_4).trans c1_1_4,(zAx e1_1_5).trans c1_1_5,(zAx e1_1_6).trans c1_1_6,(zAx e1_1_7).trans c1_1_7,(zAx e1_1_8).trans c1_1_8,(zAx e1_1_9).trans c1_1_9,(zAx e1_1_10).trans c1_1_10⟩ | exact⟨(zAh (by omega)).trans c1_1_0,(zAh (by omega)).trans c1_1_1,(zAh (by omega)).trans c1_1_2,(zAh (by omega)).trans c1_1_3,(zAh (by omega)).trans c1_1_4,(zAh (by omega)).trans c1_1_5,(zAh (by omega)).trans c1_1_6,(zAh (by omega)).trans c1_1_7,(zAh (by omega)).trans c1_1_8,(zAh (by omega)).trans c1_1_9,(zAh (by omega)).trans c1_1_10⟩) (first
   | (go_at_call 51;refine (zGL (FA.mk n (.slice x n c) g1 g2 g3 g4 g5 g6 g7 g8 g9) f q0_0 _ _ (HF.out.below (by first | exact B0_0.out | exact B0_0.out.alloc B0_0.out.size _)) (by first | exact Q0_0.out | exact Q0_0.out.below ((Below.refl _ _).alloc (Nat.le_refl _) _))).mono ?_;rintro e w0_1 ⟨q0_1,rfl,hq0_1,hb0_1⟩;have B0_1:Hid (Below W0.heap.size W0 w0_1):=(by first | exact zAn B0_0.out (Nat.le_refl _) hb0_1 | exact zAn (B0_0.out.alloc B0_0.out.size _) (Nat.le_refl _) hb0_1);have c1_1_0:=cfL B0_1.out l0_0 c0_0_0;have c1_1_1:=cfL B0_1.out l0_0 c0_0_1;have c1_1_2:=cfL B0_1.out l0_0 c0_0_2;have c1_1_3:=cfL B0_1.out l0_0 c0_0_3;have c1_1_4:=cfL B0_1.out l0_0 c0_0_4;have c1_1_5:=cfL B0_1.out l0_0 c0_0_5;have c1_1_6:=cfL B0_1.out l0_0 c0_0_6;have c1_1_7:=cfL B0_1.out l0_0 c0_0_7;have c1_1_8:=cfL B0_1.out l0_0 c0_0_8;have c1_1_9:=cfL B0_1.out l0_0 c0_0_9;have c1_1_10:=cfL B0_1.out l0_1 c0_1_0;have e1_1_0:=Nat.lt_of_lt_of_le l0_0 B0_1.out.size;have e1_1_1:=Nat.lt_of_lt_of_le l0_0 B0_1.out.size;have e1_1_2:=Nat.lt_of_lt_of_le l0_0 B0_1.out.size;have e1_1_3:=Nat.lt_of_lt_of_le l0_0 B0_1.out.size;have e1_1_4:=Nat.lt_of_lt_of_le l0_0 B0_1.out.size;have e1_1_5:=Nat.lt_of_lt_of_le l0_0 B0_1.out.size;have e1_1_6:=Nat.lt_of_lt_of_le l0_0 B0_1.out.size;have e1_1_7:=Nat.lt_of_lt_of_le l0_0 B0_1.out.size;have e1_1_8:=Nat.lt_of_lt_of_le l0_0 B0_1.out.size;have e1_1_9:=Nat.lt_of_lt_of_le l0_0 B0_1.out.size;have e1_1_10:=Nat.lt_of_lt_of_le l0_1 B0_1.out.size;(try (have bx1:w0_1.cell? ⟨w0_0.heap.size,0,none⟩=some (.slice none 0 0)∧w0_1.frozen? ⟨w0_0.heap.size,0,none⟩=false∧w0_1.heap[w0_0.heap.size]?=some (.cells #[.slice none 0 0] 64 (0,0)):=(by first | exact zCZ hb0_1 | exact zCZ (w:=w0_0.drew) hb0_1)));(try (have by1_0:w0_1.cell? ⟨W0.heap.size,0,none⟩=some (.slice none 0 0)∧w0_1.frozen? ⟨W0.heap.size,0,none⟩=false∧w0_1.heap[W0.heap.size]?=some (.cells #[.slice none 0 0] 64 (0,0)):=zHu hb0_1 bx0));(try have bc:=bx1.1);(try have bf:=bx1.2.1);(try have bc:=by1_0.1);(try have bf:=by1_0.2.1);have Q0_1:=zAa hq0_1;clear hq0_1)
   | (go_at_call 52;refine (zHo (FA.mk n (.slice x n c) g1 g2 g3 g4 g5 g6 g7 g8 g9) f gr _ _ (HF.out.below (by first | exact (Below.refl _ _).drew | exact ((Below.refl _ _).drew).alloc (by simp) _)) (Rr.out.below (by first | exact (Below.refl _ _).drew | exact ((Below.refl _ _).drew).alloc (by simp) _))).mono ?_;rintro e w0_0 ⟨q0_0,rfl,hq0_0,hb0_0⟩;have B0_0:Hid (Below W0.heap.size W0 w0_0):=(by first | exact ((Below.refl W0.heap.size W0).drew).trans (hb0_0.mono (by simp)) | exact (((Below.refl W0.heap.size W0).drew).alloc (by simp) _).trans (hb0_0.mono (by simp)));have c1_0_0:=cfL B0_0.out l0_0 c0_0_0;have c1_0_1:=cfL B0_0.out l0_0 c0_0_1;have c1_0_2:=cfL B0_0.out l0_0 c0_0_2;have c1_0_3:=cfL B0_0.out l0_0 c0_0_3;have c1_0_4:=cfL B0_0.out l0_0 c0_0_4;have c1_0_5:=cfL B0_0.out l0_0 c0_0_5;have c1_0_6:=cfL B0_0.out l0_0 c0_0_6;have c1_0_7:=cfL B0_0.out l0_0 c0_0_7;have c1_0_8:=cfL B0_0.out l0_0 c0_0_8;have c1_0_9:=cfL B0_0.out l0_0 c0_0_9;have c1_0_10:=cfL B0_0.out l0_1 c0_1_0;have e1_0_0:=Nat.lt_of_lt_of_le l0_0 B0_0.out.size;have e1_0_1:=Nat.lt_of_lt_of_le l0_0 B0_0.out.size;have e1_0_2:=Nat.lt_of_lt_of_le l0_0 B0_0.out.size;have e1_0_3:=Nat.lt_of_lt_of_le l0_0 B0_0.out.size;have e1_0_4:=Nat.lt_of_lt_of_le l0_0 B0_0.out.size;have e1_0_5:=Nat.lt_of_lt_of_le l0_0 B0_0.out.size;have e1_0_6:=Nat.lt_of_lt_of_le l0_0 B0_0.out.size;have e1_0_7:=Nat.lt_of_lt_of_le l0_0 B0_0.out.size;have e1_0_8:=Nat.lt_of_lt_of_le l0_0 B0_0.out.size;have e1_0_9:=Nat.lt_of_lt_of_le l0_0 B0_0.out.size;have e1_0_10:=Nat.lt_of_lt_of_le l0_1 B0_0.out.size;(try (have bx0:w0_0.cell? ⟨W0.heap.size,0,none⟩=some (.slice none 0 0)∧w0_0.frozen? ⟨W0.heap.size,0,none⟩=false∧w0_0.heap[W0.heap.size]?=some (.cells #[.slice none 0 0] 64 (0,0)):=(by first | exact zCZ hb0_0 | exact zCZ (w:=W0.drew) hb0_0)));(try have bc:=bx0.1);(try have bf:=bx0.2.1);have Q0_0:=zAa hq0_0;clear hq0_0))
  all_goals
   (try go_wp2)
   go_meet
   case rel=>first | exact zFy B0_1.out Q0_1.out | exact zDj B0_1.out hgeW Q0_1.out by1_0.2.2 | exact zDj B0_1.out B0_0.out.size Q0_1.out bx1.2.2
 case rest =>
 obtain⟨gx1,qx1,rfl,kx1,hqx1,hbx1,hgx1⟩:=hcut
 have HF1:=zAa (HF.out.below hbx1)
 have R1_0:=zAa (Rr.out.below hbx1)
 have R1_1:=zAa hqx1
 have BW1:=zAa (zAn BW0.out (Nat.le_refl _) hbx1)
 have d1_0:=cfL hbx1 l0_0 c0_0_0
 have d1_1:=cfL hbx1 l0_0 c0_0_1
 have d1_2:=cfL hbx1 l0_0 c0_0_2
 have d1_3:=cfL hbx1 l0_0 c0_0_3
 have d1_4:=cfL hbx1 l0_0 c0_0_4
 have d1_5:=cfL hbx1 l0_0 c0_0_5
 have d1_6:=cfL hbx1 l0_0 c0_0_6
 have d1_7:=cfL hbx1 l0_0 c0_0_7
 have d1_8:=cfL hbx1 l0_0 c0_0_8
 have d1_9:=cfL hbx1 l0_0 c0_0_9
 have d1_10:=cfL hbx1 l0_1 c0_1_0
 have d1_11:=cfL hbx1 l0_2 c0_2_0
 have f1_0:∀ j,wc.frozen? ⟨w.heap.size,j,none⟩=false:=fun j=>(hbx1.frozen (p:=⟨w.heap.size,j,none⟩) l0_0).trans (f0_0 j)
 have l1_0:=Nat.lt_of_lt_of_le l0_0 hbx1.size
 have K1_0:=zAa ((hbx1.block _ l0_0).trans K0_0.out)
 have f1_1:∀ j,wc.frozen? ⟨w.heap.size+1,j,none⟩=false:=fun j=>(hbx1.frozen (p:=⟨w.heap.size+1,j,none⟩) l0_1).trans (f0_1 j)
 have l1_1:=Nat.lt_of_lt_of_le l0_1 hbx1.size
 have K1_1:=zAa ((hbx1.block _ l0_1).trans K0_1.out)
 have f1_2:∀ j,wc.frozen? ⟨w.heap.size+2,j,none⟩=false:=fun j=>(hbx1.frozen (p:=⟨w.heap.size+2,j,none⟩) l0_2).trans (f0_2 j)
 have l1_2:=Nat.lt_of_lt_of_le l0_2 hbx1.size
 have K1_2:=zAa ((hbx1.block _ l0_2).trans K0_2.out)
 obtain⟨cn1,fn1,ln1⟩:=zAm kx1
 have KN1:=zAa kx1
 clear kx1 hqx1 hbx1 c0_0_0 c0_0_1 c0_0_2 c0_0_3 c0_0_4 c0_0_5 c0_0_6 c0_0_7 c0_0_8 c0_0_9 c0_1_0 c0_2_0
 go_upto_region 2 with fail
 clear d1_0 d1_2 d1_4 d1_5 d1_6 d1_7 d1_8 d1_9 d1_10
 clear f1_0 f1_1 fn1
 go_region_held3 (fun w'=>w'.cell? ⟨w.heap.size,1,none⟩=some (.slice (some ⟨g1,0,none⟩) n n)∧w'.cell? ⟨w.heap.size,3,none⟩=some (.slice (some ⟨g3,0,none⟩) n n)∧w'.cell? ⟨gx1,0,none⟩=some (.slice (some ⟨qx1,0,none⟩) n n)) (first | exact⟨d1_1,d1_3,cn1⟩ | exact⟨c2_0_0,c2_0_1,c2_0_2⟩ | exact⟨c2_1_0,c2_1_1,c2_1_2⟩ | exact⟨c2_2_0,c2_2_1,c2_2_2⟩ | exact⟨(zAh (by omega)).trans c2_2_0,(zAh (by omega)).trans c2_2_1,(zAh (by omega)).trans c2_2_2⟩) (first
  | (go_at_call_of 54 (Value.slice (some ⟨q1_1,0,none⟩) n n);refine (zCq q1_1 n _ _ Q1_1.out).mono ?_;rintro e w1_2 ⟨q1_2,rfl,hq1_2,hb1_2⟩;have B1_2:Hid (Below wc.heap.size wc w1_2):=zAn B1_1.out (Nat.le_refl _) hb1_2;have c2_2_0:=cfL B1_2.out l1_0 d1_1;have c2_2_1:=cfL B1_2.out l1_0 d1_3;have c2_2_2:=cfL B1_2.out ln1 cn1;have z2_2:=(B1_2.out.frozen (p:=⟨w.heap.size+2,0,none⟩) l1_2).trans (f1_2 0);have y2_2:=cfL B1_2.out l1_2 d1_11;have Q1_2:=zAa hq1_2;clear hq1_2)
  | (go_at_call_of 53 (Value.slice (some ⟨q1_0,0,none⟩) n n);refine (zCu q1_0 g3 n _ _ _ Q1_0.out (HF1.out.r3.below B1_0.out)).mono ?_;rintro e w1_1 ⟨q1_1,rfl,hq1_1,hb1_1⟩;have B1_1:Hid (Below wc.heap.size wc w1_1):=zAn B1_0.out (Nat.le_refl _) hb1_1;have c2_1_0:=cfL B1_1.out l1_0 d1_1;have c2_1_1:=cfL B1_1.out l1_0 d1_3;have c2_1_2:=cfL B1_1.out ln1 cn1;have z2_1:=(B1_1.out.frozen (p:=⟨w.heap.size+2,0,none⟩) l1_2).trans (f1_2 0);have y2_1:=cfL B1_1.out l1_2 d1_11;have Q1_1:=zAa hq1_1;clear hq1_1)
  | (go_at_call_of 53 (Value.slice (some ⟨g1,0,none⟩) n n);refine (zCu g1 qx1 n _ _ _ (HF1.out.r1.below (Below.refl _ _).drew) (R1_1.out.below (Below.refl _ _).drew)).mono ?_;rintro e w1_0 ⟨q1_0,rfl,hq1_0,hb1_0⟩;have B1_0:Hid (Below wc.heap.size wc w1_0):=((Below.refl wc.heap.size wc).drew).trans (hb1_0.mono (by simp));have c2_0_0:=cfL B1_0.out l1_0 d1_1;have c2_0_1:=cfL B1_0.out l1_0 d1_3;have c2_0_2:=cfL B1_0.out ln1 cn1;have z2_0:=(B1_0.out.frozen (p:=⟨w.heap.size+2,0,none⟩) l1_2).trans (f1_2 0);have y2_0:=cfL B1_0.out l1_2 d1_11;have Q1_0:=zAa hq1_0;clear hq1_0))
 all_goals
  (try go_wp2)
  have KR:=zAf ((B1_2.out.block _ l1_2).trans K1_2.out) 0 (.slice (some ⟨q1_2,0,none⟩) n n)
  refine zBv (p:=4) (w.heap.size+2) _ (by kernel_rfl) rfl (by exact KR) rfl ⟨q1_2,rfl,⟨(Q1_2.out).at_.of_block (Below.heap_setCell _ _ _ _ (by have:=Q1_2.out.at_;unfold zAo at this;intro e;rw[e] at this;rw[(B1_2.out.block _ l1_2).trans K1_2.out] at this;simp at this)),(Q1_2.out).len,(Q1_2.out).fits⟩,(zAn BW1.out (Nat.le_refl _) B1_2.out).setCell (p:=⟨w.heap.size+2,0,none⟩) (by simp) _⟩
end Go.Proofs.YtkmebkbpfmoeaaaGreat
