import Derived.Test.YtgceflcbckjjiaaGreatDoorC17
set_option linter.unusedVariables false
set_option linter.unusedSimpArgs false
set_option maxHeartbeats 12800000
namespace Go.Proofs.YtgceflcbckjjiaaGreatDoor
open Go Go.RowKit
set_option maxRecDepth 100000
namespace Q
def frowF (es:List Ev) (k:Nat):Int:=if isSC (ev es k) then 0 else -1
theorem fenceRows_range (es:List Ev):zNV es=(List.range es.length).map (frowF es):=by
 unfold zNV
 apply List.ext_getElem
 ·simp
 ·intro i h1 h2
  simp at h1
  simp[frowF,ev,h1]
end Q
theorem zED (ev rg:Value) (es:List Q.Ev) (w:World) (he:zBa w ev es) (hrg:∃ a n c,rg=.slice a n c) (hn:es.length≤64) :
  Calls Tryz.prog 90 #[.agg #[ev,rg]] w fun e w'=>zJl w w' (Q.zNV es) (Q.zNU es (Q.zNV es)) e:=by
 have hmk:∀ w,(Instr.makeSlice 32 (.int .i64 (es.length:Int)) (.int .i64 (es.length:Int))).run Tryz.prog w=.ok (.slice (some ⟨w.heap.size,0,none⟩) es.length es.length) (w.alloc (.cells (madeCells #[.int .i64 0] es.length) 3)) :=
  fun w=>run_make_row' 32 3 (.int .i64 0) 8 Tryz.underlying32 Tryz.infoInt rfl .i64 .i64 es.length (by omega) (by omega) w
 obtain⟨ea,ec,rfl,hea⟩:=he.form
 obtain⟨ra,rn,rc,rfl⟩:=hrg
 obtain⟨k0,k1,hsz,hbw⟩:=zBN w #[.slice ea es.length ec,.slice ra rn rc] #[.slice none 0 0,.slice none 0 0,.slice none 0 0,.bool false] 65 124
 have HE0:=zAa he
 have BW0:=zAa hbw
 have HRO:Hid (Q.zNV es=(List.range es.length).map (Q.frowF es)):=Q.fenceRows_range es
 have HRL:Hid ((Q.zNV es).length=es.length):=by simp[Hid,Q.zNV]
 clear hbw he
 go_enter Tryz.func90,Tryz.ntmps90
 go_upto_region 1 with fail
 generalize hE:(w.alloc (.cells #[.slice ea es.length ec,.slice ra rn rc] 65)).alloc (.cells #[.slice none 0 0,.slice none 0 0,.slice none 0 0,.bool false] 124)=W0 at *
 have c00:=ceL k0 0 _ rfl
 have c01:=ceL k0 1 _ rfl
 have l0:w.heap.size<W0.heap.size:=by omega
 have l1:w.heap.size+1<W0.heap.size:=by omega
 have hszl:w.heap.size+2≤W0.heap.size:=by omega
 have K1:=zAa k1
 have HM0:Hid (zAx (W0.alloc (.cells (madeCells #[.int .i64 0] es.length) 3)) W0.heap.size (Q.mixI (Q.frowF es) es.length 0)):=by
  unfold Hid zAx;rw[Q.zPA,← zCf];exact heap_alloc_new W0 _
 have HB0:Hid (Below W0.heap.size W0 (W0.alloc (.cells (madeCells #[.int .i64 0] es.length) 3))):=(Below.refl _ _).alloc (Nat.le_refl _) _
 clear hE k0 k1 hsz
 go_wp2
 go_loopw [13] (fun j wr=>∃ (k:Nat),k≤es.length∧j=.int .i64 k∧Hid (zAx wr W0.heap.size (Q.mixI (Q.frowF es) es.length k))∧Hid (Below W0.heap.size W0 wr)) (fun j _=>es.length-(intOf j).toNat)
 case atStart=>exact⟨0,Nat.zero_le _,rfl,HM0,HB0⟩
 case round =>
  obtain⟨k,hk,rfl,HI,HBL2⟩:=hrel
  by_cases hlt:k<es.length
  ·have hin:(k:Int)<(es.length:Int):=by omega
   obtain⟨be,rfl,hbe⟩:=hea (by omega)
   have hbeW:be<W0.heap.size:=by omega
   have HR1:Hid (wr.rangeAt be (k*10) (zAd (Q.ev es k)).toList):=zAy (HE0.out.range' rfl k (by omega)) ((HBL2.out.block be hbeW).trans (BW0.out.block be hbe))
   have HMS:=zAa (Q.zPS (Q.frowF es) es.length k hlt)
   have HPF:Hid (Q.frowF es k=if Q.isSC (Q.ev es k) then 0 else -1):=rfl
   generalize Q.ev es k=e1 at *
   have HI1:=zAa (HI.out.below ((Below.refl _ _).alloc (Nat.le_refl _) (.cells (zAd e1) 158)))
   have HBX1:Hid (Below W0.heap.size W0 (wr.alloc (.cells (zAd e1) 158))):=HBL2.out.alloc HBL2.out.size _
   have hkl:k<(Q.mixI (Q.frowF es) es.length k).length:=by rw[Q.zPB];exact hlt
   have hkl2:k<((Q.mixI (Q.frowF es) es.length k).set k (-1)).length:=by rw[List.length_set];exact hkl
   have t0:=HI1.out.cellD k hkl
   have ff:=HI1.out.free k
   have tl:=HI1.out.lt
   have JX:=zAa (HI1.out.set k (-1))
   have BX:Hid (Below W0.heap.size W0 ((wr.alloc (.cells (zAd e1) 158)).setCell ⟨W0.heap.size,k,none⟩ (.int .i64 (-1)))):=HBX1.out.setCell (p:=⟨W0.heap.size,k,none⟩) (Nat.le_refl _) _
   have EA:Hid (zAV ((wr.alloc (.cells (zAd e1) 158)).setCell ⟨W0.heap.size,k,none⟩ (.int .i64 (-1))) wr.heap.size e1):=by
    have h1:=zAV.new wr e1
    have h2:=HI.out.lt
    unfold Hid zAV at *
    rw[Below.heap_setCell _ _ _ _ (by simp;omega)];exact h1
   obtain⟨x0,x1,x2,x3,x4,x5,x6,x7,x8,x9,xf,xl⟩:=EA.out.facts
   simp only[zAd] at t0 ff tl x0 x1 x2 x3 x4 x5 x6 x7 x8 x9 xf xl
   generalize hgm:(Q.mixI (Q.frowF es) es.length k).getD k 0=gm at *
   cases z1:(Q.isSC e1)
   ·have HN:Hid ((Q.mixI (Q.frowF es) es.length k).set k (-1)=Q.mixI (Q.frowF es) es.length (k+1)):=by unfold Hid;rw[← HMS.out,HPF.out,z1];rfl
    skip
    go_wp2_with (first | (refine zAi (.tmp 16) rfl rfl be (k*10) e1 rfl HR1.out ?_) | (go_at_call 142;refine (zEd e1 _).mono ?_;rintro e w5 ⟨rfl,hb5⟩;rw[z1];have J5:=zAa (JX.out.below hb5);have B5:=zAa (zAm BX.out (Nat.le_refl _) hb5);have t5:=J5.out.cellD k hkl2;have ff5:=J5.out.free k;have tl5:=J5.out.lt))
    go_roundw
    case rel=>exact⟨k+1,by omega,by go_num,(by rw[← HN.out];exact J5.out),B5⟩
    case measure=>simp[intOf];omega
   ·have HN:Hid (((Q.mixI (Q.frowF es) es.length k).set k (-1)).set k (0)=Q.mixI (Q.frowF es) es.length (k+1)):=by unfold Hid;rw[List.set_set,← HMS.out,HPF.out,z1];rfl
    skip
    go_wp2_with (first | (refine zAi (.tmp 16) rfl rfl be (k*10) e1 rfl HR1.out ?_) | (go_at_call 142;refine (zEd e1 _).mono ?_;rintro e w5 ⟨rfl,hb5⟩;rw[z1];have J5:=zAa (JX.out.below hb5);have B5:=zAa (zAm BX.out (Nat.le_refl _) hb5);have t5:=J5.out.cellD k hkl2;have ff5:=J5.out.free k;have tl5:=J5.out.lt))
    go_roundw
    case rel=>exact⟨k+1,by omega,by go_num,by rw[← HN.out];exact J5.out.set k 0,B5.out.setCell (p:=⟨W0.heap.size,k,none⟩) (Nat.le_refl _) _⟩
    case measure=>simp[intOf];omega
  ·have hkn:k=es.length:=by omega
   have HF:Hid (zAx wr W0.heap.size (Q.zNV es)):=by
    have h1:=HI.out
    rw[hkn,Q.zPC,← HRO.out] at h1
    exact h1
   have HE1:Hid (zBa wr (.slice ea es.length ec) es):=HE0.out.keep fun q hq=>(HBL2.out.block q (by omega)).trans (BW0.out.block q hq)
   have d0:=cfL HBL2.out l0 c00
   have d1:=cfL HBL2.out l0 c01
   have ld0:=Nat.lt_of_lt_of_le l0 HBL2.out.size
   clear HI hea
   go_wp2_with (first | (go_at_call 116;refine (zFb _ _ _ es (Q.zNV es) _ HE1.out ⟨_,_,_,rfl⟩ (by have h1:=HF.out.rowI es.length;rw[HRL.out] at h1;exact h1) (by rw[HRL.out]) (by rw[HRL.out];exact hn)).mono ?_;rintro e w2 ⟨gr,gb,gd,rfl,hir,hib,hid,hgr,hgb,hgd,hne,hne2,hb2⟩;have B2:Hid (Below W0.heap.size W0 w2):=zAm HBL2.out (Nat.le_refl _) hb2;have K2:=zAa ((B2.out.block _ l1).trans K1.out);obtain⟨t0,t1,t2,t3,tf,tl⟩:=zCc K2.out;have IB:=zAa hib;have ID:=zAa hid;have IR:=zAa hir))
   obtain⟨s0,s1,s2⟩:=zMh (s0:=.slice (some ⟨gr,0,none⟩) (Q.zNV es).length (Q.zNV es).length) (s1:=.slice (some ⟨gb,0,none⟩) (Q.zNU es (Q.zNV es)).length (Q.zNU es (Q.zNV es)).length) (s2:=.slice (some ⟨gd,0,none⟩) (Q.zNU es (Q.zNV es)).length (Q.zNU es (Q.zNV es)).length) (s3:=.bool false) K2.out
   have hws:=HBL2.out.size
   refine zBi (p:=2) (w.heap.size+1) _ (by kernel_rfl) Tryz.underlying124 rfl (by kernel_rfl) rfl (by exact s0) rfl ⟨gr,gb,gd,rfl,IR.out.of_block (s1 _ (by omega)),IB.out.of_block (s1 _ (by omega)),ID.out.of_block (s1 _ (by omega)),by omega,by omega,by omega,hne,hne2,s2 _ _ (by omega) (zAm BW0.out (Nat.le_refl _) B2.out)⟩
theorem zEb (a:FA) (f:Q.Facts) (v:Value) (ps:List Int) (w:World) (hf:FactsIn w a f) (hv:zBS w v ps) (hpl:ps.length=a.n) :
  Calls Tryz.prog 91 #[.agg (zAp a),v] w fun e w'=>zGp w w' a.n (f.fencesBehind ps) e:=by
 have HFE:Hid (f.fencesBehind ps=(List.range a.n).foldl (Q.fbI f.fences ps) (Q.newR a.n)):=by unfold Hid Q.Facts.fencesBehind;rw[hf.len,hpl]
 obtain⟨va,vc,rfl,hva⟩:=hv.form
 have hvb:0<a.n→∃ g,va=some ⟨g,0,none⟩∧g<w.heap.size∧∀ i,i<a.n→w.cell? ⟨g,i,none⟩=some (.int .i64 (ps.getD i 0)):=fun h0=>by
  obtain⟨g,e1,e2,e3⟩:=hva (by omega)
  exact⟨g,e1,e2,fun i hi=>by rw[zAI ps i (by omega)];exact e3 i (by omega)⟩
 clear hva
 rw[hpl]
 obtain⟨x,c,hev,hx⟩:=hf.form
 have hn64:=hf.n64
 have hln:=hf.len
 obtain⟨n,ev,g1,g2,g3,g4,g5,g6,g7,g8,g9⟩:=a
 simp only at hev hn64 hln hx
 subst hev
 simp only[zAp]
 simp only at HFE hpl hvb
 obtain⟨k0,k1,hsz,hbw⟩:=zBN w #[.slice x n c,.slice (some ⟨g1,0,none⟩) n n,.slice (some ⟨g2,0,none⟩) n n,.slice (some ⟨g3,0,none⟩) n n,.slice (some ⟨g4,0,none⟩) n n,.slice (some ⟨g5,0,none⟩) n n,.slice (some ⟨g6,0,none⟩) n n,.slice (some ⟨g7,0,none⟩) n n,.slice (some ⟨g8,0,none⟩) n n,.slice (some ⟨g9,0,none⟩) n n] #[.slice none 0 0] 70 68
 have R4:=zAa (hf.r4.below hbw)
 have BW0:=zAa hbw
 clear hbw hf hv hx
 go_enter Tryz.func91,Tryz.ntmps91
 go_upto_region 1 with fail
 generalize hE:(w.alloc (.cells #[.slice x n c,.slice (some ⟨g1,0,none⟩) n n,.slice (some ⟨g2,0,none⟩) n n,.slice (some ⟨g3,0,none⟩) n n,.slice (some ⟨g4,0,none⟩) n n,.slice (some ⟨g5,0,none⟩) n n,.slice (some ⟨g6,0,none⟩) n n,.slice (some ⟨g7,0,none⟩) n n,.slice (some ⟨g8,0,none⟩) n n,.slice (some ⟨g9,0,none⟩) n n] 70)).alloc (.cells #[.slice none 0 0] 68)=W0 at *
 have c00:=ceL k0 0 _ rfl
 have c04:=ceL k0 4 _ rfl
 obtain⟨c1,f1,l1⟩:=zAk k1
 have l0:w.heap.size<W0.heap.size:=by omega
 have K1:=zAa k1
 clear hE k0 k1 c1 f1
 go_wp2_with (first | (go_at_call 109;refine (zBv n _ hn64).mono ?_;rintro e w1 ⟨gn,rfl,hsn,hgn,hll,hfn,hb1⟩;have HS:=zAa (Fill.start ⟨hsn,hll,hfn⟩ hgn hb1);have hz1:=hb1.size;clear hsn hb1 hll hfn))
 go_loopw [16] (fun i wr=>∃ (k:Nat) (t:List Nat),k≤n∧i=.int .i64 k∧Hid (t=(List.range k).foldl (Q.fbI f.fences ps) (Q.newR n))∧Hid (Fill W0 wr w1.heap.size gn n t)) (fun i _=>n-(intOf i).toNat)
 case atStart=>exact⟨0,_,Nat.zero_le _,rfl,rfl,HS⟩
 case round =>
  obtain⟨k,t,hk,rfl,HT,HI⟩:=hrel
  obtain⟨b0,b1,b2⟩:=zAk HI.out.box
  by_cases hlt:k<n
  ·have hin:(k:Int)<(n:Int):=by omega
   obtain⟨gp,rfl,hgp,hps⟩:=hvb (by omega)
   have hgpW:gp<W0.heap.size:=by omega
   have HPK:Hid (W0.cell? ⟨gp,k,none⟩=some (.int .i64 (ps.getD k 0))):=(BW0.out.cell (p:=⟨gp,k,none⟩) hgp).trans (hps k (by omega))
   have HTS:Hid ((List.range (k+1)).foldl (Q.fbI f.fences ps) (Q.newR n)=(List.range n).foldl (Q.fbK f.fences ps k) t):=by unfold Hid;rw[Q.zNY,← HT.out];unfold Q.fbI;rw[hpl]
   have HBP:Hid (∀ q u,Q.fbK f.fences ps k u q=Q.addIf (Q.hasR f.fences k q&&decide (ps.getD k 0<ps.getD q 0)) u k q):=fun q u=>rfl
   generalize hpk:ps.getD k 0=pk at *
   clear hpk
   have cpk:=HI.out.cell (p:=⟨gp,k,none⟩) hgpW HPK.out
   have lgp:=Nat.lt_of_lt_of_le hgpW HI.out.bel.size
   go_wp2
   go_loopw [23] (fun j wq=>∃ (q:Nat) (u:List Nat),q≤n∧j=.int .i64 q∧Hid (u=(List.range q).foldl (Q.fbK f.fences ps k) t)∧Hid (Fill W0 wq w1.heap.size gn n u)) (fun j _=>n-(intOf j).toNat)
   case atStart=>exact⟨0,t,Nat.zero_le _,rfl,rfl,HI⟩
   case round =>
    clear cpk lgp b0 b1 b2
    obtain⟨q,u,hq,rfl,HU,HJ⟩:=hrel
    by_cases hql:q<n
    ·have hqi:(q:Int)<(n:Int):=by omega
     have HPQ:Hid (W0.cell? ⟨gp,q,none⟩=some (.int .i64 (ps.getD q 0))):=(BW0.out.cell (p:=⟨gp,q,none⟩) hgp).trans (hps q (by omega))
     have HUS:Hid ((List.range (q+1)).foldl (Q.fbK f.fences ps k) t=Q.addIf (Q.hasR f.fences k q&&decide (pk<ps.getD q 0)) u k q):=by unfold Hid;rw[Q.zNY,← HU.out];exact HBP.out q u
     generalize hpq:ps.getD q 0=pq at *
     clear hpq
     have cpq:=HJ.out.cell (p:=⟨gp,q,none⟩) hgpW HPQ.out
     have lgp:=Nat.lt_of_lt_of_le hgpW HJ.out.bel.size
     have d04:=HJ.out.cell (p:=⟨w.heap.size,4,none⟩) l0 c04
     have l0w:=Nat.lt_of_lt_of_le l0 HJ.out.bel.size
     have HR4:=zAa (R4.out.below HJ.out.bel)
     cases z1:Q.hasR f.fences (k:Int) (q:Int)
     ·have HUN:Hid (u=(List.range (q+1)).foldl (Q.fbK f.fences ps k) t):=by unfold Hid;rw[HUS.out,z1];rfl
      go_wp2_with (first | (go_at_call 112;refine (zBJ g4 n f.fences (k:Int) (q:Int) _ HR4.out).mono ?_;rintro e wb ⟨rfl,hbb⟩;rw[z1];have HJ1:=zAa (HJ.out.keep hbb)) | (go_at_call 110;refine (zBC w1.heap.size 0 gn n u (k:Int) (q:Int) _ HJ1.out.relIn HJ1.out.rel.fits).mono ?_;rintro e wc ⟨rfl,hsc,hgc⟩;have HJ2:=zAa (HJ1.out.grown hgc hsc)))
      go_roundw
      case rel=>exact⟨q+1,u,by omega,by go_num,HUN,HJ1⟩
      case measure=>simp[intOf];omega
     by_cases hz:pk<pq
     ·have z4:decide (pk<pq)=true:=decide_eq_true hz
      have HUN:Hid (Q.addR u (k:Int) (q:Int)=(List.range (q+1)).foldl (Q.fbK f.fences ps k) t):=by unfold Hid;rw[HUS.out,z1,z4];rfl
      go_wp2_with (first | (go_at_call 112;refine (zBJ g4 n f.fences (k:Int) (q:Int) _ HR4.out).mono ?_;rintro e wb ⟨rfl,hbb⟩;rw[z1];have HJ1:=zAa (HJ.out.keep hbb)) | (go_at_call 110;refine (zBC w1.heap.size 0 gn n u (k:Int) (q:Int) _ HJ1.out.relIn HJ1.out.rel.fits).mono ?_;rintro e wc ⟨rfl,hsc,hgc⟩;have HJ2:=zAa (HJ1.out.grown hgc hsc)))
      go_roundw
      case rel=>exact⟨q+1,_,by omega,by go_num,HUN,HJ2⟩
      case measure=>simp[intOf];omega
     ·have z4:decide (pk<pq)=false:=decide_eq_false hz
      have HUN:Hid (u=(List.range (q+1)).foldl (Q.fbK f.fences ps k) t):=by unfold Hid;rw[HUS.out,z1,z4];rfl
      go_wp2_with (first | (go_at_call 112;refine (zBJ g4 n f.fences (k:Int) (q:Int) _ HR4.out).mono ?_;rintro e wb ⟨rfl,hbb⟩;rw[z1];have HJ1:=zAa (HJ.out.keep hbb)) | (go_at_call 110;refine (zBC w1.heap.size 0 gn n u (k:Int) (q:Int) _ HJ1.out.relIn HJ1.out.rel.fits).mono ?_;rintro e wc ⟨rfl,hsc,hgc⟩;have HJ2:=zAa (HJ1.out.grown hgc hsc)))
      go_roundw
      case rel=>exact⟨q+1,u,by omega,by go_num,HUN,HJ1⟩
      case measure=>simp[intOf];omega
    ·have HN2:Hid (u=(List.range (k+1)).foldl (Q.fbI f.fences ps) (Q.newR n)):=by unfold Hid;rw[HTS.out,HU.out,show q=n by omega]
     go_wp2
     go_roundw
     case rel=>exact⟨k+1,u,by omega,by go_num,HN2,HJ⟩
     case measure=>simp[intOf];omega
  ·have hkn:k=n:=by omega
   have HE2:Hid (t=f.fencesBehind ps):=by unfold Hid;rw[HFE.out,HT.out,hkn]
   obtain⟨q1,q2⟩:=HI.out.out BW0.out K1.out (by omega)
   rw[HE2.out] at q1
   go_wp2_with (first | (refine zAF (.tmp 5) rfl rfl w1.heap.size _ rfl HI.out.box ?_) | (refine zAU (.tmp 4) (.tmp 43) rfl rfl (w.heap.size+1) _ _ rfl rfl ((HI.out.bel.block _ l1).trans K1.out) rfl ?_))
   refine zBB (p:=4) (w.heap.size+1) _ (by kernel_rfl) rfl q2 rfl q1
end Go.Proofs.YtgceflcbckjjiaaGreatDoor
