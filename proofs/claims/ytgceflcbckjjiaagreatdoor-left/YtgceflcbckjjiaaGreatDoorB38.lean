import Derived.Test.YtgceflcbckjjiaaGreatDoorB14
set_option linter.unusedVariables false
set_option linter.unusedSimpArgs false
namespace Go.Proofs.YtgceflcbckjjiaaGreatDoor
open Go Go.RowKit
set_option maxRecDepth 100000
set_option maxHeartbeats 6400000 in
theorem fencesBehind_any (a:FA) (f:Q.Facts) (v:Value) (ps:List Int) (w:World) (hf:FactsIn w a f) (hv:RowI w v ps) (hpl:ps.length=a.n) :
  Calls Tryz.prog 91 #[.agg (facCells a),v] w fun e w'=>RelR w w' a.n (f.fencesBehind ps) e:=by
 have HFE:Hid (f.fencesBehind ps=(List.range a.n).foldl (Q.fbI f.fences ps) (Q.newR a.n)):=by unfold Hid Q.Facts.fencesBehind;rw[hf.len,hpl]
 obtain⟨va,vc,rfl,hva⟩:=hv.form
 have hvb:0<a.n→∃ g,va=some ⟨g,0,none⟩∧g<w.heap.size∧∀ i,i<a.n→w.cell? ⟨g,i,none⟩=some (.int .i64 (ps.getD i 0)):=fun h0=>by
  obtain⟨g,e1,e2,e3⟩:=hva (by omega)
  exact⟨g,e1,e2,fun i hi=>by rw[getD_int ps i (by omega)];exact e3 i (by omega)⟩
 clear hva
 rw[hpl]
 obtain⟨x,c,hev,hx⟩:=hf.form
 have hn64:=hf.n64
 have hln:=hf.len
 obtain⟨n,ev,g1,g2,g3,g4,g5,g6,g7,g8,g9⟩:=a
 simp only at hev hn64 hln hx
 subst hev
 simp only[facCells]
 simp only at HFE hpl hvb
 obtain⟨k0,k1,hsz,hbw⟩:=boxes2 w #[.slice x n c,.slice (some ⟨g1,0,none⟩) n n,.slice (some ⟨g2,0,none⟩) n n,.slice (some ⟨g3,0,none⟩) n n,.slice (some ⟨g4,0,none⟩) n n,.slice (some ⟨g5,0,none⟩) n n,.slice (some ⟨g6,0,none⟩) n n,.slice (some ⟨g7,0,none⟩) n n,.slice (some ⟨g8,0,none⟩) n n,.slice (some ⟨g9,0,none⟩) n n] #[.slice none 0 0] 70 68
 have R4:=hide (hf.r4.below hbw)
 have BW0:=hide hbw
 clear hbw hf hv hx
 go_enter Tryz.func91,Tryz.ntmps91
 go_upto_region 1 with fail
 generalize hE:(w.alloc (.cells #[.slice x n c,.slice (some ⟨g1,0,none⟩) n n,.slice (some ⟨g2,0,none⟩) n n,.slice (some ⟨g3,0,none⟩) n n,.slice (some ⟨g4,0,none⟩) n n,.slice (some ⟨g5,0,none⟩) n n,.slice (some ⟨g6,0,none⟩) n n,.slice (some ⟨g7,0,none⟩) n n,.slice (some ⟨g8,0,none⟩) n n,.slice (some ⟨g9,0,none⟩) n n] 70)).alloc (.cells #[.slice none 0 0] 68)=W0 at *
 have c00:W0.cell? ⟨w.heap.size,0,none⟩=some (.slice x n c):=by simp[World.cell?,k0]
 have c04:W0.cell? ⟨w.heap.size,4,none⟩=some (.slice (some ⟨g4,0,none⟩) n n):=by simp[World.cell?,k0]
 obtain⟨c1,f1,l1⟩:=one_cellR k1
 have l0:w.heap.size<W0.heap.size:=by omega
 have K1:=hide k1
 clear hE k0 k1 c1 f1
 go_wp2_with (first | (go_at_call 109;refine (new_any n _ hn64).mono ?_;rintro e w1 ⟨gn,rfl,hsn,hgn,hll,hfn,hb1⟩;have HS:=hide (Fill.start ⟨hsn,hll,hfn⟩ hgn hb1);have hz1:=hb1.size;clear hsn hb1 hll hfn))
 go_loopw [16] (fun i wr=>∃ (k:Nat) (t:List Nat),k≤n∧i=.int .i64 k∧Hid (t=(List.range k).foldl (Q.fbI f.fences ps) (Q.newR n))∧Hid (Fill W0 wr w1.heap.size gn n t)) (fun i _=>n-(intOf i).toNat)
 case atStart=>exact⟨0,_,Nat.zero_le _,rfl,rfl,HS⟩
 case round =>
  obtain⟨k,t,hk,rfl,HT,HI⟩:=hrel
  obtain⟨b0,b1,b2⟩:=one_cellR HI.out.box
  by_cases hlt:k<n
  ·have hin:(k:Int)<(n:Int):=by omega
   obtain⟨gp,rfl,hgp,hps⟩:=hvb (by omega)
   have hgpW:gp<W0.heap.size:=by omega
   have HPK:Hid (W0.cell? ⟨gp,k,none⟩=some (.int .i64 (ps.getD k 0))):=(BW0.out.cell (p:=⟨gp,k,none⟩) hgp).trans (hps k (by omega))
   have HTS:Hid ((List.range (k+1)).foldl (Q.fbI f.fences ps) (Q.newR n)=(List.range n).foldl (Q.fbK f.fences ps k) t):=by unfold Hid;rw[Q.foldl_range_succ,← HT.out];unfold Q.fbI;rw[hpl]
   have HBP:Hid (∀ q u,Q.fbK f.fences ps k u q=Q.addIf (Q.hasR f.fences k q&&decide (ps.getD k 0<ps.getD q 0)) u k q):=fun q u=>rfl
   generalize hpk:ps.getD k 0=pk at *
   clear hpk
   have cpk:=HI.out.cell (p:=⟨gp,k,none⟩) hgpW HPK.out
   have lgp:=Nat.lt_of_lt_of_le hgpW HI.out.bel.size
   go_wp2
   go_loopw [23] (fun j wq=>∃ (q:Nat) (u:List Nat),q≤n∧j=.int .i64 q∧Hid (u=(List.range q).foldl (Q.fbK f.fences ps k) t)∧Hid (Fill W0 wq w1.heap.size gn n u)) (fun j _=>n-(intOf j).toNat)
   case atStart=>exact⟨0,t,Nat.zero_le _,rfl,rfl,HI⟩
   case round =>
    clear cpk lgp b0 b1 b2
    obtain⟨q,u,hq,rfl,HU,HJ⟩:=hrel
    by_cases hql:q<n
    ·have hqi:(q:Int)<(n:Int):=by omega
     have HPQ:Hid (W0.cell? ⟨gp,q,none⟩=some (.int .i64 (ps.getD q 0))):=(BW0.out.cell (p:=⟨gp,q,none⟩) hgp).trans (hps q (by omega))
     have HUS:Hid ((List.range (q+1)).foldl (Q.fbK f.fences ps k) t=Q.addIf (Q.hasR f.fences k q&&decide (pk<ps.getD q 0)) u k q):=by unfold Hid;rw[Q.foldl_range_succ,← HU.out];exact HBP.out q u
     generalize hpq:ps.getD q 0=pq at *
     clear hpq
     have cpq:=HJ.out.cell (p:=⟨gp,q,none⟩) hgpW HPQ.out
     have lgp:=Nat.lt_of_lt_of_le hgpW HJ.out.bel.size
     have d04:=HJ.out.cell (p:=⟨w.heap.size,4,none⟩) l0 c04
     have l0w:=Nat.lt_of_lt_of_le l0 HJ.out.bel.size
     have HR4:=hide (R4.out.below HJ.out.bel)
     cases z1:Q.hasR f.fences (k:Int) (q:Int)
     ·have HUN:Hid (u=(List.range (q+1)).foldl (Q.fbK f.fences ps k) t):=by unfold Hid;rw[HUS.out,z1];rfl
      go_wp2_with (first | (go_at_call 112;refine (has_rel g4 n f.fences (k:Int) (q:Int) _ HR4.out).mono ?_;rintro e wb ⟨rfl,hbb⟩;rw[z1];have HJ1:=hide (HJ.out.keep hbb)) | (go_at_call 110;refine (add_any w1.heap.size 0 gn n u (k:Int) (q:Int) _ HJ1.out.relIn HJ1.out.rel.fits).mono ?_;rintro e wc ⟨rfl,hsc,hgc⟩;have HJ2:=hide (HJ1.out.grown hgc hsc)))
      go_roundw
      case rel=>exact⟨q+1,u,by omega,by go_num,HUN,HJ1⟩
      case measure=>simp[intOf];omega
     by_cases hz:pk<pq
     ·have z4:decide (pk<pq)=true:=decide_eq_true hz
      have HUN:Hid (Q.addR u (k:Int) (q:Int)=(List.range (q+1)).foldl (Q.fbK f.fences ps k) t):=by unfold Hid;rw[HUS.out,z1,z4];rfl
      go_wp2_with (first | (go_at_call 112;refine (has_rel g4 n f.fences (k:Int) (q:Int) _ HR4.out).mono ?_;rintro e wb ⟨rfl,hbb⟩;rw[z1];have HJ1:=hide (HJ.out.keep hbb)) | (go_at_call 110;refine (add_any w1.heap.size 0 gn n u (k:Int) (q:Int) _ HJ1.out.relIn HJ1.out.rel.fits).mono ?_;rintro e wc ⟨rfl,hsc,hgc⟩;have HJ2:=hide (HJ1.out.grown hgc hsc)))
      go_roundw
      case rel=>exact⟨q+1,_,by omega,by go_num,HUN,HJ2⟩
      case measure=>simp[intOf];omega
     ·have z4:decide (pk<pq)=false:=decide_eq_false hz
      have HUN:Hid (u=(List.range (q+1)).foldl (Q.fbK f.fences ps k) t):=by unfold Hid;rw[HUS.out,z1,z4];rfl
      go_wp2_with (first | (go_at_call 112;refine (has_rel g4 n f.fences (k:Int) (q:Int) _ HR4.out).mono ?_;rintro e wb ⟨rfl,hbb⟩;rw[z1];have HJ1:=hide (HJ.out.keep hbb)) | (go_at_call 110;refine (add_any w1.heap.size 0 gn n u (k:Int) (q:Int) _ HJ1.out.relIn HJ1.out.rel.fits).mono ?_;rintro e wc ⟨rfl,hsc,hgc⟩;have HJ2:=hide (HJ1.out.grown hgc hsc)))
      go_roundw
      case rel=>exact⟨q+1,u,by omega,by go_num,HUN,HJ1⟩
      case measure=>simp[intOf];omega
    ·have HN2:Hid (u=(List.range (k+1)).foldl (Q.fbI f.fences ps) (Q.newR n)):=by unfold Hid;rw[HTS.out,HU.out,show q=n by omega]
     go_wp2
     go_roundw
     case rel=>exact⟨k+1,u,by omega,by go_num,HN2,HJ⟩
     case measure=>simp[intOf];omega
  ·have hkn:k=n:=by omega
   have HE2:Hid (t=f.fencesBehind ps):=by unfold Hid;rw[HFE.out,HT.out,hkn]
   obtain⟨q1,q2⟩:=HI.out.out BW0.out K1.out (by omega)
   rw[HE2.out] at q1
   go_wp2_with (first | (refine wpList_load_rel (.tmp 5) rfl rfl w1.heap.size _ rfl HI.out.box ?_) | (refine wpList_store_rel (.tmp 4) (.tmp 43) rfl rfl (w.heap.size+1) _ _ rfl rfl ((HI.out.bel.block _ l1).trans K1.out) rfl ?_))
   refine ret_rel (p:=4) (w.heap.size+1) _ (by kernel_rfl) rfl q2 rfl q1
end Go.Proofs.YtgceflcbckjjiaaGreatDoor
