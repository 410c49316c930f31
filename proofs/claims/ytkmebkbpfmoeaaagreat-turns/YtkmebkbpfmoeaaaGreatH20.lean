import Derived.Test.YtkmebkbpfmoeaaaGreatH19
set_option linter.unusedVariables false
set_option linter.unusedSimpArgs false
set_option maxHeartbeats 12800000
namespace Go.Proofs.YtkmebkbpfmoeaaaGreat
open Go Go.RowKit
set_option maxRecDepth 100000
theorem OutAt.off {w w':World} {B g:Nat} {rs:List (List Int)} {ov:Value} {vs:List Value} {fp:List Nat} (h:OutAt w B g rs ov vs fp) (hg:w'.heap[g]?=w.heap[g]?) (ho:∀ k,ov.ownBlock=some k→w'.heap[k]?=w.heap[k]?) (hf:∀ k∈fp,w'.heap[k]?=w.heap[k]?) (hs:w.heap.size≤w'.heap.size):OutAt w' B g rs ov vs fp:=by
 obtain⟨c,hty⟩:=h.ty
 refine⟨(World.cell?_of_block (w:=w) (a:=⟨g,0,none⟩) hg).trans h.cell,Nat.lt_of_lt_of_le h.lt hs,(World.frozen?_of_block (w:=w) (a:=⟨g,0,none⟩) hg).trans h.free,⟨zAc h.rows.own ho,h.rows.len,fun i hi u hu=>(h.rows.rows i hi u hu).own _ (fun k e=>hf k (h.fps u (List.mem_of_getElem? hu) k e)) hs⟩,⟨c,?_⟩,h.fps,fun k hk=>Nat.lt_of_lt_of_le (h.fpl k hk) hs,h.dis⟩
 rcases hty with hty | hty
 ·exact Or.inl (hg.trans hty)
 ·exact Or.inr (hg.trans hty)
theorem OutAt.ownlt {w:World} {B g:Nat} {rs:List (List Int)} {ov:Value} {vs:List Value} {fp:List Nat} (h:OutAt w B g rs ov vs fp) (k:Nat) (e:ov.ownBlock=some k):k<w.heap.size:=(h.rows.own.lt k e).2
theorem OutAt.below {w w':World} {B g:Nat} {rs:List (List Int)} {ov:Value} {vs:List Value} {fp:List Nat} (h:OutAt w B g rs ov vs fp) (hb:Below w.heap.size w w'):OutAt w' B g rs ov vs fp :=
 h.off (hb.block g h.lt) (fun k e=>hb.block k (h.ownlt k e)) (fun k hk=>hb.block k (h.fpl k hk)) hb.size
theorem OutAt.in_ {w:World} {B g:Nat} {rs:List (List Int)} {ov:Value} {vs:List Value} {fp:List Nat} (h:OutAt w B g rs ov vs fp):OutIn w B g rs :=
 ⟨⟨ov,vs,h.cell,h.rows⟩,h.lt,h.free,fun c t fr e=>by
  obtain⟨c',hty⟩:=h.ty
  rcases hty with hty | hty<;>(rw[hty] at e;simp at e;obtain⟨_,rfl,_⟩:=e;exact⟨by decide,by decide⟩)⟩
theorem OFrame.of_below {w w':World} {g:Nat} {ov:Value} {fp:List Nat} (hb:Below w.heap.size w w') (hg:g<w.heap.size):OFrame w w' g ov ov fp fp :=
 ⟨hb.os,hb.tape,hb.output,hb.size,fun k hk _ _=>hb.block k hk,Or.inl rfl,fun k hk=>Or.inl hk,hb.cell hg⟩
theorem zDR (B g:Nat) (vr ov:Value) (rs:List (List Int)) (vs:List Value) (fp:List Nat) (r:List Int) (w:World) (h:OutAt w B g rs ov vs fp) (hr:zBA w vr r) (hri:Q.zKi rs) (hs:∀ x∈rs,Q.Small x∧x.length<1000) (hsr:Q.Small r∧r.length<1000) (hn:rs.length<100000000) (hB:B≤w.heap.size) (hvr:∀ k,vr.ownBlock=some k→k≠g∧ov.ownBlock≠some k) :
  Calls Tryz.prog 60 #[.pointer (some ⟨g,0,none⟩),vr] w fun e w'=>e=.returned (.tuple #[])∧∃ ov' vs' fp',OutAt w' B g (Q.ins rs r) ov' vs' fp'∧OFrame w w' g ov ov' fp fp':=by
 have hi:=Q.ins_at (r:=r) rs
 by_cases h1:Q.posOf rs r<rs.length
 ·rw[dif_pos h1] at hi
  have e1:rs.getD (Q.posOf rs r) []=rs[Q.posOf rs r]:=by simp[h1]
  by_cases h2:Q.cmp rs[Q.posOf rs r] r=0
  ·rw[if_pos h2] at hi
   rw[hi]
   refine (zHe B g vr rs r w h.in_ hr hri hs hsr hn h1 (by rw[e1];exact h2)).mono ?_
   rintro e w' ⟨rfl,hb⟩
   exact⟨rfl,ov,vs,fp,h.below hb,OFrame.of_below hb h.lt⟩
  ·rw[if_neg h2] at hi
   rw[hi]
   exact zGF B g vr ov rs vs fp r w h hr hri hs hsr hn hB (fun _=>by rw[e1];exact h2) hvr
 ·rw[dif_neg h1] at hi
  have h3:Q.posOf rs r=rs.length:=by have:=Q.zKG rs r;omega
  have hi2:Q.ins rs r=rs.take (Q.posOf rs r)++r::rs.drop (Q.posOf rs r):=by rw[hi,h3];simp
  rw[hi2]
  exact zGF B g vr ov rs vs fp r w h hr hri hs hsr hn hB (fun h=>absurd h h1) hvr
theorem zIa {wx:World} {b:Nat} {t:TypeId} {u0 u1 u2 u3 s0 s1 s2 s3:Value} (h:wx.heap[b]?=some (.cells #[u0,u1,u2,u3] t (0,0))) :
  ((((wx.setCell ⟨b,0,none⟩ s0).setCell ⟨b,1,none⟩ s1).setCell ⟨b,2,none⟩ s2).setCell ⟨b,3,none⟩ s3).heap[b]?=some (.cells #[s0,s1,s2,s3] t (0,0))∧(∀ k,k≠b→((((wx.setCell ⟨b,0,none⟩ s0).setCell ⟨b,1,none⟩ s1).setCell ⟨b,2,none⟩ s2).setCell ⟨b,3,none⟩ s3).heap[k]?=wx.heap[k]?) ∧
   ∀ (w:World) (B:Nat),B≤b→Below B w wx→Below B w ((((wx.setCell ⟨b,0,none⟩ s0).setCell ⟨b,1,none⟩ s1).setCell ⟨b,2,none⟩ s2).setCell ⟨b,3,none⟩ s3):=by
 refine⟨?_,fun k hk=>?_,fun w B hB hb=>?_⟩
 ·have e0:=zAf h 0 s0
  have e1:=zAf e0 1 s1
  have e2:=zAf e1 2 s2
  have e3:=zAf e2 3 s3
  rw[e3];rfl
 ·rw[Below.heap_setCell _ _ _ _ hk,Below.heap_setCell _ _ _ _ hk,Below.heap_setCell _ _ _ _ hk,Below.heap_setCell _ _ _ _ hk]
 ·exact (((hb.setCell (p:=⟨b,0,none⟩) hB _).setCell (p:=⟨b,1,none⟩) hB _).setCell (p:=⟨b,2,none⟩) hB _).setCell (p:=⟨b,3,none⟩) hB _
theorem zBZ {w:World} {g:Nat} {a b c d:Value} {t:TypeId} (h:w.heap[g]?=some (.cells #[a,b,c,d] t (0,0))):w.cell? ⟨g,0,none⟩=some a∧w.cell? ⟨g,1,none⟩=some b∧w.cell? ⟨g,2,none⟩=some c∧w.cell? ⟨g,3,none⟩=some d∧(∀ j,w.frozen? ⟨g,j,none⟩=false)∧g<w.heap.size:=by
 refine⟨?_,?_,?_,?_,fun j=>?_,(Array.getElem?_eq_some_iff.1 h).1⟩<;>simp[World.cell?,World.frozen?,h]
def zHv (w w':World) (rs bs:List Int) (e:Ending):Prop:=∃ gr gb gd,e=.returned (.agg #[.slice (some ⟨gr,0,none⟩) rs.length rs.length,.slice (some ⟨gb,0,none⟩) bs.length bs.length,.slice (some ⟨gd,0,none⟩) bs.length bs.length,.bool false])∧zAp w' gr rs∧zAp w' gb bs∧zAp w' gd (Q.zeros bs.length)∧w.heap.size≤gr∧w.heap.size≤gb∧w.heap.size≤gd∧gr≠gd∧gb≠gd∧Below w.heap.size w w'
namespace Q
def ordTo (es:List Ev) (rs:List Int) (i q:Nat):Int:=1+(((List.range q).filter (ordB es rs i)).length:Nat)
theorem ordTo_succ (es:List Ev) (rs:List Int) (i q:Nat):ordTo es rs i (q+1)=ordTo es rs i q+if ordB es rs i q then 1 else 0:=by
 unfold ordTo;have:=filt_succ (ordB es rs i) q;omega
theorem ordTo_bd (es:List Ev) (rs:List Int) (i q:Nat):0≤ordTo es rs i q∧ordTo es rs i q≤q+1:=by
 unfold ordTo
 have:=List.length_filter_le (ordB es rs i) (List.range q)
 simp at this;omega
end Q
theorem zGb (ev rg v:Value) (es:List Q.Ev) (rs:List Int) (w:World) (he:zAW w ev es) (hrg:∃ a n c,rg=.slice a n c) (hv:zBA w v rs) (hl:rs.length=es.length) (hn:rs.length≤64) :
  Calls Tryz.prog 79 #[.agg #[ev,rg],v] w fun e w'=>zHv w w' rs (Q.zIp es rs) e:=by
 have hmk:∀ w,(Instr.makeSlice 31 (.int .i64 (rs.length:Int)) (.int .i64 (rs.length:Int))).run Tryz.prog w=.ok (.slice (some ⟨w.heap.size,0,none⟩) rs.length rs.length) (w.alloc (.cells (madeCells #[.int .i64 0] rs.length) 3)) :=
  fun w=>run_make_row' 31 3 (.int .i64 0) 8 Tryz.underlying31 Tryz.infoInt rfl .i64 .i64 rs.length (by omega) (by omega) w
 obtain⟨ea,ec,rfl,hea⟩:=he.form
 obtain⟨va,vc,rfl,hva⟩:=hv.form
 obtain⟨ra,rn,rc,rfl⟩:=hrg
 rw[← hl] at hea
 have hle1:rs.length≤es.length:=by omega
 have hle2:es.length≤rs.length:=by omega
 clear hl
 have HBS:Hid (Q.zIp es rs=(List.range rs.length).map (Q.zIS es rs)):=rfl
 have HBL:Hid ((Q.zIp es rs).length=rs.length):=by simp[Hid,Q.zIp]
 obtain⟨k0,k1,hsz,hbw⟩:=zBM w #[.slice ea es.length ec,.slice ra rn rc] #[.slice none 0 0,.slice none 0 0,.slice none 0 0,.bool false] 61 108
 have HE0:=zAa he
 have HV0:=zAa (hv.below hbw)
 have BW0:=zAa hbw
 clear hbw he hv
 go_enter Tryz.func79,Tryz.ntmps79
 go_upto_region 1 with fail
 generalize hE:(w.alloc (.cells #[.slice ea es.length ec,.slice ra rn rc] 61)).alloc (.cells #[.slice none 0 0,.slice none 0 0,.slice none 0 0,.bool false] 108)=W0 at *
 have c00:=ceL k0 0 _ rfl
 have l0:w.heap.size<W0.heap.size:=by omega
 have l1:w.heap.size+1<W0.heap.size:=by omega
 have K1:=zAa k1
 have HM0:Hid (zAp (W0.alloc (.cells (madeCells #[.int .i64 0] rs.length) 3)) W0.heap.size (Q.mixI (Q.zIS es rs) rs.length 0)):=by
  unfold Hid zAp;rw[Q.zJL,← zBX];exact heap_alloc_new W0 _
 have HB0:Hid (Below W0.heap.size W0 (W0.alloc (.cells (madeCells #[.int .i64 0] rs.length) 3))):=(Below.refl _ _).alloc (Nat.le_refl _) _
 have hszl:w.heap.size+2≤W0.heap.size:=by omega
 clear hE k0 k1 hsz
 go_wp2
 go_loopw [14] (fun j wr=>∃ (k:Nat),k≤rs.length∧j=.int .i64 k∧Hid (zAp wr W0.heap.size (Q.mixI (Q.zIS es rs) rs.length k))∧Hid (Below W0.heap.size W0 wr)) (fun j _=>rs.length-(intOf j).toNat)
 case atStart=>exact⟨0,Nat.zero_le _,rfl,HM0,HB0⟩
 case round =>
  obtain⟨k,hk,rfl,HI,HBL2⟩:=hrel
  by_cases hlt:k<rs.length
  ·have hin:(k:Int)<(rs.length:Int):=by omega
   obtain⟨be,rfl,hbe⟩:=hea (by omega)
   obtain⟨gv,rfl,hgv,hcv⟩:=hva (by omega)
   have hbeW:be<W0.heap.size:=by omega
   have hgvW:gv<W0.heap.size:=by omega
   have HCV:Hid (∀ q (hq:q<rs.length),W0.cell? ⟨gv,q,none⟩=some (.int .i64 (rs.getD q (-1)))):=fun q hq=>by rw[zAH rs q hq];exact (BW0.out.cell (p:=⟨gv,q,none⟩) hgv).trans (hcv q hq)
   have ck:wr.cell? ⟨gv,k,none⟩=some (.int .i64 (rs.getD k (-1))):=(HBL2.out.cell (p:=⟨gv,k,none⟩) hgvW).trans (HCV.out k hlt)
   have lv:=Nat.lt_of_lt_of_le hgvW HBL2.out.size
   have lp:=HI.out.lt
   have cp:=HI.out.cellD k (by rw[Q.zJC];exact hlt)
   have fp:=HI.out.free k
   have hlen:k<(Q.mixI (Q.zIS es rs) rs.length k).length:=by rw[Q.zJC];exact hlt
   have HI1:=zAa (HI.out.set k 1)
   have HMS:=zAa (Q.zKf (Q.zIS es rs) rs.length k hlt)
   have HOB:Hid (Q.zIS es rs k=Q.ordTo es rs k k):=rfl
   have HOZ:Hid (Q.ordTo es rs k 0=1):=rfl
   have HOP:Hid (∀ q,Q.ordB es rs k q=(rs.getD k (-1) != -1&&rs.getD q (-1)==rs.getD k (-1)&&(Q.ev es q).thread != -1)):=fun q=>rfl
   have HB1:Hid (Below W0.heap.size W0 (wr.setCell ⟨W0.heap.size,k,none⟩ (.int .i64 1))):=HBL2.out.setCell (p:=⟨W0.heap.size,k,none⟩) (Nat.le_refl _) _
   generalize hrow:rs.getD k (-1)=row at *
   generalize hpk:(Q.mixI (Q.zIS es rs) rs.length k).getD k 0=pk0 at *
   generalize hMM:Q.mixI (Q.zIS es rs) rs.length k=MM at *
   go_wp2
   go_loopw [8] (fun j wq=>∃ (q:Nat),q≤k∧j=.int .i64 q∧Hid (zAp wq W0.heap.size (MM.set k (Q.ordTo es rs k q)))∧Hid (Below W0.heap.size W0 wq)) (fun j _=>k-(intOf j).toNat)
   case atStart=>exact⟨0,Nat.zero_le _,rfl,by rw[HOZ.out];exact HI1,HB1⟩
   case round =>
    clear ck lv lp cp fp HI1 HB1
    obtain⟨q,hq,rfl,HJ,HBQ⟩:=hrel
    have d00:=cfL HBQ.out l0 c00
    have l0w:=Nat.lt_of_lt_of_le l0 HBQ.out.size
    by_cases hql:q<k
    ·have hqi:(q:Int)<(k:Int):=by omega
     have hqe:(q:Int)<(es.length:Int):=by omega
     have hqr:(q:Int)<(rs.length:Int):=by omega
     have hqn:q<rs.length:=by omega
     have cq:wr.cell? ⟨gv,q,none⟩=some (.int .i64 (rs.getD q (-1))):=(HBQ.out.cell (p:=⟨gv,q,none⟩) hgvW).trans (HCV.out q hqn)
     have lv:=Nat.lt_of_lt_of_le hgvW HBQ.out.size
     have le:=Nat.lt_of_lt_of_le hbeW HBQ.out.size
     have HRG:Hid (wr.rangeAt be (q*10) (zAb (Q.ev es q)).toList):=zAz (HE0.out.range' rfl q (by omega)) ((HBQ.out.block be hbeW).trans (BW0.out.block be hbe))
     have ct:=HRG.out 1 (.int .i64 (Q.ev es q).thread) rfl
     have hlq:k<(MM.set k (Q.ordTo es rs k q)).length:=by rw[List.length_set];exact hlen
     have ck:=HJ.out.cellD k hlq
     rw[Q.getD_set_eq _ _ _ hlen] at ck
     have fk:=HJ.out.free k
     have lk:=HJ.out.lt
     have HS:=zAa (Q.ordTo_succ es rs k q)
     have HOQ:=zAa (HOP.out q)
     have hbd:=Q.ordTo_bd es rs k q
     have HJ1:=zAa (HJ.out.set k (Q.ordTo es rs k q+1))
     rw[List.set_set] at HJ1
     generalize rs.getD q (-1)=x at *
     generalize (Q.ev es q).thread=th at *
     generalize hoo:Q.ordTo es rs k q=oo at *
     cases z1:(row != -1)
     ·have HN:Hid (Q.ordTo es rs k (q+1)=oo):=by unfold Hid;rw[HS.out,HOQ.out,z1];simp
      go_wp2
      go_roundw
      case rel=>exact⟨q+1,by omega,by go_num,by rw[HN.out];exact HJ,HBQ⟩
      case measure=>simp[intOf];omega
     cases z2:(x==row)
     ·have HN:Hid (Q.ordTo es rs k (q+1)=oo):=by unfold Hid;rw[HS.out,HOQ.out,z1,z2];simp
      go_wp2
      go_roundw
      case rel=>exact⟨q+1,by omega,by go_num,by rw[HN.out];exact HJ,HBQ⟩
      case measure=>simp[intOf];omega
     cases z3:(th != -1)
     ·have HN:Hid (Q.ordTo es rs k (q+1)=oo):=by unfold Hid;rw[HS.out,HOQ.out,z1,z2,z3];simp
      go_wp2
      go_roundw
      case rel=>exact⟨q+1,by omega,by go_num,by rw[HN.out];exact HJ,HBQ⟩
      case measure=>simp[intOf];omega
     ·have HN:Hid (Q.ordTo es rs k (q+1)=oo+1):=by unfold Hid;rw[HS.out,HOQ.out,z1,z2,z3];simp
      go_wp2
      go_roundw
      case rel=>exact⟨q+1,by omega,by go_num,by rw[HN.out];exact HJ1,HBQ.out.setCell (p:=⟨W0.heap.size,k,none⟩) (Nat.le_refl _) _⟩
      case measure=>simp[intOf];omega
    ·have hqk:q=k:=by omega
     have HN2:Hid (zAp wr W0.heap.size (Q.mixI (Q.zIS es rs) rs.length (k+1))):=by
      have h1:=HJ.out
      rw[hqk,← HOB.out] at h1
      unfold Hid;rw[← HMS.out];exact h1
     have hdd:decide ((q:Int)<(k:Int))=false:=decide_eq_false (by omega)
     go_wp2
     go_roundw
     case rel=>exact⟨k+1,by omega,by go_num,HN2,HBQ⟩
     case measure=>simp[intOf];omega
  ·have hkn:k=rs.length:=by omega
   have HF:Hid (zAp wr W0.heap.size (Q.zIp es rs)):=by
    have h1:=HI.out
    rw[hkn,Q.zJM] at h1
    exact h1
   have HV1:=zAa (HV0.out.below HBL2.out)
   clear HI hea hva
   go_wp2_with (first
    | (go_at_call 66;refine (zBQ _ (Q.zIp es rs) _ (by have h1:=(HF.out.below hb1).rowI rs.length (by rw[HBL.out];exact Nat.le_refl _);rw[HBL.out] at h1;exact h1) (by rw[HBL.out];omega)).mono ?_;rintro e w2 ⟨v1,v2,v3,rfl,⟨gb,gd,rfl,rfl,rfl,hib,hid,hgb,hgd,hne⟩,hb2⟩;have B2:Hid (Below W0.heap.size W0 w2):=zAn (zAn HBL2.out (Nat.le_refl _) hb1) (Nat.le_refl _) hb2;have K2:=zAa ((B2.out.block _ l1).trans K1.out);obtain⟨t0,t1,t2,t3,tf,tl⟩:=zBZ K2.out;have IB:=zAa hib;have ID:=zAa hid;have IR:=zAa (hi1.below hb2))
    | (go_at_call 88;refine (zCp _ rs _ HV1.out (by omega)).mono ?_;rintro e w1 ⟨g1,rfl,hi1,hge1,hb1⟩))
   obtain⟨s0,s1,s2⟩:=zIa (s0:=.slice (some ⟨g1,0,none⟩) rs.length rs.length) (s1:=.slice (some ⟨gb,0,none⟩) (Q.zIp es rs).length (Q.zIp es rs).length) (s2:=.slice (some ⟨gd,0,none⟩) (Q.zIp es rs).length (Q.zIp es rs).length) (s3:=.bool false) K2.out
   have hws:=HBL2.out.size
   have hw1:=hb1.size
   have hg1:=hi1.lt
   refine zBd (p:=4) (w.heap.size+1) _ (by kernel_rfl) Tryz.underlying108 rfl (by kernel_rfl) rfl (by exact s0) rfl ⟨g1,gb,gd,rfl,IR.out.of_block (s1 _ (by omega)),IB.out.of_block (s1 _ (by omega)),ID.out.of_block (s1 _ (by omega)),by omega,by omega,by omega,by omega,hne,s2 _ _ (by omega) (zAn BW0.out (Nat.le_refl _) B2.out)⟩
namespace Q
def mayTo (es:List Ev) (i k:Nat):List Int:=((List.range k).filter (mayR es i)).map fun k:Nat=>(k:Int)
theorem mayTo_succ (es:List Ev) (i k:Nat):mayTo es i (k+1)=mayTo es i k++if mayR es i k then [(k:Int)] else []:=by
 unfold mayTo
 rw[List.range_succ,List.filter_append,List.map_append]
 congr 1
 cases h:mayR es i k<;>simp[List.filter,h]
theorem zKj (es:List Ev) (i k:Nat):(mayTo es i k).length≤k:=by
 unfold mayTo
 rw[List.length_map]
 have:=List.length_filter_le (mayR es i) (List.range k)
 simpa using this
end Q
theorem zAQ.grownT {w w':World} {g:Nat} {e:Q.Ev} {u:Value} {B n sz:Nat} {t:TypeId} {xs:List Value} (h:zAQ w g e) (ho:w.ownsRow B t sz u n xs) (ht:t≠129) (hg:w.grownBy w' u.ownBlock):zAQ w' g e:=by
 have h2:=h.lt
 unfold zAQ at *
 rw[hg.block g h2 (fun e=>by
  rcases ho.2 with ⟨e1,_⟩ | ⟨g',cap,cur,e1,_,hh,_⟩
  ·rw[e1] at e;simp[Value.ownBlock] at e
  ·rw[e1] at e;simp[Value.ownBlock] at e
   subst e
   rw[h] at hh;simp at hh;exact ht hh.2.symm)]
 exact h
theorem zFc (ev rg:Value) (es:List Q.Ev) (i:Nat) (w:World) (he:zAW w ev es) (hrg:∃ a n c,rg=.slice a n c) (hi:i<es.length) (hn:es.length≤64) :
  Calls Tryz.prog 106 #[.agg #[ev,rg],.int .i64 (i:Int)] w fun e w'=>∃ v,e=.returned v∧zBA w' v (Q.zJk es i)∧(∀ k,v.ownBlock=some k→w.heap.size≤k)∧Below w.heap.size w w':=by
 obtain⟨i0,hi0,hz0,hz1,hz2⟩:=info_parts Tryz.infoIntM
 obtain⟨ea,ec,rfl,hea⟩:=he.form
 obtain⟨ra,rn,rc,rfl⟩:=hrg
 obtain⟨be,rfl,hbe⟩:=hea (by omega)
 obtain⟨k0,hsz,hbw⟩:=zBt w #[.slice (some ⟨be,0,none⟩) es.length ec,.slice ra rn rc] 61
 have HE0:=zAa he
 have BW0:=zAa hbw
 have HR0:Hid (∀ W:World,Below w.heap.size w W→∀ k,k<es.length→W.rangeAt be (k*10) (zAb (Q.ev es k)).toList):=fun W hb k hk=>zAz (HE0.out.range' rfl k hk) (hb.block be hbe)
 have hil:(i:Int)<(es.length:Int):=by omega
 have HMR:Hid (Q.zJk es i=if (Q.ev es i).kind==0 then Q.mayTo es i es.length else [-1]):=rfl
 have HMB:Hid (∀ k,Q.mayR es i k=((Q.ev es k).kind==1&&(Q.ev es k).var==(Q.ev es i).var&&(Q.ev es k).value==(Q.ev es i).value&&!((Q.ev es i).step&&k==i+1))):=fun _=>rfl
 clear hbw he hea
 go_enter Tryz.func106,Tryz.ntmps106
 go_upto_region 1 with fail
 generalize hE:w.alloc (.cells #[.slice (some ⟨be,0,none⟩) es.length ec,.slice ra rn rc] 61)=W0 at *
 have c00:=ceL k0 0 _ rfl
 have l0:w.heap.size<W0.heap.size:=by omega
 have lbe:be<W0.heap.size:=by omega
 have HRI:=zAa (HR0.out W0 BW0.out i hi)
 have ck:=HRI.out 0 (.int .i64 (Q.ev es i).kind) rfl
 have hd0:decide ((i:Int)<0)=false:=decide_eq_false (by omega)
 have hd1:decide ((es.length:Int)≤(i:Int))=false:=decide_eq_false (by omega)
 clear hE k0 hsz
 have hzz:((Q.ev es i).kind != 0)=!((Q.ev es i).kind==0):=rfl
 generalize hei:Q.ev es i=ei at *
 simp only[Nat.add_zero] at ck
 cases z0:(ei.kind==0)
 ·rw[z0] at hzz
  have HV:Hid (Q.zJk es i=[-1]):=by unfold Hid;rw[HMR.out,z0];rfl
  go_wp2
  go_ret
  refine⟨_,rfl,?_,fun k hk=>by simp[Value.ownBlock] at hk;omega,BW0.out.alloc (by have:=BW0.out.size;omega) _⟩
  rw[HV.out]
  refine Or.inr ⟨W0.heap.size,1,rfl,fun j hj=>?_,by simp⟩
  have hj0:j=0:=by simp at hj;omega
  subst hj0
  have h1:=heap_alloc_new W0 (.cells #[.int .i64 (-1)] 3)
  simp only[World.cell?,h1];rfl
 ·rw[z0] at hzz
  have HV:Hid (Q.zJk es i=Q.mayTo es i es.length):=by unfold Hid;rw[HMR.out,z0];rfl
  have HA0:Hid (zAQ (W0.alloc (.cells (zAb ei) 129)) W0.heap.size ei):=zAQ.new W0 ei
  have HB0:Hid (Below W0.heap.size W0 (W0.alloc (.cells (zAb ei) 129))):=(Below.refl _ _).alloc (Nat.le_refl _) _
  go_wp2_with (first | (refine zAg (.tmp 32) rfl rfl be (i*10) ei rfl HRI.out ?_))
  go_loopw [6,37] (fun a j wr=>∃ (k:Nat) (v:Value),k≤es.length∧j=.int .i64 k∧a=v∧Hid (wr.ownsRow W0.heap.size 3 1 v (Q.mayTo es i k).length ((Q.mayTo es i k).map (Value.int .i64)))∧Hid (Below W0.heap.size W0 wr)∧Hid (zAQ wr W0.heap.size ei)) (fun _ j _=>es.length-(intOf j).toNat)
  case atStart=>exact⟨0,_,Nat.zero_le _,rfl,rfl,by simpa [Hid,Q.mayTo] using World.ownsRow_nil _ _ _ _,HB0,HA0⟩
  case round =>
   clear HA0 HB0
   obtain⟨k,v,hk,rfl,hav,HO,HB,HA⟩:=hrel
   have hav:=hav.symm
   subst hav
   have hform:∃ a c,v=.slice a (Q.mayTo es i k).length c:=by
    rcases HO.out.2 with ⟨e,h0⟩ | ⟨g',c,cur,e,_⟩
    ·exact⟨none,0,by rw[e,h0]⟩
    ·exact⟨_,c,e⟩
   obtain⟨va,vc,rfl⟩:=hform
   by_cases hlt:k<es.length
   ·have hin:(k:Int)<(es.length:Int):=by omega
    have HRK:=zAa (HR0.out wr (zAn BW0.out (Nat.le_refl _) HB.out) k hlt)
    have lb:=Nat.lt_of_lt_of_le lbe HB.out.size
    have HS:=zAa (Q.mayTo_succ es i k)
    have HMK:=zAa (HMB.out k)
    rw[HMK.out] at HS
    have hml:=Q.zKj es i k
    generalize Q.ev es k=e1 at *
    have HB1:Hid (Below W0.heap.size W0 (wr.alloc (.cells (zAb e1) 129))):=HB.out.alloc HB.out.size _
    have HA1:=zAa (HA.out.alloc (.cells (zAb e1) 129))
    have HO1:Hid ((wr.alloc (.cells (zAb e1) 129)).ownsRow W0.heap.size 3 1 (.slice va (Q.mayTo es i k).length vc) (Q.mayTo es i k).length ((Q.mayTo es i k).map (Value.int .i64))):=zAc HO.out (fun y e=>Below.heap_alloc _ _ _ (HO.out.lt y e).2)
    obtain⟨x0,x1,x2,x3,x4,x5,x6,x7,x8,x9,xf,xl⟩:=HA1.out.facts
    clear x0 x1 x2 x5 x6 x7 x9
    simp only[zAb] at x3 x4 x8 xf xl
    have hkk:((k:Int)==(i:Int)+1)=(k==i+1):=by
     by_cases h:k=i+1
     ·have h':(k:Int)=(i:Int)+1:=by omega
      rw[beq_iff_eq.2 h',beq_iff_eq.2 h]
     ·have h':¬ ((k:Int)=(i:Int)+1):=by omega
      rw[beq_eq_false_iff_ne.2 h',beq_eq_false_iff_ne.2 h]
    have HNO:Hid (∀ b:Bool,b=false→Q.mayTo es i (k+1)=Q.mayTo es i k++(if b then [(k:Int)] else [])→Q.mayTo es i (k+1)=Q.mayTo es i k):=fun b hb h=>by rw[h,hb];simp
    generalize hstp:ei.step=sp at *
    clear hstp
    cases sp
    ·skip
     cases z1:(e1.kind==1)
     ·have HN:Hid (Q.mayTo es i (k+1)=Q.mayTo es i k):=HNO.out _ (by simp[z1]) HS.out
      go_wp2_with (first | (refine zAg (.tmp 40) rfl rfl be (k*10) e1 rfl HRK.out ?_))
      go_roundw
      case rel=>exact⟨k+1,_,by omega,by go_num,rfl,by rw[HN.out];exact HO1,HB1,HA1⟩
      case measure=>simp[intOf];omega
     cases z2:(e1.var==ei.var)
     ·have HN:Hid (Q.mayTo es i (k+1)=Q.mayTo es i k):=HNO.out _ (by simp[z1,z2]) HS.out
      go_wp2_with (first | (refine zAg (.tmp 40) rfl rfl be (k*10) e1 rfl HRK.out ?_))
      go_roundw
      case rel=>exact⟨k+1,_,by omega,by go_num,rfl,by rw[HN.out];exact HO1,HB1,HA1⟩
      case measure=>simp[intOf];omega
     cases z3:(e1.value==ei.value)
     ·have HN:Hid (Q.mayTo es i (k+1)=Q.mayTo es i k):=HNO.out _ (by simp[z1,z2,z3]) HS.out
      go_wp2_with (first | (refine zAg (.tmp 40) rfl rfl be (k*10) e1 rfl HRK.out ?_))
      go_roundw
      case rel=>exact⟨k+1,_,by omega,by go_num,rfl,by rw[HN.out];exact HO1,HB1,HA1⟩
      case measure=>simp[intOf];omega
     ·have HN:Hid (Q.mayTo es i (k+1)=Q.mayTo es i k++[(k:Int)]):=by unfold Hid;rw[HS.out];simp[z1,z2,z3]
      have hwl:W0.heap.size≤wr.heap.size:=HB.out.size
      have BA:Below (wr.alloc (.cells (zAb e1) 129)).heap.size (wr.alloc (.cells (zAb e1) 129)) ((wr.alloc (.cells (zAb e1) 129)).alloc (.cells #[.int .i64 (k:Int)] 3)):=(Below.refl _ _).alloc (Nat.le_refl _) _
      have HO2:Hid (((wr.alloc (.cells (zAb e1) 129)).alloc (.cells #[.int .i64 (k:Int)] 3)).ownsRow W0.heap.size 3 1 (.slice va (Q.mayTo es i k).length vc) (Q.mayTo es i k).length ((Q.mayTo es i k).map (Value.int .i64))):=zAc HO1.out (fun y e=>BA.block y (HO1.out.lt y e).2)
      have HN2:Hid (∀ j u,[Value.int .i64 (k:Int)][j]?=some u→((wr.alloc (.cells (zAb e1) 129)).alloc (.cells #[.int .i64 (k:Int)] 3)).cell? ((⟨wr.heap.size+1,0,none⟩:Addr).add j)=some u):=World.news_of_block (cs:=#[.int .i64 (k:Int)]) (t:=3) (fr:=(0,0)) (by have:=heap_alloc_new (wr.alloc (.cells (zAb e1) 129)) (.cells #[.int .i64 (k:Int)] 3);simpa using this)
      have HB2:Hid (Below W0.heap.size W0 ((wr.alloc (.cells (zAb e1) 129)).alloc (.cells #[.int .i64 (k:Int)] 3))):=HB1.out.alloc (by simp;omega) _
      have HA2:=zAa (HA1.out.below BA)
      clear BA
      go_wp2_with (first | (refine zAg (.tmp 40) rfl rfl be (k*10) e1 rfl HRK.out ?_) | (at_builtin;refine wpList_append_lies _ rfl (.tmp 71) (.tmp 73) 31 rfl W0.heap.size 3 i0 (.int .i64 0) 1 8 Tryz.underlying31 hi0 hz0 hz1 hz2 rfl (by decide) _ (Q.mayTo es i k).length ((Q.mayTo es i k).map (Value.int .i64)) rfl (by exact HO2.out) ⟨wr.heap.size+1,0,none⟩ 1 1 [.int .i64 (k:Int)] rfl rfl (by exact HN2.out) (by simp[Value.oneCell']) (by decide) (by unfold maxLen;omega) (by omega) (by simp;omega) _ rfl ?_;intro gn cn w5 hown5 hgrow5 hat5 hlt5))
      have HB5:Hid (Below W0.heap.size W0 w5):=HB2.out.trans ⟨hgrow5.os,hgrow5.tape,hgrow5.output,hgrow5.size,fun y hy=>hgrow5.block y (by simp;omega) (fun e=>by have:=(HO2.out.lt y e.symm).1;omega)⟩
      have HA5:=zAa (HA2.out.grownT HO2.out (by decide) hgrow5)
      have HO5:Hid (w5.ownsRow W0.heap.size 3 1 (.slice (some ⟨gn,0,none⟩) ((Q.mayTo es i k).length+1) cn) (Q.mayTo es i (k+1)).length ((Q.mayTo es i (k+1)).map (Value.int .i64))):=by
       unfold Hid;rw[HN.out,List.map_append,List.length_append];exact hown5
      clear hown5 hgrow5
      go_roundw
      case rel=>exact⟨k+1,_,by omega,by go_num,rfl,HO5,HB5,HA5⟩
      case measure=>simp[intOf];omega
    cases z5:(k==i+1)
    ·rw[z5] at hkk
     cases z1:(e1.kind==1)
     ·have HN:Hid (Q.mayTo es i (k+1)=Q.mayTo es i k):=HNO.out _ (by simp[z1,z5]) HS.out
      go_wp2_with (first | (refine zAg (.tmp 40) rfl rfl be (k*10) e1 rfl HRK.out ?_))
      go_roundw
      case rel=>exact⟨k+1,_,by omega,by go_num,rfl,by rw[HN.out];exact HO1,HB1,HA1⟩
      case measure=>simp[intOf];omega
     cases z2:(e1.var==ei.var)
     ·have HN:Hid (Q.mayTo es i (k+1)=Q.mayTo es i k):=HNO.out _ (by simp[z1,z2,z5]) HS.out
      go_wp2_with (first | (refine zAg (.tmp 40) rfl rfl be (k*10) e1 rfl HRK.out ?_))
      go_roundw
      case rel=>exact⟨k+1,_,by omega,by go_num,rfl,by rw[HN.out];exact HO1,HB1,HA1⟩
      case measure=>simp[intOf];omega
     cases z3:(e1.value==ei.value)
     ·have HN:Hid (Q.mayTo es i (k+1)=Q.mayTo es i k):=HNO.out _ (by simp[z1,z2,z3,z5]) HS.out
      go_wp2_with (first | (refine zAg (.tmp 40) rfl rfl be (k*10) e1 rfl HRK.out ?_))
      go_roundw
      case rel=>exact⟨k+1,_,by omega,by go_num,rfl,by rw[HN.out];exact HO1,HB1,HA1⟩
      case measure=>simp[intOf];omega
     ·have HN:Hid (Q.mayTo es i (k+1)=Q.mayTo es i k++[(k:Int)]):=by unfold Hid;rw[HS.out];simp[z1,z2,z3,z5]
      have hwl:W0.heap.size≤wr.heap.size:=HB.out.size
      have BA:Below (wr.alloc (.cells (zAb e1) 129)).heap.size (wr.alloc (.cells (zAb e1) 129)) ((wr.alloc (.cells (zAb e1) 129)).alloc (.cells #[.int .i64 (k:Int)] 3)):=(Below.refl _ _).alloc (Nat.le_refl _) _
      have HO2:Hid (((wr.alloc (.cells (zAb e1) 129)).alloc (.cells #[.int .i64 (k:Int)] 3)).ownsRow W0.heap.size 3 1 (.slice va (Q.mayTo es i k).length vc) (Q.mayTo es i k).length ((Q.mayTo es i k).map (Value.int .i64))):=zAc HO1.out (fun y e=>BA.block y (HO1.out.lt y e).2)
      have HN2:Hid (∀ j u,[Value.int .i64 (k:Int)][j]?=some u→((wr.alloc (.cells (zAb e1) 129)).alloc (.cells #[.int .i64 (k:Int)] 3)).cell? ((⟨wr.heap.size+1,0,none⟩:Addr).add j)=some u):=World.news_of_block (cs:=#[.int .i64 (k:Int)]) (t:=3) (fr:=(0,0)) (by have:=heap_alloc_new (wr.alloc (.cells (zAb e1) 129)) (.cells #[.int .i64 (k:Int)] 3);simpa using this)
      have HB2:Hid (Below W0.heap.size W0 ((wr.alloc (.cells (zAb e1) 129)).alloc (.cells #[.int .i64 (k:Int)] 3))):=HB1.out.alloc (by simp;omega) _
      have HA2:=zAa (HA1.out.below BA)
      clear BA
      go_wp2_with (first | (refine zAg (.tmp 40) rfl rfl be (k*10) e1 rfl HRK.out ?_) | (at_builtin;refine wpList_append_lies _ rfl (.tmp 71) (.tmp 73) 31 rfl W0.heap.size 3 i0 (.int .i64 0) 1 8 Tryz.underlying31 hi0 hz0 hz1 hz2 rfl (by decide) _ (Q.mayTo es i k).length ((Q.mayTo es i k).map (Value.int .i64)) rfl (by exact HO2.out) ⟨wr.heap.size+1,0,none⟩ 1 1 [.int .i64 (k:Int)] rfl rfl (by exact HN2.out) (by simp[Value.oneCell']) (by decide) (by unfold maxLen;omega) (by omega) (by simp;omega) _ rfl ?_;intro gn cn w5 hown5 hgrow5 hat5 hlt5))
      have HB5:Hid (Below W0.heap.size W0 w5):=HB2.out.trans ⟨hgrow5.os,hgrow5.tape,hgrow5.output,hgrow5.size,fun y hy=>hgrow5.block y (by simp;omega) (fun e=>by have:=(HO2.out.lt y e.symm).1;omega)⟩
      have HA5:=zAa (HA2.out.grownT HO2.out (by decide) hgrow5)
      have HO5:Hid (w5.ownsRow W0.heap.size 3 1 (.slice (some ⟨gn,0,none⟩) ((Q.mayTo es i k).length+1) cn) (Q.mayTo es i (k+1)).length ((Q.mayTo es i (k+1)).map (Value.int .i64))):=by
       unfold Hid;rw[HN.out,List.map_append,List.length_append];exact hown5
      clear hown5 hgrow5
      go_roundw
      case rel=>exact⟨k+1,_,by omega,by go_num,rfl,HO5,HB5,HA5⟩
      case measure=>simp[intOf];omega
    ·rw[z5] at hkk
     cases z1:(e1.kind==1)
     ·have HN:Hid (Q.mayTo es i (k+1)=Q.mayTo es i k):=HNO.out _ (by simp[z1,z5]) HS.out
      go_wp2_with (first | (refine zAg (.tmp 40) rfl rfl be (k*10) e1 rfl HRK.out ?_))
      go_roundw
      case rel=>exact⟨k+1,_,by omega,by go_num,rfl,by rw[HN.out];exact HO1,HB1,HA1⟩
      case measure=>simp[intOf];omega
     cases z2:(e1.var==ei.var)
     ·have HN:Hid (Q.mayTo es i (k+1)=Q.mayTo es i k):=HNO.out _ (by simp[z1,z2,z5]) HS.out
      go_wp2_with (first | (refine zAg (.tmp 40) rfl rfl be (k*10) e1 rfl HRK.out ?_))
      go_roundw
      case rel=>exact⟨k+1,_,by omega,by go_num,rfl,by rw[HN.out];exact HO1,HB1,HA1⟩
      case measure=>simp[intOf];omega
     cases z3:(e1.value==ei.value)
     ·have HN:Hid (Q.mayTo es i (k+1)=Q.mayTo es i k):=HNO.out _ (by simp[z1,z2,z3,z5]) HS.out
      go_wp2_with (first | (refine zAg (.tmp 40) rfl rfl be (k*10) e1 rfl HRK.out ?_))
      go_roundw
      case rel=>exact⟨k+1,_,by omega,by go_num,rfl,by rw[HN.out];exact HO1,HB1,HA1⟩
      case measure=>simp[intOf];omega
     ·have HN:Hid (Q.mayTo es i (k+1)=Q.mayTo es i k):=HNO.out _ (by simp[z1,z2,z3,z5]) HS.out
      go_wp2_with (first | (refine zAg (.tmp 40) rfl rfl be (k*10) e1 rfl HRK.out ?_))
      go_roundw
      case rel=>exact⟨k+1,_,by omega,by go_num,rfl,by rw[HN.out];exact HO1,HB1,HA1⟩
      case measure=>simp[intOf];omega
   ·have hkn:k=es.length:=by omega
    go_wp2
    go_ret
    refine⟨_,rfl,?_,fun y hy=>by have:=(HO.out.lt y hy).1;omega,zAn BW0.out (Nat.le_refl _) HB.out⟩
    rw[HV.out,← hkn]
    exact zCr HO.out rfl
end Go.Proofs.YtkmebkbpfmoeaaaGreat
