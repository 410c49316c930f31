import Derived.Test.YtkmebkbpfmoeaaaGreatE19
set_option linter.unusedVariables false
set_option linter.unusedSimpArgs false
set_option maxHeartbeats 12800000
namespace Go.Proofs.YtkmebkbpfmoeaaaGreat
open Go Go.RowKit
set_option maxRecDepth 100000
theorem zGE {w:World} {B g n cap i:Nat} {t:TypeId} {xs:List Value} {u:Value} (h:w.ownsRow B t 1 (.slice (some ⟨g,0,none⟩) n cap) n xs) (hi:i<n):(w.setCell ⟨g,i,none⟩ u).ownsRow B t 1 (.slice (some ⟨g,0,none⟩) n cap) n (xs.set i u):=by
 refine⟨by rw[List.length_set];exact h.1,?_⟩
 rcases h.2 with ⟨e,_⟩ | ⟨g',cap',cur,e,hB,hh,h1,h2,h3,h4⟩
 ·simp at e
 ·simp only[Value.slice.injEq,Option.some.injEq,Addr.mk.injEq] at e
  obtain⟨⟨rfl,_⟩,_,rfl⟩:=e
  refine Or.inr ⟨g,cap,cur.setIfInBounds i u,rfl,hB,zAf hh i u,h1,h2,by simpa using h3,?_⟩
  rw[← h4]
  simp[List.take_set]
theorem zDm {w:World} {B g n cap i:Nat} {t:TypeId} {xs:List Value} (h:w.ownsRow B t 1 (.slice (some ⟨g,0,none⟩) n cap) n xs) (hi:i<xs.length):w.cell? ⟨g,i,none⟩=some xs[i]:=by
 rw[h.cellAt i (by have:=h.1;omega),List.getElem?_eq_getElem hi]
theorem zFE {w:World} {B g n cap:Nat} {t:TypeId} {xs:List Value} (h:w.ownsRow B t 1 (.slice (some ⟨g,0,none⟩) n cap) n xs) (i:Nat):w.frozen? ⟨g,i,none⟩=false:=by
 rcases h.2 with ⟨e,_⟩ | ⟨g',cap',cur,e,hB,hh,_⟩
 ·simp at e
 ·simp only[Value.slice.injEq,Option.some.injEq,Addr.mk.injEq] at e
  obtain⟨⟨rfl,_⟩,_⟩:=e
  simp[World.frozen?,hh]
structure OutAt (w:World) (B g:Nat) (rs:List (List Int)) (ov:Value) (vs:List Value) (fp:List Nat):Prop where
 cell:w.cell? ⟨g,0,none⟩=some ov
 lt:g<w.heap.size
 free:w.frozen? ⟨g,0,none⟩=false
 rows:RowsI w B ov rs vs
 ty:∃ c,w.heap[g]?=some (.cells c 58 (0,0))∨w.heap[g]?=some (.cells c 58 (0,0))
 fps:∀ u∈vs,∀ k,u.ownBlock=some k→k∈fp
 fpl:∀ k∈fp,k<w.heap.size
 dis:∀ k∈fp,k≠g∧ov.ownBlock≠some k
structure OFrame (w w':World) (g:Nat) (ov ov':Value) (fp fp':List Nat):Prop where
 os:w'.os=w.os
 tape:w'.tape=w.tape
 output:w'.output=w.output
 size:w.heap.size≤w'.heap.size
 block:∀ k,k<w.heap.size→k≠g→ov.ownBlock≠some k→w'.heap[k]?=w.heap[k]?
 own:ov'.ownBlock=ov.ownBlock∨∃ b,ov'.ownBlock=some b∧w.heap.size≤b
 fpn:∀ k∈fp',k∈fp∨w.heap.size≤k
 c1:w'.cell? ⟨g,1,none⟩=w.cell? ⟨g,1,none⟩
theorem zBF.own {w:World} {v:Value} {l:List Int} (h:zBF w v l) (w':World) (hk:∀ k,v.ownBlock=some k→w'.heap[k]?=w.heap[k]?) (hs:w.heap.size≤w'.heap.size):zBF w' v l:=by
 rcases h with h | ⟨g,cap,rfl,hc,hg⟩
 ·exact Or.inl h
 ·refine Or.inr ⟨g,cap,rfl,fun i hi=>?_,by omega⟩
  rw[World.cell?_of_block (w:=w) (a:=⟨g,i,none⟩) (hk g rfl)];exact hc i hi
namespace Q
theorem shift_get (vs:List Value) (i:Nat) (x:Value) (h0:0<i) (hi:i≤vs.length) (h:i-1<(vs.take i++x::vs.drop i).length):(vs.take i++x::vs.drop i)[i-1]=vs[i-1]'(by omega):=by
 rw[List.getElem_append_left (by simp;omega)];simp
theorem shift_set (vs:List Value) (i:Nat) (x:Value) (h0:0<i) (hi:i≤vs.length):(vs.take i++x::vs.drop i).set i (vs[i-1]'(by omega))=vs.take (i-1)++(vs[i-1]'(by omega))::vs.drop (i-1):=by
 obtain⟨j,rfl⟩:∃ j,i=j+1:=⟨i-1,by omega⟩
 have hj:j<vs.length:=by omega
 have e:j+1-(vs.take (j+1)).length=0:=by simp;omega
 rw[List.set_append_right _ _ (by simp;omega),e]
 simp only[List.set_cons_zero,Nat.add_sub_cancel]
 rw[List.drop_eq_getElem_cons hj,List.take_succ_eq_append_getElem hj,List.append_assoc];rfl
theorem shift_put (vs:List Value) (i:Nat) (x y:Value) (hi:i≤vs.length):(vs.take i++x::vs.drop i).set i y=vs.take i++y::vs.drop i:=by
 have e:i-(vs.take i).length=0:=by simp;omega
 rw[List.set_append_right _ _ (by simp;omega),e];rfl
end Q
theorem zGF (B g:Nat) (vr ov:Value) (rs:List (List Int)) (vs:List Value) (fp:List Nat) (r:List Int) (w:World) (h:OutAt w B g rs ov vs fp) (hr:zBF w vr r) (hri:Q.zKb rs) (hs:∀ x∈rs,Q.Small x∧x.length<1000) (hsr:Q.Small r∧r.length<1000) (hn:rs.length<100000000) (hB:B≤w.heap.size)
  (hc:Q.posOf rs r<rs.length→Q.cmp (rs.getD (Q.posOf rs r) []) r≠0) (hvr:∀ k,vr.ownBlock=some k→k≠g∧ov.ownBlock≠some k) :
  Calls Tryz.prog 60 #[.pointer (some ⟨g,0,none⟩),vr] w fun e w'=>e=.returned (.tuple #[])∧∃ ov' vs' fp',OutAt w' B g (rs.take (Q.posOf rs r)++r::rs.drop (Q.posOf rs r)) ov' vs' fp'∧OFrame w w' g ov ov' fp fp':=by
 obtain⟨i0,hi0,hz0,hz1,hz2⟩:=info_parts Tryz.infoRow
 have hv:=h.cell
 have hg:=h.lt
 have H:=zAa h
 obtain⟨xa,ca,rfl,hxa⟩:=h.rows.form
 obtain⟨ya,yc,rfl,_⟩:=hr.form
 have HRR:=zAa hr
 have HRI:=zAa hri
 have HS:=zAa hs
 have hpl:=Q.zKA rs r
 clear h hr hri hs
 generalize hpo:Q.posOf rs r=po at *
 have HPO:=zAa hpo
 clear hpo
 go_enter Tryz.func60,Tryz.ntmps60
 go_upto_region 1 with (first | (go_at_call 90;refine (zFA B g _ _ rs vs r _ hv hg H.out.rows HRR.out HRI.out HS.out hsr hn).mono ?_;rintro e w1 ⟨rfl,hb1⟩;rw[HPO.out]))
 have d0:=cfL hb1 hg hv
 have f0:=(hb1.frozen (p:=⟨g,0,none⟩) hg).trans H.out.free
 have lg:=Nat.lt_of_lt_of_le hg hb1.size
 have HB1:=zAa hb1
 clear hb1
 have hpv:po<rs.length→po<vs.length:=fun h=>by rw[H.out.rows.len];exact h
 go_cut [27] from 9 to 26 (fun s wx=>s=.bool false∧Hid (Below w.heap.size w wx))
 case first =>
  by_cases hp:po<rs.length
  ·have hpI:(po:Int)<(rs.length:Int):=by omega
   obtain⟨b,rfl,hbB,hb,hcs⟩:=hxa (by omega)
   have hpv':=hpv hp
   have cu:=(HB1.out.cell (p:=⟨b,po,none⟩) hb).trans (hcs po hpv')
   have lb:=Nat.lt_of_lt_of_le hb HB1.out.size
   have HRM:=zAa ((H.out.rows.rows po hp vs[po] (List.getElem?_eq_getElem hpv')).below HB1.out)
   have HRR1:=zAa (HRR.out.below HB1.out)
   have hsm:=HS.out rs[po] (List.getElem_mem hp)
   have hcne:=hc hp
   have e1:rs.getD po []=rs[po]:=by simp[hp]
   rw[e1] at hcne
   have hcb:(Q.cmp rs[po] r==0)=false:=by simpa using hcne
   clear e1 hcne hcs hc
   generalize vs[po]=u at *
   generalize rs[po]=y at *
   go_wp2_with (first | (go_at_call 91;refine (zCf _ _ y r _ HRM.out HRR1.out hsm.1 hsr.1 hsm.2 hsr.2).mono ?_;rintro e w2 ⟨rfl,hb2⟩))
   go_meet
   case rel=>exact⟨rfl,zAo HB1.out (Nat.le_refl _) hb2⟩
  ·have hpI:decide ((po:Int)<(rs.length:Int))=false:=decide_eq_false (by omega)
   go_wp2
   go_meet
   case rel=>exact⟨rfl,HB1⟩
 case rest =>
  obtain⟨rfl,HBC⟩:=hcut
  clear d0 f0 lg HB1 hc
  have d0:=cfL HBC.out hg hv
  have f0:=(HBC.out.frozen (p:=⟨g,0,none⟩) hg).trans H.out.free
  have lg:=Nat.lt_of_lt_of_le hg HBC.out.size
  have HO1:Hid ((wc.alloc (.cells #[.slice none 0 0] 31)).ownsRow B 31 1 (.slice xa rs.length ca) rs.length vs):=zAd H.out.rows.own (fun k e=>(Below.heap_alloc _ _ _ (by have:=(H.out.rows.own.lt k e).2;have:=HBC.out.size;omega)).trans (HBC.out.block k (H.out.rows.own.lt k e).2))
  have HN1:Hid (∀ j u,[Value.slice none 0 0][j]?=some u→(wc.alloc (.cells #[.slice none 0 0] 31)).cell? ((⟨wc.heap.size,0,none⟩:Addr).add j)=some u):=World.news_of_block (cs:=#[.slice none 0 0]) (t:=31) (fr:=(0,0)) (heap_alloc_new wc _)
  have hne:some g≠(Value.slice xa rs.length ca).ownBlock:=fun e=>by
   obtain⟨c,hty⟩:=H.out.ty
   rcases H.out.rows.own.2 with ⟨e1,_⟩ | ⟨g',cap,cur,e1,_,hh,_⟩
   ·rw[e1] at e;simp[Value.ownBlock] at e
   ·rw[e1] at e;simp[Value.ownBlock] at e
    subst e
    rcases hty with hty | hty<;>(rw[hty] at hh;simp at hh)
  have hws:w.heap.size≤wc.heap.size:=HBC.out.size
  have d1:(wc.alloc (.cells #[.slice none 0 0] 31)).cell? ⟨g,0,none⟩=some (.slice xa rs.length ca):=(zAy lg).trans d0
  have f1:(wc.alloc (.cells #[.slice none 0 0] 31)).frozen? ⟨g,0,none⟩=false:=by rw[World.frozen?_of_block (w:=wc) (a:=⟨g,0,none⟩) (Below.heap_alloc _ _ _ lg)];exact f0
  go_upto_region 3 with (first | (at_builtin;refine wpList_append_lies _ rfl (.tmp 32) (.tmp 33) 27 rfl B 31 i0 (.slice none 0 0) 1 24 Tryz.underlying27 hi0 hz0 hz1 hz2 rfl (by decide) _ rs.length vs rfl (by exact HO1.out) ⟨wc.heap.size,0,none⟩ 1 1 [.slice none 0 0] rfl rfl (by exact HN1.out) (by simp[Value.oneCell']) (by decide) (by unfold maxLen;omega) (by omega) (by simp;omega) _ rfl ?_;intro gn cn w3 hown3 hgrow3 hat3 hlt3;have d3:=(hgrow3.cell_far ⟨g,0,none⟩ (by simp;omega) hne).trans d1;have f3:=(hgrow3.frozen_far ⟨g,0,none⟩ (by simp;omega) hne).trans f1;have lg3:g<w3.heap.size:=by have:=hgrow3.size;simp at this;omega))
  have hgne:gn≠g:=fun e=>by
   obtain⟨c,hty⟩:=H.out.ty
   have hgw:w3.heap[g]?=w.heap[g]?:=(hgrow3.block g (by simp;omega) hne).trans ((Below.heap_alloc _ _ _ lg).trans (HBC.out.block g hg))
   rcases hown3.2 with ⟨e1,_⟩ | ⟨g',cap,cur,e1,_,hh,_⟩
   ·simp at e1
   ·simp only[Value.slice.injEq,Option.some.injEq,Addr.mk.injEq] at e1
    rw[← e1.1.1,e,hgw] at hh
    rcases hty with hty | hty<;>(rw[hty] at hh;simp at hh)
  have O3:Hid ((w3.setCell ⟨g,0,none⟩ (.slice (some ⟨gn,0,none⟩) (rs.length+1) cn)).ownsRow B 31 1 (.slice (some ⟨gn,0,none⟩) (rs.length+1) cn) (rs.length+1) (vs++[.slice none 0 0])):=zAd hown3 (fun k e=>Below.heap_setCell _ _ _ _ (by simp[Value.ownBlock] at e;simp;omega))
  have e3:(w3.setCell ⟨g,0,none⟩ (.slice (some ⟨gn,0,none⟩) (rs.length+1) cn)).cell? ⟨g,0,none⟩=some (.slice (some ⟨gn,0,none⟩) (rs.length+1) cn):=World.cell?_setCell_same _ _ _ d3
  have C13:Hid ((w3.setCell ⟨g,0,none⟩ (.slice (some ⟨gn,0,none⟩) (rs.length+1) cn)).cell? ⟨g,1,none⟩=w.cell? ⟨g,1,none⟩):=by
   unfold Hid
   rw[World.cell?_setCell_other _ _ _ _ (by simp),hgrow3.cell_far ⟨g,1,none⟩ (by simp;omega) hne,zAy lg]
   exact HBC.out.cell (p:=⟨g,1,none⟩) hg
  have F3:Hid (∀ k,k<w.heap.size→k≠g→(Value.slice xa rs.length ca).ownBlock≠some k→(w3.setCell ⟨g,0,none⟩ (.slice (some ⟨gn,0,none⟩) (rs.length+1) cn)).heap[k]?=w.heap[k]?):=fun k h1 h2 h3=>by
   rw[Below.heap_setCell _ _ _ _ h2,hgrow3.block k (by simp;omega) (fun e=>h3 e.symm),Below.heap_alloc _ _ _ (by omega),HBC.out.block k h1]
  have G3:Hid ((w3.setCell ⟨g,0,none⟩ (.slice (some ⟨gn,0,none⟩) (rs.length+1) cn)).os=w.os∧(w3.setCell ⟨g,0,none⟩ (.slice (some ⟨gn,0,none⟩) (rs.length+1) cn)).tape=w.tape∧(w3.setCell ⟨g,0,none⟩ (.slice (some ⟨gn,0,none⟩) (rs.length+1) cn)).output=w.output):=⟨hgrow3.os.trans HBC.out.os,hgrow3.tape.trans HBC.out.tape,hgrow3.output.trans HBC.out.output⟩
  have hs3:w.heap.size≤(w3.setCell ⟨g,0,none⟩ (.slice (some ⟨gn,0,none⟩) (rs.length+1) cn)).heap.size:=by have:=hgrow3.size;simp at this ⊢;omega
  have lg3':g<(w3.setCell ⟨g,0,none⟩ (.slice (some ⟨gn,0,none⟩) (rs.length+1) cn)).heap.size:=by simpa using lg3
  have T3:Hid (∃ c,(w3.setCell ⟨g,0,none⟩ (.slice (some ⟨gn,0,none⟩) (rs.length+1) cn)).heap[g]?=some (.cells c 58 (0,0))∨(w3.setCell ⟨g,0,none⟩ (.slice (some ⟨gn,0,none⟩) (rs.length+1) cn)).heap[g]?=some (.cells c 58 (0,0))):=by
   obtain⟨c,hty⟩:=H.out.ty
   have hgw:w3.heap[g]?=w.heap[g]?:=(hgrow3.block g (by simp;omega) hne).trans ((Below.heap_alloc _ _ _ lg).trans (HBC.out.block g hg))
   rcases hty with hty | hty
   ·exact⟨_,Or.inl (zAf (hgw.trans hty) 0 _)⟩
   ·exact⟨_,Or.inr (zAf (hgw.trans hty) 0 _)⟩
  have AT:Hid ((Value.slice xa rs.length ca).ownBlock=some gn∨w.heap.size≤gn):=by
   rcases hat3 with h1 | h1
   ·exact Or.inl h1
   ·exact Or.inr (by simp at h1;omega)
  have hgl:gn<(w3.setCell ⟨g,0,none⟩ (.slice (some ⟨gn,0,none⟩) (rs.length+1) cn)).heap.size:=by simpa using hlt3
  have hvl:vs.length=rs.length:=H.out.rows.len
  have HVL:=zAa hvl
  clear hown3 hgrow3 hat3 d3 f3 lg3 d1 f1 HO1 HN1 hlt3 d0 f0 lg hvl hxa
  generalize hW3:w3.setCell ⟨g,0,none⟩ (.slice (some ⟨gn,0,none⟩) (rs.length+1) cn)=W3 at *
  clear hW3
  go_wp2
  go_loopw [5] (fun j wr=>∃ (i:Nat) (x:Value),po≤i∧i≤rs.length∧j=.int .i64 i∧Hid (wr.ownsRow B 31 1 (.slice (some ⟨gn,0,none⟩) (rs.length+1) cn) (rs.length+1) (vs.take i++x::vs.drop i))∧Hid (W3.grownBy wr (some gn))) (fun j _=>(intOf j).toNat)
  case atStart=>exact⟨rs.length,.slice none 0 0,by omega,Nat.le_refl _,by go_num,by have h1:=O3.out;have h2:=HVL.out;unfold Hid;rw[List.take_of_length_le (by omega),List.drop_eq_nil_of_le (by omega)];exact h1,zAB _ _⟩
  case round =>
   obtain⟨i,x,hpi,hin,rfl,HO,HG⟩:=hrel
   have e4:wr.cell? ⟨g,0,none⟩=some (.slice (some ⟨gn,0,none⟩) (rs.length+1) cn):=(HG.out.cell_far ⟨g,0,none⟩ lg3' (by simp;exact fun e=>hgne e.symm)).trans e3
   have lg4:g<wr.heap.size:=Nat.lt_of_lt_of_le lg3' HG.out.size
   have lgn:gn<wr.heap.size:=Nat.lt_of_lt_of_le hgl HG.out.size
   by_cases hlt:po<i
   ·obtain⟨q,rfl⟩:∃ q,i=q+1:=⟨i-1,by omega⟩
    have hltI:(po:Int)<(q:Int)+1:=by omega
    have hposI:(0:Int)<(q:Int)+1:=by omega
    have hb1:(q:Int)<(rs.length:Int)+1:=by omega
    have hb2:(q:Int)+1<(rs.length:Int)+1:=by omega
    have hb3:(q:Int)<(rs.length:Int):=by omega
    have hsb:(q:Int)+1-1=(q:Int):=by omega
    have hw1:IntKind.i64.wrap ((q:Int)+1-1)=(q:Int):=by rw[hsb];exact IntWalk.i64_in _ ⟨by omega,by omega⟩
    have hw2:IntKind.i64.wrap (q:Int)=(q:Int):=IntWalk.i64_in _ ⟨by omega,by omega⟩
    have hw3:IntKind.i64.wrap (((q+1:Nat):Int)-1)=(q:Int):=by rw[show (((q+1:Nat):Int)-1)=(q:Int) by omega];exact hw2
    have hb4:¬ ((rs.length:Int)+1≤(q:Int)):=by omega
    have hb5:q<rs.length+1:=by omega
    have hb6:q+1<rs.length+1:=by omega
    have hvl:=HVL.out
    have hlen:(vs.take (q+1)++x::vs.drop (q+1)).length=rs.length+1:=by simp;omega
    have cp:=zDm HO.out (i:=q) (by omega)
    have eg:=Q.shift_get vs (q+1) x (by omega) (by omega) (by simp;omega)
    simp only[Nat.add_sub_cancel] at eg
    rw[eg] at cp
    have ci:=zDm HO.out (i:=q+1) (by omega)
    have fi:=zFE HO.out (q+1)
    have hqv:q<vs.length:=by omega
    have HO2:=zAa (zGE HO.out (i:=q+1) (u:=vs[q]) (by omega))
    have es:=Q.shift_set vs (q+1) x (by omega) (by omega)
    simp only[Nat.add_sub_cancel] at es
    rw[es] at HO2
    have HG2:=zAa (zAk HG.out (q+1) vs[q])
    obtain⟨ua,un,uc,hu⟩:∃ ua un uc,vs[q]=.slice ua un uc:=by
     obtain⟨a1,c1,e1,_⟩:=(H.out.rows.rows q (by omega) vs[q] (List.getElem?_eq_getElem hqv)).form
     exact⟨a1,_,c1,e1⟩
    have hb0:(0:Int)≤(q:Int)+1:=by omega
    generalize vs[q]=u at *
    subst hu
    generalize (vs.take (q+1)++x::vs.drop (q+1))[q+1]=y at *
    clear hvl hlen eg es
    go_upto_region 6 with fail
    go_region_held3 (fun w'=>w'.cell? ⟨g,0,none⟩=some (.slice (some ⟨gn,0,none⟩) (rs.length+1) cn)∧w'.cell? ⟨gn,q,none⟩=some (.slice ua un uc)) (first | exact⟨e4,cp⟩ | exact⟨(zAh (by omega)).trans e4,(World.cell?_setCell_other _ _ _ _ (by simp)).trans cp⟩) (first | fail)
    go_wp2
    go_roundw
    case rel=>exact⟨q,_,by omega,by omega,by first | rfl | go_num,HO2,zBV HG2.out⟩
    case measure=>simp[intOf]
   ·have hpo:po=i:=by omega
    subst hpo
    have hnlt:decide ((po:Int)<(po:Int))=false:=decide_eq_false (by omega)
    have hb2:(po:Int)<((rs.length+1:Nat):Int):=by omega
    have hvl:=HVL.out
    have hlen:(vs.take po++x::vs.drop po).length=rs.length+1:=by simp;omega
    have ci:=zDm HO.out (i:=po) (by omega)
    have fi:=zFE HO.out po
    have KEEP:Hid (∀ k,k<w.heap.size→k≠g→(Value.slice xa rs.length ca).ownBlock≠some k→wr.heap[k]?=w.heap[k]?):=fun k h1 h2 h3=>by
     rw[HG.out.block k (by omega) (by
      intro e
      rcases AT.out with h4 | h4
      ·exact h3 (h4.trans e.symm)
      ·simp at e;omega),F3.out k h1 h2 h3]
    have HRW:Hid (zBF wr (.slice ya r.length yc) r):=HRR.out.own wr (fun k e=>KEEP.out k (by
     rcases HRR.out with ⟨e1,_⟩ | ⟨g',cap,e1,_,hg'⟩
     ·rw[e1] at e;simp[Value.ownBlock] at e
     ·rw[e1] at e;simp[Value.ownBlock] at e;omega) (hvr k e).1 (hvr k e).2) (by have:=HG.out.size;omega)
    generalize (vs.take po++x::vs.drop po)[po]=y at *
    clear hvl hlen
    go_upto_region 8 with fail
    go_region_held3 (fun w'=>w'.cell? ⟨g,0,none⟩=some (.slice (some ⟨gn,0,none⟩) (rs.length+1) cn)) (first | exact e4 | exact p4 | exact (zAh (by omega)).trans p4) (first
     | (go_at_call 88;refine (zCq _ r _ (HRW.out.below (Below.refl _ _).drew) (by omega)).mono ?_;rintro e w5 ⟨g5,rfl,hi5,hge5,hb5⟩;have B5:Hid (Below wr.heap.size wr w5):=((Below.refl wr.heap.size wr).drew).trans (hb5.mono (by simp));have I5:=zAa hi5;have p4:=cfL B5.out lg4 e4;have p5:=cfL B5.out lgn ci;have p6:=(B5.out.frozen (p:=⟨gn,po,none⟩) lgn).trans fi;have hge5':wr.heap.size≤g5:=(by simpa using hge5);have lg5:=Nat.lt_of_lt_of_le lg4 B5.out.size;have lgn5:=Nat.lt_of_lt_of_le lgn B5.out.size))
    all_goals
     (try go_wp2)
     go_end0
     have hg5:=I5.out.lt
     have O5:=zGE (u:=.slice (some ⟨g5,0,none⟩) r.length r.length) (zAd (w':=w5) HO.out (fun k e=>B5.out.block k (HO.out.lt k e).2)) (i:=po) (by omega)
     rw[Q.shift_put vs po x _ (by rw[HVL.out];exact hpl)] at O5
     have hfr:∀ k,k<w.heap.size→k≠g→(Value.slice xa rs.length ca).ownBlock≠some k→(w5.setCell ⟨gn,po,none⟩ (.slice (some ⟨g5,0,none⟩) r.length r.length)).heap[k]?=w.heap[k]?:=fun k h1 h2 h3=>by
      have hkn:k≠gn:=fun e=>by
       rcases AT.out with h4 | h4
       ·exact h3 (by rw[h4,e])
       ·omega
      rw[Below.heap_setCell _ _ _ _ hkn,B5.out.block k (by have:=HG.out.size;omega),KEEP.out k h1 h2 h3]
     have hsz:w.heap.size≤(w5.setCell ⟨gn,po,none⟩ (.slice (some ⟨g5,0,none⟩) r.length r.length)).heap.size:=by have:=HG.out.size;have:=B5.out.size;simp;omega
     have hR5:zBF (w5.setCell ⟨gn,po,none⟩ (.slice (some ⟨g5,0,none⟩) r.length r.length)) (.slice (some ⟨g5,0,none⟩) r.length r.length) r:=(I5.out.of_block (Below.heap_setCell _ _ _ _ (by simp;omega))).rowI r.length
     have hold:∀ u∈vs,∀ l,zBF w u l→zBF (w5.setCell ⟨gn,po,none⟩ (.slice (some ⟨g5,0,none⟩) r.length r.length)) u l:=fun u hu l hl=>hl.own _ (fun k e=>by
      have hk:=H.out.fps u hu k e
      exact hfr k (H.out.fpl k hk) (H.out.dis k hk).1 (H.out.dis k hk).2) hsz
     have hvl:=HVL.out
     refine⟨rfl,_,vs.take po++(.slice (some ⟨g5,0,none⟩) r.length r.length)::vs.drop po,g5::fp,⟨(zAh (by omega)).trans p4,by simpa using lg5,?_,⟨?_,?_,?_⟩,?_,?_,?_,?_⟩,?_⟩
     ·rw[World.frozen?_setCell,B5.out.frozen (p:=⟨g,0,none⟩) lg4,HG.out.frozen_far ⟨g,0,none⟩ lg3' (by simp;exact fun e=>hgne e.symm)]
      obtain⟨c,hty⟩:=T3.out
      rcases hty with hty | hty<;>simp[World.frozen?,hty]
     ·have e5:(rs.take po++r::rs.drop po).length=rs.length+1:=by simp;omega
      rw[e5];exact O5
     ·simp;omega
     ·intro q hq u hu
      by_cases h1:q<po
      ·rw[List.getElem?_append_left (by simp;omega)] at hu
       rw[List.getElem_append_left (by simp;omega)]
       have hqv:q<vs.length:=by omega
       simp only[List.getElem?_take,h1,if_true] at hu
       simp only[List.getElem_take]
       exact hold u (List.mem_of_getElem? hu) _ (H.out.rows.rows q (by omega) u hu)
      ·by_cases h2:q=po
       ·subst h2
        rw[List.getElem?_append_right (by simp;omega)] at hu
        rw[List.getElem_append_right (by simp;omega)]
        have e6:q-(vs.take q).length=0:=by simp;omega
        have e7:q-(rs.take q).length=0:=by simp;omega
        rw[e6] at hu
        simp at hu
        subst hu
        simp only[e7,List.getElem_cons_zero]
        exact hR5
       ·rw[List.getElem?_append_right (by simp;omega)] at hu
        rw[List.getElem_append_right (by simp;omega)]
        obtain⟨d,hd⟩:∃ d,q=po+1+d:=⟨q-po-1,by omega⟩
        have e6:q-(vs.take po).length=d+1:=by simp;omega
        have e7:q-(rs.take po).length=d+1:=by simp;omega
        rw[e6] at hu
        simp only[List.getElem?_cons_succ,List.getElem?_drop] at hu
        simp only[e7,List.getElem_cons_succ,List.getElem_drop]
        simp at hq
        exact hold u (List.mem_of_getElem? hu) _ (H.out.rows.rows (po+d) (by omega) u hu)
     ·obtain⟨c,hty⟩:=T3.out
      have hgw:(w5.setCell ⟨gn,po,none⟩ (.slice (some ⟨g5,0,none⟩) r.length r.length)).heap[g]?=W3.heap[g]?:=by rw[Below.heap_setCell _ _ _ _ (fun e=>hgne e.symm),B5.out.block g lg4,HG.out.block g lg3' (by simp;exact fun e=>hgne e.symm)]
      rcases hty with hty | hty
      ·exact⟨c,Or.inl (hgw.trans hty)⟩
      ·exact⟨c,Or.inr (hgw.trans hty)⟩
     ·intro u hu k e
      rcases List.mem_append.1 hu with hu | hu
      ·exact List.mem_cons_of_mem _ (H.out.fps u (List.mem_of_mem_take hu) k e)
      ·rcases List.mem_cons.1 hu with rfl | hu
       ·simp[Value.ownBlock] at e;subst e;simp
       ·exact List.mem_cons_of_mem _ (H.out.fps u (List.mem_of_mem_drop hu) k e)
     ·intro k hk
      rcases List.mem_cons.1 hk with rfl | hk
      ·simpa using hg5
      ·exact Nat.lt_of_lt_of_le (H.out.fpl k hk) hsz
     ·intro k hk
      rcases List.mem_cons.1 hk with rfl | hk
      ·exact⟨by omega,by simp[Value.ownBlock];omega⟩
      ·refine⟨(H.out.dis k hk).1,?_⟩
       intro e
       simp[Value.ownBlock] at e
       rcases AT.out with h4 | h4
       ·exact (H.out.dis k hk).2 (by rw[h4,e])
       ·have:=H.out.fpl k hk;omega
     ·refine⟨?_,?_,?_,hsz,hfr,?_,?_,?_⟩
      ·exact (B5.out.os.trans HG.out.os).trans G3.out.1
      ·exact (B5.out.tape.trans HG.out.tape).trans G3.out.2.1
      ·exact (B5.out.output.trans HG.out.output).trans G3.out.2.2
      ·rcases AT.out with h4 | h4
       ·exact Or.inl (by rw[h4];rfl)
       ·exact Or.inr ⟨gn,rfl,h4⟩
      ·intro k hk
       rcases List.mem_cons.1 hk with rfl | hk
       ·exact Or.inr (by have:=HG.out.size;omega)
       ·exact Or.inl hk
      ·rw[zAh (by omega),B5.out.cell (p:=⟨g,1,none⟩) lg4,HG.out.cell_far ⟨g,1,none⟩ lg3' (by simp;exact fun e=>hgne e.symm)]
       exact C13.out
theorem OutAt.off {w w':World} {B g:Nat} {rs:List (List Int)} {ov:Value} {vs:List Value} {fp:List Nat} (h:OutAt w B g rs ov vs fp) (hg:w'.heap[g]?=w.heap[g]?) (ho:∀ k,ov.ownBlock=some k→w'.heap[k]?=w.heap[k]?) (hf:∀ k∈fp,w'.heap[k]?=w.heap[k]?) (hs:w.heap.size≤w'.heap.size):OutAt w' B g rs ov vs fp:=by
 obtain⟨c,hty⟩:=h.ty
 refine⟨(World.cell?_of_block (w:=w) (a:=⟨g,0,none⟩) hg).trans h.cell,Nat.lt_of_lt_of_le h.lt hs,(World.frozen?_of_block (w:=w) (a:=⟨g,0,none⟩) hg).trans h.free,⟨zAd h.rows.own ho,h.rows.len,fun i hi u hu=>(h.rows.rows i hi u hu).own _ (fun k e=>hf k (h.fps u (List.mem_of_getElem? hu) k e)) hs⟩,⟨c,?_⟩,h.fps,fun k hk=>Nat.lt_of_lt_of_le (h.fpl k hk) hs,h.dis⟩
 rcases hty with hty | hty
 ·exact Or.inl (hg.trans hty)
 ·exact Or.inr (hg.trans hty)
theorem OutAt.ownlt {w:World} {B g:Nat} {rs:List (List Int)} {ov:Value} {vs:List Value} {fp:List Nat} (h:OutAt w B g rs ov vs fp) (k:Nat) (e:ov.ownBlock=some k):k<w.heap.size:=(h.rows.own.lt k e).2
theorem OutAt.below {w w':World} {B g:Nat} {rs:List (List Int)} {ov:Value} {vs:List Value} {fp:List Nat} (h:OutAt w B g rs ov vs fp) (hb:Below w.heap.size w w'):OutAt w' B g rs ov vs fp :=
 h.off (hb.block g h.lt) (fun k e=>hb.block k (h.ownlt k e)) (fun k hk=>hb.block k (h.fpl k hk)) hb.size
theorem OutAt.in_ {w:World} {B g:Nat} {rs:List (List Int)} {ov:Value} {vs:List Value} {fp:List Nat} (h:OutAt w B g rs ov vs fp):OutIn w B g rs :=
 ⟨⟨ov,vs,h.cell,h.rows⟩,h.lt,h.free,fun c t fr e=>by
  obtain⟨c',hty⟩:=h.ty
  rcases hty with hty | hty<;>(rw[hty] at e;simp at e;obtain⟨_,rfl,_⟩:=e;exact⟨by decide,by decide⟩)⟩
theorem OFrame.of_below {w w':World} {g:Nat} {ov:Value} {fp:List Nat} (hb:Below w.heap.size w w') (hg:g<w.heap.size):OFrame w w' g ov ov fp fp :=
 ⟨hb.os,hb.tape,hb.output,hb.size,fun k hk _ _=>hb.block k hk,Or.inl rfl,fun k hk=>Or.inl hk,hb.cell hg⟩
theorem zDV (B g:Nat) (vr ov:Value) (rs:List (List Int)) (vs:List Value) (fp:List Nat) (r:List Int) (w:World) (h:OutAt w B g rs ov vs fp) (hr:zBF w vr r) (hri:Q.zKb rs) (hs:∀ x∈rs,Q.Small x∧x.length<1000) (hsr:Q.Small r∧r.length<1000) (hn:rs.length<100000000) (hB:B≤w.heap.size) (hvr:∀ k,vr.ownBlock=some k→k≠g∧ov.ownBlock≠some k) :
  Calls Tryz.prog 60 #[.pointer (some ⟨g,0,none⟩),vr] w fun e w'=>e=.returned (.tuple #[])∧∃ ov' vs' fp',OutAt w' B g (Q.ins rs r) ov' vs' fp'∧OFrame w w' g ov ov' fp fp':=by
 have hi:=Q.ins_at (r:=r) rs
 by_cases h1:Q.posOf rs r<rs.length
 ·rw[dif_pos h1] at hi
  have e1:rs.getD (Q.posOf rs r) []=rs[Q.posOf rs r]:=by simp[h1]
  by_cases h2:Q.cmp rs[Q.posOf rs r] r=0
  ·rw[if_pos h2] at hi
   rw[hi]
   refine (zHc B g vr rs r w h.in_ hr hri hs hsr hn h1 (by rw[e1];exact h2)).mono ?_
   rintro e w' ⟨rfl,hb⟩
   exact⟨rfl,ov,vs,fp,h.below hb,OFrame.of_below hb h.lt⟩
  ·rw[if_neg h2] at hi
   rw[hi]
   exact zGF B g vr ov rs vs fp r w h hr hri hs hsr hn hB (fun _=>by rw[e1];exact h2) hvr
 ·rw[dif_neg h1] at hi
  have h3:Q.posOf rs r=rs.length:=by have:=Q.zKA rs r;omega
  have hi2:Q.ins rs r=rs.take (Q.posOf rs r)++r::rs.drop (Q.posOf rs r):=by rw[hi,h3];simp
  rw[hi2]
  exact zGF B g vr ov rs vs fp r w h hr hri hs hsr hn hB (fun h=>absurd h h1) hvr
theorem zHX {wx:World} {b:Nat} {t:TypeId} {u0 u1 u2 u3 s0 s1 s2 s3:Value} (h:wx.heap[b]?=some (.cells #[u0,u1,u2,u3] t (0,0))) :
  ((((wx.setCell ⟨b,0,none⟩ s0).setCell ⟨b,1,none⟩ s1).setCell ⟨b,2,none⟩ s2).setCell ⟨b,3,none⟩ s3).heap[b]?=some (.cells #[s0,s1,s2,s3] t (0,0))∧(∀ k,k≠b→((((wx.setCell ⟨b,0,none⟩ s0).setCell ⟨b,1,none⟩ s1).setCell ⟨b,2,none⟩ s2).setCell ⟨b,3,none⟩ s3).heap[k]?=wx.heap[k]?) ∧
   ∀ (w:World) (B:Nat),B≤b→Below B w wx→Below B w ((((wx.setCell ⟨b,0,none⟩ s0).setCell ⟨b,1,none⟩ s1).setCell ⟨b,2,none⟩ s2).setCell ⟨b,3,none⟩ s3):=by
 refine⟨?_,fun k hk=>?_,fun w B hB hb=>?_⟩
 ·have e0:=zAf h 0 s0
  have e1:=zAf e0 1 s1
  have e2:=zAf e1 2 s2
  have e3:=zAf e2 3 s3
  rw[e3];rfl
 ·rw[Below.heap_setCell _ _ _ _ hk,Below.heap_setCell _ _ _ _ hk,Below.heap_setCell _ _ _ _ hk,Below.heap_setCell _ _ _ _ hk]
 ·exact (((hb.setCell (p:=⟨b,0,none⟩) hB _).setCell (p:=⟨b,1,none⟩) hB _).setCell (p:=⟨b,2,none⟩) hB _).setCell (p:=⟨b,3,none⟩) hB _
theorem zCb {w:World} {g:Nat} {a b c d:Value} {t:TypeId} (h:w.heap[g]?=some (.cells #[a,b,c,d] t (0,0))):w.cell? ⟨g,0,none⟩=some a∧w.cell? ⟨g,1,none⟩=some b∧w.cell? ⟨g,2,none⟩=some c∧w.cell? ⟨g,3,none⟩=some d∧(∀ j,w.frozen? ⟨g,j,none⟩=false)∧g<w.heap.size:=by
 refine⟨?_,?_,?_,?_,fun j=>?_,(Array.getElem?_eq_some_iff.1 h).1⟩<;>simp[World.cell?,World.frozen?,h]
def zHs (w w':World) (rs bs:List Int) (e:Ending):Prop:=∃ gr gb gd,e=.returned (.agg #[.slice (some ⟨gr,0,none⟩) rs.length rs.length,.slice (some ⟨gb,0,none⟩) bs.length bs.length,.slice (some ⟨gd,0,none⟩) bs.length bs.length,.bool false])∧zAq w' gr rs∧zAq w' gb bs∧zAq w' gd (Q.zeros bs.length)∧w.heap.size≤gr∧w.heap.size≤gb∧w.heap.size≤gd∧gr≠gd∧gb≠gd∧Below w.heap.size w w'
namespace Q
def ordTo (es:List Ev) (rs:List Int) (i q:Nat):Int:=1+(((List.range q).filter (ordB es rs i)).length:Nat)
theorem ordTo_succ (es:List Ev) (rs:List Int) (i q:Nat):ordTo es rs i (q+1)=ordTo es rs i q+if ordB es rs i q then 1 else 0:=by
 unfold ordTo;have:=filt_succ (ordB es rs i) q;omega
theorem ordTo_bd (es:List Ev) (rs:List Int) (i q:Nat):0≤ordTo es rs i q∧ordTo es rs i q≤q+1:=by
 unfold ordTo
 have:=List.length_filter_le (ordB es rs i) (List.range q)
 simp at this;omega
end Q
theorem zGc (ev rg v:Value) (es:List Q.Ev) (rs:List Int) (w:World) (he:zAX w ev es) (hrg:∃ a n c,rg=.slice a n c) (hv:zBF w v rs) (hl:rs.length=es.length) (hn:rs.length≤64) :
  Calls Tryz.prog 79 #[.agg #[ev,rg],v] w fun e w'=>zHs w w' rs (Q.zIm es rs) e:=by
 have hmk:∀ w,(Instr.makeSlice 31 (.int .i64 (rs.length:Int)) (.int .i64 (rs.length:Int))).run Tryz.prog w=.ok (.slice (some ⟨w.heap.size,0,none⟩) rs.length rs.length) (w.alloc (.cells (madeCells #[.int .i64 0] rs.length) 3)) :=
  fun w=>run_make_row' 31 3 (.int .i64 0) 8 Tryz.underlying31 Tryz.infoInt rfl .i64 .i64 rs.length (by omega) (by omega) w
 obtain⟨ea,ec,rfl,hea⟩:=he.form
 obtain⟨va,vc,rfl,hva⟩:=hv.form
 obtain⟨ra,rn,rc,rfl⟩:=hrg
 rw[← hl] at hea
 have hle1:rs.length≤es.length:=by omega
 have hle2:es.length≤rs.length:=by omega
 clear hl
 have HBS:Hid (Q.zIm es rs=(List.range rs.length).map (Q.zIP es rs)):=rfl
 have HBL:Hid ((Q.zIm es rs).length=rs.length):=by simp[Hid,Q.zIm]
 obtain⟨k0,k1,hsz,hbw⟩:=zBO w #[.slice ea es.length ec,.slice ra rn rc] #[.slice none 0 0,.slice none 0 0,.slice none 0 0,.bool false] 61 108
 have HE0:=zAa he
 have HV0:=zAa (hv.below hbw)
 have BW0:=zAa hbw
 clear hbw he hv
 go_enter Tryz.func79,Tryz.ntmps79
 go_upto_region 1 with fail
 generalize hE:(w.alloc (.cells #[.slice ea es.length ec,.slice ra rn rc] 61)).alloc (.cells #[.slice none 0 0,.slice none 0 0,.slice none 0 0,.bool false] 108)=W0 at *
 have c00:=ceL k0 0 _ rfl
 have l0:w.heap.size<W0.heap.size:=by omega
 have l1:w.heap.size+1<W0.heap.size:=by omega
 have K1:=zAa k1
 have HM0:Hid (zAq (W0.alloc (.cells (madeCells #[.int .i64 0] rs.length) 3)) W0.heap.size (Q.mixI (Q.zIP es rs) rs.length 0)):=by
  unfold Hid zAq;rw[Q.zJF,← zBZ];exact heap_alloc_new W0 _
 have HB0:Hid (Below W0.heap.size W0 (W0.alloc (.cells (madeCells #[.int .i64 0] rs.length) 3))):=(Below.refl _ _).alloc (Nat.le_refl _) _
 have hszl:w.heap.size+2≤W0.heap.size:=by omega
 clear hE k0 k1 hsz
 go_wp2
 go_loopw [14] (fun j wr=>∃ (k:Nat),k≤rs.length∧j=.int .i64 k∧Hid (zAq wr W0.heap.size (Q.mixI (Q.zIP es rs) rs.length k))∧Hid (Below W0.heap.size W0 wr)) (fun j _=>rs.length-(intOf j).toNat)
 case atStart=>exact⟨0,Nat.zero_le _,rfl,HM0,HB0⟩
 case round =>
  obtain⟨k,hk,rfl,HI,HBL2⟩:=hrel
  by_cases hlt:k<rs.length
  ·have hin:(k:Int)<(rs.length:Int):=by omega
   obtain⟨be,rfl,hbe⟩:=hea (by omega)
   obtain⟨gv,rfl,hgv,hcv⟩:=hva (by omega)
   have hbeW:be<W0.heap.size:=by omega
   have hgvW:gv<W0.heap.size:=by omega
   have HCV:Hid (∀ q (hq:q<rs.length),W0.cell? ⟨gv,q,none⟩=some (.int .i64 (rs.getD q (-1)))):=fun q hq=>by rw[zAH rs q hq];exact (BW0.out.cell (p:=⟨gv,q,none⟩) hgv).trans (hcv q hq)
   have ck:wr.cell? ⟨gv,k,none⟩=some (.int .i64 (rs.getD k (-1))):=(HBL2.out.cell (p:=⟨gv,k,none⟩) hgvW).trans (HCV.out k hlt)
   have lv:=Nat.lt_of_lt_of_le hgvW HBL2.out.size
   have lp:=HI.out.lt
   have cp:=HI.out.cellD k (by rw[Q.zJx];exact hlt)
   have fp:=HI.out.free k
   have hlen:k<(Q.mixI (Q.zIP es rs) rs.length k).length:=by rw[Q.zJx];exact hlt
   have HI1:=zAa (HI.out.set k 1)
   have HMS:=zAa (Q.zJX (Q.zIP es rs) rs.length k hlt)
   have HOB:Hid (Q.zIP es rs k=Q.ordTo es rs k k):=rfl
   have HOZ:Hid (Q.ordTo es rs k 0=1):=rfl
   have HOP:Hid (∀ q,Q.ordB es rs k q=(rs.getD k (-1) != -1&&rs.getD q (-1)==rs.getD k (-1)&&(Q.ev es q).thread != -1)):=fun q=>rfl
   have HB1:Hid (Below W0.heap.size W0 (wr.setCell ⟨W0.heap.size,k,none⟩ (.int .i64 1))):=HBL2.out.setCell (p:=⟨W0.heap.size,k,none⟩) (Nat.le_refl _) _
   generalize hrow:rs.getD k (-1)=row at *
   generalize hpk:(Q.mixI (Q.zIP es rs) rs.length k).getD k 0=pk0 at *
   generalize hMM:Q.mixI (Q.zIP es rs) rs.length k=MM at *
   go_wp2
   go_loopw [8] (fun j wq=>∃ (q:Nat),q≤k∧j=.int .i64 q∧Hid (zAq wq W0.heap.size (MM.set k (Q.ordTo es rs k q)))∧Hid (Below W0.heap.size W0 wq)) (fun j _=>k-(intOf j).toNat)
   case atStart=>exact⟨0,Nat.zero_le _,rfl,by rw[HOZ.out];exact HI1,HB1⟩
   case round =>
    clear ck lv lp cp fp HI1 HB1
    obtain⟨q,hq,rfl,HJ,HBQ⟩:=hrel
    have d00:=cfL HBQ.out l0 c00
    have l0w:=Nat.lt_of_lt_of_le l0 HBQ.out.size
    by_cases hql:q<k
    ·have hqi:(q:Int)<(k:Int):=by omega
     have hqe:(q:Int)<(es.length:Int):=by omega
     have hqr:(q:Int)<(rs.length:Int):=by omega
     have hqn:q<rs.length:=by omega
     have cq:wr.cell? ⟨gv,q,none⟩=some (.int .i64 (rs.getD q (-1))):=(HBQ.out.cell (p:=⟨gv,q,none⟩) hgvW).trans (HCV.out q hqn)
     have lv:=Nat.lt_of_lt_of_le hgvW HBQ.out.size
     have le:=Nat.lt_of_lt_of_le hbeW HBQ.out.size
     have HRG:Hid (wr.rangeAt be (q*10) (zAb (Q.ev es q)).toList):=zAA (HE0.out.range' rfl q (by omega)) ((HBQ.out.block be hbeW).trans (BW0.out.block be hbe))
     have ct:=HRG.out 1 (.int .i64 (Q.ev es q).thread) rfl
     have hlq:k<(MM.set k (Q.ordTo es rs k q)).length:=by rw[List.length_set];exact hlen
     have ck:=HJ.out.cellD k hlq
     rw[Q.getD_set_eq _ _ _ hlen] at ck
     have fk:=HJ.out.free k
     have lk:=HJ.out.lt
     have HS:=zAa (Q.ordTo_succ es rs k q)
     have HOQ:=zAa (HOP.out q)
     have hbd:=Q.ordTo_bd es rs k q
     have HJ1:=zAa (HJ.out.set k (Q.ordTo es rs k q+1))
     rw[List.set_set] at HJ1
     generalize rs.getD q (-1)=x at *
     generalize (Q.ev es q).thread=th at *
     generalize hoo:Q.ordTo es rs k q=oo at *
     cases z1:(row != -1)
     ·have HN:Hid (Q.ordTo es rs k (q+1)=oo):=by unfold Hid;rw[HS.out,HOQ.out,z1];simp
      go_wp2
      go_roundw
      case rel=>exact⟨q+1,by omega,by go_num,by rw[HN.out];exact HJ,HBQ⟩
      case measure=>simp[intOf];omega
     cases z2:(x==row)
     ·have HN:Hid (Q.ordTo es rs k (q+1)=oo):=by unfold Hid;rw[HS.out,HOQ.out,z1,z2];simp
      go_wp2
      go_roundw
      case rel=>exact⟨q+1,by omega,by go_num,by rw[HN.out];exact HJ,HBQ⟩
      case measure=>simp[intOf];omega
     cases z3:(th != -1)
     ·have HN:Hid (Q.ordTo es rs k (q+1)=oo):=by unfold Hid;rw[HS.out,HOQ.out,z1,z2,z3];simp
      go_wp2
      go_roundw
      case rel=>exact⟨q+1,by omega,by go_num,by rw[HN.out];exact HJ,HBQ⟩
      case measure=>simp[intOf];omega
     ·have HN:Hid (Q.ordTo es rs k (q+1)=oo+1):=by unfold Hid;rw[HS.out,HOQ.out,z1,z2,z3];simp
      go_wp2
      go_roundw
      case rel=>exact⟨q+1,by omega,by go_num,by rw[HN.out];exact HJ1,HBQ.out.setCell (p:=⟨W0.heap.size,k,none⟩) (Nat.le_refl _) _⟩
      case measure=>simp[intOf];omega
    ·have hqk:q=k:=by omega
     have HN2:Hid (zAq wr W0.heap.size (Q.mixI (Q.zIP es rs) rs.length (k+1))):=by
      have h1:=HJ.out
      rw[hqk,← HOB.out] at h1
      unfold Hid;rw[← HMS.out];exact h1
     have hdd:decide ((q:Int)<(k:Int))=false:=decide_eq_false (by omega)
     go_wp2
     go_roundw
     case rel=>exact⟨k+1,by omega,by go_num,HN2,HBQ⟩
     case measure=>simp[intOf];omega
  ·have hkn:k=rs.length:=by omega
   have HF:Hid (zAq wr W0.heap.size (Q.zIm es rs)):=by
    have h1:=HI.out
    rw[hkn,Q.zJG] at h1
    exact h1
   have HV1:=zAa (HV0.out.below HBL2.out)
   clear HI hea hva
   go_wp2_with (first
    | (go_at_call 66;refine (zBS _ (Q.zIm es rs) _ (by have h1:=(HF.out.below hb1).rowI rs.length;rw[HBL.out] at h1;exact h1) (by rw[HBL.out];omega)).mono ?_;rintro e w2 ⟨v1,v2,v3,rfl,⟨gb,gd,rfl,rfl,rfl,hib,hid,hgb,hgd,hne⟩,hb2⟩;have B2:Hid (Below W0.heap.size W0 w2):=zAo (zAo HBL2.out (Nat.le_refl _) hb1) (Nat.le_refl _) hb2;have K2:=zAa ((B2.out.block _ l1).trans K1.out);obtain⟨t0,t1,t2,t3,tf,tl⟩:=zCb K2.out;have IB:=zAa hib;have ID:=zAa hid;have IR:=zAa (hi1.below hb2))
    | (go_at_call 88;refine (zCq _ rs _ HV1.out (by omega)).mono ?_;rintro e w1 ⟨g1,rfl,hi1,hge1,hb1⟩))
   obtain⟨s0,s1,s2⟩:=zHX (s0:=.slice (some ⟨g1,0,none⟩) rs.length rs.length) (s1:=.slice (some ⟨gb,0,none⟩) (Q.zIm es rs).length (Q.zIm es rs).length) (s2:=.slice (some ⟨gd,0,none⟩) (Q.zIm es rs).length (Q.zIm es rs).length) (s3:=.bool false) K2.out
   have hws:=HBL2.out.size
   have hw1:=hb1.size
   have hg1:=hi1.lt
   refine zBf (p:=4) (w.heap.size+1) _ (by kernel_rfl) Tryz.underlying108 rfl (by kernel_rfl) rfl (by exact s0) rfl ⟨g1,gb,gd,rfl,IR.out.of_block (s1 _ (by omega)),IB.out.of_block (s1 _ (by omega)),ID.out.of_block (s1 _ (by omega)),by omega,by omega,by omega,by omega,hne,s2 _ _ (by omega) (zAo BW0.out (Nat.le_refl _) B2.out)⟩
end Go.Proofs.YtkmebkbpfmoeaaaGreat
