import Derived.Test.YtkmebkbpfmoeaaaGreatH20
set_option linter.unusedVariables false
set_option linter.unusedSimpArgs false
set_option maxHeartbeats 12800000
namespace Go.Proofs.YtkmebkbpfmoeaaaGreat
open Go Go.RowKit
set_option maxRecDepth 100000
theorem zBA.grownT {w w':World} {v:Value} {l:List Int} {row:Option Nat} (h:zBA w v l) (hg:w.grownBy w' row) (hne:∀ k,v.ownBlock=some k→some k≠row):zBA w' v l:=by
 refine h.own w' (fun k e=>hg.block k ?_ (hne k e)) hg.size
 rcases h with ⟨e1,_⟩ | ⟨g',cap,e1,_,hg',_⟩
 ·rw[e1] at e;simp[Value.ownBlock] at e
 ·rw[e1] at e;simp[Value.ownBlock] at e;omega
def zIc (w w':World) (cs:List (List Int)) (e:Ending):Prop:=∃ cv vs gb gd,e=.returned (.agg #[cv,.slice (some ⟨gb,0,none⟩) cs.length cs.length,.slice (some ⟨gd,0,none⟩) cs.length cs.length,.bool false])∧RowsI w' w.heap.size cv cs vs∧zAp w' gb (Q.lens cs)∧zAp w' gd (Q.zeros cs.length)∧w.heap.size≤gb∧w.heap.size≤gd∧gb≠gd∧cv.ownBlock≠some gd∧(∀ u∈vs,∀ k,u.ownBlock=some k→w.heap.size≤k∧k≠gd)∧Below w.heap.size w w'
namespace Q
def chTo (es:List Ev) (k:Nat):List (List Int):=(List.range k).map (zJk es)
theorem chTo_succ (es:List Ev) (k:Nat):chTo es (k+1)=chTo es k++[zJk es k]:=by unfold chTo;rw[List.range_succ,List.map_append];rfl
theorem chTo_len (es:List Ev) (k:Nat):(chTo es k).length=k:=by simp[chTo]
theorem zKt (es:List Ev):chTo es es.length=zIk es:=rfl
theorem lens_snoc (cs:List (List Int)) (c:List Int):lens (cs++[c])=lens cs++[(c.length:Int)]:=by simp[lens]
theorem zJf (cs:List (List Int)):(lens cs).length=cs.length:=by simp[lens]
end Q
theorem zBx {w w':World} {B B' n n' sz sz':Nat} {t t':TypeId} {v u:Value} {xs xs':List Value} (h:w.ownsRow B t sz v n xs) (ho:w.ownsRow B' t' sz' u n' xs') (ht:t≠t') (hg:w.grownBy w' u.ownBlock):w'.ownsRow B t sz v n xs∧∀ k,v.ownBlock=some k→u.ownBlock≠some k:=by
 have hne:∀ k,v.ownBlock=some k→u.ownBlock≠some k:=fun k e e2=>by
  rcases h.2 with ⟨e1,_⟩ | ⟨g1,c1,cur1,e1,_,h1,_⟩
  ·rw[e1] at e;simp[Value.ownBlock] at e
  ·rcases ho.2 with ⟨e3,_⟩ | ⟨g2,c2,cur2,e3,_,h2,_⟩
   ·rw[e3] at e2;simp[Value.ownBlock] at e2
   ·rw[e1] at e;rw[e3] at e2
    simp[Value.ownBlock] at e e2
    rw[e] at h1;rw[e2,h1] at h2
    simp at h2;exact ht h2.2
 exact⟨zAc h (fun k e=>hg.block k (h.lt k e).2 (fun e2=>hne k e e2.symm)),hne⟩
theorem RowsI.snoc {w w1:World} {B:Nat} {v v' u:Value} {rs:List (List Int)} {vs:List Value} {r:List Int} (h:RowsI w B v rs vs) (hu:zBA w u r) (hown:w1.ownsRow B 31 1 v' (rs.length+1) (vs++[u])) (hg:w.grownBy w1 v.ownBlock) (hne:∀ x∈vs++[u],∀ k,x.ownBlock=some k→v.ownBlock≠some k):RowsI w1 B v' (rs++[r]) (vs++[u]):=by
 refine⟨by simpa using hown,by simp[h.len],fun i hi x hx=>?_⟩
 have hx':=hne x (List.mem_of_getElem? hx)
 by_cases hlt:i<rs.length
 ·rw[List.getElem?_append_left (by rw[h.len];exact hlt)] at hx
  rw[List.getElem_append_left hlt]
  exact (h.rows i hlt x hx).grownT hg (fun k e=>fun e2=>hx' k e e2.symm)
 ·simp at hi
  have hie:i=rs.length:=by omega
  subst hie
  rw[List.getElem?_append_right (by rw[h.len];exact Nat.le_refl _),h.len] at hx
  simp at hx
  subst hx
  simp
  exact hu.grownT hg (fun k e=>fun e2=>hx' k e e2.symm)
theorem RowsI.grown {w w1:World} {B:Nat} {v:Value} {rs:List (List Int)} {vs:List Value} {row:Option Nat} (h:RowsI w B v rs vs) (hg:w.grownBy w1 row) (hv:∀ k,v.ownBlock=some k→row≠some k) (hne:∀ x∈vs,∀ k,x.ownBlock=some k→row≠some k):RowsI w1 B v rs vs :=
 ⟨zAc h.own (fun k e=>hg.block k (h.own.lt k e).2 (fun e2=>hv k e e2.symm)),h.len,fun i hi x hx=>(h.rows i hi x hx).grownT hg (fun k e=>fun e2=>hne x (List.mem_of_getElem? hx) k e e2.symm)⟩
theorem zBA.ownlt {w:World} {v:Value} {l:List Int} (h:zBA w v l) (k:Nat) (e:v.ownBlock=some k):k<w.heap.size:=by
 rcases h with ⟨e1,_⟩ | ⟨g',cap,e1,_,hg',_⟩
 ·rw[e1] at e;simp[Value.ownBlock] at e
 ·rw[e1] at e;simp[Value.ownBlock] at e;omega
theorem zDa (ev rg:Value) (es:List Q.Ev) (w:World) (he:zAW w ev es) (hrg:∃ a n c,rg=.slice a n c) (hn:es.length≤64) :
  Calls Tryz.prog 71 #[.agg #[ev,rg]] w fun e w'=>zIc w w' (Q.zIk es) e:=by
 obtain⟨i0,hi0,hz0,hz1,hz2⟩:=info_parts Tryz.infoIntM
 obtain⟨j0,hj0,hy0,hy1,hy2⟩:=info_parts Tryz.infoRow
 obtain⟨ea,ec,rfl,hea⟩:=he.form
 obtain⟨ra,rn,rc,rfl⟩:=hrg
 obtain⟨k0,k1,hsz,hbw⟩:=zBM w #[.slice ea es.length ec,.slice ra rn rc] #[.slice none 0 0,.slice none 0 0,.slice none 0 0,.bool false] 61 73
 have HE0:=zAa (he.below hbw)
 have BW0:=zAa hbw
 clear hbw he hea
 go_enter Tryz.func71,Tryz.ntmps71
 go_upto_region 1 with fail
 generalize hE:(w.alloc (.cells #[.slice ea es.length ec,.slice ra rn rc] 61)).alloc (.cells #[.slice none 0 0,.slice none 0 0,.slice none 0 0,.bool false] 73)=W0 at *
 have c00:=ceL k0 0 _ rfl
 have c01:=ceL k0 1 _ rfl
 have l0:w.heap.size<W0.heap.size:=by omega
 have l1:w.heap.size+1<W0.heap.size:=by omega
 have hszl:w.heap.size+2≤W0.heap.size:=by omega
 have K1:=zAa k1
 clear hE k0 k1 hsz
 go_wp2
 go_loopw [3,4,10] (fun a b j wr=>∃ (k:Nat) (cv bv:Value) (vs:List Value),k≤es.length∧j=.int .i64 k∧a=cv∧b=bv∧Hid (RowsI wr W0.heap.size cv (Q.chTo es k) vs)∧Hid (wr.ownsRow W0.heap.size 3 1 bv k ((Q.lens (Q.chTo es k)).map (Value.int .i64)))∧Hid (∀ u∈vs,∀ y,u.ownBlock=some y→W0.heap.size≤y∧y<wr.heap.size∧bv.ownBlock≠some y∧cv.ownBlock≠some y)∧Hid (Below W0.heap.size W0 wr)) (fun _ _ j _=>es.length-(intOf j).toNat)
 case atStart=>exact⟨0,_,_,[],Nat.zero_le _,rfl,rfl,rfl,⟨by simpa [Q.chTo] using World.ownsRow_nil _ _ _ _,rfl,fun i h=>by simp[Q.chTo] at h⟩,by simpa [Hid,Q.chTo,Q.lens] using World.ownsRow_nil _ _ _ _,by simp[Hid],Below.refl _ _⟩
 case round =>
  obtain⟨k,cv,bv,vs,hk,rfl,hcv,hbv,HC,HO,HD,HB⟩:=hrel
  have hcv:=hcv.symm
  subst hcv
  have hbv:=hbv.symm
  subst hbv
  by_cases hlt:k<es.length
  ·have hin:(k:Int)<(es.length:Int):=by omega
   have d0:=cfL HB.out l0 c00
   have d1:=cfL HB.out l0 c01
   have lw:=Nat.lt_of_lt_of_le l0 HB.out.size
   have HEk:=zAa (HE0.out.below HB.out)
   have HS:=zAa (Q.chTo_succ es k)
   have hmb:(Q.zJk es k).length≤64:=by
    unfold Q.zJk
    split
    ·have:=Q.zKj es k es.length;unfold Q.mayTo at this;omega
    ·simp
   have hclen:=Q.chTo_len es k
   obtain⟨ca,cc,hcf,_⟩:=HC.out.form
   rw[hclen] at hcf
   go_upto_region 7 with (first | (go_at_call 106;refine (zFc _ _ es k _ HEk.out ⟨_,_,_,rfl⟩ hlt hn).mono ?_;rintro e w1 ⟨mv,rfl,hmr,hmf,hb1⟩))
   obtain⟨ma,mc,hmv,_⟩:=hmr.form
   generalize hmm:Q.zJk es k=mr at *
   subst hmv
   have B1:Hid (Below W0.heap.size W0 w1):=zAn HB.out (Nat.le_refl _) hb1
   have C1:=zAa (HC.out.below hb1)
   have O1:Hid (w1.ownsRow W0.heap.size 3 1 bv k ((Q.lens (Q.chTo es k)).map (Value.int .i64))):=zAc HO.out (fun y e=>hb1.block y (HO.out.lt y e).2)
   have M1:=zAa hmr
   have hwr1:=hb1.size
   have hW1:W0.heap.size≤w1.heap.size:=B1.out.size
   have HCL:Hid ((Q.chTo es k).length=k):=hclen
   have C1o:Hid ((w1.alloc (.cells #[.slice ma mr.length mc] 31)).ownsRow W0.heap.size 31 1 cv k vs):=by
    have h1:=C1.out.own
    rw[hclen] at h1
    exact zAc h1 (fun y e=>Below.heap_alloc _ _ _ (h1.lt y e).2)
   have HN1:Hid (∀ j u,[Value.slice ma mr.length mc][j]?=some u→(w1.alloc (.cells #[.slice ma mr.length mc] 31)).cell? ((⟨w1.heap.size,0,none⟩:Addr).add j)=some u):=World.news_of_block (cs:=#[.slice ma mr.length mc]) (t:=31) (fr:=(0,0)) (heap_alloc_new w1 _)
   clear hclen
   subst hcf
   go_upto_region 8 with (first | (at_builtin;refine wpList_append_lies _ rfl (.tmp 16) (.tmp 18) 27 rfl W0.heap.size 31 j0 (.slice none 0 0) 1 24 Tryz.underlying27 hj0 hy0 hy1 hy2 rfl (by decide) (.slice ca k cc) k vs rfl (by exact C1o.out) ⟨w1.heap.size,0,none⟩ 1 1 [.slice ma mr.length mc] rfl rfl (by exact HN1.out) (by simp[Value.oneCell']) (by decide) (by unfold maxLen;omega) (by omega) (by simp;omega) _ rfl ?_;intro gn cn w2 hown2 hgrow2 hat2 hlt2))
   have hcl1:∀ y,(Value.slice ca k cc).ownBlock=some y→y<wr.heap.size:=fun y e=>(HC.out.own.lt y e).2
   have hbl1:∀ y,bv.ownBlock=some y→y<wr.heap.size:=fun y e=>(HO.out.lt y e).2
   have BA:Below w1.heap.size w1 (w1.alloc (.cells #[.slice ma mr.length mc] 31)):=(Below.refl _ _).alloc (Nat.le_refl _) _
   have hdv:∀ x∈vs++[Value.slice ma mr.length mc],∀ y,x.ownBlock=some y→(Value.slice ca k cc).ownBlock≠some y∧bv.ownBlock≠some y∧W0.heap.size≤y∧y<w1.heap.size:=fun x hx y e=>by
    rcases List.mem_append.1 hx with hx | hx
    ·obtain⟨q1,q2,q3,q4⟩:=HD.out x hx y e
     exact⟨q4,q3,q1,by omega⟩
    ·simp at hx
     subst hx
     have q1:=hmf y e
     have q2:=M1.out.ownlt y e
     exact⟨fun e2=>by have:=hcl1 y e2;omega,fun e2=>by have:=hbl1 y e2;omega,by have:=HB.out.size;omega,q2⟩
   have C2:Hid (RowsI w2 W0.heap.size (.slice (some ⟨gn,0,none⟩) (k+1) cn) (Q.chTo es (k+1)) (vs++[.slice ma mr.length mc])):=by
    unfold Hid
    rw[HS.out]
    exact (C1.out.below BA).snoc (M1.out.below BA) (by rw[HCL.out];exact hown2) hgrow2 (fun x hx y e=>(hdv x hx y e).1)
   have O2:=zBx (zAc O1.out (fun y e=>BA.block y (O1.out.lt y e).2)) C1o.out (by decide) hgrow2
   have O2h:=zAa O2.1
   have hW2:w1.heap.size+1≤w2.heap.size:=by have:=hgrow2.size;simp at this;omega
   have B2:Hid (Below W0.heap.size W0 w2):=(B1.out.alloc hW1 _).trans ⟨hgrow2.os,hgrow2.tape,hgrow2.output,hgrow2.size,fun y hy=>hgrow2.block y (by simp;omega) (fun e=>by have:=(C1o.out.lt y e.symm).1;omega)⟩
   have AT2:Hid ((Value.slice ca k cc).ownBlock=some gn∨w1.heap.size≤gn):=by
    rcases hat2 with h1 | h1
    ·exact Or.inl h1
    ·exact Or.inr (by simp at h1;omega)
   have HDV:=zAa hdv
   have HCB:Hid (∀ y,bv.ownBlock=some y→(Value.slice ca k cc).ownBlock≠some y∧y<wr.heap.size):=fun y e=>⟨O2.2 y e,hbl1 y e⟩
   have HCC:=zAa hcl1
   have hml:mr.length≤64:=hmb
   have O2o:Hid ((w2.alloc (.cells #[.int .i64 (mr.length:Int)] 3)).ownsRow W0.heap.size 3 1 bv k ((Q.lens (Q.chTo es k)).map (Value.int .i64))):=zAc O2.1 (fun y e=>Below.heap_alloc _ _ _ (O2.1.lt y e).2)
   have HN2:Hid (∀ j u,[Value.int .i64 (mr.length:Int)][j]?=some u→(w2.alloc (.cells #[.int .i64 (mr.length:Int)] 3)).cell? ((⟨w2.heap.size,0,none⟩:Addr).add j)=some u):=World.news_of_block (cs:=#[.int .i64 (mr.length:Int)]) (t:=3) (fr:=(0,0)) (heap_alloc_new w2 _)
   obtain⟨ba,bc,hbf⟩:∃ a c,bv=.slice a k c:=by
    rcases HO.out.2 with ⟨e,h0⟩ | ⟨g',c,cur,e,_⟩
    ·exact⟨none,0,by rw[e,h0]⟩
    ·exact⟨_,c,e⟩
   clear hown2 hgrow2 hat2 O2 BA hdv hcl1 hbl1 hmf hmr hb1
   subst hbf
   go_wp2_with (first | (at_builtin;refine wpList_append_lies _ rfl (.tmp 20) (.tmp 23) 31 rfl W0.heap.size 3 i0 (.int .i64 0) 1 8 Tryz.underlying31 hi0 hz0 hz1 hz2 rfl (by decide) (.slice ba k bc) k ((Q.lens (Q.chTo es k)).map (Value.int .i64)) rfl (by exact O2o.out) ⟨w2.heap.size,0,none⟩ 1 1 [.int .i64 (mr.length:Int)] rfl rfl (by exact HN2.out) (by simp[Value.oneCell']) (by decide) (by unfold maxLen;omega) (by omega) (by simp;omega) _ rfl ?_;intro g3 c3 w3 hown3 hgrow3 hat3 hlt3))
   have BA3:Below w2.heap.size w2 (w2.alloc (.cells #[.int .i64 (mr.length:Int)] 3)):=(Below.refl _ _).alloc (Nat.le_refl _) _
   have C3:Hid (RowsI w3 W0.heap.size (.slice (some ⟨gn,0,none⟩) (k+1) cn) (Q.chTo es (k+1)) (vs++[.slice ma mr.length mc])):=(C2.out.below BA3).grown hgrow3 (fun y e e2=>by
    simp[Value.ownBlock] at e
    obtain⟨q1,q2⟩:=HCB.out y e2
    rcases AT2.out with h4 | h4
    ·exact q1 (by rw[h4,e])
    ·omega) (fun x hx y e=>(HDV.out x hx y e).2.1)
   have O3:Hid (w3.ownsRow W0.heap.size 3 1 (.slice (some ⟨g3,0,none⟩) (k+1) c3) (k+1) ((Q.lens (Q.chTo es (k+1))).map (Value.int .i64))):=by
    unfold Hid;rw[HS.out,Q.lens_snoc,List.map_append];exact hown3
   have B3:Hid (Below W0.heap.size W0 w3):=(B2.out.alloc (by omega) _).trans ⟨hgrow3.os,hgrow3.tape,hgrow3.output,hgrow3.size,fun y hy=>hgrow3.block y (by simp;omega) (fun e=>by have:=(O2o.out.lt y e.symm).1;omega)⟩
   have hW3:w2.heap.size+1≤w3.heap.size:=by have:=hgrow3.size;simp at this;omega
   have D3:Hid (∀ u∈vs++[Value.slice ma mr.length mc],∀ y,u.ownBlock=some y→W0.heap.size≤y∧y<w3.heap.size∧(Value.slice (some ⟨g3,0,none⟩) (k+1) c3).ownBlock≠some y∧(Value.slice (some ⟨gn,0,none⟩) (k+1) cn).ownBlock≠some y):=fun u hu y e=>by
    obtain⟨q1,q2,q3,q4⟩:=HDV.out u hu y e
    refine⟨q3,by omega,fun e2=>?_,fun e2=>?_⟩
    ·simp[Value.ownBlock] at e2
     rcases hat3 with h4 | h4
     ·exact q2 (by rw[h4,e2])
     ·simp at h4;omega
    ·simp[Value.ownBlock] at e2
     rcases AT2.out with h4 | h4
     ·exact q1 (by rw[h4,e2])
     ·omega
   clear hown3 hgrow3 hat3
   go_roundw
   case rel=>exact⟨k+1,_,_,_,by omega,by go_num,rfl,rfl,C3,O3,D3,B3⟩
   case measure=>simp[intOf];omega
  ·have hkn:k=es.length:=by omega
   have HL:Hid ((Q.lens (Q.zIk es)).length=(Q.zIk es).length):=Q.zJf _
   have HLC:Hid ((Q.zIk es).length=es.length):=by simp[Hid,Q.zIk]
   have C0:Hid (RowsI wr W0.heap.size cv (Q.zIk es) vs):=by have h1:=HC.out;rw[hkn,Q.zKt] at h1;exact h1
   have O0:Hid (zBA wr bv (Q.lens (Q.zIk es))):=by
    have h1:=HO.out
    rw[hkn,Q.zKt] at h1
    exact zCr h1 (by rw[HL.out,HLC.out])
   have HCO:=zAa (fun y e=>(HC.out.own.lt y e).2:∀ y,cv.ownBlock=some y→y<wr.heap.size)
   obtain⟨ca,cc,hcf,_⟩:=C0.out.form
   obtain⟨ba,bc,hbf,_⟩:=O0.out.form
   clear HC HO
   subst hcf hbf
   go_wp2_with (first | (go_at_call 66;refine (zBQ _ (Q.lens (Q.zIk es)) _ O0.out (by rw[HL.out,HLC.out];omega)).mono ?_;rintro e w2 ⟨v1,v2,v3,rfl,⟨gb,gd,rfl,rfl,rfl,hib,hid,hgb,hgd,hne⟩,hb2⟩;have B2:Hid (Below W0.heap.size W0 w2):=zAn HB.out (Nat.le_refl _) hb2;have K2:=zAa ((B2.out.block _ l1).trans K1.out);obtain⟨t0,t1,t2,t3,tf,tl⟩:=zBZ K2.out;have IB:=zAa hib;have ID:=zAa hid;have C2:=zAa (C0.out.below hb2);rw[HL.out]))
   obtain⟨s0,s1,s2⟩:=zIa (s0:=.slice ca (Q.zIk es).length cc) (s1:=.slice (some ⟨gb,0,none⟩) (Q.zIk es).length (Q.zIk es).length) (s2:=.slice (some ⟨gd,0,none⟩) (Q.zIk es).length (Q.zIk es).length) (s3:=.bool false) K2.out
   have hws:=HB.out.size
   have hID:=ID.out
   rw[HL.out] at hID
   have hnr:∀ {B n sz:Nat} {t:TypeId} {v:Value} {xs:List Value},w2.ownsRow B t sz v n xs→t≠73→∀ k,v.ownBlock=some k→k≠w.heap.size+1:=fun h ht k e e2=>by
    rcases h.2 with ⟨e1,_⟩ | ⟨g1,c1,cur1,e1,_,h1,_⟩
    ·rw[e1] at e;simp[Value.ownBlock] at e
    ·rw[e1] at e;simp[Value.ownBlock] at e
     rw[e,e2,K2.out] at h1;simp at h1;exact ht h1.2.symm
   refine zBd (p:=2) (w.heap.size+1) _ (by kernel_rfl) Tryz.underlying73 rfl (by kernel_rfl) rfl (by exact s0) rfl ⟨_,vs,gb,gd,rfl,⟨?_,C2.out.len,fun i hi x hx=>?_⟩,IB.out.of_block (s1 _ (by omega)),hID.of_block (s1 _ (by omega)),by omega,by omega,hne,fun e=>by have:=HCO.out gd e;omega,fun u hu y e=>⟨by have:=(HD.out u hu y e).1;omega,by have:=(HD.out u hu y e).2.1;omega⟩,s2 _ _ (by omega) (zAn BW0.out (Nat.le_refl _) B2.out)⟩
   ·have h1:=zAc C2.out.own (fun k e=>s1 k (hnr C2.out.own (by decide) k e))
    refine⟨h1.1,?_⟩
    rcases h1.2 with h0 | ⟨g',cap,cur,e,hge,q⟩
    ·exact Or.inl h0
    ·exact Or.inr ⟨g',cap,cur,e,by omega,q⟩
   ·have hr:=C2.out.rows i hi x hx
    refine hr.own _ (fun k e=>s1 k (by have:=(HD.out x (List.mem_of_getElem? hx) k e).1;omega)) ?_
    have:=(s2 w2 0 (Nat.zero_le _) (Below.refl _ _)).size;exact this
structure RdOn (w:World) (g o:Nat) (cv:Value) (vs:List Value) (gb gd:Nat) (cs:List (List Int)) (ds:List Int) (rest:List (List Int)):Prop where
 c0:w.cell? ⟨g,o,none⟩=some cv
 rows:RowsI w 0 cv cs vs
 ctr:zDe w g (o+1) gb gd (Q.lens cs) ds rest
 nc:cv.ownBlock≠some gd∧cv.ownBlock≠some g
 ne:∀ u∈vs,∀ k,u.ownBlock=some k→k≠gd∧k≠g
theorem RdOn.below {w w':World} {g o:Nat} {cv:Value} {vs:List Value} {gb gd:Nat} {cs:List (List Int)} {ds:List Int} {rest:List (List Int)} (h:RdOn w g o cv vs gb gd cs ds rest) (hb:Below w.heap.size w w'):RdOn w' g o cv vs gb gd cs ds rest:=by
 obtain⟨b,hc⟩:=h.ctr.ctr
 exact⟨(hb.cell hc.lt).trans h.c0,h.rows.below hb,h.ctr.below hb,h.nc,h.ne⟩
theorem RowsI.ticked {w w':World} {B g o gd:Nat} {v:Value} {rs:List (List Int)} {vs:List Value} (h:RowsI w B v rs vs) (hT:Ticked w w' g o gd) (hv:v.ownBlock≠some gd∧v.ownBlock≠some g) (hne:∀ u∈vs,∀ k,u.ownBlock=some k→k≠gd∧k≠g):RowsI w' B v rs vs :=
 ⟨zAc h.own (fun k e=>hT.block k (fun e2=>hv.2 (by rw[e,e2])) (fun e2=>hv.1 (by rw[e,e2]))),h.len,fun i hi x hx=>(h.rows i hi x hx).own w' (fun k e=>hT.block k (hne x (List.mem_of_getElem? hx) k e).2 (hne x (List.mem_of_getElem? hx) k e).1) (by rw[hT.size];exact Nat.le_refl _)⟩
theorem zGc (g o:Nat) (cv:Value) (vs:List Value) (gb gd:Nat) (cs:List (List Int)) (ds:List Int) (rest:List (List Int)) (w:World) (h:RdOn w g o cv vs gb gd cs ds rest) (hn:cs.length<10000) (hb:∀ b∈Q.lens cs,b<1000000000) :
  Calls Tryz.prog 67 #[.pointer (some ⟨g,o,none⟩)] w fun e w'=>((rest=[]∧e=.returned (.bool false))∨∃ r q,rest=r::q∧e=.returned (.bool true)∧RdOn w' g o cv vs gb gd cs r q∧Q.DigOk (Q.lens cs) r)∧Ticked w w' g (o+1) gd:=by
 have H:=zAa h
 obtain⟨b,hc⟩:=h.ctr.ctr
 have hl:=hc.lt
 clear h hc
 go_enter Tryz.func67,Tryz.ntmps67
 go_wp2_with (first | (go_at_call 80;refine (zFa g (o+1) gb gd (Q.lens cs) ds rest _ H.out.ctr (by rw[Q.zJf];exact hn) hb).mono ?_;rintro e w' ⟨h1,hT⟩;have HT:=zAa hT;rcases h1 with ⟨hr,rfl⟩ | ⟨r,q,hr,rfl,hc,hd⟩))
 ·go_ret
  exact⟨Or.inl ⟨hr,rfl⟩,HT.out⟩
 ·go_ret
  have T:=HT.out
  exact⟨Or.inr ⟨r,q,hr,rfl,⟨(T.cell o (by omega)).trans H.out.c0,H.out.rows.ticked T H.out.nc H.out.ne,hc,H.out.nc,H.out.ne⟩,hd⟩,T⟩
namespace Q
def readF (cs:List (List Int)) (ds:List Int) (i:Nat):Int:=(cs.getD i []).getD (ds.getD i 0).toNat (-1)
theorem readsOf_map (cs:List (List Int)) (ds:List Int):zJl cs ds=(List.range cs.length).map (readF cs ds):=rfl
theorem lens_get (cs:List (List Int)) (i:Nat) (h:i<cs.length):(lens cs).getD i 0=(cs[i].length:Int):=by
 rw[zAH _ _ (by rw[zJf];exact h)];simp[lens]
end Q
theorem zGd (g o:Nat) (cv:Value) (vs:List Value) (gb gd:Nat) (cs:List (List Int)) (ds:List Int) (rest:List (List Int)) (w:World) (h:RdOn w g o cv vs gb gd cs ds rest) (hd:Q.DigOk (Q.lens cs) ds) (hn:cs.length<1000) (hb:∀ c∈cs,c.length<1000) :
  Calls Tryz.prog 49 #[.pointer (some ⟨g,o,none⟩)] w fun e w'=>∃ gr,e=.returned (.slice (some ⟨gr,0,none⟩) cs.length cs.length)∧zAp w' gr (Q.zJl cs ds)∧w.heap.size≤gr∧Below w.heap.size w w':=by
 have hmk:∀ w,(Instr.makeSlice 31 (.int .i64 (cs.length:Int)) (.int .i64 (cs.length:Int))).run Tryz.prog w=.ok (.slice (some ⟨w.heap.size,0,none⟩) cs.length cs.length) (w.alloc (.cells (madeCells #[.int .i64 0] cs.length) 3)) :=
  fun w=>run_make_row' 31 3 (.int .i64 0) 8 Tryz.underlying31 Tryz.infoInt rfl .i64 .i64 cs.length (by omega) (by omega) w
 obtain⟨bg,hc⟩:=h.ctr.ctr
 have hdl:ds.length=cs.length:=by rw[hc.len,Q.zJf]
 obtain⟨ca,cc,rfl,hca⟩:=h.rows.form
 have c0:=h.c0
 have c2:=hc.c1
 rw[hdl] at c2
 have hgl:=hc.lt
 have HDG:=zAa hc.digits
 have hgd:=hc.digits.lt
 have HRW:=zAa h.rows
 have HDB:Hid (∀ i (hi:i<cs.length),0≤ds.getD i 0∧ds.getD i 0<(cs[i].length:Int)):=fun i hi=>by
  have h1:=hd.rng i (by omega)
  rw[Q.lens_get cs i hi] at h1
  rw[zAH ds i (by omega)];exact h1
 have HRE:=zAa (Q.readsOf_map cs ds)
 have HCB:=zAa hb
 have HM0:Hid (zAp (w.alloc (.cells (madeCells #[.int .i64 0] cs.length) 3)) w.heap.size (Q.mixI (Q.readF cs ds) cs.length 0)):=by
  unfold Hid zAp;rw[Q.zJL,← zBX];exact heap_alloc_new w _
 have HB0:Hid (Below w.heap.size w (w.alloc (.cells (madeCells #[.int .i64 0] cs.length) 3))):=(Below.refl _ _).alloc (Nat.le_refl _) _
 have c2':w.cell? ⟨g,o+2,none⟩=some (.slice (some ⟨gd,0,none⟩) cs.length cs.length):=c2
 clear h hc hd c2 hb
 go_enter Tryz.func49,Tryz.ntmps49
 go_wp2
 go_loopw [17] (fun j wr=>∃ (k:Nat),k≤cs.length∧j=.int .i64 k∧Hid (zAp wr w.heap.size (Q.mixI (Q.readF cs ds) cs.length k))∧Hid (Below w.heap.size w wr)) (fun j _=>cs.length-(intOf j).toNat)
 case atStart=>exact⟨0,Nat.zero_le _,rfl,HM0,HB0⟩
 case round =>
  obtain⟨k,hk,rfl,HI,HB⟩:=hrel
  by_cases hlt:k<cs.length
  ·have hin:(k:Int)<(cs.length:Int):=by omega
   obtain⟨bc,rfl,_,hbc,hcs⟩:=hca (by omega)
   have hkv:k<vs.length:=by rw[HRW.out.len];exact hlt
   have HRK:=HRW.out.rows k hlt vs[k] (List.getElem?_eq_getElem hkv)
   obtain⟨ma,mc,hmv,hma⟩:=HRK.form
   have hdb:=HDB.out k hlt
   obtain⟨d,hdd⟩:∃ d:Nat,ds.getD k 0=(d:Int):=⟨(ds.getD k 0).toNat,by omega⟩
   have hdl2:d<cs[k].length:=by omega
   obtain⟨gm,hgm,hgml,hcm⟩:=hma (by omega)
   have e1:=(HB.out.cell (p:=⟨bc,k,none⟩) hbc).trans (hcs k hkv)
   rw[hmv,hgm] at e1
   have l1:=Nat.lt_of_lt_of_le hbc HB.out.size
   have d0:=cfL HB.out hgl c0
   have d2:=(HB.out.cell (p:=⟨g,o+2,none⟩) hgl).trans c2'
   have lg:=Nat.lt_of_lt_of_le hgl HB.out.size
   have dg:wr.cell? ⟨gd,k,none⟩=some (.int .i64 (d:Int)):=by rw[← hdd];exact (HB.out.cell (p:=⟨gd,k,none⟩) hgd).trans (HDG.out.cellD k (by omega))
   have lgd:=Nat.lt_of_lt_of_le hgd HB.out.size
   have dm:wr.cell? ⟨gm,d,none⟩=some (.int .i64 (cs[k].getD d (-1))):=by rw[zAH _ _ hdl2];exact (HB.out.cell (p:=⟨gm,d,none⟩) hgml).trans (hcm d hdl2)
   have lgm:=Nat.lt_of_lt_of_le hgml HB.out.size
   have lp:=HI.out.lt
   have hkl:k<(Q.mixI (Q.readF cs ds) cs.length k).length:=by rw[Q.zJC];exact hlt
   have cp:=HI.out.cellD k hkl
   have fp:=HI.out.free k
   have HJ1:=zAa ((HI.out.set k (-1)).set k (cs[k].getD d (-1)))
   have HMS:=zAa (Q.zKf (Q.readF cs ds) cs.length k hlt)
   have HRF:Hid (Q.readF cs ds k=cs[k].getD d (-1)):=by
    unfold Hid Q.readF
    have e2:cs.getD k []=cs[k]:=by simp[hlt]
    rw[e2,hdd];rfl
   rw[HRF.out] at HMS
   rw[List.set_set,HMS.out] at HJ1
   have hdI:(d:Int)<(cs[k].length:Int):=by omega
   have hcb:=HCB.out cs[k] (List.getElem_mem hlt)
   clear hdd hmv hma hcm HRK hcs hdb hgm
   generalize cs[k].getD d (-1)=val at *
   generalize hcl:cs[k].length=cl at *
   generalize (Q.mixI (Q.readF cs ds) cs.length k).getD k 0=pk0 at *
   have BJ:Hid (Below w.heap.size w ((wr.setCell ⟨w.heap.size,k,none⟩ (.int .i64 (-1))).setCell ⟨w.heap.size,k,none⟩ (.int .i64 val))):=(HB.out.setCell (p:=⟨w.heap.size,k,none⟩) (Nat.le_refl _) _).setCell (p:=⟨w.heap.size,k,none⟩) (Nat.le_refl _) _
   have n1:g≠w.heap.size:=by omega
   have n2:gd≠w.heap.size:=by omega
   have n3:gm≠w.heap.size:=by omega
   have n4:bc≠w.heap.size:=by omega
   clear hcl
   go_wp2
   go_roundw
   case rel=>exact⟨k+1,by omega,by go_num,HJ1,BJ⟩
   case measure=>simp[intOf];omega
  ·have hkn:k=cs.length:=by omega
   go_wp2
   go_ret
   refine⟨w.heap.size,rfl,?_,Nat.le_refl _,HB.out⟩
   have h1:=HI.out
   rw[hkn,Q.zJM,← HRE.out] at h1
   exact h1
theorem zEy (B g k:Nat) (m:Q.Mach) (ev:Value) (st:P.Stm) (w:World) (h:MachIn w B g m ev) (hok:m.Ok k) (hst:Q.StOk st) (hk:k<1000) (hB:B≤w.heap.size) :
  Calls Tryz.prog 137 #[.pointer (some ⟨g,0,none⟩),.agg (zAd st)] w fun x w'=>x=.returned (.tuple #[])∧zCv B g w w' ev (m.step st):=by
 obtain⟨k0,hsz,hbw⟩:=zBt w (zAd st) 97
 have HM0:=zAa (h.below hbw)
 have BW0:=zAa hbw
 have HST:Hid (zAu _ _ st):=k0
 have ha:=hok.value (a:=⟨st.a.reg,st.a.n⟩) hst.1
 have hml:=zBk hok.made ⟨st.a.reg,st.a.n⟩
 have hlen:=hok.len
 have hun:=hok.unread
 obtain⟨r1,r2,r3,r4,r5,r6⟩:=hok.read st
 have hvr:0≤(m.read st).valueOf m.events.length∧(m.read st).valueOf m.events.length<4:=by
  have hx:(m.read st).Ok (k+1):=⟨r1,r2,r3,r4,by omega,by have:=hok.bars;show m.bars≤k+1;omega,r6⟩
  exact hx.valueOf _
 have hone:=Q.zKw (m.events.length:Nat)
 have hor:=bits_or_u64_nat (m.madeOf ⟨st.a.reg,st.a.n⟩) (Q.one (m.events.length:Nat)) hml hone
 have hol:=Q.or_lt hml hone
 have hszB:=hbw.size
 have HWL:Hid (∀ v s,((m.read st).write st v s).events.length=m.events.length+2):=fun v s=>by simp[Q.Mach.write,Q.Mach.put,Q.Mach.read]
 clear h hbw k0 hsz r1 r2 r4 r6
 simp only[zAd] at *
 go_enter Tryz.func137,Tryz.ntmps137
 go_upto_region 1 with fail
 generalize hE:w.alloc (.cells #[.int .i64 st.kind,.int .i64 st.line,.int .i64 st.dest,.int .i64 st.var,.bool st.a.reg,.int .i64 st.a.n,.bool st.b.reg,.int .i64 st.b.n,.int .i64 st.order,.int .i64 st.scope,.int .i64 st.label] 97)=W0 at *
 obtain⟨s0,s1,s2,s3,s4,s5,s6,s7,s8,s9,s10,s11,s12⟩:=HST.out.facts
 clear hE
 go_upto_region 4 with (first
  | (go_at_call 134;refine (zEw B g m ev st _ HM2.out (by omega) (by omega) hun).mono ?_;rintro e w3 ⟨rfl,ev3,hm3,hf3⟩;have HM3:=zAa hm3;have HS3:=zAa (hf3.stm HM2.out HS2.out);have hz3:=hf3.size;have F3:=zAa ((MFrame.of (zAn (zAn BW0.out (Nat.le_refl _) hb1) (Nat.le_refl _) hb2) g ev).trans hf3);clear hm3 hf3 s0 s1 s2 s3 s4 s5 s6 s7 s8 s9 s10 s11 s12;obtain⟨s0,s1,s2,s3,s4,s5,s6,s7,s8,s9,s10,s11,s12⟩:=HS3.out.facts)
  | (go_at_call 119;refine (zBc B g m ev st.a.reg st.a.n _ HM1.out).mono ?_;rintro e w2 ⟨rfl,hb2⟩;have HM2:=zAa (HM1.out.below hb2);have hz2:=hb2.size;have HS2:=zAa (HS1.out.below hb2);clear s0 s1 s2 s3 s4 s5 s6 s7 s8 s9 s10 s11 s12;obtain⟨s0,s1,s2,s3,s4,s5,s6,s7,s8,s9,s10,s11,s12⟩:=HS2.out.facts)
  | (go_at_call 120;refine (zBY B g m ev st.a.reg st.a.n _ HM0.out).mono ?_;rintro e w1 ⟨rfl,hb1⟩;have HM1:=zAa (HM0.out.below hb1);have hz1:=hb1.size;have HS1:=zAa (HST.out.below hb1);clear s0 s1 s2 s3 s4 s5 s6 s7 s8 s9 s10 s11 s12;obtain⟨s0,s1,s2,s3,s4,s5,s6,s7,s8,s9,s10,s11,s12⟩:=HS1.out.facts))
 cases z2:(st.kind==2)
 ·have HE:Hid (m.step st=((m.read st).write st (m.value ⟨st.a.reg,st.a.n⟩) (m.madeOf ⟨st.a.reg,st.a.n⟩)).giveRead st.dest m.events.length):=by unfold Hid Q.Mach.step;rw[z2];rfl
  generalize m.value ⟨st.a.reg,st.a.n⟩=x at *
  generalize m.madeOf ⟨st.a.reg,st.a.n⟩=y at *
  go_wp2_with (first
   | (go_at_call 135;refine (zCk B g _ ev4 st.dest m.events.length _ HM4.out (by rw[HWL.out];omega) (by rw[HWL.out];omega)).mono ?_;rintro e w5 ⟨rfl,hm5,hf5⟩)
   | (go_at_call 147;refine (zCM B g (m.read st) ev3 st x y _ HM3.out (by omega) (by omega) r3 hml).mono ?_;rintro e w4 ⟨rfl,ev4,hm4,hf4⟩;have HM4:=zAa hm4;have HS4:=zAa (hf4.stm HM3.out HS3.out);have F4:=zAa (F3.out.trans hf4);clear hm4 hf4 s0 s1 s2 s3 s4 s5 s6 s7 s8 s9 s10 s11 s12;obtain⟨s0,s1,s2,s3,s4,s5,s6,s7,s8,s9,s10,s11,s12⟩:=HS4.out.facts))
  go_end0
  refine⟨rfl,ev4,?_,F4.out.trans hf5⟩
  rw[HE.out];exact hm5
 ·have HE:Hid (m.step st=((m.read st).write st ((m.value ⟨st.a.reg,st.a.n⟩+(m.read st).valueOf m.events.length) % 4) (m.madeOf ⟨st.a.reg,st.a.n⟩ ||| Q.one (m.events.length:Nat))).giveRead st.dest m.events.length):=by unfold Hid Q.Mach.step;rw[z2];rfl
  generalize hx:m.value ⟨st.a.reg,st.a.n⟩=x at *
  generalize hy:m.madeOf ⟨st.a.reg,st.a.n⟩=y at *
  generalize hv:(m.read st).valueOf m.events.length=v at *
  clear hx hy
  go_wp2_with (first
   | (go_at_call 135;refine (zCk B g _ ev4 st.dest m.events.length _ HM4.out (by rw[HWL.out];omega) (by rw[HWL.out];omega)).mono ?_;rintro e w5 ⟨rfl,hm5,hf5⟩)
   | (go_at_call 147;refine (zCM B g (m.read st) ev3 st ((x+v) % 4) (y ||| Q.one (m.events.length:Nat)) _ HM3.out (by omega) (by omega) r3 hol).mono ?_;rintro e w4 ⟨rfl,ev4,hm4,hf4⟩;have HM4:=zAa hm4;have HS4:=zAa (hf4.stm HM3.out HS3.out);have F4:=zAa (F3.out.trans hf4);clear hm4 hf4 s0 s1 s2 s3 s4 s5 s6 s7 s8 s9 s10 s11 s12;obtain⟨s0,s1,s2,s3,s4,s5,s6,s7,s8,s9,s10,s11,s12⟩:=HS4.out.facts)
   | (go_at_call 146;refine (zDt B g (m.read st) ev3 m.events.length _ HM3.out (by omega) (by omega)).mono ?_;rintro e w' ⟨rfl,hw'⟩;have hw':=hw'.symm;subst hw';rw[hv])
   | (go_at_call 107;refine (zDV _ _).mono ?_;rintro e w' ⟨rfl,hw'⟩;have hw':=hw'.symm;subst hw'))
  go_end0
  refine⟨rfl,ev4,?_,F4.out.trans hf5⟩
  rw[HE.out];exact hm5
end Go.Proofs.YtkmebkbpfmoeaaaGreat
