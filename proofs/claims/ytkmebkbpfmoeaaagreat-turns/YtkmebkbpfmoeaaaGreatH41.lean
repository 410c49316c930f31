import Derived.Test.YtkmebkbpfmoeaaaGreatH40
set_option linter.unusedVariables false
set_option linter.unusedSimpArgs false
set_option maxHeartbeats 12800000
namespace Go.Proofs.YtkmebkbpfmoeaaaGreat
namespace Q
def FirstOk (es:List Ev):Prop:=∀ i k,i<es.length→k<es.length→i≠k→(ev es i).kind=1→(ev es k).kind=1→(ev es i).var=(ev es k).var→(ev es k).thread=-1→k<i∧(ev es i).thread≠-1
structure PlOk (es:List Ev) (rs p:List Int) (m:Nat):Prop where
 pos:∀ i,i<m→rs.getD i (-1)≠-1→0≤p.getD i 0
 inj:∀ i k,i<m→k<m→i≠k→rs.getD i (-1)≠-1→rs.getD i (-1)=rs.getD k (-1)→p.getD i 0≠p.getD k 0
 first:∀ i,i<m→rs.getD i (-1)≠-1→(ev es i).thread=-1→p.getD i 0=0
theorem dig_get:∀ {bs ds:List Int},DigOk bs ds→∀ i,i<bs.length→0≤ds.getD i 0∧ds.getD i 0<bs.getD i 0
 | [],[],_,i,h=>by simp at h
 | b::bs,d::ds,h,0,_=>⟨h.1,h.2.1⟩
 | b::bs,d::ds,h,i+1,hi=>by
  have:=dig_get h.2.2 i (by simpa using hi)
  simpa using this
 | [],d::ds,h,_,_=>by simp[DigOk] at h
 | b::bs,[],h,_,_=>by simp[DigOk] at h
theorem row_kind {es:List Ev} {i:Nat} (h:i<es.length) (e:(zIj es).getD i (-1)≠-1):(ev es i).kind=1∧(zIj es).getD i (-1)=(ev es i).var:=by
 have r:=writeRows_get es i h
 by_cases c:(ev es i).kind=1
 ·rw[if_pos c] at r;exact⟨c,r⟩
 ·rw[if_neg c] at r;exact absurd r e
theorem places_ok {es:List Ev} (hf:FirstOk es) {ds:List Int} (hd:DigOk (zIp es (zIj es)) ds):∀ m,m≤es.length→((List.range m).foldl (zJx (zIj es) ds) (List.replicate (zIj es).length 0)).length=es.length∧PlOk es (zIj es) ((List.range m).foldl (zJx (zIj es) ds) (List.replicate (zIj es).length 0)) m
 | 0,_=>⟨by simp[writeRows_lenM],fun i h=>absurd h (by omega),fun i k h=>absurd h (by omega),fun i h=>absurd h (by omega)⟩
 | m+1,hm=>by
  rw[zIm]
  obtain⟨h1,h2⟩:=places_ok hf hd m (by omega)
  generalize (List.range m).foldl (zJx (zIj es) ds) (List.replicate (zIj es).length 0)=p at h1 h2
  obtain⟨g1,g2,g3⟩:=placeI_get (zIj es) ds p m (by omega)
  refine⟨by rw[g1];exact h1,?_⟩
  by_cases c:(zIj es).getD m (-1)=-1
  ·have g:=g2 c
   refine⟨fun i hi hr=>?_,fun i k hi hk hne hr he=>?_,fun i hi hr ht=>?_⟩
   ·have:i≠m:=fun e=>hr (e ▸ c)
    rw[g,if_neg this];exact h2.pos i (by omega) hr
   ·have e1:i≠m:=fun e=>hr (e ▸ c)
    have e2:k≠m:=fun e=>hr (by rw[he];exact e ▸ c)
    rw[g,g,if_neg e1,if_neg e2];exact h2.inj i k (by omega) (by omega) hne hr he
   ·have:i≠m:=fun e=>hr (e ▸ c)
    rw[g,if_neg this];exact h2.first i (by omega) hr ht
  ·have g:=g3 c
   have hb:(zIp es (zIj es)).length=es.length:=by simp[zIp,writeRows_lenM]
   obtain⟨d0,d1⟩:=dig_get hd m (by omega)
   have hbase:(zIp es (zIj es)).getD m 0=zIS es (zIj es) m:=by
    unfold zIp
    exact range_getD _ _ _ (by rw[writeRows_lenM];omega)
   have e1:zJT (zIj es) m=(cB m (fun k=>(zIj es).getD k (-1)==(zIj es).getD m (-1)):Nat):=rfl
   have e2:zIS es (zIj es) m=1+(cB m (ordB es (zIj es) m):Nat):=rfl
   have hle:cB m (ordB es (zIj es) m)≤cB m (fun k=>(zIj es).getD k (-1)==(zIj es).getD m (-1)):=cB_mono m (fun k _ e=>by
    unfold ordB at e
    simp only[Bool.and_eq_true] at e
    exact e.1.2)
   rw[hbase,e2] at d1
   have hpl0:0≤zJT (zIj es) m-ds.getD m 0:=by rw[e1];omega
   have hplf:(ev es m).thread=-1→zJT (zIj es) m-ds.getD m 0=0:=fun ht=>by
    have z:cB m (fun k=>(zIj es).getD k (-1)==(zIj es).getD m (-1))=0:=cB_zero m (fun k hk=>by
     rw[beq_eq_false_iff_ne]
     intro e
     obtain⟨k1,r1⟩:=row_kind (es:=es) (i:=m) (by omega) c
     obtain⟨k2,r2⟩:=row_kind (es:=es) (i:=k) (by omega) (by rw[e];exact c)
     have:=(hf k m (by omega) (by omega) (by omega) k2 k1 (by rw[← r1,← r2,e]) ht).1
     omega)
    rw[e1]
    omega
   have hpl1:∀ i,i<m→(zIj es).getD i (-1)=(zIj es).getD m (-1)→(ev es i).thread=-1→1≤zJT (zIj es) m-ds.getD m 0:=fun i hi he ht=>by
    have hlt:cB m (ordB es (zIj es) m)<cB m (fun k=>(zIj es).getD k (-1)==(zIj es).getD m (-1)):=cB_lt m (fun k _ e=>by
     unfold ordB at e
     simp only[Bool.and_eq_true] at e
     exact e.1.2) ⟨i,hi,by simpa using he,by unfold ordB;simp[ht]⟩
    rw[e1]
    omega
   generalize zJT (zIj es) m-ds.getD m 0=pl at g hpl0 hplf hpl1
   refine⟨fun i hi hr=>?_,fun i k hi hk hne hr he=>?_,fun i hi hr ht=>?_⟩
   ·rw[g]
    by_cases e:i=m
    ·rw[if_pos e];exact hpl0
    ·rw[if_neg e]
     have:=h2.pos i (by omega) hr
     split<;>omega
   ·rw[g,g]
    by_cases e:i=m
    ·subst e
     rw[if_pos rfl,if_neg (Ne.symm hne)]
     by_cases c2:pl≤p.getD k 0
     ·rw[if_pos ⟨by omega,he.symm,c2⟩];omega
     ·rw[if_neg (fun c3=>c2 c3.2.2)];omega
    ·rw[if_neg e]
     by_cases e':k=m
     ·subst e'
      rw[if_pos rfl]
      by_cases c2:pl≤p.getD i 0
      ·rw[if_pos ⟨by omega,he,c2⟩];omega
      ·rw[if_neg (fun c3=>c2 c3.2.2)];omega
     ·rw[if_neg e']
      have h3:=h2.inj i k (by omega) (by omega) hne hr he
      rw[← he]
      by_cases c0:(zIj es).getD i (-1)=(zIj es).getD m (-1)
      ·by_cases c2:pl≤p.getD i 0<;>by_cases c3:pl≤p.getD k 0
       ·rw[if_pos ⟨by omega,c0,c2⟩,if_pos ⟨by omega,c0,c3⟩];omega
       ·rw[if_pos ⟨by omega,c0,c2⟩,if_neg (fun c4=>c3 c4.2.2)];omega
       ·rw[if_neg (fun c4=>c2 c4.2.2),if_pos ⟨by omega,c0,c3⟩];omega
       ·rw[if_neg (fun c4=>c2 c4.2.2),if_neg (fun c4=>c3 c4.2.2)];exact h3
      ·rw[if_neg (fun c4=>c0 c4.2.1),if_neg (fun c4=>c0 c4.2.1)];exact h3
   ·rw[g]
    by_cases e:i=m
    ·rw[if_pos e];exact hplf (e ▸ ht)
    ·rw[if_neg e]
     have h3:=h2.first i (by omega) hr ht
     by_cases c0:(zIj es).getD i (-1)=(zIj es).getD m (-1)
     ·have:=hpl1 i (by omega) c0 ht
      rw[if_neg (fun c4=>by omega)];exact h3
     ·rw[if_neg (fun c4=>c0 c4.2.1)];exact h3
theorem places_fin {es:List Ev} (hf:FirstOk es) {ds:List Int} (hd:ds∈zIE (zIp es (zIj es))):PlOk es (zIj es) (zIv (zIj es) ds) es.length:=by
 have:=(places_ok hf (digitRows_ok hd) es.length (Nat.le_refl _)).2
 unfold zIv
 rw[writeRows_lenM] at this ⊢
 exact this
theorem behindP_iff {es:List Ev} (ps:List Int) (i k:Nat):zKB es ps i k=true ↔ (ev es i).kind=1∧(ev es k).kind=1∧(ev es i).var=(ev es k).var∧ps.getD i 0<ps.getD k 0:=by
 unfold zKB
 simp only[Bool.and_eq_true,beq_iff_eq,decide_eq_true_eq]
 exact⟨fun h=>⟨h.1.1.1,h.1.1.2,h.1.2,h.2⟩,fun h=>⟨⟨⟨h.1,h.2.1⟩,h.2.2.1⟩,h.2.2.2⟩⟩
theorem write_row {es:List Ev} (hv:VarOk es) {i:Nat} (h:i<es.length) (k:(ev es i).kind=1):(zIj es).getD i (-1)=(ev es i).var∧(zIj es).getD i (-1)≠-1:=by
 have r:=writeRows_get es i h
 rw[if_pos k] at r
 exact⟨r,by rw[r];exact hv i h k⟩
theorem lastF_fold {es:List Ev} {v:Int} {ps:List Int} {w:Nat} (kw:(ev es w).kind=1) (vw:(ev es w).var=v) (pw:0≤ps.getD w 0) (hl:∀ k,k<es.length→(ev es k).kind=1→(ev es k).var=v→k≠w→ps.getD k 0<ps.getD w 0):∀ m,m≤es.length→(w<m→(List.range m).foldl (lastF v ps es) (0, -1)=((ev es w).value,ps.getD w 0))∧(m≤w→((List.range m).foldl (lastF v ps es) (0, -1)).2<ps.getD w 0)
 | 0,_=>⟨fun h=>absurd h (by omega),fun _=>by show (-1:Int)<ps.getD w 0;omega⟩
 | m+1,hm=>by
  rw[zIm]
  obtain⟨h1,h2⟩:=lastF_fold kw vw pw hl m (by omega)
  generalize (List.range m).foldl (lastF v ps es) (0, -1)=st at h1 h2 ⊢
  refine⟨fun h=>?_,fun h=>?_⟩
  ·by_cases e:m=w
   ·subst e
    have h3:=h2 (Nat.le_refl _)
    unfold lastF
    rw[if_pos (by simp only[Bool.and_eq_true,beq_iff_eq,decide_eq_true_eq];exact⟨⟨kw,vw⟩,h3⟩)]
   ·rw[h1 (by omega)]
    unfold lastF
    rw[if_neg]
    simp only[Bool.and_eq_true,beq_iff_eq,decide_eq_true_eq]
    rintro ⟨⟨a,b⟩,c⟩
    have:=hl m (by omega) a b e
    omega
  ·have h3:=h2 (by omega)
   unfold lastF
   split
   ·rename_i c
    simp only[Bool.and_eq_true,beq_iff_eq,decide_eq_true_eq] at c
    exact hl m (by omega) c.1.1 c.1.2 (by omega)
   ·exact h3
theorem lastV_is {es:List Ev} {v:Int} {ps:List Int} {w:Nat} (hw:w<es.length) (kw:(ev es w).kind=1) (vw:(ev es w).var=v) (pw:0≤ps.getD w 0) (hl:∀ k,k<es.length→(ev es k).kind=1→(ev es k).var=v→k≠w→ps.getD k 0<ps.getD w 0):lastV es v ps=(ev es w).value:=by
 unfold lastV
 rw[(lastF_fold kw vw pw hl es.length (Nat.le_refl _)).1 hw]
theorem max_there (p:Nat→Bool) (g:Nat→Int):∀ n,(∃ i,i<n∧p i=true)→∃ w,w<n∧p w=true∧∀ k,k<n→p k=true→g k≤g w
 | 0,⟨i,hi,_⟩=>absurd hi (by omega)
 | n+1,h=>by
  by_cases c:∃ i,i<n∧p i=true
  ·obtain⟨w,hw,pw,hm⟩:=max_there p g n c
   by_cases c2:p n=true∧g w<g n
   ·exact⟨n,by omega,c2.1,fun k hk pk=>by
     by_cases e:k=n
     ·rw[e];omega
     ·have:=hm k (by omega) pk;omega⟩
   ·exact⟨w,by omega,pw,fun k hk pk=>by
     by_cases e:k=n
     ·subst e
      have:¬ g w<g k:=fun h=>c2 ⟨pk,h⟩
      omega
     ·exact hm k (by omega) pk⟩
  ·obtain⟨i,hi,pi⟩:=h
   have e:i=n:=by
    by_cases e:i=n
    ·exact e
    ·exact absurd ⟨i,by omega,pi⟩ c
   subst e
   exact⟨i,by omega,pi,fun k hk pk=>by
    by_cases e:k=i
    ·rw[e];omega
    ·exact absurd ⟨k,by omega,pk⟩ c⟩
theorem list_choice (n:Nat) (P:Nat→Int→Prop) (h:∀ i,i<n→∃ x,P i x):∃ l:List Int,l.length=n∧∀ i,i<n→P i (l.getD i (-1)):=by
 induction n with
 | zero=>exact⟨[],rfl,fun i hi=>absurd hi (by omega)⟩
 | succ n ih =>
  obtain⟨l,hl,hp⟩:=ih (fun i hi=>h i (by omega))
  obtain⟨x,hx⟩:=h n (by omega)
  refine⟨l++[x],by simp[hl],fun i hi=>?_⟩
  by_cases e:i=n
  ·subst e
   have:(l++[x]).getD i (-1)=x:=by rw[List.getD_eq_getElem?_getD,List.getElem?_append_right (by omega),hl];simp
   rw[this];exact hx
  ·have:(l++[x]).getD i (-1)=l.getD i (-1):=by rw[List.getD_eq_getElem?_getD,List.getElem?_append_left (by omega),List.getD_eq_getElem?_getD]
   rw[this];exact hp i (by omega)
theorem readsOf_cons (c:List Int) (cs:List (List Int)) (d:Int) (ds:List Int):zJl (c::cs) (d::ds)=c.getD d.toNat (-1)::zJl cs ds:=by
 unfold zJl
 rw[List.length_cons,List.range_succ_eq_map,List.map_cons,List.map_map]
 rfl
theorem mem_index (l:List Int) (x:Int) (h:x∈l):∃ k,k<l.length∧l.getD k (-1)=x:=by
 obtain⟨k,hk,e⟩:=List.getElem_of_mem h
 exact⟨k,hk,by rw[List.getD_eq_getElem?_getD,List.getElem?_eq_getElem hk];exact e⟩
theorem reads_there:∀ (cs:List (List Int)) (l:List Int),l.length=cs.length→(∀ i,i<cs.length→l.getD i (-1)∈cs.getD i [])→∃ ds∈zIE (lens cs),zJl cs ds=l
 | [],[],_,_=>⟨[],by simp[lens,zIE],rfl⟩
 | c::cs,x::l,h,hm=>by
  obtain⟨ds,hds,e⟩:=reads_there cs l (by simpa using h) (fun i hi=>by simpa using hm (i+1) (by simpa using hi))
  obtain⟨k,hk,ek⟩:=mem_index c x (by simpa using hm 0 (by simp))
  refine⟨(k:Int)::ds,dig_mem ⟨by omega,by show (k:Int)<(c.length:Int);omega,digitRows_ok hds⟩,?_⟩
  rw[readsOf_cons,e,Int.toNat_natCast,ek]
 | [],x::l,h,_=>by simp at h
 | c::cs,[],h,_=>by simp at h
theorem reads_in:∀ {cs:List (List Int)} {ds:List Int},DigOk (lens cs) ds→∀ i,i<cs.length→(zJl cs ds).getD i (-1)∈cs.getD i []
 | [],[],_,i,h=>by simp at h
 | c::cs,d::ds,h,0,_=>by
  rw[readsOf_cons]
  have h1:=h.1
  have h2:d<(c.length:Int):=h.2.1
  have:d.toNat<c.length:=by omega
  simp[this]
 | c::cs,d::ds,h,i+1,hi=>by
  rw[readsOf_cons]
  have:=reads_in (cs:=cs) (ds:=ds) h.2.2 i (by simpa using hi)
  simpa using this
 | [],d::ds,h,_,_=>by simp[lens,DigOk] at h
 | c::cs,[],h,_,_=>by simp[lens,DigOk] at h
end Q
namespace Q
structure WHom (pi:Int→Int) (f:Nat→Nat) (es es':List Ev):Prop where
 hom:EHom f es es'
 acc:∀ k,k<es'.length→zIY (ev es' k)=true→∃ i,i<es.length∧f i=k
 stepR:∀ i,i+1<es.length→(ev es i).kind=0→(ev es i).step=true→f (i+1)=f i+1
 var:∀ i,i<es.length→zIY (ev es i)=true→(ev es' (f i)).var=pi (ev es i).var
theorem acc_w {e:Ev} (h:e.kind=1):zIY e=true:=by unfold zIY;rw[h];rfl
theorem acc_r {e:Ev} (h:e.kind=0):zIY e=true:=by unfold zIY;rw[h];rfl
section
variable {pi:Int→Int} {f:Nat→Nat} {es es':List Ev}
def pullB (f:Nat→Nat) (es es':List Ev) (ps':List Int) (i k:Nat):Bool:=decide (i<es.length)&&decide (k<es.length)&&zKB es' ps' (f i) (f k)
theorem pullB_iff (ps':List Int) (i k:Nat):pullB f es es' ps' i k=true ↔ i<es.length∧k<es.length∧zKB es' ps' (f i) (f k)=true:=by
 unfold pullB
 simp only[Bool.and_eq_true,decide_eq_true_eq,and_assoc]
theorem pull_ord (h:WHom pi f es es') (hv:VarOk es) (hv':VarOk es') {ps':List Int} (hp:PlOk es' (zIj es') ps' es'.length):Ord es (zIj es) (pullB f es es' ps') where
 same i k e:=by
  obtain⟨hi,hk,b⟩:=(pullB_iff ps' i k).1 e
  obtain⟨k1,k2,k3,k4⟩:=(behindP_iff _ _ _).1 b
  rw[(h.hom.le i hi).kind] at k1
  rw[(h.hom.le k hk).kind] at k2
  have vv:=(h.hom.var i k hi hk (acc_w k1) (acc_w k2)).1 k3
  exact⟨hi,hk,by rw[(write_row hv hi k1).1,(write_row hv hk k2).1,vv],(write_row hv hi k1).2⟩
 irr i:=by
  cases e:pullB f es es' ps' i i
  ·rfl
  ·obtain⟨_,_,b⟩:=(pullB_iff ps' i i).1 e
   have:=((behindP_iff _ _ _).1 b).2.2.2
   omega
 trans i j k e1 e2:=by
  obtain⟨hi,hj,b1⟩:=(pullB_iff ps' i j).1 e1
  obtain⟨_,hk,b2⟩:=(pullB_iff ps' j k).1 e2
  obtain⟨k1,k2,k3,k4⟩:=(behindP_iff _ _ _).1 b1
  obtain⟨l1,l2,l3,l4⟩:=(behindP_iff _ _ _).1 b2
  exact (pullB_iff ps' i k).2 ⟨hi,hk,(behindP_iff _ _ _).2 ⟨k1,l2,k3.trans l3,by omega⟩⟩
 total i k hi hk hne he hr:=by
  obtain⟨k1,r1⟩:=row_kind hi hr
  obtain⟨k2,r2⟩:=row_kind hk (by rw[← he];exact hr)
  have vv:(ev es i).var=(ev es k).var:=by rw[← r1,← r2,he]
  have v2:=(h.hom.var i k hi hk (acc_w k1) (acc_w k2)).2 vv
  have m1:(ev es' (f i)).kind=1:=by rw[(h.hom.le i hi).kind];exact k1
  have m2:(ev es' (f k)).kind=1:=by rw[(h.hom.le k hk).kind];exact k2
  have li:=h.hom.lt i hi
  have lk:=h.hom.lt k hk
  have w1:=write_row hv' li m1
  have w2:=write_row hv' lk m2
  have:=hp.inj (f i) (f k) li lk (fun e=>hne (h.hom.inj i k hi hk e)) w1.2 (by rw[w1.1,w2.1,v2])
  by_cases c:ps'.getD (f i) 0<ps'.getD (f k) 0
  ·exact Or.inl ((pullB_iff ps' i k).2 ⟨hi,hk,(behindP_iff _ _ _).2 ⟨m1,m2,v2,c⟩⟩)
  ·exact Or.inr ((pullB_iff ps' k i).2 ⟨hk,hi,(behindP_iff _ _ _).2 ⟨m2,m1,v2.symm,by omega⟩⟩)
 first i k e:=by
  obtain⟨hi,hk,b⟩:=(pullB_iff ps' i k).1 e
  obtain⟨k1,k2,k3,k4⟩:=(behindP_iff _ _ _).1 b
  intro ht
  have t2:=(h.hom.first k hk).2 ht
  have li:=h.hom.lt i hi
  have lk:=h.hom.lt k hk
  have z:=hp.first (f k) lk (write_row hv' lk k2).2 t2
  have z2:=hp.pos (f i) li (write_row hv' li k1).2
  omega
theorem mayRead_get (es:List Ev) (i:Nat) (h:i<es.length):(zIk es).getD i []=zJk es i:=by
 unfold zIk
 rw[List.getD_eq_getElem?_getD];simp[h]
theorem mayR_iff (es:List Ev) (i k:Nat):mayR es i k=true ↔ (ev es k).kind=1∧(ev es k).var=(ev es i).var∧(ev es k).value=(ev es i).value∧¬ ((ev es i).step=true∧k=i+1):=by
 unfold mayR
 simp only[Bool.and_eq_true,beq_iff_eq,Bool.not_eq_true',and_assoc]
 refine and_congr_right fun _=>and_congr_right fun _=>and_congr_right fun _=>?_
 rw[← Bool.not_eq_true,Bool.and_eq_true,beq_iff_eq]
theorem mayRead_mem (es:List Ev) (i:Nat) (x:Int):x∈zJk es i ↔ ((ev es i).kind=0∧∃ k:Nat,x=(k:Int)∧k<es.length∧mayR es i k=true)∨((ev es i).kind≠0∧x=-1):=by
 unfold zJk
 by_cases c:(ev es i).kind=0
 ·rw[if_pos (by simpa using c)]
  simp only[List.mem_map,List.mem_filter,List.mem_range]
  constructor
  ·rintro ⟨k,⟨h1,h2⟩,rfl⟩;exact Or.inl ⟨c,k,rfl,h1,h2⟩
  ·rintro (⟨_,k,rfl,h1,h2⟩ | h)
   ·exact⟨k,⟨h1,h2⟩,rfl⟩
   ·exact absurd c h.1
 ·rw[if_neg (by simpa using c),List.mem_singleton]
  constructor
  ·intro h;exact Or.inr ⟨c,h⟩
  ·rintro (h | h)
   ·exact absurd h.1 c
   ·exact h.2
theorem pull_reads (h:WHom pi f es es') {rs':List Int} (hrs:rs'∈zIE (lens (zIk es'))):∃ rs∈zIE (lens (zIk es)),∀ i k:Nat,i<es.length→k<es.length→(zJl (zIk es) rs).getD i (-1)=(k:Int)→(zJl (zIk es') rs').getD (f i) (-1)=(f k:Nat):=by
 have hin:=reads_in (digitRows_ok hrs)
 rw[choices_lenM] at hin
 have hex:∀ i,i<es.length→∃ x:Int,x∈zJk es i∧∀ k:Nat,k<es.length→x=(k:Int)→(zJl (zIk es') rs').getD (f i) (-1)=(f k:Nat):=fun i hi=>by
  have li:=h.hom.lt i hi
  have h1:=hin (f i) li
  rw[mayRead_get es' _ li] at h1
  rcases (mayRead_mem es' (f i) _).1 h1 with ⟨k0,k',ek,lk',hm⟩ | ⟨k0,_⟩
  ·obtain⟨m1,m2,m3,m4⟩:=(mayR_iff _ _ _).1 hm
   obtain⟨k,hk,rfl⟩:=h.acc k' lk' (acc_w m1)
   rw[(h.hom.le i hi).kind] at k0
   rw[(h.hom.le k hk).kind] at m1
   refine⟨(k:Int),(mayRead_mem es i _).2 (Or.inl ⟨k0,k,rfl,hk,(mayR_iff _ _ _).2 ⟨m1,(h.hom.var k i hk hi (acc_w m1) (acc_r k0)).1 m2,by rw[← (h.hom.le k hk).value,← (h.hom.le i hi).value];exact m3,fun c=>m4 ⟨by rw[(h.hom.le i hi).step];exact c.1,?_⟩⟩⟩),fun j _ e=>?_⟩
   ·rw[c.2]
    exact h.stepR i (by rw[← c.2];exact hk) k0 c.1
   ·have:k=j:=by omega
    rw[← this];exact ek
  ·refine⟨-1,(mayRead_mem es i _).2 (Or.inr ⟨by rw[← (h.hom.le i hi).kind];exact k0,rfl⟩),fun k _ e=>absurd e (by omega)⟩
 obtain⟨l,hl,hp⟩:=list_choice es.length (fun i x=>x∈zJk es i∧∀ k:Nat,k<es.length→x=(k:Int)→(zJl (zIk es') rs').getD (f i) (-1)=(f k:Nat)) hex
 obtain⟨rs,h1,h2⟩:=reads_there (zIk es) l (by rw[choices_lenM];exact hl) (fun i hi=>by
  rw[choices_lenM] at hi
  rw[mayRead_get es i hi]
  exact (hp i hi).1)
 refine⟨rs,h1,fun i k hi hk e=>?_⟩
 rw[h2] at e
 exact (hp i hi).2 k hk e
end
theorem pull {pi:Int→Int} {f:Nat→Nat} {W W':Wd} (h:WHom pi f W.events W'.events) (hn:W.events.length≤64) (hn':W'.events.length≤64) (hv:VarOk W.events) (hv':VarOk W'.events) (hF:FirstOk W.events) (hF':FirstOk W'.events)
  {rs' ds':List Int} (hrs:rs'∈zIE (lens (zIk W'.events))) (hds:ds'∈ordsOf W') (hh:(zIx W'.events).hangsOn ((zIx W'.events).reads (zJl (zIk W'.events) rs'))=false) (hm:srcMay ⟨W',zIx W'.events,(zIx W'.events).reads (zJl (zIk W'.events) rs')⟩ ds'=true) :
  ∃ rs∈zIE (lens (zIk W.events)),∃ ds∈ordsOf W,(zIx W.events).hangsOn ((zIx W.events).reads (zJl (zIk W.events) rs))=false∧srcMay ⟨W,zIx W.events,(zIx W.events).reads (zJl (zIk W.events) rs)⟩ ds=true ∧
   ((zIx W'.events).clashes ((zIx W'.events).before ((zIx W'.events).reads (zJl (zIk W'.events) rs')))=true→(zIx W.events).clashes ((zIx W.events).before ((zIx W.events).reads (zJl (zIk W.events) rs)))=true) ∧
   ∀ v i,i<W.events.length→(ev W.events i).kind=1→(ev W.events i).var=v→lastV W'.events (pi v) (placesAt W' ds')=lastV W.events v (placesAt W ds):=by
 obtain⟨rs,hrs1,hrs2⟩:=pull_reads h hrs
 have hp':=places_fin hF' hds
 obtain⟨ds,hds1,hds2⟩:=ord_there hv (pull_ord h hv hv' hp')
 have hp:=places_fin hF hds1
 have hl1:(zJl (zIk W.events) rs).length=W.events.length:=by rw[readsOf_lenM,choices_lenM]
 have hl2:(zJl (zIk W'.events) rs').length=W'.events.length:=by rw[readsOf_lenM,choices_lenM]
 have hom:=ehom_hom h.hom (rs:=zJl (zIk W.events) rs) (rs':=zJl (zIk W'.events) rs') (ps:=placesAt W ds) (ps':=placesAt W' ds') hrs2 (fun i k hi hk e=>by
  have e2:=hds2 i k hi hk
  unfold placesAt at e
  rw[e] at e2
  exact ((pullB_iff _ i k).1 e2.symm).2.2)
 refine⟨rs,hrs1,ds,hds1,?_,?_,?_,?_⟩
 ·exact (hang_iff hn hl1 (placesAt W ds)).2 (hom.noHang ((hang_iff hn' hl2 _).1 hh))
 ·unfold srcMay at hm ⊢
  exact (may_iff hn hl1 _).2 (hom.may ((may_iff hn' hl2 _).1 hm))
 ·intro hc
  obtain⟨i,k,c⟩:=(clash_iff hn' hl2 (placesAt W' ds')).1 hc
  exact (clash_iff hn hl1 (placesAt W ds)).2 (ehom_clash h.hom h.acc hom c)
 ·intro v i0 hi0 ki0 vi0
  obtain⟨w',hw',pw',hmx⟩:=max_there (fun k=>decide ((ev W'.events k).kind=1∧(ev W'.events k).var=pi v)) (fun k=>(placesAt W' ds').getD k 0) W'.events.length ⟨f i0,h.hom.lt i0 hi0,by
   rw[decide_eq_true_eq]
   exact⟨by rw[(h.hom.le i0 hi0).kind];exact ki0,by rw[h.var i0 hi0 (acc_w ki0),vi0]⟩⟩
  rw[decide_eq_true_eq] at pw'
  obtain⟨w,hw,rfl⟩:=h.acc w' hw' (acc_w pw'.1)
  have kw:(ev W.events w).kind=1:=by rw[← (h.hom.le w hw).kind];exact pw'.1
  have hvar:∀ k,k<W.events.length→(ev W.events k).kind=1→((ev W'.events (f k)).var=pi v ↔ (ev W.events k).var=v):=fun k hk kk=>by
   have e:=h.hom.var k i0 hk hi0 (acc_w kk) (acc_w ki0)
   rw[h.var i0 hi0 (acc_w ki0),vi0] at e
   exact e
  have vw:=(hvar w hw kw).1 pw'.2
  have strict:∀ k',k'<W'.events.length→(ev W'.events k').kind=1→(ev W'.events k').var=pi v→k'≠f w→(placesAt W' ds').getD k' 0<(placesAt W' ds').getD (f w) 0:=fun k' hk' kk' vk' ne=>by
   have h1:=hmx k' hk' (by rw[decide_eq_true_eq];exact⟨kk',vk'⟩)
   have w1:=write_row hv' hk' kk'
   have w2:=write_row hv' (h.hom.lt w hw) pw'.1
   have h2:(placesAt W' ds').getD k' 0≠(placesAt W' ds').getD (f w) 0:=hp'.inj k' (f w) hk' (h.hom.lt w hw) ne w1.2 (by rw[w1.1,w2.1,vk',pw'.2])
   omega
  have e9:lastV W'.events (pi v) (placesAt W' ds')=(ev W'.events (f w)).value:=lastV_is (h.hom.lt w hw) pw'.1 pw'.2 (hp'.pos (f w) (h.hom.lt w hw) (write_row hv' (h.hom.lt w hw) pw'.1).2) strict
  rw[e9,(h.hom.le w hw).value]
  refine (lastV_is hw kw vw (hp.pos w hw (write_row hv hw kw).2) (fun k hk kk vk ne=>?_)).symm
  have s:=strict (f k) (h.hom.lt k hk) (by rw[(h.hom.le k hk).kind];exact kk) ((hvar k hk kk).2 vk) (fun e=>ne (h.hom.inj k w hk hw e))
  have hb:pullB f W.events W'.events (placesAt W' ds') k w=true:=(pullB_iff _ k w).2 ⟨hk,hw,(behindP_iff _ _ _).2 ⟨by rw[(h.hom.le k hk).kind];exact kk,pw'.1,by rw[(hvar k hk kk).2 vk,pw'.2],s⟩⟩
  have hb2:=hds2 k w hk hw
  have hb3:zKB W.events (zIv (zIj W.events) ds) k w=true:=hb2.trans hb
  exact ((behindP_iff _ _ _).1 hb3).2.2.2
end Q
namespace Q
theorem hasS_iff (s k:Nat):hasS s (k:Int)=true ↔ k<64∧s.testBit k=true:=by
 by_cases h:k<64
 ·rw[hasS_bit s k h];simp[h]
 ·unfold hasS one
  rw[if_pos (by omega)]
  simp[h]
theorem hasS_or (a b k:Nat):hasS (a ||| b) (k:Int)=true ↔ hasS a (k:Int)=true∨hasS b (k:Int)=true:=by
 rw[hasS_iff,hasS_iff,hasS_iff,Nat.testBit_or,Bool.or_eq_true]
 constructor
 ·rintro ⟨h,h1 | h1⟩
  ·exact Or.inl ⟨h,h1⟩
  ·exact Or.inr ⟨h,h1⟩
 ·rintro (⟨h,h1⟩ | ⟨h,h1⟩)
  ·exact⟨h,Or.inl h1⟩
  ·exact⟨h,Or.inr h1⟩
theorem hasS_zero (k:Nat):hasS 0 (k:Int)=false:=by
 cases h:hasS 0 (k:Int)
 ·rfl
 ·have:=((hasS_iff 0 k).1 h).2;simp at this
theorem hasS_one (n k:Nat):hasS (one (n:Int)) (k:Int)=true ↔ n<64∧k=n:=by
 rw[hasS_iff]
 by_cases h:n<64
 ·rw[one_bit n k h,decide_eq_true_eq]
  constructor
  ·rintro ⟨_,rfl⟩;exact⟨h,rfl⟩
  ·rintro ⟨_,rfl⟩;exact⟨h,rfl⟩
 ·have:one (n:Int)=0:=by unfold one;rw[if_pos (by omega)]
  rw[this];simp[h]
theorem hasS_moved (s n k:Nat) (hn:n<64):hasS (moved s (n:Int)) (k:Int)=true ↔ k<64∧n≤k∧hasS s ((k-n:Nat):Int)=true:=by
 rw[hasS_iff,hasS_iff]
 unfold moved
 rw[if_neg (by omega),Int.toNat_natCast,show (18446744073709551616:Nat)=2 ^ 64 by decide,Nat.testBit_mod_two_pow,Nat.testBit_mul_two_pow]
 simp only[Bool.and_eq_true,decide_eq_true_eq]
 constructor
 ·rintro ⟨h,h2,h1,h3⟩;exact⟨h,h1,by omega,h3⟩
 ·rintro ⟨h,h1,_,h3⟩;exact⟨h,h,h1,h3⟩
def HB (n s:Nat):Prop:=∀ k:Nat,hasS s (k:Int)=true→k<n
theorem HB.mono {n m s:Nat} (h:HB n s) (e:n≤m):HB m s:=fun k hk=>by have:=h k hk;omega
theorem HB.or {n a b:Nat} (h:HB n a) (k:HB n b):HB n (a ||| b):=fun j hj=>by
 rcases (hasS_or a b j).1 hj with e | e
 ·exact h j e
 ·exact k j e
theorem hb_zero (n:Nat):HB n 0:=fun k hk=>by rw[hasS_zero] at hk;cases hk
theorem hb_one (n:Nat):HB (n+1) (one (n:Int)):=fun k hk=>by have:=((hasS_one n k).1 hk).2;omega
def SR (es:List Ev):Prop:=∀ i,(ev es i).kind=0→(ev es i).step=true→(ev es (i+1)).kind=1∧(ev es (i+1)).step=true
theorem sr_app {es fs:List Ev} (h:SR es) (k:SR fs):SR (es++fs):=fun i k0 s0=>by
 rw[ev_append] at k0 s0 ⊢
 by_cases c:i<es.length
 ·rw[if_pos c] at k0 s0
  obtain⟨a,b⟩:=h i k0 s0
  have:i+1<es.length:=by
   by_cases c2:i+1<es.length
   ·exact c2
   ·rw[ev_out _ _ (by omega)] at a;simp[Ev.zero] at a
  rw[if_pos this];exact⟨a,b⟩
 ·rw[if_neg c] at k0 s0
  rw[if_neg (by omega),show i+1-es.length=i-es.length+1 by omega]
  exact k _ k0 s0
theorem sr_one {e:Ev} (h:¬ (e.kind=0∧e.step=true)):SR [e]:=fun i k0 s0=>by
 cases i with
 | zero=>exact absurd ⟨k0,s0⟩ h
 | succ n=>rw[ev_out _ _ (by simp)] at s0;simp[Ev.zero] at s0
theorem sr_two {a b:Ev} (h:b.kind=1∧b.step=true):SR [a,b]:=fun i k0 s0=>by
 cases i with
 | zero=>exact h
 | succ n =>
  cases n with
  | zero=>rw[show ev [a,b] (0+1)=b from rfl,h.1] at k0;simp at k0
  | succ n=>rw[ev_out _ _ (by simp)] at s0;simp[Ev.zero] at s0
theorem sr_nil:SR []:=fun i _ s0=>by rw[ev_out _ _ (by simp)] at s0;simp[Ev.zero] at s0
def SW (es:List Ev):Prop:=∀ i,(ev es i).kind=1→(ev es i).step=true→0<i∧(ev es (i-1)).kind=0∧(ev es (i-1)).step=true
theorem sw_app {es fs:List Ev} (h:SW es) (k:SW fs):SW (es++fs):=fun i k0 s0=>by
 rw[ev_append] at k0 s0 ⊢
 by_cases c:i<es.length
 ·rw[if_pos c] at k0 s0
  obtain⟨a,b⟩:=h i k0 s0
  rw[if_pos (by omega)];exact⟨a,b⟩
 ·rw[if_neg c] at k0 s0
  obtain⟨a,b⟩:=k _ k0 s0
  rw[if_neg (by omega),show i-1-es.length=i-es.length-1 by omega]
  exact⟨by omega,b⟩
theorem sw_one {e:Ev} (h:¬ (e.kind=1∧e.step=true)):SW [e]:=fun i k0 s0=>by
 cases i with
 | zero=>exact absurd ⟨k0,s0⟩ h
 | succ n=>rw[ev_out _ _ (by simp)] at s0;simp[Ev.zero] at s0
theorem sw_two {a b:Ev} (h:a.kind=0∧a.step=true):SW [a,b]:=fun i k0 s0=>by
 cases i with
 | zero=>rw[show ev [a,b] 0=a from rfl,h.1] at k0;simp at k0
 | succ n =>
  cases n with
  | zero=>exact⟨by omega,h⟩
  | succ n=>rw[ev_out _ _ (by simp)] at s0;simp[Ev.zero] at s0
theorem sw_nil:SW []:=fun i _ s0=>by rw[ev_out _ _ (by simp)] at s0;simp[Ev.zero] at s0
def StV (s:P.Stm):Prop:=(s.kind=0∨s.kind=1∨s.kind=2∨s.kind=3)→0≤s.var∧s.var<3
structure EvIn (n:Nat) (th:Int) (e:Ev):Prop where
 thr:e.thread=th
 var:zIY e=true→0≤e.var∧e.var<3
 hb:HB n e.hangs
theorem EvIn.mono {n m:Nat} {th:Int} {e:Ev} (h:EvIn n th e) (k:n≤m):EvIn m th e:=⟨h.thr,h.var,h.hb.mono k⟩
structure MInv (m:Mach):Prop where
 evs:∀ e∈m.events,EvIn m.events.length m.thread e
 mb:∀ j,HB m.events.length (m.made.getD j 0)
 ab:HB m.events.length m.asked
 sr:SR m.events
 sw:SW m.events
theorem MInv.app {m m':Mach} (h:MInv m) (L:List Ev) (he:m'.events=m.events++L) (ht:m'.thread=m.thread) (hm:m'.made=m.made) (ha:m'.asked=m.asked) (hL:∀ e∈L,EvIn (m.events.length+L.length) m.thread e) (hs:SR L) (hw:SW L):MInv m':=by
 have hl:m'.events.length=m.events.length+L.length:=by rw[he,List.length_append]
 refine⟨fun e h1=>?_,fun j=>?_,?_,by rw[he];exact sr_app h.sr hs,by rw[he];exact sw_app h.sw hw⟩
 ·rw[hl,ht]
  rw[he] at h1
  rcases List.mem_append.1 h1 with h1 | h1
  ·exact (h.evs e h1).mono (by omega)
  ·exact hL e h1
 ·rw[hl,hm];exact (h.mb j).mono (by omega)
 ·rw[hl,ha];exact h.ab.mono (by omega)
theorem getD_setN (l:List Nat) (i j x:Nat):(l.set i x).getD j 0=x∨(l.set i x).getD j 0=l.getD j 0:=by
 by_cases h:i=j
 ·subst h
  by_cases hl:i<l.length
  ·left;rw[List.getD_eq_getElem?_getD,List.getElem?_set_self hl];rfl
  ·right;rw[List.set_eq_of_length_le (by omega)]
 ·right;rw[List.getD_eq_getElem?_getD,List.getElem?_set_ne h,List.getD_eq_getElem?_getD]
theorem MInv.give {m:Mach} (h:MInv m) (d v:Int) {s:Nat} (hs:HB m.events.length s):MInv (m.give d v s):=by
 unfold Mach.give
 split
 ·exact h
 ·refine⟨h.evs,fun j=>?_,h.ab,h.sr,h.sw⟩
  show HB m.events.length ((m.made.set d.toNat s).getD j 0)
  rcases getD_setN m.made d.toNat j s with e | e
  ·rw[e];exact hs
  ·rw[e];exact h.mb j
theorem MInv.madeOf {m:Mach} (h:MInv m) (a:P.Opd):HB m.events.length (m.madeOf a):=by
 unfold Mach.madeOf
 split
 ·split
  ·exact hb_zero _
  ·exact h.mb _
 ·exact hb_zero _
theorem kind_cases (k:Int):k=0∨k=1∨k=2∨k=3∨k=4∨k=5∨((k==0)=false∧(k==1)=false∧(k==2)=false∧(k==3)=false∧(k==4)=false∧(k==5)=false):=by
 simp only[beq_eq_false_iff_ne,ne_eq]
 omega
theorem MInv.doIt {m:Mach} (h:MInv m) {st:P.Stm} (hv:StV st):MInv (m.doIt st):=by
 have rd:∀ n,(st.kind=0∨st.kind=2∨st.kind=3)→HB n m.asked→EvIn n m.thread { m.event 0 st with value:=(m.unread % 4:Nat) }:=fun n hk ha=>⟨rfl,fun _=>hv (by omega),ha⟩
 have wr:∀ n v (s:Nat),(st.kind=1∨st.kind=2∨st.kind=3)→HB n m.asked→HB n s→EvIn n m.thread { m.event 1 st with value:=v,hangs:=m.asked ||| s }:=fun n v s hk ha hs=>⟨rfl,fun _=>hv (by omega),ha.or hs⟩
 unfold Mach.doIt
 rcases kind_cases st.kind with e | e | e | e | e | e | ⟨e0,e1,e2,e3,e4,e5⟩
 ·rw[e]
  refine MInv.give (m:=m.read st) (MInv.app (m':=m.read st) h [{ m.event 0 st with value:=(m.unread % 4:Nat) }] rfl rfl rfl rfl (fun x hx=>?_) (sr_one (fun c=>?_)) (sw_one (fun c=>by have:=c.1;simp[Mach.event] at this))) _ _ ?_
  ·rw[List.mem_singleton] at hx;rw[hx];exact rd _ (Or.inl e) (h.ab.mono (by simp))
  ·have:=c.2;simp[Mach.event,e] at this
  ·show HB (m.events++[_]).length _
   rw[List.length_append];exact hb_one _
 ·rw[e]
  refine MInv.app h [{ m.event 1 st with value:=m.value st.a,hangs:=m.asked ||| m.madeOf st.a }] rfl rfl rfl rfl (fun x hx=>?_) (sr_one (fun c=>?_)) (sw_one (fun c=>by have:=c.2;simp[Mach.event,e] at this))
  ·rw[List.mem_singleton] at hx;rw[hx]
   exact wr _ _ _ (Or.inl e) (h.ab.mono (by simp)) ((h.madeOf _).mono (by simp))
  ·have:=c.1;simp[Mach.event] at this
 ·rw[e]
  show MInv (m.step st)
  unfold Mach.step
  rw[e]
  refine MInv.give (m:=(m.read st).write st ((m.value st.a+(m.read st).valueOf m.events.length) % 4) (m.madeOf st.a ||| one (m.events.length:Nat))) (MInv.app h [{ m.event 0 st with value:=(m.unread % 4:Nat) },{ m.event 1 st with value:=(m.value st.a+(m.read st).valueOf m.events.length) % 4,hangs:=m.asked ||| (m.madeOf st.a ||| one (m.events.length:Nat)) }] ?_ rfl rfl rfl (fun x hx=>?_) (sr_two ⟨rfl,by simp[Mach.event,e]⟩) (sw_two ⟨rfl,by simp[Mach.event,e]⟩)) _ _ ?_
  ·show (m.events++[_])++[_]=_
   rw[List.append_assoc];rfl
  ·simp only[List.mem_cons,List.not_mem_nil,or_false] at hx
   rcases hx with rfl | rfl
   ·exact rd _ (by omega) (h.ab.mono (by simp))
   ·exact wr _ _ _ (by omega) (h.ab.mono (by simp)) (((h.madeOf _).mono (by simp)).or ((hb_one _).mono (by simp)))
  ·show HB ((m.events++[_])++[_]).length _
   refine (hb_one _).mono ?_
   simp
 ·rw[e]
  show MInv (m.step st)
  unfold Mach.step
  rw[e]
  refine MInv.give (m:=(m.read st).write st (m.value st.a) (m.madeOf st.a)) (MInv.app h [{ m.event 0 st with value:=(m.unread % 4:Nat) },{ m.event 1 st with value:=m.value st.a,hangs:=m.asked ||| m.madeOf st.a }] ?_ rfl rfl rfl (fun x hx=>?_) (sr_two ⟨rfl,by simp[Mach.event,e]⟩) (sw_two ⟨rfl,by simp[Mach.event,e]⟩)) _ _ ?_
  ·show (m.events++[_])++[_]=_
   rw[List.append_assoc];rfl
  ·simp only[List.mem_cons,List.not_mem_nil,or_false] at hx
   rcases hx with rfl | rfl
   ·exact rd _ (by omega) (h.ab.mono (by simp))
   ·exact wr _ _ _ (by omega) (h.ab.mono (by simp)) ((h.madeOf _).mono (by simp))
  ·show HB ((m.events++[_])++[_]).length _
   refine (hb_one _).mono ?_
   simp
 ·rw[e]
  refine MInv.app h [m.event 2 st] rfl rfl rfl rfl (fun x hx=>?_) (sr_one (fun c=>by have:=c.1;simp[Mach.event] at this)) (sw_one (fun c=>by have:=c.1;simp[Mach.event] at this))
  rw[List.mem_singleton] at hx;rw[hx]
  exact⟨rfl,fun c=>by simp[zIY,Mach.event] at c,hb_zero _⟩
 ·rw[e]
  refine MInv.app h [m.event 3 st,m.event 4 st] rfl rfl rfl rfl (fun x hx=>?_) (sr_app (es:=[m.event 3 st]) (sr_one (fun c=>by have:=c.1;simp[Mach.event] at this)) (sr_one (fun c=>by have:=c.1;simp[Mach.event] at this))) (sw_app (es:=[m.event 3 st]) (sw_one (fun c=>by have:=c.1;simp[Mach.event] at this)) (sw_one (fun c=>by have:=c.1;simp[Mach.event] at this)))
  simp only[List.mem_cons,List.not_mem_nil,or_false] at hx
  rcases hx with rfl | rfl
  ·exact⟨rfl,fun c=>by simp[zIY,Mach.event] at c,hb_zero _⟩
  ·exact⟨rfl,fun c=>by simp[zIY,Mach.event] at c,hb_zero _⟩
 ·rw[e0,e1,e2,e3,e4,e5]
  simp only[Bool.false_eq_true,if_false,Bool.or_self]
  split
  ·exact h.give _ _ ((h.madeOf _).or (h.madeOf _))
  ·exact h
theorem MInv.carry {p:Mach × Nat} (h:MInv p.1) {st:P.Stm} (hv:StV st):MInv (carry p st).1:=by
 unfold Q.carry
 split
 ·split
  ·exact⟨h.evs,h.mb,h.ab.or (h.madeOf _),h.sr,h.sw⟩
  ·exact h.doIt hv
 ·split
  ·exact h
  ·split<;>exact h
theorem minv_fold:∀ (ss:List P.Stm) {p:Mach × Nat},(∀ s∈ss,StV s)→MInv p.1→MInv (ss.foldl carry p).1
 | [],_,_,h=>h
 | s::ss,p,hs,h=>by
  rw[List.foldl_cons]
  exact minv_fold ss (fun x hx=>hs x (List.mem_cons_of_mem _ hx)) (h.carry (hs s (by simp)))
theorem minv_start (t b:Int) (u:Nat):MInv (Mach.start t b u) :=
 ⟨fun e he=>by simp[Mach.start] at he,fun j=>by
  have:(Mach.start t b u).made.getD j 0=0:=by
   match j with
   | 0=>rfl
   | 1=>rfl
   | 2=>rfl
   | 3=>rfl
   | j+4=>rfl
  rw[this];exact hb_zero _,hb_zero _,sr_nil,sw_nil⟩
theorem minv_run {t:P.Thr} (h:∀ s∈t.stmts,StV s) (i c:Nat):MInv (runAt t i c):=minv_fold _ h (minv_start _ _ _)
end Q
end Go.Proofs.YtkmebkbpfmoeaaaGreat
