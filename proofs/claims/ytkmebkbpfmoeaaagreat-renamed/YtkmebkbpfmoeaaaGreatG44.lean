import Derived.Test.YtkmebkbpfmoeaaaGreatG43
set_option linter.unusedVariables false
set_option linter.unusedSimpArgs false
set_option maxHeartbeats 12800000
namespace Go.Proofs.YtkmebkbpfmoeaaaGreat
namespace P
def piN (v:Int):Int:=if v=0 then 1 else if v=1 then 2 else if v=2 then 0 else v
def piM (v:Int):Int:=if v=0 then 2 else if v=1 then 0 else if v=2 then 1 else v
theorem piN_perm:Q.Perm3 piN where
 rng v h0 h3:=by
  have h:v=0∨v=1∨v=2:=by omega
  rcases h with rfl | rfl | rfl<;>decide
 inj a b a0 a3 b0 b3 e:=by
  have h:a=0∨a=1∨a=2:=by omega
  have h2:b=0∨b=1∨b=2:=by omega
  rcases h with rfl | rfl | rfl<;>rcases h2 with rfl | rfl | rfl<;>first | rfl | exact absurd e (by decide)
 sur v h0 h3:=by
  have h:v=0∨v=1∨v=2:=by omega
  refine⟨piM v,?_⟩
  rcases h with rfl | rfl | rfl<;>decide
theorem piM_perm:Q.Perm3 piM where
 rng v h0 h3:=by
  have h:v=0∨v=1∨v=2:=by omega
  rcases h with rfl | rfl | rfl<;>decide
 inj a b a0 a3 b0 b3 e:=by
  have h:a=0∨a=1∨a=2:=by omega
  have h2:b=0∨b=1∨b=2:=by omega
  rcases h with rfl | rfl | rfl<;>rcases h2 with rfl | rfl | rfl<;>first | rfl | exact absurd e (by decide)
 sur v h0 h3:=by
  have h:v=0∨v=1∨v=2:=by omega
  refine⟨piN v,?_⟩
  rcases h with rfl | rfl | rfl<;>decide
theorem piM_N {v:Int} (h0:0≤v) (h3:v<3):piM (piN v)=v:=by
 have:v=0∨v=1∨v=2:=by omega
 rcases this with rfl | rfl | rfl<;>decide
def rW (w:List UInt8):List UInt8:=swapW [119] [120] (swapW [120] [121] (swapW [121] [122] (swapW [122] [119] w)))
theorem rW_len (w:List UInt8) (h:w.length≠1):rW w=w:=by
 have e:∀ a b:UInt8,swapW [a] [b] w=w:=fun a b=>by
  unfold swapW
  rw[if_neg]
  intro c
  rw[eq_of_beq c] at h;exact h rfl
 unfold rW
 rw[e,e,e,e]
theorem rW_small (c:UInt8) (h:c.toNat<62):rW [c]=[c]:=by
 have e:∀ a b:UInt8,62≤a.toNat→swapW [a] [b] [c]=[c]:=fun a b ha=>by
  unfold swapW
  rw[if_neg]
  intro c2
  have:=(List.cons.inj (eq_of_beq c2)).1
  rw[this] at h;omega
 unfold rW
 rw[e _ _ (by decide),e _ _ (by decide),e _ _ (by decide),e _ _ (by decide)]
theorem rW_no {w:List UInt8} (h:∀ c:UInt8,w=[c]→c.toNat<62):rW w=w:=by
 match w,h with
 | [],_=>exact rW_len [] (by simp)
 | [c],h=>exact rW_small c (h c rfl)
 | a::b::r,_=>exact rW_len _ (by simp)
theorem rW_var {p:List UInt8} (h:(varOf p).2=true):varOf (rW p)=(piN (varOf p).1,true):=by
 rcases varOf_word h with rfl | rfl | rfl<;>decide
theorem rW_operand {v:List UInt8} (h:(zIu v).2=true):rW v=v:=rW_no (operand_small h)
theorem rW_long {w:List UInt8} (h:2≤w.length):rW w=w:=rW_len w (by omega)
theorem rW_ordering {st st':Stm} {r:List (List UInt8)} (h:zIW st r=(st',true)):r.map rW=r:=by
 rcases ordering_word h with ⟨o,rfl,ho,_⟩ | ⟨o,s,rfl,h1,h2,_⟩
 ·rw[List.map_cons,List.map_nil,rW_long (by rw[ho];decide)]
 ·obtain⟨hw,hr⟩:=order_word h1
  rw[List.map_cons,List.map_cons,List.map_nil]
  have e1:rW o=o:=rW_long (by rw[hw];rcases hr with e | e | e | e | e | e<;>rw[e]<;>decide)
  have e2:rW s=s:=rW_long (by rcases scope_word h2 with ⟨e,_⟩ | ⟨e,_⟩<;>rw[e]<;>decide)
  rw[e1,e2]
theorem ordering_var (st st':Stm) (r:List (List UInt8)) (v:Int) (h:zIW st r=(st',true)):zIW { st with var:=v } r=({ st' with var:=v },true)∧st'.var=st.var∧st'.kind=st.kind:=by
 rcases ordering_word h with ⟨o,rfl,ho,rfl⟩ | ⟨o,s,rfl,h1,h2,h3,rfl,h5⟩
 ·refine⟨?_,rfl,rfl⟩
  simp only[zIW] at h ⊢
  split at h
  ·rename_i hc
   rw[if_pos hc]
   split at h
   ·rename_i h0;rw[if_pos h0];simp
   ·simp at h
  ·simp at h
 ·refine⟨?_,rfl,rfl⟩
  rw[ordering_two { st with var:=v } o s h1 h5 (beq_eq_false_iff_ne.2 h3),h2]
structure RN (pi:Int→Int) (s t:Stm):Prop where
 st:Q.StN pi s t
 line:t.line=s.line
theorem rn_str (pi:Int→Int):StR (RN pi) where
 kind s t h:=h.st.kind
 line s t h:=h.line
 fen s t h _:=h.st.order
 sl s t l h:=⟨⟨h.st.kind,h.st.dest,h.st.a,h.st.b,h.st.order,h.st.scope,h.st.var⟩,rfl⟩
 sb s t l h:=⟨⟨h.st.kind,h.st.dest,h.st.a,h.st.b,h.st.order,h.st.scope,h.st.var⟩,h.line⟩
theorem rn_var {s:Stm} (pi:Int→Int) (hk:Q.isA4 s.kind=true):RN pi s { s with var:=pi s.var } :=
 ⟨⟨rfl,rfl,rfl,rfl,rfl,rfl,by rw[hk];rfl⟩,rfl⟩
theorem rn_same {s:Stm} (pi:Int→Int) (hk:Q.isA4 s.kind=false):RN pi s s:=⟨⟨rfl,rfl,rfl,rfl,rfl,rfl,by rw[hk];rfl⟩,rfl⟩
def gN (ws:List (List UInt8)):List (List UInt8):=ws.map rW
theorem gn_rows:RowMap (RN piN) gN where
 thr c hc:=by
  have:rW [c]=[c]:=rW_small c (by
   simp only[digit,Bool.and_eq_true,decide_eq_true_eq] at hc
   omega)
  unfold gN
  rw[List.map_cons,List.map_cons,List.map_nil,this,show rW thrW=thrW by decide]
 stm ws st hf h:=by
  rcases statement_form h with ⟨p,v,r,rfl,hv,ho,hr⟩ | ⟨d,v,r,rfl,hd,hv,hr⟩ | ⟨d,c,k,p,v,r,rfl,hd,hc,hv,ho,hr⟩ | ⟨r,rfl,hr⟩ | hp
  ·obtain⟨h1,h2,h3⟩:=ordering_var _ _ _ (piN (varOf p).1) hr
   refine⟨{ st with var:=piN (varOf p).1 },storeL,rW p::v::r,?_,by decide,?_,?_⟩
   ·unfold gN
    rw[List.map_cons,List.map_cons,List.map_cons,rW_operand ho,rW_ordering hr,show rW storeL=storeL by decide]
   ·rw[stm_store _ (by rw[rW_var hv]) ho]
    have e:stStore (rW p) v={ stStore p v with var:=piN (varOf p).1 }:=by unfold stStore;rw[rW_var hv]
    rw[e];exact h1
   ·have e:(varOf p).1=st.var:=h2.symm
    rw[e]
    exact rn_var piN (by rw[h3];rfl)
  ·obtain⟨h1,h2,h3⟩:=ordering_var _ _ _ (piN (varOf v).1) hr
   obtain⟨g,hg⟩:=register_word hd
   refine⟨{ st with var:=piN (varOf v).1 },d,[61]::loadL::rW v::r,?_,by rw[hg];rfl,?_,?_⟩
   ·unfold gN
    rw[List.map_cons,List.map_cons,List.map_cons,List.map_cons,rW_ordering hr,rW_long (w:=d) (by rw[hg];simp),show rW [61]=[61] by decide,show rW loadL=loadL by decide]
   ·rw[zDW _ hd (by rw[rW_var hv])]
    have e:stLoad d (rW v)={ stLoad d v with var:=piN (varOf v).1 }:=by unfold stLoad;rw[rW_var hv]
    rw[e];exact h1
   ·have e:(varOf v).1=st.var:=h2.symm
    rw[e]
    exact rn_var piN (by rw[h3];rfl)
  ·obtain⟨h1,h2,h3⟩:=ordering_var _ _ _ (piN (varOf p).1) hr
   obtain⟨g,hg⟩:=register_word hd
   refine⟨{ st with var:=piN (varOf p).1 },d,[61]::c::rW p::v::r,?_,by rw[hg];rfl,?_,?_⟩
   ·unfold gN
    rw[List.map_cons,List.map_cons,List.map_cons,List.map_cons,List.map_cons,rW_ordering hr,rW_operand ho,rW_long (w:=d) (by rw[hg];simp),show rW [61]=[61] by decide,rW_long (w:=c) (by rcases hc with ⟨rfl,_⟩ | ⟨rfl,_⟩<;>decide)]
   ·rw[stm_step _ hd hc (by rw[rW_var hv]) ho]
    have e:stStep d (rW p) v k={ stStep d p v k with var:=piN (varOf p).1 }:=by unfold stStep;rw[rW_var hv]
    rw[e];exact h1
   ·have e:(varOf p).1=st.var:=h2.symm
    rw[e]
    refine rn_var piN ?_
    rw[h3]
    show Q.isA4 k=true
    rcases hc with ⟨_,rfl⟩ | ⟨_,rfl⟩<;>rfl
  ·refine⟨st,fenceL,r,?_,by decide,h,?_⟩
   ·unfold gN
    rw[List.map_cons,rW_ordering hr,show rW fenceL=fenceL by decide]
   ·have h3:=(ordering_var _ _ _ 0 hr).2.2
    exact rn_same piN (by rw[h3];rfl)
  ·obtain⟨c,w,q,rfl,hc1,hc2,_,hc3⟩:=hp.head
   refine⟨st,c::w,q,?_,?_,h,rn_same piN ?_⟩
   ·unfold gN
    have ht:q.map rW=q:=by
     have hq:∀ x∈q,rW x=x:=fun x hx=>rW_no (hp.nov x (by simpa using hx))
     clear hp hf h
     induction q with
     | nil=>rfl
     | cons a q ih=>rw[List.map_cons,hq a (by simp),ih (fun x hx=>hq x (List.mem_cons_of_mem _ hx))]
    have hh:rW (c::w)=c::w:=by
     cases w with
     | nil =>
      exfalso
      rcases hc3 with e | e
      ·simp at e
      ·have hst:=h
       simp only[zIn] at hst
       split at hst
       ·rename_i e1;have:=eq_of_beq e1;simp at this
       ·split at hst
        ·rename_i e1;have:=eq_of_beq e1;simp at this
        ·split at hst
         ·rename_i e1;have:=eq_of_beq e1;simp at this
         ·split at hst
          ·rename_i e1;have:=eq_of_beq e1;simp at this
          ·split at hst
           ·rename_i e1;have:=eq_of_beq e1;simp at this
           ·match q,hst with
            | [],hst=>simp[zIm] at hst
            | [_],hst=>simp[zIm] at hst
            | e2::d2::r2,hst =>
             simp only[zIm] at hst
             split at hst
             ·split at hst
              ·rename_i hreg
               obtain⟨g,hg⟩:=register_word hreg
               simp at hg
              ·simp at hst
             ·simp at hst
     | cons a w=>exact rW_long (by simp)
    rw[List.map_cons,hh,ht]
   ·rw[beq_eq_false_iff_ne]
    intro e
    exact hc2 (List.cons.inj e).1
   ·have:=hp.kind.1
    unfold isAcc at this
    unfold Q.isA4
    simpa using this
def textN (s:List UInt8):List UInt8:=sw [119] [120] 0 true (sw [120] [121] 0 true (sw [121] [122] 0 true (sw [122] [119] 0 true s)))
theorem free1 (c:UInt8) (h:isSep c=false):free [c]:=fun x hx=>by rw[List.mem_singleton] at hx;rw[hx];exact h
theorem rowSw_split {a b:UInt8} (hb:isSep b=false) {x:List UInt8} (h:(10:UInt8) ∉ x):zIo 32 (rowSw [a] [b] x)=(zIo 32 x).map (swapW [a] [b])∧(10:UInt8) ∉ rowSw [a] [b] x:=by
 have hf:=free_words h
 have h2:∀ w∈(zIo 32 x).map (swapW [a] [b]),free w:=fun w hw=>by
  obtain⟨v,hv,rfl⟩:=List.mem_map.1 hw
  exact swapW_free (free1 b hb) (hf v hv)
 exact⟨split_join_free (by simpa using zJl 32 x) h2,join_free h2⟩
theorem textN_rows {xs:List (List UInt8)} (h:∀ x∈xs,(10:UInt8) ∉ x):textN (textOf xs)=textOf (xs.map (rowG gN)):=by
 have k:∀ {a b:UInt8},isSep b=false→∀ {ys:List (List UInt8)},(∀ x∈ys,(10:UInt8) ∉ x)→∀ x∈ys.map (rowSw [a] [b]),(10:UInt8) ∉ x:=fun hb ys hy x hx=>by
  obtain⟨y,hy1,rfl⟩:=List.mem_map.1 hx
  exact (rowSw_split hb (hy y hy1)).2
 have h1:=k (a:=122) (b:=119) (by decide) h
 have h2:=k (a:=121) (b:=122) (by decide) h1
 have h3:=k (a:=120) (b:=121) (by decide) h2
 unfold textN
 rw[sw_text _ (by simp) (free1 122 (by decide)) h,sw_text _ (by simp) (free1 121 (by decide)) h1,sw_text _ (by simp) (free1 120 (by decide)) h2,sw_text _ (by simp) (free1 119 (by decide)) h3,List.map_map,List.map_map,List.map_map]
 congr 1
 refine List.map_congr_left fun x hx=>?_
 have e1:=rowSw_split (a:=122) (b:=119) (by decide) (h x hx)
 have e2:=rowSw_split (a:=121) (b:=122) (by decide) e1.2
 have e3:=rowSw_split (a:=120) (b:=121) (by decide) e2.2
 show rowSw [119] [120] (rowSw [120] [121] (rowSw [121] [122] (rowSw [122] [119] x)))=rowG gN x
 unfold rowG gN
 show joinC 32 ((zIo 32 (rowSw [120] [121] (rowSw [121] [122] (rowSw [122] [119] x)))).map (swapW [119] [120]))=_
 rw[e3.1,e2.1,e1.1,List.map_map,List.map_map,List.map_map]
 rfl
theorem all2_stsN {pi:Int→Int}:∀ {x y:List Stm},All2 (RN pi) x y→Q.StsN pi x y
 | [],[],_=>trivial
 | a::x,b::y,h=>⟨h.1.st,all2_stsN h.2⟩
 | [],b::y,h=>by simp[All2] at h
 | a::x,[],h=>by simp[All2] at h
theorem all2_thsN {pi:Int→Int}:∀ {x y:List Thr},All2 (ThR (RN pi)) x y→Q.ThsN pi x y
 | [],[],_=>trivial
 | a::x,b::y,h=>⟨⟨h.1.block,all2_stsN h.1.sts⟩,all2_thsN h.2⟩
 | [],b::y,h=>by simp[All2] at h
 | a::x,[],h=>by simp[All2] at h
theorem stn_back {s t:Stm} (h:Q.StN piN s t) (hv:Q.StV s):Q.StN piM t s :=
 ⟨h.kind.symm,h.dest.symm,h.a.symm,h.b.symm,h.order.symm,h.scope.symm,by
  rw[h.kind,h.var]
  by_cases c:Q.isA4 s.kind=true
  ·rw[if_pos c,if_pos c]
   have:=hv (by unfold Q.isA4 at c;simp only[Bool.or_eq_true,beq_iff_eq] at c;omega)
   rw[piM_N this.1 this.2]
  ·rw[if_neg c,if_neg c]⟩
theorem stsn_back:∀ {x y:List Stm},Q.StsN piN x y→(∀ s∈x,Q.StV s)→Q.StsN piM y x
 | [],[],_,_=>trivial
 | a::x,b::y,h,hv=>⟨stn_back h.1 (hv a (by simp)),stsn_back h.2 fun s hs=>hv s (List.mem_cons_of_mem _ hs)⟩
 | [],b::y,h,_=>by simp[Q.StsN] at h
 | a::x,[],h,_=>by simp[Q.StsN] at h
theorem thsn_back:∀ {x y:List Thr},Q.ThsN piN x y→Q.KerV x→Q.ThsN piM y x
 | [],[],_,_=>trivial
 | a::x,b::y,h,hv=>⟨⟨h.1.block.symm,stsn_back h.1.sts (hv a (by simp))⟩,thsn_back h.2 fun s hs=>hv s (List.mem_cons_of_mem _ hs)⟩
 | [],b::y,h,_=>by simp[Q.ThsN] at h
 | a::x,[],h,_=>by simp[Q.ThsN] at h
theorem var_rng {p:List UInt8} (h:(varOf p).2=true):0≤(varOf p).1∧(varOf p).1<3:=by
 rcases varOf_word h with rfl | rfl | rfl<;>decide
theorem statement_v {ws:List (List UInt8)} {st:Stm} (h:zIn ws=(st,true)):Q.StV st:=by
 intro hk
 rcases statement_form h with ⟨p,v,r,rfl,hv,ho,hr⟩ | ⟨d,v,r,rfl,hd,hv,hr⟩ | ⟨d,c,k,p,v,r,rfl,hd,hc,hv,ho,hr⟩ | ⟨r,rfl,hr⟩ | hp
 ·rw[(ordering_var _ _ _ 0 hr).2.1];exact var_rng hv
 ·rw[(ordering_var _ _ _ 0 hr).2.1];exact var_rng hv
 ·rw[(ordering_var _ _ _ 0 hr).2.1];exact var_rng hv
 ·have:=(ordering_var _ _ _ 0 hr).2.2
  rw[this] at hk
  exact absurd hk (by show ¬ ((4:Int)=0∨_);decide)
 ·have:=hp.kind.1
  unfold isAcc at this
  simp at this
  omega
theorem kernel_v {s:List UInt8} (h:(kernel s).2.1=0):Q.KerV (kernel s).1:=by
 obtain⟨r1,_,hr,_,_,_,hk,_⟩:=kernel_rows h
 rw[hk]
 exact run_all (G:=Q.StV) (fun st l lb hst=>hst) (fun ws st hst=>statement_v hst) _ _ _ hr (fun t ht=>by simp[Rd.zero] at ht)
end P
namespace P
theorem sw_lenE {a b:List UInt8} (h:a.length=b.length) (ha:a≠[]):∀ (l:List UInt8) (n:Nat) (fr:Bool),n≤l.length→(sw a b n fr l).length=l.length-n
 | [],n,fr,hn=>by
  cases n with
  | zero=>simp[sw]
  | succ n=>simp at hn
 | x::l,n+1,fr,hn=>by
  rw[sw,sw_lenE h ha l n false (by simpa using hn)];simp
 | x::l,0,fr,hn=>by
  rw[sw]
  split
  ·rename_i c
   rw[Bool.and_eq_true] at c
   obtain⟨d,t,_,he⟩:=matchB_of c.2
   have hl:(x::l).length=a.length+(t.length+1):=by rw[he];simp
   have hp:0<a.length:=List.length_pos_iff.2 ha
   simp only[List.length_cons] at hl
   rw[List.length_append,sw_lenE h ha l (a.length-1) false (by omega),← h]
   simp only[List.length_cons]
   omega
  ·rw[List.length_cons,sw_lenE h ha l 0 _ (by omega)];simp
theorem textN_len (s:List UInt8):(textN s).length=s.length:=by
 unfold textN
 rw[sw_lenE (a:=[119]) (b:=[120]) (by rfl) (by simp) _ 0 true (by omega),sw_lenE (a:=[120]) (b:=[121]) (by rfl) (by simp) _ 0 true (by omega),sw_lenE (a:=[121]) (b:=[122]) (by rfl) (by simp) _ 0 true (by omega),sw_lenE (a:=[122]) (b:=[119]) (by rfl) (by simp) _ 0 true (by omega)]
 rfl
def rot (r:List Int):List Int:=r.take (r.length-3)++[r.getD (r.length-3+2) 0,r.getD (r.length-3) 0,r.getD (r.length-3+1) 0]
theorem rot_is (g:List Int) (a b c:Int):rot (g++[a,b,c])=g++[c,a,b]:=by
 unfold rot
 have hl:(g++[a,b,c]).length-3=g.length:=by simp
 rw[hl,List.take_left]
 have e:∀ j,(g++[a,b,c]).getD (g.length+j) 0=[a,b,c].getD j 0:=fun j=>by
  rw[List.getD_eq_getElem?_getD,List.getElem?_append_right (by omega),Nat.add_sub_cancel_left,List.getD_eq_getElem?_getD]
 have e0:=e 0
 rw[Nat.add_zero] at e0
 rw[e 2,e0,e 1]
 rfl
theorem nodup_map {α β:Type} (f:α→β) {l:List α} (h:l.Nodup) (hi:∀ a∈l,∀ b∈l,f a=f b→a=b):(l.map f).Nodup:=by
 unfold List.Nodup at h ⊢
 rw[List.pairwise_map]
 refine List.Pairwise.imp_of_mem (fun ha hb hab e=>hab (hi _ ha _ hb e)) h
def unrot (r:List Int):List Int:=r.take (r.length-3)++[r.getD (r.length-3+1) 0,r.getD (r.length-3+2) 0,r.getD (r.length-3) 0]
theorem unrot_is (g:List Int) (a b c:Int):unrot (g++[a,b,c])=g++[b,c,a]:=by
 unfold unrot
 have hl:(g++[a,b,c]).length-3=g.length:=by simp
 rw[hl,List.take_left]
 have e:∀ j,(g++[a,b,c]).getD (g.length+j) 0=[a,b,c].getD j 0:=fun j=>by
  rw[List.getD_eq_getElem?_getD,List.getElem?_append_right (by omega),Nat.add_sub_cancel_left,List.getD_eq_getElem?_getD]
 have e0:=e 0
 rw[Nat.add_zero] at e0
 rw[e 2,e0,e 1]
 rfl
theorem map_le {l m:List (List Int)} (f:List Int→List Int) (hl:l.Nodup) (hm:∀ r∈l,f r∈m) (hi:∀ a∈l,∀ b∈l,f a=f b→a=b):l.length≤m.length:=by
 have:=Q.nodup_len (l.map f) m (nodup_map f hl hi) (fun y hy=>by obtain⟨r,hr,rfl⟩:=List.mem_map.1 hy;exact hm r hr)
 simpa using this
theorem app_three {g h:List Int} {a b c a' b' c':Int} (e:g++[a,b,c]=h++[a',b',c']):g=h∧a=a'∧b=b'∧c=c':=by
 have:=List.append_inj' e rfl
 have h2:=this.2
 simp only[List.cons.injEq,and_true] at h2
 exact⟨this.1,h2.1,h2.2.1,h2.2.2⟩
theorem renamed_law {s:List UInt8} (h:(kernel s).2.1=0):(kernel (textN s)).2.1=0∧(Q.zIq (kernel (textN s)).1).clash=(Q.zIq (kernel s).1).clash∧(Q.zIq (kernel (textN s)).1).rows.length=(Q.zIq (kernel s).1).rows.length∧∀ r∈(Q.zIq (kernel s).1).rows,3≤r.length∧rot r∈(Q.zIq (kernel (textN s)).1).rows:=by
 obtain⟨r1,hz,_,hlast,_⟩:=kernel_rows h
 have h10:∀ x∈(zIo 10 s).dropLast,(10:UInt8) ∉ x:=fun x hx=>split_free 10 s x (dl_mem hx)
 have et:textN s=textOf ((zIo 10 s).dropLast.map (rowG gN)):=by
  conv=>lhs;rw[text_split hlast]
  exact textN_rows h10
 have hzt:=textN_len s
 have hgf:∀ {ws:List (List UInt8)},(∀ w∈ws,free w)→∀ w∈gN ws,free w:=fun hw w hm=>by
  unfold gN at hm
  obtain⟨v,hv,rfl⟩:=List.mem_map.1 hm
  exact swapW_free (free1 _ (by decide)) (swapW_free (free1 _ (by decide)) (swapW_free (free1 _ (by decide)) (swapW_free (free1 _ (by decide)) (hw v hv))))
 obtain⟨ts',h1,h2⟩:=kernel_map (rn_str piN) gn_rows (rowG gN) h (fun x hx=>by
  unfold rowG
  exact split_join_free (by unfold gN;simpa using zJl 32 x) (hgf (free_words (h10 x hx)))) (fun x hx=>join_free (hgf (free_words (h10 x hx)))) (by rw[← et];omega)
 rw[← et] at h1
 have h0:(kernel (textN s)).2.1=0:=by rw[h1]
 have hn:=all2_thsN h2
 have hv:=kernel_v h
 have hb:=thsn_back hn hv
 have hv':=kernel_v h0
 have k1:=Q.zJN (zIC h)
 have k2:=Q.zJN (zIC h0)
 rw[h1] at hv' k2 ⊢
 obtain⟨a1,a2⟩:=Q.zJO piN_perm hn hv hv' k1 k2
 obtain⟨b1,b2⟩:=Q.zJO piM_perm hb hv' hv k2 k1
 have hm:∀ r∈(Q.zIq (kernel s).1).rows,∃ g x y z,r=g++[x,y,z]∧g++[z,x,y]∈(Q.zIq ts').rows:=fun r hr=>by
  obtain⟨g,x,e,hx⟩:=b1 r hr
  exact⟨g,x 0,x 1,x 2,e,hx⟩
 have hm':∀ r∈(Q.zIq ts').rows,∃ g x y z,r=g++[x,y,z]∧g++[y,z,x]∈(Q.zIq (kernel s).1).rows:=fun r hr=>by
  obtain⟨g,x,e,hx⟩:=a1 r hr
  exact⟨g,x 0,x 1,x 2,e,hx⟩
 refine⟨rfl,?_,?_,fun r hr=>?_⟩
 ·cases c1:(Q.zIq ts').clash<;>cases c2:(Q.zIq (kernel s).1).clash
  ·rfl
  ·have:=b2 c2;rw[c1] at this;cases this
  ·have:=a2 c1;rw[c2] at this;cases this
  ·rfl
 ·refine Nat.le_antisymm (map_le unrot (Q.zJt (Q.zJk _)) (fun r hr=>?_) (fun a ha b hb e=>?_)) (map_le rot (Q.zJt (Q.zJk _)) (fun r hr=>?_) (fun a ha b hb e=>?_))
  ·obtain⟨g,x,y,z,rfl,hx⟩:=hm' r hr
   rw[unrot_is];exact hx
  ·obtain⟨g,x,y,z,rfl,_⟩:=hm' a ha
   obtain⟨g',x',y',z',rfl,_⟩:=hm' b hb
   rw[unrot_is,unrot_is] at e
   obtain⟨e1,e2,e3,e4⟩:=app_three e
   rw[e1,e2,e3,e4]
  ·obtain⟨g,x,y,z,rfl,hx⟩:=hm r hr
   rw[rot_is];exact hx
  ·obtain⟨g,x,y,z,rfl,_⟩:=hm a ha
   obtain⟨g',x',y',z',rfl,_⟩:=hm b hb
   rw[rot_is,rot_is] at e
   obtain⟨e1,e2,e3,e4⟩:=app_three e
   rw[e1,e2,e3,e4]
 ·obtain⟨g,x,y,z,rfl,hx⟩:=hm r hr
  exact⟨by simp,by rw[rot_is];exact hx⟩
end P
end Go.Proofs.YtkmebkbpfmoeaaaGreat
namespace Go.Proofs.YtkmebkbpfmoeaaaGreat
open Go Go.RowKit
set_option maxRecDepth 100000
namespace Q
theorem source_long {ts:List P.Thr} (h:P.KerIs ts):∀ r∈(zIq ts).rows,7≤r.length:=fun r hr=>by
 obtain⟨c,hc,ds,hds,_,rfl⟩:=(source_rows ts r).1 hr
 obtain⟨d,hd,rs,hrs,rfl,_⟩:=cands_mem.1 hc
 have hw:=(ker_wi h (digitRows_ok hd)).regs
 have h1:0<ts.length:=List.length_pos_iff.2 h.ne
 unfold zJB
 simp only[List.length_append,List.length_cons,List.length_nil]
 omega
end Q
theorem zGK {w:World} {g:Nat} {r:List Int} (hc:∀ i (hi:i<r.length),w.cell? ⟨g,i,none⟩=some (.int .i64 r[i])) (n:Nat) (hn:n≤r.length):∀ j u,((r.take n).map (Value.int .i64))[j]?=some u→w.cell? ((⟨g,0,none⟩:Addr).add j)=some u:=fun j u hu=>by
 have hj:j<((r.take n).map (Value.int .i64)).length:=(List.getElem?_eq_some_iff.1 hu).1
 simp only[List.length_map,List.length_take] at hj
 rw[List.getElem?_map,List.getElem?_take,if_pos (by omega),List.getElem?_eq_getElem (by omega),Option.map_some] at hu
 rw[← Option.some.inj hu]
 have e:(⟨g,0,none⟩:Addr).add j=⟨g,j,none⟩:=by by_cases h:j=0<;>simp[Addr.add,h]
 rw[e]
 exact hc j (by omega)
theorem zGg (t:ByteArray) (w:World) (h:t.size≤8192):Calls Tryz.prog 13 #[.string t] w fun e w'=>∃ ov cl f l,e=.returned (.tuple #[ov,.bool cl,.int .i64 f,.int .i64 l])∧Below w.heap.size w w':=by
 cases ze:((P.kernel t.toList).2.1 != 0)
 ·refine (zCu t w h (by simpa using ze)).mono ?_
  rintro e w' ⟨ov,vs,rfl,_,hb⟩
  exact⟨_,_,_,_,rfl,hb⟩
 ·refine (zDe t w h ze).mono ?_
  rintro e w' ⟨rfl,hb⟩
  exact⟨_,_,_,_,rfl,hb⟩
theorem zEJ (s:ByteArray) (w:World) (hs:s.size≤8192) :
  Calls Tryz.prog 11 #[.string s] w fun e w'=>e=.returned (.bool true)∧Below w.heap.size w w':=by
 obtain⟨i0,hi,hz0,hz1,hz2⟩:=info_parts Tryz.infoIntM
 have HI:=zAa hi
 have HZ0:=zAa hz0
 have HZ1:=zAa hz1
 have HZ2:=zAa hz2
 clear hi hz0 hz1 hz2
 have HTN:=zAa (P.textN_len s.toList)
 have HT0:Hid (∀ t:ByteArray,t.toList=P.textN s.toList→t.size=s.size):=fun t ht=>by rw[← zAk,ht,HTN.out,zAk]
 cases ze:((P.kernel s.toList).2.1 != 0)
 ·have he0:(P.kernel s.toList).2.1=0:=by simpa using ze
  have HLAW:=zAa (P.renamed_law he0)
  have HSK:=zAa (fun w=>zCu s w hs he0)
  have HLN:=zAa (Q.zJH (P.zIC he0))
  have HLG:=zAa (Q.source_long (P.zIC he0))
  have HFW:=zAa (Q.zIZ (P.zIC he0))
  clear ze he0
  generalize hso:Q.zIq (P.kernel s.toList).1=SO at *
  clear hso
  go_enter Tryz.func11,Tryz.ntmps11
  go_upto_region 2 with (first
   | (go_at_call_of 13 (Value.string s);refine (HSK.out _).mono ?_;rintro e w1 ⟨ov,vs,rfl,hri,hb1⟩;have RI:=zAa hri;have B1:=zAa hb1;clear hri hb1))
  clear HSK
  have HY1:=zAa (zCq s ⟨#[122]⟩ ⟨#[119]⟩)
  go_upto_region 3 with (first
   | (go_at_call_of 18 (Value.string s);refine (zBw s ⟨#[122]⟩ ⟨#[119]⟩ _ (by omega) (by simp[zAQ]) (by simp[zAQ]) (by simp only[zAd];decide) (by unfold P.free;simp only[zAd];decide)).mono ?_;rintro e wb ⟨rfl,hq1,hwb⟩;subst hwb))
  generalize hyy:SW s ⟨#[122]⟩ ⟨#[119]⟩=t1 at *
  clear hyy
  have HY2:=zAa (zCq t1 ⟨#[121]⟩ ⟨#[122]⟩)
  go_upto_region 4 with (first
   | (go_at_call_of 18 (Value.string t1);refine (zBw t1 ⟨#[121]⟩ ⟨#[122]⟩ _ (by omega) (by simp[zAQ]) (by simp[zAQ]) (by simp only[zAd];decide) (by unfold P.free;simp only[zAd];decide)).mono ?_;rintro e wb ⟨rfl,hq2,hwb⟩;subst hwb))
  generalize hyy:SW t1 ⟨#[121]⟩ ⟨#[122]⟩=t2 at *
  clear hyy
  have HY3:=zAa (zCq t2 ⟨#[120]⟩ ⟨#[121]⟩)
  go_upto_region 5 with (first
   | (go_at_call_of 18 (Value.string t2);refine (zBw t2 ⟨#[120]⟩ ⟨#[121]⟩ _ (by omega) (by simp[zAQ]) (by simp[zAQ]) (by simp only[zAd];decide) (by unfold P.free;simp only[zAd];decide)).mono ?_;rintro e wb ⟨rfl,hq3,hwb⟩;subst hwb))
  generalize hyy:SW t2 ⟨#[120]⟩ ⟨#[121]⟩=t3 at *
  clear hyy
  have HY4:=zAa (zCq t3 ⟨#[119]⟩ ⟨#[120]⟩)
  go_upto_region 6 with (first
   | (go_at_call_of 18 (Value.string t3);refine (zBw t3 ⟨#[119]⟩ ⟨#[120]⟩ _ (by omega) (by simp[zAQ]) (by simp[zAQ]) (by simp only[zAd];decide) (by unfold P.free;simp only[zAd];decide)).mono ?_;rintro e wb ⟨rfl,hq4,hwb⟩;subst hwb))
  generalize hyy:SW t3 ⟨#[119]⟩ ⟨#[120]⟩=t4 at *
  clear hyy
  have htx:t4.toList=P.textN s.toList:=by
   rw[HY4.out,HY3.out,HY2.out,HY1.out]
   simp only[zAd]
   rfl
  have hts:t4.size≤8192:=by rw[HT0.out t4 htx];exact hs
  clear HY1 HY2 HY3 HY4 hq1 hq2 hq3 hq4 HT0 HTN
  rw[← htx] at HLAW
  obtain⟨ht0,hcl,hlen,hrot⟩:=HLAW.out
  have HSK:=zAa (fun w=>zCu t4 w hts ht0)
  have HLN2:=zAa (Q.zJH (P.zIC ht0))
  have HFW2:=zAa (Q.zIZ (P.zIC ht0))
  have HROT:=zAa hrot
  clear hrot HLAW ht0 htx
  generalize hsq:Q.zIq (P.kernel t4.toList).1=SQ at *
  clear hsq
  rw[hcl] at HSK
  clear hcl
  generalize hclq:SO.clash=cl at *
  clear hclq
  obtain⟨xa,ca,rfl,hxa⟩:=RI.out.form
  have hneq:((SO.rows.length:Int) != (SQ.rows.length:Int))=false:=by rw[hlen];simp
  clear hlen
  go_upto_region 7 with (first
   | (go_at_call_of 13 (Value.string t4);refine (HSK.out _).mono ?_;rintro e w2 ⟨oq,us,rfl,hri2,hb2⟩;have RQ:=zAa hri2;have RI2:=zAa (RI.out.below hb2);have B2:=zAa (zAo B1.out (Nat.le_refl _) hb2);have HB2:=zAa hb2;clear hri2 hb2))
  clear HSK
  obtain⟨qa,qc,rfl,_⟩:=RQ.out.form
  clear hxa
  obtain⟨xa',ca',hx2,hxa⟩:=RI2.out.form
  simp only[Value.slice.injEq,true_and] at hx2
  obtain⟨hx3,hx4⟩:=hx2
  subst hx3 hx4
  go_upto_region 12 with fail
  go_loopw [12] (fun iv wr=>∃ j:Nat,j≤SO.rows.length∧iv=.int .i64 (j:Int)∧Hid (Below w2.heap.size w2 wr)) (fun iv _=>SO.rows.length-(intOf iv).toNat)
  case atStart=>exact⟨0,Nat.zero_le _,rfl,Below.refl _ _⟩
  case round =>
   obtain⟨j,hj,rfl,HB⟩:=hrel
   have hjb:(j:Int)≤100000000:=by have:=HFW.out;omega
   by_cases hlt:j<SO.rows.length
   ·have hlt':(j:Int)<(SO.rows.length:Int):=by omega
    obtain⟨b,hbx,hB,hb,hcs⟩:=hxa (by omega)
    subst hbx
    have hiv:j<vs.length:=by rw[RI2.out.len];exact hlt
    have cu:=(HB.out.cell (p:=⟨b,j,none⟩) hb).trans (hcs j hiv)
    have lb:=Nat.lt_of_lt_of_le hb HB.out.size
    have HU:=((RI2.out.rows j hlt vs[j] (List.getElem?_eq_getElem hiv)).below HB.out)
    have HR1:=zAa (HROT.out SO.rows[j] (List.getElem_mem hlt)).2
    have hr7:=HLG.out SO.rows[j] (List.getElem_mem hlt)
    have hr1000:=HLN.out SO.rows[j] (List.getElem_mem hlt)
    generalize vs[j]=u at *
    generalize SO.rows[j]=r at *
    obtain⟨gz,zc,rfl,hzc,hgz,hcap⟩:∃ g c,u=.slice (some ⟨g,0,none⟩) r.length c∧(∀ i (h:i<r.length),wr.cell? ⟨g,i,none⟩=some (.int .i64 r[i]))∧g<wr.heap.size∧r.length≤c:=by
     rcases HU with ⟨_,e⟩ | h
     ·rw[e] at hr7;simp at hr7
     ·exact h
    obtain⟨n,hn⟩:∃ n:Nat,r.length=n+3:=⟨r.length-3,by omega⟩
    have hn':(r.length:Int)-3=(n:Int):=by omega
    have hq2:(n:Int)+2<(r.length:Int):=by omega
    have hq1:(n:Int)+1<(r.length:Int):=by omega
    have hq0:(n:Int)<(r.length:Int):=by omega
    have n4:4≤n:=by omega
    have hcap':n≤zc:=by omega
    have hcap2:(n:Int)≤(zc:Int):=by omega
    have n1000:n<1000:=by omega
    have HROW:Hid (P.rot r=r.take n++[r.getD (n+2) 0,r.getD n 0,r.getD (n+1) 0]):=by
     unfold Hid P.rot;rw[show r.length-3=n by omega]
    have x2:wr.cell? ⟨gz,n+2,none⟩=some (.int .i64 (r.getD (n+2) 0)):=by rw[zAF r _ (by omega) 0];exact hzc (n+2) (by omega)
    have x0:wr.cell? ⟨gz,n,none⟩=some (.int .i64 (r.getD n 0)):=by rw[zAF r _ (by omega) 0];exact hzc n (by omega)
    have x1:wr.cell? ⟨gz,n+1,none⟩=some (.int .i64 (r.getD (n+1) 0)):=by rw[zAF r _ (by omega) 0];exact hzc (n+1) (by omega)
    have HNEW:=zAa (zGK hzc n (by omega))
    have RQ2:=zAa (RQ.out.below HB.out)
    generalize r.getD (n+2) 0=v2 at *
    generalize r.getD n 0=v0 at *
    generalize r.getD (n+1) 0=v1 at *
    have HL:=zAa hn
    clear HU hzc hcs hn hcap
    go_upto_region 15 with fail
    (try rw[hn'])
    clear hn'
    go_upto_region 16 with (first
     | (at_builtin;refine wpList_append_lies _ rfl _ (.tmp 77) 31 rfl wr.heap.size 3 i0 (.int .i64 0) 1 8 Tryz.underlying31 HI.out HZ0.out HZ1.out HZ2.out rfl (by decide) (.slice none 0 0) 0 [] rfl (World.ownsRow_nil _ _ _ _) ⟨gz,0,none⟩ n zc ((r.take n).map (Value.int .i64)) rfl (by have:=HL.out;simp;omega) (by exact HNEW.out) (fun u hu=>by obtain⟨y,_,rfl⟩:=List.mem_map.1 hu;rfl) (by omega) (by unfold maxLen;omega) (by omega) (Nat.le_refl _) _ rfl ?_;intro g1 c1 w3 hown3 hgrow3 hat3 hglt3))
    have BW3:Below wr.heap.size wr w3:=(Below.refl _ _).grown hgrow3 (Nat.le_refl _) (fun y hy=>by simp[Value.ownBlock] at hy)
    have cu3:=cfL BW3 lb cu
    have y2:=cfL BW3 hgz x2
    have y0:=cfL BW3 hgz x0
    have y1:=cfL BW3 hgz x1
    have lb3:=Nat.lt_of_lt_of_le lb BW3.size
    have lz3:=Nat.lt_of_lt_of_le hgz BW3.size
    have hsz3:=BW3.size
    simp only[Nat.zero_add,List.nil_append] at hown3
    have HO4:Hid ((w3.alloc (.cells #[.int .i64 v2,.int .i64 v0,.int .i64 v1] 3)).ownsRow wr.heap.size 3 1 (.slice (some ⟨g1,0,none⟩) n c1) n ((r.take n).map (Value.int .i64))):=hown3.alloc _
    have HN4:Hid (∀ y u,[Value.int .i64 v2,.int .i64 v0,.int .i64 v1][y]?=some u→(w3.alloc (.cells #[.int .i64 v2,.int .i64 v0,.int .i64 v1] 3)).cell? ((⟨w3.heap.size,0,none⟩:Addr).add y)=some u):=World.news_of_block (cs:=#[.int .i64 v2,.int .i64 v0,.int .i64 v1]) (t:=3) (fr:=(0,0)) (heap_alloc_new w3 _)
    have HG1:Hid (wr.heap.size≤g1):=(hown3.lt g1 rfl).1
    have B3:=zAa BW3
    clear cu x2 x0 x1 HNEW hgrow3 hat3 hown3 BW3
    (try simp only[Nat.zero_add])
    have hp2:(0:Int)≤(n:Int)+2:=by omega
    have hp1:(0:Int)≤(n:Int)+1:=by omega
    have hp0:(0:Int)≤(n:Int):=by omega
    have hw2:IntKind.i64.wrap ((n:Int)+2)=(n:Int)+2:=IntWalk.i64_in _ ⟨by omega,by omega⟩
    have hw1:IntKind.i64.wrap ((n:Int)+1)=(n:Int)+1:=IntWalk.i64_in _ ⟨by omega,by omega⟩
    have ht2:((n:Int)+2).toNat=n+2:=by omega
    have ht1:((n:Int)+1).toNat=n+1:=by omega
    go_region_held3 (fun w'=>w'.cell? ⟨b,j,none⟩=some (.slice (some ⟨gz,0,none⟩) r.length zc)∧w'.cell? ⟨gz,n+2,none⟩=some (.int .i64 v2)∧w'.cell? ⟨gz,n,none⟩=some (.int .i64 v0)∧w'.cell? ⟨gz,n+1,none⟩=some (.int .i64 v1)) (first | exact⟨cu3,y2,y0,y1⟩ | exact⟨(zAs lb3).trans cu3,(zAs lz3).trans y2,(zAs lz3).trans y0,(zAs lz3).trans y1⟩ | exact⟨z0,z1,z2,z3⟩) (first
     | (refine step_append_lies _ rfl (.tmp 79) (.tmp 103) 31 rfl wr.heap.size 3 i0 (.int .i64 0) 1 8 Tryz.underlying31 HI.out HZ0.out HZ1.out HZ2.out rfl (by decide) (.slice (some ⟨g1,0,none⟩) n c1) n ((r.take n).map (Value.int .i64)) (by simp[Act.eval]) (by exact HO4.out) ⟨w3.heap.size,0,none⟩ 3 3 [.int .i64 v2,.int .i64 v0,.int .i64 v1] (by simp[Act.eval]) rfl (by exact HN4.out) (by simp[Value.oneCell']) (by decide) (by unfold maxLen;omega) (by omega) (by simp;omega) (w3.heap.size+1) (by simp) ?_;intro g2 c2 w5 hown5 hgrow5 hat5 hglt5;have HG5:=zAa hgrow5;have z0:=(hgrow5.cell_far ⟨b,j,none⟩ (by simp;omega) (by have:=HG1.out;simp[Value.ownBlock];omega)).trans ((zAs lb3).trans cu3);have z1:=(hgrow5.cell_far ⟨gz,n+2,none⟩ (by simp;omega) (by have:=HG1.out;simp[Value.ownBlock];omega)).trans ((zAs lz3).trans y2);have z2:=(hgrow5.cell_far ⟨gz,n,none⟩ (by simp;omega) (by have:=HG1.out;simp[Value.ownBlock];omega)).trans ((zAs lz3).trans y0);have z3:=(hgrow5.cell_far ⟨gz,n+1,none⟩ (by simp;omega) (by have:=HG1.out;simp[Value.ownBlock];omega)).trans ((zAs lz3).trans y1)))
    have B5:Hid (Below wr.heap.size wr w5):=((B3.out.alloc hsz3 (.cells #[.int .i64 v2,.int .i64 v0,.int .i64 v1] 3)).drew).grown HG5.out (by simp;omega) (fun y hy=>by simp[Value.ownBlock] at hy;have:=HG1.out;omega)
    have RX:Hid (zBC w5 (.slice (some ⟨g2,0,none⟩) (n+3) c2) (P.rot r)):=by
     unfold Hid
     rw[HROW.out]
     refine zCt (B:=wr.heap.size) (n:=n+3) ?_ ?_
     ·rw[List.map_append];exact hown5
     ·have:=HL.out
      rw[List.length_append,List.length_take]
      simp;omega
    have RQ5:=zAa (RQ2.out.below B5.out)
    have HCT:Hid (SQ.rows.contains (P.rot r)=true):=by unfold Hid;rw[List.contains_iff_mem];exact HR1.out
    have HS5:Hid (w2.heap.size≤wr.heap.size):=HB.out.size
    clear hown5 hgrow5 hat5 z0 z1 z2 z3 cu3 y2 y0 y1 HO4 HN4 HG5 HG1 HROW HL HR1 RQ2 B3 hw2 hw1 ht2 ht1 hp2 hp1 hp0 hq2 hq1 hq0 hcap' hcap2 hglt3 hsz3 lb3 lz3 n4 n1000 hr1000 hr7
    generalize P.rot r=rr at *
    go_upto_region 17 with fail
    go_upto_region 18 with (first
     | (go_at_call 16;refine (zGX 0 _ _ SQ.rows us rr _ RQ5.out RX.out HLN2.out HFW2.out).mono ?_;rw[HCT.out];rintro e w6 ⟨rfl,hb6⟩;have B6:=zAa (zAo B5.out (Nat.le_refl _) hb6);clear hb6))
    clear RQ5 RX HCT B5
    go_wp2
    go_roundw
    case rel=>exact⟨j+1,by omega,by go_num,HB.out.trans (B6.out.mono HS5.out)⟩
    case measure=>simp[intOf];omega
   ·have hnlt:decide ((j:Int)<(SO.rows.length:Int))=false:=decide_eq_false (by omega)
    go_wp2
    go_ret
    exact⟨rfl,zAo B2.out (Nat.le_refl _) HB.out⟩
 ·have HSF:=zAa (fun w=>zDe s w hs ze)
  generalize (P.kernel s.toList).2.1=ec at *
  generalize (P.kernel s.toList).2.2=el at *
  go_enter Tryz.func11,Tryz.ntmps11
  go_upto_region 2 with (first
   | (go_at_call_of 13 (Value.string s);refine (HSF.out _).mono ?_;rintro e w1 ⟨rfl,hb1⟩;have B1:=zAa hb1;clear hb1))
  clear HSF
  have HY1:=zAa (zCq s ⟨#[122]⟩ ⟨#[119]⟩)
  go_upto_region 3 with (first
   | (go_at_call_of 18 (Value.string s);refine (zBw s ⟨#[122]⟩ ⟨#[119]⟩ _ (by omega) (by simp[zAQ]) (by simp[zAQ]) (by simp only[zAd];decide) (by unfold P.free;simp only[zAd];decide)).mono ?_;rintro e wb ⟨rfl,hq1,hwb⟩;subst hwb))
  generalize hyy:SW s ⟨#[122]⟩ ⟨#[119]⟩=t1 at *
  clear hyy
  have HY2:=zAa (zCq t1 ⟨#[121]⟩ ⟨#[122]⟩)
  go_upto_region 4 with (first
   | (go_at_call_of 18 (Value.string t1);refine (zBw t1 ⟨#[121]⟩ ⟨#[122]⟩ _ (by omega) (by simp[zAQ]) (by simp[zAQ]) (by simp only[zAd];decide) (by unfold P.free;simp only[zAd];decide)).mono ?_;rintro e wb ⟨rfl,hq2,hwb⟩;subst hwb))
  generalize hyy:SW t1 ⟨#[121]⟩ ⟨#[122]⟩=t2 at *
  clear hyy
  have HY3:=zAa (zCq t2 ⟨#[120]⟩ ⟨#[121]⟩)
  go_upto_region 5 with (first
   | (go_at_call_of 18 (Value.string t2);refine (zBw t2 ⟨#[120]⟩ ⟨#[121]⟩ _ (by omega) (by simp[zAQ]) (by simp[zAQ]) (by simp only[zAd];decide) (by unfold P.free;simp only[zAd];decide)).mono ?_;rintro e wb ⟨rfl,hq3,hwb⟩;subst hwb))
  generalize hyy:SW t2 ⟨#[120]⟩ ⟨#[121]⟩=t3 at *
  clear hyy
  have HY4:=zAa (zCq t3 ⟨#[119]⟩ ⟨#[120]⟩)
  go_upto_region 6 with (first
   | (go_at_call_of 18 (Value.string t3);refine (zBw t3 ⟨#[119]⟩ ⟨#[120]⟩ _ (by omega) (by simp[zAQ]) (by simp[zAQ]) (by simp only[zAd];decide) (by unfold P.free;simp only[zAd];decide)).mono ?_;rintro e wb ⟨rfl,hq4,hwb⟩;subst hwb))
  generalize hyy:SW t3 ⟨#[119]⟩ ⟨#[120]⟩=t4 at *
  clear hyy
  have htx:t4.toList=P.textN s.toList:=by
   rw[HY4.out,HY3.out,HY2.out,HY1.out]
   simp only[zAd]
   rfl
  have hts:t4.size≤8192:=by rw[HT0.out t4 htx];exact hs
  clear HY1 HY2 HY3 HY4 hq1 hq2 hq3 hq4 HT0 HTN
  clear htx
  go_wp2_with (first
   | (go_at_call_of 13 (Value.string t4);refine (zGg t4 _ hts).mono ?_;rintro e w2 ⟨ov2,cl2,f2,l2,rfl,hb2⟩;have B2:=zAa (zAo B1.out (Nat.le_refl _) hb2);clear hb2))
  go_ret
  exact⟨rfl,B2.out⟩
theorem zEK (HK:Hid (∀ x∈P.kns,P.AnsZ x.1)) (s:ByteArray) (w:World) :
  Calls Tryz.prog 6 #[.string s] w fun e w'=>e=.returned (.bool true)∧Below w.heap.size w w':=by
 by_cases hs:s.size≤8192
 ·have hs':¬ ((8192:Int)<(s.size:Int)):=by omega
  have hz0:-9223372036854775808≤(s.size:Int):=by omega
  have hz1:(s.size:Int)<9223372036854775808:=by omega
  go_enter Tryz.func6,Tryz.ntmps6
  go_wp2_with (first
   | (go_at_call 7;refine (zEI HK (s.size:Int) _ hz0 hz1).mono ?_;rintro e w1 ⟨rfl,hb1⟩;have B1:=zAa hb1;clear hb1)
   | (go_at_call 11;refine (zEJ s _ hs).mono ?_;rintro e w2 ⟨rfl,hb2⟩;have B2:=zAa (zAo B1.out (Nat.le_refl _) hb2);clear hb2))
  go_ret
  exact⟨rfl,B2.out⟩
 ·have hs':(8192:Int)<(s.size:Int):=by omega
  go_enter Tryz.func6,Tryz.ntmps6
  go_wp2
  go_ret
  exact⟨rfl,Below.refl _ _⟩
end Go.Proofs.YtkmebkbpfmoeaaaGreat
