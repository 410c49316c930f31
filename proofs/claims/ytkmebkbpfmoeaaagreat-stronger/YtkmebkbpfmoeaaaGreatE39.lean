import Derived.Test.YtkmebkbpfmoeaaaGreatE38
set_option linter.unusedVariables false
set_option linter.unusedSimpArgs false
set_option maxHeartbeats 12800000
namespace Go.Proofs.YtkmebkbpfmoeaaaGreat
namespace P
abbrev fenceL:List UInt8:=[102,101,110,99,101]
abbrev barrierL:List UInt8:=[98,97,114,114,105,101,114]
def stStore (p v:List UInt8):Stm:={ Stm.zero with kind:=1,var:=(varOf p).1,a:=(zIv v).1 }
def stLoad (d v:List UInt8):Stm:={ Stm.zero with dest:=(zIk d).1,kind:=0,var:=(varOf v).1 }
def stStep (d p v:List UInt8) (k:Int):Stm:={ Stm.zero with dest:=(zIk d).1,kind:=k,var:=(varOf p).1,a:=(zIv v).1 }
def stFence:Stm:={ Stm.zero with kind:=4 }
structure Plain (ws:List (List UInt8)) (st:Stm):Prop where
 head:∃ c w q,ws=(c::w)::q∧c≠115∧c≠116∧c≠102∧(c::w=barrierL∨(c::w).length≤3)
 tail:∀ x∈ws.tail,x.length≤2
 kind:isAcc st.kind=false∧st.kind≠4
theorem stm_store {p v:List UInt8} (r:List (List UInt8)) (hv:(varOf p).2=true) (ho:(zIv v).2=true):zIr (zKC::p::v::r)=zJa (stStore p v) r:=by
 simp[zIr,store,target,hv,ho,stStore]
theorem stm_asg {d e:List UInt8} (r:List (List UInt8)) (h:(zIk d).2=true):zIr (d::e::r)=zIq (d::e::r):=by
 obtain⟨c,rfl⟩:=register_word h
 simp[zIr]
theorem zDZ {d v:List UInt8} (r:List (List UInt8)) (h:(zIk d).2=true) (hv:(varOf v).2=true):zIr (d::[61]::loadL::v::r)=zJa (stLoad d v) r:=by
 rw[stm_asg _ h]
 simp[zIq,load,hv,h,stLoad,Stm.zero]
theorem stm_step {d c p v:List UInt8} {k:Int} (r:List (List UInt8)) (h:(zIk d).2=true) (hc:(c=addL∧k=2)∨(c=swapL∧k=3)) (hv:(varOf p).2=true) (ho:(zIv v).2=true):zIr (d::[61]::c::p::v::r)=zJa (stStep d p v k) r:=by
 rw[stm_asg _ h]
 rcases hc with ⟨rfl,rfl⟩ | ⟨rfl,rfl⟩<;>simp[zIq,step,target,hv,ho,h,stStep,Stm.zero]
theorem stm_fence (r:List (List UInt8)):zIr (fenceL::r)=zJa stFence r:=by
 simp[zIr,fence,stFence]
theorem statement_form {ws:List (List UInt8)} {st:Stm} (h:zIr ws=(st,true)) :
  (∃ p v r,ws=zKC::p::v::r∧(varOf p).2=true∧(zIv v).2=true∧zJa (stStore p v) r=(st,true)) ∨
  (∃ d v r,ws=d::[61]::loadL::v::r∧(zIk d).2=true∧(varOf v).2=true∧zJa (stLoad d v) r=(st,true)) ∨
  (∃ d c k p v r,ws=d::[61]::c::p::v::r∧(zIk d).2=true∧((c=addL∧k=2)∨(c=swapL∧k=3))∧(varOf p).2=true∧(zIv v).2=true∧zJa (stStep d p v k) r=(st,true)) ∨
  (∃ r,ws=fenceL::r∧zJa stFence r=(st,true))∨Plain ws st:=by
 cases ws with
 | nil=>simp[zIr] at h
 | cons c r =>
  have hh:=h
  simp only[zIr] at h
  split at h
  ·rename_i hc
   have hc2:=eq_of_beq hc
   match r,h with
   | [],h=>simp[store] at h
   | [_],h=>simp[store] at h
   | p::v::r,h =>
    simp only[store] at h
    split at h
    ·rename_i ht
     simp only[target] at ht h
     split at ht
     ·rename_i hv
      rw[if_pos hv] at h
      exact Or.inl ⟨p,v,r,by rw[hc2],hv,ht,h⟩
     ·simp at ht
    ·simp at h
  ·split at h
   ·rename_i hc
    have hc2:=eq_of_beq hc
    exact Or.inr (Or.inr (Or.inr (Or.inl ⟨r,by rw[hc2],h⟩)))
   ·split at h
    ·rename_i hc
     have hc2:=eq_of_beq hc
     simp only[Prod.mk.injEq] at h
     have hr:r=[]:=by simpa using h.2
     subst hr
     refine Or.inr (Or.inr (Or.inr (Or.inr ⟨⟨98,_,[],by rw[hc2],by decide,by decide,by decide,Or.inl rfl⟩,fun x hx=>by simp at hx,?_⟩)))
     rw[← h.1];decide
    ·split at h
     ·rename_i hc
      have hc2:=eq_of_beq hc
      match r,h with
      | [],h=>simp[zJz] at h
      | [a],h =>
       simp only[zJz,Prod.mk.injEq] at h
       refine Or.inr (Or.inr (Or.inr (Or.inr ⟨⟨105,_,[a],by rw[hc2],by decide,by decide,by decide,Or.inr (by decide)⟩,fun x hx=>?_,?_⟩)))
       ·simp at hx;rw[hx];exact operand_word h.2
       ·rw[← h.1];exact⟨show isAcc 10=false by decide,show (10:Int)≠4 by decide⟩
      | _::_::_,h=>simp[zJz] at h
     ·split at h
      ·rename_i hc
       have hc2:=eq_of_beq hc
       simp only[Prod.mk.injEq] at h
       have hr:r=[]:=by simpa using h.2
       subst hr
       refine Or.inr (Or.inr (Or.inr (Or.inr ⟨⟨101,_,[],by rw[hc2],by decide,by decide,by decide,Or.inr (by decide)⟩,fun x hx=>by simp at hx,?_⟩)))
       rw[← h.1];decide
      ·match r,h with
       | [],h=>simp[zIq] at h
       | [_],h=>simp[zIq] at h
       | e::d::r,h =>
        simp only[zIq] at h
        split at h
        ·rename_i he
         have he2:=eq_of_beq he
         split at h
         ·rename_i hreg
          obtain⟨g,hg⟩:=register_word hreg
          split at h
          ·rename_i hd
           have hd2:=eq_of_beq hd
           cases r with
           | nil=>simp[load] at h
           | cons v r =>
            simp only[load] at h
            split at h
            ·rename_i hv
             exact Or.inr (Or.inl ⟨c,v,r,by rw[he2,hd2],hreg,hv,h⟩)
            ·simp at h
          ·have hst:∀ k,step { Stm.zero with dest:=(zIk c).1 } k r=(st,true)→((d=addL∧k=2)∨(d=swapL∧k=3))→∃ d0 c0 k p v r0,c::e::d::r=d0::[61]::c0::p::v::r0∧(zIk d0).2=true∧((c0=addL∧k=2)∨(c0=swapL∧k=3))∧(varOf p).2=true∧(zIv v).2=true∧zJa (stStep d0 p v k) r0=(st,true):=fun k hk hck=>by
            match r,hk with
            | [],hk=>simp[step] at hk
            | [_],hk=>simp[step] at hk
            | p::v::r,hk =>
             simp only[step] at hk
             split at hk
             ·rename_i ht
              simp only[target] at ht hk
              split at ht
              ·rename_i hv
               rw[if_pos hv] at hk
               exact⟨c,d,k,p,v,r,by rw[he2],hreg,hck,hv,ht,hk⟩
              ·simp at ht
             ·simp at hk
           split at h
           ·rename_i hd
            exact Or.inr (Or.inr (Or.inl (hst 2 h (Or.inl ⟨eq_of_beq hd,rfl⟩))))
           ·split at h
            ·rename_i hd
             exact Or.inr (Or.inr (Or.inl (hst 3 h (Or.inr ⟨eq_of_beq hd,rfl⟩))))
            ·refine Or.inr (Or.inr (Or.inr (Or.inr ?_)))
             have hhead:∃ c1 w q,c::e::d::r=(c1::w)::q∧c1≠115∧c1≠116∧c1≠102∧(c1::w=barrierL∨(c1::w).length≤3):=⟨114,[g],_,by rw[hg],by decide,by decide,by decide,Or.inr (by simp)⟩
             match r,h with
             | [],h =>
              simp only[sum] at h
              split at h
              ·rename_i ho
               simp only[Prod.mk.injEq] at h
               refine⟨hhead,fun x hx=>?_,by rw[← h.1];exact⟨show isAcc 6=false by decide,show (6:Int)≠4 by decide⟩⟩
               simp at hx
               rcases hx with rfl | rfl
               ·rw[he2];simp
               ·exact operand_word ho
              ·simp at h
             | [_],h=>simp[sum] at h
             | [s,b],h =>
              simp only[sum] at h
              split at h
              ·rename_i ha
               split at h
               ·rename_i hs
                simp only[Prod.mk.injEq] at h
                have hk:(sign s).1=7∨(sign s).1=8∨(sign s).1=9:=by
                 unfold sign at hs ⊢
                 repeat' split at hs
                 all_goals first
                  | (simp at hs;done)
                  | (rename_i e1;have e2:=eq_of_beq e1;subst e2;decide)
                refine⟨hhead,fun x hx=>?_,?_⟩
                ·simp at hx
                 rcases hx with rfl | rfl | rfl | rfl
                 ·rw[he2];simp
                 ·exact operand_word ha
                 ·exact sign_word hs
                 ·exact operand_word h.2
                ·rw[← h.1]
                 show isAcc (sign s).1=false∧(sign s).1≠4
                 rcases hk with h1 | h1 | h1<;>rw[h1]<;>decide
               ·simp at h
              ·simp at h
             | _::_::_::_,h=>simp[sum] at h
         ·simp at h
        ·simp at h
end P
namespace P
theorem fit_short {n:Nat} {ws:List (List UInt8)} (h:∀ w∈ws,w.length≤4):ws.map (hW n)=ws:=by
 induction ws with
 | nil=>rfl
 | cons a r ih=>rw[List.map_cons,hW_short (h a (by simp)),ih (fun w hw=>h w (List.mem_cons_of_mem _ hw))]
theorem sw_dev (w:List UInt8):swapW blockL deviceL w=hW 0 w:=by unfold hW;simp
theorem map_dev (ws:List (List UInt8)):ws.map (swapW blockL deviceL)=ws.map (hW 0):=List.map_congr_left fun w _=>sw_dev w
theorem hW_32 (n:Nat) {w:List UInt8} (h:(32:UInt8) ∉ w):(32:UInt8) ∉ hW n w:=by
 have k:∀ {a b w:List UInt8},(32:UInt8) ∉ b→(32:UInt8) ∉ w→(32:UInt8) ∉ swapW a b w:=fun hb hw=>by unfold swapW;split;exact hb;exact hw
 unfold hW
 repeat' split
 all_goals first
  | exact k (by decide) (k (by decide) h)
  | exact k (by decide) (k (by decide) (k (by decide) (k (by decide) h)))
  | exact k (by decide) h
theorem ord_not {st st':Stm} {r:List (List UInt8)} (h:zJa st r=(st',true)) (W:List UInt8) (hW0:W=loadL∨W=addL∨W=swapL):∀ w∈r.map (hW 0),w≠W:=by
 intro w hw
 rcases ordering_word h with ⟨o,rfl,ho,_⟩ | ⟨o,s,rfl,h1,h2,_⟩
 ·simp at hw
  rw[hw,ho]
  rcases hW0 with rfl | rfl | rfl<;>decide
 ·obtain⟨hq,hr⟩:=order_word h1
  simp at hw
  rcases hw with rfl | rfl
  ·rw[hq]
   rcases hr with e | e | e | e | e | e<;>rw[e]<;>rcases hW0 with rfl | rfl | rfl<;>decide
  ·rcases scope_word h2 with ⟨rfl,_⟩ | ⟨rfl,_⟩<;>rcases hW0 with rfl | rfl | rfl<;>decide
theorem cont_no {l:List (List UInt8)} {W:List UInt8} (h:∀ w∈l,w≠W):l.contains W=false:=by
 rw[← Bool.not_eq_true,List.contains_iff_mem]
 intro e
 exact h W e rfl
theorem dl_mem {α:Type} {l:List α} {x:α} (h:x∈l.dropLast):x∈l:=List.dropLast_subset l h
theorem len_ne {w W:List UInt8} (h:w.length≤2) (hW0:W=loadL∨W=addL∨W=swapL):w≠W:=by
 intro e
 rw[e] at h
 rcases hW0 with rfl | rfl | rfl<;>simp at h
theorem kind_of {ws:List (List UInt8)} (hn:ws≠[]) (h:∀ w∈ws,(32:UInt8) ∉ w):kindW (joinC 32 (ws.map (swapW blockL deviceL))++[10])=if zJj (joinC 32 (ws.map (hW 0))++[10]) zKC then 1 else if ((ws.map (hW 0)).tail.dropLast).contains loadL then 2 else if ((ws.map (hW 0)).tail.dropLast).contains addL||((ws.map (hW 0)).tail.dropLast).contains swapL then 3 else 0:=by
 rw[map_dev]
 have h2:∀ w∈ws.map (hW 0),(32:UInt8) ∉ w:=fun w hw=>by
  obtain⟨v,hv,rfl⟩:=List.mem_map.1 hw
  exact hW_32 0 (h v hv)
 unfold kindW
 rw[inW_words (by simpa using hn) h2 loadL (by decide),inW_words (by simpa using hn) h2 addL (by decide),inW_words (by simpa using hn) h2 swapL (by decide)]
theorem gs_rows:RowMap RS gS where
 thr c:=by
  unfold gS
  have h1:∀ n,n≤3→hW n thrW=thrW:=fun n hn=>by
   have:n=0∨n=1∨n=2∨n=3:=by omega
   rcases this with rfl | rfl | rfl | rfl<;>decide
  have h2:kindW (joinC 32 ([thrW,[c]].map (swapW blockL deviceL))++[10])≤3:=by
   unfold kindW
   repeat' split
   all_goals omega
  generalize kindW (joinC 32 ([thrW,[c]].map (swapW blockL deviceL))++[10])=n at h2
  rw[List.map_cons,List.map_cons,List.map_nil,h1 _ h2,hW_short (by simp)]
 stm ws st hf h:=by
  rcases statement_form h with ⟨p,v,r,rfl,hv,ho,hr⟩ | ⟨d,v,r,rfl,hd,hv,hr⟩ | ⟨d,c,k,p,v,r,rfl,hd,hc,hv,ho,hr⟩ | ⟨r,rfl,hr⟩ | hp
  ·have hk:kindW (joinC 32 ((zKC::p::v::r).map (swapW blockL deviceL))++[10])=1:=by
    rw[kind_of (by simp) hf,List.map_cons,show hW 0 zKC=zKC by decide,begin_yes (by simp)];rfl
   have hs1:=hW_short (n:=1) (w:=p) (by have:=var_len hv;omega)
   have hs2:=hW_short (n:=1) (w:=v) (by have:=operand_word ho;omega)
   obtain⟨st2,h1,h2⟩:=ordering_up (n:=1) (st:=stStore p v) (Or.inl ⟨rfl,rfl⟩) hr
   refine⟨st2,zKC,p::v::r.map (hW 1),?_,by decide,?_,h2⟩
   ·unfold gS
    rw[hk,List.map_cons,List.map_cons,List.map_cons,hs1,hs2,show hW 1 zKC=zKC by decide]
   ·rw[stm_store _ hv ho];exact h1
  ·obtain⟨g,hg⟩:=register_word hd
   have hdl:d.length≤4:=by rw[hg];simp
   have hvl:v.length≤4:=by have:=var_len hv;omega
   have hrn:r.map (hW 0)≠[]:=by
    intro e
    have:r=[]:=by simpa using e
    rw[this] at hr;simp[zJa] at hr
   have hk:kindW (joinC 32 ((d::[61]::loadL::v::r).map (swapW blockL deviceL))++[10])=2:=by
    rw[kind_of (by simp) hf,List.map_cons,List.map_cons,List.map_cons,List.map_cons,hW_short hdl,hW_short (w:=[61]) (by simp),hW_short (w:=loadL) (by simp),hW_short hvl,hg,begin_no (by decide)]
    have:(([61]:List UInt8)::loadL::v::r.map (hW 0)).dropLast.contains loadL=true:=by
     rw[List.contains_iff_mem,List.dropLast_cons_of_ne_nil (by simp),List.dropLast_cons_of_ne_nil (by simp)];simp
    rw[List.tail_cons,this];rfl
   obtain⟨st2,h1,h2⟩:=ordering_up (n:=2) (st:=stLoad d v) (Or.inr (Or.inl ⟨rfl,rfl⟩)) hr
   refine⟨st2,d,[61]::loadL::v::r.map (hW 2),?_,by rw[hg];rfl,?_,h2⟩
   ·unfold gS
    rw[hk,List.map_cons,List.map_cons,List.map_cons,List.map_cons,hW_short hdl,hW_short (w:=[61]) (by simp),hW_short (w:=loadL) (by simp),hW_short hvl]
   ·rw[zDZ _ hd hv];exact h1
  ·obtain⟨g,hg⟩:=register_word hd
   have hdl:d.length≤4:=by rw[hg];simp
   have hvl:p.length≤4:=by have:=var_len hv;omega
   have hol:v.length≤4:=by have:=operand_word ho;omega
   have hcl:c.length≤4:=by rcases hc with ⟨rfl,_⟩ | ⟨rfl,_⟩<;>simp
   have hcc:c≠loadL:=by rcases hc with ⟨rfl,_⟩ | ⟨rfl,_⟩<;>decide
   have hk:kindW (joinC 32 ((d::[61]::c::p::v::r).map (swapW blockL deviceL))++[10])=3:=by
    rw[kind_of (by simp) hf,List.map_cons,List.map_cons,List.map_cons,List.map_cons,List.map_cons,hW_short hdl,hW_short (w:=[61]) (by simp),hW_short hcl,hW_short hvl,hW_short hol,hg,begin_no (by decide),List.tail_cons]
    have h1:(([61]:List UInt8)::c::p::v::r.map (hW 0)).dropLast.contains loadL=false:=cont_no fun w hw=>by
     have hw:=dl_mem hw
     simp only[List.mem_cons] at hw
     rcases hw with rfl | rfl | rfl | rfl | hw
     ·decide
     ·exact hcc
     ·exact len_ne (var_len hv) (Or.inl rfl)
     ·exact len_ne (operand_word ho) (Or.inl rfl)
     ·exact ord_not hr loadL (Or.inl rfl) w hw
    have h2:(([61]:List UInt8)::c::p::v::r.map (hW 0)).dropLast.contains c=true:=by
     rw[List.contains_iff_mem,List.dropLast_cons_of_ne_nil (by simp),List.dropLast_cons_of_ne_nil (by simp)];simp
    rw[h1]
    rcases hc with ⟨rfl,_⟩ | ⟨rfl,_⟩
    ·rw[h2];rfl
    ·rw[h2,Bool.or_true];rfl
   obtain⟨st2,h1,h2⟩:=ordering_up (n:=3) (st:=stStep d p v k) (Or.inr (Or.inr (Or.inl ⟨rfl,by rcases hc with ⟨_,e⟩ | ⟨_,e⟩;exact Or.inl e;exact Or.inr e⟩))) hr
   refine⟨st2,d,[61]::c::p::v::r.map (hW 3),?_,by rw[hg];rfl,?_,h2⟩
   ·unfold gS
    rw[hk,List.map_cons,List.map_cons,List.map_cons,List.map_cons,List.map_cons,hW_short hdl,hW_short (w:=[61]) (by simp),hW_short hcl,hW_short hvl,hW_short hol]
   ·rw[stm_step _ hd hc hv ho];exact h1
  ·have hk:kindW (joinC 32 ((fenceL::r).map (swapW blockL deviceL))++[10])=0:=by
    rw[kind_of (by simp) hf,List.map_cons,show hW 0 fenceL=fenceL by decide,begin_no (by decide),List.tail_cons]
    have h1:∀ W,(W=loadL∨W=addL∨W=swapL)→(r.map (hW 0)).dropLast.contains W=false:=fun W hw0=>cont_no fun w hw=>ord_not hr W hw0 w (dl_mem hw)
    rw[h1 _ (Or.inl rfl),h1 _ (Or.inr (Or.inl rfl)),h1 _ (Or.inr (Or.inr rfl))];rfl
   obtain⟨st2,h1,h2⟩:=ordering_up (n:=0) (st:=stFence) (Or.inr (Or.inr (Or.inr ⟨rfl,rfl⟩))) hr
   refine⟨st2,fenceL,r.map (hW 0),?_,by decide,?_,h2⟩
   ·unfold gS
    rw[hk,List.map_cons,show hW 0 fenceL=fenceL by decide]
   ·rw[stm_fence];exact h1
  ·obtain⟨c,w,q,rfl,hc1,hc2,_,hc3⟩:=hp.head
   have h0:((c::w)::q).map (hW 0)=(c::w)::q:=by
    rw[List.map_cons,fit_short (fun x hx=>by have:=hp.tail x (by simpa using hx);omega)]
    congr 1
    rcases hc3 with e | e
    ·rw[e];decide
    ·exact hW_short (by omega)
   have hk:kindW (joinC 32 (((c::w)::q).map (swapW blockL deviceL))++[10])=0:=by
    rw[kind_of (by simp) hf,h0,begin_no hc1,List.tail_cons]
    have h1:∀ W,(W=loadL∨W=addL∨W=swapL)→q.dropLast.contains W=false:=fun W hw0=>cont_no fun x hx=>len_ne (hp.tail x (by simpa using dl_mem hx)) hw0
    rw[h1 _ (Or.inl rfl),h1 _ (Or.inr (Or.inl rfl)),h1 _ (Or.inr (Or.inr rfl))];rfl
   refine⟨st,c::w,q,?_,?_,h,RS.refl _⟩
   ·unfold gS
    rw[hk,h0]
   ·rw[beq_eq_false_iff_ne]
    intro e
    exact hc2 (List.cons.inj e).1
def lineS (x:List UInt8):List UInt8 :=
 if zJj (sw blockL deviceL 0 true x) zKC then sw zJY zKp 0 true (sw blockL deviceL 0 true x)
 else if inW loadL (sw blockL deviceL 0 true x) then sw zJY zKo 0 true (sw blockL deviceL 0 true x)
 else if inW addL (sw blockL deviceL 0 true x)||inW swapL (sw blockL deviceL 0 true x) then sw zKp zKj 0 true (sw zKo zKj 0 true (sw zJY zKj 0 true (sw blockL deviceL 0 true x)))
 else sw blockL deviceL 0 true x
theorem sw_words {a b:List UInt8} (ha:a≠[]) (hf:free a) {ws:List (List UInt8)} (hn:ws≠[]) (h:∀ w∈ws,free w):sw a b 0 true (joinC 32 ws++[10])=joinC 32 (ws.map (swapW a b))++[10]:=sw_row b ha hf [] hn h
theorem hW_free (n:Nat) {w:List UInt8} (h:free w):free (hW n w):=by
 have f1:free deviceL:=by unfold free;decide
 have f2:free zKp:=by unfold free;decide
 have f3:free zKo:=by unfold free;decide
 have f4:free zKj:=by unfold free;decide
 unfold hW
 repeat' split
 ·exact swapW_free f2 (swapW_free f1 h)
 ·exact swapW_free f3 (swapW_free f1 h)
 ·exact swapW_free f4 (swapW_free f4 (swapW_free f4 (swapW_free f1 h)))
 ·exact swapW_free f1 h
theorem lineS_words {x:List UInt8} (h:(10:UInt8) ∉ x):lineS (x++[10])=rowG gS x++[10]:=by
 have hf:=free_words h
 have f1:free deviceL:=by unfold free;decide
 have f2:free zKp:=by unfold free;decide
 have f3:free zKo:=by unfold free;decide
 have f4:free zKj:=by unfold free;decide
 have f5:free blockL:=by unfold free;decide
 have f6:free zJY:=by unfold free;decide
 have hn:zIp 32 x≠[]:=zJo _ _
 have hm:∀ {ws:List (List UInt8)} {a b:List UInt8},free b→(∀ w∈ws,free w)→∀ w∈ws.map (swapW a b),free w:=fun hb hw w hm=>by
  obtain⟨v,hv,rfl⟩:=List.mem_map.1 hm
  exact swapW_free hb (hw v hv)
 have e0:sw blockL deviceL 0 true (x++[10])=joinC 32 ((zIp 32 x).map (swapW blockL deviceL))++[10]:=by
  have:=sw_words (b:=deviceL) (a:=blockL) (by simp) f5 hn hf
  rw[join_split] at this;exact this
 have h1:=hm (a:=blockL) f1 hf
 have hn1:(zIp 32 x).map (swapW blockL deviceL)≠[]:=by simpa using hn
 unfold lineS rowG gS kindW
 rw[e0]
 by_cases c1:zJj (joinC 32 ((zIp 32 x).map (swapW blockL deviceL))++[10]) zKC=true
 ·rw[if_pos c1,if_pos c1,sw_words (by simp) f6 hn1 h1,List.map_map]
  rfl
 ·rw[if_neg c1,if_neg c1]
  by_cases c2:inW loadL (joinC 32 ((zIp 32 x).map (swapW blockL deviceL))++[10])=true
  ·rw[if_pos c2,if_pos c2,sw_words (by simp) f6 hn1 h1,List.map_map]
   rfl
  ·rw[if_neg c2,if_neg c2]
   by_cases c3:(inW addL (joinC 32 ((zIp 32 x).map (swapW blockL deviceL))++[10])||inW swapL (joinC 32 ((zIp 32 x).map (swapW blockL deviceL))++[10]))=true
   ·have h2:=hm (a:=zJY) f4 h1
    have h3:=hm (a:=zKo) f4 h2
    rw[if_pos c3,if_pos c3,sw_words (by simp) f6 hn1 h1,sw_words (by simp) f3 (by simpa using hn) h2,sw_words (by simp) f2 (by simpa using hn) h3,List.map_map,List.map_map,List.map_map]
    rfl
   ·rw[if_neg c3,if_neg c3]
    rfl
def textS (s:List UInt8):List UInt8:=((zIp 10 s).dropLast).flatMap fun x=>lineS (x++[10])
theorem textS_rows (s:List UInt8):textS s=textOf ((zIp 10 s).dropLast.map (rowG gS)):=by
 unfold textS
 have:∀ xs:List (List UInt8),(∀ x∈xs,(10:UInt8) ∉ x)→xs.flatMap (fun x=>lineS (x++[10]))=textOf (xs.map (rowG gS)):=fun xs=>by
  induction xs with
  | nil=>intro _;rfl
  | cons x xs ih =>
   intro h
   rw[List.flatMap_cons,lineS_words (h x (by simp)),ih (fun y hy=>h y (List.mem_cons_of_mem _ hy)),List.map_cons,textOf,List.append_assoc];rfl
 exact this _ (fun x hx=>split_free 10 s x (dl_mem hx))
theorem gS_free {ws:List (List UInt8)} (h:∀ w∈ws,free w):∀ w∈gS ws,free w:=fun w hw=>by
 unfold gS at hw
 obtain⟨v,hv,rfl⟩:=List.mem_map.1 hw
 exact hW_free _ (h v hv)
theorem all2_sts:∀ {x y:List Stm},All2 RS x y→Q.StsLe x y
 | [],[],_=>trivial
 | a::x,b::y,h=>⟨h.1.le,all2_sts h.2⟩
 | [],b::y,h=>by simp[All2] at h
 | a::x,[],h=>by simp[All2] at h
theorem all2_thrs:∀ {x y:List Thr},All2 (ThR RS) x y→Q.zKB x y
 | [],[],_=>trivial
 | a::x,b::y,h=>⟨⟨h.1.block,all2_sts h.1.sts⟩,all2_thrs h.2⟩
 | [],b::y,h=>by simp[All2] at h
 | a::x,[],h=>by simp[All2] at h
theorem kernel_strong {s:List UInt8} (h:(kernel s).2.1=0) (hz:(textS s).length≤2000):∃ ts',kernel (textS s)=(ts',0,0)∧Q.zKB (kernel s).1 ts':=by
 rw[textS_rows] at hz ⊢
 have h10:∀ x∈(zIp 10 s).dropLast,(10:UInt8) ∉ x:=fun x hx=>split_free 10 s x (dl_mem hx)
 obtain⟨ts',h1,h2⟩:=kernel_map rs_str gs_rows (rowG gS) h (fun x hx=>by
  unfold rowG
  exact split_join_free (by unfold gS;simpa using zJo 32 x) (gS_free (free_words (h10 x hx)))) (fun x hx=>join_free (gS_free (free_words (h10 x hx)))) hz
 exact⟨ts',h1,all2_thrs h2⟩
end P
namespace P
theorem swapW_le {a b w:List UInt8} (h:b.length≤a.length):(swapW a b w).length≤w.length:=by
 unfold swapW
 split
 ·rename_i e;rw[eq_of_beq e];exact h
 ·exact Nat.le_refl _
theorem swapW_dev (w:List UInt8):(swapW blockL deviceL w).length≤2*w.length:=by
 unfold swapW
 split
 ·rename_i e;rw[eq_of_beq e];decide
 ·omega
theorem hW_len (n:Nat) (w:List UInt8):(hW n w).length≤2*w.length:=by
 have h0:=swapW_dev w
 unfold hW
 repeat' split
 ·exact Nat.le_trans (swapW_le (by decide)) h0
 ·exact Nat.le_trans (swapW_le (by decide)) h0
 ·exact Nat.le_trans (swapW_le (by decide)) (Nat.le_trans (swapW_le (by decide)) (Nat.le_trans (swapW_le (by decide)) h0))
 ·exact h0
theorem joinC_len (c:UInt8) (f:List UInt8→List UInt8) (hf:∀ w,(f w).length≤2*w.length):∀ ws:List (List UInt8),(joinC c (ws.map f)).length≤2*(joinC c ws).length
 | []=>by simp[joinC]
 | [a]=>hf a
 | a::b::r=>by
  have ih:=joinC_len c f hf (b::r)
  have h:=hf a
  have e:joinC c ((a::b::r).map f)=f a++c::joinC c ((b::r).map f):=joinC_cons c _ _ (by simp)
  rw[e,joinC_cons c a _ (by simp),List.length_append,List.length_append,List.length_cons,List.length_cons]
  omega
theorem textOf_len (G:List UInt8→List UInt8) (hG:∀ x,(G x).length≤2*x.length):∀ xs:List (List UInt8),(textOf (xs.map G)).length≤2*(textOf xs).length
 | []=>by simp[textOf]
 | x::xs=>by
  have ih:=textOf_len G hG xs
  have h:=hG x
  rw[List.map_cons,textOf,textOf,List.length_append,List.length_append,List.length_cons,List.length_cons]
  omega
theorem rowG_len (x:List UInt8):(rowG gS x).length≤2*x.length:=by
 unfold rowG gS
 have:=joinC_len 32 _ (hW_len (kindW (joinC 32 ((zIp 32 x).map (swapW blockL deviceL))++[10]))) (zIp 32 x)
 rw[join_split] at this
 exact this
theorem textS_len {s:List UInt8} (h:(kernel s).2.1=0):(textS s).length≤4000:=by
 obtain⟨r1,hz,_,hl,_⟩:=kernel_rows h
 rw[textS_rows]
 have h1:=textOf_len (rowG gS) rowG_len (zIp 10 s).dropLast
 rw[← text_split hl] at h1
 omega
end P
namespace Q
theorem source_lens {ts:List P.Thr} (h:P.KerIs ts):∀ r∈(zIB ts).rows,r.length<1000:=fun r hr=>by
 obtain⟨c,hc,ds,hds,_,rfl⟩:=(source_rows ts r).1 hr
 obtain⟨d,hd,rs,hrs,rfl,_⟩:=cands_mem.1 hc
 have hw:=wi_ok (ker_wi h (digitRows_ok hd)) (by have:=h.few;omega)
 have:=hw.regs
 unfold zJD
 simp only[List.length_append,List.length_cons,List.length_nil]
 omega
theorem ker_events {ts:List P.Thr} (h:P.KerIs ts):∀ d∈zIz (zAZ (runs ts)),(zIi (runs ts) d).events.length≤64:=fun d hd =>
 (wi_ok (ker_wi h (digitRows_ok hd)) (by have:=h.few;omega)).le
end Q
namespace P
theorem strong_law {s:List UInt8} (h:(kernel s).2.1=0) (hz:(textS s).length≤2000):(kernel (textS s)).2.1=0∧((Q.zIB (kernel (textS s)).1).rows.all fun x=>(Q.zIB (kernel s).1).rows.contains x)=true∧((Q.zIB (kernel s).1).clash=false→(Q.zIB (kernel (textS s)).1).clash=false):=by
 obtain⟨ts',h1,h2⟩:=kernel_strong h hz
 obtain⟨k1,k2⟩:=Q.stronger_source h2 (Q.ker_events (zIJ h))
 rw[h1]
 refine⟨rfl,?_,fun hc=>?_⟩
 ·rw[List.all_eq_true]
  intro x hx
  rw[List.contains_iff_mem]
  exact k1 x hx
 ·cases hq:(Q.zIB ts').clash
  ·rfl
  ·have:=k2 hq
   rw[hc] at this;cases this
end P
end Go.Proofs.YtkmebkbpfmoeaaaGreat
namespace Go.Proofs.YtkmebkbpfmoeaaaGreat
open Go Go.RowKit
set_option maxRecDepth 100000
namespace P
end P
namespace P
end P
end Go.Proofs.YtkmebkbpfmoeaaaGreat
