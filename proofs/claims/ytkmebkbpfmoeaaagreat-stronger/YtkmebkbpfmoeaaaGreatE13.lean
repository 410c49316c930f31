import Derived.Test.YtkmebkbpfmoeaaaGreatE12
set_option linter.unusedVariables false
set_option linter.unusedSimpArgs false
set_option maxHeartbeats 12800000
namespace Go.Proofs.YtkmebkbpfmoeaaaGreat
namespace P
def textOf:List (List UInt8)→List UInt8
 | []=>[]
 | x::r=>x++10::textOf r
theorem split_text:∀ {xs:List (List UInt8)},(∀ x∈xs,(10:UInt8) ∉ x)→zIp 10 (textOf xs)=xs++[[]]
 | [],_=>rfl
 | x::xs,h=>by
  rw[textOf,splitAt_app,splitAt_none 10 x (h x (by simp)),split_text (fun y hy=>h y (List.mem_cons_of_mem _ hy))];rfl
theorem join_text:∀ (xs:List (List UInt8)),joinC 10 (xs++[[]])=textOf xs
 | []=>rfl
 | x::xs=>by rw[List.cons_append,joinC_cons 10 x _ (by simp),join_text xs];rfl
theorem text_split {s:List UInt8} (h:(zIp 10 s).getLast?=some []):s=textOf (zIp 10 s).dropLast:=by
 have h1:=join_split 10 s
 have h2:=(List.dropLast_concat_getLast (zJo 10 s)).symm
 rw[List.getLast?_eq_some_getLast (zJo 10 s)] at h
 rw[Option.some.inj h] at h2
 conv=>lhs;rw[← h1,h2]
 exact join_text _
theorem split_free (c:UInt8):∀ (l w:List UInt8),w∈zIp c l→c ∉ w
 | [],w,h=>by simp[zIp] at h;rw[h];simp
 | x::l,w,h=>by
  by_cases hx:x=c
  ·subst hx
   rw[splitAt_cons_eq] at h
   rcases List.mem_cons.1 h with rfl | h
   ·simp
   ·exact split_free x l w h
  ·cases hs:zIp c l with
   | nil=>exact absurd hs (zJo _ _)
   | cons a b =>
    rw[splitAt_cons_ne c x l hx a b hs] at h
    rcases List.mem_cons.1 h with rfl | h
    ·have:=split_free c l a (by rw[hs];simp)
     intro hm
     rcases List.mem_cons.1 hm with e | hm
     ·exact hx e.symm
     ·exact this hm
    ·exact split_free c l w (by rw[hs];exact List.mem_cons_of_mem _ h)
theorem split_mem (c:UInt8):∀ (l w:List UInt8),w∈zIp c l→∀ x∈w,x∈l
 | [],w,h,x,hx=>by simp[zIp] at h;rw[h] at hx;simp at hx
 | y::l,w,h,x,hx=>by
  by_cases hy:y=c
  ·subst hy
   rw[splitAt_cons_eq] at h
   rcases List.mem_cons.1 h with rfl | h
   ·simp at hx
   ·exact List.mem_cons_of_mem _ (split_mem y l w h x hx)
  ·cases hs:zIp c l with
   | nil=>exact absurd hs (zJo _ _)
   | cons a b =>
    rw[splitAt_cons_ne c y l hy a b hs] at h
    rcases List.mem_cons.1 h with rfl | h
    ·rcases List.mem_cons.1 hx with rfl | hx
     ·simp
     ·exact List.mem_cons_of_mem _ (split_mem c l a (by rw[hs];simp) x hx)
    ·exact List.mem_cons_of_mem _ (split_mem c l w (by rw[hs];exact List.mem_cons_of_mem _ h) x hx)
theorem split_join (c:UInt8):∀ {ws:List (List UInt8)},ws≠[]→(∀ w∈ws,c ∉ w)→zIp c (joinC c ws)=ws
 | [],h,_=>absurd rfl h
 | [a],_,h=>splitAt_none c a (h a (by simp))
 | a::b::r,_,h=>by
  rw[joinC_cons c a _ (by simp),splitAt_app,splitAt_none c a (h a (by simp)),split_join c (by simp) (fun w hw=>h w (List.mem_cons_of_mem _ hw))];rfl
theorem join_mem (c:UInt8):∀ {ws:List (List UInt8)} {x:UInt8},x∈joinC c ws→x=c∨∃ w∈ws,x∈w
 | [],x,h=>by simp[joinC] at h
 | [a],x,h=>Or.inr ⟨a,by simp,h⟩
 | a::b::r,x,h=>by
  rw[joinC_cons c a _ (by simp)] at h
  rcases List.mem_append.1 h with h | h
  ·exact Or.inr ⟨a,by simp,h⟩
  ·rcases List.mem_cons.1 h with h | h
   ·exact Or.inl h
   ·rcases join_mem c h with h | ⟨w,hw,h⟩
    ·exact Or.inl h
    ·exact Or.inr ⟨w,List.mem_cons_of_mem _ hw,h⟩
def All2 {α β:Type} (R:α→β→Prop):List α→List β→Prop
 | [],[]=>True
 | a::x,b::y=>R a b∧All2 R x y
 | _,_=>False
theorem all2_len {α β:Type} {R:α→β→Prop}:∀ {x:List α} {y:List β},All2 R x y→y.length=x.length
 | [],[],_=>rfl
 | a::x,b::y,h=>by rw[List.length_cons,List.length_cons,all2_len h.2]
 | [],b::y,h=>by simp[All2] at h
 | a::x,[],h=>by simp[All2] at h
theorem all2_app {α β:Type} {R:α→β→Prop}:∀ {x:List α} {y:List β} {u:List α} {v:List β},All2 R x y→All2 R u v→All2 R (x++u) (y++v)
 | [],[],_,_,_,h=>h
 | a::x,b::y,_,_,h,k=>⟨h.1,all2_app h.2 k⟩
 | [],b::y,_,_,h,_=>by simp[All2] at h
 | a::x,[],_,_,h,_=>by simp[All2] at h
structure StR (R:Stm→Stm→Prop):Prop where
 kind:∀ s t,R s t→t.kind=s.kind
 line:∀ s t,R s t→t.line=s.line
 fen:∀ s t,R s t→s.kind=4→t.order=s.order
 sl:∀ s t l,R s t→R { s with line:=l } { t with line:=l }
 sb:∀ s t l,R s t→R { s with label:=l } { t with label:=l }
structure ThR (R:Stm→Stm→Prop) (t t':Thr):Prop where
 block:t'.block=t.block
 line:t'.line=t.line
 sts:All2 R t.stmts t'.stmts
structure RdR (R:Stm→Stm→Prop) (r r':Rd):Prop where
 th:All2 (ThR R) r.threads r'.threads
 line:r'.line=r.line
 count:r'.count=r.count
 ifs:r'.ifs=r.ifs
 opn:r'.opn=r.opn
 most:r'.most=r.most
theorem putLast_R {R:Stm→Stm→Prop} {s s':Stm} (hs:R s s'):∀ {x y:List Thr},All2 (ThR R) x y→All2 (ThR R) (putLast x s) (putLast y s')
 | [],[],_=>trivial
 | [a],[b],h=>⟨⟨h.1.block,h.1.line,all2_app h.1.sts ⟨hs,trivial⟩⟩,trivial⟩
 | a::a2::x,b::b2::y,h=>⟨h.1,putLast_R hs (x:=a2::x) (y:=b2::y) h.2⟩
 | [],b::y,h=>by simp[All2] at h
 | a::x,[],h=>by simp[All2] at h
 | [a],b::b2::y,h=>by have:=h.2;simp[All2] at this
 | a::a2::x,[b],h=>by have:=h.2;simp[All2] at this
section
variable {R:Stm→Stm→Prop}
theorem RdR.put {r r':Rd} (h:RdR R r r') {s s':Stm} (hs:R s s'):RdR R (put r s) (put r' s') :=
 ⟨putLast_R hs h.th,h.line,h.count,h.ifs,h.opn,h.most⟩
theorem RdR.ends (hR:StR R) {r r' r1:Rd} (h:RdR R r r') {s s':Stm} (hs:R s s') (e:ends r s=(r1,true)):∃ r1',ends r' s'=(r1',true)∧RdR R r1 r1':=by
 unfold P.ends at e ⊢
 rw[h.opn]
 split at e
 ·simp at e
 ·rename_i l hl
  simp only[Prod.mk.injEq,and_true] at e
  refine⟨_,rfl,?_⟩
  rw[← e]
  refine RdR.put ?_ (hR.sb _ _ l hs)
  exact⟨h.th,h.line,h.count,h.ifs,rfl,h.most⟩
theorem RdR.branch (hR:StR R) {r r' r1:Rd} (h:RdR R r r') {s s':Stm} (hs:R s s') (e:branch r s=(r1,true)):∃ r1',branch r' s'=(r1',true)∧RdR R r1 r1':=by
 unfold P.branch at e ⊢
 rw[h.opn,h.ifs]
 split at e
 ·simp at e
 ·rename_i hn
  rw[if_neg hn]
  simp only[Prod.mk.injEq,and_true] at e
  refine⟨_,rfl,?_⟩
  rw[← e]
  refine RdR.put ?_ (hR.sb _ _ _ hs)
  exact⟨h.th,h.line,h.count,rfl,rfl,h.most⟩
theorem RdR.putD (hR:StR R) {r r' r1:Rd} (h:RdR R r r') {s s':Stm} (hs:R s s') (e:putD r s=(r1,true)):∃ r1',putD r' s'=(r1',true)∧RdR R r1 r1':=by
 unfold P.putD at e ⊢
 have hemp:r'.threads.isEmpty=r.threads.isEmpty:=by
  have:=all2_len h.th
  cases h1:r.threads<;>cases h2:r'.threads<;>simp_all
 rw[hemp,hR.kind _ _ hs,h.most,h.count,h.opn]
 split at e
 ·simp at e
 ·rename_i h0
  rw[if_neg h0]
  split at e
  ·rename_i h1
   rw[if_pos h1]
   exact h.ends hR hs e
  ·rename_i h1
   rw[if_neg h1]
   split at e
   ·simp at e
   ·rename_i h2
    rw[if_neg h2]
    split at e
    ·rename_i h3
     rw[if_pos h3]
     split at e
     ·simp at e
     ·rename_i h4
      rw[if_neg h4]
      exact RdR.branch hR (r:={ r with count:=r.count+1 }) (r':={ r' with count:=r.count+1,opn:=r.opn,most:=r.most }) ⟨h.th,h.line,rfl,h.ifs,rfl,rfl⟩ hs e
    ·rename_i h3
     rw[if_neg h3]
     simp only[Prod.mk.injEq,and_true] at e
     refine⟨_,rfl,?_⟩
     rw[← e]
     exact RdR.put (r:={ r with count:=r.count+1 }) (r':={ r' with count:=r.count+1,opn:=r.opn,most:=r.most }) ⟨h.th,h.line,rfl,h.ifs,rfl,rfl⟩ hs
theorem RdR.beginD {r r' r1:Rd} (h:RdR R r r') {b l:Int} (e:beginD r b l=(r1,true)):∃ r1',beginD r' b l=(r1',true)∧RdR R r1 r1':=by
 unfold P.beginD at e ⊢
 rw[all2_len h.th,h.opn]
 split at e
 ·simp at e
 ·rename_i h0
  rw[if_neg h0]
  simp only[Prod.mk.injEq,and_true] at e
  refine⟨_,rfl,?_⟩
  rw[← e]
  exact⟨all2_app h.th ⟨⟨rfl,rfl,trivial⟩,trivial⟩,h.line,rfl,h.ifs,rfl,h.most⟩
abbrev thrW:List UInt8:=[116,104,114,101,97,100]
structure RowMap (R:Stm→Stm→Prop) (g:List (List UInt8)→List (List UInt8)):Prop where
 thr:∀ c:UInt8,g [thrW,[c]]=[thrW,[c]]
 stm:∀ ws st,(∀ w∈ws,(32:UInt8) ∉ w)→zIr ws=(st,true)→∃ st' c q,g ws=c::q∧(c==thrW)=false∧zIr (c::q)=(st',true)∧R st st'
theorem takes_true {r r1:Rd} {ws:List (List UInt8)} (hm:r.most=8) (h:takes r ws=(r1,true)):(∃ c:UInt8,ws=[thrW,[c]]∧(digit c 2).2=true∧beginD r (digit c 2).1 r.line=(r1,true))∨∃ st,zIr ws=(st,true)∧putD r { st with line:=r.line }=(r1,true)∧∃ c q,ws=c::q∧(c==thrW)=false:=by
 cases ws with
 | nil =>
  unfold takes at h
  simp[zIr] at h
 | cons c q =>
  cases hc:(c==thrW)
  ·rw[takes_D r c q hc hm] at h
   split at h
   ·rename_i hs
    exact Or.inr ⟨(zIr (c::q)).1,by rw[← hs],h,c,q,rfl,hc⟩
   ·simp at h
  ·have hc2:=eq_of_beq hc
   subst hc2
   have e:takes r (thrW::q)=zIV r (thrW::q):=by unfold takes;simp
   rw[e] at h
   match q,h with
   | [],h=>unfold zIV at h;split at h<;>simp at h
   | [[]],h=>unfold zIV at h;split at h<;>simp at h
   | [[d]],h =>
    rw[begins_D] at h
    split at h
    ·rename_i hd
     exact Or.inl ⟨d,rfl,hd,h⟩
    ·simp at h
   | [d::d2::d3],h=>unfold zIV at h;split at h<;>simp at h
   | _::_::_,h=>unfold zIV at h;split at h<;>simp at h
theorem takes_map (hR:StR R) {g:List (List UInt8)→List (List UInt8)} (hg:RowMap R g) {r r' r1:Rd} (hm:r.most=8) {ws:List (List UInt8)} (hf:∀ w∈ws,(32:UInt8) ∉ w) (h:takes r ws=(r1,true)) (hr:RdR R r r'):∃ r1',takes r' (g ws)=(r1',true)∧RdR R r1 r1':=by
 rcases takes_true hm h with ⟨c,rfl,hd,h1⟩ | ⟨st,hs,h1,c,q,hw,hc⟩
 ·rw[hg.thr c]
  have e:takes r' [thrW,[c]]=zIV r' [thrW,[c]]:=by unfold takes;simp
  rw[e,begins_D,if_pos hd,hr.line]
  exact hr.beginD h1
 ·obtain⟨st',c',q',e,hc',hs',hst⟩:=hg.stm ws st hf hs
  rw[e,takes_D r' c' q' hc' (by rw[hr.most];exact hm),hs',hr.line]
  simp only[if_true]
  exact hr.putD hR (hR.sl _ _ r.line hst) h1
def rowG (g:List (List UInt8)→List (List UInt8)) (x:List UInt8):List UInt8:=joinC 32 (g (zIp 32 x))
theorem runLines_map (hR:StR R) {g:List (List UInt8)→List (List UInt8)} (hg:RowMap R g) (G:List UInt8→List UInt8):∀ (xs:List (List UInt8)) {r r' r1:Rd},(∀ x∈xs,zIp 32 (G x)=g (zIp 32 x))→r.most=8→zJP r xs=(r1,true)→RdR R r r'→∃ r1',zJP r' (xs.map G)=(r1',true)∧RdR R r1 r1'
 | [],r,r',r1,_,_,h,hr=>by
  simp[zJP] at h
  subst h
  exact⟨r',rfl,hr⟩
 | x::xs,r,r',r1,hG,hm,h,hr=>by
  simp only[zJP] at h
  split at h
  ·rename_i ht
   have e:takes { r with line:=r.line+1 } (zIp 32 x)=((takes { r with line:=r.line+1 } (zIp 32 x)).1,true):=by rw[← ht]
   obtain⟨r2,h2,h3⟩:=takes_map hR hg (r:={ r with line:=r.line+1 }) (r':={ r' with line:=r'.line+1 }) hm (split_free 32 x) e ⟨hr.th,by simp[hr.line],hr.count,hr.ifs,hr.opn,hr.most⟩
   have hk:=zJJ { r with line:=r.line+1 } (zIp 32 x) hm
   obtain⟨r3,h4,h5⟩:=runLines_map hR hg G xs (fun y hy=>hG y (List.mem_cons_of_mem _ hy)) hk.2 h h3
   refine⟨r3,?_,h5⟩
   rw[List.map_cons]
   simp only[zJP]
   rw[hG x (by simp),h2]
   simpa using h4
  ·simp at h
theorem bars_R (hR:StR R):∀ {x y:List Stm},All2 R x y→bars y=bars x
 | [],[],_=>rfl
 | a::x,b::y,h=>by rw[bars,bars,bars_R hR h.2,hR.kind _ _ h.1]
 | [],b::y,h=>by simp[All2] at h
 | a::x,[],h=>by simp[All2] at h
theorem barsOf_R (hR:StR R) (b:Int):∀ {x y:List Thr},All2 (ThR R) x y→zIQ b y=zIQ b x
 | [],[],_=>rfl
 | t::x,u::y,h=>by rw[zIQ,zIQ,barsOf_R hR b h.2,h.1.block,bars_R hR h.1.sts]
 | [],b::y,h=>by simp[All2] at h
 | a::x,[],h=>by simp[All2] at h
theorem uneven_R (hR:StR R) {p q:List Thr} (hp:All2 (ThR R) p q):∀ {x y:List Thr},All2 (ThR R) x y→zIt q y=zIt p x
 | [],[],_=>rfl
 | t::x,u::y,h=>by rw[zIt,zIt,uneven_R hR hp h.2,h.1.block,h.1.line,bars_R hR h.1.sts,barsOf_R hR _ hp]
 | [],b::y,h=>by simp[All2] at h
 | a::x,[],h=>by simp[All2] at h
theorem innerS_R (hR:StR R):∀ {x y:List Stm} (d:Int),All2 R x y→zID d y=zID d x
 | [],[],_,_=>rfl
 | a::x,b::y,d,h=>by rw[zID,zID,hR.kind _ _ h.1,hR.line _ _ h.1,innerS_R hR (d+1) h.2,innerS_R hR (d-1) h.2,innerS_R hR d h.2]
 | [],b::y,_,h=>by simp[All2] at h
 | a::x,[],_,h=>by simp[All2] at h
theorem innerB_R (hR:StR R):∀ {x y:List Thr},All2 (ThR R) x y→zII y=zII x
 | [],[],_=>rfl
 | t::x,u::y,h=>by rw[zII,zII,innerB_R hR h.2,innerS_R hR 0 h.1.sts]
 | [],b::y,h=>by simp[All2] at h
 | a::x,[],h=>by simp[All2] at h
theorem cnt_R (p:Stm→Bool) (hp:∀ s t,R s t→p t=p s):∀ {x y:List Stm},All2 R x y→cnt p y=cnt p x
 | [],[],_=>rfl
 | a::x,b::y,h=>by rw[cnt,cnt,cnt_R p hp h.2,hp _ _ h.1]
 | [],b::y,h=>by simp[All2] at h
 | a::x,[],h=>by simp[All2] at h
theorem tot_R (p:Stm→Bool) (hp:∀ s t,R s t→p t=p s):∀ {x y:List Thr},All2 (ThR R) x y→tot p y=tot p x
 | [],[],_=>rfl
 | a::x,b::y,h=>by rw[tot,tot,tot_R p hp h.2,cnt_R p hp h.1.sts]
 | [],b::y,h=>by simp[All2] at h
 | a::x,[],h=>by simp[All2] at h
theorem over_R (hR:StR R) {x y:List Thr} (h:All2 (ThR R) x y):over y=over x:=by
 unfold over
 rw[tot_R isR (fun s t k=>by unfold isR;rw[hR.kind _ _ k]) h,tot_R isW (fun s t k=>by unfold isW;rw[hR.kind _ _ k]) h,tot_R isF (fun s t k=>by
  unfold isF
  rw[hR.kind _ _ k]
  by_cases e:s.kind=4
  ·rw[hR.fen _ _ k e]
  ·have e2:(s.kind==4)=false:=beq_eq_false_iff_ne.2 e
   rw[e2];rfl) h]
end
theorem kernel_rows {s:List UInt8} (h:(kernel s).2.1=0):∃ r1,s.length≤2000∧zJP Rd.zero (zIp 10 s).dropLast=(r1,true)∧(zIp 10 s).getLast?=some []∧r1.opn=[]∧r1.threads≠[]∧(kernel s)=(r1.threads,0,0)∧zII r1.threads=0∧zIt r1.threads r1.threads=0∧over r1.threads=false:=by
 unfold kernel at h ⊢
 split at h
 ·simp at h
 ·rename_i h0
  split at h
  ·simp at h
  ·rename_i h1
   split at h
   ·simp at h
   ·rename_i h2
    split at h
    ·simp at h
    ·rename_i h3
     split at h
     ·simp at h
     ·rename_i h4
      rw[if_neg h0,if_neg h1,if_neg h2,if_neg h3,if_neg h4]
      have hl:(lines s).2=0:=by simpa using h1
      obtain⟨g1,g2,g3⟩:=good_run (zIp 10 s).dropLast 0 Rd.zero good_zero
      have z:Rd.zero.line=0:=rfl
      unfold lines at hl h2 h3 h4 ⊢
      simp only[] at hl h2 h3 h4 ⊢
      cases hq:(zJP Rd.zero (zIp 10 s).dropLast).2
      ·have:=g3 hq
       simp[hq] at hl
       omega
      ·simp only[hq,if_true] at hl h2 h3 h4 ⊢
       split at hl
       ·simp at hl;omega
       ·rename_i hno
        rw[if_neg hno] at h2 h3 h4 ⊢
        have hn1:(zIp 10 s).getLast?=some []:=Decidable.byContradiction fun c=>hno (Or.inl c)
        have hn2:(zJP Rd.zero (zIp 10 s).dropLast).1.opn=[]:=Decidable.byContradiction fun c=>hno (Or.inr (Or.inl c))
        exact⟨(zJP Rd.zero (zIp 10 s).dropLast).1,by omega,by rw[← hq],hn1,hn2,fun c=>hno (Or.inr (Or.inr c)),rfl,by simpa using h2,by simpa using h3,by simpa using h4⟩
theorem kernel_of {xs:List (List UInt8)} {r1:Rd} (h10:∀ x∈xs,(10:UInt8) ∉ x) (hz:(textOf xs).length≤2000) (hr:zJP Rd.zero xs=(r1,true)) (ho:r1.opn=[]) (ht:r1.threads≠[]) (h1:zII r1.threads=0) (h2:zIt r1.threads r1.threads=0) (h3:over r1.threads=false):kernel (textOf xs)=(r1.threads,0,0):=by
 have hs:=split_text h10
 have hl:lines (textOf xs)=(r1.threads,0):=by
  unfold lines
  simp only[]
  rw[hs,List.dropLast_concat,hr]
  simp[ho,ht]
 unfold kernel
 rw[if_neg (by omega),hl]
 simp[h1,h2,h3]
theorem kernel_map {R:Stm→Stm→Prop} (hR:StR R) {g:List (List UInt8)→List (List UInt8)} (hg:RowMap R g) (G:List UInt8→List UInt8) {s:List UInt8} (h:(kernel s).2.1=0) (hG:∀ x∈(zIp 10 s).dropLast,zIp 32 (G x)=g (zIp 32 x)) (h10:∀ x∈(zIp 10 s).dropLast,(10:UInt8) ∉ G x) (hz:(textOf ((zIp 10 s).dropLast.map G)).length≤2000) :
  ∃ ts',kernel (textOf ((zIp 10 s).dropLast.map G))=(ts',0,0)∧All2 (ThR R) (kernel s).1 ts':=by
 obtain⟨r1,_,hr,_,ho,ht,hk,h1,h2,h3⟩:=kernel_rows h
 obtain⟨r1',hr',hrr⟩:=runLines_map hR hg G _ hG rfl hr (r':=Rd.zero) ⟨trivial,rfl,rfl,rfl,rfl,rfl⟩
 refine⟨r1'.threads,kernel_of (fun x hx=>?_) hz hr' (by rw[hrr.opn];exact ho) (fun e=>ht ?_) (by rw[innerB_R hR hrr.th];exact h1) (by rw[uneven_R hR hrr.th hrr.th];exact h2) (by rw[over_R hR hrr.th];exact h3),by rw[hk];exact hrr.th⟩
 ·obtain⟨y,hy,rfl⟩:=List.mem_map.1 hx
  exact h10 y hy
 ·have:=all2_len hrr.th
  rw[e] at this
  exact List.eq_nil_of_length_eq_zero this.symm
end P
namespace P
def isSep (c:UInt8):Bool:=c==32||c==10
def sepAt:List UInt8→Bool
 | []=>false
 | c::_=>isSep c
def zKc (a l:List UInt8):Bool:=(l.take a.length==a)&&sepAt (l.drop a.length)
def sw (a b:List UInt8):Nat→Bool→List UInt8→List UInt8
 | _,_,[]=>[]
 | n+1,_,_::r=>sw a b n false r
 | 0,front,x::r=>if front&&zKc a (x::r) then b++sw a b (a.length-1) false r else x::sw a b 0 (isSep x) r
def swapW (a b w:List UInt8):List UInt8:=if w==a then b else w
def free (w:List UInt8):Prop:=∀ c∈w,isSep c=false
theorem sw_tail (a b:List UInt8) (c:UInt8) (r:List UInt8) (hc:isSep c=true):∀ w:List UInt8,free w→sw a b 0 false (w++c::r)=w++c::sw a b 0 true r
 | [],_=>by simp[sw,hc]
 | x::w,h=>by
  have hx:isSep x=false:=h x (by simp)
  have ih:=sw_tail a b c r hc w (fun y hy=>h y (List.mem_cons_of_mem _ hy))
  simp only[List.cons_append,sw,Bool.false_and,Bool.false_eq_true,if_false,hx,ih]
theorem sw_skip (a b:List UInt8):∀ (n:Nat) (l:List UInt8),sw a b n false l=sw a b 0 false (l.drop n)
 | 0,l=>by simp
 | n+1,[]=>by simp[sw]
 | n+1,x::l=>by
  have:=sw_skip a b n l
  simpa [sw] using this
theorem pre_eq {c d:UInt8} (hc:isSep c=true) (hd:isSep d=true):∀ {a w r t:List UInt8},free a→free w→a++d::t=w++c::r→a=w
 | [],[],_,_,_,_,_=>rfl
 | [],x::w,_,_,_,hw,e=>by
  have:=(List.cons.inj e).1
  have h2:=hw x (by simp)
  rw[← this,hd] at h2;cases h2
 | x::a,[],_,_,ha,_,e=>by
  have:=(List.cons.inj e).1
  have h2:=ha x (by simp)
  rw[this,hc] at h2;cases h2
 | x::a,y::w,_,_,ha,hw,e=>by
  have e1:=List.cons.inj e
  rw[e1.1,pre_eq hc hd (fun z hz=>ha z (List.mem_cons_of_mem _ hz)) (fun z hz=>hw z (List.mem_cons_of_mem _ hz)) e1.2]
theorem matchB_of {a l:List UInt8} (h:zKc a l=true):∃ d t,isSep d=true∧l=a++d::t:=by
 unfold zKc at h
 rw[Bool.and_eq_true] at h
 have h1:l.take a.length=a:=by simpa using h.1
 cases hd:l.drop a.length with
 | nil=>rw[hd] at h;simp[sepAt] at h
 | cons d t =>
  rw[hd] at h
  exact⟨d,t,h.2,by conv=>lhs;rw[← List.take_append_drop a.length l,h1,hd]⟩
theorem sw_word {a:List UInt8} (b:List UInt8) (ha:a≠[]) (hf:free a) (c:UInt8) (hc:isSep c=true) (r w:List UInt8) (hw:free w):sw a b 0 true (w++c::r)=swapW a b w++c::sw a b 0 true r:=by
 by_cases e:w=a
 ·subst e
  have h1:swapW w b w=b:=by simp[swapW]
  rw[h1]
  have hm:zKc w (w++c::r)=true:=by
   unfold zKc
   simp[sepAt,hc]
  cases w with
  | nil=>exact absurd rfl ha
  | cons x w =>
   rw[List.cons_append] at hm ⊢
   rw[sw]
   simp only[Bool.true_and,hm,if_true,List.length_cons,Nat.add_sub_cancel]
   rw[sw_skip,List.drop_left]
   simp[sw,hc]
 ·have h1:swapW a b w=w:=by simp[swapW,e]
  rw[h1]
  have hm:zKc a (w++c::r)=false:=by
   cases h:zKc a (w++c::r)
   ·rfl
   ·obtain⟨d,t,hd,he⟩:=matchB_of h
    exact absurd (pre_eq hc hd hf hw he.symm).symm e
  cases w with
  | nil =>
   rw[List.nil_append] at hm ⊢
   rw[sw]
   simp only[Bool.true_and,hm,Bool.false_eq_true,if_false,hc];rfl
  | cons x w =>
   rw[List.cons_append] at hm ⊢
   rw[sw]
   have hx:isSep x=false:=hw x (by simp)
   simp only[Bool.true_and,hm,Bool.false_eq_true,if_false,hx]
   rw[sw_tail a b c r hc w (fun y hy=>hw y (List.mem_cons_of_mem _ hy))]
   rfl
theorem sw_row {a:List UInt8} (b:List UInt8) (ha:a≠[]) (hf:free a) (r:List UInt8):∀ {ws:List (List UInt8)},ws≠[]→(∀ w∈ws,free w)→sw a b 0 true (joinC 32 ws++10::r)=joinC 32 (ws.map (swapW a b))++10::sw a b 0 true r
 | [],h,_=>absurd rfl h
 | [w],_,h=>sw_word b ha hf 10 (by decide) r w (h w (by simp))
 | w::v::ws,_,h=>by
  rw[joinC_cons 32 w _ (by simp),List.append_assoc,List.cons_append,sw_word b ha hf 32 (by decide) _ w (h w (by simp)),sw_row b ha hf r (by simp) (fun x hx=>h x (List.mem_cons_of_mem _ hx))]
  have e:joinC 32 ((w::v::ws).map (swapW a b))=swapW a b w++32::joinC 32 ((v::ws).map (swapW a b)):=joinC_cons 32 _ _ (by simp)
  rw[e]
  simp
theorem free_words {x:List UInt8} (h:(10:UInt8) ∉ x):∀ w∈zIp 32 x,free w:=fun w hw c hc=>by
 unfold isSep
 have h1:c≠32:=fun e=>split_free 32 x w hw (e ▸ hc)
 have h2:c≠10:=fun e=>h (e ▸ split_mem 32 x w hw c hc)
 simp[h1,h2]
theorem swapW_free {a b w:List UInt8} (hb:free b) (hw:free w):free (swapW a b w):=by
 unfold swapW;split
 ·exact hb
 ·exact hw
theorem free_32 {w:List UInt8} (h:free w):(32:UInt8) ∉ w∧(10:UInt8) ∉ w:=⟨fun e=>by have:=h 32 e;simp[isSep] at this,fun e=>by have:=h 10 e;simp[isSep] at this⟩
theorem join_free {ws:List (List UInt8)} (h:∀ w∈ws,free w):(10:UInt8) ∉ joinC 32 ws:=fun e=>by
 rcases join_mem 32 e with e | ⟨w,hw,e⟩
 ·exact absurd e (by decide)
 ·exact (free_32 (h w hw)).2 e
theorem split_join_free {ws:List (List UInt8)} (hn:ws≠[]) (h:∀ w∈ws,free w):zIp 32 (joinC 32 ws)=ws:=split_join 32 hn (fun w hw=>(free_32 (h w hw)).1)
end P
end Go.Proofs.YtkmebkbpfmoeaaaGreat
namespace Go.Proofs.YtkmebkbpfmoeaaaGreat
open Go Go.RowKit
set_option maxRecDepth 100000
namespace P
def frL (l:List UInt8) (k:Nat):Bool:=if k=0 then true else isSep (l.getD (k-1) 0)
def SwAt (a b l:List UInt8) (k:Nat) (t:List UInt8):Prop:=t++sw a b 0 (frL l k) (l.drop k)=sw a b 0 true l
theorem getD_u8 (l:List UInt8) (i:Nat) (h:i<l.length):l.getD i 0=l[i]:=by
 rw[List.getD_eq_getElem?_getD,List.getElem?_eq_getElem h];rfl
theorem sw_no {a b l t:List UInt8} {k:Nat} (hk:k<l.length) (h:SwAt a b l k t) (hm:(frL l k&&zKc a (l.drop k))=false):SwAt a b l (k+1) (t++[l[k]]):=by
 unfold SwAt at h ⊢
 rw[List.drop_eq_getElem_cons hk] at h hm
 rw[sw] at h
 rw[if_neg (by rw[hm];simp)] at h
 have:frL l (k+1)=isSep l[k]:=by unfold frL;rw[if_neg (by omega),Nat.add_sub_cancel,getD_u8 l k hk]
 rw[this,← h]
 simp
theorem sw_yes {a b l t:List UInt8} {k:Nat} (hk:k<l.length) (ha:a≠[]) (hf:free a) (h:SwAt a b l k t) (hr:frL l k=true) (hm:zKc a (l.drop k)=true):SwAt a b l (k+a.length) (t++b):=by
 unfold SwAt at h ⊢
 obtain⟨d,r,hd,he⟩:=matchB_of hm
 have hal:0<a.length:=List.length_pos_iff.2 ha
 have hlen:k+a.length<l.length:=by
  have:=congrArg List.length he
  rw[List.length_drop] at this
  simp at this
  omega
 have hfr:frL l (k+a.length)=false:=by
  unfold frL
  rw[if_neg (by omega),getD_u8 l _ (by omega)]
  refine hf _ ?_
  have e1:l[k+a.length-1]'(by omega)=(l.drop k)[a.length-1]'(by rw[List.length_drop];omega):=by
   rw[List.getElem_drop];congr 1;omega
  rw[e1]
  have e2:(l.drop k)[a.length-1]'(by rw[List.length_drop];omega)=a[a.length-1]'(by omega):=by
   simp only[he]
   rw[List.getElem_append_left (by omega)]
  rw[e2]
  exact List.getElem_mem _
 have e:l.drop k=l[k]::l.drop (k+1):=List.drop_eq_getElem_cons hk
 rw[hr] at h
 rw[e] at h hm
 rw[sw] at h
 rw[if_pos (by rw[hm];rfl),sw_skip,List.drop_drop,show k+1+(a.length-1)=k+a.length by omega] at h
 rw[hfr,List.append_assoc,h]
theorem zJV {a l:List UInt8} {k:Nat} (h:l.length≤k+a.length):zKc a (l.drop k)=false:=by
 have e:(l.drop k).drop a.length=[]:=by rw[List.drop_drop];exact List.drop_eq_nil_of_le h
 unfold zKc
 rw[e,Bool.and_comm]
 rfl
theorem zJW {a l:List UInt8} {k:Nat} (h:k+a.length<l.length):zKc a (l.drop k)=((((l.take (k+a.length)).drop k)==a)&&isSep l[k+a.length]):=by
 unfold zKc
 rw[List.drop_drop,List.drop_eq_getElem_cons h,List.drop_take,show k+a.length-k=a.length by omega]
 rfl
theorem zIT {c:UInt8} {q1 q2:Bool} (h1:((c.toNat:Int)==32)=q1) (h2:((c.toNat:Int)==10)=q2):isSep c=(q1||q2):=by
 unfold isSep
 have e1:(c==32)=((c.toNat:Int)==32):=by
  rw[Bool.eq_iff_iff,beq_iff_eq,beq_iff_eq]
  constructor
  ·rintro rfl;rfl
  ·intro h;apply UInt8.toNat_inj.1;have:c.toNat=32:=by omega
   rw[this];rfl
 have e2:(c==10)=((c.toNat:Int)==10):=by
  rw[Bool.eq_iff_iff,beq_iff_eq,beq_iff_eq]
  constructor
  ·rintro rfl;rfl
  ·intro h;apply UInt8.toNat_inj.1;have:c.toNat=10:=by omega
   rw[this];rfl
 rw[e1,e2,h1,h2]
end P
theorem zEh (s:ByteArray) (i j:Nat) (hi:i<s.size) (hj:j<s.toList.length) (e:i=j):s[i]=s.toList[j]:=by
 subst e
 simp only[zAI]
 rfl
theorem zFd (s a b:ByteArray) (w:World) (hs:s.size≤1000000) (ha:a.size≤1000) (hb:b.size≤2*a.size) (hane:a.toList≠[]) (haf:P.free a.toList) :
  Calls Tryz.prog 18 #[.string s,.string a,.string b] w fun e w'=>∃ t,e=.returned (.string t)∧t.toList=P.sw a.toList b.toList 0 true s.toList∧t.size≤s.size*2∧w'=w:=by
 have HNE:=zAa hane
 have HF:=zAa haf
 have hal:0<a.size:=by rw[← zAi];exact List.length_pos_iff.2 hane
 have hal':(0:Int)<(a.size:Int):=by omega
 clear hane haf
 go_enter Tryz.func18,Tryz.ntmps18
 go_wp2
 go_loopw [7,8] (fun tv iv wr=>∃ (k:Nat) (t:ByteArray),k≤s.size∧iv=.int .i64 k∧tv=.string t∧t.size≤k*2∧Hid (P.SwAt a.toList b.toList s.toList k t.toList)∧wr=w) (fun _ iv _=>s.size-(intOf iv).toNat)
 case atStart=>exact⟨0,ByteArray.empty,Nat.zero_le _,rfl,rfl,by simp,by unfold Hid P.SwAt P.frL;rw[List.drop_zero,zAI];rfl,rfl⟩
 case round =>
  obtain⟨k,t,hk,rfl,rfl,hts,HT,rfl⟩:=hrel
  have hts':(t.size:Int)≤1000000000:=by omega
  have hbs':(b.size:Int)≤2000:=by omega
  by_cases hlt:k<s.size
  ·have hlt':(k:Int)<(s.size:Int):=by omega
   have hk0:(0:Int)≤(k:Int):=by omega
   have hkl:k<s.toList.length:=by rw[zAi];exact hlt
   have hex1:∀ wx,(Instr.slice 9 (.string s) (some (.int .i64 (k:Int))) (some (.int .i64 ((k:Int)+1))) none).run Tryz.prog wx=.ok (.string (s.extract k (k+1))) wx:=fun wx=>by
    rw[run_slice_string wx 9 s .i64 .i64 _ _ Tryz.underlying9 (by omega) (by omega) (by omega),show ((k:Int)).toNat=k by omega,show ((k:Int)+1).toNat=k+1 by omega]
   have hone:(s.extract k (k+1)).toList=[s.toList[k]]:=by
    rw[zAT,List.drop_take,show k+1-k=1 by omega,List.drop_eq_getElem_cons hkl];rfl
   have hes:(s.extract k (k+1)).size=1:=by rw[ByteArray.size_extract];omega
   have hes':((s.extract k (k+1)).size:Int)≤1:=by omega
   have HNO:Hid ((P.frL s.toList k&&P.zKc a.toList (s.toList.drop k))=false→P.SwAt a.toList b.toList s.toList (k+1) (t++s.extract k (k+1)).toList):=fun h=>by
    have:=P.sw_no hkl HT.out h
    rw[zAr,hone];exact this
   have HYES:Hid (P.frL s.toList k=true→P.zKc a.toList (s.toList.drop k)=true→P.SwAt a.toList b.toList s.toList (k+a.size) (t++b).toList):=fun h h2=>by
    have:=P.sw_yes hkl HNE.out HF.out HT.out h h2
    rw[zAi] at this
    rw[zAr];exact this
   by_cases hz:k=0
   ·have zq:((k:Int)==0)=true:=by rw[hz];rfl
    have HFR:Hid (P.frL s.toList k=true):=by unfold Hid P.frL;rw[if_pos hz]
    clear hz
    by_cases hc:k+a.size<s.size
    ·have hc':(k:Int)+(a.size:Int)<(s.size:Int):=by omega
     have hcl:k+a.toList.length<s.toList.length:=by rw[zAi,zAi];exact hc
     have hexE:∀ wx,(Instr.slice 9 (.string s) (some (.int .i64 (k:Int))) (some (.int .i64 ((k:Int)+(a.size:Int)))) none).run Tryz.prog wx=.ok (.string (s.extract k (k+a.size))) wx:=fun wx=>by
      rw[run_slice_string wx 9 s .i64 .i64 _ _ Tryz.underlying9 (by omega) (by omega) (by omega),show ((k:Int)).toNat=k by omega,show ((k:Int)+(a.size:Int)).toNat=k+a.size by omega]
     have HM:Hid (P.zKc a.toList (s.toList.drop k)=(((s.extract k (k+a.size)).toList==a.toList)&&P.isSep s.toList[k+a.toList.length])):=by
      unfold Hid
      rw[P.zJW hcl,zAT,show k+a.size=k+a.toList.length by rw[zAi]]
     have hidE:∀ wx,(Instr.index 9 (.string s) (.int .i64 ((k:Int)+(a.size:Int)))).run Tryz.prog wx=.ok (.int .u8 (s.toList[k+a.toList.length].toNat:Nat)) wx:=fun wx=>by
      rw[run_index_string wx 9 s .i64 _ Tryz.underlying9,dif_pos ⟨by omega,hc'⟩]
      congr 3
      exact congrArg (fun x:UInt8=>x.toNat) (zEh s ((k:Int)+(a.size:Int)).toNat (k+a.toList.length) (by omega) hcl (by rw[zAi];omega))
     generalize s.toList[k+a.toList.length]=d at HM hidE
     cases hqe:((s.extract k (k+a.size)).toList==a.toList)
     ·have HN:=zAa (HNO.out (by rw[HM.out,hqe,Bool.false_and,Bool.and_false]))
      go_wp2
      go_roundw
      case rel=>exact⟨k+1,t++s.extract k (k+1),by omega,by go_num,rfl,by rw[ByteArray.size_append];omega,HN,by first | rfl | trivial⟩
      case measure=>simp[intOf];omega
     ·cases d32:((d.toNat:Int)==32)
      ·cases d10:((d.toNat:Int)==10)
       ·have HN:=zAa (HNO.out (by rw[HM.out,P.zIT d32 d10,Bool.or_self,Bool.and_false,Bool.and_false]))
        go_wp2
        go_roundw
        case rel=>exact⟨k+1,t++s.extract k (k+1),by omega,by go_num,rfl,by rw[ByteArray.size_append];omega,HN,by first | rfl | trivial⟩
        case measure=>simp[intOf];omega
       ·have HN:=zAa (HYES.out HFR.out (by rw[HM.out,hqe,P.zIT d32 d10];rfl))
        go_wp2
        go_roundw
        case rel=>exact⟨k+a.size,t++b,by omega,by go_num,rfl,by rw[ByteArray.size_append];omega,HN,by first | rfl | trivial⟩
        case measure=>simp[intOf];omega
      ·have HN:=zAa (HYES.out HFR.out (by rw[HM.out,hqe,P.zIT d32 rfl];rfl))
       go_wp2
       go_roundw
       case rel=>exact⟨k+a.size,t++b,by omega,by go_num,rfl,by rw[ByteArray.size_append];omega,HN,by first | rfl | trivial⟩
       case measure=>simp[intOf];omega
    ·have hc':decide ((k:Int)+(a.size:Int)<(s.size:Int))=false:=decide_eq_false (by omega)
     have HN:=zAa (HNO.out (by rw[P.zJV (by rw[zAi,zAi];omega),Bool.and_false]))
     go_wp2
     go_roundw
     case rel=>exact⟨k+1,t++s.extract k (k+1),by omega,by go_num,rfl,by rw[ByteArray.size_append];omega,HN,by first | rfl | trivial⟩
     case measure=>simp[intOf];omega
   ·have zq:((k:Int)==0)=false:=by rw[beq_eq_false_iff_ne];omega
    have hkm:k-1<s.toList.length:=by omega
    have hidx:∀ wx,(Instr.index 9 (.string s) (.int .i64 ((k:Int)-1))).run Tryz.prog wx=.ok (.int .u8 ((s.toList.getD (k-1) 0).toNat:Nat)) wx:=fun wx=>by
     rw[run_index_string wx 9 s .i64 _ Tryz.underlying9,dif_pos ⟨by omega,by omega⟩,P.getD_u8 _ _ hkm]
     congr 3
     exact congrArg (fun x:UInt8=>x.toNat) (zEh s ((k:Int)-1).toNat (k-1) (by omega) hkm (by omega))
    have HFR0:Hid (P.frL s.toList k=P.isSep (s.toList.getD (k-1) 0)):=by unfold Hid P.frL;rw[if_neg hz]
    clear hz hkm
    generalize s.toList.getD (k-1) 0=c at hidx HFR0
    cases c32:((c.toNat:Int)==32)
    ·cases c10:((c.toNat:Int)==10)
     ·have HN:=zAa (HNO.out (by rw[HFR0.out,P.zIT c32 c10];rfl))
      go_wp2
      go_roundw
      case rel=>exact⟨k+1,t++s.extract k (k+1),by omega,by go_num,rfl,by rw[ByteArray.size_append];omega,HN,by first | rfl | trivial⟩
      case measure=>simp[intOf];omega
     ·have HFR:Hid (P.frL s.toList k=true):=by unfold Hid;rw[HFR0.out,P.zIT c32 c10];rfl
      by_cases hc:k+a.size<s.size
      ·have hc':(k:Int)+(a.size:Int)<(s.size:Int):=by omega
       have hcl:k+a.toList.length<s.toList.length:=by rw[zAi,zAi];exact hc
       have hexE:∀ wx,(Instr.slice 9 (.string s) (some (.int .i64 (k:Int))) (some (.int .i64 ((k:Int)+(a.size:Int)))) none).run Tryz.prog wx=.ok (.string (s.extract k (k+a.size))) wx:=fun wx=>by
        rw[run_slice_string wx 9 s .i64 .i64 _ _ Tryz.underlying9 (by omega) (by omega) (by omega),show ((k:Int)).toNat=k by omega,show ((k:Int)+(a.size:Int)).toNat=k+a.size by omega]
       have HM:Hid (P.zKc a.toList (s.toList.drop k)=(((s.extract k (k+a.size)).toList==a.toList)&&P.isSep s.toList[k+a.toList.length])):=by
        unfold Hid
        rw[P.zJW hcl,zAT,show k+a.size=k+a.toList.length by rw[zAi]]
       have hidE:∀ wx,(Instr.index 9 (.string s) (.int .i64 ((k:Int)+(a.size:Int)))).run Tryz.prog wx=.ok (.int .u8 (s.toList[k+a.toList.length].toNat:Nat)) wx:=fun wx=>by
        rw[run_index_string wx 9 s .i64 _ Tryz.underlying9,dif_pos ⟨by omega,hc'⟩]
        congr 3
        exact congrArg (fun x:UInt8=>x.toNat) (zEh s ((k:Int)+(a.size:Int)).toNat (k+a.toList.length) (by omega) hcl (by rw[zAi];omega))
       generalize s.toList[k+a.toList.length]=d at HM hidE
       cases hqe:((s.extract k (k+a.size)).toList==a.toList)
       ·have HN:=zAa (HNO.out (by rw[HM.out,hqe,Bool.false_and,Bool.and_false]))
        go_wp2
        go_roundw
        case rel=>exact⟨k+1,t++s.extract k (k+1),by omega,by go_num,rfl,by rw[ByteArray.size_append];omega,HN,by first | rfl | trivial⟩
        case measure=>simp[intOf];omega
       ·cases d32:((d.toNat:Int)==32)
        ·cases d10:((d.toNat:Int)==10)
         ·have HN:=zAa (HNO.out (by rw[HM.out,P.zIT d32 d10,Bool.or_self,Bool.and_false,Bool.and_false]))
          go_wp2
          go_roundw
          case rel=>exact⟨k+1,t++s.extract k (k+1),by omega,by go_num,rfl,by rw[ByteArray.size_append];omega,HN,by first | rfl | trivial⟩
          case measure=>simp[intOf];omega
         ·have HN:=zAa (HYES.out HFR.out (by rw[HM.out,hqe,P.zIT d32 d10];rfl))
          go_wp2
          go_roundw
          case rel=>exact⟨k+a.size,t++b,by omega,by go_num,rfl,by rw[ByteArray.size_append];omega,HN,by first | rfl | trivial⟩
          case measure=>simp[intOf];omega
        ·have HN:=zAa (HYES.out HFR.out (by rw[HM.out,hqe,P.zIT d32 rfl];rfl))
         go_wp2
         go_roundw
         case rel=>exact⟨k+a.size,t++b,by omega,by go_num,rfl,by rw[ByteArray.size_append];omega,HN,by first | rfl | trivial⟩
         case measure=>simp[intOf];omega
      ·have hc':decide ((k:Int)+(a.size:Int)<(s.size:Int))=false:=decide_eq_false (by omega)
       have HN:=zAa (HNO.out (by rw[P.zJV (by rw[zAi,zAi];omega),Bool.and_false]))
       go_wp2
       go_roundw
       case rel=>exact⟨k+1,t++s.extract k (k+1),by omega,by go_num,rfl,by rw[ByteArray.size_append];omega,HN,by first | rfl | trivial⟩
       case measure=>simp[intOf];omega
    ·have HFR:Hid (P.frL s.toList k=true):=by unfold Hid;rw[HFR0.out,P.zIT c32 rfl];rfl
     by_cases hc:k+a.size<s.size
     ·have hc':(k:Int)+(a.size:Int)<(s.size:Int):=by omega
      have hcl:k+a.toList.length<s.toList.length:=by rw[zAi,zAi];exact hc
      have hexE:∀ wx,(Instr.slice 9 (.string s) (some (.int .i64 (k:Int))) (some (.int .i64 ((k:Int)+(a.size:Int)))) none).run Tryz.prog wx=.ok (.string (s.extract k (k+a.size))) wx:=fun wx=>by
       rw[run_slice_string wx 9 s .i64 .i64 _ _ Tryz.underlying9 (by omega) (by omega) (by omega),show ((k:Int)).toNat=k by omega,show ((k:Int)+(a.size:Int)).toNat=k+a.size by omega]
      have HM:Hid (P.zKc a.toList (s.toList.drop k)=(((s.extract k (k+a.size)).toList==a.toList)&&P.isSep s.toList[k+a.toList.length])):=by
       unfold Hid
       rw[P.zJW hcl,zAT,show k+a.size=k+a.toList.length by rw[zAi]]
      have hidE:∀ wx,(Instr.index 9 (.string s) (.int .i64 ((k:Int)+(a.size:Int)))).run Tryz.prog wx=.ok (.int .u8 (s.toList[k+a.toList.length].toNat:Nat)) wx:=fun wx=>by
       rw[run_index_string wx 9 s .i64 _ Tryz.underlying9,dif_pos ⟨by omega,hc'⟩]
       congr 3
       exact congrArg (fun x:UInt8=>x.toNat) (zEh s ((k:Int)+(a.size:Int)).toNat (k+a.toList.length) (by omega) hcl (by rw[zAi];omega))
      generalize s.toList[k+a.toList.length]=d at HM hidE
      cases hqe:((s.extract k (k+a.size)).toList==a.toList)
      ·have HN:=zAa (HNO.out (by rw[HM.out,hqe,Bool.false_and,Bool.and_false]))
       go_wp2
       go_roundw
       case rel=>exact⟨k+1,t++s.extract k (k+1),by omega,by go_num,rfl,by rw[ByteArray.size_append];omega,HN,by first | rfl | trivial⟩
       case measure=>simp[intOf];omega
      ·cases d32:((d.toNat:Int)==32)
       ·cases d10:((d.toNat:Int)==10)
        ·have HN:=zAa (HNO.out (by rw[HM.out,P.zIT d32 d10,Bool.or_self,Bool.and_false,Bool.and_false]))
         go_wp2
         go_roundw
         case rel=>exact⟨k+1,t++s.extract k (k+1),by omega,by go_num,rfl,by rw[ByteArray.size_append];omega,HN,by first | rfl | trivial⟩
         case measure=>simp[intOf];omega
        ·have HN:=zAa (HYES.out HFR.out (by rw[HM.out,hqe,P.zIT d32 d10];rfl))
         go_wp2
         go_roundw
         case rel=>exact⟨k+a.size,t++b,by omega,by go_num,rfl,by rw[ByteArray.size_append];omega,HN,by first | rfl | trivial⟩
         case measure=>simp[intOf];omega
       ·have HN:=zAa (HYES.out HFR.out (by rw[HM.out,hqe,P.zIT d32 rfl];rfl))
        go_wp2
        go_roundw
        case rel=>exact⟨k+a.size,t++b,by omega,by go_num,rfl,by rw[ByteArray.size_append];omega,HN,by first | rfl | trivial⟩
        case measure=>simp[intOf];omega
     ·have hc':decide ((k:Int)+(a.size:Int)<(s.size:Int))=false:=decide_eq_false (by omega)
      have HN:=zAa (HNO.out (by rw[P.zJV (by rw[zAi,zAi];omega),Bool.and_false]))
      go_wp2
      go_roundw
      case rel=>exact⟨k+1,t++s.extract k (k+1),by omega,by go_num,rfl,by rw[ByteArray.size_append];omega,HN,by first | rfl | trivial⟩
      case measure=>simp[intOf];omega
  ·have hnlt:decide ((k:Int)<(s.size:Int))=false:=decide_eq_false (by omega)
   have HE:Hid (t.toList=P.sw a.toList b.toList 0 true s.toList):=by
    have h1:=HT.out
    unfold P.SwAt at h1
    rw[List.drop_eq_nil_of_le (by rw[zAi];omega)] at h1
    unfold Hid;simpa [P.sw] using h1
   go_wp2
   go_ret
   exact⟨t,rfl,HE.out,by omega,rfl⟩
end Go.Proofs.YtkmebkbpfmoeaaaGreat
