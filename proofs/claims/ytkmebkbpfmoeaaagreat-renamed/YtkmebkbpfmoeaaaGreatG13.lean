import Derived.WalkSpells
import Derived.Test.YtkmebkbpfmoeaaaGreatG08
set_option linter.unusedVariables false
set_option linter.unusedSimpArgs false
set_option maxHeartbeats 12800000
namespace Go.Proofs.YtkmebkbpfmoeaaaGreat
open Go Go.RowKit
set_option maxRecDepth 100000
namespace P
end P
namespace P
end P
end Go.Proofs.YtkmebkbpfmoeaaaGreat
namespace Go.Proofs.YtkmebkbpfmoeaaaGreat
namespace P
theorem splitAt_app (c:UInt8) (r:List UInt8):∀ p:List UInt8,zIo c (p++c::r)=zIo c p++zIo c r
 | []=>by rw[List.nil_append,splitAt_cons_eq];rfl
 | x::p=>by
  have ih:=splitAt_app c r p
  by_cases hx:x=c
  ·subst hx
   rw[List.cons_append,splitAt_cons_eq,splitAt_cons_eq,ih];rfl
  ·cases hs:zIo c p with
   | nil=>exact absurd hs (zJl _ _)
   | cons a b =>
    rw[List.cons_append,splitAt_cons_ne c x p hx a b hs,splitAt_cons_ne c x (p++c::r) hx a (b++zIo c r) (by rw[ih,hs];rfl)];rfl
theorem splitAt_none (c:UInt8):∀ l:List UInt8,c ∉ l→zIo c l=[l]
 | [],_=>rfl
 | x::l,h=>by
  have h1:x≠c:=fun e=>h (by rw[e];simp)
  have h2:=splitAt_none c l (fun e=>h (List.mem_cons_of_mem _ e))
  exact splitAt_cons_ne c x l h1 l [] h2
def joinC (c:UInt8):List (List UInt8)→List UInt8
 | []=>[]
 | [a]=>a
 | a::b::r=>a++c::joinC c (b::r)
theorem joinC_cons (c:UInt8) (a:List UInt8) (l:List (List UInt8)) (h:l≠[]):joinC c (a::l)=a++c::joinC c l:=by
 cases l with
 | nil=>exact absurd rfl h
 | cons b r=>rfl
theorem join_split (c:UInt8):∀ l:List UInt8,joinC c (zIo c l)=l
 | []=>rfl
 | x::l=>by
  have ih:=join_split c l
  by_cases hx:x=c
  ·subst hx
   rw[splitAt_cons_eq,joinC_cons _ _ _ (zJl _ _),ih];rfl
  ·cases hs:zIo c l with
   | nil=>exact absurd hs (zJl _ _)
   | cons a b =>
    rw[splitAt_cons_ne c x l hx a b hs]
    rw[hs] at ih
    cases b with
    | nil=>simp only[joinC] at ih ⊢;rw[ih]
    | cons b1 b2=>simp only[joinC] at ih ⊢;rw[← ih];rfl
end P
namespace P
theorem varOf_word {p:List UInt8} (h:(varOf p).2=true):p=[120]∨p=[121]∨p=[122]:=by
 unfold varOf at h
 split at h
 ·rename_i e;exact Or.inl (by simpa using e)
 ·split at h
  ·rename_i e;exact Or.inr (Or.inl (by simpa using e))
  ·split at h
   ·rename_i e;exact Or.inr (Or.inr (by simpa using e))
   ·simp at h
theorem register_word {p:List UInt8} (h:(zIh p).2=true):∃ d,p=[114,d]:=by
 match p,h with
 | [],h=>simp[zIh] at h
 | [_],h=>simp[zIh] at h
 | [c,d],h =>
  simp only[zIh] at h
  split at h
  ·rename_i e;exact⟨d,by rw[e]⟩
  ·simp at h
 | _::_::_::_,h=>simp[zIh] at h
theorem operand_word {p:List UInt8} (h:(zIu p).2=true):p.length≤2:=by
 match p,h with
 | [],_=>simp
 | [_],_=>simp
 | [_,_],_=>simp
 | a::b::c::r,h =>
  simp only[zIu] at h
  obtain⟨d,hd⟩:=register_word h
  simp at hd
theorem sign_word {p:List UInt8} (h:(sign p).2=true):p.length≤2:=by
 unfold sign at h
 split at h
 ·rename_i e;rw[show p=[43] by simpa using e];simp
 ·split at h
  ·rename_i e;rw[show p=[45] by simpa using e];simp
  ·split at h
   ·rename_i e;rw[show p=[61,61] by simpa using e];simp
   ·simp at h
def ordW (o:Int):List UInt8:=if o==0 then [119,101,97,107] else if o==1 then [114,101,108,97,120,101,100] else if o==2 then [97,99,113,117,105,114,101] else if o==3 then [114,101,108,101,97,115,101] else if o==4 then [97,99,113,114,101,108] else [115,99]
theorem order_word {o:List UInt8} (h:(order o).2=true):o=ordW (order o).1∧((order o).1=0∨(order o).1=1∨(order o).1=2∨(order o).1=3∨(order o).1=4∨(order o).1=5):=by
 unfold order at h ⊢
 repeat' split at h
 all_goals first
  | (simp at h;done)
  | (rename_i e;have e2:=eq_of_beq e;subst e2;decide)
theorem scope_word {o:List UInt8} (h:(scope o).2=true):(o=[98,108,111,99,107]∧(scope o).1=0)∨(o=[100,101,118,105,99,101]∧(scope o).1=1):=by
 unfold scope at h ⊢
 repeat' split at h
 all_goals first
  | (simp at h;done)
  | (rename_i e;have e2:=eq_of_beq e;subst e2;decide)
theorem ordering_word {st st':Stm} {r:List (List UInt8)} (h:zIW st r=(st',true)):(∃ o,r=[o]∧o=ordW 0∧st'={ st with order:=0 })∨∃ o s,r=[o,s]∧(order o).2=true∧(scope s).2=true∧(order o).1≠0∧st'={ st with order:=(order o).1,scope:=(scope s).1 }∧zKn st.kind (order o).1=true:=by
 cases r with
 | nil=>simp[zIW] at h
 | cons o r =>
  simp only[zIW] at h
  split at h
  ·rename_i hc
   simp only[Bool.and_eq_true] at hc
   split at h
   ·rename_i h0
    simp only[Prod.mk.injEq] at h
    have hr:r=[]:=by simpa using h.2
    subst hr
    have h1:=(order_word hc.1).1
    rw[show (order o).1=0 by simpa using h0] at h1
    exact Or.inl ⟨o,rfl,h1,h.1.symm⟩
   ·rename_i h0
    match r,h with
    | [],h=>simp at h
    | [s],h =>
     simp only[Prod.mk.injEq] at h
     exact Or.inr ⟨o,s,rfl,hc.1,h.2,by simpa using h0,h.1.symm,hc.2⟩
    | _::_::_,h=>simp at h
  ·simp at h
def wordOf (o:Int) (ws:List (List UInt8)):Bool:=(ws.tail.dropLast).contains (ordW o)
structure Says (ws:List (List UInt8)) (st:Stm):Prop where
 w2:wordOf 2 ws=(st.order==2)
 w3:wordOf 3 ws=(st.order==3)
 w4:wordOf 4 ws=(st.order==4)
 fen:st.kind=4→ws.head?=some [102,101,110,99,101]
 nof:st.kind≠4→∃ c r q,ws=(c::r)::q∧c≠102
 none:isAcc st.kind=false→st.kind≠4→st.order=0
 weak:isAcc st.kind=true→st.order=0→∃ a l,ws=a::(l++[ordW 0])
 blk:isAcc st.kind=true→st.order≠0→st.scope=0→∃ a l,ws=a::(l++[[98,108,111,99,107]])
 frel:st.kind=4→st.order=4∨st.order=5
end P
namespace P
end P
namespace P
def textOf:List (List UInt8)→List UInt8
 | []=>[]
 | x::r=>x++10::textOf r
theorem split_text:∀ {xs:List (List UInt8)},(∀ x∈xs,(10:UInt8) ∉ x)→zIo 10 (textOf xs)=xs++[[]]
 | [],_=>rfl
 | x::xs,h=>by
  rw[textOf,splitAt_app,splitAt_none 10 x (h x (by simp)),split_text (fun y hy=>h y (List.mem_cons_of_mem _ hy))];rfl
theorem join_text:∀ (xs:List (List UInt8)),joinC 10 (xs++[[]])=textOf xs
 | []=>rfl
 | x::xs=>by rw[List.cons_append,joinC_cons 10 x _ (by simp),join_text xs];rfl
theorem text_split {s:List UInt8} (h:(zIo 10 s).getLast?=some []):s=textOf (zIo 10 s).dropLast:=by
 have h1:=join_split 10 s
 have h2:=(List.dropLast_concat_getLast (zJl 10 s)).symm
 rw[List.getLast?_eq_some_getLast (zJl 10 s)] at h
 rw[Option.some.inj h] at h2
 conv=>lhs;rw[← h1,h2]
 exact join_text _
theorem split_free (c:UInt8):∀ (l w:List UInt8),w∈zIo c l→c ∉ w
 | [],w,h=>by simp[zIo] at h;rw[h];simp
 | x::l,w,h=>by
  by_cases hx:x=c
  ·subst hx
   rw[splitAt_cons_eq] at h
   rcases List.mem_cons.1 h with rfl | h
   ·simp
   ·exact split_free x l w h
  ·cases hs:zIo c l with
   | nil=>exact absurd hs (zJl _ _)
   | cons a b =>
    rw[splitAt_cons_ne c x l hx a b hs] at h
    rcases List.mem_cons.1 h with rfl | h
    ·have:=split_free c l a (by rw[hs];simp)
     intro hm
     rcases List.mem_cons.1 hm with e | hm
     ·exact hx e.symm
     ·exact this hm
    ·exact split_free c l w (by rw[hs];exact List.mem_cons_of_mem _ h)
theorem split_mem (c:UInt8):∀ (l w:List UInt8),w∈zIo c l→∀ x∈w,x∈l
 | [],w,h,x,hx=>by simp[zIo] at h;rw[h] at hx;simp at hx
 | y::l,w,h,x,hx=>by
  by_cases hy:y=c
  ·subst hy
   rw[splitAt_cons_eq] at h
   rcases List.mem_cons.1 h with rfl | h
   ·simp at hx
   ·exact List.mem_cons_of_mem _ (split_mem y l w h x hx)
  ·cases hs:zIo c l with
   | nil=>exact absurd hs (zJl _ _)
   | cons a b =>
    rw[splitAt_cons_ne c y l hy a b hs] at h
    rcases List.mem_cons.1 h with rfl | h
    ·rcases List.mem_cons.1 hx with rfl | hx
     ·simp
     ·exact List.mem_cons_of_mem _ (split_mem c l a (by rw[hs];simp) x hx)
    ·exact List.mem_cons_of_mem _ (split_mem c l w (by rw[hs];exact List.mem_cons_of_mem _ h) x hx)
theorem split_join (c:UInt8):∀ {ws:List (List UInt8)},ws≠[]→(∀ w∈ws,c ∉ w)→zIo c (joinC c ws)=ws
 | [],h,_=>absurd rfl h
 | [a],_,h=>splitAt_none c a (h a (by simp))
 | a::b::r,_,h=>by
  rw[joinC_cons c a _ (by simp),splitAt_app,splitAt_none c a (h a (by simp)),split_join c (by simp) (fun w hw=>h w (List.mem_cons_of_mem _ hw))];rfl
theorem join_mem (c:UInt8):∀ {ws:List (List UInt8)} {x:UInt8},x∈joinC c ws→x=c∨∃ w∈ws,x∈w
 | [],x,h=>by simp[joinC] at h
 | [a],x,h=>Or.inr ⟨a,by simp,h⟩
 | a::b::r,x,h=>by
  rw[joinC_cons c a _ (by simp)] at h
  rcases List.mem_append.1 h with h | h
  ·exact Or.inr ⟨a,by simp,h⟩
  ·rcases List.mem_cons.1 h with h | h
   ·exact Or.inl h
   ·rcases join_mem c h with h | ⟨w,hw,h⟩
    ·exact Or.inl h
    ·exact Or.inr ⟨w,List.mem_cons_of_mem _ hw,h⟩
def All2 {α β:Type} (R:α→β→Prop):List α→List β→Prop
 | [],[]=>True
 | a::x,b::y=>R a b∧All2 R x y
 | _,_=>False
theorem all2_len {α β:Type} {R:α→β→Prop}:∀ {x:List α} {y:List β},All2 R x y→y.length=x.length
 | [],[],_=>rfl
 | a::x,b::y,h=>by rw[List.length_cons,List.length_cons,all2_len h.2]
 | [],b::y,h=>by simp[All2] at h
 | a::x,[],h=>by simp[All2] at h
theorem all2_app {α β:Type} {R:α→β→Prop}:∀ {x:List α} {y:List β} {u:List α} {v:List β},All2 R x y→All2 R u v→All2 R (x++u) (y++v)
 | [],[],_,_,_,h=>h
 | a::x,b::y,_,_,h,k=>⟨h.1,all2_app h.2 k⟩
 | [],b::y,_,_,h,_=>by simp[All2] at h
 | a::x,[],_,_,h,_=>by simp[All2] at h
structure StR (R:Stm→Stm→Prop):Prop where
 kind:∀ s t,R s t→t.kind=s.kind
 line:∀ s t,R s t→t.line=s.line
 fen:∀ s t,R s t→s.kind=4→t.order=s.order
 sl:∀ s t l,R s t→R { s with line:=l } { t with line:=l }
 sb:∀ s t l,R s t→R { s with label:=l } { t with label:=l }
structure ThR (R:Stm→Stm→Prop) (t t':Thr):Prop where
 block:t'.block=t.block
 line:t'.line=t.line
 sts:All2 R t.stmts t'.stmts
structure RdR (R:Stm→Stm→Prop) (r r':Rd):Prop where
 th:All2 (ThR R) r.threads r'.threads
 line:r'.line=r.line
 count:r'.count=r.count
 ifs:r'.ifs=r.ifs
 opn:r'.opn=r.opn
 most:r'.most=r.most
theorem putLast_R {R:Stm→Stm→Prop} {s s':Stm} (hs:R s s'):∀ {x y:List Thr},All2 (ThR R) x y→All2 (ThR R) (putLast x s) (putLast y s')
 | [],[],_=>trivial
 | [a],[b],h=>⟨⟨h.1.block,h.1.line,all2_app h.1.sts ⟨hs,trivial⟩⟩,trivial⟩
 | a::a2::x,b::b2::y,h=>⟨h.1,putLast_R hs (x:=a2::x) (y:=b2::y) h.2⟩
 | [],b::y,h=>by simp[All2] at h
 | a::x,[],h=>by simp[All2] at h
 | [a],b::b2::y,h=>by have:=h.2;simp[All2] at this
 | a::a2::x,[b],h=>by have:=h.2;simp[All2] at this
section
variable {R:Stm→Stm→Prop}
theorem RdR.put {r r':Rd} (h:RdR R r r') {s s':Stm} (hs:R s s'):RdR R (put r s) (put r' s') :=
 ⟨putLast_R hs h.th,h.line,h.count,h.ifs,h.opn,h.most⟩
theorem RdR.ends (hR:StR R) {r r' r1:Rd} (h:RdR R r r') {s s':Stm} (hs:R s s') (e:ends r s=(r1,true)):∃ r1',ends r' s'=(r1',true)∧RdR R r1 r1':=by
 unfold P.ends at e ⊢
 rw[h.opn]
 split at e
 ·simp at e
 ·rename_i l hl
  simp only[Prod.mk.injEq,and_true] at e
  refine⟨_,rfl,?_⟩
  rw[← e]
  refine RdR.put ?_ (hR.sb _ _ l hs)
  exact⟨h.th,h.line,h.count,h.ifs,rfl,h.most⟩
theorem RdR.branch (hR:StR R) {r r' r1:Rd} (h:RdR R r r') {s s':Stm} (hs:R s s') (e:branch r s=(r1,true)):∃ r1',branch r' s'=(r1',true)∧RdR R r1 r1':=by
 unfold P.branch at e ⊢
 rw[h.opn,h.ifs]
 split at e
 ·simp at e
 ·rename_i hn
  rw[if_neg hn]
  simp only[Prod.mk.injEq,and_true] at e
  refine⟨_,rfl,?_⟩
  rw[← e]
  refine RdR.put ?_ (hR.sb _ _ _ hs)
  exact⟨h.th,h.line,h.count,rfl,rfl,h.most⟩
theorem RdR.putD (hR:StR R) {r r' r1:Rd} (h:RdR R r r') {s s':Stm} (hs:R s s') (e:putD r s=(r1,true)):∃ r1',putD r' s'=(r1',true)∧RdR R r1 r1':=by
 unfold P.putD at e ⊢
 have hemp:r'.threads.isEmpty=r.threads.isEmpty:=by
  have:=all2_len h.th
  cases h1:r.threads<;>cases h2:r'.threads<;>simp_all
 rw[hemp,hR.kind _ _ hs,h.most,h.count,h.opn]
 split at e
 ·simp at e
 ·rename_i h0
  rw[if_neg h0]
  split at e
  ·rename_i h1
   rw[if_pos h1]
   exact h.ends hR hs e
  ·rename_i h1
   rw[if_neg h1]
   split at e
   ·simp at e
   ·rename_i h2
    rw[if_neg h2]
    split at e
    ·rename_i h3
     rw[if_pos h3]
     split at e
     ·simp at e
     ·rename_i h4
      rw[if_neg h4]
      exact RdR.branch hR (r:={ r with count:=r.count+1 }) (r':={ r' with count:=r.count+1,opn:=r.opn,most:=r.most }) ⟨h.th,h.line,rfl,h.ifs,rfl,rfl⟩ hs e
    ·rename_i h3
     rw[if_neg h3]
     simp only[Prod.mk.injEq,and_true] at e
     refine⟨_,rfl,?_⟩
     rw[← e]
     exact RdR.put (r:={ r with count:=r.count+1 }) (r':={ r' with count:=r.count+1,opn:=r.opn,most:=r.most }) ⟨h.th,h.line,rfl,h.ifs,rfl,rfl⟩ hs
theorem RdR.beginD {r r' r1:Rd} (h:RdR R r r') {b l:Int} (e:beginD r b l=(r1,true)):∃ r1',beginD r' b l=(r1',true)∧RdR R r1 r1':=by
 unfold P.beginD at e ⊢
 rw[all2_len h.th,h.opn]
 split at e
 ·simp at e
 ·rename_i h0
  rw[if_neg h0]
  simp only[Prod.mk.injEq,and_true] at e
  refine⟨_,rfl,?_⟩
  rw[← e]
  exact⟨all2_app h.th ⟨⟨rfl,rfl,trivial⟩,trivial⟩,h.line,rfl,h.ifs,rfl,h.most⟩
abbrev thrW:List UInt8:=[116,104,114,101,97,100]
structure RowMap (R:Stm→Stm→Prop) (g:List (List UInt8)→List (List UInt8)):Prop where
 thr:∀ c:UInt8,(digit c 2).2=true→g [thrW,[c]]=[thrW,[c]]
 stm:∀ ws st,(∀ w∈ws,(32:UInt8) ∉ w)→zIn ws=(st,true)→∃ st' c q,g ws=c::q∧(c==thrW)=false∧zIn (c::q)=(st',true)∧R st st'
theorem takes_true {r r1:Rd} {ws:List (List UInt8)} (hm:r.most=8) (h:takes r ws=(r1,true)):(∃ c:UInt8,ws=[thrW,[c]]∧(digit c 2).2=true∧beginD r (digit c 2).1 r.line=(r1,true))∨∃ st,zIn ws=(st,true)∧putD r { st with line:=r.line }=(r1,true)∧∃ c q,ws=c::q∧(c==thrW)=false:=by
 cases ws with
 | nil =>
  unfold takes at h
  simp[zIn] at h
 | cons c q =>
  cases hc:(c==thrW)
  ·rw[takes_D r c q hc hm] at h
   split at h
   ·rename_i hs
    exact Or.inr ⟨(zIn (c::q)).1,by rw[← hs],h,c,q,rfl,hc⟩
   ·simp at h
  ·have hc2:=eq_of_beq hc
   subst hc2
   have e:takes r (thrW::q)=zIR r (thrW::q):=by unfold takes;simp
   rw[e] at h
   match q,h with
   | [],h=>unfold zIR at h;split at h<;>simp at h
   | [[]],h=>unfold zIR at h;split at h<;>simp at h
   | [[d]],h =>
    rw[begins_D] at h
    split at h
    ·rename_i hd
     exact Or.inl ⟨d,rfl,hd,h⟩
    ·simp at h
   | [d::d2::d3],h=>unfold zIR at h;split at h<;>simp at h
   | _::_::_,h=>unfold zIR at h;split at h<;>simp at h
theorem takes_map (hR:StR R) {g:List (List UInt8)→List (List UInt8)} (hg:RowMap R g) {r r' r1:Rd} (hm:r.most=8) {ws:List (List UInt8)} (hf:∀ w∈ws,(32:UInt8) ∉ w) (h:takes r ws=(r1,true)) (hr:RdR R r r'):∃ r1',takes r' (g ws)=(r1',true)∧RdR R r1 r1':=by
 rcases takes_true hm h with ⟨c,rfl,hd,h1⟩ | ⟨st,hs,h1,c,q,hw,hc⟩
 ·rw[hg.thr c hd]
  have e:takes r' [thrW,[c]]=zIR r' [thrW,[c]]:=by unfold takes;simp
  rw[e,begins_D,if_pos hd,hr.line]
  exact hr.beginD h1
 ·obtain⟨st',c',q',e,hc',hs',hst⟩:=hg.stm ws st hf hs
  rw[e,takes_D r' c' q' hc' (by rw[hr.most];exact hm),hs',hr.line]
  simp only[if_true]
  exact hr.putD hR (hR.sl _ _ r.line hst) h1
def rowG (g:List (List UInt8)→List (List UInt8)) (x:List UInt8):List UInt8:=joinC 32 (g (zIo 32 x))
theorem runLines_map (hR:StR R) {g:List (List UInt8)→List (List UInt8)} (hg:RowMap R g) (G:List UInt8→List UInt8):∀ (xs:List (List UInt8)) {r r' r1:Rd},(∀ x∈xs,zIo 32 (G x)=g (zIo 32 x))→r.most=8→zJQ r xs=(r1,true)→RdR R r r'→∃ r1',zJQ r' (xs.map G)=(r1',true)∧RdR R r1 r1'
 | [],r,r',r1,_,_,h,hr=>by
  simp[zJQ] at h
  subst h
  exact⟨r',rfl,hr⟩
 | x::xs,r,r',r1,hG,hm,h,hr=>by
  simp only[zJQ] at h
  split at h
  ·rename_i ht
   have e:takes { r with line:=r.line+1 } (zIo 32 x)=((takes { r with line:=r.line+1 } (zIo 32 x)).1,true):=by rw[← ht]
   obtain⟨r2,h2,h3⟩:=takes_map hR hg (r:={ r with line:=r.line+1 }) (r':={ r' with line:=r'.line+1 }) hm (split_free 32 x) e ⟨hr.th,by simp[hr.line],hr.count,hr.ifs,hr.opn,hr.most⟩
   have hk:=zJI { r with line:=r.line+1 } (zIo 32 x) hm
   obtain⟨r3,h4,h5⟩:=runLines_map hR hg G xs (fun y hy=>hG y (List.mem_cons_of_mem _ hy)) hk.2 h h3
   refine⟨r3,?_,h5⟩
   rw[List.map_cons]
   simp only[zJQ]
   rw[hG x (by simp),h2]
   simpa using h4
  ·simp at h
theorem bars_R (hR:StR R):∀ {x y:List Stm},All2 R x y→bars y=bars x
 | [],[],_=>rfl
 | a::x,b::y,h=>by rw[bars,bars,bars_R hR h.2,hR.kind _ _ h.1]
 | [],b::y,h=>by simp[All2] at h
 | a::x,[],h=>by simp[All2] at h
theorem barsOf_R (hR:StR R) (b:Int):∀ {x y:List Thr},All2 (ThR R) x y→zIM b y=zIM b x
 | [],[],_=>rfl
 | t::x,u::y,h=>by rw[zIM,zIM,barsOf_R hR b h.2,h.1.block,bars_R hR h.1.sts]
 | [],b::y,h=>by simp[All2] at h
 | a::x,[],h=>by simp[All2] at h
theorem uneven_R (hR:StR R) {p q:List Thr} (hp:All2 (ThR R) p q):∀ {x y:List Thr},All2 (ThR R) x y→zIr q y=zIr p x
 | [],[],_=>rfl
 | t::x,u::y,h=>by rw[zIr,zIr,uneven_R hR hp h.2,h.1.block,h.1.line,bars_R hR h.1.sts,barsOf_R hR _ hp]
 | [],b::y,h=>by simp[All2] at h
 | a::x,[],h=>by simp[All2] at h
theorem innerS_R (hR:StR R):∀ {x y:List Stm} (d:Int),All2 R x y→zIB d y=zIB d x
 | [],[],_,_=>rfl
 | a::x,b::y,d,h=>by rw[zIB,zIB,hR.kind _ _ h.1,hR.line _ _ h.1,innerS_R hR (d+1) h.2,innerS_R hR (d-1) h.2,innerS_R hR d h.2]
 | [],b::y,_,h=>by simp[All2] at h
 | a::x,[],_,h=>by simp[All2] at h
theorem innerB_R (hR:StR R):∀ {x y:List Thr},All2 (ThR R) x y→zIH y=zIH x
 | [],[],_=>rfl
 | t::x,u::y,h=>by rw[zIH,zIH,innerB_R hR h.2,innerS_R hR 0 h.1.sts]
 | [],b::y,h=>by simp[All2] at h
 | a::x,[],h=>by simp[All2] at h
theorem cnt_R (p:Stm→Bool) (hp:∀ s t,R s t→p t=p s):∀ {x y:List Stm},All2 R x y→cnt p y=cnt p x
 | [],[],_=>rfl
 | a::x,b::y,h=>by rw[cnt,cnt,cnt_R p hp h.2,hp _ _ h.1]
 | [],b::y,h=>by simp[All2] at h
 | a::x,[],h=>by simp[All2] at h
theorem tot_R (p:Stm→Bool) (hp:∀ s t,R s t→p t=p s):∀ {x y:List Thr},All2 (ThR R) x y→tot p y=tot p x
 | [],[],_=>rfl
 | a::x,b::y,h=>by rw[tot,tot,tot_R p hp h.2,cnt_R p hp h.1.sts]
 | [],b::y,h=>by simp[All2] at h
 | a::x,[],h=>by simp[All2] at h
theorem over_R (hR:StR R) {x y:List Thr} (h:All2 (ThR R) x y):over y=over x:=by
 unfold over
 rw[tot_R isR (fun s t k=>by unfold isR;rw[hR.kind _ _ k]) h,tot_R isW (fun s t k=>by unfold isW;rw[hR.kind _ _ k]) h,tot_R isF (fun s t k=>by
  unfold isF
  rw[hR.kind _ _ k]
  by_cases e:s.kind=4
  ·rw[hR.fen _ _ k e]
  ·have e2:(s.kind==4)=false:=beq_eq_false_iff_ne.2 e
   rw[e2];rfl) h]
end
theorem kernel_rows {s:List UInt8} (h:(kernel s).2.1=0):∃ r1,s.length≤2000∧zJQ Rd.zero (zIo 10 s).dropLast=(r1,true)∧(zIo 10 s).getLast?=some []∧r1.opn=[]∧r1.threads≠[]∧(kernel s)=(r1.threads,0,0)∧zIH r1.threads=0∧zIr r1.threads r1.threads=0∧over r1.threads=false:=by
 unfold kernel at h ⊢
 split at h
 ·simp at h
 ·rename_i h0
  split at h
  ·simp at h
  ·rename_i h1
   split at h
   ·simp at h
   ·rename_i h2
    split at h
    ·simp at h
    ·rename_i h3
     split at h
     ·simp at h
     ·rename_i h4
      rw[if_neg h0,if_neg h1,if_neg h2,if_neg h3,if_neg h4]
      have hl:(lines s).2=0:=by simpa using h1
      obtain⟨g1,g2,g3⟩:=good_run (zIo 10 s).dropLast 0 Rd.zero good_zero
      have z:Rd.zero.line=0:=rfl
      unfold lines at hl h2 h3 h4 ⊢
      simp only[] at hl h2 h3 h4 ⊢
      cases hq:(zJQ Rd.zero (zIo 10 s).dropLast).2
      ·have:=g3 hq
       simp[hq] at hl
       omega
      ·simp only[hq,if_true] at hl h2 h3 h4 ⊢
       split at hl
       ·simp at hl;omega
       ·rename_i hno
        rw[if_neg hno] at h2 h3 h4 ⊢
        have hn1:(zIo 10 s).getLast?=some []:=Decidable.byContradiction fun c=>hno (Or.inl c)
        have hn2:(zJQ Rd.zero (zIo 10 s).dropLast).1.opn=[]:=Decidable.byContradiction fun c=>hno (Or.inr (Or.inl c))
        exact⟨(zJQ Rd.zero (zIo 10 s).dropLast).1,by omega,by rw[← hq],hn1,hn2,fun c=>hno (Or.inr (Or.inr c)),rfl,by simpa using h2,by simpa using h3,by simpa using h4⟩
theorem kernel_of {xs:List (List UInt8)} {r1:Rd} (h10:∀ x∈xs,(10:UInt8) ∉ x) (hz:(textOf xs).length≤2000) (hr:zJQ Rd.zero xs=(r1,true)) (ho:r1.opn=[]) (ht:r1.threads≠[]) (h1:zIH r1.threads=0) (h2:zIr r1.threads r1.threads=0) (h3:over r1.threads=false):kernel (textOf xs)=(r1.threads,0,0):=by
 have hs:=split_text h10
 have hl:lines (textOf xs)=(r1.threads,0):=by
  unfold lines
  simp only[]
  rw[hs,List.dropLast_concat,hr]
  simp[ho,ht]
 unfold kernel
 rw[if_neg (by omega),hl]
 simp[h1,h2,h3]
theorem kernel_map {R:Stm→Stm→Prop} (hR:StR R) {g:List (List UInt8)→List (List UInt8)} (hg:RowMap R g) (G:List UInt8→List UInt8) {s:List UInt8} (h:(kernel s).2.1=0) (hG:∀ x∈(zIo 10 s).dropLast,zIo 32 (G x)=g (zIo 32 x)) (h10:∀ x∈(zIo 10 s).dropLast,(10:UInt8) ∉ G x) (hz:(textOf ((zIo 10 s).dropLast.map G)).length≤2000) :
  ∃ ts',kernel (textOf ((zIo 10 s).dropLast.map G))=(ts',0,0)∧All2 (ThR R) (kernel s).1 ts':=by
 obtain⟨r1,_,hr,_,ho,ht,hk,h1,h2,h3⟩:=kernel_rows h
 obtain⟨r1',hr',hrr⟩:=runLines_map hR hg G _ hG rfl hr (r':=Rd.zero) ⟨trivial,rfl,rfl,rfl,rfl,rfl⟩
 refine⟨r1'.threads,kernel_of (fun x hx=>?_) hz hr' (by rw[hrr.opn];exact ho) (fun e=>ht ?_) (by rw[innerB_R hR hrr.th];exact h1) (by rw[uneven_R hR hrr.th hrr.th];exact h2) (by rw[over_R hR hrr.th];exact h3),by rw[hk];exact hrr.th⟩
 ·obtain⟨y,hy,rfl⟩:=List.mem_map.1 hx
  exact h10 y hy
 ·have:=all2_len hrr.th
  rw[e] at this
  exact List.eq_nil_of_length_eq_zero this.symm
end P
namespace P
def isSep (c:UInt8):Bool:=c==32||c==10
def sepAt:List UInt8→Bool
 | []=>false
 | c::_=>isSep c
def zKc (a l:List UInt8):Bool:=(l.take a.length==a)&&sepAt (l.drop a.length)
def sw (a b:List UInt8):Nat→Bool→List UInt8→List UInt8
 | _,_,[]=>[]
 | n+1,_,_::r=>sw a b n false r
 | 0,front,x::r=>if front&&zKc a (x::r) then b++sw a b (a.length-1) false r else x::sw a b 0 (isSep x) r
def swapW (a b w:List UInt8):List UInt8:=if w==a then b else w
def free (w:List UInt8):Prop:=∀ c∈w,isSep c=false
theorem sw_tail (a b:List UInt8) (c:UInt8) (r:List UInt8) (hc:isSep c=true):∀ w:List UInt8,free w→sw a b 0 false (w++c::r)=w++c::sw a b 0 true r
 | [],_=>by simp[sw,hc]
 | x::w,h=>by
  have hx:isSep x=false:=h x (by simp)
  have ih:=sw_tail a b c r hc w (fun y hy=>h y (List.mem_cons_of_mem _ hy))
  simp only[List.cons_append,sw,Bool.false_and,Bool.false_eq_true,if_false,hx,ih]
theorem sw_skip (a b:List UInt8):∀ (n:Nat) (l:List UInt8),sw a b n false l=sw a b 0 false (l.drop n)
 | 0,l=>by simp
 | n+1,[]=>by simp[sw]
 | n+1,x::l=>by
  have:=sw_skip a b n l
  simpa [sw] using this
theorem pre_eq {c d:UInt8} (hc:isSep c=true) (hd:isSep d=true):∀ {a w r t:List UInt8},free a→free w→a++d::t=w++c::r→a=w
 | [],[],_,_,_,_,_=>rfl
 | [],x::w,_,_,_,hw,e=>by
  have:=(List.cons.inj e).1
  have h2:=hw x (by simp)
  rw[← this,hd] at h2;cases h2
 | x::a,[],_,_,ha,_,e=>by
  have:=(List.cons.inj e).1
  have h2:=ha x (by simp)
  rw[this,hc] at h2;cases h2
 | x::a,y::w,_,_,ha,hw,e=>by
  have e1:=List.cons.inj e
  rw[e1.1,pre_eq hc hd (fun z hz=>ha z (List.mem_cons_of_mem _ hz)) (fun z hz=>hw z (List.mem_cons_of_mem _ hz)) e1.2]
theorem matchB_of {a l:List UInt8} (h:zKc a l=true):∃ d t,isSep d=true∧l=a++d::t:=by
 unfold zKc at h
 rw[Bool.and_eq_true] at h
 have h1:l.take a.length=a:=by simpa using h.1
 cases hd:l.drop a.length with
 | nil=>rw[hd] at h;simp[sepAt] at h
 | cons d t =>
  rw[hd] at h
  exact⟨d,t,h.2,by conv=>lhs;rw[← List.take_append_drop a.length l,h1,hd]⟩
theorem sw_word {a:List UInt8} (b:List UInt8) (ha:a≠[]) (hf:free a) (c:UInt8) (hc:isSep c=true) (r w:List UInt8) (hw:free w):sw a b 0 true (w++c::r)=swapW a b w++c::sw a b 0 true r:=by
 by_cases e:w=a
 ·subst e
  have h1:swapW w b w=b:=by simp[swapW]
  rw[h1]
  have hm:zKc w (w++c::r)=true:=by
   unfold zKc
   simp[sepAt,hc]
  cases w with
  | nil=>exact absurd rfl ha
  | cons x w =>
   rw[List.cons_append] at hm ⊢
   rw[sw]
   simp only[Bool.true_and,hm,if_true,List.length_cons,Nat.add_sub_cancel]
   rw[sw_skip,List.drop_left]
   simp[sw,hc]
 ·have h1:swapW a b w=w:=by simp[swapW,e]
  rw[h1]
  have hm:zKc a (w++c::r)=false:=by
   cases h:zKc a (w++c::r)
   ·rfl
   ·obtain⟨d,t,hd,he⟩:=matchB_of h
    exact absurd (pre_eq hc hd hf hw he.symm).symm e
  cases w with
  | nil =>
   rw[List.nil_append] at hm ⊢
   rw[sw]
   simp only[Bool.true_and,hm,Bool.false_eq_true,if_false,hc];rfl
  | cons x w =>
   rw[List.cons_append] at hm ⊢
   rw[sw]
   have hx:isSep x=false:=hw x (by simp)
   simp only[Bool.true_and,hm,Bool.false_eq_true,if_false,hx]
   rw[sw_tail a b c r hc w (fun y hy=>hw y (List.mem_cons_of_mem _ hy))]
   rfl
theorem sw_row {a:List UInt8} (b:List UInt8) (ha:a≠[]) (hf:free a) (r:List UInt8):∀ {ws:List (List UInt8)},ws≠[]→(∀ w∈ws,free w)→sw a b 0 true (joinC 32 ws++10::r)=joinC 32 (ws.map (swapW a b))++10::sw a b 0 true r
 | [],h,_=>absurd rfl h
 | [w],_,h=>sw_word b ha hf 10 (by decide) r w (h w (by simp))
 | w::v::ws,_,h=>by
  rw[joinC_cons 32 w _ (by simp),List.append_assoc,List.cons_append,sw_word b ha hf 32 (by decide) _ w (h w (by simp)),sw_row b ha hf r (by simp) (fun x hx=>h x (List.mem_cons_of_mem _ hx))]
  have e:joinC 32 ((w::v::ws).map (swapW a b))=swapW a b w++32::joinC 32 ((v::ws).map (swapW a b)):=joinC_cons 32 _ _ (by simp)
  rw[e]
  simp
def rowSw (a b x:List UInt8):List UInt8:=joinC 32 ((zIo 32 x).map (swapW a b))
theorem free_words {x:List UInt8} (h:(10:UInt8) ∉ x):∀ w∈zIo 32 x,free w:=fun w hw c hc=>by
 unfold isSep
 have h1:c≠32:=fun e=>split_free 32 x w hw (e ▸ hc)
 have h2:c≠10:=fun e=>h (e ▸ split_mem 32 x w hw c hc)
 simp[h1,h2]
theorem sw_line {a:List UInt8} (b:List UInt8) (ha:a≠[]) (hf:free a) {x:List UInt8} (r:List UInt8) (h:(10:UInt8) ∉ x):sw a b 0 true (x++10::r)=rowSw a b x++10::sw a b 0 true r:=by
 have:=sw_row b ha hf r (zJl 32 x) (free_words h)
 rw[join_split] at this
 exact this
theorem sw_text {a:List UInt8} (b:List UInt8) (ha:a≠[]) (hf:free a):∀ {xs:List (List UInt8)},(∀ x∈xs,(10:UInt8) ∉ x)→sw a b 0 true (textOf xs)=textOf (xs.map (rowSw a b))
 | [],_=>rfl
 | x::xs,h=>by
  rw[textOf,sw_line b ha hf _ (h x (by simp)),sw_text b ha hf (fun y hy=>h y (List.mem_cons_of_mem _ hy))];rfl
theorem swapW_free {a b w:List UInt8} (hb:free b) (hw:free w):free (swapW a b w):=by
 unfold swapW;split
 ·exact hb
 ·exact hw
theorem free_32 {w:List UInt8} (h:free w):(32:UInt8) ∉ w∧(10:UInt8) ∉ w:=⟨fun e=>by have:=h 32 e;simp[isSep] at this,fun e=>by have:=h 10 e;simp[isSep] at this⟩
theorem join_free {ws:List (List UInt8)} (h:∀ w∈ws,free w):(10:UInt8) ∉ joinC 32 ws:=fun e=>by
 rcases join_mem 32 e with e | ⟨w,hw,e⟩
 ·exact absurd e (by decide)
 ·exact (free_32 (h w hw)).2 e
theorem split_join_free {ws:List (List UInt8)} (hn:ws≠[]) (h:∀ w∈ws,free w):zIo 32 (joinC 32 ws)=ws:=split_join 32 hn (fun w hw=>(free_32 (h w hw)).1)
end P
end Go.Proofs.YtkmebkbpfmoeaaaGreat
