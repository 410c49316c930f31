import Derived.Test.YtlikcongbhhpfaaGreatDoorM16
import Derived.Test.YtlikcongbhhpfaaGreatDoorM24
set_option linter.unusedVariables false
set_option linter.unusedSimpArgs false
set_option maxHeartbeats 12800000
namespace Go.Proofs.YtlikcongbhhpfaaGreatDoor
open Go Go.RowKit Go.Proofs.Tryz P Q
set_option maxRecDepth 1000000
variable {l p:List UInt8}{st st':JR}{r ws:List (List UInt8)}{G:JR->Prop}{w:World}{B:Nat}{v:Value}{rs:List (List Int)}{vs:List Value}
open List renaming length->C
open Bool renaming true->Y
open Or renaming inr->xF,inl->xR
open List renaming takeWhile_cons->xW,append_inj'->x0,mem_cons_of_mem->x2,drop_eq_getElem_cons->x3,getElem_mem->x5,cons_append->x6,drop_eq_nil_of_le->x8,getElem?_eq_getElem->x9
open Nat renaming le_refl->x1,zero_le->x4
open Bool renaming and_eq_true->x7
namespace P
theorem YG(c:UInt8)(r:List UInt8):∀p:List UInt8,KD c (p++c::r)=KD c p++KD c r
 |[]=>by rw[List.nil_append,qA];rfl
 |x::p=>by
  have ih:=YG c r p;by_cases hx:x=c
  ·subst hx;rw[x6,qA,qA,ih];rfl
  ·cases hs:KD c p with
   |nil=>exact absurd hs (lJ _ _)
   |cons a b =>
    rw[x6,mP c x p hx a b hs,mP c x (p++c::r) hx a (b++KD c r) (by rw[ih,hs];rfl)];rfl
theorem YH(c:UInt8):∀l:List UInt8,c∉l->KD c l=[l]
 |[],_=>Z
 |x::l,h=>by
  exact mP c x l (fun e=>h (by rw[e];simp)) l [] (YH c l fun e=>h (x2 _ e))
def qF(c:UInt8):List (List UInt8)->List UInt8
 |[]=>[]
 |[a]=>a
 |a::b::r=>a++c::qF c (b::r)
theorem YI(c:UInt8)(a:List UInt8)(l:List (List UInt8))(h:l≠[]):qF c (a::l)=a++c::qF c l:=by
 cases l with
 |nil=>exact absurd Z h
 |cons b r=>rfl
theorem yB(c:UInt8):∀l:List UInt8,qF c (KD c l)=l
 |[]=>Z
 |x::l=>by
  have ih:=yB c l;by_cases hx:x=c
  ·subst hx;rw[qA,YI _ _ _ (lJ _ _),ih];rfl
  ·cases hs:KD c l with
   |nil=>exact absurd hs (lJ _ _)
   |cons a b =>
    rw[mP c x l hx a b hs];rw[hs]at ih
    cases b with
    |nil=>simp only[qF]at ih⊢;rw[ih]
    |cons b1 b2=>simp only[qF]at ih⊢;rw[<- ih];rfl
theorem wQ(h:(aS p).2=Y):∃d,p=[114,d]:=by
 match p,h with
 |[],h=>simp[aS]at h
 |[_],h=>simp[aS]at h
 |[c,d],h =>
  simp only[aS]at h
  split at h
  ·rename_i e;exact⟨d,by rw[e]⟩
  ·simp at h
 |_::_::_::_,h=>simp[aS]at h
theorem yA(h:(aO p).2=Y):C p<=2:=by
 match p,h with
 |[],_=>simp
 |[_],_=>simp
 |[_,_],_=>simp
 |a::b::c::r,h =>
  simp only[aO]at h;obtain⟨d,e⟩:=wQ h;simp at e
theorem Np(h:(cX p).2=Y):C p<=2:=by
 unfold cX at h
 split at h
 ·rename_i e;rw[show p=[43]by simpa using e];simp
 ·split at h
  ·rename_i e;rw[show p=[45]by simpa using e];simp
  ·split at h
   ·rename_i e;rw[show p=[61,61]by simpa using e];simp
   ·simp at h
def YJ(o:Int):List UInt8:=if o==0 then[119,101,97,107]else if o==1 then[114,101,108,97,120,101,100]else if o==2 then[97,99,113,117,105,114,101]else if o==3 then[114,101,108,101,97,115,101]else if o==4 then[97,99,113,114,101,108]else[115,99]
theorem Nq{o:List UInt8}(h:(aF o).2=Y):o=YJ (aF o).1/\((aF o).1=0\/(aF o).1=1\/(aF o).1=2\/(aF o).1=3\/(aF o).1=4\/(aF o).1=5):=by
 unfold aF at h⊢
 repeat' split at h
 all_goals first
  |(simp at h;done)
  |(rename_i e;have a:=eq_of_beq e;subst a;decide)
theorem Nr(h:dI st r=(st',Y)):(∃o,r=[o]/\o=YJ 0/\st'={st with q:=0})\/∃o s,r=[o,s]/\(aF o).2=Y/\(scope s).2=Y/\(aF o).1≠0/\st'={st with q:=(aF o).1,scope:=(scope s).1}/\OQ st.k (aF o).1=Y:=by
 cases r with
 |nil=>simp[dI]at h
 |cons o r =>
  simp only[dI]at h
  split at h
  ·rename_i a;simp only[x7]at a
   split at h
   ·rename_i b;simp only[Prod.mk.injEq]at h;have d:r=[]:=by simpa using h.2
    subst d;have c:=(Nq a.1).1;rw[show(aF o).1=0 by simpa using b]at c;exact xR ⟨o,Z,c,h.1.symm⟩
   ·rename_i b
    match r,h with
    |[],h=>simp at h
    |[s],h =>
     simp only[Prod.mk.injEq]at h;exact xF ⟨o,s,Z,a.1,h.2,by simpa using b,h.1.symm,a.2⟩
    |_::_::_,h=>simp at h
  ·simp at h
theorem YK{c:UInt8}{n:Int}(h:(cH c n).2=Y):0<=(cH c n).1/\(cH c n).1<n:=by
 unfold cH at h⊢;simp only[x7,decide_eq_true_eq]at h⊢;omega
theorem Ns(h:(aS p).2=Y):0<=(aS p).1/\(aS p).1<4:=by
 obtain⟨d,rfl⟩:=wQ h;simp only[aS,if_true]at h⊢;exact YK h
theorem tH(h:(aO p).2=Y):OW (aO p).1:=by
 match p,h with
 |[],h=>simp[aO,aS]at h
 |[c],h=>exact YK (n:=4) h
 |a::b::r,h=>exact Ns (p:=a::b::r) h
theorem fI:OW MR.zero:=⟨by decide,by decide⟩
theorem xO(h:dI st r=(st',Y))(a:NZ st):NZ st':=by
 rcases Nr h with⟨o,rfl,b,rfl⟩|⟨o,s,rfl,c,d,e,rfl,f⟩<;>exact a
theorem YL{k:Int}(h:step st k r=(st',Y))(b:NZ st):NZ st':=by
 match r,h with
 |[],h=>simp[step]at h
 |[_],h=>simp[step]at h
 |p::v::r,h =>
  simp only[step]at h
  split at h
  ·rename_i a;simp only[MI]at a h
   split at a
   ·rename_i c;rw[if_pos c]at h;exact xO h ⟨tH a,b.2⟩
   ·simp at a
  ·simp at h
theorem Nt(h:sum st r=(st',Y))(d:NZ st):NZ st':=by
 match r,h with
 |[],h=>simp[sum]at h
 |[a],h =>
  simp only[sum]at h
  split at h
  ·rename_i c;simp only[Prod.mk.injEq]at h;rw[<- h.1];exact⟨tH c,d.2⟩
  ·simp at h
 |[_,_],h=>simp[sum]at h
 |[a,s,b],h =>
  simp only[sum]at h
  split at h
  ·rename_i c
   split at h
   ·simp only[Prod.mk.injEq]at h;rw[<- h.1];exact⟨tH c,tH h.2⟩
   ·simp at h
  ·simp at h
 |_::_::_::_::_,h=>simp[sum]at h
theorem Nu(h:cI ws=(st,Y)):NZ st:=by
 have g:NZ JR.zero:=⟨fI,fI⟩
 cases ws with
 |nil=>simp[cI]at h
 |cons c r =>
  simp only[cI]at h
  split at h
  ·match r,h with
   |[],h=>simp[store]at h
   |[_],h=>simp[store]at h
   |p::v::r,h =>
    simp only[store]at h
    split at h
    ·rename_i b;simp only[MI]at b h
     split at b
     ·rename_i f;rw[if_pos f]at h;exact xO h ⟨tH b,fI⟩
     ·simp at b
    ·simp at h
  ·split at h
   ·simp only[fence]at h;exact xO h ⟨fI,fI⟩
   ·split at h
    ·simp only[Prod.mk.injEq]at h;rw[<- h.1];exact⟨fI,fI⟩
    ·split at h
     ·match r,h with
      |[],h=>simp[kN]at h
      |[a],h =>
       simp only[kN,Prod.mk.injEq]at h;rw[<- h.1];exact⟨tH h.2,fI⟩
      |_::_::_,h=>simp[kN]at h
     ·split at h
      ·simp only[Prod.mk.injEq]at h;rw[<- h.1];exact⟨fI,fI⟩
      ·match r,h with
       |[],h=>simp[eG]at h
       |[_],h=>simp[eG]at h
       |e::d::r,h =>
        simp only[eG]at h
        split at h
        ·split at h
         ·split at h
          ·cases r with
           |nil=>simp[load]at h
           |cons v r =>
            simp only[load]at h
            split at h
            ·exact xO h ⟨fI,fI⟩
            ·simp at h
          ·split at h
           ·exact YL h ⟨fI,fI⟩
           ·split at h
            ·exact YL h ⟨fI,fI⟩
            ·exact Nt h ⟨fI,fI⟩
         ·simp at h
        ·simp at h
theorem YM{r b:Rd}(h:MD r ws=(b,Y)):(∃t,t.S=[]/\t.i=r.i/\b.H=r.H++[t]/\b.count=0/\r.O=[]/\b.O=[])\/∃st l lb,cI ws=(st,Y)/\r.H≠[]/\b.H=eR r.H {st with i:=l,label:=lb}/\(st.k=11/\b.count=r.count/\C b.O+1=C r.O\/r.count<8/\b.count=r.count+1/\st.k≠11/\(C b.O:Int)=C r.O+if st.k==10 then 1 else 0):=by
 unfold MD at h
 split at h
 ·refine xR ?_;unfold eW at h
  split at h
  ·simp at h
  ·rename_i o;have n:r.O=[]:=List.eq_nil_of_length_eq_zero (by omega)
   split at h
   ·split at h
    ·simp only[Prod.mk.injEq]at h;exact⟨⟨_,r.i,[]⟩,Z,Z,by rw[<- h.1],by rw[<- h.1],n,by rw[<- h.1];exact n⟩
    ·simp at h
   ·simp at h
 ·split at h
  ·simp at h
  ·rename_i m;have d:r.H≠[]:=by simpa using m
   refine xF ?_;simp only[]at h
   split at h
   ·rename_i q;have j:cI ws=((cI ws).1,Y):=by rw[<- q]
    split at h
    ·rename_i a;unfold ends at h
     split at h
     ·simp at h
     ·rename_i u f;simp only[Prod.mk.injEq]at h;have g:r.O≠[]:=by intro e;rw[e]at f;simp at f
      refine⟨(cI ws).1,r.i,_,j,d,by rw[<- h.1];rfl,xR ⟨by simpa using a,by rw[<- h.1];rfl,?_⟩⟩;rw[<- h.1];show C r.O.dropLast+1=C r.O;have:=List.length_pos_iff.2 g;rw[List.length_dropLast];omega
    ·rename_i a
     split at h
     ·simp at h
     ·rename_i s
      split at h
      ·rename_i c
       split at h
       ·simp at h
       ·unfold gI at h
        split at h
        ·simp at h
        ·simp only[Prod.mk.injEq]at h;exact⟨(cI ws).1,r.i,r.I+1,j,d,by rw[<- h.1];rfl,xF ⟨by omega,by rw[<- h.1];rfl,by simpa using a,by rw[<- h.1,if_pos c];simp[put]⟩⟩
      ·rename_i c;simp only[Prod.mk.injEq]at h;exact⟨(cI ws).1,r.i,(cI ws).1.label,j,d,by rw[<- h.1];rfl,xF ⟨by omega,by rw[<- h.1];rfl,by simpa using a,by rw[<- h.1,if_neg c];simp[put]⟩⟩
   ·simp at h
def yQ(G:JR->Prop)(ts:List JV):Prop:=∀t∈ts,∀s∈t.S,G s
theorem YN{G:JR->Prop}{s:JR}(f:G s):∀{e:List JV},yQ G e->yQ G (eR e s)
 |[],h=>h
 |[t],h=>fun u d x c=>by
  simp[eR]at d;subst d
  rcases List.mem_append.1 c with c|c
  ·exact h t (by simp) x c
  ·simp at c;rw[c];exact f
 |a::b::e,h=>fun u d x c=>by
  rw[eR]at d
  rcases List.mem_cons.1 d with rfl|d
  ·exact h u (by simp) x c
  ·exact YN f (fun v g=>h v (x2 _ g)) u d x c
theorem YO{G:JR->Prop}(k:∀st l n,G st->G {st with i:=l,label:=n})(m:∀ws st,cI ws=(st,Y)->G st):∀(j:List (List UInt8)) (r c:Rd),LZ r j=(c,Y)->yQ G r.H->yQ G c.H
 |[],r,c,h,hr=>by simp[LZ]at h;rw[<- h];exact hr
 |x::j,r,c,h,hr=>by
  simp only[LZ]at h
  split at h
  ·rename_i q;have e:MD {r with i:=r.i+1} (KD 32 x)=((MD {r with i:=r.i+1} (KD 32 x)).1,Y):=by rw[<- q]
   refine YO k m j _ c h ?_
   rcases YM e with⟨t,f,_,a,_⟩|⟨st,l,n,d,o,a,_⟩
   ·rw[a];intro u b x g
    rcases List.mem_append.1 b with b|b
    ·exact hr u b x g
    ·simp at b;rw[b,f]at g;simp at g
   ·rw[a];exact YN (k _ _ _ (m _ _ d)) hr
  ·simp at h
end P
namespace Q
theorem GD:∀{a b c:List Int},bP a b<0->bP b c<0->bP a c<0
 |[],[],c,h,k=>by simp[bP]at h
 |[],b::bs,[],h,k=>by simp[bP]at k
 |[],b::bs,c::cs,h,k=>by simp[bP]
 |a::x,[],c,h,k=>by simp[bP]at h
 |a::x,b::bs,[],h,k=>by simp[bP]at k
 |a::x,b::bs,c::cs,h,k=>by
  simp only[bP]at h k⊢;by_cases h1:a=b
  ·subst h1;by_cases h2:a=c
   ·subst h2;simp at h k⊢;exact GD h k
   ·simp[h2]at k⊢;exact k
  ·by_cases h2:b=c
   ·subst h2;simp[h1]at h⊢;exact h
   ·simp[h1,h2]at h k;have d:a≠c:=by omega
    simp[d];omega
theorem YP:∀{a b:List Int},bP a b=0->a=b
 |[],[],_=>Z
 |[],b::bs,h=>by simp[bP]at h;omega
 |a::x,[],h=>by simp[bP]at h
 |a::x,b::bs,h=>by
  simp only[bP]at h;by_cases h1:a=b
  ·subst h1;simp at h;rw[YP h]
  ·simp[h1]at h;omega
theorem YQ:∀(a:List Int),bP a a=0
 |[]=>Z
 |a::x=>by simp[bP,YQ x]
theorem YR:∀{a b:List Int},0<bP a b->bP b a<0
 |[],[],h=>by simp[bP]at h
 |[],b::bs,h=>by simp[bP]at h;omega
 |a::x,[],h=>by simp[bP]
 |a::x,b::bs,h=>by
  simp only[bP]at h⊢;by_cases h1:a=b
  ·subst h1;simp at h⊢;exact YR h
  ·have c:b≠a:=fun e=>h1 e.symm
   simp[h1]at h;simp[c];omega
def OX(l:List (List Int)):Prop:=l.Pairwise fun a b=>bP a b<0
def aK(l:List (List Int))(r:List Int):Nat:=(l.takeWhile fun x=>decide (bP x r<0)).length
theorem YS(l:List (List Int))(r:List Int):aK l r<=C l:=by
 induction l with
 |nil=>simp[aK]
 |cons x q ih =>
  unfold aK at*;rw[xW]
  split
  ·simp;omega
  ·simp
theorem YT{r:List Int}:∀{l:List (List Int)} {p:Nat},p<=C l->(∀i (h:i<C l),i<p->bP l[i] r<0)->(∀h:p<C l,¬bP l[p] r<0)->aK l r=p
 |[],p,h,_,_=>by simp at h;subst h;rfl
 |x::q,0,h,h1,h2=>by
  have:=h2 (by simp);simp at this;unfold aK;rw[xW,decide_eq_false (by omega)];rfl
 |x::q,p+1,h,h1,h2=>by
  have b:=h1 0 (by simp) (by omega);simp at b;have ih:aK q r=p:=YT (by simpa using h) (fun i c a=>by have:=h1 (i+1) (by simpa using c) (by omega);simpa using this) (fun a=>by have:=h2 (by simpa using a);simpa using this);unfold aK at*;rw[xW,decide_eq_true b];simp[ih]
theorem YU{r:List Int}:∀(l:List (List Int)),dZ l r=if h:aK l r<C l then if bP l[aK l r] r=0 then l else l.take (aK l r)++r::l.drop (aK l r)else l++[r]
 |[]=>Z
 |x::q=>by
  by_cases hx:bP x r<0
  ·have e:aK (x::q) r=aK q r+1:=by unfold aK;rw[xW,decide_eq_true hx];rfl
   rw[dZ,if_pos hx,YU (r:=r) q];by_cases hl:aK q r<C q
   ·have a:aK (x::q) r<(x::q).length:=by simp;omega
    rw[dif_pos hl,dif_pos a];simp only[e,List.getElem_cons_succ]
    split
    ·rfl
    ·simp
   ·have a:¬aK (x::q) r<(x::q).length:=by simp;omega
    rw[dif_neg hl,dif_neg a];rfl
  ·have e:aK (x::q) r=0:=by unfold aK;rw[xW,decide_eq_false hx];rfl
   have a:aK (x::q) r<(x::q).length:=by simp;omega
   rw[dZ,if_neg hx,dif_pos a];simp only[e,List.getElem_cons_zero];by_cases h0:bP x r=0
   ·simp[h0]
   ·simp[h0]
theorem GJ{r y:List Int}:∀{l:List (List Int)},y∈dZ l r->y=r\/y∈l
 |[],h=>by simp[dZ]at h;exact xR h
 |x::q,h=>by
  rw[dZ]at h
  split at h
  ·rcases List.mem_cons.1 h with rfl|h
   ·exact xF (by simp)
   ·rcases GJ h with h|h
    ·exact xR h
    ·exact xF (by simp[h])
  ·split at h
   ·exact xF h
   ·rcases List.mem_cons.1 h with rfl|h
    ·exact xR Z
    ·exact xF h
theorem BH{r:List Int}:∀{l:List (List Int)},OX l->OX (dZ l r)
 |[],_=>by simp[dZ,OX]
 |x::q,h=>by
  have e:=(List.pairwise_cons.1 h).1;rw[dZ]
  split
  ·rename_i c;refine List.pairwise_cons.2 ⟨fun y a=>?_,BH ((List.pairwise_cons.1 h).2)⟩
   rcases GJ a with rfl|a
   ·exact c
   ·exact e y a
  ·rename_i f
   split
   ·exact h
   ·rename_i d;have g:¬bP x r=0:=by simpa using d
    have b:bP r x<0:=YR (by omega);refine List.pairwise_cons.2 ⟨fun y a=>?_,h⟩
    rcases List.mem_cons.1 a with rfl|a
    ·exact b
    ·exact GD b (e y a)
theorem YV{l:List (List Int)}(h:OX l)(r:List Int)(i m:Nat)(d:m<C l)(b:i<C l)(c:i<=m)(a:bP l[m] r<0):bP l[i] r<0:=by
 by_cases e:i=m
 ·subst e;exact a
 ·exact GD (List.pairwise_iff_getElem.1 h i m b d (by omega)) a
theorem Nv{l:List (List Int)}(h:OX l)(r:List Int)(i m:Nat)(e:m<C l)(d:i<C l)(a:m<=i)(c:¬bP l[m] r<0):¬bP l[i] r<0 :=
 fun b=>c (YV h r m i d e a b)
end Q
namespace P
def nE(s:JR):Bool:=s.k != 11
def iE(s:JR):Bool:=s.k==11
def iB(s:JR):Bool:=s.k==10
theorem YW{b:List JV}(h:b≠[])(s:JR):∃a t,b=a++[t]/\eR b s=a++[{t with S:=t.S++[s]}]:=by
 rcases List.eq_nil_or_concat b with c|⟨a,t,rfl⟩
 ·exact absurd c h
 ·rw[List.concat_eq_append];exact⟨a,t,Z,wG a t s⟩
structure Cn(r:Rd):Prop where
 le:∀t∈r.H,JU nE t.S<=8
 last:∀a t,r.H=a++[t]->JU nE t.S<=r.count
 ln:∀t∈r.H,0<t.i
 lin:0<=r.i
 en:∀t∈r.H,JU iE t.S<=JU iB t.S
 op:∀a t,r.H=a++[t]->JU iE t.S+C r.O=JU iB t.S
theorem Nw(q:Rd)(x:List (List UInt8)):(MD q x).1.i=q.i:=by
 unfold MD
 split
 ·unfold eW
  split
  ·rfl
  ·split
   ·split<;>rfl
   ·rfl
 ·split
  ·rfl
  ·simp only[]
   split
   ·split
    ·unfold ends;split<;>rfl
    ·split
     ·rfl
     ·split
      ·split
       ·rfl
       ·unfold gI;split<;>rfl
      ·rfl
   ·rfl
theorem YX:∀(F:List (List UInt8)) (r q:Rd),LZ r F=(q,Y)->Cn r->Cn q
 |[],r,q,h,hr=>by simp[LZ]at h;rw[<- h];exact hr
 |x::F,r,q,h,hr=>by
  simp only[LZ]at h
  split at h
  ·rename_i W;have e:MD {r with i:=r.i+1} (KD 32 x)=((MD {r with i:=r.i+1} (KD 32 x)).1,Y):=by rw[<- W]
   refine YX F _ q h ?_;have K:0<=(MD {r with i:=r.i+1} (KD 32 x)).1.i:=by rw[Nw];show 0<=r.i+1;have:=hr.lin;omega
   rcases YM e with⟨t,m,E,d,s,_,D⟩|⟨st,l,o,V,A,d,s⟩
   ·refine⟨fun u c=>?_,fun a u c=>?_,fun u c=>?_,K,fun u c=>?_,fun b u c=>?_⟩
    ·rw[d]at c
     rcases List.mem_append.1 c with c|c
     ·exact hr.le u c
     ·simp at c;rw[c,m];simp[JU]
    ·rw[d]at c;have:=(x0 c Z).2;simp at this;rw[<- this,m,s];simp[JU]
    ·rw[d]at c
     rcases List.mem_append.1 c with c|c
     ·exact hr.ln u c
     ·simp at c;rw[c,E];show 0<r.i+1;have:=hr.lin;omega
    ·rw[d]at c
     rcases List.mem_append.1 c with c|c
     ·exact hr.en u c
     ·simp at c;rw[c,m];simp[JU]
    ·rw[d]at c;have:=(x0 c Z).2;simp at this;rw[<- this,m,D];simp[JU]
   ·obtain⟨a,t,L,M⟩:=YW A {st with i:=l,label:=o};have f:r.H=a++[t]:=L;rw[M]at d;have N:=hr.le t (by rw[f];simp);have T:=hr.last a t f;have J:JU nE (t.S++[{st with i:=l,label:=o}])<=8/\JU nE (t.S++[{st with i:=l,label:=o}])<=(MD {r with i:=r.i+1} (KD 32 x)).1.count:=by
     rw[mK]
     rcases s with⟨g,j,_⟩|⟨g,j,_,_⟩
     ·rw[j];simp only[JU,nE,g];exact⟨by simpa using N,by simpa using T⟩
     ·rw[j];simp only[JU];have I:r.count<8:=g;show _<=(8:Int)/\_<=r.count+1
      split<;>omega
    have U:=hr.op a t f;have z:JU iE (t.S++[{st with i:=l,label:=o}])+((MD {r with i:=r.i+1} (KD 32 x)).1.O.length:Int)=JU iB (t.S++[{st with i:=l,label:=o}]):=by
     rw[mK,mK]
     rcases s with⟨g,_,j⟩|⟨_,_,g,j⟩
     ·have n:((MD {r with i:=r.i+1} (KD 32 x)).1.O.length:Int)+1=C r.O:=by exact_mod_cast j
      simp only[JU,iE,iB,g];simp;omega
     ·have n:((MD {r with i:=r.i+1} (KD 32 x)).1.O.length:Int)=C r.O+if st.k==10 then 1 else 0:=j
      rw[n];have y:(st.k==11)=false:=by simpa using g
      simp only[JU,iE,iB,y];by_cases h10:st.k=10
      ·simp[h10];omega
      ·simp[h10];omega
    refine⟨fun u c=>?_,fun b u c=>?_,fun u c=>?_,K,fun u c=>?_,fun b u c=>?_⟩
    ·rw[d]at c
     rcases List.mem_append.1 c with c|c
     ·exact hr.le u (by rw[f];simp[c])
     ·simp at c;rw[c];exact J.1
    ·rw[d]at c;have:=(x0 c Z).2;simp at this;rw[<- this];exact J.2
    ·rw[d]at c
     rcases List.mem_append.1 c with c|c
     ·exact hr.ln u (by rw[f];simp[c])
     ·simp at c;rw[c];exact hr.ln t (by rw[f];simp)
    ·rw[d]at c
     rcases List.mem_append.1 c with c|c
     ·exact hr.en u (by rw[f];simp[c])
     ·simp at c;rw[c];show JU iE (t.S++_)<=JU iB (t.S++_);omega
    ·rw[d]at c;have:=(x0 c Z).2;simp at this;rw[<- this];exact z
  ·simp at h
theorem EU(h:(KM l).2.1=0):(KM l).1=(aT l).1/\(KM l).2.2=0/\C l<=2000/\(aT l).2=0/\fV (aT l).1=0/\dN (aT l).1 (aT l).1=0/\hZ (aT l).1=false:=by
 unfold KM at h⊢;by_cases h1:2000<C l
 ·rw[if_pos h1]at h;simp at h
 rw[if_neg h1]at h⊢;by_cases h2:((aT l).2 != 0)=Y
 ·rw[if_pos h2]at h;simp at h
 rw[if_neg h2]at h⊢;by_cases h3:(fV (aT l).1 != 0)=Y
 ·rw[if_pos h3]at h;simp at h
 rw[if_neg h3]at h⊢;by_cases h4:(dN (aT l).1 (aT l).1 != 0)=Y
 ·rw[if_pos h4]at h;simp at h
 rw[if_neg h4]at h⊢;by_cases h5:hZ (aT l).1=Y
 ·rw[if_pos h5]at h;simp at h
 rw[if_neg h5]at h⊢;exact⟨Z,Z,by omega,by simpa using h2,by simpa using h3,by simpa using h4,by simpa using h5⟩
theorem Nx(h:(aT l).2=0):LZ Rd.zero (KD 10 l).dropLast=((LZ Rd.zero (KD 10 l).dropLast).1,Y)/\(aT l).1=(LZ Rd.zero (KD 10 l).dropLast).1.H/\(KD 10 l).getLast?=some []/\(LZ Rd.zero (KD 10 l).dropLast).1.O=[]/\(LZ Rd.zero (KD 10 l).dropLast).1.H≠[]:=by
 obtain⟨c,d,b⟩:=IG (KD 10 l).dropLast 0 Rd.zero BE;have z:Rd.zero.i=0:=Z;unfold aT at h⊢;simp only[]at h⊢
 cases hq:(LZ Rd.zero (KD 10 l).dropLast).2
 ·have:=b hq;simp[hq]at h;omega
 ·simp only[hq,if_true]at h⊢
  split at h
  ·simp at h;omega
  ·rename_i a;rw[if_neg a];simp only[not_or,Decidable.not_not]at a;exact⟨by rw[<- hq],Z,a.1,a.2.1,a.2.2⟩
theorem QO(all:List JV):∀(l:List JV),(∀u∈l,0<u.i)->dN all l=0->∀t∈l,LF t.S=NQ t.block all/\LF t.S<=2
 |[],_,_,t,a=>by simp at a
 |u::l,hl,h,t,a=>by
  simp only[dN]at h
  split at h
  ·have:=hl u (by simp);omega
  ·rename_i b
   rcases List.mem_cons.1 a with rfl|a
   ·simp at b;exact⟨b.1,by omega⟩
   ·exact QO all l (fun u c=>hl u (x2 _ c)) h t a
theorem tL{p q:JR->Bool}(h:∀s,p s=Y->q s=Y):∀l,JU p l<=JU q l
 |[]=>by simp[JU]
 |s::l=>by
  have:=tL h l;simp only[JU];by_cases hp:p s=Y
  ·rw[if_pos hp,if_pos (h s hp)];omega
  ·rw[if_neg hp];split<;>omega
theorem CG:∀l:List JR,(C l:Int)=JU nE l+JU iE l
 |[]=>by simp[JU]
 |s::l=>by
  have:=CG l;simp only[JU,nE,iE,List.length_cons];by_cases h:s.k=11
  ·simp[h];omega
  ·simp[h];omega
structure KerIs(ts:List JV):Prop where
 ne:ts≠[]
 few:C ts<=4
 len:∀t∈ts,C t.S<=16
 ok:∀t∈ts,∀s∈t.S,NZ s
 le:∀t∈ts,JU nE t.S<=8
 br:∀t∈ts,LF t.S<=2
 rd:KQ LM ts<=4
 wr:KQ MN ts<=3
 sc:KQ MO ts<=3
theorem QK(h:(KM l).2.1=0):KerIs (KM l).1:=by
 obtain⟨j,z,A,f,D,k,m⟩:=EU h;obtain⟨g,c,H,I,J⟩:=Nx f;obtain⟨n,o,F⟩:=qW l f;have a:Cn (LZ Rd.zero (KD 10 l).dropLast).1:=YX _ _ _ g ⟨by simp[Rd.zero],by simp[Rd.zero],by simp[Rd.zero],by simp[Rd.zero],by simp[Rd.zero],by simp[Rd.zero]⟩;have d:=YO (G:=NZ) (fun st l E h=>h) (fun ws st h=>Nu h) _ _ _ g (fun t b=>by simp[Rd.zero]at b);have i:=QO (aT l).1 (aT l).1 (by rw[c];exact a.ln) k;simp only[hZ,Bool.or_eq_false_iff,decide_eq_false_iff_not]at m;rw[j];exact⟨n,o,fun t b=>by
  rw[c]at b;have q:=a.en t b;have u:=a.le t b;have x:=CG t.S;have y:JU iB t.S<=JU nE t.S:=tL fun s e=>by simp only[iB,nE]at *;rw[beq_iff_eq]at e;rw[e];decide _;omega,by rw[c];exact d,by rw[c];exact a.le,fun t b=>(i t b).2,by omega,by omega,by omega⟩
end P
namespace Q
theorem Ny(a b:List Int)(k:Nat)(c:k<C a)(d:k<C b):bP (a.drop k) (b.drop k)=if a.getD k 0 != b.getD k 0 then a.getD k 0-b.getD k 0 else bP (a.drop (k+1)) (b.drop (k+1)):=by
 rw[x3 c,x3 d,eI a k c,eI b k d];rfl
theorem Nz(a b:List Int)(k:Nat)(c:k<C a)(d:C b<=k):bP (a.drop k) (b.drop k)=1:=by
 rw[x3 c,x8 d];rfl
theorem N2(a b:List Int)(c:C a<=C b):bP (a.drop (C a)) (b.drop (C a))=(C a:Int)-C b:=by
 rw[x8 (x1 _)];simp[bP];omega
def NY(l:List Int):Prop:=∀x∈l,0<=x/\x<4
end Q
theorem xX(N O:Value)(a b:List Int)(w:World)(S:ME w N a)(T:ME w O b)(D:Q.NY a)(E:Q.NY b)(W:C a<1000)(X:C b<1000):
  Calls prog 126 #[N,O] w fun e w'=>e=.returned (.int .i64 (bP a b))/\Below w.heap.size w w':=by
 obtain⟨xa,ca,rfl,H⟩:=S.form;obtain⟨xb,cb,rfl,I⟩:=T.form;have m:=JO D;have n:=JO E;go_enter func126,ntmps126;go_wp2;go_loopw[8] (fun j wr=>∃k:Nat,k<=C a/\k<=C b/\j=.int .i64 k/\JP (bP a b=bP (a.drop k) (b.drop k))/\Below w.heap.size w wr) fun j _=>C a-(intOf j).toNat
 case atStart=>exact⟨0,x4 _,x4 _,Z,Z,Below.refl _ _⟩
 case round =>
  obtain⟨k,hk,z,rfl,f,c⟩:=hrel;by_cases hlt:k<C a
  ·have V:(k:Int)<(C a:Int):=by omega
   by_cases hb2:C b<=k
   ·have U:(C b:Int)<=(k:Int):=by omega
    have g:JP (bP a b=1):=by unfold JP;rw[f.o,Nz a b k hlt hb2]
    go_wp2;go_ret;rw[g.o];exact⟨Z,c⟩
   ·have d:k<C b:=by omega
    have M:(k:Int)<(C b:Int):=by omega
    obtain⟨K,rfl,t,q⟩:=H (by omega);obtain⟨L,rfl,u,s⟩:=I (by omega);have d1:wr.cell? ⟨K,k,none⟩=some (.int .i64 (a.getD k 0)):=by rw[eI a k hlt];exact(c.cell (p:=⟨K,k,none⟩) t).trans (q k hlt)
    have d2:wr.cell? ⟨L,k,none⟩=some (.int .i64 (b.getD k 0)):=by rw[eI b k d];exact(c.cell (p:=⟨L,k,none⟩) u).trans (s k d)
    have J:=JO (Ny a b k hlt d);have s1:0<=a.getD k 0/\a.getD k 0<4:=by rw[eI a k hlt];exact m.o _ (x5 hlt)
    have s2:0<=b.getD k 0/\b.getD k 0<4:=by rw[eI b k d];exact n.o _ (x5 d)
    generalize a.getD k 0=x at*;generalize b.getD k 0=y at*
    cases hz:x != y
    ·have i:JP (bP a b=bP (a.drop (k+1)) (b.drop (k+1))):=by unfold JP;rw[f.o,J.o,hz];rfl
     go_wp2;go_quiet (fail)
     all_goals
      go_wp2;go_roundw
      case rel=>exact⟨k+1,by omega,by omega,by go_num,i,c.trans (dO _ _ _)⟩
      case measure=>simp[intOf];omega
    ·have i:JP (bP a b=x-y):=by unfold JP;rw[f.o,J.o,hz];rfl
     have F:IntKind.i64.wrap (x-y)=x-y:=IntWalk.i64_in _ ⟨by omega,by omega⟩;go_wp2;go_quiet (fail)
     all_goals
      go_wp2;go_quiet (fail)
      all_goals
       go_wp2;go_ret;rw[i.o];exact⟨by first|rfl|rw[F],(c.trans (dO _ _ _)).trans (dO _ _ _)⟩
  ·have A:k=C a:=by omega
   subst A;have g:JP (bP a b=(C a:Int)-C b):=by unfold JP;rw[f.o,N2 a b z]
   have F:IntKind.i64.wrap ((C a:Int)-C b)=(C a:Int)-C b:=IntWalk.i64_in _ ⟨by omega,by omega⟩;go_wp2;go_ret;rw[g.o];exact⟨by first|rfl|rw[F],c⟩
structure LA(w:World)(B:Nat)(v:Value)(rs:List (List Int))(vs:List Value):Prop where
 ow:w.ownsRow B 31 1 v (C rs) vs
 len:C vs=C rs
 y:∀i (h:i<C rs) (u:Value),vs[i]?=some u->ME w u rs[i]
theorem LA.X{b:World}(h:LA w B v rs vs)(a:Below w.heap.size w b):LA b B v rs vs :=
 ⟨aU h.ow fun k e=>a.block k (h.ow.lt k e).2,h.len,fun i c u d=>(h.y i c u d).X a⟩
theorem LA.form(h:LA w B v rs vs):∃a c,v=.slice a (C rs) c/\(0<C rs->∃b,a=some ⟨b,0,none⟩/\B<=b/\b<w.heap.size/\∀i (f:i<C vs),w.cell? ⟨b,i,none⟩=some vs[i]):=by
 rcases h.ow.2 with⟨e,j⟩|⟨k,c,g,e,m,_⟩
 ·exact⟨none,0,by rw[e,j],fun h=>by omega⟩
 ·refine⟨_,c,e,fun _=>⟨k,Z,m,(h.ow.lt k (by rw[e];rfl)).2,fun i f=>?_⟩⟩;have d:=h.ow;rw[e]at d;rw[d.cellAt i (by have:=h.len;omega),x9 f]
theorem YY(B g:Nat)(v vr:Value)(rs:List (List Int))(vs:List Value)(r:List Int)(w:World)(F:w.cell? ⟨g,0,none⟩=some v)(hg:g<w.heap.size)(h:LA w B v rs vs)(hr:ME w vr r)(S:OX rs)(hs:∀x∈rs,Q.NY x/\C x<1000)(T:Q.NY r/\C r<1000)(hn:C rs<100000000):
  Calls prog 125 #[.pointer (some ⟨g,0,none⟩),vr] w fun e w'=>e=.returned (.int .i64 (aK rs r:Int))/\Below w.heap.size w w':=by
 obtain⟨xa,ca,rfl,U⟩:=h.form;obtain⟨ra,rc,rfl,_⟩:=hr.form;have H:=JO h;have HR:=JO hr;have t:=JO S;have HS:=JO hs;have m:=JO T;go_enter func125,ntmps125;go_wp2;go_loopw[5,6] (fun a b wr=>∃f j:Nat,f<=j/\j<=C rs/\a=.int .i64 f/\b=.int .i64 j/\JP (∀i (h:i<C rs),i<f->bP rs[i] r<0)/\JP (∀i (h:i<C rs),j<=i->0<=bP rs[i] r)/\Below w.heap.size w wr) fun a b _=>(intOf b).toNat-(intOf a).toNat
 case atStart=>exact⟨0,C rs,x4 _,x1 _,Z,Z,fun i h h2=>by omega,fun i h h2=>by omega,Below.refl _ _⟩
 case round =>
  obtain⟨f,j,ad,N,rfl,rfl,W,V,d⟩:=hrel;have d0:=JS d hg F;by_cases hlt:f<j
  ·have ac:(f:Int)<(j:Int):=by omega
   obtain⟨c,O⟩:∃c:Nat,c=f+(j-f)/2:=⟨_,Z⟩;have ae:f<=c:=by omega
   have af:c<j:=by omega
   have ag:(f:Int)+((j:Int)-(f:Int))/2=(c:Int):=by omega
   have k:c<C rs:=by omega
   have aa:(c:Int)<(C rs:Int):=by omega
   obtain⟨b,rfl,ab,hb,M⟩:=U (by omega);have E:c<C vs:=by rw[H.o.len];exact k
   have cm:wr.cell? ⟨b,c,none⟩=some vs[c]:=(d.cell (p:=⟨b,c,none⟩) hb).trans (M c E);have z:=JO ((H.o.y c k vs[c] (x9 E)).X d);have n:=HS.o rs[c] (x5 k);have A:=JO (HR.o.X d);have L:JP (bP rs[c] r<0->∀i (h:i<C rs),i<c+1->bP rs[i] r<0):=fun F i s D=>YV t.o r i c k s (by omega) F
   have I:JP (0<=bP rs[c] r->∀i (h:i<C rs),c<=i->0<=bP rs[i] r):=fun F i s D=>by have:=Nv t.o r i c k s D (by omega);omega
   generalize vs[c]=u at*;generalize rs[c]=y at*;clear O;by_cases hz:bP y r<0
   ·have K:=JO (L.o hz);go_wp2_with(first|(go_at_call 126;refine(xX _ _ y r _ z.o A.o n.1 m.o.1 n.2 m.o.2).mono ?_;rintro e w1 ⟨rfl,q⟩));go_roundw
    case rel=>exact⟨c+1,j,by omega,N,by go_num,Z,K,V,JW d (x1 _) q⟩
    case measure=>simp[intOf];omega
   ·have J:=JO (I.o (by omega));go_wp2_with(first|(go_at_call 126;refine(xX _ _ y r _ z.o A.o n.1 m.o.1 n.2 m.o.2).mono ?_;rintro e w1 ⟨rfl,q⟩));go_roundw
    case rel=>exact⟨f,c,by omega,by omega,Z,by first|rfl|go_num,W,J,JW d (x1 _) q⟩
    case measure=>simp[intOf];omega
  ·obtain rfl:f=j:=by omega
   have HE:JP (aK rs r=f):=YT (by omega) W.o (fun h=>by have:=V.o f h (by omega);omega);go_wp2;go_ret;rw[HE.o];exact⟨Z,d⟩
end Go.Proofs.YtlikcongbhhpfaaGreatDoor
