import Derived.Test.YteekngiepnnmjaaGreatDoorV07
import Derived.Test.YteekngiepnnmjaaGreatDoorV03
set_option linter.all false
set_option maxHeartbeats 0
namespace Go.Proofs.YteekngiepnnmjaaGreatDoor
open Go Go.RowKit Go.Proofs.Tryz P Q
open scoped Classical
set_option maxRecDepth 1000000
open _root_ renaming List->K,List->σ,Int->z,Int->ν,Nat->W,Nat->φ,decide_eq_false->ρ,decide_eq_true->γ
open Go renaming Value->T,Value->ι,World->ψ,heap_alloc_new->τ,Calls->η,madeCells->δ,wpList_append_lies->ε,info_parts->θ
open Go.RowKit renaming Below->ω,intOf->ξ
open Go.Proofs.Tryz renaming underlying37->π,prog->ζ
variable {l o p r y:σ ν}{w w' w1:ψ}{B b cap g i n sz:φ}{ov u v:ι}{A rs:σ (σ ν)}{us vs xs:σ ι}{m:ν}{t:TypeId}{D':φ->Prop}
open List renaming length->S
open _root_.Array renaming size->J
open Go.World renaming heap->V
open Option renaming none->Y,some->C
open Go.IntKind renaming i64->O
open Go.Value renaming slice->I,int->U,bool->L
open Go.Obj renaming cells->G
open Go.Ending renaming returned->N
open Bool renaming false->M
open Go.Value renaming ownBlock->xF,int->xW,slice->xh,oneCell'->y9
open List renaming range->xR,getElem_mem->xk,getElem?_eq_getElem->xo,replicate->xp,mem_of_getElem?->xq,takeWhile_cons->xr,drop_eq_getElem_cons->xt,range_succ->xu,drop_eq_nil_of_le->xv,length_set->xw,getElem?_append_left->xz,getElem?_append_right->y0,map_append->y1,take_of_length_le->y4,mem_cons_of_mem->y7
open Nat renaming lt_of_lt_of_le->xc,le_refl->xd,zero_le->xe,add_sub_cancel->xy
open Or renaming inr->xg,inl->xj
open Go.RowKit.Below renaming refl->xi,heap_alloc->xm,heap_setCell->xn
open Go.World renaming frozen?->xx,ownsRow_nil->y2,cell?_of_block->y5,cell?_setCell_other->y6,news_of_block->y8
open Go.Instr renaming makeSlice->y3
namespace Q
theorem LN:∀{a b c:K z},cmp a b<0->cmp b c<0->cmp a c<0
 |[],[],c,h,k=>by omega
 |[],b::bs,[],h,k=>by simp[cmp]at k
 |[],b::bs,c::cs,h,k=>by simp[cmp]
 |a::x,[],c,h,k=>by simp[cmp]at h
 |a::x,b::bs,[],h,k=>by simp[cmp]at k
 |a::x,b::bs,c::cs,h,k=>by
  simp only[cmp]at h k⊢;by_cases h1:a=b
  ·subst h1;by_cases h2:a=c
   ·subst h2;simp at h k⊢;exact LN h k
   grind
  grind
theorem OA:∀{a b:K z},cmp a b=0->a=b
 |[],[],_=>Z
 |[],b::bs,h=>by grind [cmp]
 |a::x,[],h=>by simp[cmp]at h
 |a::x,b::bs,h=>by
  simp only[cmp]at h;by_cases h1:a=b
  ·subst h1;simp at h;rw[OA h]
  ·simp[h1]at h;omega
theorem wS:∀(a:K z),cmp a a=0
 |[]=>Z
 |a::x=>by simp[cmp,wS x]
theorem Fw:∀{a b:K z},0<cmp a b->cmp b a<0
 |[],[],h=>by simp[cmp]at h
 |[],b::bs,h=>by grind [cmp]
 |a::x,[],h=>by simp[cmp]
 |a::x,b::bs,h=>by
  simp only[cmp]at h⊢;by_cases h1:a=b
  ·subst h1;simp at h⊢;exact Fw h
  grind
def YX(l:K (K z)):Prop:=l.Pairwise λa b=>cmp a b<0
def aP(l:K (K z))(r:K z):W:=(l.takeWhile λx=>decide (cmp x r<0)).length
theorem Fx(l:K (K z))(r:K z):aP l r<=S l:=by
 induction l with
 |nil=>simp[aP]
 |cons x q ih =>
  grind [aP,xr]
theorem FG{r:K z}:∀{l:K (K z)} {p:W},p<=S l->(∀i (h:i<S l),i<p->cmp l[i] r<0)->(∀h:p<S l,¬cmp l[p] r<0)->aP l r=p
 |[],p,h,_,_=>by simp at h;subst h;rfl
 |x::q,0,h,h1,h2=>by
  grind [aP,xr]
 |x::q,p+1,h,h1,h2=>by
  have c:=h1 0 (by simp) (by omega);simp at c;have ih:aP q r=p:=FG (by simpa using h) λi d a=>by grind λa=>by grind
  grind [aP,xr]
theorem GF{r:K z}:∀(l:K (K z)),eI l r=if h:aP l r<S l then if cmp l[aP l r] r=0 then l else l.take (aP l r)++r::l.drop (aP l r)else l++[r]
 |[]=>Z
 |x::q=>by
  by_cases hx:cmp x r<0
  ·have e:aP (x::q) r=aP q r+1:=by unfold aP;rw[xr,γ hx];rfl
   rw[eI,if_pos hx,GF (r:=r) q]
   grind
  ·have e:aP (x::q) r=0:=by unfold aP;rw[xr,ρ hx];rfl
   simp_all [aP,eI,if_neg,dif_pos,List.getElem_cons_zero,cmp]
theorem LU{r y:K z}:∀{l:K (K z)},y∈eI l r->y=r\/y∈l
 |[],h=>by grind [eI]
 |x::q,h=>by
  rw[eI]at h
  split at h
  ·rcases List.mem_cons.1 h with rfl|h
   ·exact xg (by simp)
   ·rcases LU h with h|h
    ·exact xj h
    grind
  grind
theorem NI{r:K z}:∀{l:K (K z)},YX l->YX (eI l r)
 |[],_=>by simp[eI,YX]
 |x::q,h=>by
  have k:=(List.pairwise_cons.1 h).1;rw[eI]
  split
  ·rename_i d;refine List.pairwise_cons.2 ⟨λy f=>?_,NI ((List.pairwise_cons.1 h).2)⟩
   grind [LU]
  ·rename_i c
   split
   ·exact h
   ·rename_i a;have j:¬cmp x r=0:=by simpa using a
    have e:cmp r x<0:=Fw (by omega);refine List.pairwise_cons.2 ⟨λy f=>?_,h⟩
    grind [LN]
def Fy{l:K (K z)}(h:YX l)(r:K z)(i m:W)(f:m<S l)(c:i<S l)(d:i<=m)(a:cmp l[m] r<0):cmp l[i] r<0:=by
 by_cases e:i=m
 ·subst e;exact a
 ·exact LN (List.pairwise_iff_getElem.1 h i m c f (by omega)) a
theorem Fz{l:K (K z)}(h:YX l)(r:K z)(i m:W)(f:m<S l)(e:i<S l)(a:m<=i)(d:¬cmp l[m] r<0):¬cmp l[i] r<0 :=
 λc=>d (Fy h r m i e f a c)
def Uv(a b:K z)(k:W)(c:k<S a)(d:k<S b):cmp (a.drop k) (b.drop k)=if a.getD k 0 != b.getD k 0 then a.getD k 0-b.getD k 0 else cmp (a.drop (k+1)) (b.drop (k+1)):=by
 rw[xt c,xt d,pH a k c,pH b k d];rfl
theorem Uw(a b:K z)(k:W)(c:k<S a)(d:S b<=k):cmp (a.drop k) (b.drop k)=1:=by
 rw[xt c,xv d];rfl
theorem Ux(a b:K z)(c:S a<=S b):cmp (a.drop (S a)) (b.drop (S a))=(S a:z)-S b:=by
 rw[xv (xd _)];simp[cmp];omega
def ZX(l:K z):Prop:=∀x∈l,0<=x/\x<4
end Q
theorem JP(va vb:ι)(a b:σ ν)(w:ψ)(ha:YA w va a)(hb:YA w vb b)(T:ZX a)(W:ZX b)(ag:S a<1000)(ah:S b<1000):
  η ζ 124 #[va,vb] w λe w'=>e=N (U O (cmp a b))/\ω (J (V w)) w w':=by
 obtain⟨xa,ca,rfl,aa⟩:=ha.form;obtain⟨xb,cb,rfl,ab⟩:=hb.form;have s:=aD T;have z:=aD W;go_in;go_wp2;go_loopw[8] (λj wr=>∃k:φ,k<=S a/\k<=S b/\j=U O k/\aC (cmp a b=cmp (a.drop k) (b.drop k))/\ω (J (V w)) w wr) λj _=>S a-(ξ j).toNat
 case atStart=>exact⟨0,xe _,xe _,Z,Z,xi _ _⟩
 case round =>
  obtain⟨k,hk,af,rfl,HC,c⟩:=hrel;by_cases hlt:k<S a
  ·have ae:=lI hlt;by_cases hb2:S b<=k
   ·have ad:=lE hb2;have f:aC (cmp a b=1):=by grind [Uw]
    go_wp2;go_ret;rw[f.o];exact⟨Z,c⟩
   ·have d:k<S b:=by omega
    have ac:=lI d;obtain⟨g1,rfl,F,D⟩:=aa (by omega);obtain⟨g2,rfl,H,E⟩:=ab (by omega);have d1:wr.cell? ⟨g1,k,Y⟩=C (U O (a.getD k 0)):=by rw[pH a k hlt];exact cK c F (D k hlt)
    have d2:wr.cell? ⟨g2,k,Y⟩=C (U O (b.getD k 0)):=by rw[pH b k d];exact cK c H (E k d)
    have HD:=aD (Uv a b k hlt d);have s1:0<=a.getD k 0/\a.getD k 0<4:=by rw[pH a k hlt];exact s _ (xk hlt)
    have s2:0<=b.getD k 0/\b.getD k 0<4:=by rw[pH b k d];exact z _ (xk d)
    generalize a.getD k 0=x at*;generalize b.getD k 0=y at*
    cases hz:x != y
    ·have q:aC (cmp a b=cmp (a.drop (k+1)) (b.drop (k+1))):=by unfold aC;rw[HC.o,HD.o,hz];rfl
     go_wp2;go_quiet (fail)
     all_goals
      go_wp2;go_roundw;exact⟨k+1,by omega,by omega,by go_num,q,c.trans (iU _ _ _)⟩;simp[ξ];omega
    ·have q:aC (cmp a b=x-y):=by unfold aC;rw[HC.o,HD.o,hz];rfl
     have X:IntKind.i64.wrap (x-y)=x-y:=IntWalk.i64_in _ ⟨by omega,by omega⟩;go_wp2;go_quiet (fail)
     all_goals
      go_wp2;go_quiet (fail)
      all_goals
       go_wp2;go_ret;rw[q.o];exact⟨by first|rfl|rw[X],(c.trans (iU _ _ _)).trans (iU _ _ _)⟩
  ·have K:k=S a:=by omega
   subst K;have f:aC (cmp a b=(S a:ν)-S b):=by grind [aC,Ux]
   have X:IntKind.i64.wrap ((S a:ν)-S b)=(S a:ν)-S b:=IntWalk.i64_in _ ⟨by omega,by omega⟩;go_wp2;go_ret;rw[f.o];exact⟨by first|rfl|rw[X],c⟩
structure XB(w:ψ)(B:φ)(v:ι)(rs:σ (σ ν))(vs:σ ι):Prop where
 own:w.ownsRow B 37 1 v (S rs) vs
 len:S vs=S rs
 y:∀i (h:i<S rs) (u:ι),vs[i]?=C u->YA w u rs[i]
def XB.X(h:XB w B v rs vs)(a:ω (J (V w)) w w'):XB w' B v rs vs :=
 ⟨bH h.own λk e=>a.block k (h.own.lt k e).2,h.len,λi c u d=>(h.y i c u d).X a⟩
theorem XB.form(h:XB w B v rs vs):∃a c,v=I a (S rs) c/\(0<S rs->∃b,a=C ⟨b,0,Y⟩/\B<=b/\b<J (V w)/\∀i (f:i<S vs),w.cell? ⟨b,i,Y⟩=C vs[i]):=by
 rcases h.own.2 with⟨e,s⟩|⟨k,c,j,e,q,_⟩
 ·grind
 ·refine⟨_,c,e,λ_=>⟨k,Z,q,(h.own.lt k (by rw[e];rfl)).2,λi f=>?_⟩⟩;have d:=h.own;rw[e]at d;rw[d.cellAt i (by grind),xo f]
theorem F7(B g:φ)(v vr:ι)(rs:σ (σ ν))(vs:σ ι)(r:σ ν)(w:ψ)(T:w.cell? ⟨g,0,Y⟩=C v)(hg:g<J (V w))(h:XB w B v rs vs)(hr:YA w vr r)(ai:YX rs)(hs:∀x∈rs,ZX x/\S x<1000)(aj:ZX r/\S r<1000)(hn:S rs<100000000):
  η ζ 123 #[.pointer (C ⟨g,0,Y⟩),vr] w λe w'=>e=N (U O (aP rs r:ν))/\ω (J (V w)) w w':=by
 obtain⟨xa,ca,rfl,ak⟩:=h.form;obtain⟨ra,rc,rfl,_⟩:=hr.form;have H:=aD h;have HR:=aD hr;have ad:=aD ai;have HS:=aD hs;have q:=aD aj;go_in;go_wp2;go_loopw[5,6] (λa b wr=>∃f j:φ,f<=j/\j<=S rs/\a=U O f/\b=U O j/\aC (∀i (h:i<S rs),i<f->cmp rs[i] r<0)/\aC (∀i (h:i<S rs),j<=i->0<=cmp rs[i] r)/\ω (J (V w)) w wr) λa b _=>(ξ b).toNat-(ξ a).toNat
 case atStart=>exact⟨0,S rs,xe _,xd _,Z,Z,λi h h2=>by omega,λi h h2=>by omega,xi _ _⟩
 case round =>
  obtain⟨f,j,ao,af,rfl,rfl,HL,HH,c⟩:=hrel;have d0:=cK c hg T;by_cases hlt:f<j
  ·have an:=lI hlt;obtain⟨d,ah⟩:∃d:φ,d=f+(j-f)/2:=⟨_,Z⟩;have ap:f<=d:=by omega
   have aq:d<j:=by omega
   have ar:(f:ν)+((j:ν)-(f:ν))/2=(d:ν):=by omega
   have k:d<S rs:=by omega
   have al:=lI k;obtain⟨b,rfl,am,hb,ae⟩:=ak (by omega);have K:d<S vs:=by rw[H.len];exact k
   have cm:wr.cell? ⟨b,d,Y⟩=C vs[d]:=cK c hb (ae d K);have D:=aD ((H.y d k vs[d] (xo K)).X c);have s:=HS.o rs[d] (xk k);have E:=aD (HR.X c);have ac:aC (cmp rs[d] r<0->∀i (h:i<S rs),i<d+1->cmp rs[i] r<0):=λT i F ag=>Fy ad r i d k F (by omega) T
   have W:aC (0<=cmp rs[d] r->∀i (h:i<S rs),d<=i->0<=cmp rs[i] r):=λT i F ag=>by grind [Fz]
   generalize vs[d]=u at*;generalize rs[d]=y at*;clear ah;by_cases hz:cmp y r<0
   ·have ab:=aD (ac.o hz);go_wp2_with(first|(go_at_call 124;refine(JP _ _ y r _ D E s.1 q.1 s.2 q.2).mono ?_;rintro e w1 ⟨rfl,z⟩));go_roundw;exact⟨d+1,j,by omega,af,by go_num,Z,ab,HH,bT c z⟩;simp[ξ];omega
   ·have aa:=aD (W.o (by omega));go_wp2_with(first|(go_at_call 124;refine(JP _ _ y r _ D E s.1 q.1 s.2 q.2).mono ?_;rintro e w1 ⟨rfl,z⟩));go_roundw;exact⟨f,d,by omega,by omega,Z,by first|rfl|go_num,HL,aa,bT c z⟩;simp[ξ];omega
  ·obtain rfl:f=j:=by omega
   have HE:aC (aP rs r=f):=FG (by omega) HL (λh=>by have:=HH.o f h (by omega);omega);go_wp2;go_ret;rw[HE.o];exact⟨Z,c⟩
structure YE(w:ψ)(g gr gb gd:φ)(rs bs ds:σ ν)(rest:σ (σ ν)):Prop where
 r0:w.cell? ⟨g,0,Y⟩=C (VV gr (S rs) (S rs))
 y:WO w gr rs
 XY:Ac w g 1 gb gd bs ds rest
 len:S bs=S rs
 ne:gr≠gd
 neg:gr≠g
def YE.X{f e gd:φ}{rs c d:σ ν}{rest:σ (σ ν)}(h:YE w g f e gd rs c d rest)(a:ω (J (V w)) w w'):YE w' g f e gd rs c d rest:=by
 obtain⟨b,j⟩:=h.XY.XY;exact⟨(a.cell j.lt).trans h.r0,h.y.X a,h.XY.X a,h.len,h.ne,h.neg⟩
theorem F8(g d c gd:W)(rs a f:K ν)(rest:K (K ν))(w:ψ)(h:YE w g d c gd rs a f rest)(F:S a<10000)(D:∀b∈a,b<1000000000):
  η ζ 63 #[.pointer (C ⟨g,0,Y⟩)] w λe w'=>(rest=[]/\e=N (L M)\/∃r q,rest=r::q/\e=N (L true)/\YE w' g d c gd rs a r q/\YK a r)/\Eo w w' g 1 gd:=by
 have H:=aD h;obtain⟨b,j⟩:=h.XY.XY;go_in;go_wp2_with(first|(go_at_call 107;refine(TP g 1 c gd a f rest _ H.XY F D).mono ?_;rintro e w' ⟨x,z⟩;have s:=aD z;rcases x with⟨k,rfl⟩|⟨r,q,k,rfl,j,E⟩))
 ·go_ret
  simp_all
 ·go_ret;have T:=s.o;exact⟨xg ⟨r,q,k,Z,⟨(T.cell 0 (by omega)).trans H.r0,H.y.aG (T.block d H.neg H.ne),j,H.len,H.ne,H.neg⟩,E⟩,T⟩
namespace Q
def sU(rs:K z)(i k:W):z:=(((xR k).filter λk=>rs.getD k (-1)==rs.getD i (-1)).length:W)
theorem Gb(P:W->Bool)(k:W):(((xR (k+1)).filter P).length:z)=(((xR k).filter P).length:z)+if P k then 1 else 0:=by
 grind [xu]
def Uy(rs:K z)(i k:W):sU rs i (k+1)=sU rs i k+if rs.getD k (-1)==rs.getD i (-1)then 1 else 0:=Gb (λk=>rs.getD k (-1)==rs.getD i (-1)) k
theorem Gc(rs:K z)(i k:W):0<=sU rs i k/\sU rs i k<=k:=by
 grind [sU]
end Q
def Uz(g s i:φ)(rs:σ ν)(w:ψ)(X:w.cell? ⟨g,0,Y⟩=C (VV s (S rs) (S rs)))(K:WO w s rs)(hg:g<J (V w))(D:i<S rs)(hn:S rs<10000):
  η ζ 108 #[.pointer (C ⟨g,0,Y⟩),U O (i:ν)] w λe w'=>e=N (U O (nV rs i))/\ω (J (V w)) w w':=by
 have HR:=aD K;have q:=K.lt;have T:aC (nV rs i=sU rs i i):=Z;have ac:=lI D;have z:aC (∀W:ψ,ω (J (V w)) w W->W.cell? ⟨s,i,Y⟩=C (U O (rs.getD i (-1)))):=λW hb=>by rw[pH rs i D];exact cK hb q (HR.cell i D)
 go_in;go_wp2;go_loopw[5,6] (λc j wr=>∃k:φ,k<=i/\j=U O k/\c=U O (sU rs i k)/\ω (J (V w)) w wr) λ_ j _=>i-(ξ j).toNat
 case atStart=>exact⟨0,xe _,Z,Z,xi _ _⟩
 case round =>
  obtain⟨k,hk,rfl,rfl,a⟩:=hrel;have d0:=cK a hg X;by_cases hlt:k<i
  ·have ad:=lI hlt;have f:k<S rs:=by omega
   have H:=lI f;have ck:wr.cell? ⟨s,k,Y⟩=C (U O (rs.getD k (-1))):=by rw[pH rs k f];exact cK a q (HR.cell k f)
   have ci:=z.o wr a;have F:=aD (Uy rs i k);have aa:=Gc rs i k;generalize rs.getD k (-1)=x at*;generalize rs.getD i (-1)=y at*;generalize ab:sU rs i k=ct at*
   cases hz:x==y
   ·have d:aC (sU rs i (k+1)=ct):=by unfold aC;rw[F.o,hz];simp
    go_wp2;go_quiet (fail)
    all_goals
     go_wp2;go_roundw;exact⟨k+1,by omega,by go_num,by rw[d.o],a.trans (iU _ _ _)⟩;simp[ξ];omega
   ·have d:aC (sU rs i (k+1)=ct+1):=by unfold aC;rw[F.o,hz];simp
    go_wp2;go_quiet (fail)
    all_goals
     go_wp2;go_roundw;exact⟨k+1,by omega,by go_num,by rw[d.o],a.trans (iU _ _ _)⟩;simp[ξ];omega
  ·have E:k=i:=by omega
   subst E;go_wp2;go_ret;rw[T.o];exact⟨Z,a⟩
namespace Q
theorem U0(rs:K z)(i k:W)(p:K z):(rI rs i p k).length=S p:=by grind [rI]
theorem U1(p:K z)(i:W)(x:z)(h:i<S p):(p.set i x).getD i 0=x:=by grind
def Bd(p:K z)(m:z):Prop:=∀x∈p, -1000000001<=x/\x<=m
def Bd.set(h:Bd p m)(i:φ)(x:ν)(c:-1000000001<=x)(d:x<=m):Bd (p.set i x) m:=λy a=>by
 rcases List.mem_or_eq_of_mem_set a with a|rfl
 ·exact h y a
 ·exact⟨c,d⟩
def Bd.mono{k:ν}(h:Bd p m)(c:m<=k):Bd p k:=λy a=>⟨(h y a).1,by have:=(h y a).2;omega⟩
def Bd.get(h:Bd p m)(i:φ)(a:i<S p):-1000000001<=p.getD i 0/\p.getD i 0<=m:=by rw[pH p i a];exact h _ (xk a)
end Q
def WO.eG(h:WO w g l)(i:φ)(a:i<S l):w.cell? ⟨g,i,Y⟩=C (U O (l.getD i 0)):=by rw[pH l i a];exact h.cell i a
theorem Gd(g gr gb gd:φ)(rs bs a:σ ν)(rest:σ (σ ν))(w:ψ)(h:YE w g gr gb gd rs bs a rest)(hd:YK bs a)(hb:∀b∈bs,b<1000000000)(hn:S rs<=64):
  η ζ 65 #[.pointer (C ⟨g,0,Y⟩)] w λe w'=>∃gp,e=N (VV gp (S rs) (S rs))/\WO w' gp (WT rs a)/\J (V w)<=gp/\ω (J (V w)) w w':=by
 have aI:∀w,(y3 37 (U O (S rs:ν)) (U O (S rs:ν))).run ζ w=.ok (VV (J (V w)) (S rs) (S rs)) (w.alloc (G (δ #[U O 0] (S rs)) 3)):=
  λw=>run_make_row' 37 3 (U O 0) 8 π Tryz.XE Z O O (S rs) (by omega) (by omega) w
 obtain⟨bg,hc⟩:=h.XY.XY;have ay:S a=S rs:=by rw[hc.len,h.len]
 have c0:=h.r0;have c2:=hc.c1;have E:=hc.lt;have T:=aD h.y;have ap:=aD hc.digits;have X:=h.y.lt;have aj:=hc.digits.lt;have ao:aC (∀i,i<S rs->0<=a.getD i 0/\a.getD i 0<1000000000):=λi hi=>by
  have h1:=hd.rng i (by omega)
  grind [xk]
 have aB:aC (WT rs a=(xR (S rs)).foldl (jA rs a) (xp (S rs) 0)):=Z;have ar:aC (WO (w.alloc (G (δ #[U O 0] (S rs)) 3)) (J (V w)) (xp (S rs) 0)):=by
  grind [aC,WO,DZ,τ]
 have an:aC (ω (J (V w)) w (w.alloc (G (δ #[U O 0] (S rs)) 3))):=bB;rw[ay]at c2;simp only[Nat.reduceAdd]at c2;go_in;go_wp2;go_loopw[18] (λj wr=>∃(k:φ) (p:σ ν),k<=S rs/\j=U O k/\aC (p=(xR k).foldl (jA rs a) (xp (S rs) 0))/\aC (WO wr (J (V w)) p)/\aC (S p=S rs)/\aC (Bd p (64+k*64))/\aC (ω (J (V w)) w wr)) λj _=>S rs-(ξ j).toNat
 case atStart=>exact⟨0,_,xe _,Z,Z,ar,by simp[aC],by intro x hx;rw[List.eq_of_mem_replicate hx];omega,an⟩
 case round =>
  obtain⟨k,p,hk,rfl,HP,HI,HL,ab,H⟩:=hrel;by_cases hlt:k<S rs
  ·have aF:=lI hlt;have ck:wr.cell? ⟨gr,k,Y⟩=C (U O (rs.getD k (-1))):=by rw[pH rs k hlt];exact cK H X (T.cell k hlt)
   have lp:=HI.lt;have cp:=HI.eG k (by rw[HL.o];exact hlt);have fp:=HI.free k;have ad:=aD (HI.set k (-1));have c:aC (ω (J (V w)) w (wr.setCell ⟨J (V w),k,Y⟩ (U O (-1)))):=H.setCell (p:=⟨J (V w),k,Y⟩) (xd _) _;have ag:aC ((xR (k+1)).foldl (jA rs a) (xp (S rs) 0)=jA rs a p k):=by grind [aC,jT]
   have af:aC (jA rs a p k=if rs.getD k (-1) == -1 then p.set k (-1)else(xR k).foldl (rI rs k) (p.set k (nV rs k-a.getD k 0))):=Z;have ak:J (V w)<(wr.setCell ⟨J (V w),k,Y⟩ (U O (-1))).heap.size:=by simpa using lp
   generalize al:rs.getD k (-1)=row at*;generalize aJ:p.getD k 0=aO at*;go_upto_region 6 with fail
   generalize hW:wr.setCell ⟨J (V w),k,Y⟩ (U O (-1))=W1 at*
   cases hz:row == -1
   rotate_left
   ·have HN:aC (p.set k (-1)=(xR (k+1)).foldl (jA rs a) (xp (S rs) 0)):=by unfold aC;rw[ag.o,af.o,hz];rfl
    go_wp2;go_roundw;exact⟨k+1,_,by omega,by go_num,HN,ad,by simp[aC];exact HL,(ab.set k (-1) (by omega) (by omega)).mono (by omega),c⟩;simp[ξ];omega
   ·have HN:aC ((xR (k+1)).foldl (jA rs a) (xp (S rs) 0)=(xR k).foldl (rI rs k) (p.set k (nV rs k-a.getD k 0))):=by unfold aC;rw[ag.o,af.o,hz];rfl
    have e0:=cK c E c0;have e2:=cK c E c2;have ed:W1.cell? ⟨gd,k,Y⟩=C (U O (a.getD k 0)):=cK c aj (ap.eG k (by omega));have am:=xc E c.size;have aA:=xc aj c.size;have aE:=ao.o k hlt;have av:=Gc rs k k;have ax:sU rs k k=nV rs k:=Z;rw[ax]at av;have aq:=aD (T.aG (c.block gr X));generalize a.getD k 0=D at*;generalize aw:nV rs k=ct at*;have ac:=aD (Bd.set ab k (ct-D) (by omega) (by omega));have aM:IntKind.i64.wrap (ct-D)=ct-D:=IntWalk.i64_in _ ⟨by omega,by omega⟩;go_upto_region 7 with fail
    go_region_held3 (λw'=>w'.cell? ⟨g,2,Y⟩=C (VV gd (S rs) (S rs))/\w'.cell? ⟨gd,k,Y⟩=C (U O D)) (first|exact⟨e2,ed⟩|exact⟨p2,pd⟩|exact⟨(fC (by omega)).trans p2,(fC (by omega)).trans pd⟩) (first
     |(go_at_call 108;refine(Uz g gr k rs W1.drew e0 (aq.aG Z) am hlt (by omega)).mono ?_;rintro e w2 ⟨rfl,ai⟩;rw[aw];have B2:aC (ω (J (V W1)) W1 w2):=(by first|exact((xi (J (V W1)) W1).drew).trans (ai.mono (by simp))|exact ai);have p2:=cK B2 am e2;have pd:=cK B2 aA ed;have I2:=aD (ad.aG (B2.block (J (V w)) ak));have ip:=I2.eG k (by rw[xw,HL.o];exact hlt);have aN:=I2.free k))
    have I3:=aD (I2.set k (ct-D));rw[List.set_set]at I3;have B3:aC (ω (J (V w)) w (w2.setCell ⟨J (V w),k,Y⟩ (U O (ct-D)))):=(bT c B2).setCell (p:=⟨J (V w),k,Y⟩) (xd _) _;go_wp2;go_loopw[6] (λj wq=>∃(q:φ) (u:σ ν),q<=k/\j=U O q/\aC (u=(xR q).foldl (rI rs k) (p.set k (ct-D)))/\aC (WO wq (J (V w)) u)/\aC (S u=S rs)/\aC (Bd u (64+k*64+q))/\aC (ω (J (V w)) w wq)) λj _=>k-(ξ j).toNat
    case atStart=>exact⟨0,_,xe _,Z,Z,I3,by simp_all [aC],ac.mono (by omega),B3⟩
    case round =>
     obtain⟨q,u,hq,rfl,HU,K,d,s,f⟩:=hrel;have d0:=cK f E c0;by_cases hql:q<k
     ·have aK:=lI hql;have aL:(q:ν)<S rs:=by omega
      have F:q<S rs:=by omega
      have cq:wr.cell? ⟨gr,q,Y⟩=C (U O (rs.getD q (-1))):=by rw[pH rs q F];exact cK f X (T.cell q F)
      have uq:=K.eG q (by rw[d.o];exact F);have uk:=K.eG k (by rw[d.o];exact hlt);have fq:=K.free q;have bq:=s.get q (by rw[d.o];exact F);have W:aC ((xR (q+1)).foldl (rI rs k) (p.set k (ct-D))=if rs.getD q (-1)==row&&decide (u.getD k 0<=u.getD q 0)then u.set q (u.getD q 0+1)else u):=by
       unfold aC;rw[jT,<- HU.o,<- al];rfl
      have ae:=aD (K.set q (u.getD q 0+1));have ah:=aD (Bd.set (s.mono (k:=64+k*64+(q+1:φ)) (by omega)) q (u.getD q 0+1) (by omega) (by omega));generalize rs.getD q (-1)=x at*;generalize u.getD q 0=y at*;generalize u.getD k 0=z at*
      cases hx:x==row
      ·have au:aC (u=(xR (q+1)).foldl (rI rs k) (p.set k (ct-D))):=by unfold aC;rw[W.o,hx];rfl
       go_wp2;go_quiet (fail)
       all_goals
        go_wp2;go_roundw;exact⟨q+1,u,by omega,by go_num,au,K.aG Z,d,s.mono (by omega),f.trans (iU _ _ _)⟩;simp[ξ];omega
      by_cases hy:z<=y
      ·have aa:decide (z<=y)=true:=γ hy;go_wp2;go_quiet (fail)
       all_goals
        go_wp2;go_roundw;exact⟨q+1,_,by omega,by go_num,by unfold aC;rw[W.o,hx,aa];rfl,by first|exact ae.o|exact ae.aG Z,by simp[aC];exact d,ah,(f.trans (iU _ _ _)).setCell (p:=⟨J (V w),q,Y⟩) (xd _) _⟩;simp[ξ];omega
      ·have aa:decide (z<=y)=M:=ρ hy;go_wp2;go_quiet (fail)
       all_goals
        go_wp2;go_roundw;exact⟨q+1,u,by omega,by go_num,by unfold aC;rw[W.o,hx,aa];rfl,K.aG Z,d,s.mono (by omega),f.trans (iU _ _ _)⟩;simp[ξ];omega
     ·have az:q=k:=by omega
      go_wp2;go_roundw;exact⟨k+1,u,by omega,by go_num,by unfold aC;rw[HN.o,HU.o,az],K,d,s.mono (by omega),f⟩;simp[ξ];omega
  ·have aH:k=S rs:=by omega
   have HE:aC (p=WT rs a):=by grind [aC]
   go_wp2;go_ret;exact⟨J (V w),Z,by rw[<- HE.o];exact HI,xd _,H⟩
structure YU(w:ψ)(ev rg:ι)(wd:Q.Wd):Prop where
 K:YG w ev wd.E
 g:YA w rg wd.g
def YU.X{ev c:ι}{d:Q.Wd}(h:YU w ev c d)(a:ω (J (V w)) w w'):YU w' ev c d:=⟨h.K.X a,h.g.X a⟩
theorem U2(ev rg E:ι)(d:σ Ev)(v:z)(ps:σ z)(w:ψ)(X:YG w ev d)(ad:∃a n c,rg=I a n c)(hp:YA w E ps)(hl:S ps=S d)(hn:S d<=64):
  η ζ 116 #[.agg #[ev,rg],U O v,E] w λe w'=>e=N (U O (oH d v ps))/\ω (J (V w)) w w':=by
 obtain⟨ea,ec,rfl,aa⟩:=X.form;obtain⟨pa,pc,rfl,ac⟩:=hp.form;obtain⟨ra,rn,rc,rfl⟩:=ad;have ag:S ps<=S d:=by omega
 have ah:S d<=S ps:=by omega
 have ai:aC (oH d v ps=((xR (S d)).foldl (qP v ps d) (0, -1)).1):=Z;obtain⟨k0,ae,(F:aC _)⟩:=nY w #[I ea (S d) ec,I ra rn rc] 80;have K:=aD X;clear X hp hl;go_in;go_upto_region 1 with fail
 generalize hE:w.alloc (G #[I ea (S d) ec,I ra rn rc] 80)=W0 at*;have aj:=gE k0 0 _ Z;have l0:J (V w)<J (V W0):=by omega
 clear hE k0 ae;go_wp2;go_loopw[7,8,14] (λa b j wr=>∃(k:φ) (p:z×z),k<=S d/\j=U O k/\a=U O p.1/\b=U O p.2/\aC (p=(xR k).foldl (qP v ps d) (0, -1))/\aC (ω (J (V W0)) W0 wr)) λ_ _ j _=>S d-(ξ j).toNat
 case atStart=>exact⟨0,(0, -1),xe _,Z,Z,Z,Z,xi _ _⟩
 case round =>
  obtain⟨k,⟨E,D⟩,hk,rfl,rfl,rfl,HP,HB⟩:=hrel;by_cases hlt:k<S d
  ·have ak:=lI hlt;have af:(k:z)<S ps:=by omega
   obtain⟨x,rfl,T⟩:=aa (by omega);obtain⟨gp,rfl,ab,W⟩:=ac (by omega);have s:aC (wr.rangeAt x (k*10) (aK (Q.ev d k)).toList):=lC (K.cZ Z k hlt) ((HB.block x (by omega)).trans (F.block x T));have al:x<J (V wr):=by have:=HB.size;omega
   have cp:wr.cell? ⟨gp,k,Y⟩=C (U O (ps.getD k 0)):=by rw[pH ps k (by omega)];exact cK HB (by omega) (cK F ab (W k (by omega)))
   have am:gp<J (V wr):=by have:=HB.size;omega
   have f:aC ((xR (k+1)).foldl (qP v ps d) (0, -1)=if(Q.ev d k).kind==1&&(Q.ev d k).z==v&&decide (D<ps.getD k 0)then((Q.ev d k).value,ps.getD k 0)else(E,D)):=by
    unfold aC;rw[jT,<- HP.o];rfl
   generalize Q.ev d k=e1 at*;generalize ps.getD k 0=H at*;have q:aC (ω (J (V W0)) W0 (wr.alloc (G (aK e1) 180))):=HB.alloc HB.size _
   cases z1:e1.kind==1
   ·rw[z1]at f;go_wp2_with(first|(refine jQ (.tmp 17) Z Z x (k*10) e1 Z s ?_));go_roundw;exact⟨k+1,(E,D),by omega,by go_num,Z,Z,f.symm,q⟩;simp[ξ];omega
   cases z2:e1.z==v
   ·rw[z1,z2]at f;go_wp2_with(first|(refine jQ (.tmp 17) Z Z x (k*10) e1 Z s ?_));go_roundw;exact⟨k+1,(E,D),by omega,by go_num,Z,Z,f.symm,q⟩;simp[ξ];omega
   by_cases hz3:D<H
   ·have z3:decide (D<H)=true:=γ hz3;rw[z1,z2,z3]at f;go_wp2_with(first|(refine jQ (.tmp 17) Z Z x (k*10) e1 Z s ?_));go_roundw;exact⟨k+1,(e1.value,H),by omega,by go_num,Z,Z,f.symm,q⟩;simp[ξ];omega
   ·have z3:decide (D<H)=M:=ρ hz3;rw[z1,z2,z3]at f;go_wp2_with(first|(refine jQ (.tmp 17) Z Z x (k*10) e1 Z s ?_));go_roundw;exact⟨k+1,(E,D),by omega,by go_num,Z,Z,f.symm,q⟩;simp[ξ];omega
  ·have HE:aC (oH d v ps=E):=by
    grind [aC]
   go_wp2;go_ret;rw[HE.o];exact⟨Z,bT F HB⟩
theorem WO.own(h:WO w g l)(B:φ)(a:B<=g)(c:S l<1000000):w.ownsRow B 3 1 (VV g (S l) (S l)) (S l) (l.map (xW O)):=by
 refine⟨by simp,xg ⟨g,S l,rH l,Z,a,h,xd _,by unfold maxLen;omega,by simp[rH],by simp_all [rH,y4]⟩⟩
def FT(h:w.ownsRow B 3 1 v n (l.map (xW O)))(s:n=S l):YA w v l:=by
 subst s
 rcases h.2 with⟨e,j⟩|⟨k,c,f,e,_,_,a,_⟩
 ·exact xj ⟨e,List.eq_nil_of_length_eq_zero j⟩
 ·refine xg ⟨k,c,e,λi q=>?_,(h.lt k (by rw[e];rfl)).2,a⟩;have d:=h;rw[e]at d;rw[d.cellAt i (by omega)];simp[q]
def Tryz.YL:(prog.info? 3).map (λi=>(i.zero,i.size,i.bytes))=C (C (U O 0),1,8):=by kernel_rfl
namespace Q
def uS(w:Wd)(ps:K z)(k:W):K z:=w.g++(xR k).map λv:W=>oH w.E (v:z) ps
theorem U3(w:Wd)(ps:K z)(k:W):uS w ps (k+1)=uS w ps k++[oH w.E (k:z) ps]:=by
 grind [uS,xu]
def Ge(w:Wd)(ps:K z):uS w ps 3=mY w ps:=rfl
def U4(w:Wd)(ps:K z)(k:W):(uS w ps k).length=S w.g+k:=by simp[uS]
end Q
theorem U5(ev rg pv:ι)(d:Q.Wd)(ps:K ν)(w:ψ)(h:YU w ev rg d)(hp:YA w pv ps)(hl:S ps=S d.E)(hn:S d.E<=64)(hr:S d.g<1000):
  η ζ 72 #[.agg #[ev,rg],pv] w λe w'=>∃v,e=N v/\YA w' v (mY d ps)/\(∀k,v.ownBlock=C k->J (V w)<=k)/\ω (J (V w)) w w':=by
 obtain⟨i0,hi,ao,ap,aq⟩:=θ Tryz.YL;obtain⟨ea,ec,ab,_⟩:=h.K.form;obtain⟨ra,rc,ag,_⟩:=h.g.form;obtain⟨pa,pc,af,_⟩:=hp.form;obtain⟨k0,ah,(q:aC _)⟩:=nY w #[ev,rg] 80;have HW:=aD (h.X q);have HP:=aD (hp.X q);have HL:=aD hl;clear h hp hl;subst ab ag af;go_in;go_upto_region 1 with fail
 generalize hE:w.alloc (G #[I ea (S d.E) ec,I ra (S d.g) rc] 80)=W0 at*;have c0:=cA k0;have l0:J (V w)<J (V W0):=by omega
 clear hE k0 ah;go_wp2_with(first|(go_at_call 115;refine(NO _ d.g _ HW.g (by omega)).mono ?_;rintro e w1 ⟨g1,rfl,H,f,F⟩;have T:=aD (H.own (J (V W0)) f (by omega));have B1:=aD F;clear H F f));go_loopw[5,6] (λa j wr=>∃(k:φ) (v:ι),k<=3/\j=U O k/\a=v/\aC (wr.ownsRow (J (V W0)) 3 1 v (S d.g+k) ((uS d ps k).map (xW O)))/\aC (ω (J (V W0)) W0 wr)) λ_ j _=>3-(ξ j).toNat
 case atStart=>exact⟨0,_,by omega,Z,Z,by grind [uS],B1⟩
 case round =>
  clear T B1;obtain⟨k,v,hk,rfl,s,z,HB⟩:=hrel;have s:=s.symm;subst s;by_cases hlt:k<3
  ·have an:(k:ν)<3:=by omega
   have d0:=kG HB l0 c0;have lw:=xc l0 HB.size;have aa:=aD (HW.X HB);have W:=aD (HP.X HB);have HS:=aD (U3 d ps k);generalize ad:oH d.E (k:ν) ps=lv at*;go_wp2_with(first
    |(go_at_call 116;refine(U2 _ _ _ d.E (k:ν) ps _ aa.K ⟨_,_,_,Z⟩ W HL hn).mono ?_;rintro e w2 ⟨rfl,x⟩;rw[ad];have B2:aC (ω (J (V W0)) W0 w2):=bT HB x;have D:aC ((w2.alloc (G #[U O lv] 3)).ownsRow (J (V W0)) 3 1 v (S d.g+k) ((uS d ps k).map (xW O))):=bH z λy e=>(xm _ _ _ (by have:=(z.lt y e).2;have:=x.size;omega)).trans (x.block y (z.lt y e).2);have ai:J (V W0)<=J (V w2):=B2.size)
    |(at_builtin;refine wD Tryz.YL π Z Z (.tmp 14) (.tmp 19) Z Z Z Z Z (by exact D) (by omega) (by omega) ?_;intro gn cn w5 ae c aj ak))
   have al:aC (ω (J (V W0)) W0 w5):=(B2.alloc ai _).trans ⟨c.os,c.tape,c.output,c.size,λy hy=>c.block y (by simp;omega) λe=>by have:=(D.lt y e.symm).1;omega⟩;have am:aC (w5.ownsRow (J (V W0)) 3 1 (VV gn (S d.g+k+1) cn) (S d.g+(k+1)) ((uS d ps (k+1)).map (xW O))):=by
    grind [aC]
   grind [ξ]
  ·have ac:k=3:=by omega
   go_wp2;go_ret;refine⟨_,Z,?_,λy e=>by have:=(z.lt y e).1;omega,bT q HB⟩;have h1:=z.o;rw[ac,Ge]at h1;exact FT h1 (by rw[<- Ge,U4])
def Tryz.infoRow:(prog.info? 37).map (λi=>(i.zero,i.size,i.bytes))=C (C (I Y 0 0),1,24):=by kernel_rfl
structure OutIn(w:ψ)(B g:φ)(rs:σ (σ ν)):Prop where
 ex:∃v vs,w.cell? ⟨g,0,Y⟩=C v/\XB w B v rs vs
 lt:g<J (V w)
 free:w.frozen? ⟨g,0,Y⟩=M
 ty:∀c t fr,w.heap[g]?=C (G c t fr)->t≠37/\t≠3
def U6(B g:φ)(vr:ι)(rs:σ (σ ν))(r:σ ν)(w:ψ)(h:OutIn w B g rs)(hr:YA w vr r)(K:YX rs)(hs:∀x∈rs,ZX x/\S x<1000)(d:ZX r/\S r<1000)(hn:S rs<100000000)(q:aP rs r<S rs)(W:cmp (rs.getD (aP rs r) []) r=0):
  η ζ 82 #[.pointer (C ⟨g,0,Y⟩),vr] w λe w'=>e=N (.tuple #[])/\ω (J (V w)) w w':=by
 obtain⟨v,vs,hv,a⟩:=h.ex;have hg:=h.lt;have E:=aD a;obtain⟨xa,ca,rfl,T⟩:=a.form;obtain⟨b,rfl,aa,hb,H⟩:=T (by omega);have j:aP rs r<S vs:=by rw[a.len];exact q
 have D:=aD (a.y (aP rs r) q vs[aP rs r] (xo j));have e1:rs.getD (aP rs r) []=rs[aP rs r]:=by simp[q]
 rw[e1]at W;have k:=hs rs[aP rs r] (xk q);have s:=aD (H (aP rs r) j);have HS:=aD hs;have f:=aD hr;have z:=aD K;have ab:(aP rs r:ν)<(S rs:ν):=by omega
 generalize vs[aP rs r]=u at*;generalize hy:rs[aP rs r]=y at*;go_in;go_wp2_with(first
  |(go_at_call 123;refine(F7 B g _ _ rs vs r _ hv hg E f z HS d hn).mono ?_;rintro e w1 ⟨rfl,c⟩;have d0:=cK c hg hv;have cu:=cK c hb s)
  |(go_at_call 124;refine(JP _ _ y r _ (D.X c) (f.X c) k.1 d.1 k.2 d.2).mono ?_;rintro e w2 ⟨rfl,F⟩;rw[W]))
 (try simp only[Exit.inBlock,Exit.then]);refine bodyPost_ret (results_none Z _ _ _) Z ?_
 exact⟨Z,bT c F⟩
theorem Gf(h:w.ownsRow B t 1 (VV g n cap) n xs)(z:i<n):(w.setCell ⟨g,i,Y⟩ u).ownsRow B t 1 (VV g n cap) n (xs.set i u):=by
 refine⟨by rw[xw];exact h.1,?_⟩
 rcases h.2 with⟨e,_⟩|⟨s,c,a,e,k,q,d,f,j,x⟩
 ·simp at e
 ·simp only[Value.slice.injEq,Option.some.injEq,Addr.mk.injEq]at e;obtain⟨⟨rfl,_⟩,_,rfl⟩:=e;refine xg ⟨g,cap,a.setIfInBounds i u,Z,k,cI q i u,d,f,by simpa using j,?_⟩
  grind [List.take_set]
def LC(h:w.ownsRow B t 1 (VV g n cap) n xs)(a:i<S xs):w.cell? ⟨g,i,Y⟩=C xs[i]:=by
 rw[h.cellAt i (by have:=h.1;omega),xo a]
def Gg(h:w.ownsRow B t 1 (VV g n cap) n xs)(i:W):w.frozen? ⟨g,i,Y⟩=M:=by
 rcases h.2 with⟨e,_⟩|⟨f,a,c,e,j,d,_⟩
 ·simp at e
 ·simp only[Value.slice.injEq,Option.some.injEq,Addr.mk.injEq]at e;obtain⟨⟨rfl,_⟩,_⟩:=e;simp[xx,d]
def Av(w:ψ)(u:T)(l:K z):Prop:=∃k,u=VV k (S l) (S l)/\WO w k l
def Av.own(h:Av w u l)(a:∀k,u.ownBlock=C k->w'.heap[k]?=w.heap[k]?):Av w' u l:=by
 obtain⟨k,rfl,h⟩:=h;exact⟨k,Z,h.aG (a k Z)⟩
structure Hand(w:ψ)(rs:σ (σ ν))(vs:σ ι):Prop where
 ex:∀i (h:i<S rs) (u:ι),vs[i]?=C u->Av w u rs[i]
 nd:vs.Pairwise λa b=>a.ownBlock≠b.ownBlock
def Hand.own(h:Hand w rs vs)(d:∀u∈vs,∀k,u.ownBlock=C k->w'.heap[k]?=w.heap[k]?):Hand w' rs vs :=
 ⟨λi c u a=>(h.ex i c u a).own (d u (xq a)),h.nd⟩
theorem Gh{R:T->K z->Prop}{a:W}{x:T}(f:S vs=S rs)(e:a<=S rs)(d:∀i (h:i<S rs) (u:T),vs[i]?=C u->R u rs[i])(c:R x r)(q:W)(j:q<(rs.take a++r::rs.drop a).length)(u:T)(k:(vs.take a++x::vs.drop a)[q]?=C u):R u (rs.take a++r::rs.drop a)[q]:=by
 grind
theorem U7{x:T}(c:W)(h:vs.Pairwise λa b=>a.ownBlock≠b.ownBlock)(e:∀u∈vs,x.ownBlock≠u.ownBlock):(vs.take c++x::vs.drop c).Pairwise λa b=>a.ownBlock≠b.ownBlock:=by
 have d:(vs.take c++x::vs.drop c).Perm (x::vs):=by
  have:=@List.perm_middle _ x (vs.take c) (vs.drop c)
  simp_all
 rw[d.pairwise_iff λh=>h.symm]
 simp_all
structure XW(w:ψ)(B g:φ)(rs:σ (σ ν))(ov:ι)(vs:σ ι)(fp:σ φ):Prop where
 cell:w.cell? ⟨g,0,Y⟩=C ov
 lt:g<J (V w)
 free:w.frozen? ⟨g,0,Y⟩=M
 y:XB w B ov rs vs
 ty:∃c,w.heap[g]?=C (G c 119 (0,0))\/w.heap[g]?=C (G c 77 (0,0))
 fps:∀u∈vs,∀k,u.ownBlock=C k->k∈fp
 fpl:∀k∈fp,k<J (V w)
 dis:∀k∈fp,k≠g/\ov.ownBlock≠C k
 hand:Hand w rs vs
structure YH(w w':ψ)(g:φ)(ov ov':ι)(fp fp':σ φ):Prop where
 os:w'.os=w.os
 tape:w'.tape=w.tape
 output:w'.output=w.output
 size:J (V w)<=J (V w')
 block:∀k,k<J (V w)->k≠g->ov.ownBlock≠C k->w'.heap[k]?=w.heap[k]?
 own:ov'.ownBlock=ov.ownBlock\/∃b,ov'.ownBlock=C b/\J (V w)<=b
 fpn:∀k∈fp',k∈fp\/J (V w)<=k
 c1:w'.cell? ⟨g,1,Y⟩=w.cell? ⟨g,1,Y⟩
def YA.own(h:YA w v l)(w':ψ)(f:∀k,v.ownBlock=C k->w'.heap[k]?=w.heap[k]?)(q:J (V w)<=J (V w')):YA w' v l:=by
 rcases h with h|⟨g,cap,rfl,d,j,c⟩
 ·exact xj h
 ·refine xg ⟨g,cap,Z,λi e=>?_,by omega,c⟩;rw[y5 (w:=w) (a:=⟨g,i,Y⟩) (f g rfl)];exact d i e
namespace Q
theorem U8(vs:K T)(i:W)(x:T)(a:0<i)(c:i<=S vs)(h:i-1<(vs.take i++x::vs.drop i).length):(vs.take i++x::vs.drop i)[i-1]=vs[i-1]'(by omega):=by
 grind
theorem U9(vs:K T)(i:W)(x:T)(a:0<i)(c:i<=S vs):(vs.take i++x::vs.drop i).set i (vs[i-1]'(by omega))=vs.take (i-1)++vs[i-1]'(by omega)::vs.drop (i-1):=by
 grind [List.set_append_right,xy,xt,List.take_succ_eq_append_getElem,List.append_assoc]
theorem Vd(vs:K T)(i:W)(x y:T)(a:i<=S vs):(vs.take i++x::vs.drop i).set i y=vs.take i++y::vs.drop i:=by
 simp_all
end Q
theorem Gi(B g:φ)(vr ov:ι)(rs:σ (σ ν))(vs:σ ι)(fp:σ φ)(r:σ ν)(w:ψ)(h:XW w B g rs ov vs fp)(hr:YA w vr r)(aI:YX rs)(hs:∀x∈rs,ZX x/\S x<1000)(av:ZX r/\S r<1000)(hn:S rs<100000000)(hB:B<=J (V w))(hc:aP rs r<S rs->cmp (rs.getD (aP rs r) []) r≠0)(aK:∀k,vr.ownBlock=C k->k≠g/\ov.ownBlock≠C k):
  η ζ 82 #[.pointer (C ⟨g,0,Y⟩),vr] w λe w'=>e=N (.tuple #[])/\∃ov' vs' fp',XW w' B g (rs.take (aP rs r)++r::rs.drop (aP rs r)) ov' vs' fp'/\YH w w' g ov ov' fp fp':=by
 have hv:=h.cell;have hg:=h.lt;have H:=aD h;obtain⟨xa,ca,rfl,aL⟩:=h.y.form;obtain⟨ya,yc,rfl,_⟩:=hr.form;have aj:=aD hr;have aR:=aD aI;have HS:=aD hs;have au:=Fx rs r;clear h hr aI hs;generalize al:aP rs r=f at*;have aQ:=aD al;clear al;go_in;go_upto_region 1 with(first|(go_at_call 123;refine(F7 B g _ _ rs vs r _ hv hg H.y aj aR HS av hn).mono ?_;rintro e w1 ⟨rfl,(F:aC _)⟩;rw[aQ.o]))
 have d0:=cK F hg hv;have f0:=fK F hg H.free;have lg:=xc hg F.size;have bd:f<S rs->f<S vs:=λh=>by rw[H.y.len];exact h
 go_cut[27]from 9 to 26 λs wx=>s=L M/\aC (ω (J (V w)) w wx)
 case first =>
  by_cases hp:f<S rs
  ·have bb:=lI hp;obtain⟨b,rfl,bo,hb,aE⟩:=aL (by omega);have ap:=bd hp;have cu:=cK F hb (aE f ap);have lb:=xc hb F.size;have aS:=aD ((H.y.y f hp vs[f] (xo ap)).X F);have aA:=aD (aj.X F);have aJ:=HS.o rs[f] (xk hp);have ag:=hc hp;have e1:rs.getD f []=rs[f]:=by simp[hp]
   rw[e1]at ag;have bp:(cmp rs[f] r==0)=M:=by simpa using ag
   clear e1 ag aE hc;generalize vs[f]=u at*;generalize rs[f]=y at*;go_wp2_with(first|(go_at_call 124;refine(JP _ _ y r _ aS aA aJ.1 av.1 aJ.2 av.2).mono ?_;rintro e w2 ⟨rfl,aq⟩));go_meet;exact⟨Z,bT F aq⟩
  ·have bb:decide ((f:ν)<S rs)=M:=ρ (by omega);go_wp2;go_meet;exact⟨Z,F⟩
 case rest =>
  obtain⟨rfl,D⟩:=hcut;clear d0 f0 lg F hc;have d0:=cK D hg hv;have f0:=fK D hg H.free;have lg:=xc hg D.size;have ay:aC ((wc.alloc (G #[I Y 0 0] 37)).ownsRow B 37 1 (I xa (S rs) ca) (S rs) vs):=bH H.y.own λk e=>(xm _ _ _ (by have:=(H.y.own.lt k e).2;have:=D.size;omega)).trans (D.block k (H.y.own.lt k e).2);have ak:C g≠(xh xa (S rs) ca).ownBlock:=λe=>by
   obtain⟨c,z⟩:=H.ty
   rcases H.y.own.2 with⟨e1,_⟩|⟨g',cap,aU,e1,_,hh,_⟩
   ·grind [xF]
   grind [xF]
  have bz:J (V w)<=J (V wc):=D.size;have d1:(wc.alloc (G #[I Y 0 0] 37)).cell? ⟨g,0,Y⟩=C (I xa (S rs) ca):=(lQ lg).trans d0;have f1:(wc.alloc (G #[I Y 0 0] 37)).frozen? ⟨g,0,Y⟩=M:=by rw[World.frozen?_of_block (w:=wc) (a:=⟨g,0,Y⟩) (xm _ _ _ lg)];exact f0
  go_upto_region 3 with(first|(at_builtin;refine wD Tryz.infoRow underlying23 Z Z (.tmp 32) (.tmp 33) Z Z Z Z Z (by exact ay) (by omega) (by omega) ?_;intro T cn w3 ac d an ao;have d3:=(d.cell_far ⟨g,0,Y⟩ (by simp;omega) ak).trans d1;have f3:=(d.frozen_far ⟨g,0,Y⟩ (by simp;omega) ak).trans f1;have aM:g<J (V w3):=by have:=d.size;simp at this;omega))
  have ae:w3.heap[g]?=w.heap[g]?:=(d.block g (by simp;omega) ak).trans ((xm _ _ _ lg).trans (D.block g hg));have ad:T≠g:=λe=>by
   obtain⟨c,z⟩:=H.ty
   rcases ac.2 with⟨e1,_⟩|⟨g',cap,aU,e1,_,hh,_⟩
   ·simp at e1
   grind
  refine jD (λW=>W.ownsRow B 37 1 (VV T (S rs+1) cn) (S rs+1) (vs++[I Y 0 0])/\W.cell? ⟨g,0,Y⟩=C (VV T (S rs+1) cn)/\W.cell? ⟨g,1,Y⟩=w.cell? ⟨g,1,Y⟩/\(∀k,k<J (V w)->k≠g->(xh xa (S rs) ca).ownBlock≠C k->W.heap[k]?=w.heap[k]?)/\(W.os=w.os/\W.tape=w.tape/\W.output=w.output)/\J (V w)<=J (V W)/\g<J (V W)/\(∃c,W.heap[g]?=C (G c 119 (0,0))\/W.heap[g]?=C (G c 77 (0,0)))/\T<J (V W)) ⟨bH ac λk e=>xn _ _ _ _ (by grind [xF]),World.cell?_setCell_same _ _ _ d3,?_,λk h1 h2 h3=>?_,⟨d.os.trans D.os,d.tape.trans D.tape,d.output.trans D.output⟩,?_,by simpa using aM,?_,by simpa using ao⟩ ?_
  ·rw[y6 _ _ _ _ (by simp),d.cell_far ⟨g,1,Y⟩ (by simp;omega) ak,lQ lg];exact D.cell (p:=⟨g,1,Y⟩) hg
  ·rw[xn _ _ _ _ h2,d.block k (by simp;omega) λe=>h3 e.symm,xm _ _ _ (by omega),D.block k h1]
  ·have:=d.size;simp at this⊢;omega
  ·obtain⟨c,z⟩:=H.ty;exact⟨_,z.imp (λh=>cI (ae.trans h) 0 _) λh=>cI (ae.trans h) 0 _⟩
  rintro W3 ⟨(O3:aC _),e3,(aN:aC _),(F3:aC _),(G3:aC _),bt,ab,(T3:aC _),aY⟩;have AT:aC ((xh xa (S rs) ca).ownBlock=C T\/J (V w)<=T):=an.imp id (λh1=>by simp at h1;omega);have aa:S vs=S rs:=H.y.len;have af:=aD aa;clear ae ac d an d3 f3 aM d1 f1 ay ao d0 f0 lg aa aL;go_wp2;go_loopw[5] (λj wr=>∃(i:φ) (x:ι),f<=i/\i<=S rs/\j=U O i/\aC (wr.ownsRow B 37 1 (VV T (S rs+1) cn) (S rs+1) (vs.take i++x::vs.drop i))/\aC (W3.grownBy wr (C T))) λj _=>(ξ j).toNat
  case atStart=>exact⟨S rs,I Y 0 0,by omega,xd _,by go_num,by have h1:=O3.o;have h2:=af.o;unfold aC;rw[y4 (by omega),xv (by omega)];exact h1,nJ _ _⟩
  case round =>
   obtain⟨i,x,bs,br,rfl,HO,HG⟩:=hrel;have e4:wr.cell? ⟨g,0,Y⟩=C (VV T (S rs+1) cn):=(HG.cell_far ⟨g,0,Y⟩ ab (by grind)).trans e3;have ai:g<J (V wr):=xc ab HG.size;have ax:T<J (V wr):=xc aY HG.size;by_cases hlt:f<i
   ·obtain⟨q,rfl⟩:∃q,i=q+1:=⟨i-1,by omega⟩;have bg:(f:ν)<q+1:=by omega
    have bc:(0:ν)<q+1:=by omega
    have bk:(q:ν)<S rs+1:=by omega
    have aq:(q:ν)+1<(S rs:ν)+1:=by omega
    have bl:(q:ν)<S rs:=by omega
    have bu:(q:ν)+1-1=(q:ν):=by omega
    have bv:IntKind.i64.wrap ((q:ν)+1-1)=(q:ν):=by grind [IntWalk.i64_in]
    have bw:IntKind.i64.wrap (q:ν)=q:=IntWalk.i64_in _ ⟨by omega,by omega⟩;have bx:IntKind.i64.wrap (((q+1:φ):ν)-1)=(q:ν):=by grind
    have bm:¬(S rs:ν)+1<=(q:ν):=by omega
    have aB:q<S rs+1:=by omega
    have bn:q+1<S rs+1:=by omega
    have aa:=af.o;have ah:(vs.take (q+1)++x::vs.drop (q+1)).length=S rs+1:=by simp;omega
    have cp:=LC HO (i:=q) (by omega);have eg:=U8 vs (q+1) x (by omega) (by omega) (by simp;omega);simp only[xy]at eg;rw[eg]at cp;have ci:=LC HO (i:=q+1) (by omega);have fi:=Gg HO (q+1);have be:q<S vs:=by omega
    have az:=aD (Gf HO (i:=q+1) (u:=vs[q]) (by omega));have es:=U9 vs (q+1) x (by omega) (by omega);simp only[xy]at es;rw[es]at az;have aO:=aD (kZ HG (q+1) vs[q]);obtain⟨ua,un,uc,E⟩:∃ua un uc,vs[q]=I ua un uc:=by
     obtain⟨a1,c1,e1,_⟩:=(H.y.y q (by omega) vs[q] (xo be)).form;exact⟨a1,_,c1,e1⟩
    have bj:(0:ν)<=q+1:=by omega
    generalize vs[q]=u at*;subst E;generalize(vs.take (q+1)++x::vs.drop (q+1))[q+1]=y at*;clear aa ah eg es;go_upto_region 6 with fail
    go_region_held3 (λw'=>w'.cell? ⟨g,0,Y⟩=C (VV T (S rs+1) cn)/\w'.cell? ⟨T,q,Y⟩=C (I ua un uc)) (first|exact⟨e4,cp⟩|exact⟨(fC (by omega)).trans e4,(y6 _ _ _ _ (by simp)).trans cp⟩) (first|fail);go_wp2;go_roundw;exact⟨q,_,by omega,by omega,by first|rfl|go_num,az,Bb aO⟩;simp[ξ]
   ·have al:f=i:=by omega
    subst al;have bh:decide ((f:ν)<f)=M:=ρ (by omega);have aq:(f:ν)<((S rs+1:φ):ν):=by omega
    have aa:=af.o;have ah:(vs.take f++x::vs.drop f).length=S rs+1:=by simp;omega
    have ci:=LC HO (i:=f) (by omega);have fi:=Gg HO f;have am:aC (∀k,k<J (V w)->k≠g->(xh xa (S rs) ca).ownBlock≠C k->wr.heap[k]?=w.heap[k]?):=λk h1 h2 h3=>by
     rw[HG.block k (by omega) (by
      intro e
      rcases AT.o with h4|h4
      ·grind
      grind),F3 k h1 h2 h3]
    have aT:aC (YA wr (I ya (S r) yc) r):=aj.own wr (λk e=>am k (by
     rcases aj.o with⟨e1,_⟩|⟨g',cap,e1,_,bq⟩
     ·grind [xF]
     grind [xF]) (aK k e).1 (aK k e).2) (by have:=HG.size;omega)
    generalize(vs.take f++x::vs.drop f)[f]=y at*;clear aa ah;go_upto_region 8 with fail
    go_region_held3 (λw'=>w'.cell? ⟨g,0,Y⟩=C (VV T (S rs+1) cn)) (first|exact e4|exact p4|exact(fC (by omega)).trans p4) (first
     |(go_at_call 115;refine(NO _ r _ (aT.X (xi _ _).drew) (by omega)).mono ?_;rintro e w5 ⟨g5,rfl,aZ,aF,aB⟩;have B5:aC (ω (J (V wr)) wr w5):=((xi (J (V wr)) wr).drew).trans (aB.mono (by simp));have I5:=aD aZ;have p4:=cK B5 ai e4;have p5:=cK B5 ax ci;have p6:=fK B5 ax fi;have aX:J (V wr)<=g5:=(by simpa using aF);have bf:=xc ai B5.size;have bi:=xc ax B5.size))
    all_goals
     (try go_wp2)
     go_end0;have aW:=I5.lt;have O5:=Gf (u:=VV g5 (S r) (S r)) (bH (w':=w5) HO λk e=>B5.block k (HO.lt k e).2) (i:=f) (by omega);rw[Vd vs f x _ (by rw[af.o];exact au)]at O5;have ar:∀k,k<J (V w)->k≠g->(xh xa (S rs) ca).ownBlock≠C k->(w5.setCell ⟨T,f,Y⟩ (VV g5 (S r) (S r))).heap[k]?=w.heap[k]?:=λk h1 h2 h3=>by
      have ba:k≠T:=λe=>by
       rcases AT.o with h4|h4
       ·exact h3 (by rw[h4,e])
       ·omega
      rw[xn _ _ _ _ ba,B5.block k (by have:=HG.size;omega),am.o k h1 h2 h3]
     have aw:J (V w)<=(w5.setCell ⟨T,f,Y⟩ (VV g5 (S r) (S r))).heap.size:=by have:=HG.size;have:=B5.size;simp;omega
     have aV:YA (w5.setCell ⟨T,f,Y⟩ (VV g5 (S r) (S r))) (VV g5 (S r) (S r)) r:=(I5.aG (xn _ _ _ _ (by simp;omega))).rG (S r);have aH:∀u∈vs,∀l,YA w u l->YA (w5.setCell ⟨T,f,Y⟩ (VV g5 (S r) (S r))) u l:=λu E l hl=>hl.own _ (λk e=>by
      have K:=H.fps u E k e;exact ar k (H.fpl k K) (H.dis k K).1 (H.dis k K).2) aw
     have aa:=af.o;refine⟨Z,_,vs.take f++VV g5 (S r) (S r)::vs.drop f,g5::fp,⟨(fC (by omega)).trans p4,by simpa using bf,?_,⟨?_,?_,?_⟩,?_,?_,?_,?_,?_⟩,?_⟩
     ·rw[World.frozen?_setCell,B5.frozen (p:=⟨g,0,Y⟩) ai,HG.frozen_far ⟨g,0,Y⟩ ab (by simp;exact λe=>ad e.symm)];obtain⟨c,z⟩:=T3.o
      rcases z with z|z<;>simp[xx,z]
     ·have e5:(rs.take f++r::rs.drop f).length=S rs+1:=by simp;omega
      rw[e5];exact O5
     ·simp;omega
     ·exact λq hq u E=>Gh (R:=YA _) aa au (λi hi u E=>aH u (xq E) _ (H.y.y i hi u E)) aV q hq u E
     ·obtain⟨c,z⟩:=T3.o;have ae:(w5.setCell ⟨T,f,Y⟩ (VV g5 (S r) (S r))).heap[g]?=W3.heap[g]?:=by rw[xn _ _ _ _ λe=>ad e.symm,B5.block g ai,HG.block g ab (by simp;exact λe=>ad e.symm)]
      rcases z with z|z
      ·exact⟨c,xj (ae.trans z)⟩
      ·exact⟨c,xg (ae.trans z)⟩
     ·intro u E k e
      rcases List.mem_append.1 E with E|E
      ·exact y7 _ (H.fps u (List.mem_of_mem_take E) k e)
      ·rcases List.mem_cons.1 E with rfl|E
       ·simp[xF]at e;subst e;simp
       ·exact y7 _ (H.fps u (List.mem_of_mem_drop E) k e)
     ·intro k K
      rcases List.mem_cons.1 K with rfl|K
      ·simpa using aW
      ·exact xc (H.fpl k K) aw
     ·intro k K
      rcases List.mem_cons.1 K with rfl|K
      ·exact⟨by omega,by simp[xF];omega⟩
      ·refine⟨(H.dis k K).1,?_⟩;intro e;simp[xF]at e
       rcases AT.o with h4|h4
       ·exact(H.dis k K).2 (by rw[h4,e])
       ·have:=H.fpl k K;omega
     ·refine⟨λq hq u E=>Gh (R:=Av _) aa au (λi hi u E=>(H.hand.ex i hi u E).own λk e=>?_) ⟨g5,Z,I5.aG (xn _ _ _ _ (by simp;omega))⟩ q hq u E,U7 f H.hand.nd λu E e=>?_⟩
      ·have K:=H.fps u (xq E) k e;exact ar k (H.fpl k K) (H.dis k K).1 (H.dis k K).2
      ·have:=H.fpl g5 (H.fps u E g5 e.symm);have:=HG.size;omega
     ·refine⟨?_,?_,?_,aw,ar,?_,?_,?_⟩
      ·exact(B5.os.trans HG.os).trans G3.1
      ·exact(B5.tape.trans HG.tape).trans G3.2.1
      ·exact(B5.output.trans HG.output).trans G3.2.2
      ·rcases AT.o with h4|h4
       ·exact xj (by rw[h4];rfl)
       ·exact xg ⟨T,Z,h4⟩
      ·intro k K
       rcases List.mem_cons.1 K with rfl|K
       ·exact xg (by have:=HG.size;omega)
       ·exact xj K
      ·rw[fC (by omega),B5.cell (p:=⟨g,1,Y⟩) ai,HG.cell_far ⟨g,1,Y⟩ ab (by simp;exact λe=>ad e.symm)];exact aN
structure JX(P:φ->Prop)(w w':ψ):Prop where
 os:w'.os=w.os
 tape:w'.tape=w.tape
 output:w'.output=w.output
 size:J (V w)<=J (V w')
 block:∀k,k<J (V w)->¬P k->w'.heap[k]?=w.heap[k]?
section
variable {P P':φ->Prop}{w w1 w2:ψ}
theorem JX.refl(P:φ->Prop)(w:ψ):JX P w w:=⟨Z,Z,Z,xd _,λ_ _ _=>Z⟩
def JX.of(h:ω (J (V w)) w w1):JX P w w1:=⟨h.os,h.tape,h.output,h.size,λk a _=>h.block k a⟩
def JX.trans(h:JX P w w1)(k:JX P' w1 w2)(e:∀x,x<J (V w)->P' x->P x):JX P w w2 :=
 ⟨k.os.trans h.os,k.tape.trans h.tape,k.output.trans h.output,Nat.le_trans h.size k.size,λx a d=>(k.block x (xc a h.size) λc=>d (e x a c)).trans (h.block x a d)⟩
def JX.X(h:JX P w w1)(k:ω (J (V w1)) w1 w2):JX P w w2:=h.trans (JX.of (P:=λ_=>False) k) λ_ _ e=>e.elim
theorem JX.set(h:JX P w w1)(d:P g\/J (V w)<=g)(i:φ)(u:ι):JX P w (w1.setCell ⟨g,i,Y⟩ u):=
 ⟨h.os,h.tape,h.output,by simpa using h.size,λx c a=>(xn _ _ _ _ λe=>by
  grind).trans (h.block x c a)⟩
def JX.mono(h:JX P w w1)(e:∀x,x<J (V w)->P x->P' x):JX P' w w1:=⟨h.os,h.tape,h.output,h.size,λx a d=>h.block x a λc=>d (e x a c)⟩
def Blk.x{l:σ ι}(h:Blk w g l t)(c:JX P w w1)(a:¬P g):Blk w1 g l t:=h.keep (c.block g h.lt a)
end
def ZH(w:ψ)(D:W->Prop)(v:T)(r:K z):Prop:=∃b cap,v=VV b (S r) cap/\(∀i (h:i<S r),w.cell? ⟨b,i,Y⟩=C (U O r[i]))/\b<J (V w)/\¬D b
theorem iF(h:w'.heap[b]?=w.heap[b]?):w'.cell? ⟨b,i,Y⟩=w.cell? ⟨b,i,Y⟩:=y5 (a:=⟨b,i,Y⟩) h
def ZH.x{D P:φ->Prop}(h:ZH w D v r)(e:JX P w w')(k:∀x,x<J (V w)->P x->D x):ZH w' D v r:=by
 obtain⟨b,cap,rfl,f,a,d⟩:=h;exact⟨b,cap,Z,λi j=>(iF (e.block b a λc=>d (k b a c))).trans (f i j),xc a e.size,d⟩
def tV(w:ψ)(D:W->Prop)(us:K T)(A:K (K z)):Prop:=S us=S A/\∀(i:W) u a,us[i]?=C u->A[i]?=C a->ZH w D u a
def ZE(w:ψ)(D:W->Prop)(ov:T)(rs:K (K z)):Prop :=
 ∃us,tV w D us rs/\(ov=I Y 0 0/\rs=[]\/∃b cap,ov=VV b (S rs) cap/\(∀(i:W) u,us[i]?=C u->w.cell? ⟨b,i,Y⟩=C u)/\b<J (V w)/\¬D b/\S rs<=cap)
section
variable {D P:φ->Prop}{w w':ψ}
def tV.x(h:tV w D us A)(f:JX P w w')(e:∀x,x<J (V w)->P x->D x):tV w' D us A:=⟨h.1,λi u a c d=>(h.2 i u a c d).x f e⟩
theorem tV.bD{a:σ ν}(h:tV w D us A)(k:ZH w D u a):tV w D (us++[u]) (A++[a]):=by
 refine⟨by simp[h.1],λi x y d e=>?_⟩;by_cases c:i<S us
 ·rw[xz c]at d;rw[xz (by rw[<- h.1];exact c)]at e;exact h.2 i x y d e
 ·rw[y0 (by omega)]at d;rw[y0 (by rw[<- h.1];omega)]at e
  grind
def ZE.x(h:ZE w D ov rs)(d:JX P w w')(j:∀x,x<J (V w)->P x->D x):ZE w' D ov rs:=by
 obtain⟨us,k,q⟩:=h;refine⟨us,k.x d j,q.imp id λ⟨b,cap,e,s,a,f,z⟩=>⟨b,cap,e,λi u E=>(iF (d.block b a λc=>f (j b a c))).trans (s i u E),xc a d.size,f,z⟩⟩
def ZH.of(h:ZH w D v r)(f:∀x,x<J (V w)->D' x->D x):ZH w D' v r:=by
 obtain⟨b,cap,rfl,d,a,e⟩:=h;exact⟨b,cap,Z,d,a,λc=>e (f b a c)⟩
def ZE.of(h:ZE w D ov rs)(j:∀x,x<J (V w)->D' x->D x):ZE w D' ov rs:=by
 obtain⟨us,d,k⟩:=h;exact⟨us,⟨d.1,λi u a e1 e2=>(d.2 i u a e1 e2).of j⟩,k.imp id λ⟨b,cap,e,q,f,s,z⟩=>⟨b,cap,e,q,f,λc=>s (j b f c),z⟩⟩
theorem ZE.own(d:w.ownsRow B 37 1 ov (S us) us)(h:tV w D us rs)(z:∀x,D x->x<B):ZE w D ov rs:=by
 refine⟨us,h,?_⟩;obtain⟨_,d⟩:=d
 rcases d with⟨e,f⟩|⟨g,cap,a,e,f,j,q,E,F,s⟩
 ·have:S rs=0:=by rw[<- h.1];exact f
  grind
 ·refine xg ⟨g,cap,by rw[<- h.1];exact e,λi u k=>?_,dC j,λc=>absurd (z g c) (by omega),by rw[<- h.1];exact q⟩;have H:=(List.getElem?_eq_some_iff.1 k).1;have e2:(a.toList.take (S us*1))[i]?=a.toList[i]?:=by grind
  rw[s,k]at e2;have e3:a[i]?=C u:=by grind
  simp[World.cell?,j,e3]
end
def jw(tg:Bool)(pv ev rv bv fv av ov:T)(c:Bool):K T:=[L tg,pv,ev,rv,bv,fv,av,ov,L c]
namespace Q
theorem Ve:∀{x:K z} (k:W),S x=S o->(∀j,j<k->x.getD j 0=o.getD j 0)->k<S o->x.getD k 0≠o.getD k 0->cmp x o=x.getD k 0-o.getD k 0:=by
 induction o with
 |nil=>intro x k _ _ h;simp at h
 |cons b y ih =>
  intro x k d c q e
  cases x with
  |nil=>simp at d
  |cons a x =>
   cases k with
   |zero =>
    grind [cmp]
   |succ k =>
    have f:a=b:=by simpa using c 0 (by omega)
    grind [cmp]
theorem Vf{x:K z}(a:S x=S o)(h:∀j,j<S o->x.getD j 0=o.getD j 0):x=o:=by
 grind [List.ext_getElem]
theorem Gj{l:K (K z)}:y∈eI l r↔y=r\/y∈l:=by
 refine⟨LU,λh=>?_⟩
 induction l with
 |nil=>rcases h with rfl|h;simp[eI];simp at h
 |cons x xs ih =>
  grind [eI,OA]
end Q
def LL(w:ψ)(v:T)(rs:K (K z)):Prop:=∃o cap,v=I o (S rs) cap/\(0<S rs->∃b,o=C ⟨b,0,Y⟩/\b<J (V w)/\∀i (h:i<S rs),∃a c,w.cell? ⟨b,i,Y⟩=C (VV a rs[i].length c)/\a<J (V w)/\∀k (h2:k<rs[i].length),w.cell? ⟨a,k,Y⟩=C (U O rs[i][k]))
def Vg(W X:ι)(rs:σ (σ ν))(w:ψ)(ha:LL w W rs)(hb:LL w X rs)(hn:S rs<100000000)(hs:∀r∈rs,S r<1000):
  η ζ 23 #[W,X] w λe w'=>e=N (L true)/\ω (J (V w)) w w':=by
 obtain⟨xa,ca,rfl,F⟩:=ha;obtain⟨xb,cb,rfl,H⟩:=hb;have s:=aD F;have z:=aD H;have HS:=aD hs;go_in;go_wp2;go_loopw[5] (λj wr=>∃k:φ,k<=S rs/\j=U O k/\ω (J (V w)) w wr) λj _=>S rs-(ξ j).toNat
 case atStart=>exact⟨0,xe _,Z,xi _ _⟩
 case round =>
  obtain⟨i,hi,rfl,a⟩:=hrel;by_cases hlt:i<S rs
  ·have D:=lI hlt;obtain⟨b1,rfl,c,h1⟩:=s.o (by omega);obtain⟨b2,rfl,d,h2⟩:=z.o (by omega);obtain⟨a1,c1,K,l1,q1⟩:=h1 i hlt;obtain⟨a2,c2,T,l2,q2⟩:=h2 i hlt;have aa:=HS.o rs[i] (xk hlt);generalize rs[i]=r at*;have Q1:=aD q1;have Q2:=aD q2;have d1:=cK a c K;have d2:=cK a d T;have f:=aD K;have q:=aD T;have HB:=aD a;go_wp2;go_quiet (fail)
   all_goals
    go_wp2;go_loopw[6] (λj wy=>∃k:φ,k<=S r/\j=U O k/\aC (ω (J (V w)) w wy)) λj _=>S r-(ξ j).toNat
    case atStart=>exact⟨0,xe _,Z,HB.trans (iU _ _ _)⟩
    case round =>
     obtain⟨k,hk,rfl,HB⟩:=hrel;have d1:=cK HB c f;have d2:=cK HB d q;by_cases hkl:k<S r
     ·have E:=lI hkl;have e1:=cK HB l1 (Q1 k hkl);have e2:=cK HB l2 (Q2 k hkl);generalize r[k]=x at*;go_wp2;go_quiet (fail)
      all_goals
       go_wp2;go_roundw;exact⟨k+1,by omega,by go_num,HB.trans (iU _ _ _)⟩;simp[ξ];omega
     ·have E:decide ((k:ν)<S r)=M:=ρ (by omega);go_wp2;go_roundw;exact⟨i+1,by omega,by go_num,HB⟩;simp[ξ];omega
  ·have D:decide ((i:ν)<S rs)=M:=ρ (by omega);go_wp2;go_ret;exact⟨Z,a⟩
theorem JK{a:ψ}{f j q s s0 s1 s2 s3:T}(h:a.heap[b]?=C (G #[f,j,q,s] t (0,0))):
  ((((a.setCell ⟨b,0,Y⟩ s0).setCell ⟨b,1,Y⟩ s1).setCell ⟨b,2,Y⟩ s2).setCell ⟨b,3,Y⟩ s3).heap[b]?=C (G #[s0,s1,s2,s3] t (0,0))/\(∀k,k≠b->((((a.setCell ⟨b,0,Y⟩ s0).setCell ⟨b,1,Y⟩ s1).setCell ⟨b,2,Y⟩ s2).setCell ⟨b,3,Y⟩ s3).heap[k]?=a.heap[k]?)/\
   ∀(w:ψ) (B:W),B<=b->ω B w a->ω B w ((((a.setCell ⟨b,0,Y⟩ s0).setCell ⟨b,1,Y⟩ s1).setCell ⟨b,2,Y⟩ s2).setCell ⟨b,3,Y⟩ s3):=by
 refine⟨?_,λk x=>?_,λw B c e=>?_⟩
 ·have d:=cI h 0 s0;have e1:=cI d 1 s1;rw[cI (cI e1 2 s2) 3 s3];rfl
 ·grind [xn]
 ·exact(((e.setCell (p:=⟨b,0,Y⟩) c _).setCell (p:=⟨b,1,Y⟩) c _).setCell (p:=⟨b,2,Y⟩) c _).setCell (p:=⟨b,3,Y⟩) c _
def IE{a b c d:T}(h:w.heap[g]?=C (G #[a,b,c,d] t (0,0))):w.cell? ⟨g,0,Y⟩=C a/\w.cell? ⟨g,1,Y⟩=C b/\w.cell? ⟨g,2,Y⟩=C c/\w.cell? ⟨g,3,Y⟩=C d/\(∀j,w.frozen? ⟨g,j,Y⟩=M)/\g<J (V w):=by
 refine⟨?_,?_,?_,?_,λj=>?_,dC h⟩<;>simp[World.cell?,xx,h]
def MY(w w':ψ)(rs bs:K z)(e:Ending):Prop:=∃gr gb gd,e=N (.agg #[VV gr (S rs) (S rs),VV gb (S bs) (S bs),VV gd (S bs) (S bs),L M])/\WO w' gr rs/\WO w' gb bs/\WO w' gd (hZ (S bs))/\J (V w)<=gr/\J (V w)<=gb/\J (V w)<=gd/\gr≠gd/\gb≠gd/\ω (J (V w)) w w'
namespace Q
def oG(es:K Ev)(rs:K z)(i q:W):z:=1+(((xR q).filter (lY es rs i)).length:W)
theorem Vh(a:K Ev)(rs:K z)(i q:W):oG a rs i (q+1)=oG a rs i q+if lY a rs i q then 1 else 0:=by
 grind [oG,Gb]
theorem Vi(a:K Ev)(rs:K z)(i q:W):0<=oG a rs i q/\oG a rs i q<=q+1:=by
 grind [oG]
end Q
theorem Vj(ev rg v:ι)(d:σ Ev)(rs:σ ν)(w:ψ)(he:YG w ev d)(aH:∃a n c,rg=I a n c)(hv:YA w v rs)(hl:S rs=S d)(hn:S rs<=64):
  η ζ 106 #[.agg #[ev,rg],v] w λe w'=>MY w w' rs (XR d rs) e:=by
 have aX:∀w,(y3 37 (U O (S rs:ν)) (U O (S rs:ν))).run ζ w=.ok (VV (J (V w)) (S rs) (S rs)) (w.alloc (G (δ #[U O 0] (S rs)) 3)):=
  λw=>run_make_row' 37 3 (U O 0) 8 π Tryz.XE Z O O (S rs) (by omega) (by omega) w
 obtain⟨ea,ec,rfl,K⟩:=he.form;obtain⟨va,vc,rfl,aj⟩:=hv.form;obtain⟨ra,rn,rc,rfl⟩:=aH;rw[<- hl]at K;have aL:S rs<=S d:=by omega
 have aM:S d<=S rs:=by omega
 clear hl;have F:aC ((XR d rs).length=S rs):=by simp[aC,XR]
 obtain⟨k0,k1,aI,ag⟩:=nZ w #[I ea (S d) ec,I ra rn rc] #[I Y 0 0,I Y 0 0,I Y 0 0,L M] 80 146;have ak:=aD he;have aq:=aD (hv.X ag);have E:=aD ag;go_in;go_upto_region 1 with fail
 generalize hE:(w.alloc (G #[I ea (S d) ec,I ra rn rc] 80)).alloc (G #[I Y 0 0,I Y 0 0,I Y 0 0,L M] 146)=W0 at*;have au:=gE k0 0 _ Z;have l0:J (V w)<J (V W0):=by omega
 have l1:J (V w)+1<J (V W0):=by omega
 have K1:=aD k1;have al:aC (WO (W0.alloc (G (δ #[U O 0] (S rs)) 3)) (J (V W0)) (kI (nW d rs) (S rs) 0)):=by
  grind [WO,RE,DZ,τ]
 clear hE k0 k1 aI;go_wp2;go_loopw[14] (λj wr=>∃(k:φ),k<=S rs/\j=U O k/\aC (WO wr (J (V W0)) (kI (nW d rs) (S rs) k))/\aC (ω (J (V W0)) W0 wr)) λj _=>S rs-(ξ j).toNat
 case atStart=>exact⟨0,xe _,Z,al,bB⟩
 case round =>
  obtain⟨k,hk,rfl,HI,f⟩:=hrel;by_cases hlt:k<S rs
  ·have aW:=lI hlt;obtain⟨be,rfl,av⟩:=K (by omega);obtain⟨gv,rfl,ax,aw⟩:=aj (by omega);have af:be<J (V W0):=by omega
   have D:gv<J (V W0):=by omega
   have aa:aC (∀q (hq:q<S rs),W0.cell? ⟨gv,q,Y⟩=C (U O (rs.getD q (-1)))):=λq hq=>by rw[pH rs q hq];exact cK E ax (aw q hq)
   have ck:wr.cell? ⟨gv,k,Y⟩=C (U O (rs.getD k (-1))):=cK f D (aa k hlt);have cp:=HI.eG k (by grind [LY]);have fp:=HI.free k;have ai:k<(kI (nW d rs) (S rs) k).length:=by grind [LY]
   have ab:=aD (HI.set k 1);have aO:=aD (QS (nW d rs) (S rs) k hlt);have aP:aC (nW d rs k=oG d rs k k):=Z;have ao:aC (oG d rs k 0=1):=Z;have an:aC (∀q,Q.lY d rs k q=(rs.getD k (-1) != -1&&rs.getD q (-1)==rs.getD k (-1)&&(Q.ev d q).j != -1)):=λq=>Z
   have W:aC (ω (J (V W0)) W0 (wr.setCell ⟨J (V W0),k,Y⟩ (U O 1))):=f.setCell (p:=⟨J (V W0),k,Y⟩) (xd _) _;generalize aN:rs.getD k (-1)=row at*;generalize aZ:(kI (nW d rs) (S rs) k).getD k 0=bg at*;generalize aR:kI (nW d rs) (S rs) k=MM at*;go_wp2;go_loopw[8] (λj wq=>∃(q:φ),q<=k/\j=U O q/\aC (WO wq (J (V W0)) (MM.set k (oG d rs k q)))/\aC (ω (J (V W0)) W0 wq)) λj _=>k-(ξ j).toNat
   case atStart=>exact⟨0,xe _,Z,by rw[ao.o];exact ab,W⟩
   case round =>
    clear ck cp fp ab W;obtain⟨q,hq,rfl,T,s⟩:=hrel;have aQ:=cK s l0 au;by_cases hql:q<k
    ·have bb:=lI hql;have ba:(q:ν)<S d:=by omega
     have bd:(q:ν)<S rs:=by omega
     have aF:q<S rs:=by omega
     have cq:wr.cell? ⟨gv,q,Y⟩=C (U O (rs.getD q (-1))):=cK s D (aa q aF);have ap:aC (wr.rangeAt be (q*10) (aK (Q.ev d q)).toList):=lC (ak.cZ Z q (by omega)) ((s.block be af).trans (E.block be av));have ct:=ap.o 1 (U O (Q.ev d q).j) Z;have aB:k<(MM.set k (oG d rs k q)).length:=by simp_all [xw]
     have ck:=T.eG k aB;rw[U1 _ _ _ ai]at ck;have fk:=T.free k;have HS:=aD (Vh d rs k q);have z:=aD (an.o q);have aS:=Vi d rs k q;have ac:=aD (T.set k (oG d rs k q+1));rw[List.set_set]at ac;generalize rs.getD q (-1)=x at*;generalize(Q.ev d q).j=th at*;generalize aY:oG d rs k q=oo at*
     cases z1:row != -1
     ·have H:aC (oG d rs k (q+1)=oo):=by unfold aC;rw[HS.o,z.o,z1];simp
      go_wp2;go_roundw;exact⟨q+1,by omega,by go_num,by rw[H.o];exact T,s⟩;simp[ξ];omega
     cases z2:x==row
     ·have H:aC (oG d rs k (q+1)=oo):=by unfold aC;rw[HS.o,z.o,z1,z2];simp
      go_wp2;go_roundw;exact⟨q+1,by omega,by go_num,by rw[H.o];exact T,s⟩;simp[ξ];omega
     cases z3:th != -1
     ·have H:aC (oG d rs k (q+1)=oo):=by unfold aC;rw[HS.o,z.o,z1,z2,z3];simp
      go_wp2;go_roundw;exact⟨q+1,by omega,by go_num,by rw[H.o];exact T,s⟩;simp[ξ];omega
     ·have H:aC (oG d rs k (q+1)=oo+1):=by unfold aC;rw[HS.o,z.o,z1,z2,z3];simp
      go_wp2;go_roundw;exact⟨q+1,by omega,by go_num,by rw[H.o];exact ac,s.setCell (p:=⟨J (V W0),k,Y⟩) (xd _) _⟩;simp[ξ];omega
    ·have bc:q=k:=by omega
     have am:aC (WO wr (J (V W0)) (kI (nW d rs) (S rs) (k+1))):=by
      simp_all [aC]
     go_wp2;go_roundw;exact⟨k+1,by omega,by go_num,am,s⟩;simp[ξ];omega
  ·have aA:k=S rs:=by omega
   have HF:aC (WO wr (J (V W0)) (XR d rs)):=by
    have h1:=HI.o;rw[aA,UT]at h1;exact h1
   have ar:=aD (aq.X f);clear HI K aj;go_wp2_with(first
    |(go_at_call 92;refine(QI _ (XR d rs) _ (by have h1:=(HF.X ad).rG (S rs) (by rw[F.o];exact xd _);rw[F.o]at h1;exact h1) (by rw[F.o];omega)).mono ?_;rintro e w2 ⟨v1,v2,v3,rfl,⟨gb,gd,rfl,rfl,rfl,ay,az,aU,aV,aE⟩,ae⟩;have B2:aC (ω (J (V W0)) W0 w2):=bT (CH f (xd _) ad) ae;have K2:=aD ((B2.block _ l1).trans K1);obtain⟨t0,t1,t2,t3,tf,tl⟩:=IE K2;have IB:=aD ay;have ID:=aD az;have IR:=aD (ah.X ae))
    |(go_at_call 115;refine(NO _ rs _ ar (by omega)).mono ?_;rintro e w1 ⟨g1,rfl,ah,aJ,ad⟩))
   obtain⟨s0,s1,s2⟩:=JK (s0:=VV g1 (S rs) (S rs)) (s1:=VV gb (XR d rs).length (XR d rs).length) (s2:=VV gd (XR d rs).length (XR d rs).length) (s3:=L M) K2;have bf:=f.size;have aT:=ah.lt;refine tS (p:=4) (J (V w)+1) _ (by kernel_rfl) underlying146 Z (by kernel_rfl) Z (by exact s0) Z ⟨g1,gb,gd,Z,IR.aG (s1 _ (by omega)),IB.aG (s1 _ (by omega)),ID.aG (s1 _ (by omega)),by omega,by omega,by omega,by omega,aE,s2 _ _ (by omega) (bT E B2)⟩
namespace Q
def gP(es:K Ev)(i k:W):K z:=((xR k).filter (dX es i)).map λk:W=>(k:z)
theorem Vk(a:K Ev)(i k:W):gP a i (k+1)=gP a i k++if dX a i k then[(k:z)]else[]:=by
 unfold gP;rw[xu,List.filter_append,y1]
 grind
theorem Vl(a:K Ev)(i k:W):(gP a i k).length<=k:=by
 grind [gP]
end Q
theorem WN.cR{e:Ev}(h:WN w g e)(f:w.ownsRow B t sz u n xs)(q:t≠180)(d:w.grownBy w' u.ownBlock):WN w' g e:=by
 have c:=h.lt;unfold WN at*;rw[d.block g c λe=>by
  rcases f.2 with⟨e1,_⟩|⟨j,cap,a,e1,_,k,_⟩
  ·grind [xF]
  grind [xF]]
 exact h
theorem Vm(ev rg:ι)(d:σ Ev)(i:φ)(w:ψ)(he:YG w ev d)(aA:∃a n c,rg=I a n c)(hi:i<S d)(hn:S d<=64):
  η ζ 138 #[.agg #[ev,rg],U O (i:z)] w λe w'=>∃v,e=N v/\YA w' v (pI d i)/\(∀k,v.ownBlock=C k->J (V w)<=k)/\ω (J (V w)) w w':=by
 obtain⟨i0,ay,aE,aF,aG⟩:=θ Tryz.YL;obtain⟨ea,ec,rfl,ai⟩:=he.form;obtain⟨ra,rn,rc,rfl⟩:=aA;obtain⟨T,rfl,ax⟩:=ai (by omega);obtain⟨k0,aB,(D:aC _)⟩:=nY w #[VV T (S d) ec,I ra rn rc] 80;have aq:=aD he;have af:aC (∀W:ψ,ω (J (V w)) w W->∀k,k<S d->W.rangeAt T (k*10) (aK (Q.ev d k)).toList):=λW x k hk=>lC (aq.cZ Z k hk) (x.block T ax)
 have aQ:=lI hi;have aJ:aC (pI d i=if(Q.ev d i).kind==0 then gP d i (S d)else[-1]):=Z;have ar:aC (∀k,Q.dX d i k=((Q.ev d k).kind==1&&(Q.ev d k).z==(Q.ev d i).z&&(Q.ev d k).value==(Q.ev d i).value&&!((Q.ev d i).step&&k==i+1))):=λ_=>Z
 clear he ai;go_in;go_upto_region 1 with fail
 generalize hE:w.alloc (G #[VV T (S d) ec,I ra rn rc] 80)=W0 at*;have aM:=gE k0 0 _ Z;have l0:J (V w)<J (V W0):=by omega
 have ag:=aD (af.o W0 D i hi);have ck:=ag.o 0 (U O (Q.ev d i).kind) Z;have aO:decide ((i:z)<0)=M:=ρ (by omega);clear hE k0 aB;have al:((Q.ev d i).kind != 0)=!((Q.ev d i).kind==0):=Z;generalize aP:Q.ev d i=q at*;simp only[Nat.add_zero]at ck
 cases z0:q.kind==0
 ·rw[z0]at al;have HV:aC (pI d i=[-1]):=by grind
  go_wp2;go_ret;refine⟨_,Z,?_,λk hk=>by simp[xF]at hk;omega,D.alloc (by omega) _⟩;rw[HV.o];refine xg ⟨J (V W0),1,Z,λj hj=>?_,by simp⟩;have aS:j=0:=by simp at hj;omega
  simp_all [τ]
 ·rw[z0]at al;have HV:aC (pI d i=gP d i (S d)):=by grind
  have ac:aC (WN (W0.alloc (G (aK q) 180)) (J (V W0)) q):=WN.new W0 q;have ad:aC (ω (J (V W0)) W0 (W0.alloc (G (aK q) 180))):=bB;go_wp2_with(first|(refine jQ (.tmp 32) Z Z T (i*10) q Z ag ?_));go_loopw[6,37] (λa j wr=>∃(k:φ) (v:ι),k<=S d/\j=U O k/\a=v/\aC (wr.ownsRow (J (V W0)) 3 1 v (gP d i k).length ((gP d i k).map (xW O)))/\aC (ω (J (V W0)) W0 wr)/\aC (WN wr (J (V W0)) q)) λ_ j _=>S d-(ξ j).toNat
  case atStart=>exact⟨0,_,xe _,Z,Z,by grind [aC,gP,y2],ad,ac⟩
  case round =>
   clear ac ad;obtain⟨k,v,hk,rfl,aa,HO,HB,HA⟩:=hrel;have aa:=aa.symm;subst aa;have ab:∃a c,v=I a (gP d i k).length c:=by
    rcases HO.2 with⟨e,h0⟩|⟨g',c,aN,e,_⟩
    ·grind
    ·exact⟨_,c,e⟩
   obtain⟨va,vc,rfl⟩:=ab;by_cases hlt:k<S d
   ·have aR:=lI hlt;have ah:=aD (af.o wr (bT D HB) k hlt);have HS:=aD (Vk d i k);have au:=aD (ar.o k);rw[au.o]at HS;have aT:=Vl d i k;generalize Q.ev d k=e1 at*;have ae:aC (ω (J (V W0)) W0 (wr.alloc (G (aK e1) 180))):=HB.alloc HB.size _;have E:=aD (HA.alloc (G (aK e1) 180));have H:aC ((wr.alloc (G (aK e1) 180)).ownsRow (J (V W0)) 3 1 (I va (gP d i k).length vc) (gP d i k).length ((gP d i k).map (xW O))):=bH HO λy e=>xm _ _ _ (HO.lt y e).2;obtain⟨x0,x1,x2,x3,x4,x5,x6,x7,x8,x9,xf,xl⟩:=E.F;clear x0 x1 x2 x5 x6 x7 x9;simp only[aK]at x3 x4 x8 xf xl;have aj:((k:z)==(i:z)+1)=(k==i+1):=by
     grind
    have aL:aC (∀b:Bool,b=M->gP d i (k+1)=gP d i k++(if b then[(k:z)]else[])->gP d i (k+1)=gP d i k):=λb x h=>by grind
    generalize ak:q.step=sp at*;clear ak
    cases x:e1.kind==1&&e1.z==q.z&&e1.value==q.value&&!(sp&&k==i+1)
    ·rw[x]at HS;have HN:aC (gP d i (k+1)=gP d i k):=HS.trans (by simp);cases sp
     case' true =>
      cases z5:k==i+1
      all_goals rw[z5]at aj
     all_goals
      cases z1:e1.kind==1
      case' true =>
       cases z2:e1.z==q.z
       case' true=>cases z3:e1.value==q.value
     all_goals
      first
       |(exfalso;simp[z1,z2,z3,z5]at x;done)
       |(exfalso;simp[z1,z2,z3]at x;done)
       |(clear x
         go_wp2_with(first|(refine jQ (.tmp 40) Z Z T (k*10) e1 Z ah ?_));go_roundw;exact⟨k+1,_,by omega,by go_num,Z,by rw[HN.o];exact H,ae,E⟩;simp[ξ];omega)
    ·rw[x]at HS;have HN:aC (gP d i (k+1)=gP d i k++[(k:z)]):=HS.trans (by simp);simp only[Bool.and_eq_true]at x;obtain⟨⟨⟨z1,z2⟩,z3⟩,z5⟩:=x;cases sp
     case' true=>rw[show(k==i+1)=M by simpa using z5]at aj
     all_goals
      have aU:J (V W0)<=J (V wr):=HB.size;have BA:ω (wr.alloc (G (aK e1) 180)).heap.size (wr.alloc (G (aK e1) 180)) ((wr.alloc (G (aK e1) 180)).alloc (G #[U O (k:z)] 3)):=bB;have K:aC (((wr.alloc (G (aK e1) 180)).alloc (G #[U O (k:z)] 3)).ownsRow (J (V W0)) 3 1 (I va (gP d i k).length vc) (gP d i k).length ((gP d i k).map (xW O))):=bH H λy e=>BA.block y (H.lt y e).2;have av:aC (∀j u,[xW O (k:z)][j]?=C u->((wr.alloc (G (aK e1) 180)).alloc (G #[U O (k:z)] 3)).cell? ((⟨J (V wr)+1,0,Y⟩:Addr).add j)=C u):=y8 (cs:=#[U O (k:z)]) (t:=3) (fr:=(0,0)) (by have:=τ (wr.alloc (G (aK e1) 180)) (G #[U O (k:z)] 3);simpa using this);have ao:aC (ω (J (V W0)) W0 ((wr.alloc (G (aK e1) 180)).alloc (G #[U O (k:z)] 3))):=ae.alloc (by simp;omega) _;have am:=aD (E.X BA);clear BA;go_wp2_with(first|(refine jQ (.tmp 40) Z Z T (k*10) e1 Z ah ?_)|(at_builtin;refine ε _ Z (.tmp 71) (.tmp 73) 37 Z (J (V W0)) 3 i0 (U O 0) 1 8 π ay aE aF aG Z (by decide) _ (gP d i k).length ((gP d i k).map (xW O)) Z (by exact K) ⟨J (V wr)+1,0,Y⟩ 1 1 [U O (k:z)] Z Z (by exact av) (by simp[y9]) (by decide) (by unfold maxLen;omega) (by omega) (by simp;omega) _ Z ?_;intro gn cn w5 s f aH aI));have ap:aC (ω (J (V W0)) W0 w5):=ao.trans ⟨f.os,f.tape,f.output,f.size,λy hy=>f.block y (by simp;omega) λe=>by have:=(K.lt y e.symm).1;omega⟩;have an:=aD (am.cR K (by decide) f);have aw:aC (w5.ownsRow (J (V W0)) 3 1 (VV gn ((gP d i k).length+1) cn) (gP d i (k+1)).length ((gP d i (k+1)).map (xW O))):=by
       unfold aC;rw[HN.o,y1,List.length_append];exact s
      clear s f;go_roundw;exact⟨k+1,_,by omega,by go_num,Z,aw,ap,an⟩;simp[ξ];omega
   ·have az:k=S d:=by omega
    go_wp2;go_ret;refine⟨_,Z,?_,λy hy=>by have:=(HO.lt y hy).1;omega,bT D HB⟩;rw[HV.o,<- az];exact FT HO Z
theorem YA.cR{row:Option φ}(h:YA w v l)(c:w.grownBy w' row)(a:∀k,v.ownBlock=C k->C k≠row):YA w' v l:=by
 refine h.own w' (λk e=>c.block k ?_ (a k e)) c.size
 rcases h with⟨e1,_⟩|⟨f,cap,e1,_,d,_⟩
 ·grind [xF]
 grind [xF]
def Vn(w w':ψ)(cs:K (K z))(e:Ending):Prop:=∃cv vs gb gd,e=N (.agg #[cv,VV gb (S cs) (S cs),VV gd (S cs) (S cs),L M])/\XB w' (J (V w)) cv cs vs/\WO w' gb (YO cs)/\WO w' gd (hZ (S cs))/\J (V w)<=gb/\J (V w)<=gd/\gb≠gd/\cv.ownBlock≠C gd/\(∀u∈vs,∀k,u.ownBlock=C k->J (V w)<=k/\k≠gd)/\ω (J (V w)) w w'
namespace Q
def nK(es:K Ev)(k:W):K (K z):=(xR k).map (pI es)
theorem Vo(a:K Ev)(k:W):nK a (k+1)=nK a k++[pI a k]:=by grind [nK,xu]
def Vp(a:K Ev)(k:W):(nK a k).length=k:=by simp[nK]
theorem Gk(a:K Ev):nK a (S a)=WC a:=rfl
def Vq(cs:K (K z))(c:K z):YO (cs++[c])=YO cs++[(S c:z)]:=by simp[YO]
theorem BH(cs:K (K z)):(YO cs).length=S cs:=by simp[YO]
end Q
theorem AV{s D c:φ}{q:TypeId}{d:σ ι}(h:w.ownsRow B t sz v n xs)(z:w.ownsRow s q c u D d)(X:t≠q)(x:w.grownBy w' u.ownBlock):w'.ownsRow B t sz v n xs/\∀k,v.ownBlock=C k->u.ownBlock≠C k:=by
 have a:∀k,v.ownBlock=C k->u.ownBlock≠C k:=λk e e2=>by
  rcases h.2 with⟨e1,_⟩|⟨H,E,f,e1,_,T,_⟩
  ·grind [xF]
  ·rcases z.2 with⟨e3,_⟩|⟨K,F,j,e3,_,W,_⟩
   ·grind [xF]
   grind [xF]
 exact⟨bH h λk e=>x.block k (h.lt k e).2 λe2=>a k e e2.symm,a⟩
theorem XB.bD{q:ι}(h:XB w B v rs vs)(D:YA w u r)(a:w1.ownsRow B 37 1 q (S rs+1) (vs++[u]))(s:w.grownBy w1 v.ownBlock)(f:∀x∈vs++[u],∀k,x.ownBlock=C k->v.ownBlock≠C k):XB w1 B q (rs++[r]) (vs++[u]):=by
 refine⟨by simpa using a,by simp[h.len],λi z x c=>?_⟩;have j:=f x (xq c);by_cases hlt:i<S rs
 ·rw[xz (by rw[h.len];exact hlt)]at c;rw[List.getElem_append_left hlt];exact(h.y i hlt x c).cR s λk e=>λe2=>j k e e2.symm
 ·simp at z;have d:i=S rs:=by omega
  subst d;rw[y0 (by rw[h.len];exact xd _),h.len]at c
  grind [YA.cR]
def XB.grown{row:Option φ}(h:XB w B v rs vs)(c:w.grownBy w1 row)(j:∀k,v.ownBlock=C k->row≠C k)(a:∀x∈vs,∀k,x.ownBlock=C k->row≠C k):XB w1 B v rs vs :=
 ⟨bH h.own λk e=>c.block k (h.own.lt k e).2 λe2=>j k e e2.symm,h.len,λi f x d=>(h.y i f x d).cR c λk e=>λe2=>a x (xq d) k e e2.symm⟩
theorem YA.gU(h:YA w v l)(k:φ)(e:v.ownBlock=C k):k<J (V w):=by
 rcases h with⟨e1,_⟩|⟨c,cap,e1,_,a,_⟩
 ·grind [xF]
 grind [xF]
theorem Vr(ev rg:ι)(s:σ Ev)(w:ψ)(he:YG w ev s)(aS:∃a n c,rg=I a n c)(hn:S s<=64):
  η ζ 97 #[.agg #[ev,rg]] w λe w'=>Vn w w' (WC s) e:=by
 obtain⟨i0,aK,aU,aV,aW⟩:=θ Tryz.YL;obtain⟨ea,ec,rfl,aJ⟩:=he.form;obtain⟨ra,rn,rc,rfl⟩:=aS;obtain⟨k0,k1,aT,(am:aC _)⟩:=nZ w #[I ea (S s) ec,I ra rn rc] #[I Y 0 0,I Y 0 0,I Y 0 0,L M] 80 92;have aB:=aD (he.X am);clear he aJ;go_in;go_upto_region 1 with fail
 generalize hE:(w.alloc (G #[I ea (S s) ec,I ra rn rc] 80)).alloc (G #[I Y 0 0,I Y 0 0,I Y 0 0,L M] 92)=W0 at*;have aH:=cA k0;have l0:J (V w)<J (V W0):=by omega
 have l1:J (V w)+1<J (V W0):=by omega
 have bb:J (V w)+2<=J (V W0):=by omega
 have K1:=aD k1;clear hE k0 k1 aT;go_wp2;go_loopw[3,4,10] (λa b j wr=>∃(k:φ) (cv K:ι) (vs:σ ι),k<=S s/\j=U O k/\a=cv/\b=K/\aC (XB wr (J (V W0)) cv (nK s k) vs)/\aC (wr.ownsRow (J (V W0)) 3 1 K k ((YO (nK s k)).map (xW O)))/\aC (∀u∈vs,∀y,u.ownBlock=C y->J (V W0)<=y/\y<J (V wr)/\K.ownBlock≠C y/\cv.ownBlock≠C y)/\aC (ω (J (V W0)) W0 wr)) λ_ _ j _=>S s-(ξ j).toNat
 case atStart=>exact⟨0,_,_,[],xe _,Z,Z,Z,⟨by grind [nK,y2],Z,λi h=>by grind⟩,by grind [aC,nK,YO,y2],by simp[aC],xi _ _⟩
 case round =>
  obtain⟨k,cv,K,vs,hk,rfl,ah,ag,HC,HO,HD,HB⟩:=hrel;have ah:=ah.symm;subst ah;have ag:=ag.symm;subst ag;by_cases hlt:k<S s
  ·have bl:=lI hlt;have d0:=kG HB l0 aH;have lw:=xc l0 HB.size;have aE:=aD (aB.X HB);have HS:=aD (Vo s k);have aO:(pI s k).length<=64:=by
    grind [pI]
   have z:=Vp s k;obtain⟨ca,cc,ac,_⟩:=HC.form;rw[z]at ac;go_upto_region 7 with(first|(go_at_call 138;refine(Vm _ _ s k _ aE ⟨_,_,_,Z⟩ hlt hn).mono ?_;rintro e w1 ⟨mv,rfl,aj,aw,T⟩))
   obtain⟨ma,mc,aP,_⟩:=aj.form;generalize bn:pI s k=H at*;subst aP;have B1:aC (ω (J (V W0)) W0 w1):=bT HB T;have C1:=aD (HC.X T);have O1:aC (w1.ownsRow (J (V W0)) 3 1 K k ((YO (nK s k)).map (xW O))):=bH HO λy e=>T.block y (HO.lt y e).2;have M1:=aD aj;have bd:=T.size;have aI:J (V W0)<=J (V w1):=B1.size;have az:aC ((nK s k).length=k):=z;have ae:aC ((w1.alloc (G #[I ma (S H) mc] 37)).ownsRow (J (V W0)) 37 1 cv k vs):=by
    have D:=C1.own;rw[z]at D;exact bH D λy e=>xm _ _ _ (D.lt y e).2
   clear z;subst ac;go_upto_region 8 with(first|(at_builtin;refine wD Tryz.infoRow underlying23 Z Z (.tmp 16) (.tmp 18) Z Z Z Z Z (by exact ae) (by omega) (by omega) ?_;intro gn cn E ab d ad aY))
   have aa:∀y,(xh ca k cc).ownBlock=C y->y<J (V wr):=λy e=>(HC.own.lt y e).2
   have W:∀y,K.ownBlock=C y->y<J (V wr):=λy e=>(HO.lt y e).2
   have BA:ω (J (V w1)) w1 (w1.alloc (G #[I ma (S H) mc] 37)):=bB;have ai:∀x∈vs++[xh ma (S H) mc],∀y,x.ownBlock=C y->(xh ca k cc).ownBlock≠C y/\K.ownBlock≠C y/\J (V W0)<=y/\y<J (V w1):=λx F y e=>by
    rcases List.mem_append.1 F with F|F
    ·obtain⟨q1,q2,q3,q4⟩:=HD.o x F y e;exact⟨q4,q3,q1,by omega⟩
    ·simp at F;subst F;have q1:=aw y e;have q2:=M1.gU y e;exact⟨λe2=>by have:=aa y e2;omega,λe2=>by have:=W y e2;omega,by have:=HB.size;omega,q2⟩
   have C2:aC (XB E (J (V W0)) (VV gn (k+1) cn) (nK s (k+1)) (vs++[I ma (S H) mc])):=by
    unfold aC;rw[HS.o];exact(C1.X BA).bD (M1.X BA) (by rw[az.o];exact ab) d λx F y e=>(ai x F y e).1
   have O2:=AV (bH O1 λy e=>BA.block y (O1.lt y e).2) ae (by decide) d;have bf:=aD O2.1;have bg:J (V w1)+1<=J (V E):=by have:=d.size;simp at this;omega
   have B2:aC (ω (J (V W0)) W0 E):=(B1.alloc aI _).trans ⟨d.os,d.tape,d.output,d.size,λy hy=>d.block y (by simp;omega) λe=>by have:=(ae.lt y e.symm).1;omega⟩;have al:aC ((xh ca k cc).ownBlock=C gn\/J (V w1)<=gn):=by
    rcases ad with D|D
    ·exact xj D
    simp_all
   have an:=aD ai;have ay:aC (∀y,K.ownBlock=C y->(xh ca k cc).ownBlock≠C y/\y<J (V wr)):=λy e=>⟨O2.2 y e,W y e⟩
   have be:=aD aa;have bm:S H<=64:=aO;have ap:aC ((E.alloc (G #[U O (S H:ν)] 3)).ownsRow (J (V W0)) 3 1 K k ((YO (nK s k)).map (xW O))):=bH O2.1 λy e=>xm _ _ _ (O2.1.lt y e).2;have aF:aC (∀j u,[xW O (S H:ν)][j]?=C u->(E.alloc (G #[U O (S H:ν)] 3)).cell? ((⟨J (V E),0,Y⟩:Addr).add j)=C u):=y8 (cs:=#[U O (S H:ν)]) (t:=3) (fr:=(0,0)) (τ E _);obtain⟨ba,bc,af⟩:∃a c,K=I a k c:=by
    rcases HO.2 with⟨e,h0⟩|⟨g',c,aq,e,_⟩
    ·exact⟨Y,0,by rw[e,h0]⟩
    ·exact⟨_,c,e⟩
   clear ab d ad O2 BA ai aa W aw aj T;subst af;go_wp2_with(first|(at_builtin;refine ε _ Z (.tmp 20) (.tmp 23) 37 Z (J (V W0)) 3 i0 (U O 0) 1 8 π aK aU aV aW Z (by decide) (I ba k bc) k ((YO (nK s k)).map (xW O)) Z (by exact ap) ⟨J (V E),0,Y⟩ 1 1 [U O (S H:ν)] Z Z (by exact aF) (by simp[y9]) (by decide) (by unfold maxLen;omega) (by omega) (by simp;omega) _ Z ?_;intro g3 c3 w3 ak f au aZ));have ax:ω (J (V E)) E (E.alloc (G #[U O (S H:ν)] 3)):=bB;have C3:aC (XB w3 (J (V W0)) (VV gn (k+1) cn) (nK s (k+1)) (vs++[I ma (S H) mc])):=(C2.X ax).grown f λy e e2=>by
    simp[xF]at e;obtain⟨q1,q2⟩:=ay.o y e2
    rcases al.o with h4|h4
    ·grind
    ·omega λx F y e=>(an x F y e).2.1
   have O3:aC (w3.ownsRow (J (V W0)) 3 1 (VV g3 (k+1) c3) (k+1) ((YO (nK s (k+1))).map (xW O))):=by
    unfold aC;rw[HS.o,Vq,y1];exact ak
   have B3:aC (ω (J (V W0)) W0 w3):=(B2.alloc (by omega) _).trans ⟨f.os,f.tape,f.output,f.size,λy hy=>f.block y (by simp;omega) λe=>by have:=(ap.lt y e.symm).1;omega⟩;have bh:J (V E)+1<=J (V w3):=by have:=f.size;simp at this;omega
   have D3:aC (∀u∈vs++[xh ma (S H) mc],∀y,u.ownBlock=C y->J (V W0)<=y/\y<J (V w3)/\(VV g3 (k+1) c3).ownBlock≠C y/\(VV gn (k+1) cn).ownBlock≠C y):=λu hu y e=>by
    obtain⟨q1,q2,q3,q4⟩:=an.o u hu y e;refine⟨q3,by omega,λe2=>?_,λe2=>?_⟩
    ·simp[xF]at e2
     rcases au with h4|h4
     ·grind
     ·simp at h4;omega
    ·simp[xF]at e2
     rcases al.o with h4|h4
     ·grind
     ·omega
   grind [ξ]
  ·have aN:k=S s:=by omega
   have HL:aC ((YO (WC s)).length=(WC s).length):=BH _;have ao:aC ((WC s).length=S s):=by simp[aC,WC]
   have C0:aC (XB wr (J (V W0)) cv (WC s) vs):=by grind [Gk]
   have O0:aC (YA wr K (YO (WC s))):=by
    have D:=HO.o;rw[aN,Gk]at D;exact FT D (by rw[HL.o,ao.o])
   have aA:=aD (λy e=>(HC.own.lt y e).2:∀y,cv.ownBlock=C y->y<J (V wr));obtain⟨ca,cc,ac,_⟩:=C0.form;obtain⟨ba,bc,af,_⟩:=O0.form;clear HC HO;subst ac af;go_wp2_with(first|(go_at_call 92;refine(QI _ (YO (WC s)) _ O0 (by rw[HL.o,ao.o];omega)).mono ?_;rintro e E ⟨v1,v2,v3,rfl,⟨gb,gd,rfl,rfl,rfl,aL,aM,bi,bj,aQ⟩,av⟩;have B2:aC (ω (J (V W0)) W0 E):=bT HB av;have K2:=aD ((B2.block _ l1).trans K1);obtain⟨t0,t1,t2,t3,tf,tl⟩:=IE K2;have IB:=aD aL;have ID:=aD aM;have C2:=aD (C0.X av);rw[HL.o]));obtain⟨s0,s1,s2⟩:=JK (s0:=I ca (WC s).length cc) (s1:=VV gb (WC s).length (WC s).length) (s2:=VV gd (WC s).length (WC s).length) (s3:=L M) K2;have bo:=HB.size;have ar:=ID.o;rw[HL.o]at ar;have aR:∀{B n sz:φ} {t:TypeId} {v:ι} {xs:σ ι},E.ownsRow B t sz v n xs->t≠92->∀k,v.ownBlock=C k->k≠J (V w)+1:=λh ht k e e2=>by
    rcases h.2 with⟨e1,_⟩|⟨g1,c1,aX,e1,_,D,_⟩
    ·rw[e1]at e;simp[xF]at e
    ·rw[e1]at e;simp[xF]at e;rw[e,e2,K2.o]at D;simp at D;exact ht D.2.symm
   refine tS (p:=2) (J (V w)+1) _ (by kernel_rfl) underlying92 Z (by kernel_rfl) Z (by exact s0) Z ⟨_,vs,gb,gd,Z,⟨?_,C2.len,λi hi x F=>?_⟩,IB.aG (s1 _ (by omega)),ar.aG (s1 _ (by omega)),by omega,by omega,aQ,λe=>by have:=aA.o gd e;omega,λu hu y e=>⟨by have:=(HD u hu y e).1;omega,by have:=(HD u hu y e).2.1;omega⟩,s2 _ _ (by omega) (bT am B2)⟩
   ·have D:=bH C2.own λk e=>s1 k (aR C2.own (by decide) k e);refine⟨D.1,?_⟩
    rcases D.2 with h0|⟨g',cap,aq,e,bk,q⟩
    ·exact xj h0
    ·exact xg ⟨g',cap,aq,e,by omega,q⟩
   ·have hr:=C2.y i hi x F;refine hr.own _ (λk e=>s1 k (by have:=(HD x (xq F) k e).1;omega)) ?_
    simp_all
