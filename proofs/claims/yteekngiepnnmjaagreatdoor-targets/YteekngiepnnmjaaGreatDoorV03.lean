import Derived.Deep.RegionHeld3
import Derived.Deep.CutRange
import Derived.Deep.LoopGhost
import Derived.ArgAppend
import Derived.Test.YteekngiepnnmjaaGreatDoorV01
set_option linter.all false
set_option maxHeartbeats 0
namespace Go.Proofs.YteekngiepnnmjaaGreatDoor
open Go Go.RowKit Go.Proofs.Tryz P Q
open scoped Classical
set_option maxRecDepth 1000000
open _root_ renaming List->T,List->σ,Nat->W,Nat->ν,Bool->K,Bool->ι,Int->H,Int->ω,if_neg->η,absurd->ζ,UInt8->z,if_pos->γ,Decidable->χ
open Go renaming World->ξ,Value->ρ,Calls->τ,Code->ε,TypeId->θ,Program->κ,Act->d,Act->υ,Exit->ς
open Go.RowKit renaming Below->ψ,intOf->φ
open Go.Proofs.Tryz renaming prog->π
variable {w w':ξ}{a b g i j k m n o y:ν}{ats fr:σ ω}{S:ν->ν->Prop}{p:Prop}{α:Type}{l:σ ρ}{t u:θ}{B:ν->ν->ι}{f s:ν->ι}
open Bool renaming true->Y,false->C
open Option renaming none->O,some->I
open Go.IntKind renaming i64->U
open Go.Value renaming int->N,bool->M,slice->V
open Go.Ending renaming returned->A
open List renaming range->xF,mem_cons_of_mem->xl,length_cons->xo,length_append->xp,map_congr_left->xs,filter_append->xu,length_nil->xv
open Or renaming inl->xR,inr->x3
open Nat renaming le_refl->xW,lt_of_lt_of_le->xb,zero_le->xc,not_lt_zero->xe,testBit_or->xg,le_trans->xn
open Bool renaming or_true->x1,and_false->x2,true_or->x4,or_false->x5,false_or->x6,and_true->x7,true_and->x8,false_and->x9,or_eq_true->xh,not_true->xi,not_false->xj
open Go.RowKit.Below renaming refl->xa,heap_setCell->xr
open Go.Code renaming wp->xd
open Go.Value renaming bool->xk
open Go.World renaming drewN_drewN->xm
open Int renaming toNat_natCast->xq
open Go.Instr renaming makeSlice->xt
def eD(B:W)(w:ξ)(n:W):ψ B w (w.drewN n):=by
 induction n with
 |zero=>exact xa _ _
 |succ n ih=>exact⟨ih.os,ih.tape,ih.output,ih.size,ih.block⟩
namespace J
structure E where
 t:ω
 b:ω
 kind:ByteArray
 loc:ω
 val:ω
 ord:ByteArray
 scope:ByteArray
 half:ι
 round:ω
 on:σ ω
def E.zero:E:=⟨0,0,⟨#[]⟩,0,0,⟨#[]⟩,⟨#[]⟩,C,0,[]⟩
def ev(es:T E)(i:W):E:=es.getD i E.zero
def aQ(es:T E)(a b:W):K:=if a<3 then decide (3<=b)else decide (3<=b)&&((ev es a).t==(ev es b).t&&decide (a<b))
def kW:T z:=[119]
def kR:T z:=[114]
def cN:T z:=[119,101,97,107]
def sDev:T z:=[100,101,118,105,99,101]
def plain(x y:E):K:=x.ord.toList==cN||(y.ord.toList==cN||(x.ord.toList.isEmpty||y.ord.toList.isEmpty))
def qJ(x y:E):K:=x.b==y.b||x.scope.toList==sDev&&y.scope.toList==sDev
def aJ(es:T E)(a b:W):K:=if a<3\/b<3 then C else if(ev es a).t==(ev es b).t then Y else !plain (ev es a) (ev es b)&&qJ (ev es a) (ev es b)
def order(es:T E)(ats:T H)(a b:W):K:=(a:H) != (b:H)&&((ev es a).kind.toList==kW&&((ev es b).kind.toList==kW&&((ev es a).loc==(ev es b).loc&&decide (ats.getD a 0<ats.getD b 0))))
def aZ(es:T E)(fr:T H)(a b:W):K:=fr.getD b 0==(a:H)&&(ev es b).kind.toList==kR
def misses(es:T E)(fr ats:T H)(a b:W):K:=(ev es a).kind.toList==kR&&order es ats (fr.getD a 0).toNat b
def gN(es:T E)(fr ats:T H)(a b:W):K:=aZ es fr a b||(order es ats a b||misses es fr ats a b)
def kA:T z:=[97]
def kL:T z:=[108]
def kF:T z:=[102]
def mI:T z:=[115,99]
def eP(x y:E):K:=x.kind.toList==kA&&(y.kind.toList==kL&&(x.b==y.b&&x.round==y.round))
def sc(es:T E)(a b:W):K:=(a:H) != (b:H)&&(aJ es a b&&((ev es a).kind.toList==kF&&((ev es b).kind.toList==kF&&((ev es a).ord.toList==mI&&(ev es b).ord.toList==mI))))
def bS(es:T E)(fr:T H)(a:W):W->W->K
 |0,_=>C
 |n+1,b=>if decide (0<=fr.getD b 0)&&aJ es (fr.getD b 0).toNat b then(if fr.getD b 0==(a:H)then Y else if(ev es (fr.getD b 0).toNat).half then bS es fr a n ((fr.getD b 0).toNat-1)else C)else C
def aL(es:T E)(fr:T H)(a b:W):K:=bS es fr a (es.length+1) b
def Full(es:T E)(fr:T H):Prop:=∀i,i<es.length->((ev es i).kind.toList==kR)=Y->0<=fr.getD i 0/\fr.getD i 0<(es.length:H)
end J
structure As(w:ξ)(g o:ν)(e:J.E):Prop where
 t:w.cell? ⟨g,o,O⟩=I (N U e.t)
 b:w.cell? ⟨g,o+1,O⟩=I (N U e.b)
 k:w.cell? ⟨g,o+2,O⟩=I (.string e.kind)
 l:w.cell? ⟨g,o+3,O⟩=I (N U e.loc)
 v:w.cell? ⟨g,o+4,O⟩=I (N U e.val)
 r:w.cell? ⟨g,o+5,O⟩=I (.string e.ord)
 s:w.cell? ⟨g,o+6,O⟩=I (.string e.scope)
 h:w.cell? ⟨g,o+7,O⟩=I (M e.half)
 n:w.cell? ⟨g,o+8,O⟩=I (N U e.round)
structure YZ(w:ξ)(g ge ce gf cf ga ca:ν)(es:σ J.E)(fr ats:σ ω):Prop where
 e:w.cell? ⟨g,2,O⟩=I (VV ge es.length ce)
 f:w.cell? ⟨g,5,O⟩=I (VV gf es.length cf)
 a:w.cell? ⟨g,6,O⟩=I (VV ga es.length ca)
 ev:∀i,i<es.length->As w ge (i*10) (J.ev es i)
 fr:∀i,i<es.length->w.cell? ⟨gf,i,O⟩=I (N U (fr.getD i 0))
 at_:∀i,i<es.length->w.cell? ⟨ga,i,O⟩=I (N U (ats.getD i 0))
 lg:g<w.heap.size
 le:ge<w.heap.size
 lf:gf<w.heap.size
 la:ga<w.heap.size
 n:es.length<1000
def As.X{e:J.E}(h:As w g o e)(d:g<w.heap.size)(c:ψ w.heap.size w w'):As w' g o e :=
 ⟨(c.cell d).trans h.t,(c.cell d).trans h.b,(c.cell d).trans h.k,(c.cell d).trans h.l,(c.cell d).trans h.v,(c.cell d).trans h.r,(c.cell d).trans h.s,(c.cell d).trans h.h,(c.cell d).trans h.n⟩
def YZ.X{F v G x D r:ν}{z:σ J.E}(h:YZ w g F v G x D r z fr ats)(c:ψ w.heap.size w w'):YZ w' g F v G x D r z fr ats :=
 have q:=c.size
 ⟨(c.cell h.lg).trans h.e,(c.cell h.lg).trans h.f,(c.cell h.lg).trans h.a,λi d=>(h.ev i d).X h.le c,λi d=>(c.cell h.lf).trans (h.fr i d),λi d=>(c.cell h.la).trans (h.at_ i d),xb h.lg q,xb h.le q,xb h.lf q,xb h.la q,h.n⟩
theorem DX(g K F L G H D:ν)(c:σ J.E)(fr ats:σ ω)(w:ξ)(h:YZ w g K F L G H D c fr ats)(a b:ν)(T:a<c.length)(X:b<c.length):
  τ π 211 #[.pointer (I ⟨g,0,O⟩),N U (a:ω),N U (b:ω)] w λe w'=>e=A (M (J.aQ c a b))/\ψ w.heap.size w w':=by
 have he:=h.e;have x:=(h.ev a T).t;have z:=(h.ev b X).t;have hn:=h.n;have lg:=h.lg;have le:=h.le;have W:(a:ω)<c.length:=by omega
 have aa:(b:ω)<c.length:=by omega
 by_cases h3:a<3
 ·have q:(a:ω)<3:=by omega
  have d:J.aQ c a b=decide ((3:ω)<=b):=by unfold J.aQ;rw[γ h3,Bool.eq_iff_iff];simp;omega
  clear he x z h;go_in;go_wp2;go_ret
  simp_all [xa]
 ·have q:¬(a:ω)<3:=by omega
  by_cases h4:3<=b
  ·have r:(3:ω)<=b:=by omega
   have v:decide ((3:ω)<=b)=Y:=by grind
   have d:J.aQ c a b=((J.ev c a).t==(J.ev c b).t&&decide ((a:ω)<b)):=by
    simp_all [J.aQ,η]
   cases hz:(J.ev c a).t==(J.ev c b).t
   all_goals
    rw[hz]at d;clear h;go_in;go_wp2;go_quiet (fail);go_wp2;go_ret;exact⟨by rw[d];first|rfl|simp,eD _ _ _⟩
  ·have r:¬(3:ω)<=b:=by omega
   have v:decide ((3:ω)<=b)=C:=by grind
   have d:J.aQ c a b=C:=by
    simp_all [J.aQ,decide_eq_false]
   clear h;go_in;go_wp2;go_quiet (fail);go_wp2;go_ret
   simp_all [eD]
structure TabAt(w:ξ)(g n:ν)(gs:ν->ν)(R:ν->ν->ι):Prop where
 row:∀i,i<n->w.cell? ⟨g,i,O⟩=I (VV (gs i) n n)
 bit:∀i k,i<n->k<n->w.cell? ⟨gs i,k,O⟩=I (M (R i k))
 lg:g<w.heap.size
 lr:∀i,i<n->gs i<w.heap.size
 n:n<1000
def TabAt.X{e:ν->ν}{R:ν->ν->ι}(h:TabAt w g n e R)(d:ψ w.heap.size w w'):TabAt w' g n e R :=
 ⟨λi c=>(d.cell h.lg).trans (h.row i c),λi k c q=>(d.cell (h.lr i c)).trans (h.bit i k c q),xb h.lg d.size,λi c=>xb (h.lr i c) d.size,h.n⟩
def J.rnd(n:W)(R:W->W->K):K:=(xF n).any λi=>R i i
theorem PN(g n:W)(E:W->W)(R:W->W->ι)(w:ξ)(h:TabAt w g n E R):
  τ π 144 #[VV g n n] w λe w'=>e=A (M (J.rnd n R))/\w'=w:=by
 have H:=aD h;have L:=h.n;have F:=h.lg;clear h;go_in;go_wp2;go_loopw[3] (λi wr=>∃k:W,k<=n/\i=N U k/\aC (∀j,j<k->R j j=C)/\wr=w) λi _=>n-(φ i).toNat
 case atStart=>exact⟨0,xc _,Z,λj v=>ζ v (xe _),Z⟩
 case round =>
  obtain⟨k,K,rfl,x,rfl⟩:=hrel;by_cases hlt:k<n
  ·have q:=lI hlt;have T:=H.row k hlt;have r:=H.bit k k hlt hlt;have G:=H.lr k hlt
   cases z:R k k
   ·rw[z]at r;have D:aC (∀j,j<k+1->R j j=C):=λj v=>by
     by_cases c:j=k
     ·rw[c];exact z
     ·exact x j (by omega)
    go_wp2;go_roundw;exact⟨k+1,by omega,by go_num,D,by trivial⟩;simp[φ];omega
   ·rw[z]at r;have d:aC (J.rnd n R=Y):=by grind [aC,J.rnd]
    go_wp2;go_ret;exact⟨by rw[d.o];first|rfl|simp,Z⟩
  ·have q:=lN hlt;have d:aC (J.rnd n R=C):=by
    grind [aC,J.rnd]
   go_wp2;go_ret;exact⟨by rw[d.o];first|rfl|simp,Z⟩
namespace Q
def WS(r:T W)(a b:W):Prop:=(r.getD a 0).testBit b=Y
structure Rel(n:ν)(r:σ ν):Prop where
 len:r.length=n
 lt:∀a b,WS r a b->b<n
theorem WS.left{r:σ ν}(h:WS r a b):a<r.length:=by
 grind [WS,Bh]
theorem Cg(b c:W)(h:b<64):(cT (b:H)).testBit c=decide (b=c):=by
 unfold cT
 grind
theorem Ch(s b:W)(h:b<64):YF s (b:H)=s.testBit b:=by
 unfold YF cT;rw[η (by omega),xq]
 cases hb:s.testBit b
 ·have:s &&& 2^b=0:=by
   refine Nat.eq_of_testBit_eq λi=>?_
   grind
  rw[this];rfl
 ·have:s &&& 2^b≠0:=by
   intro e;have c:=congrArg (λx=>x.testBit b) e
   grind
  simp[this]
theorem qS(r:T W)(a b:W)(h:b<64):cD r (a:H) (b:H)=Y↔WS r a b:=by
 grind [cD,WS,tY,Ch]
theorem Ci(f:W->W)(n a:W):((xF n).map f).getD a 0=if a<n then f a else 0:=by
 grind
theorem US(n a b:W):¬WS (WY n) a b:=by
 grind [WS,WY]
section
variable {n:ν}{r o:σ ν}
theorem TU(d:r.length=n)(c:o.length=n)(a b:W):WS (dY r o) a b↔WS r a b\/WS o a b:=by
 unfold WS dY;rw[Ci];by_cases h:a<r.length
 ·rw[γ h,xg,tY,tY,xh]
 grind
theorem Cj(c:r.length=n)(a b:W):WS (lR r o) a b↔WS r a b/\WS o a b:=by
 unfold WS lR;rw[Ci];by_cases h:a<r.length
 ·rw[γ h,Nat.testBit_and,tY,tY,Bool.and_eq_true]
 grind
def pG(c:Rel n r)(d:Rel n o):Rel n (dY r o):=
 ⟨by rw[MK];exact c.len,λa b h=>by rcases(TU c.len d.len a b).1 h with h|h;exact c.lt _ _ h;exact d.lt _ _ h⟩
def DJ(c:Rel n r):Rel n (lR r o):=
 ⟨by rw[UD];exact c.len,λa b h=>c.lt _ _ ((Cj c.len a b).1 h).1⟩
theorem Ck(z:n<=64)(a x:W):∀(l:T W) (d:W),(∀c∈l,c<n)->((l.foldl (oT r o a) d).testBit x=Y↔d.testBit x=Y\/∃c∈l,WS r a c/\WS o c x)
 |[],d,_=>by simp
 |c::l,d,h=>by
  rw[List.foldl_cons,Ck z a x l _ λy q=>h y (xl _ q)];have D:c<n:=h c (by simp);unfold oT;by_cases hb:WS r a c
  ·rw[γ ((qS r a c (by omega)).2 hb),xg,tY,xh];constructor
   ·rintro((e|e)|⟨y,q,e⟩)
    ·exact xR e
    ·exact x3 ⟨c,by simp,hb,e⟩
    grind
   ·rintro(e|⟨y,q,e⟩)
    ·grind
    ·rcases List.mem_cons.1 q with rfl|q
     ·exact xR (x3 e.2)
     grind
  ·rw[η λv=>hb ((qS r a c (by omega)).1 v)]
   grind
theorem Cl(q:n<=64)(d:Rel n r)(a b:W):WS (YB r o) a b↔∃c,WS r a c/\WS o c b:=by
 have e:WS (YB r o) a b↔a<r.length/\(qE r o a).testBit b=Y:=by
  grind [YB,WS]
 rw[e];unfold qE;rw[Ck (n:=n) q a b _ _ λc v=>by grind [Rel.len]];simp only[Nat.zero_testBit,Bool.false_eq_true,false_or,List.mem_range];constructor
 ·grind
 ·rintro⟨c,h⟩;exact⟨h.1.left,c,by rw[d.len];exact d.lt _ _ h.1,h⟩
def pO(e:n<=64)(d:Rel n r)(q:Rel n o):Rel n (YB r o):=
 ⟨by rw[QB];exact d.len,λa b h=>by obtain⟨c,_,h⟩:=(Cl e d a b).1 h;exact q.lt _ _ h⟩
theorem Cm(l:T W)(i x a:W)(h:i<l.length):(l.set i x).getD a 0=if a=i then x else l.getD a 0:=by
 grind
theorem Cn(q:n<=64)(v:r.length=n)(i k:W)(d:i<n)(e:k<n)(a b:W):WS (dW r i k) a b↔WS r a b\/a=i/\b=k:=by
 unfold dW;rw[η (by omega),xq,WS,Cm _ _ _ _ (by omega)];by_cases h:a=i
 ·rw[γ h,xg,tY,Cg _ _ (by omega),xh,decide_eq_true_eq,h];constructor
  ·rintro(c|c)
   ·exact xR c
   omega
  ·rintro(c|c)
   ·exact xR c
   omega
 simp_all [η,WS]
theorem GC{β:Type}(F:T W->β->T W)(G:β->W->W->Prop)(l:T β)(c:∀r x,x∈l->r.length=n->(F r x).length=n/\∀a b,WS (F r x) a b↔WS r a b\/G x a b):
  ∀r,r.length=n->(l.foldl F r).length=n/\∀a b,WS (l.foldl F r) a b↔WS r a b\/∃x∈l,G x a b:=by
 induction l with
 |nil=>intro r h;exact⟨h,by simp⟩
 |cons x l ih =>
  intro r h;have d:=c r x (by simp) h;have v:=ih (λr y q e=>c r y (xl _ q) e) (F r x) d.1
  grind
theorem Co(q:n<=64)(c:K)(i k:W)(d:i<n)(e:k<n)(v:r.length=n):(if c=Y then dW r i k else r).length=n/\∀a b,WS (if c=Y then dW r i k else r) a b↔WS r a b\/c=Y/\a=i/\b=k:=by
 grind [CP,Cn]
theorem OK(D:n<=64)(c:W->W->K)(F:T W->W->T W)(q:∀r i,F r i=(xF n).foldl (λr k=>if c i k=Y then dW r (i:H) (k:H)else r) r):
  Rel n ((xF n).foldl F (WY n))/\∀a b,WS ((xF n).foldl F (WY n)) a b↔a<n/\b<n/\c a b=Y:=by
 have h:=GC (n:=n) F (λi a b=>a=i/\b<n/\c a b=Y) (xF n) λr i x d=>by
  rw[q];have h:=GC (n:=n) (λr k=>if c i k=Y then dW r (i:H) (k:H)else r) (λk a b=>c i k=Y/\a=i/\b=k) (xF n) (λr k z d=>Co D _ i k (List.mem_range.1 x) (List.mem_range.1 z) d) r d
  grind (WY n) (by simp[WY])
 have e:∀a b,WS ((xF n).foldl F (WY n)) a b↔a<n/\b<n/\c a b=Y:=λa b=>by
  grind [ζ,US]
 exact⟨⟨h.1,λa b v=>((e a b).1 v).2.1⟩,e⟩
theorem Cp(D:n<=64)(c:W->W->K)(F:T W->W->T W)(q:∀r i,F r i=(xF n).foldl (λr k=>if c i k=Y then dW r (k:H) (i:H)else r) r):
  Rel n ((xF n).foldl F (WY n))/\∀a b,WS ((xF n).foldl F (WY n)) a b↔a<n/\b<n/\c b a=Y:=by
 have h:=GC (n:=n) F (λi a b=>b=i/\a<n/\c b a=Y) (xF n) λr i x d=>by
  rw[q];have h:=GC (n:=n) (λr k=>if c i k=Y then dW r (k:H) (i:H)else r) (λk a b=>c i k=Y/\a=k/\b=i) (xF n) (λr k z d=>Co D _ k i (List.mem_range.1 z) (List.mem_range.1 x) d) r d
  grind (WY n) (by simp[WY])
 have e:∀a b,WS ((xF n).foldl F (WY n)) a b↔a<n/\b<n/\c b a=Y:=λa b=>by
  grind [ζ,US]
 exact⟨⟨h.1,λa b v=>((e a b).1 v).2.1⟩,e⟩
theorem Cq(e:n<=64)(c:Rel n r):Rel n (qM r)/\∀a b,WS (qM r) a b↔WS r b a:=by
 have h:=Cp e (λa b=>cD r (a:H) (b:H)) (wQ r) λt a=>by
  unfold wQ uT;rw[c.len]
 unfold qM;rw[c.len];refine⟨h.1,λa b=>?_⟩;rw[h.2];constructor
 ·grind [qS]
 ·intro d;have q:=d.left
  grind [Rel.lt,Rel.len,qS]
def TC(R:W->W->Prop)(a b:W):Prop:=∀S:W->W->Prop,(∀x y,R x y->S x y)->(∀x y z,S x y->S y z->S x z)->S a b
def TC.base{R:ν->ν->Prop}(h:R a b):TC R a b:=λ_ c _=>c _ _ h
def TC.trans{R:ν->ν->Prop}{c:ν}(h:TC R a b)(k:TC R b c):TC R a c:=λS e d=>d _ _ _ (h S e d) (k S e d)
def TC.map{R:ν->ν->Prop}(f:ν->ν)(h:∀x y,R x y->S (f x) (f y))(k:TC R a b):TC S (f a) (f b):=
 k (λx y=>TC S (f x) (f y)) (λx y c=>TC.base (h x y c)) λ_ _ _=>TC.trans
theorem TC.mono{R:ν->ν->Prop}(h:∀x y,R x y->S x y)(k:TC R a b):TC S a b:=TC.map (λx=>x) h k
theorem Cr(G:n<=64)(b:W)(F:b<n)(e:Rel n r):∀m,m<=n->Rel n ((xF m).foldl (nD b) r)/\∀x y,WS ((xF m).foldl (nD b) r) x y↔WS r x y\/x<m/\WS r x b/\WS r b y
 |0,_=>⟨e,λx y=>by simp⟩
 |m+1,hm=>by
  rw[jT];obtain⟨q,v⟩:=Cr G b F e m (by omega);generalize(xF m).foldl (nD b) r=c at q v;have d:∀x y,WS (nD b c m) x y↔WS r x y\/x<m+1/\WS r x b/\WS r b y:=by
   intro x y;have e1:∀z,WS c z b↔WS r z b:=λz=>by
    grind
   have e2:∀z,WS c b z↔WS r b z:=λz=>by
    grind
   unfold nD;by_cases h:WS c m b
   ·rw[γ ((qS c m b (by omega)).2 h),WS,Cm _ _ _ _ (by rw[q.len];omega)];by_cases hx:x=m
    ·rw[γ hx,xg,tY,tY,xh];have D:(c.getD m 0).testBit y=Y↔WS c m y:=Iff.rfl;have H:(c.getD b 0).testBit y=Y↔WS c b y:=Iff.rfl
     grind
    ·rw[η hx];have D:(c.getD x 0).testBit y=Y↔WS c x y:=Iff.rfl
     grind
   ·rw[η λE=>h ((qS c m b (by omega)).1 E),v]
    grind
  refine⟨⟨by rw[Bm];exact q.len,λx y h=>?_⟩,d⟩
  rcases(d x y).1 h with h|h
  ·exact e.lt _ _ h
  ·exact e.lt _ _ h.2.2
theorem Cs(q:n<=64)(v:Rel n r):∀m,m<=n->Rel n ((xF m).foldl (pA n) r)/\(∀x y,WS r x y->WS ((xF m).foldl (pA n) r) x y)/\(∀x y,WS ((xF m).foldl (pA n) r) x y->TC (WS r) x y)/\∀k x y,k<m->WS ((xF m).foldl (pA n) r) x k->WS ((xF m).foldl (pA n) r) k y->WS ((xF m).foldl (pA n) r) x y
 |0,_=>⟨v,λ_ _ h=>h,λ_ _ h=>TC.base h,λk x y h=>ζ h (by omega)⟩
 |m+1,hm=>by
  rw[jT];obtain⟨e,z,d,E⟩:=Cs q v m (by omega);generalize(xF m).foldl (pA n) r=c at e z d E;obtain⟨F,G⟩:=Cr q m (by omega) e n (xW _);have D:∀x y,WS (pA n c m) x y↔WS c x y\/WS c x m/\WS c m y:=λx y=>by
   unfold pA;rw[G];constructor
   ·grind
   ·rintro(h|h)
    ·exact xR h
    ·exact x3 ⟨by rw[<- e.len];exact h.1.left,h⟩
  refine⟨F,λx y h=>(D x y).2 (xR (z _ _ h)),λx y h=>?_,λk x y H=>?_⟩
  ·rcases(D x y).1 h with h|h
   ·exact d _ _ h
   ·exact(d _ _ h.1).trans (d _ _ h.2)
  grind
theorem Ct(F:n<=64)(d:Rel n r):Rel n (oM r)/\∀a b,WS (oM r) a b↔TC (WS r) a b:=by
 obtain⟨q,v,D,E⟩:=Cs F (pG d d) n (xW _);have e:∀x y,WS (dY r r) x y↔WS r x y:=λx y=>by simp_all [TU]
 unfold oM;rw[d.len];refine⟨q,λa b=>⟨λh=>(D _ _ h).mono λx y c=>(e x y).1 c,λh=>?_⟩⟩;refine h _ (λx y c=>v _ _ ((e x y).2 c)) λx y z c G=>E y x z (q.lt _ _ c) c G
theorem Qp(d:n<=64)(c:Rel n r):cJ r=Y↔∃i,WS r i i:=by
 unfold cJ;rw[List.any_eq_true];constructor
 ·grind [qS,Rel.len]
 ·rintro⟨i,h⟩;exact⟨i,List.mem_range.2 h.left,(qS r i i (by have:=c.lt _ _ h;omega)).2 h⟩
end
end Q
theorem Qq(p q r s:K):p=Y\/p=C/\q=Y\/p=C/\q=C/\r=Y\/p=C/\q=C/\r=C/\s=Y\/p=C/\q=C/\r=C/\s=C:=by
 grind
theorem Qr(p q r:K):p=Y\/p=C/\q=C\/p=C/\q=Y/\r=Y\/p=C/\q=Y/\r=C:=by
 grind
def Cu(g ge X gf cf ga W:ν)(c:σ J.E)(fr ats:σ ω)(w:ξ)(h:YZ w g ge X gf cf ga W c fr ats)(a b:ν)(ha:a<c.length)(hb:b<c.length):
  τ π 217 #[.pointer (I ⟨g,0,O⟩),N U (a:ω),N U (b:ω)] w λe w'=>e=A (M (J.aJ c a b))/\∃m,w'=w.drewN m:=by
 have he:=h.e;obtain⟨at_,ab,_,_,_,ao,T,_,_⟩:=h.ev a ha;obtain⟨bt,bb,_,_,_,bo,bs,_,_⟩:=h.ev b hb;have hn:=h.n;have lg:=h.lg;have le:=h.le;have aa:(a:ω)<c.length:=by omega
 have ac:(b:ω)<c.length:=by omega
 clear h;have d:aC (J.aJ c a b=if a<3\/b<3 then C else if(J.ev c a).t==(J.ev c b).t then Y else !J.plain (J.ev c a) (J.ev c b)&&J.qJ (J.ev c a) (J.ev c b)):=Z;generalize J.ev c a=x at*;generalize J.ev c b=y at*;by_cases h1:a<3
 ·have z:(a:ω)<3:=by omega
  go_in;go_wp2;go_ret;exact⟨by rw[d.o,γ (xR h1)];rfl,0,Z⟩
 have z:¬(a:ω)<3:=by omega
 by_cases h2:b<3
 ·have D:(b:ω)<3:=by omega
  go_in;go_wp2;go_ret;exact⟨by rw[d.o,γ (x3 h2)];rfl,0,Z⟩
 have D:¬(b:ω)<3:=by omega
 cases z0:x.t==y.t
 ·rcases Qq (x.ord.toList==J.cN) (y.ord.toList==J.cN) x.ord.toList.isEmpty y.ord.toList.isEmpty with q|⟨q,G⟩|⟨q,G,K⟩|⟨q,G,K,p4⟩|⟨q,G,K,p4⟩ <;>
   rcases Qr (x.b==y.b) (x.scope.toList==J.sDev) (y.scope.toList==J.sDev)with F|⟨F,H⟩|⟨F,H,n3⟩|⟨F,H,n3⟩
  all_goals
   have r:aC (J.aJ c a b=(!J.plain x y&&J.qJ x y)):=by unfold aC;rw[d.o,η (by omega),z0];rfl
   have L:aC (∃v,J.aJ c a b=v/\(!J.plain x y&&J.qJ x y)=v):=⟨_,r,Z⟩;simp only[J.plain,J.qJ, *,x1,x4,x5,x6,x7,x8,x2,x9,xi,xj]at r;simp only[J.cN,J.sDev]at *;go_in;go_wp2;go_quiet (fail);go_wp2;go_quiet (fail);go_wp2;go_ret;exact⟨by rw[r.o];first|rfl|simp,by first|exact⟨_,Z⟩|exact⟨_,xm _ _ _⟩⟩
 ·go_in;go_wp2;go_quiet (fail);go_wp2;go_ret;exact⟨by rw[d.o,η (by omega),z0];rfl,by first|exact⟨_,Z⟩|exact⟨_,xm _ _ _⟩⟩
def wN(g x q z r v d:W)(c:T J.E)(fr ats:T H)(w:ξ)(h:YZ w g x q z r v d c fr ats)(a b:W)(D:a<c.length)(F:b<c.length):
  τ π 217 #[.pointer (I ⟨g,0,O⟩),N U (a:H),N U (b:H)] w λe w'=>e=A (M (J.aJ c a b))/\ψ w.heap.size w w' :=
 (Cu g x q z r v d c fr ats w h a b D F).mono λ_ _ ⟨e,m,k⟩=>⟨e,k▸eD _ _ m⟩
namespace J
def iN(x y:E):K:=x.kind.toList==kW&&(y.kind.toList==kW||y.kind.toList==kR)||x.kind.toList==kR&&y.kind.toList==kW
def TO(es:T E)(R:W->W->K)(i k:W):K:=!iN (ev es i) (ev es k)||(!((ev es i).loc==(ev es k).loc)||((ev es i).t==(ev es k).t||(R i k||R k i)))
def dQ(es:T E)(R:W->W->K)(i k:W):K:=!TO es R i k&&!aJ es i k
def cS(es:T E)(R:W->W->K):Prop:=∃i k,3<=i/\i<k/\k<es.length/\dQ es R i k=Y
def yes [D:∀p,χ p](p:Prop):K:=@decide p (D p)
theorem cG:yes p=Y↔p:=by grind [yes]
def gB(h:p):yes p=Y:=cG.2 h
theorem kC(h:¬p):yes p=C:=by
 grind [yes]
end J
theorem Qs(p q r s:K):p=C/\s=C\/p=C/\s=Y/\q=C\/p=C/\s=Y/\q=Y\/p=Y/\q=Y\/p=Y/\q=C/\r=Y\/p=Y/\q=C/\r=C/\s=C\/p=Y/\q=C/\r=C/\s=Y:=by
 grind
theorem Qt(p q r s t:K):p=C\/p=Y/\q=C\/p=Y/\q=Y/\r=Y\/p=Y/\q=Y/\r=C/\s=Y\/p=Y/\q=Y/\r=C/\s=C/\t=Y\/p=Y/\q=Y/\r=C/\s=C/\t=C:=by
 grind
theorem Qu{x y:H}{b:K}(h:(x==y)=b):(x != y)=!b:=by grind
def Qv(g ge ce gf cf ga ca:ν)(d:σ J.E)(fr ats:σ ω)(w:ξ)(h:YZ w g ge ce gf cf ga ca d fr ats)(gt:ν)(gs:ν->ν)(R:ν->ν->ι)(ht:TabAt w gt d.length gs R)(h3:3<=d.length):
  τ π 219 #[.pointer (I ⟨g,0,O⟩),VV gt d.length d.length] w λe w'=>e=A (M (J.yes (J.cS d R)))/\ψ w.heap.size w w':=by
 have H:=aD h;have HT:=aD ht;have hn:=h.n;clear h ht;go_in;go_wp2;go_loopw[5] (λi wr=>∃k:ν,3<=k/\k<=d.length/\i=N U k/\aC (∀i j,3<=i->i<k->i<j->j<d.length->J.dQ d R i j=C)/\aC (ψ w.heap.size w wr)) λi _=>d.length-(φ i).toNat
 case atStart=>exact⟨3,xW _,h3,Z,λi j F G=>ζ G (by omega),xa _ _⟩
 case round =>
  obtain⟨i,ab,hi,rfl,HI,HB⟩:=hrel;have K:=H.X HB;have he:=K.e;have lg:=K.lg;have le:=K.le;clear K;by_cases hlt:i<d.length
  ·have ac:=lI hlt;go_wp2;go_loopw[6] (λq wr=>∃k:ν,i+1<=k/\k<=d.length/\q=N U k/\aC (∀j,i<j->j<k->J.dQ d R i j=C)/\aC (ψ w.heap.size w wr)) λq _=>d.length-(φ q).toNat
   case atStart=>exact⟨i+1,xW _,by omega,by go_num,λj F G=>ζ G (by omega),HB⟩
   case round =>
    obtain⟨k,aj,hk,rfl,HJ,HB⟩:=hrel;have K:=H.X HB;have D:=HT.X HB;have he:=K.e;have lg:=K.lg;have le:=K.le;by_cases hkt:k<d.length
    ·have ad:=lI hkt;obtain⟨it,_,ik,il,_,_,_,_,_⟩:=K.ev i hlt;obtain⟨kt,_,kk,kl,_,_,_,_,_⟩:=K.ev k hkt;have r1:=D.row i hlt;have r2:=D.row k hkt;have b1:=D.bit i k hlt hkt;have b2:=D.bit k i hkt hlt;have ae:=D.lg;have af:=D.lr i hlt;have ag:=D.lr k hkt;have HK:=aD K;have HC:aC (J.dQ d R i k=(!(!J.iN (J.ev d i) (J.ev d k)||(!((J.ev d i).loc==(J.ev d k).loc)||((J.ev d i).t==(J.ev d k).t||(R i k||R k i))))&&!J.aJ d i k)):=Z;clear K D;generalize J.ev d i=x at*;generalize J.ev d k=y at*;go_upto_region 9 with fail
     go_cut[9]from 22 to 123 λc wx=>∃bq,c=M bq/\aC (J.iN x y=bq)/\wx=wr
     case first =>
      have HV:aC (J.iN x y=(x.kind.toList==J.kW&&(y.kind.toList==J.kW||y.kind.toList==J.kR)||x.kind.toList==J.kR&&y.kind.toList==J.kW)):=Z;clear HC it kt il kl r1 r2 b1 b2 ae af ag
      rcases Qs (x.kind.toList==J.kW) (y.kind.toList==J.kW) (y.kind.toList==J.kR) (x.kind.toList==J.kR)with⟨p1,r⟩|⟨p1,r,L⟩|⟨p1,r,L⟩|⟨p1,r⟩|⟨p1,r,L⟩|⟨p1,r,L,p4⟩|⟨p1,r,L,p4⟩
      all_goals
       have HW:=HV.o;simp only[*,x7,x8,x2,x9,x1,x4,x5,x6]at HW;have aa:=aD HW;clear HW HV;simp only[J.kW,J.kR]at *;go_wp2;go_meet;exact⟨_,Z,aa,Z⟩
     obtain⟨bq,rfl,T,rfl⟩:=hcut;rw[T.o]at HC;go_upto_region 10 with fail
     go_cut[117]from 22 to 123 λc wx=>∃bs,c=M bs/\aC (J.dQ d R i k=(!bs&&!J.aJ d i k))/\aC (ψ w.heap.size w wx)
     case first =>
      clear ik kk;generalize R i k=ah at*;generalize R k i=ai at*
      rcases Qt bq (x.loc==y.loc) (x.t==y.t) ah ai with rfl|⟨rfl,r⟩|⟨rfl,r,L⟩|⟨rfl,r,L,rfl⟩|⟨rfl,r,L,rfl,rfl⟩|⟨rfl,r,L,rfl,rfl⟩
      all_goals
       have HW:=HC.o;simp only[*,x7,x8,x2,x9,x1,x4,x5,x6,xi,xj]at HW;have aa:=aD HW;clear HW HC T
       try have q2:=Qu r
       go_quiet (fail);go_wp2;go_meet;exact⟨_,Z,aa,bT HB (eD _ _ _)⟩
     obtain⟨bs,rfl,W,HB⟩:=hcut;have K:=aD (H.X HB);clear HC T;cases bs
     ·cases z:J.aJ d i k
      ·go_wp2_with(first|(go_at_call 217;refine(wN g ge ce gf cf ga ca d fr ats _ K i k hlt hkt).mono ?_;rintro e w3 ⟨rfl,v⟩;rw[z];have B3:=aD (bT HB v);clear v));go_ret;exact⟨by rw[J.gB ⟨i,k,ab,by omega,hkt,by rw[W.o,z];rfl⟩];first|rfl|simp,B3⟩
      ·have HN:aC (∀j,i<j->j<k+1->J.dQ d R i j=C):=λj F G=>by
        by_cases c:j=k
        ·rw[c,W.o,z];rfl
        ·exact HJ j F (by omega)
       go_wp2_with(first|(go_at_call 217;refine(wN g ge ce gf cf ga ca d fr ats _ K i k hlt hkt).mono ?_;rintro e w3 ⟨rfl,v⟩;rw[z];have B3:=aD (bT HB v);clear v));go_roundw;exact⟨k+1,by omega,by omega,by go_num,HN,B3⟩;simp[φ];omega
     ·have HN:aC (∀j,i<j->j<k+1->J.dQ d R i j=C):=λj F G=>by
       by_cases c:j=k
       ·rw[c,W.o];rfl
       ·exact HJ j F (by omega)
      go_wp2;go_roundw;exact⟨k+1,by omega,by omega,by go_num,HN,HB⟩;simp[φ];omega
    ·have ad:¬(k:ω)<d.length:=by omega
     clear K D;have HN:aC (∀p j,3<=p->p<i+1->p<j->j<d.length->J.dQ d R p j=C):=λp j F G h4 h5=>by
      by_cases c:p=i
      ·rw[c];exact HJ j (by omega) (by omega)
      ·exact HI p j F (by omega) h4 h5
     go_wp2;go_roundw;exact⟨i+1,by omega,by omega,by go_num,HN,HB⟩;simp[φ];omega
  ·have ac:¬(i:ω)<d.length:=by omega
   go_wp2;go_ret;exact⟨by rw[J.kC λ⟨p,k,F,G,h4,h5⟩=>by rw[HI.o p k F (by omega) G h4]at h5;cases h5];first|rfl|simp,HB⟩
def Blk(w:ξ)(g:W)(l:T ρ)(t:θ):Prop:=w.heap[g]?=I (.cells l.toArray t (0,0))
section
variable {w w':ξ}{g:ν}{l:σ ρ}{t:θ}
theorem Blk.lt(h:Blk w g l t):g<w.heap.size:=dC h
theorem Blk.keep(h:Blk w g l t)(e:w'.heap[g]?=w.heap[g]?):Blk w' g l t:=by grind [Blk]
def Blk.X(h:Blk w g l t)(c:ψ w.heap.size w w'):Blk w' g l t:=h.keep (c.block g h.lt)
theorem Blk.cell(h:Blk w g l t){v:ρ}(c:l[i]?=I v):w.cell? ⟨g,i,O⟩=I v:=by unfold Blk at h;simp[World.cell?,h,c]
theorem Blk.free(h:Blk w g l t)(i:ν):w.frozen? ⟨g,i,O⟩=C:=by unfold Blk at h;simp[World.frozen?,h]
def Blk.set(h:Blk w g l t)(i:ν)(u:ρ):Blk (w.setCell ⟨g,i,O⟩ u) g (l.set i u) t:=by
 unfold Blk at*;rw[cI h];simp
def Blk.cC(h:Blk w g l t)(i:ν)(u:ρ)(c:g≠k):Blk (w.setCell ⟨k,i,O⟩ u) g l t:=h.keep (xr _ _ _ _ c)
def Blk.alloc(h:Blk w g l t)(o:Obj):Blk (w.alloc o) g l t:=h.keep (Below.heap_alloc _ _ _ h.lt)
theorem Blk.new(w:ξ)(l:σ ρ)(t:θ):Blk (w.alloc (.cells l.toArray t)) w.heap.size l t:=heap_alloc_new w _
theorem GU(z:ρ)(n:W):madeCells #[z] n=((xF n).map λ_=>z).toArray:=by
 grind [toList_madeCells_one,List.map_const']
end
def AA(f:W->α)(h:i<n):((xF n).map f)[i]?=I (f i):=by simp[h]
theorem UU(f:W->α)(n i:W)(u:α):((xF n).map f).set i u=(xF n).map λj=>if j=i then u else f j:=by
 apply List.ext_getElem?
 grind
structure JTab(w:ξ)(g n:ν)(gs:ν->ν)(R:ν->ν->ι):Prop where
 top:Blk w g ((xF n).map λi=>VV (gs i) n n) 189
 row:∀i,i<n->Blk w (gs i) ((xF n).map λk=>M (R i k)) 4
 inj:∀i k,i<n->k<n->gs i=gs k->i=k
 off:∀i,i<n->gs i≠g
 n:n<1000
def eX(R:W->W->K)(i k:W)(b:K):W->W->K:=λx y=>if x=i/\y=k then b else R x y
section
variable {w w':ξ}{g n:ν}{gs:ν->ν}{R:ν->ν->ι}
def JTab.keep(h:JTab w g n gs R)(e:∀k,(k=g\/∃i,i<n/\k=gs i)->w'.heap[k]?=w.heap[k]?):JTab w' g n gs R :=
 ⟨h.top.keep (e _ (xR Z)),λi c=>(h.row i c).keep (e _ (x3 ⟨i,c,Z⟩)),h.inj,h.off,h.n⟩
def JTab.X(h:JTab w g n gs R)(c:ψ w.heap.size w w'):JTab w' g n gs R :=
 ⟨h.top.X c,λi d=>(h.row i d).X c,h.inj,h.off,h.n⟩
def JTab.at_(h:JTab w g n gs R):TabAt w g n gs R :=
 ⟨λi c=>h.top.cell (AA _ c),λi k c d=>(h.row i c).cell (AA _ d),h.top.lt,λi c=>(h.row i c).lt,h.n⟩
theorem JTab.set(h:JTab w g n gs R)(i k:ν)(q:i<n)(b:ι):JTab (w.setCell ⟨gs i,k,O⟩ (M b)) g n gs (eX R i k b):=by
 refine⟨h.top.cC _ _ λe=>h.off i q e.symm,λj d=>?_,h.inj,h.off,h.n⟩;by_cases c:j=i
 ·subst c;have:=(h.row j d).set k (M b);rw[UU]at this;refine Eq.mp ?_ this
  congr 1
  grind [eX]
 ·have:=(h.row j d).cC (k:=gs i) k (M b) λe=>c (h.inj j i d q e);refine Eq.mp ?_ this
  congr 1
  grind [eX]
def JTab.to(h:JTab w g n gs R){S:ν->ν->ι}(e:∀i k,i<n->k<n->R i k=S i k):JTab w g n gs S :=
 ⟨h.top,λi c=>by
  have:=h.row i c;refine Eq.mp ?_ this
  congr 1
  apply xs;intro x d;rw[e i x c (List.mem_range.1 d)],h.inj,h.off,h.n⟩
end
def Qw(B:W)(w:ξ)(g n:W)(gs:W->W)(R:W->W->K):Prop:=JTab w g n gs R/\B<=g/\∀i,i<n->B<=gs i
def Cv(w w':ξ)(n:W)(R:W->W->K)(e:Ending):Prop:=∃g gs,e=A (VV g n n)/\Qw w.heap.size w' g n gs R/\ψ w.heap.size w w'
def Tryz.infoBs:(prog.info? 189).map (λi=>(i.zero,i.size,i.bytes))=I (I (V O 0 0),1,24):=by kernel_rfl
def Tryz.infoB:(prog.info? 4).map (λi=>(i.zero,i.size,i.bytes))=I (I (M C),1,1):=by kernel_rfl
theorem GH(n:W)(w:ξ)(H:n<1000):
  τ π 142 #[N U (n:ω)] w λe w'=>Cv w w' n (λ_ _=>C) e:=by
 have G:∀w,(xt 218 (N U (n:ω)) (N U (n:ω))).run π w=.ok (VV w.heap.size n n) (w.alloc (.cells ((xF n).map λ_=>Value.slice O 0 0).toArray 189)):=λw=>by
  rw[<- GU];exact run_make_row' 218 189 (V O 0 0) 24 underlying218 Tryz.infoBs Z U U n (by omega) (by omega) w
 have F:∀w,(xt 189 (N U (n:ω)) (N U (n:ω))).run π w=.ok (VV w.heap.size n n) (w.alloc (.cells ((xF n).map λ_=>xk C).toArray 4)):=λw=>by
  rw[<- GU];exact run_make_row' 189 4 (M C) 1 underlying189 Tryz.infoB Z U U n (by omega) (by omega) w
 go_in;go_wp2;go_loopw[4] (λi wr=>∃k:W,k<=n/\i=N U k/\aC (Blk wr w.heap.size ((xF n).map λi=>if i<k then VV (w.heap.size+1+i) n n else V O 0 0) 189)/\aC (∀i,i<k->Blk wr (w.heap.size+1+i) ((xF n).map λ_=>M C) 4)/\aC (wr.heap.size=w.heap.size+1+k)/\aC (ψ w.heap.size w wr)) λi _=>n-(φ i).toNat
 case atStart=>exact⟨0,xc _,Z,by grind [aC,Blk.new],λj D=>ζ D (xe _),by unfold aC;simp,bB⟩
 case round =>
  obtain⟨k,K,rfl,d,HR,q,HB⟩:=hrel;by_cases hlt:k<n
  ·have r:=lI hlt;have lt:=d.lt;have fr:=d.free k;have cl:=d.cell (i:=k) (AA _ hlt);rw[η (by omega)]at cl;have v:=(xa wr.heap.size wr).alloc (xW _) (.cells ((xF n).map λ_=>xk C).toArray 4);go_wp2;go_roundw
   ·refine⟨k+1,by omega,by go_num,?_,?_,?_,?_⟩
    ·unfold aC;have h:=(d.set k (VV wr.heap.size n n)).alloc (.cells ((xF n).map λ_=>xk C).toArray 4);rw[UU]at h;refine Eq.mp ?_ h
     congr 1
     apply xs;intro x _;rw[q.o]
     grind
    ·unfold aC;intro i z;by_cases c:i=k
     ·subst c;have h:=Blk.new (wr.setCell ⟨w.heap.size,i,O⟩ (VV wr.heap.size n n)) ((xF n).map λ_=>xk C) 4;have J:(wr.setCell ⟨w.heap.size,i,O⟩ (VV wr.heap.size n n)).heap.size=w.heap.size+1+i:=by rw[<- q.o];simp
      rw[J]at h;exact h
     ·exact((HR.o i (by omega)).cC k _ (by omega)).alloc _
    ·unfold aC;simp[q.o];omega
    ·exact(HB.setCell (p:=⟨w.heap.size,k,O⟩) (xW _) _).alloc (by simpa using HB.size) _
   simp[φ];omega
  ·have r:=lN hlt;have E:k=n:=by omega
   go_wp2;go_ret;refine⟨w.heap.size,λi=>w.heap.size+1+i,Z,⟨⟨?_,λi z=>HR.o i (by omega),λi k _ _ e=>by omega,λi _ e=>by omega,H⟩,xW _,λi _=>by grind⟩,HB.o⟩;refine Eq.mp ?_ d.o
   congr 1
   simp_all
def Sl(w:ξ)(B:W)(v:ρ)(l:T ρ)(t:θ):Prop:=∃b o cap cur,v=V (I ⟨b,o,O⟩) l.length cap/\Blk w b cur t/\B<=b/\l.length<=cap/\o+cap<=cur.length/\∀j (h:j<l.length),cur[o+j]?=I l[j]
section
variable {w w':ξ}{B:ν}{v:ρ}{l:σ ρ}{t:θ}
def Sl.keep(h:Sl w B v l t)(e:∀k,v.ownBlock=I k->w'.heap[k]?=w.heap[k]?):Sl w' B v l t:=by
 obtain⟨b,o,c,d,rfl,q,r,x,z,D⟩:=h;exact⟨b,o,c,d,Z,q.keep (e b Z),r,x,z,D⟩
theorem Sl.blk(h:Sl w B v l t):∃b,v.ownBlock=I b/\B<=b/\∃c,Blk w b c t:=by
 obtain⟨b,o,d,c,rfl,e,q,r,x,z⟩:=h;exact⟨b,Z,q,c,e⟩
theorem Blk.ne{c:σ ρ}(h:Blk w g l t)(k:Blk w b c u)(d:t≠u):g≠b:=λe=>by
 subst e;have:=h.symm.trans k
 grind
theorem Sl.off{cs:σ ρ}(h:Sl w B v l t)(k:Blk w g cs u)(c:u≠t):v.ownBlock≠I g:=by
 grind [Sl.blk,Blk.ne]
theorem Sl.X(h:Sl w B v l t)(r:ψ w.heap.size w w'):Sl w' B v l t:=h.keep λk e=>by
 obtain⟨b,d,_,c,q⟩:=h.blk
 grind [Below.block,Blk.lt]
end
theorem Qx(w:ξ){D:Array Oper}{rest:σ Oper}{o:Oper}{a:υ}{Q:ς->υ->ξ->Prop}(hg:o.guard=O)(s x:Operand)(t:θ)(ab:o.op=Op.call {callee:=Callee.builtin Builtin.append,args:=#[s,x],argTypes:=#[t,t]})(e:θ)(i:TypeInfo)(z:ρ)(d:ν)(h1:prog.underlying t=I (.slice e))(h2:prog.info? e=I i)(h3:i.zero=I z)(h4:i.size=1)(h5:i.bytes=d)(h6:z.cells.size=1)(B:ν)(v:ρ)(l:σ ρ)(hs:a.eval s=v)(h:Sl w B v l e)(hB:B<=w.heap.size)(ad:Addr)(c:ν)(u:ρ)(hx:a.eval x=V (I ad) 1 c)(hu:w.cell? ad=I u)(J:u.oneCell'=Y)(hn:l.length<100000)(L:d<=1000)(hK:∀G w',Sl w' B G (l++[u]) e->w.grownBy w' v.ownBlock->wpList π D Q rest (a.put o.dst G) w'):
  wpList π D Q (o::rest) a w:=by
 obtain⟨b,of,r,H,rfl,hb,K,ai,T,ac⟩:=h;have aa:∀j F,([u]:σ ρ)[j]?=I F->w.cell? (ad.add j)=I F:=λj F E=>by
  grind [Addr.add]
 refine wpList_append_arg w hg s x t ab e i z 1 d h1 h2 h3 h4 h5 h6 (by decide) b of l.length r l hs (by simp) (λj F E=>?_) ad 1 c [u] hx Z aa (by simpa using J) (λhr j E=>?_) (by grind [maxLen]) ?_ (λhr=>?_) λhr G w' ho q=>?_
 ·grind [Blk.cell]
 ·grind [Blk.free,Blk.cell]
 ·have:(l.length+1)*d<=100000*1000:=Nat.mul_le_mul (by omega) L;omega
 ·have e1:w.setCells b (of+l.length*1) [u]=w.setCell ⟨b,of+l.length,O⟩ u:=by simp[World.setCells]
  rw[e1];have:=hK (V (I ⟨b,of,O⟩) (l.length+1) r) (w.setCell ⟨b,of+l.length,O⟩ u) ⟨b,of,r,H.set (of+l.length) u,by simp,hb.set _ _,K,by simpa using hr,by simpa using T,λj E=>?_⟩ (kZ (nJ _ _) _ _)
  ·exact this
  grind
 ·refine hK G w' ?_ ⟨q.os,q.tape,q.output,q.size,λk hk _=>q.block k hk (by simp)⟩;obtain⟨_,h⟩:=ho
  rcases h with⟨_,h⟩|⟨g,c',cu,rfl,W,ae,af,ag,X,ah⟩
  ·omega
  ·have hl:(l++[u]).length=l.length+1:=by simp
   refine⟨g,0,c',cu.toList,by rw[hl],by simp_all [Blk],xn hB W,by omega,by simp[X],λj E=>?_⟩
   grind
theorem tK(g o n:W):(⟨g,o,O⟩:Addr).add n=⟨g,o+n,O⟩:=by by_cases h:n=0<;>simp[Addr.add,h]
theorem Sl.tl{B d:ν}{x:ρ}(h:Sl w B (V (I ⟨b,o,O⟩) (l.length+1) d) (x::l) t):∃o' c',(∀q,(Instr.slice 37 (V (I ⟨b,o,O⟩) (l.length+1) d) (I (N U 1)) O O).run π q=.ok (V (I ⟨b,o',O⟩) l.length c') q)/\Sl w B (V (I ⟨b,o',O⟩) l.length c') l t:=by
 obtain⟨K,T,z,r,e,v,D,G,L,H⟩:=h;simp only[xo,Value.slice.injEq,Option.some.injEq,Addr.mk.injEq,and_true,true_and]at e;obtain⟨⟨rfl,rfl⟩,rfl⟩:=e;simp only[xo]at G H;have J:∀q,(Instr.slice 37 (V (I ⟨b,o,O⟩) (l.length+1) d) (I (N U 1)) O O).run π q=.ok (sliced (I ⟨b,o,O⟩) 1 (l.length+1) d 1) q:=λq=>by
  have v:=run_slice_l (w:=q) (P:=π) 37 (I ⟨b,o,O⟩) (l.length+1) d (by kernel_rfl) U 1 (by omega) (by omega);rw[v,show(sizeOf (prog.elem 37)).run π q=.ok 1 q by kernel_rfl,Result.andThen_ok];rfl
 by_cases h:d=1
 ·subst h;have F:l=[]:=List.eq_nil_of_length_eq_zero (by omega);subst F;exact⟨o,0,λq=>by grind [sliced],b,o,0,r,Z,v,D,by simp,by omega,λj E=>by simp at E⟩
 ·refine⟨o+1,d-1,λq=>?_,b,o+1,d-1,r,Z,v,D,by omega,by omega,λj E=>?_⟩
  ·grind [sliced,tK]
  grind
namespace J
def Rn(n:W)(R:W->W->K)(a b:W):Prop:=a<n/\b<n/\R a b=Y
structure WK(n:ν)(R:ν->ν->ι)(i:ν)(s:ν->ι)(l:σ ν)(D:ν->Prop):Prop where
 reach:∀j,s j=Y->j<n/\TC (Rn n R) i j
 que:∀x∈l,x<n/\(x=i\/s x=Y)
 done:∀x,x=i\/s x=Y->x∈l\/D x\/∀j,j<n->R x j=Y->s j=Y
def VY(n:W)(s:W->K):W:=((xF n).filter λj=>!s j).length
def fX(s:W->K)(j:W):W->K:=λx=>if x=j then Y else s x
theorem Qy{r:W->K}(h:∀j,j<n->s j=r j):VY n s=VY n r:=by
 grind [VY,List.filter_congr]
theorem wJ(d:j<n)(h:s j=C):VY n (fX s j)+1=VY n s:=by
 induction n with
 |zero=>omega
 |succ n ih =>
  unfold VY at*;rw[List.range_succ,xu,xu,xp,xp];by_cases c:j=n
  ·subst c;have e:=Qy (n:=j) (s:=fX s j) (r:=s) λx q=>by unfold fX;rw[η (by omega)]
   grind [VY,fX]
  ·have e:fX s j n=s n:=by unfold fX;rw[η λe=>c e.symm]
   grind
theorem WK.start(n:ν)(R:ν->ν->ι)(i:ν)(d:i<n):WK n R i (λ_=>C) [i] λ_=>False:=
 ⟨λj h=>(by cases h),λx c=>by grind,λx c=>by
  grind⟩
theorem AK(n:W)(s:W->K):VY n s<=n:=by
 grind [VY]
section
variable {n:ν}{R:ν->ν->ι}{i k:ν}{s:ν->ι}{l:σ ν}
theorem WK.RQ(h:WK n R i s (k::l) λ_=>False):WK n R i s l λx=>x=k:=
 ⟨h.reach,λx d=>h.que x (xl _ d),λx d=>by
  rcases h.done x d with c|c|c
  ·grind
  ·cases c
  grind⟩
theorem WK.fin(h:WK n R i s l λx=>x=k)(e:∀j,j<n->R k j=Y->s j=Y):WK n R i s l λ_=>False:=
 ⟨h.reach,h.que,λx d=>by
  rcases h.done x d with c|c|c
  ·exact xR c
  ·grind
  grind⟩
theorem WK.push(h:WK n R i s l λx=>x=k)(v:k<n/\(k=i\/s k=Y))(r:j<n)(z:R k j=Y):WK n R i (fX s j) (l++[j]) λx=>x=k:=by
 have up:∀x,s x=Y->fX s j x=Y:=λx q=>by unfold fX;by_cases c:x=j<;>simp[c,q]
 refine⟨λx q=>?_,λx q=>?_,λx q=>?_⟩
 ·unfold fX at q;by_cases c:x=j
  ·subst c;refine⟨r,?_⟩;have b:TC (Rn n R) k x:=TC.base ⟨v.1,r,z⟩
   rcases v.2 with e|e
   ·rw[<- e];exact b
   ·exact(h.reach k e).2.trans b
  ·rw[η c]at q;exact h.reach x q
 ·rcases List.mem_append.1 q with c|c
  ·exact⟨(h.que x c).1,(h.que x c).2.imp id (up x)⟩
  grind [fX]
 ·by_cases c:x=j
  ·grind
  ·have:x=i\/s x=Y:=q.imp id λe=>by simp_all [fX]
   rcases h.done x this with d|d|d
   ·grind
   ·exact x3 (xR d)
   grind
theorem WK.RK(h:WK n R i s [] λ_=>False)(E:i<n)(j:ν):s j=Y↔TC (Rn n R) i j:=by
 refine⟨λe=>(h.reach j e).2,λt=>?_⟩;have v:∀x y,TC (Rn n R) x y->x=i\/s x=Y->s y=Y:=λx y t=>t (λx y=>x=i\/s x=Y->s y=Y) λx y ⟨q,r,D⟩ d=>by
  rcases h.done x d with c|c|c
  ·simp at c
  ·cases c
  grind λx y z q r d=>r (x3 (q d))
 grind
end
end J
def nX(l:T W):T ρ:=l.map λx:W=>N U (x:H)
theorem QV(gt n:ν)(aJ:ν->ν)(R:ν->ν->ι)(w:ξ)(h:TabAt w gt n aJ R):
  τ π 143 #[VV gt n n] w λe w'=>Cv w w' n (λi k=>J.yes (TC (J.Rn n R) i k)) e:=by
 have H:=aD h;have hn:=h.n;clear h;obtain⟨i0,hi,aO,aP,aQ⟩:∃i0,prog.info? 3=I i0/\i0.zero=I (N U 0)/\i0.size=1/\i0.bytes=8:=⟨_,Z,by kernel_rfl,by kernel_rfl,by kernel_rfl⟩;go_in;go_wp2_with(first|(go_at_call 142;refine(GH n _ hn).mono ?_;rintro e w1 ⟨go,r,rfl,⟨(aA:aC _),(HG:aC _),(ak:aC _)⟩,(B1:aC _)⟩));go_loopw[5] (λi wr=>∃(k:ν) (T:ν->ν->ι),k<=n/\i=N U k/\aC (JTab wr go n r T)/\aC (∀x y,(x<k->(T x y=Y↔TC (J.Rn n R) x y))/\(k<=x->T x y=C))/\aC (ψ w.heap.size w wr)) λi _=>n-(φ i).toNat
 case atStart=>exact⟨0,_,xc _,Z,aA,λx y=>⟨λh=>ζ h (xe _),λ_=>Z⟩,B1⟩
 case round =>
  obtain⟨i,T,hk,rfl,HT,HS,HB⟩:=hrel;by_cases hlt:i<n
  ·have aM:=lI hlt;go_wp2;go_loopg [6] (J.VY n (T i)+1) λg lv wx=>∃(T':ν->ν->ι) (L:σ ν),aC (g=J.VY n (T' i)+L.length)/\aC (Sl wx w.heap.size lv (nX L) 3)/\aC (JTab wx go n r T')/\aC (J.WK n R i (T' i) L λ_=>False)/\aC (∀x y,x≠i->T' x y=T x y)/\aC (g<=n+1)/\aC (ψ w.heap.size w wx)
   case atStart =>
    refine⟨T,[i],Z,?_,?_,?_,λ_ _ _=>Z,?_,?_⟩
    ·refine⟨wr.heap.size,0,1,[N U (i:ω)],Z,?_,HB.size,xW _,xW _,λj hj=>?_⟩
     ·simp_all [Blk.new]
     ·simp[nX]at hj;subst hj;rfl
    ·exact HT.X bB
    ·have e:T i=λ_=>C:=by funext y;exact(HS i y).2 (xW _)
     rw[e];exact J.WK.start n R i hlt
    ·simp_all [aC,J.AK]
    ·exact HB.alloc HB.size _
   case round =>
    obtain⟨T',L,av,HL,am,HW,HO,al,aj⟩:=hrel
    cases L with
    |nil =>
     obtain⟨b,o,aH,aI,rfl,hb,aK,ao,aL,ac⟩:=HL.o;clear ac hb;simp only[nX,List.map_nil,xv]at *;go_wp2;go_roundw
     ·refine⟨i+1,T',by omega,by go_num,am,λx y=>⟨λG=>?_,λG=>?_⟩,aj⟩
      ·by_cases c:x=i
       ·rw[c];exact HW.RK hlt y
       ·rw[HO.o x y c];exact(HS x y).1 (by omega)
      ·rw[HO.o x y (by omega)];exact(HS x y).2 (by omega)
     simp[φ];omega
    |cons k L =>
     have ah:=HW.que k (by simp);have aw:=aD ah;have ad:k<n:=ah.1;have aS:(k:ω)<n:=by omega
     clear ah;have aF:=aD HW.RQ;clear HW;have ai:=HL.o;obtain⟨b,o,aH,aI,rfl,hb,aK,ao,aL,ac⟩:=HL.o;have ap:(nX (k::L)).length=(nX L).length+1:=by simp[nX]
     have aV:wr.cell? ⟨b,o,O⟩=I (N U (k:ω)):=by have:=hb.cell (ac 0 (by omega));simpa[nX]using this
     rw[ap]at ai ao⊢;obtain⟨o',c',aW,(ax:aC _)⟩:=Sl.tl ai;have lb:=hb.lt;have aT:(0:ω)<(((nX L).length+1:ν):ω):=by omega
     clear ai ac ap hb HL;go_wp2;go_loopw[6,8] (λlv q wx=>∃(j:ν) (d:ν->ν->ι) (E:σ ν),j<=n/\q=N U j/\aC (J.VY n (d i)+E.length<gk)/\aC (Sl wx w.heap.size lv (nX E) 3)/\aC (JTab wx go n r d)/\aC (J.WK n R i (d i) E λx=>x=k)/\aC (∀x y,x≠i->d x y=T x y)/\aC (∀y,y<j->R k y=Y->d i y=Y)/\aC (k=i\/d i k=Y)/\aC (ψ w.heap.size w wx)) λ_ q _=>n-(φ q).toNat
     case atStart=>exact⟨0,T',L,xc _,Z,by unfold aC;rw[av.o];simp,ax,am,aF,HO,λy hy=>ζ hy (xe _),aw.2,aj⟩
     case round =>
      obtain⟨j,d,E,hj,rfl,HC,F,D,ab,aa,HR,HK,K⟩:=hrel;by_cases hjl:j<n
      ·have aN:=lI hjl;have KT:=H.X K;have r1:=KT.row k ad;have b1:=KT.bit k j ad hjl;have aY:=KT.lg;have ba:=KT.lr k ad;have OT:=D.at_;have r2:=OT.row i hlt;have b2:=OT.bit i j hlt hjl;have aX:=OT.lg;have aZ:=OT.lr i hlt;have xK:=(D.row i hlt).free j;clear KT OT;have af:aC (∀T3:ν->ν->ι,(∀y,d i y=Y->T3 i y=Y)->(R k j=Y->T3 i j=Y)->∀y,y<j+1->R k y=Y->T3 i y=Y):=λT3 h1 h2 y hy hr=>by
        by_cases c:y=j
        ·rw[c]at hr⊢;exact h2 hr
        ·exact h1 y (HR y (by omega) hr)
       cases z1:R k j
       ·rw[z1]at b1;go_wp2;go_roundw;exact⟨j+1,d,E,by omega,by go_num,HC,F,D,ab,aa,af d (λ_ h=>h) (λh=>by rw[z1]at h;cases h),HK,K⟩;simp[φ];omega
       ·rw[z1]at b1
        cases z2:d i j
        ·rw[z2]at b2;have HP:=aD (ab.push ⟨ad,HK⟩ hjl z1);have e1:eX d i j Y i=J.fX (d i) j:=by funext y;simp[eX,J.fX]
         have HE:=aD e1;clear e1;have aE:=aD (D.set i j hlt Y);have ae:=aD (K.setCell (p:=⟨r i,j,O⟩) (ak i hlt) (M Y));have ag:aC (Sl (wr.setCell ⟨r i,j,O⟩ (M Y)) w.heap.size u6 (nX E) 3):=F.keep λx G=>xr _ _ _ _ λe=>F.off (D.row i hlt) (by decide) (by rw[G,e])
         have an:(nX E).length<100000:=by have:=HC.o;have:=al.o;simp only[nX,List.length_map];omega
         have ay:=aD an;clear an;obtain⟨b3,o3,c3,aR,rfl,_,_,_,_,_⟩:=F.o;have aG:aC ((wr.setCell ⟨r i,j,O⟩ (M Y)).heap.size=wr.heap.size):=by unfold aC;simp
         go_wp2_with(first
          |(at_builtin;generalize wr.setCell ⟨r i,j,O⟩ (M Y)=W at*;refine Qx _ Z (.tmp 56) (.tmp 58) 37 Z 3 i0 (N U 0) 8 underlying37 hi aO aP aQ Z w.heap.size _ (nX E) Z ?c1 ?c2 ⟨wr.heap.size,0,O⟩ 1 (N U (j:ω)) Z ?c3 Z ?c4 (by decide) ?_))
         case c1=>exact ag.X bB
         case c2=>exact xn ae.size (by simp)
         case c3=>rw[<- aG.o];exact(Blk.new W [N U (j:ω)] 3).cell Z
         case c4=>exact ay
         intro v' w' aq z;have az:=aD aq;have HA:aC (ψ W.heap.size W (W.alloc (.cells #[N U (j:ω)] 3))):=bB;have aB:aC (JTab w' go n r (eX d i j Y)):=by
          have t1:=aE.X HA;refine t1.keep λx G=>z.block x ?_ ?_
          ·rcases G with rfl|⟨y,hy,rfl⟩
           ·exact t1.top.lt
           ·exact(t1.row y hy).lt
          ·have s1:=ag.X HA;intro e
           rcases G with rfl|⟨y,hy,rfl⟩
           ·exact s1.off t1.top (by decide) e.symm
           ·exact s1.off (t1.row y hy) (by decide) e.symm
         have ar:aC (ψ w.heap.size w w'):=by
          obtain⟨b4,e4,aU,_⟩:=ag.blk;rw[e4]at z;have b0:=ae.alloc ae.size (.cells #[N U (j:ω)] 3);exact⟨z.os.trans b0.os,z.tape.trans b0.tape,z.output.trans b0.output,xn b0.size z.size,λx G=>(z.block x (xb G b0.size) (by simp;omega)).trans (b0.block x G)⟩
         have au:aC (J.VY n (eX d i j Y i)+(E++[j]).length<gk):=by
          unfold aC;rw[HE.o];have h1:=J.wJ hjl z2;have h2:=HC.o;simp only[xp,xo,xv];omega
         clear aq z;go_wp2;go_roundw
         ·refine⟨j+1,eX d i j Y,E++[j],by omega,by go_num,au,?_,aB,?_,?_,af (eX d i j Y) (λy hy=>?_) λ_=>by simp[eX],?_,ar⟩
          ·have e:nX (E++[j])=nX E++[N U (j:ω)]:=by simp[nX]
           rw[e];exact az
          ·rw[HE.o];exact HP
          ·exact λx y G=>by show eX d i j Y x y=T x y;rw[<- aa.o x y G];simp[eX,G]
          ·rw[HE.o];unfold J.fX;by_cases c:y=j<;>simp[c,hy]
          ·exact HK.imp id λe=>by rw[HE.o];unfold J.fX;by_cases c:k=j<;>simp[c,e]
         simp[φ];omega
        ·rw[z2]at b2;go_wp2;go_roundw;exact⟨j+1,d,E,by omega,by go_num,HC,F,D,ab,aa,af d (λ_ h=>h) λ_=>z2,HK,K⟩;simp[φ];omega
      ·have aN:¬(j:ω)<n:=by omega
       go_wp2;go_roundg (J.VY n (d i)+E.length)
       case measure=>exact HC
       case rel=>exact⟨d,E,Z,F,D,ab.fin λy hy hr=>HR y (by omega) hr,aa,by unfold aC;have:=HC.o;have:=al.o;omega,K⟩
  ·have aM:¬(i:ω)<n:=by omega
   go_wp2;go_ret;refine⟨go,r,Z,⟨HT.to λx y G hy=>?_,HG,ak⟩,HB⟩;have:=(HS x y).1 (by omega)
   cases c:T x y
   ·simp_all [J.kC]
   simp_all [J.gB]
theorem Cw(p q r s:K):p=C\/p=Y/\q=C\/p=Y/\q=Y/\r=C\/p=Y/\q=Y/\r=Y/\s=C\/p=Y/\q=Y/\r=Y/\s=Y:=by
 grind
def Qz(g L G T H K F:ν)(c:σ J.E)(fr ats:σ ω)(w:ξ)(h:YZ w g L G T H K F c fr ats)(a b:ν)(W:a<c.length)(hb:b<c.length):
  τ π 209 #[.pointer (I ⟨g,0,O⟩),N U (a:ω),N U (b:ω)] w λe w'=>e=A (M (J.eP (J.ev c a) (J.ev c b)))/\ψ w.heap.size w w':=by
 have he:=h.e;obtain⟨_,ab,ak,_,_,_,_,_,an⟩:=h.ev a W;obtain⟨_,bb,bk,_,_,_,_,_,bn⟩:=h.ev b hb;have hn:=h.n;have lg:=h.lg;have le:=h.le;have X:(a:ω)<c.length:=by omega
 have aa:(b:ω)<c.length:=by omega
 clear h;generalize J.ev c a=x at*;generalize J.ev c b=y at*;have v:aC (J.eP x y=(x.kind.toList==J.kA&&(y.kind.toList==J.kL&&(x.b==y.b&&x.round==y.round)))):=Z
 rcases Cw (x.kind.toList==J.kA) (y.kind.toList==J.kL) (x.b==y.b) (x.round==y.round)with d|⟨d,r⟩|⟨d,r,z⟩|⟨d,r,z,p4⟩|⟨d,r,z,p4⟩
 all_goals
  have q:=v.o;simp only[*,x7,x8,x2,x9]at q;have D:=aD q;clear q v;simp only[J.kA,J.kL]at *;go_in;go_wp2;go_quiet (fail);go_wp2;go_ret;exact⟨by rw[D.o];first|rfl|simp,eD _ _ _⟩
def OP(g d K W L T G:ν)(c:σ J.E)(fr ats:σ ω)(w:ξ)(h:YZ w g d K W L T G c fr ats)(a b:ν)(x:a<c.length)(z:b<c.length):
  τ π 210 #[.pointer (I ⟨g,0,O⟩),N U (a:ω),N U (b:ω)] w λe w'=>e=A (M (J.sc c a b))/\∃m,w'=w.drewN m:=by
 have H:=aD h;have F:aC (J.sc c a b=((a:ω) != (b:ω)&&(J.aJ c a b&&((J.ev c a).kind.toList==J.kF&&((J.ev c b).kind.toList==J.kF&&((J.ev c a).ord.toList==J.mI&&(J.ev c b).ord.toList==J.mI)))))):=Z;have he:=h.e;have hn:=h.n;have lg:=h.lg;have le:=h.le;have aa:(a:ω)<c.length:=by omega
 have ab:(b:ω)<c.length:=by omega
 have KE:aC (∀w',ψ w.heap.size w w'->w'.cell? ⟨d,a*10+2,O⟩=I (.string (J.ev c a).kind)/\w'.cell? ⟨d,a*10+5,O⟩=I (.string (J.ev c a).ord)/\w'.cell? ⟨d,b*10+2,O⟩=I (.string (J.ev c b).kind)/\w'.cell? ⟨d,b*10+5,O⟩=I (.string (J.ev c b).ord)/\d<w'.heap.size):=λw' hw=>by
  have k:=h.X hw;exact⟨(k.ev a x).k,(k.ev a x).r,(k.ev b z).k,(k.ev b z).r,k.le⟩
 clear h
 cases z1:(a:ω) != (b:ω)<;>cases z2:J.aJ c a b <;>
  rcases Cw ((J.ev c a).kind.toList==J.kF) ((J.ev c b).kind.toList==J.kF) ((J.ev c a).ord.toList==J.mI) ((J.ev c b).ord.toList==J.mI)with q|⟨q,D⟩|⟨q,D,p3⟩|⟨q,D,p3,p4⟩|⟨q,D,p3,p4⟩
 all_goals
  have v:=F.o;simp only[*,x7,x8,x2,x9]at v;have HW:=aD v;clear v F;simp only[J.kF,J.mI]at *;go_in;go_wp2_with(first|(go_at_call 217;refine(Cu g d K W L T G c fr ats _ H a b x z).mono ?_;rintro e w1 ⟨rfl,m1,rfl⟩;rw[z2];obtain⟨c1,c2,c3,c4,c5⟩:=KE.o _ (eD _ _ m1)))
  first|(go_quiet (fail);go_wp2)|skip
  go_ret;exact⟨by rw[HW.o];first|rfl|simp,by first|exact⟨_,Z⟩|exact⟨_,xm _ _ _⟩⟩
def Q6(g x q z r v d:W)(c:T J.E)(fr ats:T H)(w:ξ)(h:YZ w g x q z r v d c fr ats)(a b:W)(D:a<c.length)(F:b<c.length):
  τ π 210 #[.pointer (I ⟨g,0,O⟩),N U (a:H),N U (b:H)] w λe w'=>e=A (M (J.sc c a b))/\ψ w.heap.size w w' :=
 (OP g x q z r v d c fr ats w h a b D F).mono λ_ _ ⟨e,m,k⟩=>⟨e,k▸eD _ _ m⟩
theorem UB(g ge ce gf cf ga W:ν)(c:σ J.E)(fr ats:σ ω)(w:ξ)(h:YZ w g ge ce gf cf ga W c fr ats)(a b:ν)(ha:a<c.length)(hb:b<c.length)(hF:∀i,i<c.length->fr.getD i 0<(c.length:ω)):
  τ π 212 #[.pointer (I ⟨g,0,O⟩),N U (a:ω),N U (b:ω)] w λe w'=>e=A (M (J.aL c fr a b))/\ψ w.heap.size w w':=by
 have H:=aD h;have hn:=h.n;clear h;go_in;go_wp2;go_loopw[2,7] (λx i wr=>∃k q:ν,k<=c.length+1/\q<c.length/\i=N U k/\x=N U q/\aC (J.aL c fr a b=J.bS c fr a (c.length+1-k) q)/\aC (ψ w.heap.size w wr)) λ_ i _=>c.length+1-(φ i).toNat
 case atStart=>exact⟨0,b,xc _,hb,Z,Z,Z,xa _ _⟩
 case round =>
  obtain⟨k,q,hk,T,rfl,rfl,G,HB⟩:=hrel;have K:=H.X HB;have he:=K.e;have hf:=K.f;have ag:=K.fr q T;have lg:=K.lg;have le:=K.le;have lf:=K.lf;have ai:(q:ω)<c.length:=by omega
  by_cases hlt:k<=c.length
  ·have ac:=lE hlt;obtain⟨m,hm⟩:∃m,c.length+1-k=m+1:=⟨c.length-k,by omega⟩;have HS:aC (J.bS c fr a (c.length+1-k) q=if decide (0<=fr.getD q 0)&&J.aJ c (fr.getD q 0).toNat q then(if fr.getD q 0==(a:ω)then Y else if(J.ev c (fr.getD q 0).toNat).half then J.bS c fr a m ((fr.getD q 0).toNat-1)else C)else C):=by unfold aC;rw[hm];rfl
   have af:=hF q T;generalize fr.getD q 0=f at*;by_cases h0:0<=f
   ·obtain⟨p,rfl⟩:∃p:ν,f=(p:ω):=⟨f.toNat,by omega⟩;have L:p<c.length:=by omega
    have ah:(p:ω)<c.length:=by omega
    have z:aC (J.bS c fr a (c.length+1-k) q=if J.aJ c p q then(if(p:ω)==(a:ω)then Y else if(J.ev c p).half then J.bS c fr a m (p-1)else C)else C):=by simp_all [aC]
    clear HS
    cases z1:J.aJ c p q
    ·have r:aC (J.aL c fr a b=C):=by unfold aC;rw[G.o,z.o,z1];rfl
     go_wp2_with(first|(go_at_call 217;refine(wN g ge ce gf cf ga W c fr ats _ K p q L T).mono ?_;rintro e w1 ⟨rfl,d⟩;rw[z1];have D:=aD (bT HB d);clear d));go_ret;exact⟨by rw[r.o];first|rfl|simp,D⟩
    ·have h3:3<=p:=by
      simp_all [J.aJ]
     cases z2:(p:ω)==(a:ω)
     ·cases z3:(J.ev c p).half
      ·have r:aC (J.aL c fr a b=C):=by unfold aC;rw[G.o,z.o,z1,z2,z3];rfl
       go_wp2_with(first|(go_at_call 217;refine(wN g ge ce gf cf ga W c fr ats _ K p q L T).mono ?_;rintro e w1 ⟨rfl,d⟩;rw[z1];have D:=aD (bT HB d);have v:=K.X d;have ab:=v.e;have F:=(v.ev p L).h;rw[z3]at F;have ae:=v.lg;have ad:=v.le;clear d v));go_ret;exact⟨by rw[r.o];first|rfl|simp,D⟩
      ·have r:aC (J.aL c fr a b=J.bS c fr a (c.length+1-(k+1)) (p-1)):=by unfold aC;rw[G.o,z.o,z1,z2,z3,show c.length+1-(k+1)=m by omega];rfl
       have aa:(p:ω)-1=((p-1:ν):ω):=by omega
       go_wp2_with(first|(go_at_call 217;refine(wN g ge ce gf cf ga W c fr ats _ K p q L T).mono ?_;rintro e w1 ⟨rfl,d⟩;rw[z1];have D:=aD (bT HB d);have v:=K.X d;have ab:=v.e;have F:=(v.ev p L).h;rw[z3]at F;have ae:=v.lg;have ad:=v.le;clear d v));go_roundw;exact⟨k+1,p-1,by omega,by omega,by go_num,by first|rfl|(rw[aa])|simp[aa],r,D⟩;simp[φ];omega
     ·have r:aC (J.aL c fr a b=Y):=by unfold aC;rw[G.o,z.o,z1,z2];rfl
      go_wp2_with(first|(go_at_call 217;refine(wN g ge ce gf cf ga W c fr ats _ K p q L T).mono ?_;rintro e w1 ⟨rfl,d⟩;rw[z1];have D:=aD (bT HB d);clear d));go_ret;exact⟨by rw[r.o];first|rfl|simp,D⟩
   ·have r:aC (J.aL c fr a b=C):=by unfold aC;rw[G.o,HS.o,decide_eq_false h0];rfl
    go_wp2;go_ret;exact⟨by rw[r.o];first|rfl|simp,HB⟩
  ·have ac:¬(k:ω)<=c.length:=by omega
   have r:aC (J.aL c fr a b=C):=by unfold aC;rw[G.o,show c.length+1-k=0 by omega];rfl
   go_wp2;go_ret;exact⟨by rw[r.o];first|rfl|simp,HB⟩
namespace J
def nF:T z:=[114,101,108,101,97,115,101]
def uA:T z:=[97,99,113,114,101,108]
def nO:T z:=[97,99,113,117,105,114,101]
def lG(es:T E)(a i:W)(o:T z):K:=(i:H)==(a:H)&&((ev es i).ord.toList==o||(ev es i).ord.toList==uA)
def kH(es:T E)(a i:W):K:=lG es a i nF||(ev es a).kind.toList==kF&&aQ es a i
def jR(es:T E)(k b:W):K:=lG es b k nO||(ev es b).kind.toList==kF&&aQ es k b
def nG(e:E)(q:T z)(h:K):K:=!(e.kind.toList==q)||(e.ord.toList==cN||!h)
def tk(es:T E)(fr:T H)(b i k:W):K:=!nG (ev es k) kR (jR es k b)&&aL es fr i k
def ti(es:T E)(fr:T H)(a b i:W):K:=!nG (ev es i) kW (kH es a i)&&(xF es.length).any λk=>decide (3<=k)&&tk es fr b i k
def bZ(es:T E)(fr:T H)(a b:W):K:=aJ es a b&&(xF es.length).any λi=>decide (3<=i)&&ti es fr a b i
theorem sL(h:∀i,3<=i->i<n->f i=C):((xF n).any λi=>decide (3<=i)&&f i)=C:=by
 grind
theorem pY(d:3<=i)(c:i<n)(h:f i=Y):((xF n).any λi=>decide (3<=i)&&f i)=Y :=
 List.any_eq_true.2 ⟨i,List.mem_range.2 c,by grind⟩
end J
theorem Cx(p q r:K):p=C\/p=Y/\q=Y\/p=Y/\q=C/\r=Y\/p=Y/\q=C/\r=C:=by
 grind
theorem Cy(p q:K):p=C\/p=Y/\q=Y\/p=Y/\q=C:=by
 grind
theorem LW{x y:T z}{b:K}(h:(x==y)=b):(x != y)=!b:=by grind
theorem Cz(p q r:K):p=Y\/p=C/\q=C\/p=C/\q=Y/\r=Y\/p=C/\q=Y/\r=C:=by
 grind
def Q7(g ge ce gf cf ga ca:ν)(d:σ J.E)(fr ats:σ ω)(w:ξ)(h:YZ w g ge ce gf cf ga ca d fr ats)(a b:ν)(ha:a<d.length)(hb:b<d.length)(hF:∀i,i<d.length->fr.getD i 0<(d.length:ω))(h3:3<=d.length):
  τ π 208 #[.pointer (I ⟨g,0,O⟩),N U (a:ω),N U (b:ω)] w λe w'=>e=A (M (J.bZ d fr a b))/\ψ w.heap.size w w':=by
 have H:=aD h;have hn:=h.n;have HX:aC (J.bZ d fr a b=(J.aJ d a b&&(xF d.length).any λi=>decide (3<=i)&&J.ti d fr a b i)):=Z;clear h;have ao:(a:ω)<d.length:=by omega
 have ap:(b:ω)<d.length:=by omega
 cases z0:J.aJ d a b
 ·go_in;go_wp2_with(first|(go_at_call 217;refine(wN g ge ce gf cf ga ca d fr ats _ H a b ha hb).mono ?_;rintro e w1 ⟨rfl,(B1:aC _)⟩;rw[z0]));go_ret;exact⟨by rw[HX.o,z0];first|rfl|simp,B1⟩
 go_in;go_wp2_with(first|(go_at_call 217;refine(wN g ge ce gf cf ga ca d fr ats _ H a b ha hb).mono ?_;rintro e w1 ⟨rfl,(B1:aC _)⟩;rw[z0]));go_loopw[8] (λi wr=>∃k:ν,3<=k/\k<=d.length/\i=N U k/\aC (∀j,3<=j->j<k->J.ti d fr a b j=C)/\aC (ψ w.heap.size w wr)) λi _=>d.length-(φ i).toNat
 case atStart=>exact⟨3,xW _,h3,Z,λj h1 h2=>ζ h2 (by omega),B1⟩
 case round =>
  obtain⟨i,ai,hi,rfl,HI,HB⟩:=hrel;have K:=H.X HB;have he:=K.e;have lg:=K.lg;have le:=K.le;by_cases hlt:i<d.length
  ·have aj:=lI hlt;have ad:=(K.ev i hlt).r;clear K;go_upto_region 8 with fail
   go_cut[10]from 23 to 161 λc wx=>∃bq,c=M bq/\aC (bq=J.lG d a i J.nF)/\aC (ψ w.heap.size w wx)
   case first =>
    have W:aC (J.lG d a i J.nF=((i:ω)==(a:ω)&&((J.ev d i).ord.toList==J.nF||(J.ev d i).ord.toList==J.uA))):=Z
    rcases Cx ((i:ω)==(a:ω)) ((J.ev d i).ord.toList==J.nF) ((J.ev d i).ord.toList==J.uA)with v|⟨v,T⟩|⟨v,T,p3⟩|⟨v,T,p3⟩
    all_goals
     have x:=W.o;simp only[*,x7,x8,x2,x9,x1,x4,x5,x6]at x;have z:=aD x;clear x W
     try simp only[J.nF,J.uA]at *
     as_aux_lemma=>go_wp2;go_meet;exact⟨_,Z,z.symm,HB⟩
   case rest =>
    obtain⟨h0,rfl,D,HB⟩:=hcut;have K:=aD (H.X HB);go_upto_region 10 with(first|(go_at_call 211;refine(DX g ge ce gf cf ga ca d fr ats _ K a i ha hlt).mono ?_;rintro e w2 ⟨rfl,ab⟩;have B2:=aD (bT HB ab);clear ab))
    have L:=H.X B2;have ah:=L.e;have an:=L.lg;have am:=L.le;have af:=(L.ev a ha).k;have ag:=(L.ev i hlt).k;have ad:=(L.ev i hlt).r;clear L K;have F:aC (J.kH d a i=(h0||(J.ev d a).kind.toList==J.kF&&J.aQ d a i)):=by unfold aC;rw[D.o];rfl
    generalize J.aQ d a i=bA at*;go_cut[10]from 23 to 161 λc wx=>∃bq,c=M bq/\aC (bq=J.kH d a i)/\aC (ψ w.heap.size w wx)/\wx=w2
    case first =>
     rcases Cz h0 ((J.ev d a).kind.toList==J.kF) bA with v|⟨v,T⟩|⟨v,T,p3⟩|⟨v,T,p3⟩
     all_goals
      have x:=F.o;simp only[*,x7,x8,x2,x9,x1,x4,x5,x6]at x;have z:=aD x;clear x F D;subst v
      try simp only[J.kF]at *
      as_aux_lemma=>go_wp2;go_meet;exact⟨_,Z,z.symm,B2,Z⟩
    obtain⟨hd,rfl,G,HB,rfl⟩:=hcut;clear F D;go_upto_region 11 with fail
    go_cut[89]from 23 to 161 λc wx=>∃bq,c=M bq/\aC (bq=J.nG (J.ev d i) J.kW hd)/\wx=wc
    case first =>
     have W:aC (J.nG (J.ev d i) J.kW hd=(!((J.ev d i).kind.toList==J.kW)||((J.ev d i).ord.toList==J.cN||!hd))):=Z;clear G
     cases hd<;>rcases Cy ((J.ev d i).kind.toList==J.kW) ((J.ev d i).ord.toList==J.cN)with v|⟨v,T⟩|⟨v,T⟩
     all_goals
      have x:=W.o;simp only[*,x1,x4,x5,x6,xi,xj]at x;have z:=aD x;clear x W;have q1:=LW v
      try simp only[J.kW,J.cN]at *
      as_aux_lemma=>go_wp2;go_meet;exact⟨_,Z,z.symm,Z⟩
    obtain⟨ps,rfl,aa,rfl⟩:=hcut;have HT:aC (J.ti d fr a b i=(!ps&&(xF d.length).any λk=>decide (3<=k)&&J.tk d fr b i k)):=by unfold aC;rw[aa.o,G.o];rfl
    clear aa G af ag ad;cases ps
    ·go_wp2;go_loopw[12] (λq wr=>∃k:ν,3<=k/\k<=d.length/\q=N U k/\aC (∀j,3<=j->j<k->J.tk d fr b i j=C)/\aC (ψ w.heap.size w wr)) λq _=>d.length-(φ q).toNat
     case atStart=>exact⟨3,xW _,h3,Z,λj h1 h2=>ζ h2 (by omega),HB⟩
     case round =>
      obtain⟨k,ak,hk,rfl,HJ,HB⟩:=hrel;have K:=H.X HB;have he:=K.e;have lg:=K.lg;have le:=K.le;by_cases hkt:k<d.length
      ·have al:=lI hkt;have aq:=(K.ev k hkt).r;clear K;go_upto_region 16 with fail
       go_cut[14]from 90 to 161 λc wx=>∃bq,c=M bq/\aC (bq=J.lG d b k J.nO)/\wx=wr
       case first =>
        have W:aC (J.lG d b k J.nO=((k:ω)==(b:ω)&&((J.ev d k).ord.toList==J.nO||(J.ev d k).ord.toList==J.uA))):=Z
        rcases Cx ((k:ω)==(b:ω)) ((J.ev d k).ord.toList==J.nO) ((J.ev d k).ord.toList==J.uA)with v|⟨v,T⟩|⟨v,T,p3⟩|⟨v,T,p3⟩
        all_goals
         have x:=W.o;simp only[*,x7,x8,x2,x9,x1,x4,x5,x6]at x;have z:=aD x;clear x W
         try simp only[J.nO,J.uA]at *
         as_aux_lemma=>go_wp2;go_meet;exact⟨_,Z,z.symm,Z⟩
       obtain⟨h0,rfl,D,rfl⟩:=hcut;have K:=aD (H.X HB);go_upto_region 18 with(first|(go_at_call 211;refine(DX g ge ce gf cf ga ca d fr ats _ K k b hkt hb).mono ?_;rintro e w2 ⟨rfl,ab⟩;have B2:=aD (bT HB ab);clear ab))
       have L:=H.X B2;have ah:=L.e;have an:=L.lg;have am:=L.le;have af:=(L.ev b hb).k;have ag:=(L.ev k hkt).k;have ad:=(L.ev k hkt).r;clear L K;have F:aC (J.jR d k b=(h0||(J.ev d b).kind.toList==J.kF&&J.aQ d k b)):=by unfold aC;rw[D.o];rfl
       generalize J.aQ d k b=bA at*;go_cut[14]from 90 to 161 λc wx=>∃bq,c=M bq/\aC (bq=J.jR d k b)/\wx=w2
       case first =>
        rcases Cz h0 ((J.ev d b).kind.toList==J.kF) bA with v|⟨v,T⟩|⟨v,T,p3⟩|⟨v,T,p3⟩
        all_goals
         have x:=F.o;simp only[*,x7,x8,x2,x9,x1,x4,x5,x6]at x;have z:=aD x;clear x F D;subst v
         try simp only[J.kF]at *
         as_aux_lemma=>go_wp2;go_meet;exact⟨_,Z,z.symm,Z⟩
       obtain⟨hd,rfl,G,rfl⟩:=hcut;clear F D;go_upto_region 19 with fail
       go_cut[156]from 90 to 161 λc wx=>∃bq,c=M bq/\aC (bq=J.nG (J.ev d k) J.kR hd)/\wx=wc
       case first =>
        have W:aC (J.nG (J.ev d k) J.kR hd=(!((J.ev d k).kind.toList==J.kR)||((J.ev d k).ord.toList==J.cN||!hd))):=Z;clear G
        cases hd<;>rcases Cy ((J.ev d k).kind.toList==J.kR) ((J.ev d k).ord.toList==J.cN)with v|⟨v,T⟩|⟨v,T⟩
        all_goals
         have x:=W.o;simp only[*,x1,x4,x5,x6,xi,xj]at x;have z:=aD x;clear x W;have q1:=LW v
         try simp only[J.kR,J.cN]at *
         as_aux_lemma=>go_wp2;go_meet;exact⟨_,Z,z.symm,Z⟩
       obtain⟨ps,rfl,aa,rfl⟩:=hcut;have ae:aC (J.tk d fr b i k=(!ps&&J.aL d fr i k)):=by unfold aC;rw[aa.o,G.o];rfl
       clear aa G af ag ad;have K:=aD (H.X B2);cases ps
       ·cases z5:J.aL d fr i k
        ·have HN:aC (∀j,3<=j->j<k+1->J.tk d fr b i j=C):=λj h1 h2=>by
          by_cases c:j=k
          ·rw[c,ae.o,z5];rfl
          ·exact HJ j h1 (by omega)
         go_wp2_with(first|(go_at_call 212;refine(UB g ge ce gf cf ga ca d fr ats _ K i k hlt hkt hF).mono ?_;rintro e w3 ⟨rfl,ac⟩;rw[z5];have B3:=aD (bT B2 ac);clear ac));go_roundw;exact⟨k+1,by omega,by omega,by go_num,HN,B3⟩;simp[φ];omega
        ·have W:aC (J.bZ d fr a b=Y):=by
          unfold aC;rw[HX.o,z0,J.pY ai hlt (f:=J.ti d fr a b)]
          ·rfl
          ·rw[HT.o,J.pY ak hkt (f:=J.tk d fr b i)]
           ·rfl
           ·rw[ae.o,z5];rfl
         go_wp2_with(first|(go_at_call 212;refine(UB g ge ce gf cf ga ca d fr ats _ K i k hlt hkt hF).mono ?_;rintro e w3 ⟨rfl,ac⟩;rw[z5];have B3:=aD (bT B2 ac);clear ac));go_ret;exact⟨by rw[W.o];first|rfl|simp,B3⟩
       ·have HN:aC (∀j,3<=j->j<k+1->J.tk d fr b i j=C):=λj h1 h2=>by
         by_cases c:j=k
         ·rw[c,ae.o];rfl
         ·exact HJ j h1 (by omega)
        go_wp2;go_roundw;exact⟨k+1,by omega,by omega,by go_num,HN,B2⟩;simp[φ];omega
      ·have al:¬(k:ω)<d.length:=by omega
       clear K;have HN:aC (∀j,3<=j->j<i+1->J.ti d fr a b j=C):=λj h1 h2=>by
        by_cases c:j=i
        ·rw[c,HT.o,J.sL λj h1 h2=>HJ.o j h1 (by omega)];rfl
        ·exact HI j h1 (by omega)
       go_wp2;go_roundw;exact⟨i+1,by omega,by omega,by go_num,HN,HB⟩;simp[φ];omega
    ·have HN:aC (∀j,3<=j->j<i+1->J.ti d fr a b j=C):=λj h1 h2=>by
      by_cases c:j=i
      ·rw[c,HT.o];rfl
      ·exact HI j h1 (by omega)
     go_wp2;go_roundw;exact⟨i+1,by omega,by omega,by go_num,HN,HB⟩;simp[φ];omega
  ·have aj:¬(i:ω)<d.length:=by omega
   clear K;go_wp2;go_ret;exact⟨by rw[HX.o,J.sL λj h1 h2=>HI.o j h1 (by omega),x2];first|rfl|simp,HB⟩
def LO(g D v F x z r:ν)(c:σ J.E)(fr ats:σ ω)(w:ξ)(h:YZ w g D v F x z r c fr ats)(a b:ν)(d:a<c.length)(q:b<c.length):
  τ π 214 #[.pointer (I ⟨g,0,O⟩),N U (a:ω),N U (b:ω)] w λe w'=>e=A (M (J.order c ats a b))/\ψ w.heap.size w w':=by
 have he:=h.e;have H:=h.a;obtain⟨_,_,ak,al,_,_,_,_,_⟩:=h.ev a d;obtain⟨_,_,bk,bl,_,_,_,_,_⟩:=h.ev b q;have aa:=h.at_ a d;have ab:=h.at_ b q;have hn:=h.n;have X:=h.lg;have W:=h.le;have T:=h.la;have G:(a:ω)<c.length:=by omega
 have K:(b:ω)<c.length:=by omega
 have L:aC (J.order c ats a b=((a:ω) != (b:ω)&&((J.ev c a).kind.toList==J.kW&&((J.ev c b).kind.toList==J.kW&&((J.ev c a).loc==(J.ev c b).loc&&decide (ats.getD a 0<ats.getD b 0)))))):=Z;clear h
 cases z1:(a:ω) != (b:ω)<;>cases z2:(J.ev c a).kind.toList==J.kW<;>cases z3:(J.ev c b).kind.toList==J.kW<;>cases z4:(J.ev c a).loc==(J.ev c b).loc
 all_goals
  unfold J.kW at z2 z3;go_in;go_wp2;go_quiet (fail);go_wp2;go_ret;exact⟨by rw[L.o,z1,z4];unfold J.kW;rw[z2,z3];first|rfl|simp,eD _ _ _⟩
def Da(g D r F v z q:ν)(c:σ J.E)(fr ats:σ ω)(w:ξ)(h:YZ w g D r F v z q c fr ats)(a b:ν)(ha:a<c.length)(d:b<c.length):
  τ π 215 #[.pointer (I ⟨g,0,O⟩),N U (a:ω),N U (b:ω)] w λe w'=>e=A (M (J.aZ c fr a b))/\ψ w.heap.size w w':=by
 have he:=h.e;have hf:=h.f;have H:=h.fr b d;have X:=(h.ev b d).k;have hn:=h.n;have W:=h.lg;have L:=h.le;have T:=h.lf;have G:(b:ω)<c.length:=by omega
 have K:aC (J.aZ c fr a b=(fr.getD b 0==(a:ω)&&(J.ev c b).kind.toList==J.kR)):=Z;clear h;generalize fr.getD b 0=x at*
 cases z1:x==(a:ω)<;>cases z2:(J.ev c b).kind.toList==J.kR
 all_goals
  unfold J.kR at z2;go_in;go_wp2;go_ret;exact⟨by rw[K.o,z1];unfold J.kR;rw[z2];first|rfl|simp,xa _ _⟩
theorem NC(g K D L F G z:ν)(c:σ J.E)(fr ats:σ ω)(w:ξ)(h:YZ w g K D L F G z c fr ats)(a b:ν)(d:a<c.length)(hb:b<c.length)(hF:J.Full c fr):
  τ π 216 #[.pointer (I ⟨g,0,O⟩),N U (a:ω),N U (b:ω)] w λe w'=>e=A (M (J.misses c fr ats a b))/\ψ w.heap.size w w':=by
 have he:=h.e;have hf:=h.f;have r:=h.fr a d;have ak:=(h.ev a d).k;have hn:=h.n;have lg:=h.lg;have le:=h.le;have lf:=h.lf;have aa:(a:ω)<c.length:=by omega
 have W:aC (J.misses c fr ats a b=((J.ev c a).kind.toList==J.kR&&J.order c ats (fr.getD a 0).toNat b)):=Z;have H:=aD h;clear h
 cases z1:(J.ev c a).kind.toList==J.kR
 ·unfold J.kR at z1;go_in;go_wp2;go_ret;exact⟨by rw[W.o];unfold J.kR;rw[z1];first|rfl|simp,xa _ _⟩
 ·obtain⟨f0,f1⟩:=hF a d z1;obtain⟨k,T⟩:∃k:ν,fr.getD a 0=(k:ω):=⟨(fr.getD a 0).toNat,by omega⟩;unfold J.kR at z1;have v:k<c.length:=by omega
  have x:aC (J.misses c fr ats a b=J.order c ats k b):=by grind [aC,J.kR]
  rw[T]at r;clear f0 f1 T W;go_in;go_wp2_with(first|(go_at_call 214;refine(LO g K D L F G z c fr ats _ (by first|exact H.o|exact H.X (eD _ _ _)) k b v hb).mono ?_;rintro e w1 ⟨rfl,q⟩));go_ret;exact⟨by rw[x.o];first|rfl|simp,q⟩
def Q8(g F x G z D v:ν)(c:σ J.E)(fr ats:σ ω)(w:ξ)(h:YZ w g F x G z D v c fr ats)(a b:ν)(K:a<c.length)(L:b<c.length)(hF:J.Full c fr):
  τ π 218 #[.pointer (I ⟨g,0,O⟩),N U (a:ω),N U (b:ω)] w λe w'=>e=A (M (J.gN c fr ats a b))/\ψ w.heap.size w w':=by
 have hx:aC (J.gN c fr ats a b=(J.aZ c fr a b||(J.order c ats a b||J.misses c fr ats a b))):=Z;have H:=aD h;clear h
 cases z1:J.aZ c fr a b<;>cases z2:J.order c ats a b
 all_goals
  go_in;go_wp2_with(first
   |(go_at_call 215;refine(Da g F x G z D v c fr ats _ H a b K L).mono ?_;rintro e w1 ⟨rfl,d⟩;rw[z1];have W:=aD d;have T:=aD (H.X d);clear d)
   |(go_at_call 214;refine(LO g F x G z D v c fr ats _ T a b K L).mono ?_;rintro e w2 ⟨rfl,q⟩;rw[z2];have B2:=aD (bT W q);have H2:=aD (T.X q);clear q)
   |(go_at_call 216;refine(NC g F x G z D v c fr ats _ H2 a b K L hF).mono ?_;rintro e w3 ⟨rfl,r⟩;have B3:=aD (bT B2 r);clear r))
  go_ret;exact⟨by rw[hx.o,z1,z2];first|rfl|simp,B3⟩
namespace J
def isStep(x:E):K:=x.kind.toList==kR&&x.half
def kJ(es:T E)(fr ats:T H)(i k:W):K:=misses es fr ats i k&&order es ats k (i+1)
def Whole(es:T E)(fr ats:T H):Prop:=∀i,3<=i->i<es.length->isStep (ev es i)=Y->∀k,k<es.length->kJ es fr ats i k=C
def wholeB(es:T E)(fr ats:T H):K:=(xF es.length).all λi=>!(decide (3<=i)&&isStep (ev es i))||(xF es.length).all λk=>!kJ es fr ats i k
theorem iG(c:T E)(fr ats:T H):wholeB c fr ats=Y↔Whole c fr ats:=by
 unfold wholeB Whole
 grind
end J
def Db(g x q z r v d:W)(c:T J.E)(fr ats:T H)(w:ξ)(h:YZ w g x q z r v d c fr ats)(a b:W)(D:a<c.length)(F:b<c.length)(y:H)(G:y=(b:H)):
  τ π 214 #[.pointer (I ⟨g,0,O⟩),N U (a:H),N U y] w λe w'=>e=A (M (J.order c ats a b))/\ψ w.heap.size w w':=by
 subst G;exact LO g x q z r v d c fr ats w h a b D F
theorem Q9(g ge ce gf cf ga ca:ν)(d:σ J.E)(fr ats:σ ω)(w:ξ)(h:YZ w g ge ce gf cf ga ca d fr ats)(hF:J.Full d fr)(hH:∀i,i<d.length->J.isStep (J.ev d i)=Y->i+1<d.length)(h3:3<=d.length):
  τ π 213 #[.pointer (I ⟨g,0,O⟩)] w λe w'=>e=A (M (J.wholeB d fr ats))/\ψ w.heap.size w w':=by
 have H:=aD h;have hn:=h.n;clear h;go_in;go_wp2;go_loopw[3] (λi wr=>∃k:ν,3<=k/\k<=d.length/\i=N U k/\aC (∀j,3<=j->j<k->J.isStep (J.ev d j)=Y->∀q,q<d.length->J.kJ d fr ats j q=C)/\aC (ψ w.heap.size w wr)) λi _=>d.length-(φ i).toNat
 case atStart=>exact⟨3,xW _,h3,Z,λj h1 h2=>ζ h2 (by omega),xa _ _⟩
 case round =>
  obtain⟨k,ae,hk,rfl,HI,HB⟩:=hrel;have K:=H.X HB;have he:=K.e;have lg:=K.lg;have le:=K.le;by_cases hlt:k<d.length
  ·have ad:=lI hlt;have ah:=(K.ev k hlt).k;have G:=(K.ev k hlt).h;have HK:=aD K;clear K;have af:=hH k hlt;have HS:aC (J.isStep (J.ev d k)=((J.ev d k).kind.toList==J.kR&&(J.ev d k).half)):=Z
   cases z:J.isStep (J.ev d k)
   ·have W:aC (∀j,3<=j->j<k+1->J.isStep (J.ev d j)=Y->∀q,q<d.length->J.kJ d fr ats j q=C):=λj h1 h2 h4=>by
     by_cases c:j=k
     ·grind
     ·exact HI j h1 (by omega) h4
    cases x:(J.ev d k).kind.toList==J.kR<;>cases z2:(J.ev d k).half
    ·have aa:((J.ev d k).kind.toList != [114])=Y:=by unfold J.kR at x;unfold bne;rw[x];rfl
     unfold J.kR at x;rw[z2]at G;go_wp2;go_roundw;exact⟨k+1,by omega,by omega,by go_num,W,HB⟩;simp[φ];omega
    ·have aa:((J.ev d k).kind.toList != [114])=Y:=by unfold J.kR at x;unfold bne;rw[x];rfl
     unfold J.kR at x;rw[z2]at G;go_wp2;go_roundw;exact⟨k+1,by omega,by omega,by go_num,W,HB⟩;simp[φ];omega
    ·have aa:((J.ev d k).kind.toList != [114])=C:=by unfold J.kR at x;unfold bne;rw[x];rfl
     unfold J.kR at x;rw[z2]at G;go_wp2;go_roundw;exact⟨k+1,by omega,by omega,by go_num,W,HB⟩;simp[φ];omega
    ·exfalso;have:=HS.o
     grind
   ·have ab:k+1<d.length:=af z;have L:=HS.o;rw[z]at L;have x:((J.ev d k).kind.toList==J.kR)=Y:=by cases c:(J.ev d k).kind.toList==J.kR<;>rw[c]at L<;>first|rfl|cases L
    have z2:(J.ev d k).half=Y:=by grind
    have aa:((J.ev d k).kind.toList != [114])=C:=by grind [J.kR]
    unfold J.kR at x;rw[z2]at G;clear L;go_wp2;go_loopw[4] (λi w2=>∃q:ν,q<=d.length/\i=N U q/\aC (∀j,j<q->J.kJ d fr ats k j=C)/\aC (ψ w.heap.size w w2)) λi _=>d.length-(φ i).toNat
    case atStart=>exact⟨0,xc _,Z,λj hj=>ζ hj (xe _),HB⟩
    case round =>
     obtain⟨q,hq,rfl,HJ,D⟩:=hrel;have K2:=H.X D;have ag:=K2.e;have aj:=K2.lg;have ai:=K2.le;have F:=aD K2;clear K2;by_cases hql:q<d.length
     ·have ac:=lI hql;have HT:aC (J.kJ d fr ats k q=(J.misses d fr ats k q&&J.order d ats q (k+1))):=Z
      cases y1:J.misses d fr ats k q<;>cases y2:J.order d ats q (k+1)
      case true.true =>
       have HV:aC (J.wholeB d fr ats=C):=by
        unfold aC
        cases c:J.wholeB d fr ats
        ·rfl
        ·have:=(J.iG _ _ _).1 c k ae hlt z q hql;rw[HT.o,y1,y2]at this;cases this
       go_wp2_with(first
        |(go_at_call 216;refine(NC g ge ce gf cf ga ca d fr ats _ F k q hlt hql hF).mono ?_;rintro e w3 ⟨rfl,r⟩;rw[y1];have B3:=aD (bT D r);have T:=aD (F.X r);clear r)
        |(go_at_call 214;refine(Db g ge ce gf cf ga ca d fr ats _ T q (k+1) hql ab _ (by omega)).mono ?_;rintro e w4 ⟨rfl,v⟩;rw[y2];have B4:=aD (bT B3 v);clear v))
       go_ret;exact⟨by rw[HV.o];first|rfl|simp,B4⟩
      all_goals
       have W:aC (∀j,j<q+1->J.kJ d fr ats k j=C):=λj hj=>by
        by_cases c:j=q
        ·rw[c,HT.o,y1,y2];rfl
        ·exact HJ j (by omega)
       go_wp2_with(first
        |(go_at_call 216;refine(NC g ge ce gf cf ga ca d fr ats _ F k q hlt hql hF).mono ?_;rintro e w3 ⟨rfl,r⟩;rw[y1];have B3:=aD (bT D r);have T:=aD (F.X r);clear r)
        |(go_at_call 214;refine(Db g ge ce gf cf ga ca d fr ats _ T q (k+1) hql ab _ (by omega)).mono ?_;rintro e w4 ⟨rfl,v⟩;rw[y2];have B4:=aD (bT B3 v);clear v))
       go_roundw;exact⟨q+1,by omega,by go_num,W,B4⟩;simp[φ];omega
     ·have ac:=lN hql;have W:aC (∀j,3<=j->j<k+1->J.isStep (J.ev d j)=Y->∀q,q<d.length->J.kJ d fr ats j q=C):=λj h1 h2 h4 p hp=>by
       by_cases c:j=k
       ·rw[c];exact HJ p (by omega)
       ·exact HI j h1 (by omega) h4 p hp
      go_wp2;go_roundw;exact⟨k+1,by omega,by omega,by go_num,W,D⟩;simp[φ];omega
  ·have ad:¬(k:ω)<d.length:=by omega
   have HV:aC (J.Whole d fr ats):=λj h1 h2 h4=>HI j h1 (by omega) h4
   clear K;go_wp2;go_ret;exact⟨by rw[(J.iG _ _ _).2 HV.o];first|rfl|simp,HB⟩
def eA:ε->T ε
 |.seq a b=>eA a++eA b
 |c=>[c]
def bC(P:κ):T ε->(ς->d->ξ->Prop)->d->ξ->Prop
 |[],Q,a,w=>Q .normal a w
 |c::r,Q,a,w=>xd P c (Exit.then (λa' w'=>bC P r Q a' w') Q) a w
def Rb{P:κ}{Q:ς->υ->ξ->Prop}(x y:T ε):∀(a:υ) (w:ξ),bC P (x++y) Q a w->bC P x (Exit.then (λd w'=>bC P y Q d w') Q) a w:=by
 induction x with
 |nil=>intro a w h;exact h
 |cons c r ih =>
  intro a w h;refine wp_mono h λe d w' q=>?_
  cases e<;>first|exact ih _ _ q|exact q
def fU{P:κ}(c:ε):∀(Q:ς->υ->ξ->Prop) (a:υ) (w:ξ),bC P (eA c) Q a w->xd P c Q a w:=by
 have cT:∀(c:ε) (Q:ς->υ->ξ->Prop) (a:υ) (w:ξ),bC P [c] Q a w->xd P c Q a w:=λc Q a w h =>
  wp_mono h λe z w' d=>by cases e<;>exact d
 induction c with
 |seq x y hx hy =>
  intro Q a w h;refine wp_seq (hx _ _ _ ?_);have mono:∀(l:T ε) (Q1 q:ς->υ->ξ->Prop) (a:υ) (w:ξ),(∀e a w,Q1 e a w->q e a w)->bC P l Q1 a w->bC P l q a w:=by
   intro l
   induction l with
   |nil=>intro Q1 q a w v h;exact v _ _ _ h
   |cons c r ih =>
    intro Q1 q a w v h;refine wp_mono h λe z w' d=>?_
    cases e<;>first|exact ih _ _ _ _ v d|exact v _ _ _ d
  refine mono _ _ _ _ _ (λe z w' d=>?_) (Rb (eA x) (eA y) a w h)
  cases e<;>first|exact hy _ _ _ d|exact d
 |_=>exact λQ a w h=>cT _ Q a w h
theorem rS{P:κ}{l:T ε}{Q:ς->d->ξ->Prop}{a:d}(i:W)(c:i<l.length)(h:∀K:d->ξ->Prop,(∀a w,bC P (l.drop (i+1)) Q a w->K a w)->xd P (l.getD i .skip) (Exit.then K Q) a w):bC P (l.drop i) Q a w:=by
 rw[List.drop_eq_getElem_cons c];have e:l.getD i .skip=l[i]:=by grind
 rw[e]at h;exact h _ λ_ _ h=>h
theorem lH{P:κ}{l:T ε}{Q:ς->d->ξ->Prop}{a:d}(i:W)(e:l.length=m)(c:Nat.blt i m=Y)(h:∀K:d->ξ->Prop,aC (∀a w,bC P (l.drop (i+1)) Q a w->K a w)->xd P (l.getD i .skip) (Exit.then K Q) a w):bC P (l.drop i) Q a w :=
 rS i (by simp_all) h
def aH{P:κ}{l:T ε}{c:ε}{Q:ς->d->ξ->Prop}{a:d}(e:(l.drop i).head?=I c)(h:∀K:d->ξ->Prop,aC (∀a w,bC P (l.drop (i+1)) Q a w->K a w)->xd P c (Exit.then K Q) a w):bC P (l.drop i) Q a w:=by
 have k:=h _ λ_ _ h=>h;rw[<- List.tail_drop]at k;generalize l.drop i=x at*
 cases x<;>cases e
 exact k
def gC(c:ε):ε:=match c with
 |.block _ d=>d
 |d=>d
def pT:ε->ε
 |.loop c=>c
 |d=>d
def gA(a:d)(i:W):ρ:=a.tmps.getD i undef
theorem Dc{d:ρ}:l=(xF l.length).map λi=>l.getD i d:=by
 apply List.ext_getElem
 ·simp
 grind
theorem eH{a:υ}(h:a.tmps.size=n)(c:a.defers=[]):a=⟨⟨(xF n).map (gA a)⟩,[]⟩:=by
 obtain⟨⟨l⟩,d⟩:=a;simp only at c;subst c;have e:l.length=n:=h;have q:=Dc (l:=l) (d:=undef);rw[e]at q;have r:gA ⟨⟨l⟩,[]⟩=λi=>l.getD i undef:=by funext i;simp[gA,Array.getD_eq_getD_getElem?]
 grind
def Rc(T:W->W->K)(i k:W)(x y:K):eX (eX T i k x) i k y=eX T i k y:=by
 funext a b
 unfold eX
 split<;>rfl
theorem QU(p q r:K):p=C\/p=Y/\q=C\/p=Y/\q=Y/\r=Y\/p=Y/\q=Y/\r=C:=by
 grind
theorem LI(p q:K):p=Y\/p=C/\q=Y\/p=C/\q=C:=by grind
theorem Re(p q r:K):p=Y\/p=C/\q=Y\/p=C/\q=C/\r=Y\/p=C/\q=C/\r=C:=by
 grind
namespace J
def cl [D:∀p,χ p](n:W) (R:W->W->K) (i k:W):K:=@yes D (Q.TC (Rn n R) i k)
theorem yW{b:K}:(yes p||b)=yes (p\/b=Y):=by
 cases b
 ·grind
 simp_all [gB,x1]
theorem dA{q:Prop}(h:p↔q):yes p=yes q:=by grind
def rZ(es:T E)(fr ats:T H)(i k:W):K:=bZ es fr i k||(eP (ev es i) (ev es k)||sc es i k&&decide (ats.getD i 0<ats.getD k 0))
def xK(es:T E)(i x:W):K:=aQ es x i||(x:H)==(i:H)
def vE(es:T E)(k y:W):K:=aQ es k y||(y:H)==(k:H)
def FU(es:T E)(fr ats:T H)(a b x y:W):Prop:=rZ es fr ats a b=Y/\xK es a x=Y/\vE es b y=Y
def IA(es:T E)(fr ats:T H)(x y:W):Prop:=∃a b,a<es.length/\b<es.length/\FU es fr ats a b x y
def wX(es:T E)(fr ats:T H)(i k x y:W):Prop:=∃a b,(a<i\/a=i/\b<k)/\b<es.length/\FU es fr ats a b x y
def tH{c:T E}{x:W}:¬wX c fr ats 0 0 x y:=λ⟨_,_,h,_⟩=>by omega
theorem jL{q:T E}{x:W}(h:k<q.length):wX q fr ats i (k+1) x y↔wX q fr ats i k x y\/FU q fr ats i k x y:=by
 constructor
 ·rintro⟨a,b,c,d,o⟩;by_cases e:a=i/\b=k
  ·grind
  ·exact xR ⟨a,b,by omega,d,o⟩
 ·rintro(⟨a,b,c,d,o⟩|o)
  ·exact⟨a,b,by omega,d,o⟩
  ·exact⟨i,k,by omega,h,o⟩
def wI{e:T E}{x:W}(h:¬k<e.length):wX e fr ats i k x y↔wX e fr ats (i+1) 0 x y :=
 ⟨λ⟨a,b,c,d,o⟩=>⟨a,b,by omega,d,o⟩,λ⟨a,b,c,d,o⟩=>⟨a,b,by omega,d,o⟩⟩
def wA{e:T E}{x:W}(h:i=e.length):wX e fr ats i 0 x y↔IA e fr ats x y :=
 ⟨λ⟨a,b,c,d,o⟩=>⟨a,b,by omega,d,o⟩,λ⟨a,b,c,d,o⟩=>⟨a,b,by omega,d,o⟩⟩
def base [D:∀p,χ p](e:T E) (fr ats:T H):W->W->K:=@cl D e.length λx y=>yes (IA e fr ats x y)
def nC(es:T E)(fr:T H)(B:W->W->K)(m i k:W):Prop:=(B i k||aQ es i k)=Y\/∃x,3<=x/\x<m/\((ev es x).kind.toList==kR)=Y/\((ev es i).kind.toList==kW)=Y/\B x k=Y/\aL es fr i x=Y
def cse [D:∀p,χ p](es:T E) (fr ats:T H) (i k:W):K:=@yes D (nC es fr (base es fr ats) es.length i k)
def tN{d:T E}{e:W}(h:m<=e)(c:nC d fr B m i k):nC d fr B e i k:=c.imp id λ⟨x,q,v,r⟩=>⟨x,q,by omega,r⟩
theorem sG{d:T E}(h:3<=m):nC d fr B (m+1) i k↔nC d fr B m i k\/((ev d m).kind.toList==kR)=Y/\((ev d i).kind.toList==kW)=Y/\B m k=Y/\aL d fr i m=Y:=by
 constructor
 ·rintro(c|⟨x,q,v,r⟩)
  ·exact xR (xR c)
  ·by_cases e:x=m
   ·grind
   ·exact xR (x3 ⟨x,q,by omega,r⟩)
 ·rintro(c|c)
  ·exact tN (by omega) c
  ·exact x3 ⟨m,h,by omega,c⟩
def mM(x:E):K:=x.kind.toList==kW||x.kind.toList==kR
def bad(es:T E)(fr ats:T H)(i k:W):K:=order es ats k i||(sc es i k&&decide (ats.getD k 0<ats.getD i 0)||(aZ es fr k i||misses es fr ats k i))
def locB(es:T E)(fr ats:T H)(i k:W):K:=aJ es i k&&gN es fr ats i k||aQ es i k&&(mM (ev es i)&&mM (ev es k)&&(ev es i).loc==(ev es k).loc)
structure MayT(es:σ E)(fr ats:σ ω):Prop where
 cse:rnd es.length (cse es fr ats)=C
 whole:wholeB es fr ats=Y
 link:∀i k,i<es.length->k<es.length->¬(J.cse es fr ats i k=Y/\bad es fr ats i k=Y)
 loc:rnd es.length (cl es.length (locB es fr ats))=C
end J
def tF(d:Func):T ε:=eA (d.body.getD .skip)
structure TFa(a:υ)(g n gb:ν):Prop where
 sz:a.tmps.size=392
 df:a.defers=[]
 s0:gA a 0=.pointer (I ⟨g,0,O⟩)
 s3:gA a 3=N U (n:ω)
 s4:gA a 4=VV gb n n
structure TFb(a:υ)(g n gc:ν):Prop where
 sz:a.tmps.size=392
 df:a.defers=[]
 s0:gA a 0=.pointer (I ⟨g,0,O⟩)
 s3:gA a 3=N U (n:ω)
 s14:gA a 14=VV gc n n
