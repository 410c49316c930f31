import Derived.Test.YtehclbpoabdpoaaGreatDoorO09
set_option linter.all false
set_option maxHeartbeats 0
namespace Go.Proofs.YtehclbpoabdpoaaGreatDoor
open Go Go.RowKit Go.Proofs.Tryz P Q
open scoped Classical
set_option maxRecDepth 1000000
variable {r:List Nat}{a b:Nat}{α β γ:Type}{S:Nat->Nat->Prop}{es:List Ev}
open List renaming length->U
open Bool renaming true->I
open Or renaming inr->xF,inl->xR
open List renaming range->xW,foldl_cons->x2,mem_cons_of_mem->x3,any_eq_true->xa
open Bool renaming and_eq_true->x1,or_eq_true->x6,not_eq_true'->xb
open Int renaming toNat_natCast->x4
open Nat renaming testBit_or->x5,testBit_two_pow->x7,testBit_and->x8,zero_testBit->x9
namespace Q
def NO(r:List Nat)(a b:Nat):Prop:=(r.getD a 0).testBit b=I
structure Rel(n:Nat)(r:List Nat):Prop where
 len:U r=n
 lt:∀a b,NO r a b->b<n
def NO.left(h:NO r a b):a<U r:=by
 by_cases hl:a<U r
 ·exact hl
 ·unfold NO at h;rw[rJ _ _ (by omega)]at h;simp at h
def XB(b c:Nat)(h:b<64):(bW (b:Int)).testBit c=decide (b=c):=by
 unfold bW;rw[if_neg (by omega),x4,x7]
def XC(s b:Nat)(h:b<64):PD s (b:Int)=s.testBit b:=by
 unfold PD bW;rw[if_neg (by omega),x4]
 cases hb:s.testBit b
 ·have:s &&& 2^b=0:=by
   refine Nat.eq_of_testBit_eq fun i=>?_;rw[x8,x7,x9];by_cases h:b=i
   ·rw[<- h,hb];rfl
   ·simp[h]
  rw[this];rfl
 ·have:s &&& 2^b≠0:=by
   intro e;have c:=congrArg (fun x=>x.testBit b) e;simp[x8,x7,hb]at c
  simp[this]
def pS(r:List Nat)(a b:Nat)(h:b<64):cC r (a:Int) (b:Int)=I↔NO r a b:=by
 unfold cC NO;rw[qS,XC _ _ h]
def IN(f:Nat->Nat)(n a:Nat):((xW n).map f).getD a 0=if a<n then f a else 0:=by
 by_cases h:a<n
 ·rw[rQ _ _ (by simpa using h),if_pos h];simp
 ·rw[rJ _ _ (by simpa using h),if_neg h]
def FP(n a b:Nat):¬NO (NU n) a b:=by
 intro h;unfold NO NU at h;have:(List.replicate n 0).getD a 0=0:=by
  by_cases ha:a<n
  ·rw[rQ _ _ (by simpa using ha)];simp
  ·rw[rJ _ _ (by simpa using ha)]
 rw[this]at h;simp at h
section
variable {n:Nat}{r o:List Nat}
def IC(d:U r=n)(c:U o=n)(a b:Nat):NO (gV r o) a b↔NO r a b\/NO o a b:=by
 unfold NO gV;rw[IN];by_cases h:a<U r
 ·rw[if_pos h,x5,qS,qS,x6]
 ·rw[if_neg h,rJ r _ (by omega),rJ o _ (by omega)];simp
def XD(c:U r=n)(a b:Nat):NO (kU r o) a b↔NO r a b/\NO o a b:=by
 unfold NO kU;rw[IN];by_cases h:a<U r
 ·rw[if_pos h,x8,qS,qS,x1]
 ·rw[if_neg h,rJ r _ (by omega)];simp
def qK(c:Rel n r)(d:Rel n o):Rel n (gV r o):=
 ⟨by rw[EF];exact c.len,fun a b h=>by rcases(IC c.len d.len a b).1 h with h|h;exact c.lt _ _ h;exact d.lt _ _ h⟩
def zH(c:Rel n r):Rel n (kU r o):=
 ⟨by rw[IW];exact c.len,fun a b h=>c.lt _ _ ((XD c.len a b).1 h).1⟩
def XE(i:n<=64)(a x:Nat):∀(l:List Nat) (f:Nat),(∀c∈l,c<n)->((l.foldl (lM r o a) f).testBit x=I↔f.testBit x=I\/∃c∈l,NO r a c/\NO o c x)
 |[],f,_=>by simp
 |c::l,f,h=>by
  rw[x2,XE i a x l _ fun y e=>h y (x3 _ e)];have j:c<n:=h c (by simp);unfold lM;by_cases hb:NO r a c
  ·rw[if_pos ((pS r a c (by omega)).2 hb),x5,qS,x6];constructor
   ·rintro((d|d)|⟨y,e,d⟩)
    ·exact xR d
    ·exact xF ⟨c,by simp,hb,d⟩
    ·exact xF ⟨y,x3 _ e,d⟩
   ·rintro(d|⟨y,e,d⟩)
    ·exact xR (xR d)
    ·rcases List.mem_cons.1 e with rfl|e
     ·exact xR (xF d.2)
     ·exact xF ⟨y,e,d⟩
  ·rw[if_neg fun g=>hb ((pS r a c (by omega)).1 g)];constructor
   ·rintro(d|⟨y,e,d⟩)
    ·exact xR d
    ·exact xF ⟨y,x3 _ e,d⟩
   ·rintro(d|⟨y,e,d⟩)
    ·exact xR d
    ·rcases List.mem_cons.1 e with rfl|e
     ·exact absurd d.1 hb
     ·exact xF ⟨y,e,d⟩
def XG(g:n<=64)(d:Rel n r)(a b:Nat):NO (dZ r o) a b↔∃c,NO r a c/\NO o c b:=by
 have e:NO (dZ r o) a b↔a<U r/\(lT r o a).testBit b=I:=by
  unfold dZ;rw[NO,IN];by_cases h:a<U r
  ·simp[h]
  ·simp[h]
 rw[e];unfold lT;rw[XE (n:=n) g a b _ _ fun c f=>by rw[d.len]at f;exact List.mem_range.1 f];simp only[x9,Bool.false_eq_true,false_or,List.mem_range];constructor
 ·rintro⟨_,c,_,h⟩;exact⟨c,h⟩
 ·rintro⟨c,h⟩;exact⟨h.1.left,c,by rw[d.len];exact d.lt _ _ h.1,h⟩
def oE(e:n<=64)(d:Rel n r)(f:Rel n o):Rel n (dZ r o):=
 ⟨by rw[KN];exact d.len,fun a b h=>by obtain⟨c,_,h⟩:=(XG e d a b).1 h;exact f.lt _ _ h⟩
def XH(l:List Nat)(i x a:Nat)(h:i<U l):(l.set i x).getD a 0=if a=i then x else l.getD a 0:=by
 by_cases ha:a=i
 ·rw[ha,if_pos rfl,rQ _ _ (by simpa using h)];simp
 ·rw[if_neg ha];simp[List.getD,List.getElem?_set,Ne.symm ha]
def XI(f:n<=64)(g:U r=n)(i k:Nat)(d:i<n)(e:k<n)(a b:Nat):NO (dE r i k) a b↔NO r a b\/a=i/\b=k:=by
 unfold dE;rw[if_neg (by omega),x4,NO,XH _ _ _ _ (by omega)];by_cases h:a=i
 ·rw[if_pos h,x5,qS,XB _ _ (by omega),x6,decide_eq_true_eq,h];constructor
  ·rintro(c|c)
   ·exact xR c
   ·exact xF ⟨Z,c.symm⟩
  ·rintro(c|c)
   ·exact xR c
   ·exact xF c.2.symm
 ·rw[if_neg h];simp[h,NO]
def yL(F:List Nat->β->List Nat)(G:β->Nat->Nat->Prop)(l:List β)(g:∀r x,x∈l->U r=n->(F r x).length=n/\∀a b,NO (F r x) a b↔NO r a b\/G x a b):
  ∀r,U r=n->(l.foldl F r).length=n/\∀a b,NO (l.foldl F r) a b↔NO r a b\/∃x∈l,G x a b:=by
 induction l with
 |nil=>intro r h;exact⟨h,by simp⟩
 |cons x l ih =>
  intro r h;have e:=g r x (by simp) h;have f:=ih (fun r y d i=>g r y (x3 _ d) i) (F r x) e.1;refine⟨f.1,fun a b=>?_⟩;rw[x2,f.2,e.2];constructor
  ·rintro((c|c)|⟨y,d,c⟩)
   ·exact xR c
   ·exact xF ⟨x,by simp,c⟩
   ·exact xF ⟨y,x3 _ d,c⟩
  ·rintro(c|⟨y,d,c⟩)
   ·exact xR (xR c)
   ·rcases List.mem_cons.1 d with rfl|d
    ·exact xR (xF c)
    ·exact xF ⟨y,d,c⟩
def XJ(g:n<=64)(c:Bool)(i k:Nat)(e:i<n)(f:k<n)(d:U r=n):(if c=I then dE r i k else r).length=n/\∀a b,NO (if c=I then dE r i k else r) a b↔NO r a b\/c=I/\a=i/\b=k:=by
 cases c
 ·exact⟨by simpa using d,fun a b=>by simp⟩
 ·exact⟨by simpa[wA]using d,fun a b=>by simpa using XI g d i k e f a b⟩
def XK(o:n<=64)(c:Nat->Nat->Bool)(F:List Nat->Nat->List Nat)(j:∀r i,F r i=(xW n).foldl (fun r k=>if c i k=I then dE r (i:Int) (k:Int)else r) r):
  Rel n ((xW n).foldl F (NU n))/\∀a b,NO ((xW n).foldl F (NU n)) a b↔a<n/\b<n/\c a b=I:=by
 have h:=yL (n:=n) F (fun i a b=>a=i/\b<n/\c a b=I) (xW n) (fun r i m g=>by
  rw[j];have h:=yL (n:=n) (fun r k=>if c i k=I then dE r (i:Int) (k:Int)else r) (fun k a b=>c i k=I/\a=i/\b=k) (xW n) (fun r k f g=>XJ o _ i k (List.mem_range.1 m) (List.mem_range.1 f) g) r g;refine⟨h.1,fun a b=>?_⟩;rw[h.2];constructor
  ·rintro(d|⟨k,f,d,rfl,rfl⟩)
   ·exact xR d
   ·exact xF ⟨Z,List.mem_range.1 f,d⟩
  ·rintro(d|⟨rfl,d,e⟩)
   ·exact xR d
   ·exact xF ⟨b,List.mem_range.2 d,e,Z,Z⟩) (NU n) (by simp[NU])
 have e:∀a b,NO ((xW n).foldl F (NU n)) a b↔a<n/\b<n/\c a b=I:=fun a b=>by
  rw[h.2];constructor
  ·rintro(d|⟨k,f,rfl,d⟩)
   ·exact absurd d (FP _ _ _)
   ·exact⟨List.mem_range.1 f,d⟩
  ·rintro⟨d,e⟩;exact xF ⟨a,List.mem_range.2 d,Z,e⟩
 exact⟨⟨h.1,fun a b l=>((e a b).1 l).2.1⟩,e⟩
def XL(p:n<=64)(c:Nat->Nat->Bool)(F:List Nat->Nat->List Nat)(l:∀r i,F r i=(xW n).foldl (fun r k=>if c i k=I then dE r (k:Int) (i:Int)else r) r):
  Rel n ((xW n).foldl F (NU n))/\∀a b,NO ((xW n).foldl F (NU n)) a b↔a<n/\b<n/\c b a=I:=by
 have h:=yL (n:=n) F (fun i a b=>b=i/\a<n/\c b a=I) (xW n) (fun r i o g=>by
  rw[l];have h:=yL (n:=n) (fun r k=>if c i k=I then dE r (k:Int) (i:Int)else r) (fun k a b=>c i k=I/\a=k/\b=i) (xW n) (fun r k f g=>XJ p _ k i (List.mem_range.1 f) (List.mem_range.1 o) g) r g;refine⟨h.1,fun a b=>?_⟩;rw[h.2];constructor
  ·rintro(d|⟨k,f,d,rfl,rfl⟩)
   ·exact xR d
   ·exact xF ⟨Z,List.mem_range.1 f,d⟩
  ·rintro(d|⟨rfl,d,e⟩)
   ·exact xR d
   ·exact xF ⟨a,List.mem_range.2 d,e,Z,Z⟩) (NU n) (by simp[NU])
 have e:∀a b,NO ((xW n).foldl F (NU n)) a b↔a<n/\b<n/\c b a=I:=fun a b=>by
  rw[h.2];constructor
  ·rintro(d|⟨k,f,rfl,d⟩)
   ·exact absurd d (FP _ _ _)
   ·exact⟨d.1,List.mem_range.1 f,d.2⟩
  ·rintro⟨d,j,e⟩;exact xF ⟨b,List.mem_range.2 j,Z,d,e⟩
 exact⟨⟨h.1,fun a b m=>((e a b).1 m).2.1⟩,e⟩
def XM(g:n<=64)(d:Rel n r):Rel n (oN r)/\∀a b,NO (oN r) a b↔NO r b a:=by
 have h:=XL g (fun a b=>cC r (a:Int) (b:Int)) (sH r) fun t a=>by
  unfold sH qP;rw[d.len]
 unfold oN;rw[d.len];refine⟨h.1,fun a b=>?_⟩;rw[h.2];constructor
 ·rintro⟨c,f,e⟩;exact(pS r b a (by omega)).1 e
 ·intro c;have f:=c.left;have e:=d.lt _ _ c;exact⟨e,by rw[<- d.len];exact f,(pS r b a (by omega)).2 c⟩
def TC(R:Nat->Nat->Prop)(a b:Nat):Prop:=∀S:Nat->Nat->Prop,(∀x y,R x y->S x y)->(∀x y z,S x y->S y z->S x z)->S a b
def TC.base{R:Nat->Nat->Prop}(h:R a b):TC R a b:=fun _ c _=>c _ _ h
def TC.trans{R:Nat->Nat->Prop}{c:Nat}(h:TC R a b)(k:TC R b c):TC R a c:=fun S e d=>d _ _ _ (h S e d) (k S e d)
def TC.map{R:Nat->Nat->Prop}(f:Nat->Nat)(h:∀x y,R x y->S (f x) (f y))(k:TC R a b):TC S (f a) (f b):=
 k (fun x y=>TC S (f x) (f y)) (fun x y c=>TC.base (h x y c)) fun _ _ _=>TC.trans
def TC.mono{R:Nat->Nat->Prop}(h:∀x y,R x y->S x y)(k:TC R a b):TC S a b:=TC.map (fun x=>x) h k
def XN(o:n<=64)(b:Nat)(l:b<n)(g:Rel n r):∀m,m<=n->Rel n ((xW m).foldl (kZ b) r)/\∀x y,NO ((xW m).foldl (kZ b) r) x y↔NO r x y\/x<m/\NO r x b/\NO r b y
 |0,_=>⟨g,fun x y=>by simp⟩
 |m+1,hm=>by
  rw[jJ];obtain⟨j,e⟩:=XN o b l g m (by omega);generalize(xW m).foldl (kZ b) r=c at j e;have f:∀x y,NO (kZ b c m) x y↔NO r x y\/x<m+1/\NO r x b/\NO r b y:=by
   intro x y;have e1:∀z,NO c z b↔NO r z b:=fun z=>by
    rw[e];constructor
    ·rintro(h|h)
     ·exact h
     ·exact h.2.1
    ·exact xR
   have e2:∀z,NO c b z↔NO r b z:=fun z=>by
    rw[e];constructor
    ·rintro(h|h)
     ·exact h
     ·exact h.2.2
    ·exact xR
   unfold kZ;by_cases h:NO c m b
   ·rw[if_pos ((pS c m b (by omega)).2 h),NO,XH _ _ _ _ (by rw[j.len];omega)];by_cases hx:x=m
    ·rw[if_pos hx,x5,qS,qS,x6];have i:(c.getD m 0).testBit y=I↔NO c m y:=Iff.rfl;have k:(c.getD b 0).testBit y=I↔NO c b y:=Iff.rfl;rw[i,k,e,e2,hx];constructor
     ·rintro((d|d)|d)
      ·exact xR d
      ·exact xF ⟨by omega,d.2⟩
      ·exact xF ⟨by omega,(e1 m).1 h,d⟩
     ·rintro(d|d)
      ·exact xR (xR d)
      ·exact xF d.2.2
    ·rw[if_neg hx];have i:(c.getD x 0).testBit y=I↔NO c x y:=Iff.rfl;rw[i,e];constructor
     ·rintro(d|d)
      ·exact xR d
      ·exact xF ⟨by omega,d.2⟩
     ·rintro(d|d)
      ·exact xR d
      ·exact xF ⟨by omega,d.2⟩
   ·rw[if_neg fun d=>h ((pS c m b (by omega)).1 d),e];constructor
    ·rintro(d|d)
     ·exact xR d
     ·exact xF ⟨by omega,d.2⟩
    ·rintro(d|d)
     ·exact xR d
     ·by_cases hx:x=m
      ·exact absurd ((e1 m).2 (hx▸d.2.1)) h
      ·exact xF ⟨by omega,d.2⟩
  refine⟨⟨by rw[UG];exact j.len,fun x y h=>?_⟩,f⟩
  rcases(f x y).1 h with h|h
  ·exact g.lt _ _ h
  ·exact g.lt _ _ h.2.2
def XO(j:n<=64)(l:Rel n r):∀m,m<=n->Rel n ((xW m).foldl (lZ n) r)/\(∀x y,NO r x y->NO ((xW m).foldl (lZ n) r) x y)/\(∀x y,NO ((xW m).foldl (lZ n) r) x y->TC (NO r) x y)/\∀k x y,k<m->NO ((xW m).foldl (lZ n) r) x k->NO ((xW m).foldl (lZ n) r) k y->NO ((xW m).foldl (lZ n) r) x y
 |0,_=>⟨l,fun _ _ h=>h,fun _ _ h=>TC.base h,fun k x y h=>absurd h (by omega)⟩
 |m+1,hm=>by
  rw[jJ];obtain⟨i,o,g,p⟩:=XO j l m (by omega);generalize(xW m).foldl (lZ n) r=c at i o g p;obtain⟨q,s⟩:=XN j m (by omega) i n (Nat.le_refl _);have f:∀x y,NO (lZ n c m) x y↔NO c x y\/NO c x m/\NO c m y:=fun x y=>by
   unfold lZ;rw[s];constructor
   ·rintro(h|h)
    ·exact xR h
    ·exact xF h.2
   ·rintro(h|h)
    ·exact xR h
    ·exact xF ⟨by rw[<- i.len];exact h.1.left,h⟩
  refine⟨q,fun x y h=>(f x y).2 (xR (o _ _ h)),fun x y h=>?_,fun k x y t=>?_⟩
  ·rcases(f x y).1 h with h|h
   ·exact g _ _ h
   ·exact(g _ _ h.1).trans (g _ _ h.2)
  ·rw[f,f,f];by_cases e:k=m
   ·rw[e];rintro(h|h) (d|d)
    ·exact xF ⟨h,d⟩
    ·exact xF ⟨h,d.2⟩
    ·exact xF ⟨h.1,d⟩
    ·exact xF ⟨h.1,d.2⟩
   ·have T:=fun x y=>p k x y (by omega)
    rintro(h|h) (d|d)
    ·exact xR (T _ _ h d)
    ·exact xF ⟨T _ _ h d.1,d.2⟩
    ·exact xF ⟨h.1,T _ _ h.2 d⟩
    ·exact xF ⟨h.1,d.2⟩
def XP(k:n<=64)(d:Rel n r):Rel n (lK r)/\∀a b,NO (lK r) a b↔TC (NO r) a b:=by
 obtain⟨f,g,i,j⟩:=XO k (qK d d) n (Nat.le_refl _);have e:∀x y,NO (gV r r) x y↔NO r x y:=fun x y=>by rw[IC d.len d.len];simp
 unfold lK;rw[d.len];refine⟨f,fun a b=>⟨fun h=>(i _ _ h).mono fun x y c=>(e x y).1 c,fun h=>?_⟩⟩;refine h _ (fun x y c=>g _ _ ((e x y).2 c)) fun x y z c l=>j y x z (f.lt _ _ c) c l
def Mf(e:n<=64)(c:Rel n r):lI r=I↔∃i,NO r i i:=by
 unfold lI;rw[xa];constructor
 ·rintro⟨i,d,h⟩;exact⟨i,(pS r i i (by have:=List.mem_range.1 d;rw[c.len]at this;omega)).1 h⟩
 ·rintro⟨i,h⟩;exact⟨i,List.mem_range.2 h.left,(pS r i i (by have:=c.lt _ _ h;omega)).2 h⟩
end
def II{α β γ:Type}(g:α->β)(F:α->γ->α)(G:β->γ->β)(h:∀a x,g (F a x)=G (g a) x):∀(l:List γ) (a:α),g (l.foldl F a)=l.foldl G (g a)
 |[],a=>Z
 |x::l,a=>by rw[x2,x2,II g F G h l,h]
def tA(e:U es<=64)(g:Eu->List Nat)(c:Nat->Nat->Bool)(h:∀f i k,g (f.jK i (ev es i) k (ev es k))=if c i k=I then dE (g f) (i:Int) (k:Int)else g f)(d:g (Eu.new es)=NU (U es)):
  Rel (U es) (g (NH es))/\∀a b,NO (g (NH es)) a b↔a<U es/\b<U es/\c a b=I:=by
 unfold NH;rw[II g (rB es) (fun r i=>(xW (U es)).foldl (fun r k=>if c i k=I then dE r (i:Int) (k:Int)else r) r) fun f i=>II g _ _ (fun f k=>h f i k) _ _,d];exact XK e c _ fun r i=>Z
def GD{α β γ:Type}(g:α->β)(F:α->γ->α)(h:∀a x,g (F a x)=g a):∀(l:List γ) (a:α),g (l.foldl F a)=g a
 |[],a=>Z
 |x::l,a=>by rw[x2,GD g F h l,h]
def EK(es:List Ev):(NH es).E=es:=by
 unfold NH;exact GD (fun f:Eu=>f.E) (rB es) (fun f i=>GD (fun f:Eu=>f.E) (fun(f:Eu) (k:Nat)=>f.jK i (ev es i) k (ev es k)) (fun f k=>Z) (xW (U es)) f) _ _
def XQ(c:U es<=64):Rel (U es) (NH es).C/\∀i k:Nat,NO (NH es).C i k↔i<U es/\k<U es/\QI i (ev es i) k (ev es k)=I :=
 tA c Eu.C (fun i k=>QI i (ev es i) k (ev es k)) (fun _ _ _=>Z) Z
def vU(c:U es<=64):Rel (U es) (NH es).G/\∀i k:Nat,NO (NH es).G i k↔i<U es/\k<U es/\SB i (ev es i) k (ev es k)=I :=
 tA c Eu.G (fun i k=>SB i (ev es i) k (ev es k)) (fun _ _ _=>Z) Z
def XR(c:U es<=64):Rel (U es) (NH es).J/\∀i k:Nat,NO (NH es).J i k↔i<U es/\k<U es/\RX (ev es i) (ev es k)=I :=
 tA c Eu.J (fun i k=>RX (ev es i) (ev es k)) (fun _ _ _=>Z) Z
def XS(c:U es<=64):Rel (U es) (NH es).N/\∀i k:Nat,NO (NH es).N i k↔i<U es/\k<U es/\RQ i (ev es i) k (ev es k)=I :=
 tA c Eu.N (fun i k=>RQ i (ev es i) k (ev es k)) (fun _ _ _=>Z) Z
def XT(c:U es<=64):Rel (U es) (NH es).h/\∀i k:Nat,NO (NH es).h i k↔i<U es/\k<U es/\PD (ev es i).h (k:Int)=I :=
 tA c Eu.h (fun i k=>PD (ev es i).h (k:Int)) (fun _ _ _=>Z) Z
def XU(c:U es<=64):Rel (U es) (NH es).L/\∀i k:Nat,NO (NH es).L i k↔i<U es/\k<U es/\SD i (ev es i) k=I :=
 tA c Eu.L (fun i k=>SD i (ev es i) k) (fun _ _ _=>Z) Z
def XV(c:U es<=64):Rel (U es) (NH es).sends/\∀i k:Nat,NO (NH es).sends i k↔i<U es/\k<U es/\SE i (ev es i) k (ev es k)=I :=
 tA c Eu.sends (fun i k=>SE i (ev es i) k (ev es k)) (fun _ _ _=>Z) Z
def XW(c:U es<=64):Rel (U es) (NH es).M/\∀i k:Nat,NO (NH es).M i k↔i<U es/\k<U es/\SF i (ev es i) k (ev es k)=I :=
 tA c Eu.M (fun i k=>SF i (ev es i) k (ev es k)) (fun _ _ _=>Z) Z
def XX(c:U es<=64)(ps:List Int):Rel (U es) (hY es ps)/\∀a b,NO (hY es ps) a b↔a<U es/\b<U es/\QY es ps a b=I :=
 XK c (QY es ps) _ fun r i=>Z
def Mg(j:U es<=64){aP:List Nat}(hs:Rel (U es) aP):Rel (U es) (eB es aP)/\∀a b,NO (eB es aP) a b↔NO aP b a/\(ev es b).q≠0/\(ev es a).q≠0:=by
 have h:=XL j (fun r w=>cC aP (r:Int) (w:Int)&&(ev es r).q != 0&&(ev es w).q != 0) (sR es aP) fun r i=>Z;refine⟨h.1,fun a b=>?_⟩;have d:=h.2 a b;rw[show eB es aP=(xW (U es)).foldl (sR es aP) (NU (U es))from rfl,d];simp only[x1,bne_iff_ne,ne_eq];constructor
 ·rintro⟨c,d,⟨e,f⟩,g⟩;exact⟨(pS _ _ _ (by omega)).1 e,f,g⟩
 ·rintro⟨c,d,e⟩;have f:=hs.lt _ _ c;have g:=c.left;exact⟨f,by rw[<- hs.len];exact g,⟨(pS _ _ _ (by omega)).2 c,d⟩,e⟩
def XY(q:U es<=64){d:List Int}(m:U d=U es):Rel (U es) ((NH es).D d)/\∀a b,NO ((NH es).D d) a b↔b<U es/\a<U es/\d.getD a (-1)=(b:Int):=by
 have h:=yL (n:=U es) (fun(r:List Nat) (i:Nat)=>dE r (i:Int) (d.getD i (-1))) (fun i a b=>a=i/\b<U es/\d.getD a (-1)=(b:Int)) (xW (U d)) fun r i j o=>by
  have l:i<U es:=by rw[<- m];exact List.mem_range.1 j
  refine⟨by rw[wA];exact o,fun a b=>?_⟩;by_cases hlt:d.getD i (-1)<U es
  ·by_cases h0:0<=d.getD i (-1)
   ·have e:d.getD i (-1)=((d.getD i (-1)).toNat:Int):=by omega
    rw[e,XI q o i _ l (by omega)];constructor
    ·rintro(c|⟨c,g⟩)
     ·exact xR c
     ·exact xF ⟨c,by omega,by rw[c];omega⟩
    ·rintro(c|⟨c,g,f⟩)
     ·exact xR c
     ·exact xF ⟨c,by rw[c]at f;omega⟩
   ·have e:dE r (i:Int) (d.getD i (-1))=r:=by
     unfold dE;rw[if_neg (by omega)];have:bW (d.getD i (-1))=0:=by unfold bW;rw[if_pos (by omega)]
     rw[this,Nat.or_zero,x4,GM _ _ (by omega)];exact List.set_getElem_self (by omega)
    rw[e];constructor
    ·exact xR
    ·rintro(c|⟨c,g,f⟩)
     ·exact c
     ·rw[c]at f;omega
  ·have e:dE r (i:Int) (d.getD i (-1))=r:=by
    unfold dE;rw[if_pos (by omega)]
   rw[e];constructor
   ·exact xR
   ·rintro(c|⟨c,g,f⟩)
    ·exact c
    ·rw[c]at f;omega (NU (U es)) (by simp[NU])
 unfold Eu.D;rw[EK];have k:∀a b,NO ((xW (U d)).foldl (fun(r:List Nat) (i:Nat)=>dE r (i:Int) (d.getD i (-1))) (NU (U es))) a b↔b<U es/\a<U es/\d.getD a (-1)=(b:Int):=fun a b=>by
  rw[h.2];constructor
  ·rintro(c|⟨i,j,rfl,g,f⟩)
   ·exact absurd c (FP _ _ _)
   ·exact⟨g,by rw[<- m];exact List.mem_range.1 j,f⟩
  ·rintro⟨c,g,f⟩;exact xF ⟨a,List.mem_range.2 (by rw[m];exact g),Z,c,f⟩
 exact⟨⟨h.1,fun a b p=>((k a b).1 p).1⟩,k⟩
structure Sys where
 C:Nat->Nat->Prop
 G:Nat->Nat->Prop
 J:Nat->Nat->Prop
 N:Nat->Nat->Prop
 L:Nat->Nat->Prop
 h:Nat->Nat->Prop
 sends:Nat->Nat->Prop
 M:Nat->Nat->Prop
 rd:Nat->Nat->Prop
 bh:Nat->Nat->Prop
 ord:Nat->Prop
def Th(R S:Nat->Nat->Prop)(a b:Nat):Prop:=∃c,R a c/\S c b
namespace Sys
def bK(X:Sys)(a b:Nat):Prop:=X.rd a b/\X.G a b
def aP(X:Sys)(a b:Nat):Prop:=X.bK a b\/Th (TC (Th X.bK X.L)) X.bK a b
def eB(X:Sys)(a b:Nat):Prop:=X.aP b a/\X.ord b/\X.ord a
def bS(X:Sys)(a b:Nat):Prop:=Th (Th X.sends X.eB) X.M a b/\X.G a b
def MY(X:Sys):Nat->Nat->Prop:=TC fun a b=>(X.C a b\/X.bS a b)\/X.J a b
def misses(X:Sys):Nat->Nat->Prop:=Th X.rd X.bh
def comm(X:Sys)(a b:Nat):Prop:=(X.rd b a\/X.bh a b)\/X.misses a b
def OF(X:Sys):Nat->Nat->Prop:=TC X.comm
structure May(X:Sys):Prop where
 bef:∀i,¬X.MY i i
 split:∀i,¬Th (Th X.L X.misses) X.bh i i
 link:∀i,¬Th X.MY X.OF i i
 fence:∀i,¬TC (fun a b=>(X.MY a b\/Th (Th X.MY X.OF) X.MY a b)/\X.N a b) i i
def pG(X:Sys):Prop:=∀i,¬TC (fun a b=>X.h a b\/X.rd a b) i i
section
variable {f:Nat->Nat}{X Y:Sys}
end
end Sys
def NS(es:List Ev)(rs ps:List Int):Sys where
 C i k:=i<U es/\k<U es/\QI i (ev es i) k (ev es k)=I
 G i k:=i<U es/\k<U es/\SB i (ev es i) k (ev es k)=I
 J i k:=i<U es/\k<U es/\RX (ev es i) (ev es k)=I
 N i k:=i<U es/\k<U es/\RQ i (ev es i) k (ev es k)=I
 L i k:=i<U es/\k<U es/\SD i (ev es i) k=I
 h i k:=i<U es/\k<U es/\PD (ev es i).h (k:Int)=I
 sends i k:=i<U es/\k<U es/\SE i (ev es i) k (ev es k)=I
 M i k:=i<U es/\k<U es/\SF i (ev es i) k (ev es k)=I
 rd i k:=k<U es/\i<U es/\rs.getD i (-1)=(k:Int)
 bh i k:=i<U es/\k<U es/\QY es ps i k=I
 ord i:=(ev es i).q≠0
structure NP(n:Nat)(r:List Nat)(R:Nat->Nat->Prop):Prop where
 rel:Rel n r
 bit:∀a b,NO r a b↔R a b
section
variable {n:Nat}{r o:List Nat}{R O:Nat->Nat->Prop}
def NP.or(d:NP n r R)(c:NP n o O):NP n (gV r o) fun a b=>R a b\/O a b:=
 ⟨qK d.rel c.rel,fun a b=>by rw[IC d.rel.len c.rel.len,d.bit,c.bit]⟩
def NP.and(c:NP n r R)(d:NP n o O):NP n (kU r o) fun a b=>R a b/\O a b:=
 ⟨zH c.rel,fun a b=>by rw[XD c.rel.len,c.bit,d.bit]⟩
def NP.jD(i:n<=64)(d:NP n r R)(g:NP n o O):NP n (dZ r o) (Th R O):=
 ⟨oE i d.rel g.rel,fun a b=>by
  rw[XG i d.rel];constructor
  ·rintro⟨c,e,f⟩;exact⟨c,(d.bit _ _).1 e,(g.bit _ _).1 f⟩
  ·rintro⟨c,e,f⟩;exact⟨c,(d.bit _ _).2 e,(g.bit _ _).2 f⟩⟩
def NP.cl(d:n<=64)(c:NP n r R):NP n (lK r) (TC R):=
 ⟨(XP d c.rel).1,fun a b=>by
  rw[(XP d c.rel).2];exact⟨TC.mono fun x y h=>(c.bit _ _).1 h,TC.mono fun x y h=>(c.bit _ _).2 h⟩⟩
def NP.vE(d:n<=64)(c:NP n r R):NP n (oN r) fun a b=>R b a:=
 ⟨(XM d c.rel).1,fun a b=>by rw[(XM d c.rel).2,c.bit]⟩
def NP.mU(d:n<=64)(c:NP n r R):lI r=I↔∃i,R i i:=by
 rw[Mf d c.rel];exact⟨fun⟨i,h⟩=>⟨i,(c.bit _ _).1 h⟩,fun⟨i,h⟩=>⟨i,(c.bit _ _).2 h⟩⟩
def NP.mO(c:n<=64)(d:NP n r R):vJ r=I↔∃i,TC R i i:=NP.mU c (d.cl c)
end
section
variable {es:List Ev}{rs:List Int}
def yE(c:U es<=64)(d:U rs=U es)(ps:List Int):NP (U es) ((NH es).D rs) (NS es rs ps).rd:=⟨(XY c d).1,(XY c d).2⟩
def JS(c:U es<=64)(d:U rs=U es)(ps:List Int):NP (U es) ((NH es).bK ((NH es).D rs)) (NS es rs ps).bK :=
 (yE c d ps).and (O:=(NS es rs ps).G) ⟨(vU c).1,(vU c).2⟩
def XZ(c:U es<=64)(ps:List Int):NP (U es) (NH es).L (NS es rs ps).L:=⟨(XU c).1,(XU c).2⟩
def YA(c:U es<=64)(d:U rs=U es)(ps:List Int):NP (U es) ((NH es).aP ((NH es).D rs)) (NS es rs ps).aP :=
 (JS c d ps).or ((((JS c d ps).jD c (XZ c ps)).cl c).jD c (JS c d ps))
def Mh(c:U es<=64)(d:U rs=U es)(ps:List Int):NP (U es) (eB es ((NH es).aP ((NH es).D rs))) (NS es rs ps).eB:=by
 have h:=Mg c (YA c d ps).rel;refine⟨h.1,fun a b=>?_⟩;rw[h.2,(YA c d ps).bit];exact Iff.rfl
def Mi(c:U es<=64)(d:U rs=U es)(ps:List Int):NP (U es) ((NH es).bS ((NH es).aP ((NH es).D rs))) (NS es rs ps).bS:=by
 unfold Eu.bS;rw[EK];exact((NP.jD c (R:=(NS es rs ps).sends) ⟨(XV c).1,(XV c).2⟩ (Mh c d ps)).jD c (O:=(NS es rs ps).M) ⟨(XW c).1,(XW c).2⟩).and (O:=(NS es rs ps).G) ⟨(vU c).1,(vU c).2⟩
def xS(c:U es<=64)(d:U rs=U es)(ps:List Int):NP (U es) ((NH es).MY ((NH es).D rs)) (NS es rs ps).MY :=
 NP.cl c ((NP.or (R:=(NS es rs ps).C) ⟨(XQ c).1,(XQ c).2⟩ (Mi c d ps)).or (O:=(NS es rs ps).J) ⟨(XR c).1,(XR c).2⟩)
def GW(c:U es<=64)(ps:List Int):NP (U es) (hY es ps) (NS es rs ps).bh:=⟨(XX c ps).1,(XX c ps).2⟩
def YB(c:U es<=64)(d:U rs=U es)(ps:List Int):NP (U es) (OF ((NH es).D rs) (hY es ps)) (NS es rs ps).OF :=
 NP.cl c ((((yE c d ps).vE c).or (GW c ps)).or ((yE c d ps).jD c (GW c ps)))
def wF{b:Bool}{p:Prop}(h:b=I↔p):b=false↔¬p:=by
 cases b
 ·simp at h;simp[h]
 ·simp at h;simp[h]
def DJ(d:U es<=64)(f:U rs=U es)(ps:List Int):(NH es).fX ((NH es).D rs) ((NH es).MY ((NH es).D rs)) ps=I↔(NS es rs ps).May:=by
 have g:NP (U es) (hY es ps) (NS es rs ps).bh:=GW d ps;have j:NP (U es) (NH es).L (NS es rs ps).L:=XZ d ps;unfold Eu.fX;rw[EK];have e2:(NH es).kB (dZ ((NH es).D rs) (hY es ps)) (hY es ps)=lI (dZ (dZ (NH es).L (dZ ((NH es).D rs) (hY es ps))) (hY es ps)):=Z;have e4:(NH es).dP ((NH es).MY ((NH es).D rs)) (OF ((NH es).D rs) (hY es ps))=vJ (kU (gV ((NH es).MY ((NH es).D rs)) (dZ (dZ ((NH es).MY ((NH es).D rs)) (OF ((NH es).D rs) (hY es ps))) ((NH es).MY ((NH es).D rs)))) (NH es).N):=Z;rw[e2,e4];have k:=wF ((xS d f ps).mU d);have l:=wF ((NP.jD d (j.jD d ((yE d f ps).jD d g)) g).mU d);have n:=wF (((xS d f ps).jD d (YB d f ps)).mU d);have o:=wF ((((xS d f ps).or (((xS d f ps).jD d (YB d f ps)).jD d (xS d f ps))).and (O:=(NS es rs ps).N) ⟨(XS d).1,(XS d).2⟩).mO d);constructor
 ·intro h
  split at h
  ·cases h
  ·split at h
   ·cases h
   ·split at h
    ·cases h
    ·rename_i a b c;rw[xb]at h;rw[Bool.not_eq_true]at a b c;exact⟨fun i e=>k.1 a ⟨i,e⟩,fun i e=>l.1 b ⟨i,e⟩,fun i e=>n.1 c ⟨i,e⟩,fun i e=>o.1 h ⟨i,e⟩⟩
 ·intro m;rw[k.2 fun⟨i,e⟩=>m.bef i e,l.2 fun⟨i,e⟩=>m.split i e,n.2 fun⟨i,e⟩=>m.link i e,o.2 fun⟨i,e⟩=>m.fence i e];rfl
def CA(c:U es<=64)(e:U rs=U es)(ps:List Int):(NH es).cH ((NH es).D rs)=false↔(NS es rs ps).pG:=by
 have h:=(NP.or (R:=(NS es rs ps).h) ⟨(XT c).1,(XT c).2⟩ (yE c e ps)).mO c;unfold Eu.cH;rw[wF h];exact⟨fun k i d=>k ⟨i,d⟩,fun k ⟨i,d⟩=>k i d⟩
structure Clash(es:List Ev)(X:Sys)(i k:Nat):Prop where
 li:i<U es
 lk:k<U es
 B:(ev es i).B=1
 ne:i≠k
 weak:¬X.G i k
 z:(ev es i).z=(ev es k).z
 acc:QH (ev es k)=I
 ik:¬X.MY i k
 ki:¬X.MY k i
def xM{R:Nat->Nat->Prop}{n:Nat}(d:n<=64)(h:NP n r R)(i k:Nat)(c:k<n):(!cC r (i:Int) (k:Int))=I↔¬R i k:=by
 rw[xb,wF ((pS r i k (by omega)).trans (h.bit i k))]
def YC(j:U es<=64)(o:U rs=U es)(ps:List Int):(NH es).bU ((NH es).MY ((NH es).D rs))=I↔∃i k,Clash es (NS es rs ps) i k:=by
 have hs:NP (U es) (NH es).G (NS es rs ps).G:=⟨(vU j).1,(vU j).2⟩;have l:=xS j o ps;unfold Eu.bU Eu.cP Eu.bV;rw[EK];simp only[xa,List.mem_range];constructor
 ·rintro⟨i,n,k,m,h⟩;rw[x1,x1,x1,x1,x1,x1,xM j hs i k m,xM j l i k m,xM j l k i n]at h;obtain⟨⟨⟨⟨⟨⟨a,b⟩,c⟩,d⟩,e⟩,f⟩,g⟩:=h;exact⟨i,k,n,m,by simpa using a,by simpa using b,c,by simpa using d,e,f,g⟩
 ·rintro⟨i,k,h⟩;refine⟨i,h.li,k,h.lk,?_⟩;rw[x1,x1,x1,x1,x1,x1,xM j hs i k h.lk,xM j l i k h.lk,xM j l k i h.li];exact⟨⟨⟨⟨⟨⟨by simp[h.B],by simpa using h.ne⟩,h.weak⟩,by simp[h.z]⟩,h.acc⟩,h.ik⟩,h.ki⟩
end
section
variable {f:Nat->Nat}{es es':List Ev}
end
end Q
