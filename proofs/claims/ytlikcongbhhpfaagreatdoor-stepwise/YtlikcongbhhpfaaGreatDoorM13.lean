import Derived.Test.YtlikcongbhhpfaaGreatDoorM12
set_option linter.unusedVariables false
set_option linter.unusedSimpArgs false
set_option maxHeartbeats 12800000
namespace Go.Proofs.YtlikcongbhhpfaaGreatDoor
open Go Go.RowKit Go.Proofs.Tryz P Q
set_option maxRecDepth 1000000
variable {a b:Nat}{α β γ:Type}{R S:Nat->Nat->Prop}
open List renaming length->U
open Bool renaming true->I
open Or renaming inr->xF,inl->xR
open List renaming range->xW,foldl_cons->x0,mem_cons_of_mem->x1
open Int renaming toNat_natCast->x2
open Nat renaming testBit_or->x3,testBit_two_pow->x5,testBit_and->x6,zero_testBit->x7
open Bool renaming or_eq_true->x4,and_eq_true->x8
namespace Q
def LB(r:List Nat)(a b:Nat):Prop:=(r.getD a 0).testBit b=I
structure Rel(n:Nat)(r:List Nat):Prop where
 len:U r=n
 lt:∀a b,LB r a b->b<n
theorem LB.left{r:List Nat}(h:LB r a b):a<U r:=by
 by_cases hl:a<U r
 ·exact hl
 ·unfold LB at h;rw[oA _ _ (by omega)]at h;simp at h
theorem VN(b c:Nat)(h:b<64):(one (b:Int)).testBit c=decide (b=c):=by
 unfold one;rw[if_neg (by omega),x2,x5]
theorem VO(s b:Nat)(h:b<64):OG s (b:Int)=s.testBit b:=by
 unfold OG one;rw[if_neg (by omega),x2]
 cases hb:s.testBit b
 ·have:s &&& 2^b=0:=by
   refine Nat.eq_of_testBit_eq fun i=>?_;rw[x6,x5,x7];by_cases h:b=i
   ·rw[<- h,hb];rfl
   ·simp[h]
  rw[this];rfl
 ·have:s &&& 2^b≠0:=by
   intro e;have c:=congrArg (fun x=>x.testBit b) e;simp[x6,x5,hb]at c
  simp[this]
theorem lW(r:List Nat)(a b:Nat)(h:b<64):bB r (a:Int) (b:Int)=I↔LB r a b:=by
 unfold bB LB;rw[nQ,VO _ _ h]
theorem FB(f:Nat->Nat)(n a:Nat):((xW n).map f).getD a 0=if a<n then f a else 0:=by
 by_cases h:a<n
 ·rw[mX _ _ (by simpa using h),if_pos h];simp
 ·rw[oA _ _ (by simpa using h),if_neg h]
theorem BY(n a b:Nat):¬LB (LH n) a b:=by
 intro h;unfold LB LH at h;have:(List.replicate n 0).getD a 0=0:=by
  by_cases ha:a<n
  ·rw[mX _ _ (by simpa using ha)];simp
  ·rw[oA _ _ (by simpa using ha)]
 rw[this]at h;simp at h
section
variable {n:Nat}{r o:List Nat}
theorem DC(d:U r=n)(c:U o=n)(a b:Nat):LB (cE r o) a b↔LB r a b\/LB o a b:=by
 unfold LB cE;rw[FB];by_cases h:a<U r
 ·rw[if_pos h,x3,nQ,nQ,x4]
 ·rw[if_neg h,oA r _ (by omega),oA o _ (by omega)];simp
theorem VP(c:U r=n)(a b:Nat):LB (fY r o) a b↔LB r a b/\LB o a b:=by
 unfold LB fY;rw[FB];by_cases h:a<U r
 ·rw[if_pos h,x6,nQ,nQ,x8]
 ·rw[if_neg h,oA r _ (by omega)];simp
theorem iQ(c:Rel n r)(d:Rel n o):Rel n (cE r o):=
 ⟨by rw[BK];exact c.len,fun a b h=>by rcases(DC c.len d.len a b).1 h with h|h;exact c.lt _ _ h;exact d.lt _ _ h⟩
theorem rD(c:Rel n r):Rel n (fY r o):=
 ⟨by rw[JD];exact c.len,fun a b h=>c.lt _ _ ((VP c.len a b).1 h).1⟩
theorem VQ(i:n<=64)(a x:Nat):∀(l:List Nat) (f:Nat),(∀c∈l,c<n)->((l.foldl (jG r o a) f).testBit x=I↔f.testBit x=I\/∃c∈l,LB r a c/\LB o c x)
 |[],f,_=>by simp
 |c::l,f,h=>by
  rw[x0,VQ i a x l _ fun y e=>h y (x1 _ e)];have j:c<n:=h c (by simp);unfold jG;by_cases hb:LB r a c
  ·rw[if_pos ((lW r a c (by omega)).2 hb),x3,nQ,x4];constructor
   ·rintro((d|d)|⟨y,e,d⟩)
    ·exact xR d
    ·exact xF ⟨c,by simp,hb,d⟩
    ·exact xF ⟨y,x1 _ e,d⟩
   ·rintro(d|⟨y,e,d⟩)
    ·exact xR (xR d)
    ·rcases List.mem_cons.1 e with rfl|e
     ·exact xR (xF d.2)
     ·exact xF ⟨y,e,d⟩
  ·rw[if_neg fun g=>hb ((lW r a c (by omega)).1 g)];constructor
   ·rintro(d|⟨y,e,d⟩)
    ·exact xR d
    ·exact xF ⟨y,x1 _ e,d⟩
   ·rintro(d|⟨y,e,d⟩)
    ·exact xR d
    ·rcases List.mem_cons.1 e with rfl|e
     ·exact absurd d.1 hb
     ·exact xF ⟨y,e,d⟩
theorem VR(g:n<=64)(d:Rel n r)(a b:Nat):LB (LR r o) a b↔∃c,LB r a c/\LB o c b:=by
 have e:LB (LR r o) a b↔a<U r/\(jN r o a).testBit b=I:=by
  unfold LR;rw[LB,FB];by_cases h:a<U r
  ·simp[h]
  ·simp[h]
 rw[e];unfold jN;rw[VQ (n:=n) g a b _ _ fun c f=>by rw[d.len]at f;exact List.mem_range.1 f];simp only[x7,Bool.false_eq_true,false_or,List.mem_range];constructor
 ·rintro⟨_,c,_,h⟩;exact⟨c,h⟩
 ·rintro⟨c,h⟩;exact⟨h.1.left,c,by rw[d.len];exact d.lt _ _ h.1,h⟩
theorem iK(e:n<=64)(d:Rel n r)(f:Rel n o):Rel n (LR r o):=
 ⟨by rw[CU];exact d.len,fun a b h=>by obtain⟨c,_,h⟩:=(VR e d a b).1 h;exact f.lt _ _ h⟩
theorem VT(l:List Nat)(i x a:Nat)(h:i<U l):(l.set i x).getD a 0=if a=i then x else l.getD a 0:=by
 by_cases ha:a=i
 ·rw[ha,if_pos rfl,mX _ _ (by simpa using h)];simp
 ·rw[if_neg ha];simp[List.getD,List.getElem?_set,Ne.symm ha]
theorem VU(f:n<=64)(g:U r=n)(i k:Nat)(d:i<n)(e:k<n)(a b:Nat):LB (cL r i k) a b↔LB r a b\/a=i/\b=k:=by
 unfold cL;rw[if_neg (by omega),x2,LB,VT _ _ _ _ (by omega)];by_cases h:a=i
 ·rw[if_pos h,x3,nQ,VN _ _ (by omega),x4,decide_eq_true_eq,h];constructor
  ·rintro(c|c)
   ·exact xR c
   ·exact xF ⟨Z,c.symm⟩
  ·rintro(c|c)
   ·exact xR c
   ·exact xF c.2.symm
 ·rw[if_neg h];simp[h,LB]
theorem wU(F:List Nat->β->List Nat)(G:β->Nat->Nat->Prop)(l:List β)(g:∀r x,x∈l->U r=n->(F r x).length=n/\∀a b,LB (F r x) a b↔LB r a b\/G x a b):
  ∀r,U r=n->(l.foldl F r).length=n/\∀a b,LB (l.foldl F r) a b↔LB r a b\/∃x∈l,G x a b:=by
 induction l with
 |nil=>intro r h;exact⟨h,by simp⟩
 |cons x l ih =>
  intro r h;have e:=g r x (by simp) h;have f:=ih (fun r y d i=>g r y (x1 _ d) i) (F r x) e.1;refine⟨f.1,fun a b=>?_⟩;rw[x0,f.2,e.2];constructor
  ·rintro((c|c)|⟨y,d,c⟩)
   ·exact xR c
   ·exact xF ⟨x,by simp,c⟩
   ·exact xF ⟨y,x1 _ d,c⟩
  ·rintro(c|⟨y,d,c⟩)
   ·exact xR (xR c)
   ·rcases List.mem_cons.1 d with rfl|d
    ·exact xR (xF c)
    ·exact xF ⟨y,d,c⟩
theorem VV(g:n<=64)(c:Bool)(i k:Nat)(e:i<n)(f:k<n)(d:U r=n):(if c=I then cL r i k else r).length=n/\∀a b,LB (if c=I then cL r i k else r) a b↔LB r a b\/c=I/\a=i/\b=k:=by
 cases c
 ·exact⟨by simpa using d,fun a b=>by simp⟩
 ·exact⟨by simpa[rW]using d,fun a b=>by simpa using VU g d i k e f a b⟩
theorem DN(o:n<=64)(c:Nat->Nat->Bool)(F:List Nat->Nat->List Nat)(j:∀r i,F r i=(xW n).foldl (fun r k=>if c i k=I then cL r (i:Int) (k:Int)else r) r):
  Rel n ((xW n).foldl F (LH n))/\∀a b,LB ((xW n).foldl F (LH n)) a b↔a<n/\b<n/\c a b=I:=by
 have h:=wU (n:=n) F (fun i a b=>a=i/\b<n/\c a b=I) (xW n) (fun r i m g=>by
  rw[j];have h:=wU (n:=n) (fun r k=>if c i k=I then cL r (i:Int) (k:Int)else r) (fun k a b=>c i k=I/\a=i/\b=k) (xW n) (fun r k f g=>VV o _ i k (List.mem_range.1 m) (List.mem_range.1 f) g) r g;refine⟨h.1,fun a b=>?_⟩;rw[h.2];constructor
  ·rintro(d|⟨k,f,d,rfl,rfl⟩)
   ·exact xR d
   ·exact xF ⟨Z,List.mem_range.1 f,d⟩
  ·rintro(d|⟨rfl,d,e⟩)
   ·exact xR d
   ·exact xF ⟨b,List.mem_range.2 d,e,Z,Z⟩) (LH n) (by simp[LH])
 have e:∀a b,LB ((xW n).foldl F (LH n)) a b↔a<n/\b<n/\c a b=I:=fun a b=>by
  rw[h.2];constructor
  ·rintro(d|⟨k,f,rfl,d⟩)
   ·exact absurd d (BY _ _ _)
   ·exact⟨List.mem_range.1 f,d⟩
  ·rintro⟨d,e⟩;exact xF ⟨a,List.mem_range.2 d,Z,e⟩
 exact⟨⟨h.1,fun a b l=>((e a b).1 l).2.1⟩,e⟩
theorem VW(p:n<=64)(c:Nat->Nat->Bool)(F:List Nat->Nat->List Nat)(l:∀r i,F r i=(xW n).foldl (fun r k=>if c i k=I then cL r (k:Int) (i:Int)else r) r):
  Rel n ((xW n).foldl F (LH n))/\∀a b,LB ((xW n).foldl F (LH n)) a b↔a<n/\b<n/\c b a=I:=by
 have h:=wU (n:=n) F (fun i a b=>b=i/\a<n/\c b a=I) (xW n) (fun r i o g=>by
  rw[l];have h:=wU (n:=n) (fun r k=>if c i k=I then cL r (k:Int) (i:Int)else r) (fun k a b=>c i k=I/\a=k/\b=i) (xW n) (fun r k f g=>VV p _ k i (List.mem_range.1 f) (List.mem_range.1 o) g) r g;refine⟨h.1,fun a b=>?_⟩;rw[h.2];constructor
  ·rintro(d|⟨k,f,d,rfl,rfl⟩)
   ·exact xR d
   ·exact xF ⟨Z,List.mem_range.1 f,d⟩
  ·rintro(d|⟨rfl,d,e⟩)
   ·exact xR d
   ·exact xF ⟨a,List.mem_range.2 d,e,Z,Z⟩) (LH n) (by simp[LH])
 have e:∀a b,LB ((xW n).foldl F (LH n)) a b↔a<n/\b<n/\c b a=I:=fun a b=>by
  rw[h.2];constructor
  ·rintro(d|⟨k,f,rfl,d⟩)
   ·exact absurd d (BY _ _ _)
   ·exact⟨d.1,List.mem_range.1 f,d.2⟩
  ·rintro⟨d,j,e⟩;exact xF ⟨b,List.mem_range.2 j,Z,d,e⟩
 exact⟨⟨h.1,fun a b m=>((e a b).1 m).2.1⟩,e⟩
theorem VX(g:n<=64)(d:Rel n r):Rel n (lB r)/\∀a b,LB (lB r) a b↔LB r b a:=by
 have h:=VW g (fun a b=>bB r (a:Int) (b:Int)) (oK r) fun t a=>by
  unfold oK nG;rw[d.len]
 unfold lB;rw[d.len];refine⟨h.1,fun a b=>?_⟩;rw[h.2];constructor
 ·rintro⟨c,f,e⟩;exact(lW r b a (by omega)).1 e
 ·intro c;have f:=c.left;have e:=d.lt _ _ c;exact⟨e,by rw[<- d.len];exact f,(lW r b a (by omega)).2 c⟩
def TC(R:Nat->Nat->Prop)(a b:Nat):Prop:=∀S:Nat->Nat->Prop,(∀x y,R x y->S x y)->(∀x y z,S x y->S y z->S x z)->S a b
theorem TC.base(h:R a b):TC R a b:=fun _ c _=>c _ _ h
theorem TC.trans{c:Nat}(h:TC R a b)(k:TC R b c):TC R a c:=fun S e d=>d _ _ _ (h S e d) (k S e d)
theorem TC.map(f:Nat->Nat)(h:∀x y,R x y->S (f x) (f y))(k:TC R a b):TC S (f a) (f b):=
 k (fun x y=>TC S (f x) (f y)) (fun x y c=>TC.base (h x y c)) fun _ _ _=>TC.trans
theorem TC.mono(h:∀x y,R x y->S x y)(k:TC R a b):TC S a b:=TC.map (fun x=>x) h k
theorem VY(p:n<=64)(b:Nat)(o:b<n)(f:Rel n r):∀m,m<=n->Rel n ((xW m).foldl (jH b) r)/\∀x y,LB ((xW m).foldl (jH b) r) x y↔LB r x y\/x<m/\LB r x b/\LB r b y
 |0,_=>⟨f,fun x y=>by simp⟩
 |m+1,hm=>by
  rw[fP];obtain⟨i,e⟩:=VY p b o f m (by omega);generalize(xW m).foldl (jH b) r=c at i e;have KP:∀x y,LB (jH b c m) x y↔LB r x y\/x<m+1/\LB r x b/\LB r b y:=by
   intro x y;have j:∀z,LB c z b↔LB r z b:=fun z=>by
    rw[e];constructor
    ·rintro(h|h)
     ·exact h
     ·exact h.2.1
    ·exact xR
   have k:∀z,LB c b z↔LB r b z:=fun z=>by
    rw[e];constructor
    ·rintro(h|h)
     ·exact h
     ·exact h.2.2
    ·exact xR
   unfold jH;by_cases h:LB c m b
   ·rw[if_pos ((lW c m b (by omega)).2 h),LB,VT _ _ _ _ (by rw[i.len];omega)];by_cases hx:x=m
    ·rw[if_pos hx,x3,nQ,nQ,x4];have g:(c.getD m 0).testBit y=I↔LB c m y:=Iff.rfl;have l:(c.getD b 0).testBit y=I↔LB c b y:=Iff.rfl;rw[g,l,e,k,hx];constructor
     ·rintro((d|d)|d)
      ·exact xR d
      ·exact xF ⟨by omega,d.2⟩
      ·exact xF ⟨by omega,(j m).1 h,d⟩
     ·rintro(d|d)
      ·exact xR (xR d)
      ·exact xF d.2.2
    ·rw[if_neg hx];have g:(c.getD x 0).testBit y=I↔LB c x y:=Iff.rfl;rw[g,e];constructor
     ·rintro(d|d)
      ·exact xR d
      ·exact xF ⟨by omega,d.2⟩
     ·rintro(d|d)
      ·exact xR d
      ·exact xF ⟨by omega,d.2⟩
   ·rw[if_neg fun d=>h ((lW c m b (by omega)).1 d),e];constructor
    ·rintro(d|d)
     ·exact xR d
     ·exact xF ⟨by omega,d.2⟩
    ·rintro(d|d)
     ·exact xR d
     ·by_cases hx:x=m
      ·exact absurd ((j m).2 (hx▸d.2.1)) h
      ·exact xF ⟨by omega,d.2⟩
  refine⟨⟨by rw[TP];exact i.len,fun x y h=>?_⟩,KP⟩
  rcases(KP x y).1 h with h|h
  ·exact f.lt _ _ h
  ·exact f.lt _ _ h.2.2
theorem VZ(j:n<=64)(l:Rel n r):∀m,m<=n->Rel n ((xW m).foldl (kA n) r)/\(∀x y,LB r x y->LB ((xW m).foldl (kA n) r) x y)/\(∀x y,LB ((xW m).foldl (kA n) r) x y->TC (LB r) x y)/\∀k x y,k<m->LB ((xW m).foldl (kA n) r) x k->LB ((xW m).foldl (kA n) r) k y->LB ((xW m).foldl (kA n) r) x y
 |0,_=>⟨l,fun _ _ h=>h,fun _ _ h=>TC.base h,fun k x y h=>absurd h (by omega)⟩
 |m+1,hm=>by
  rw[fP];obtain⟨i,o,g,p⟩:=VZ j l m (by omega);generalize(xW m).foldl (kA n) r=c at i o g p;obtain⟨q,s⟩:=VY j m (by omega) i n (Nat.le_refl _);have f:∀x y,LB (kA n c m) x y↔LB c x y\/LB c x m/\LB c m y:=fun x y=>by
   unfold kA;rw[s];constructor
   ·rintro(h|h)
    ·exact xR h
    ·exact xF h.2
   ·rintro(h|h)
    ·exact xR h
    ·exact xF ⟨by rw[<- i.len];exact h.1.left,h⟩
  refine⟨q,fun x y h=>(f x y).2 (xR (o _ _ h)),fun x y h=>?_,fun k x y t=>?_⟩
  ·rcases(f x y).1 h with h|h
   ·exact g _ _ h
   ·exact(g _ _ h.1).trans (g _ _ h.2)
  ·rw[f,f,f];by_cases e:k=m
   ·rw[e];rintro(h|h) (d|d)
    ·exact xF ⟨h,d⟩
    ·exact xF ⟨h,d.2⟩
    ·exact xF ⟨h.1,d⟩
    ·exact xF ⟨h.1,d.2⟩
   ·have T:=fun x y=>p k x y (by omega)
    rintro(h|h) (d|d)
    ·exact xR (T _ _ h d)
    ·exact xF ⟨T _ _ h d.1,d.2⟩
    ·exact xF ⟨h.1,T _ _ h.2 d⟩
    ·exact xF ⟨h.1,d.2⟩
theorem WB(k:n<=64)(d:Rel n r):Rel n (iR r)/\∀a b,LB (iR r) a b↔TC (LB r) a b:=by
 obtain⟨f,g,i,j⟩:=VZ k (iQ d d) n (Nat.le_refl _);have e:∀x y,LB (cE r r) x y↔LB r x y:=fun x y=>by rw[DC d.len d.len];simp
 unfold iR;rw[d.len];refine⟨f,fun a b=>⟨fun h=>(i _ _ h).mono fun x y c=>(e x y).1 c,fun h=>?_⟩⟩;refine h _ (fun x y c=>g _ _ ((e x y).2 c)) fun x y z c l=>j y x z (f.lt _ _ c) c l
theorem Lo(e:n<=64)(c:Rel n r):aL r=I↔∃i,LB r i i:=by
 unfold aL;rw[List.any_eq_true];constructor
 ·rintro⟨i,d,h⟩;exact⟨i,(lW r i i (by have:=List.mem_range.1 d;rw[c.len]at this;omega)).1 h⟩
 ·rintro⟨i,h⟩;exact⟨i,List.mem_range.2 h.left,(lW r i i (by have:=c.lt _ _ h;omega)).2 h⟩
end
theorem GN{α β γ:Type}(g:α->β)(F:α->γ->α)(G:β->γ->β)(h:∀a x,g (F a x)=G (g a) x):∀(l:List γ) (a:α),g (l.foldl F a)=l.foldl G (g a)
 |[],a=>Z
 |x::l,a=>by rw[x0,x0,GN g F G h l,h]
theorem nX{es:List Ev}(e:U es<=64)(g:Ey->List Nat)(c:Nat->Nat->Bool)(h:∀f i k,g (f.gG i (ev es i) k (ev es k))=if c i k=I then cL (g f) (i:Int) (k:Int)else g f)(d:g (Ey.bA es)=LH (U es)):
  Rel (U es) (g (KK es))/\∀a b,LB (g (KK es)) a b↔a<U es/\b<U es/\c a b=I:=by
 unfold KK;rw[GN g (nT es) (fun r i=>(xW (U es)).foldl (fun r k=>if c i k=I then cL r (i:Int) (k:Int)else r) r) fun f i=>GN g _ _ (fun f k=>h f i k) _ _,d];exact DN e c _ fun r i=>Z
theorem DW{α β γ:Type}(g:α->β)(F:α->γ->α)(h:∀a x,g (F a x)=g a):∀(l:List γ) (a:α),g (l.foldl F a)=g a
 |[],a=>Z
 |x::l,a=>by rw[x0,DW g F h l,h]
theorem tS(es:List Ev):(KK es).E=es:=by
 unfold KK;exact DW (fun f:Ey=>f.E) (nT es) (fun f i=>DW (fun f:Ey=>f.E) (fun(f:Ey) (k:Nat)=>f.gG i (ev es i) k (ev es k)) (fun f k=>Z) (xW (U es)) f) _ _
theorem AC{es:List Ev}(c:U es<=64):Rel (U es) (KK es).C/\∀i k:Nat,LB (KK es).C i k↔i<U es/\k<U es/\ON i (ev es i) k (ev es k)=I :=
 nX c Ey.C (fun i k=>ON i (ev es i) k (ev es k)) (fun _ _ _=>Z) Z
theorem sN{es:List Ev}(c:U es<=64):Rel (U es) (KK es).G/\∀i k:Nat,LB (KK es).G i k↔i<U es/\k<U es/\QJ i (ev es i) k (ev es k)=I :=
 nX c Ey.G (fun i k=>QJ i (ev es i) k (ev es k)) (fun _ _ _=>Z) Z
theorem AW{es:List Ev}(c:U es<=64):Rel (U es) (KK es).J/\∀i k:Nat,LB (KK es).J i k↔i<U es/\k<U es/\PT (ev es i) (ev es k)=I :=
 nX c Ey.J (fun i k=>PT (ev es i) (ev es k)) (fun _ _ _=>Z) Z
theorem yR{es:List Ev}(c:U es<=64):Rel (U es) (KK es).N/\∀i k:Nat,LB (KK es).N i k↔i<U es/\k<U es/\PN i (ev es i) k (ev es k)=I :=
 nX c Ey.N (fun i k=>PN i (ev es i) k (ev es k)) (fun _ _ _=>Z) Z
theorem WC{es:List Ev}(c:U es<=64):Rel (U es) (KK es).y/\∀i k:Nat,LB (KK es).y i k↔i<U es/\k<U es/\isRow i (ev es i) k (ev es k)=I :=
 nX c Ey.y (fun i k=>isRow i (ev es i) k (ev es k)) (fun _ _ _=>Z) Z
theorem WD{es:List Ev}(c:U es<=64):Rel (U es) (KK es).h/\∀i k:Nat,LB (KK es).h i k↔i<U es/\k<U es/\OG (ev es i).h (k:Int)=I :=
 nX c Ey.h (fun i k=>OG (ev es i).h (k:Int)) (fun _ _ _=>Z) Z
theorem WE{es:List Ev}(c:U es<=64):Rel (U es) (KK es).L/\∀i k:Nat,LB (KK es).L i k↔i<U es/\k<U es/\QC i (ev es i) k=I :=
 nX c Ey.L (fun i k=>QC i (ev es i) k) (fun _ _ _=>Z) Z
theorem WG{es:List Ev}(c:U es<=64):Rel (U es) (KK es).sends/\∀i k:Nat,LB (KK es).sends i k↔i<U es/\k<U es/\QD i (ev es i) k (ev es k)=I :=
 nX c Ey.sends (fun i k=>QD i (ev es i) k (ev es k)) (fun _ _ _=>Z) Z
theorem WH{es:List Ev}(c:U es<=64):Rel (U es) (KK es).M/\∀i k:Nat,LB (KK es).M i k↔i<U es/\k<U es/\QE i (ev es i) k (ev es k)=I :=
 nX c Ey.M (fun i k=>QE i (ev es i) k (ev es k)) (fun _ _ _=>Z) Z
theorem WJ{es:List Ev}(d:U es<=64)(c:List Int):Rel (U es) (LW es c)/\∀a b,LB (LW es c) a b↔a<U es/\b<U es/\PV es c a b=I :=
 DN d (PV es c) _ fun r i=>Z
theorem Lp{es:List Ev}(k:U es<=64){aJ:List Nat}(j:Rel (U es) aJ):Rel (U es) (dQ es aJ)/\∀a b,LB (dQ es aJ) a b↔LB aJ b a/\(ev es b).q≠0/\(ev es a).q≠0:=by
 have h:=VW k (fun r w=>bB aJ (r:Int) (w:Int)&&(ev es r).q != 0&&(ev es w).q != 0) (pF es aJ) fun r i=>Z;refine⟨h.1,fun a b=>?_⟩;have d:=h.2 a b;rw[show dQ es aJ=(xW (U es)).foldl (pF es aJ) (LH (U es))from rfl,d];simp only[x8,bne_iff_ne,ne_eq];constructor
 ·rintro⟨c,d,⟨e,f⟩,g⟩;exact⟨(lW _ _ _ (by omega)).1 e,f,g⟩
 ·rintro⟨c,d,e⟩;have f:=j.lt _ _ c;have g:=c.left;exact⟨f,by rw[<- j.len];exact g,⟨(lW _ _ _ (by omega)).2 c,d⟩,e⟩
theorem WK{es:List Ev}(q:U es<=64){d:List Int}(m:U d=U es):Rel (U es) ((KK es).D d)/\∀a b,LB ((KK es).D d) a b↔b<U es/\a<U es/\d.getD a (-1)=(b:Int):=by
 have h:=wU (n:=U es) (fun(r:List Nat) (i:Nat)=>cL r (i:Int) (d.getD i (-1))) (fun i a b=>a=i/\b<U es/\d.getD a (-1)=(b:Int)) (xW (U d)) fun r i j o=>by
  have l:i<U es:=by rw[<- m];exact List.mem_range.1 j
  refine⟨by rw[rW];exact o,fun a b=>?_⟩;by_cases hlt:d.getD i (-1)<U es
  ·by_cases h0:0<=d.getD i (-1)
   ·have e:d.getD i (-1)=((d.getD i (-1)).toNat:Int):=by omega
    rw[e,VU q o i _ l (by omega)];constructor
    ·rintro(c|⟨c,g⟩)
     ·exact xR c
     ·exact xF ⟨c,by omega,by rw[c];omega⟩
    ·rintro(c|⟨c,g,f⟩)
     ·exact xR c
     ·exact xF ⟨c,by rw[c]at f;omega⟩
   ·have e:cL r (i:Int) (d.getD i (-1))=r:=by
     unfold cL;rw[if_neg (by omega)];have:one (d.getD i (-1))=0:=by unfold one;rw[if_pos (by omega)]
     rw[this,Nat.or_zero,x2,FQ _ _ (by omega)];exact List.set_getElem_self (by omega)
    rw[e];constructor
    ·exact xR
    ·rintro(c|⟨c,g,f⟩)
     ·exact c
     ·rw[c]at f;omega
  ·have e:cL r (i:Int) (d.getD i (-1))=r:=by
    unfold cL;rw[if_pos (by omega)]
   rw[e];constructor
   ·exact xR
   ·rintro(c|⟨c,g,f⟩)
    ·exact c
    ·rw[c]at f;omega (LH (U es)) (by simp[LH])
 unfold Ey.D;rw[tS];have k:∀a b,LB ((xW (U d)).foldl (fun(r:List Nat) (i:Nat)=>cL r (i:Int) (d.getD i (-1))) (LH (U es))) a b↔b<U es/\a<U es/\d.getD a (-1)=(b:Int):=fun a b=>by
  rw[h.2];constructor
  ·rintro(c|⟨i,j,rfl,g,f⟩)
   ·exact absurd c (BY _ _ _)
   ·exact⟨g,by rw[<- m];exact List.mem_range.1 j,f⟩
  ·rintro⟨c,g,f⟩;exact xF ⟨a,List.mem_range.2 (by rw[m];exact g),Z,c,f⟩
 exact⟨⟨h.1,fun a b p=>((k a b).1 p).1⟩,k⟩
structure Sys where
 C:Nat->Nat->Prop
 G:Nat->Nat->Prop
 J:Nat->Nat->Prop
 N:Nat->Nat->Prop
 L:Nat->Nat->Prop
 h:Nat->Nat->Prop
 sends:Nat->Nat->Prop
 M:Nat->Nat->Prop
 rd:Nat->Nat->Prop
 bh:Nat->Nat->Prop
 ord:Nat->Prop
def Th(R S:Nat->Nat->Prop)(a b:Nat):Prop:=∃c,R a c/\S c b
namespace Sys
def bX(X:Sys)(a b:Nat):Prop:=X.rd a b/\X.G a b
def aJ(X:Sys)(a b:Nat):Prop:=X.bX a b\/Th (TC (Th X.bX X.L)) X.bX a b
def dQ(X:Sys)(a b:Nat):Prop:=X.aJ b a/\X.ord b/\X.ord a
def bT(X:Sys)(a b:Nat):Prop:=Th (Th X.sends X.dQ) X.M a b/\X.G a b
def KU(X:Sys):Nat->Nat->Prop:=TC fun a b=>(X.C a b\/X.bT a b)\/X.J a b
def misses(X:Sys):Nat->Nat->Prop:=Th X.rd X.bh
def comm(X:Sys)(a b:Nat):Prop:=(X.rd b a\/X.bh a b)\/X.misses a b
def LN(X:Sys):Nat->Nat->Prop:=TC X.comm
structure May(X:Sys):Prop where
 bef:∀i,¬X.KU i i
 split:∀i,¬Th (Th X.L X.misses) X.bh i i
 link:∀i,¬Th X.KU X.LN i i
 fence:∀i,¬TC (fun a b=>(X.KU a b\/Th (Th X.KU X.LN) X.KU a b)/\X.N a b) i i
def mT(X:Sys):Prop:=∀i,¬TC (fun a b=>X.h a b\/X.rd a b) i i
section
variable {f:Nat->Nat}{X Y:Sys}
end
end Sys
def NX(es:List Ev)(rs ps:List Int):Sys where
 C i k:=i<U es/\k<U es/\ON i (ev es i) k (ev es k)=I
 G i k:=i<U es/\k<U es/\QJ i (ev es i) k (ev es k)=I
 J i k:=i<U es/\k<U es/\PT (ev es i) (ev es k)=I
 N i k:=i<U es/\k<U es/\PN i (ev es i) k (ev es k)=I
 L i k:=i<U es/\k<U es/\QC i (ev es i) k=I
 h i k:=i<U es/\k<U es/\OG (ev es i).h (k:Int)=I
 sends i k:=i<U es/\k<U es/\QD i (ev es i) k (ev es k)=I
 M i k:=i<U es/\k<U es/\QE i (ev es i) k (ev es k)=I
 rd i k:=k<U es/\i<U es/\rs.getD i (-1)=(k:Int)
 bh i k:=i<U es/\k<U es/\PV es ps i k=I
 ord i:=(ev es i).q≠0
structure KV(n:Nat)(r:List Nat)(R:Nat->Nat->Prop):Prop where
 rel:Rel n r
 bit:∀a b,LB r a b↔R a b
section
variable {n:Nat}{r o:List Nat}{R O:Nat->Nat->Prop}
theorem KV.or(d:KV n r R)(c:KV n o O):KV n (cE r o) fun a b=>R a b\/O a b:=
 ⟨iQ d.rel c.rel,fun a b=>by rw[DC d.rel.len c.rel.len,d.bit,c.bit]⟩
theorem KV.and(c:KV n r R)(d:KV n o O):KV n (fY r o) fun a b=>R a b/\O a b:=
 ⟨rD c.rel,fun a b=>by rw[VP c.rel.len,c.bit,d.bit]⟩
theorem KV.iI(i:n<=64)(d:KV n r R)(g:KV n o O):KV n (LR r o) (Th R O):=
 ⟨iK i d.rel g.rel,fun a b=>by
  rw[VR i d.rel];constructor
  ·rintro⟨c,e,f⟩;exact⟨c,(d.bit _ _).1 e,(g.bit _ _).1 f⟩
  ·rintro⟨c,e,f⟩;exact⟨c,(d.bit _ _).2 e,(g.bit _ _).2 f⟩⟩
theorem KV.cl(d:n<=64)(c:KV n r R):KV n (iR r) (TC R):=
 ⟨(WB d c.rel).1,fun a b=>by
  rw[(WB d c.rel).2];exact⟨TC.mono fun x y h=>(c.bit _ _).1 h,TC.mono fun x y h=>(c.bit _ _).2 h⟩⟩
theorem KV.kF(d:n<=64)(c:KV n r R):KV n (lB r) fun a b=>R b a:=
 ⟨(VX d c.rel).1,fun a b=>by rw[(VX d c.rel).2,c.bit]⟩
theorem KV.fD(d:n<=64)(c:KV n r R):aL r=I↔∃i,R i i:=by
 rw[Lo d c.rel];exact⟨fun⟨i,h⟩=>⟨i,(c.bit _ _).1 h⟩,fun⟨i,h⟩=>⟨i,(c.bit _ _).2 h⟩⟩
theorem KV.hY(c:n<=64)(d:KV n r R):bJ r=I↔∃i,TC R i i:=KV.fD c (d.cl c)
end
section
variable {es:List Ev}{rs:List Int}
theorem tB(c:U es<=64)(d:U rs=U es)(e:List Int):KV (U es) ((KK es).D rs) (NX es rs e).rd:=⟨(WK c d).1,(WK c d).2⟩
theorem GW(c:U es<=64)(e:U rs=U es)(d:List Int):KV (U es) ((KK es).bX ((KK es).D rs)) (NX es rs d).bX :=
 (tB c e d).and (O:=(NX es rs d).G) ⟨(sN c).1,(sN c).2⟩
theorem CZ(c:U es<=64)(d:List Int):KV (U es) (KK es).L (NX es rs d).L:=⟨(WE c).1,(WE c).2⟩
theorem CK(c:U es<=64)(e:U rs=U es)(d:List Int):KV (U es) ((KK es).aJ ((KK es).D rs)) (NX es rs d).aJ :=
 (GW c e d).or ((((GW c e d).iI c (CZ c d)).cl c).iI c (GW c e d))
theorem Lq(c:U es<=64)(e:U rs=U es)(d:List Int):KV (U es) (dQ es ((KK es).aJ ((KK es).D rs))) (NX es rs d).dQ:=by
 have h:=Lp c (CK c e d).rel;refine⟨h.1,fun a b=>?_⟩;rw[h.2,(CK c e d).bit];exact Iff.rfl
theorem WL(c:U es<=64)(e:U rs=U es)(d:List Int):KV (U es) ((KK es).bT ((KK es).aJ ((KK es).D rs))) (NX es rs d).bT:=by
 unfold Ey.bT;rw[tS];exact((KV.iI c (R:=(NX es rs d).sends) ⟨(WG c).1,(WG c).2⟩ (Lq c e d)).iI c (O:=(NX es rs d).M) ⟨(WH c).1,(WH c).2⟩).and (O:=(NX es rs d).G) ⟨(sN c).1,(sN c).2⟩
theorem vW(c:U es<=64)(e:U rs=U es)(d:List Int):KV (U es) ((KK es).KU ((KK es).D rs)) (NX es rs d).KU :=
 KV.cl c ((KV.or (R:=(NX es rs d).C) ⟨(AC c).1,(AC c).2⟩ (WL c e d)).or (O:=(NX es rs d).J) ⟨(AW c).1,(AW c).2⟩)
theorem xL(d:U es<=64)(c:List Int):KV (U es) (LW es c) (NX es rs c).bh:=⟨(WJ d c).1,(WJ d c).2⟩
theorem WN(c:U es<=64)(e:U rs=U es)(d:List Int):KV (U es) (LN ((KK es).D rs) (LW es d)) (NX es rs d).LN :=
 KV.cl c ((((tB c e d).kF c).or (xL c d)).or ((tB c e d).iI c (xL c d)))
theorem mE{b:Bool}{p:Prop}(h:b=I↔p):b=false↔¬p:=by
 cases b
 ·simp at h;simp[h]
 ·simp at h;simp[h]
theorem Lr(d:U es<=64)(g:U rs=U es)(e:List Int):(KK es).cT ((KK es).D rs) ((KK es).KU ((KK es).D rs)) e=I↔(NX es rs e).May:=by
 have j:KV (U es) (LW es e) (NX es rs e).bh:=xL d e;have k:KV (U es) (KK es).L (NX es rs e).L:=CZ d e;unfold Ey.cT;rw[tS];have q:(KK es).cF (LR ((KK es).D rs) (LW es e)) (LW es e)=aL (LR (LR (KK es).L (LR ((KK es).D rs) (LW es e))) (LW es e)):=Z;have r:(KK es).bW ((KK es).KU ((KK es).D rs)) (LN ((KK es).D rs) (LW es e))=bJ (fY (cE ((KK es).KU ((KK es).D rs)) (LR (LR ((KK es).KU ((KK es).D rs)) (LN ((KK es).D rs) (LW es e))) ((KK es).KU ((KK es).D rs)))) (KK es).N):=Z;rw[q,r];have l:=mE ((vW d g e).fD d);have n:=mE ((KV.iI d (k.iI d ((tB d g e).iI d j)) j).fD d);have o:=mE (((vW d g e).iI d (WN d g e)).fD d);have p:=mE ((((vW d g e).or (((vW d g e).iI d (WN d g e)).iI d (vW d g e))).and (O:=(NX es rs e).N) ⟨(yR d).1,(yR d).2⟩).hY d);constructor
 ·intro h
  split at h
  ·cases h
  ·split at h
   ·cases h
   ·split at h
    ·cases h
    ·rename_i a b c;rw[Bool.not_eq_true']at h;rw[Bool.not_eq_true]at a b c;exact⟨fun i f=>l.1 a ⟨i,f⟩,fun i f=>n.1 b ⟨i,f⟩,fun i f=>o.1 c ⟨i,f⟩,fun i f=>p.1 h ⟨i,f⟩⟩
 ·intro m;rw[l.2 fun⟨i,f⟩=>m.bef i f,n.2 fun⟨i,f⟩=>m.split i f,o.2 fun⟨i,f⟩=>m.link i f,p.2 fun⟨i,f⟩=>m.fence i f];rfl
theorem Ls(c:U es<=64)(f:U rs=U es)(e:List Int):(KK es).bR ((KK es).D rs)=false↔(NX es rs e).mT:=by
 have h:=(KV.or (R:=(NX es rs e).h) ⟨(WD c).1,(WD c).2⟩ (tB c f e)).hY c;unfold Ey.bR;rw[mE h];exact⟨fun k i d=>k ⟨i,d⟩,fun k ⟨i,d⟩=>k i d⟩
end
section
variable {f:Nat->Nat}{es es':List Ev}
end
end Q
end Go.Proofs.YtlikcongbhhpfaaGreatDoor
