import Derived.Test.YtonodfjdiepglaaGreatDoorL13
set_option linter.unusedVariables false
set_option linter.unusedSimpArgs false
set_option maxHeartbeats 12800000
namespace Go.Proofs.YtonodfjdiepglaaGreatDoor
open Go Go.RowKit Go.Proofs.Tryz P Q R
set_option maxRecDepth 1000000
variable {a b:Nat} {α β γ:Type} {S:Nat->Nat->Prop}
open Or renaming inr→xF,inl→xR
open List renaming range→xW,foldl_cons→x1,mem_cons_of_mem→x2
open Int renaming toNat_natCast→x3
open Nat renaming testBit_or→x4,testBit_two_pow→x6,testBit_and→x7,zero_testBit→x8
open Bool renaming or_eq_true→x5,and_eq_true→x9
namespace Q
def Bit (r:List Nat) (a b:Nat):Prop:=(r.getD a 0).testBit b=true
structure Rel (n:Nat) (r:List Nat):Prop where
 len:r.length=n
 lt:∀ a b,Bit r a b->b<n
theorem Bit.left {r:List Nat} (h:Bit r a b):a<r.length:=by
 by_cases hl:a<r.length
 ·exact hl
 ·unfold Bit at h;rw[nJ _ _ (by omega)] at h;simp at h
theorem kIV (b c:Nat) (h:b<64):(cY (b:Int)).testBit c=decide (b=c):=by
 unfold cY;rw[if_neg (by omega),x3,x6]
theorem kHF (s b:Nat) (h:b<64):kAU s (b:Int)=s.testBit b:=by
 unfold kAU cY;rw[if_neg (by omega),x3]
 cases hb:s.testBit b
 ·have:s &&& 2 ^ b=0:=by
   refine Nat.eq_of_testBit_eq (fun i=>?_);rw[x7,x6,x8];by_cases h:b=i
   ·rw[<- h,hb];rfl
   ·simp[h]
  rw[this];rfl
 ·have:s &&& 2 ^ b≠0:=by
   intro e;have c:=congrArg (fun x=>x.testBit b) e;simp[x7,x6,hb] at c
  simp[this]
theorem lA (r:List Nat) (a b:Nat) (h:b<64):bR r (a:Int) (b:Int)=true ↔ Bit r a b:=by
 unfold bR Bit;rw[nF,kHF _ _ h]
theorem AU (f:Nat->Nat) (n a:Nat):((xW n).map f).getD a 0=if a<n then f a else 0:=by
 by_cases h:a<n
 ·rw[lV _ _ (by simpa using h),if_pos h];simp
 ·rw[nJ _ _ (by simpa using h),if_neg h]
theorem EM (n a b:Nat):¬ Bit (aS n) a b:=by
 intro h;unfold Bit aS at h;have:(List.replicate n 0).getD a 0=0:=by
  by_cases ha:a<n
  ·rw[lV _ _ (by simpa using ha)];simp
  ·rw[nJ _ _ (by simpa using ha)]
 rw[this] at h;simp at h
section
variable {n:Nat} {r o:List Nat}
theorem AF (d:r.length=n) (c:o.length=n) (a b:Nat):Bit (cS r o) a b ↔ Bit r a b\/Bit o a b:=by
 unfold Bit cS;rw[AU];by_cases h:a<r.length
 ·rw[if_pos h,x4,nF,nF,x5]
 ·rw[if_neg h,nJ r _ (by omega),nJ o _ (by omega)];simp
theorem kIP (c:r.length=n) (a b:Nat):Bit (fV r o) a b ↔ Bit r a b/\Bit o a b:=by
 unfold Bit fV;rw[AU];by_cases h:a<r.length
 ·rw[if_pos h,x7,nF,nF,x9]
 ·rw[if_neg h,nJ r _ (by omega)];simp
theorem jS (c:Rel n r) (d:Rel n o):Rel n (cS r o) :=
 ⟨by rw[xL];exact c.len,fun a b h=>by rcases (AF c.len d.len a b).1 h with h | h;exact c.lt _ _ h;exact d.lt _ _ h⟩
theorem sJ (c:Rel n r):Rel n (fV r o) :=
 ⟨by rw[CF];exact c.len,fun a b h=>c.lt _ _ ((kIP c.len a b).1 h).1⟩
theorem kGe (i:n<=64) (a x:Nat):∀ (l:List Nat) (f:Nat),(∀ c∈l,c<n)->((l.foldl (iS r o a) f).testBit x=true ↔ f.testBit x=true\/∃ c∈l,Bit r a c/\Bit o c x)
 | [],f,_=>by simp
 | c::l,f,h=>by
  rw[x1,kGe i a x l _ (fun y e=>h y (x2 _ e))];have j:c<n:=h c (by simp);unfold iS;by_cases hb:Bit r a c
  ·rw[if_pos ((lA r a c (by omega)).2 hb),x4,nF,x5];constructor
   ·rintro ((d | d) | ⟨y,e,d⟩)
    ·exact xR d
    ·exact xF ⟨c,by simp,hb,d⟩
    ·exact xF ⟨y,x2 _ e,d⟩
   ·rintro (d | ⟨y,e,d⟩)
    ·exact xR (xR d)
    ·rcases List.mem_cons.1 e with rfl | e
     ·exact xR (xF d.2)
     ·exact xF ⟨y,e,d⟩
  ·rw[if_neg (fun g=>hb ((lA r a c (by omega)).1 g))];constructor
   ·rintro (d | ⟨y,e,d⟩)
    ·exact xR d
    ·exact xF ⟨y,x2 _ e,d⟩
   ·rintro (d | ⟨y,e,d⟩)
    ·exact xR d
    ·rcases List.mem_cons.1 e with rfl | e
     ·exact absurd d.1 hb
     ·exact xF ⟨y,e,d⟩
theorem kHS (g:n<=64) (d:Rel n r) (a b:Nat):Bit (kAg r o) a b ↔ ∃ c,Bit r a c/\Bit o c b:=by
 have e:Bit (kAg r o) a b ↔ (a<r.length/\(jG r o a).testBit b=true):=by
  unfold kAg;rw[Bit,AU];by_cases h:a<r.length
  ·simp[h]
  ·simp[h]
 rw[e];unfold jG;rw[kGe (n:=n) g a b _ _ (fun c f=>by rw[d.len] at f;exact List.mem_range.1 f)];simp only[x8,Bool.false_eq_true,false_or,List.mem_range];constructor
 ·rintro ⟨_,c,_,h⟩;exact⟨c,h⟩
 ·rintro ⟨c,h⟩;exact⟨h.1.left,c,by rw[d.len];exact d.lt _ _ h.1,h⟩
theorem jP (e:n<=64) (d:Rel n r) (f:Rel n o):Rel n (kAg r o) :=
 ⟨by rw[EO];exact d.len,fun a b h=>by obtain⟨c,_,h⟩:=(kHS e d a b).1 h;exact f.lt _ _ h⟩
theorem kHv (l:List Nat) (i x a:Nat) (h:i<l.length):(l.set i x).getD a 0=if a=i then x else l.getD a 0:=by
 by_cases ha:a=i
 ·rw[ha,if_pos rfl,lV _ _ (by simpa using h)];simp
 ·rw[if_neg ha];simp[List.getD,List.getElem?_set,Ne.symm ha]
theorem kJf (f:n<=64) (g:r.length=n) (i k:Nat) (d:i<n) (e:k<n) (a b:Nat):Bit (bJ r i k) a b ↔ Bit r a b\/(a=i/\b=k):=by
 unfold bJ;rw[if_neg (by omega),x3,Bit,kHv _ _ _ _ (by omega)];by_cases h:a=i
 ·rw[if_pos h,x4,nF,kIV _ _ (by omega),x5,decide_eq_true_eq,h];constructor
  ·rintro (c | c)
   ·exact xR c
   ·exact xF ⟨rfl,c.symm⟩
  ·rintro (c | c)
   ·exact xR c
   ·exact xF c.2.symm
 ·rw[if_neg h];simp[h,Bit]
theorem uN (F:List Nat->β->List Nat) (G:β->Nat->Nat->Prop) (l:List β) (g:∀ r x,x∈l->r.length=n->(F r x).length=n/\∀ a b,Bit (F r x) a b ↔ Bit r a b\/G x a b) :
  ∀ r,r.length=n->(l.foldl F r).length=n/\∀ a b,Bit (l.foldl F r) a b ↔ Bit r a b\/∃ x∈l,G x a b:=by
 induction l with
 | nil=>intro r h;exact⟨h,by simp⟩
 | cons x l ih =>
  intro r h;have e:=g r x (by simp) h;have f:=ih (fun r y d i=>g r y (x2 _ d) i) (F r x) e.1;refine⟨f.1,fun a b=>?_⟩;rw[x1,f.2,e.2];constructor
  ·rintro ((c | c) | ⟨y,d,c⟩)
   ·exact xR c
   ·exact xF ⟨x,by simp,c⟩
   ·exact xF ⟨y,x2 _ d,c⟩
  ·rintro (c | ⟨y,d,c⟩)
   ·exact xR (xR c)
   ·rcases List.mem_cons.1 d with rfl | d
    ·exact xR (xF c)
    ·exact xF ⟨y,d,c⟩
theorem kJe (g:n<=64) (c:Bool) (i k:Nat) (e:i<n) (f:k<n) (d:r.length=n):(if c=true then bJ r i k else r).length=n/\∀ a b,Bit (if c=true then bJ r i k else r) a b ↔ Bit r a b\/(c=true/\a=i/\b=k):=by
 cases c
 ·exact⟨by simpa using d,fun a b=>by simp⟩
 ·exact⟨by simpa [jX] using d,fun a b=>by simpa using kJf g d i k e f a b⟩
theorem AK (o:n<=64) (c:Nat->Nat->Bool) (F:List Nat->Nat->List Nat) (j:∀ r i,F r i=(xW n).foldl (fun r k=>if c i k=true then bJ r (i:Int) (k:Int) else r) r) :
  Rel n ((xW n).foldl F (aS n))/\∀ a b,Bit ((xW n).foldl F (aS n)) a b ↔ a<n/\b<n/\c a b=true:=by
 have h:=uN (n:=n) F (fun i a b=>a=i/\b<n/\c a b=true) (xW n) (fun r i m g=>by
  rw[j];have h:=uN (n:=n) (fun r k=>if c i k=true then bJ r (i:Int) (k:Int) else r) (fun k a b=>c i k=true/\a=i/\b=k) (xW n) (fun r k f g=>kJe o _ i k (List.mem_range.1 m) (List.mem_range.1 f) g) r g;refine⟨h.1,fun a b=>?_⟩;rw[h.2];constructor
  ·rintro (d | ⟨k,f,d,rfl,rfl⟩)
   ·exact xR d
   ·exact xF ⟨rfl,List.mem_range.1 f,d⟩
  ·rintro (d | ⟨rfl,d,e⟩)
   ·exact xR d
   ·exact xF ⟨b,List.mem_range.2 d,e,rfl,rfl⟩) (aS n) (by simp[aS])
 have e:∀ a b,Bit ((xW n).foldl F (aS n)) a b ↔ a<n/\b<n/\c a b=true:=fun a b=>by
  rw[h.2];constructor
  ·rintro (d | ⟨k,f,rfl,d⟩)
   ·exact absurd d (EM _ _ _)
   ·exact⟨List.mem_range.1 f,d⟩
  ·rintro ⟨d,e⟩;exact xF ⟨a,List.mem_range.2 d,rfl,e⟩
 exact⟨⟨h.1,fun a b l=>((e a b).1 l).2.1⟩,e⟩
theorem kFa (p:n<=64) (c:Nat->Nat->Bool) (F:List Nat->Nat->List Nat) (l:∀ r i,F r i=(xW n).foldl (fun r k=>if c i k=true then bJ r (k:Int) (i:Int) else r) r) :
  Rel n ((xW n).foldl F (aS n))/\∀ a b,Bit ((xW n).foldl F (aS n)) a b ↔ a<n/\b<n/\c b a=true:=by
 have h:=uN (n:=n) F (fun i a b=>b=i/\a<n/\c b a=true) (xW n) (fun r i o g=>by
  rw[l];have h:=uN (n:=n) (fun r k=>if c i k=true then bJ r (k:Int) (i:Int) else r) (fun k a b=>c i k=true/\a=k/\b=i) (xW n) (fun r k f g=>kJe p _ k i (List.mem_range.1 f) (List.mem_range.1 o) g) r g;refine⟨h.1,fun a b=>?_⟩;rw[h.2];constructor
  ·rintro (d | ⟨k,f,d,rfl,rfl⟩)
   ·exact xR d
   ·exact xF ⟨rfl,List.mem_range.1 f,d⟩
  ·rintro (d | ⟨rfl,d,e⟩)
   ·exact xR d
   ·exact xF ⟨a,List.mem_range.2 d,e,rfl,rfl⟩) (aS n) (by simp[aS])
 have e:∀ a b,Bit ((xW n).foldl F (aS n)) a b ↔ a<n/\b<n/\c b a=true:=fun a b=>by
  rw[h.2];constructor
  ·rintro (d | ⟨k,f,rfl,d⟩)
   ·exact absurd d (EM _ _ _)
   ·exact⟨d.1,List.mem_range.1 f,d.2⟩
  ·rintro ⟨d,j,e⟩;exact xF ⟨b,List.mem_range.2 j,rfl,d,e⟩
 exact⟨⟨h.1,fun a b m=>((e a b).1 m).2.1⟩,e⟩
theorem kGa (g:n<=64) (d:Rel n r):Rel n (kU r)/\∀ a b,Bit (kU r) a b ↔ Bit r b a:=by
 have h:=kFa g (fun a b=>bR r (a:Int) (b:Int)) (oE r) (fun t a=>by
  unfold oE mO;rw[d.len])
 unfold kU;rw[d.len];refine⟨h.1,fun a b=>?_⟩;rw[h.2];constructor
 ·rintro ⟨c,f,e⟩;exact (lA r b a (by omega)).1 e
 ·intro c;have f:=c.left;have e:=d.lt _ _ c;exact⟨e,by rw[<- d.len];exact f,(lA r b a (by omega)).2 c⟩
def TC (R:Nat->Nat->Prop) (a b:Nat):Prop:=∀ S:Nat->Nat->Prop,(∀ x y,R x y->S x y)->(∀ x y z,S x y->S y z->S x z)->S a b
theorem TC.base {R:Nat->Nat->Prop} (h:R a b):TC R a b:=fun _ c _=>c _ _ h
theorem TC.trans {R:Nat->Nat->Prop} {c:Nat} (h:TC R a b) (k:TC R b c):TC R a c:=fun S e d=>d _ _ _ (h S e d) (k S e d)
theorem TC.map {R:Nat->Nat->Prop} (f:Nat->Nat) (h:∀ x y,R x y->S (f x) (f y)) (k:TC R a b):TC S (f a) (f b) :=
 k (fun x y=>TC S (f x) (f y)) (fun x y c=>TC.base (h x y c)) (fun _ _ _=>TC.trans)
theorem TC.mono {R:Nat->Nat->Prop} (h:∀ x y,R x y->S x y) (k:TC R a b):TC S a b:=TC.map (fun x=>x) h k
theorem kEH (q:n<=64) (b:Nat) (p:b<n) (g:Rel n r):∀ m,m<=n->Rel n ((xW m).foldl (iJ b) r)/\∀ x y,Bit ((xW m).foldl (iJ b) r) x y ↔ Bit r x y\/(x<m/\Bit r x b/\Bit r b y)
 | 0,_=>⟨g,fun x y=>by simp⟩
 | m+1,hm=>by
  rw[fI];obtain⟨j,e⟩:=kEH q b p g m (by omega);generalize (xW m).foldl (iJ b) r=c at j e;have f:∀ x y,Bit (iJ b c m) x y ↔ Bit r x y\/(x<m+1/\Bit r x b/\Bit r b y):=by
   intro x y;have k:∀ z,Bit c z b ↔ Bit r z b:=fun z=>by
    rw[e];constructor
    ·rintro (h | h)
     ·exact h
     ·exact h.2.1
    ·exact xR
   have l:∀ z,Bit c b z ↔ Bit r b z:=fun z=>by
    rw[e];constructor
    ·rintro (h | h)
     ·exact h
     ·exact h.2.2
    ·exact xR
   unfold iJ;by_cases h:Bit c m b
   ·rw[if_pos ((lA c m b (by omega)).2 h),Bit,kHv _ _ _ _ (by rw[j.len];omega)];by_cases hx:x=m
    ·rw[if_pos hx,x4,nF,nF,x5];have i:(c.getD m 0).testBit y=true ↔ Bit c m y:=Iff.rfl;have o:(c.getD b 0).testBit y=true ↔ Bit c b y:=Iff.rfl;rw[i,o,e,l,hx];constructor
     ·rintro ((d | d) | d)
      ·exact xR d
      ·exact xF ⟨by omega,d.2⟩
      ·exact xF ⟨by omega,(k m).1 h,d⟩
     ·rintro (d | d)
      ·exact xR (xR d)
      ·exact xF d.2.2
    ·rw[if_neg hx];have i:(c.getD x 0).testBit y=true ↔ Bit c x y:=Iff.rfl;rw[i,e];constructor
     ·rintro (d | d)
      ·exact xR d
      ·exact xF ⟨by omega,d.2⟩
     ·rintro (d | d)
      ·exact xR d
      ·exact xF ⟨by omega,d.2⟩
   ·rw[if_neg (fun d=>h ((lA c m b (by omega)).1 d)),e];constructor
    ·rintro (d | d)
     ·exact xR d
     ·exact xF ⟨by omega,d.2⟩
    ·rintro (d | d)
     ·exact xR d
     ·by_cases hx:x=m
      ·exact absurd ((k m).2 (hx ▸ d.2.1)) h
      ·exact xF ⟨by omega,d.2⟩
  refine⟨⟨by rw[kFD];exact j.len,fun x y h=>?_⟩,f⟩
  rcases (f x y).1 h with h | h
  ·exact g.lt _ _ h
  ·exact g.lt _ _ h.2.2
theorem kEu (j:n<=64) (l:Rel n r):∀ m,m<=n->Rel n ((xW m).foldl (jR n) r)/\(∀ x y,Bit r x y->Bit ((xW m).foldl (jR n) r) x y)/\(∀ x y,Bit ((xW m).foldl (jR n) r) x y->TC (Bit r) x y)/\∀ k x y,k<m->Bit ((xW m).foldl (jR n) r) x k->Bit ((xW m).foldl (jR n) r) k y->Bit ((xW m).foldl (jR n) r) x y
 | 0,_=>⟨l,fun _ _ h=>h,fun _ _ h=>TC.base h,fun k x y h=>absurd h (by omega)⟩
 | m+1,hm=>by
  rw[fI];obtain⟨i,o,g,p⟩:=kEu j l m (by omega);generalize (xW m).foldl (jR n) r=c at i o g p;obtain⟨q,s⟩:=kEH j m (by omega) i n (Nat.le_refl _);have f:∀ x y,Bit (jR n c m) x y ↔ Bit c x y\/(Bit c x m/\Bit c m y):=fun x y=>by
   unfold jR;rw[s];constructor
   ·rintro (h | h)
    ·exact xR h
    ·exact xF h.2
   ·rintro (h | h)
    ·exact xR h
    ·exact xF ⟨by rw[<- i.len];exact h.1.left,h⟩
  refine⟨q,fun x y h=>(f x y).2 (xR (o _ _ h)),fun x y h=>?_,fun k x y t=>?_⟩
  ·rcases (f x y).1 h with h | h
   ·exact g _ _ h
   ·exact (g _ _ h.1).trans (g _ _ h.2)
  ·rw[f,f,f];by_cases e:k=m
   ·rw[e];rintro (h | h) (d | d)
    ·exact xF ⟨h,d⟩
    ·exact xF ⟨h,d.2⟩
    ·exact xF ⟨h.1,d⟩
    ·exact xF ⟨h.1,d.2⟩
   ·have T:=fun x y=>p k x y (by omega)
    rintro (h | h) (d | d)
    ·exact xR (T _ _ h d)
    ·exact xF ⟨T _ _ h d.1,d.2⟩
    ·exact xF ⟨h.1,T _ _ h.2 d⟩
    ·exact xF ⟨h.1,d.2⟩
theorem kGd (k:n<=64) (d:Rel n r):Rel n (jD r)/\∀ a b,Bit (jD r) a b ↔ TC (Bit r) a b:=by
 have l:=jS d d;obtain⟨f,g,i,j⟩:=kEu k l n (Nat.le_refl _);have e:∀ x y,Bit (cS r r) x y ↔ Bit r x y:=fun x y=>by rw[AF d.len d.len];simp
 unfold jD;rw[d.len];refine⟨f,fun a b=>⟨fun h=>(i _ _ h).mono (fun x y c=>(e x y).1 c),fun h=>?_⟩⟩;refine h _ (fun x y c=>g _ _ ((e x y).2 c)) (fun x y z c m=>j y x z (f.lt _ _ c) c m)
theorem kJA (e:n<=64) (c:Rel n r):bB r=true ↔ ∃ i,Bit r i i:=by
 unfold bB;rw[List.any_eq_true];constructor
 ·rintro ⟨i,d,h⟩;exact⟨i,(lA r i i (by have:=List.mem_range.1 d;rw[c.len] at this;omega)).1 h⟩
 ·rintro ⟨i,h⟩;exact⟨i,List.mem_range.2 h.left,(lA r i i (by have:=c.lt _ _ h;omega)).2 h⟩
end
theorem zY {α β γ:Type} (g:α->β) (F:α->γ->α) (G:β->γ->β) (h:∀ a x,g (F a x)=G (g a) x):∀ (l:List γ) (a:α),g (l.foldl F a)=l.foldl G (g a)
 | [],a=>rfl
 | x::l,a=>by rw[x1,x1,zY g F G h l,h]
theorem nK {es:List Ev} (e:es.length<=64) (g:EE->List Nat) (c:Nat->Nat->Bool) (h:∀ f i k,g (f.gG i (ev es i) k (ev es k))=if c i k=true then bJ (g f) (i:Int) (k:Int) else g f) (d:g (EE.bT es)=aS es.length) :
  Rel es.length (g (zMv es))/\∀ a b,Bit (g (zMv es)) a b ↔ a<es.length/\b<es.length/\c a b=true:=by
 unfold zMv;rw[zY g (mN es) (fun r i=>(xW es.length).foldl (fun r k=>if c i k=true then bJ r (i:Int) (k:Int) else r) r) (fun f i=>zY g _ _ (fun f k=>h f i k) _ _),d];exact AK e c _ (fun r i=>rfl)
theorem CL {α β γ:Type} (g:α->β) (F:α->γ->α) (h:∀ a x,g (F a x)=g a):∀ (l:List γ) (a:α),g (l.foldl F a)=g a
 | [],a=>rfl
 | x::l,a=>by rw[x1,CL g F h l,h]
theorem sM (es:List Ev):(zMv es).Ea=es:=by
 unfold zMv;exact CL (fun f:EE=>f.Ea) (mN es) (fun f i=>CL (fun f:EE=>f.Ea) (fun (f:EE) (k:Nat)=>f.gG i (ev es i) k (ev es k)) (fun f k=>rfl) (xW es.length) f) _ _
theorem xI {es:List Ev} (c:es.length<=64):Rel es.length (zMv es).ahead/\∀ i k:Nat,Bit (zMv es).ahead i k ↔ i<es.length/\k<es.length/\zMl i (ev es i) k (ev es k)=true :=
 nK c EE.ahead (fun i k=>zMl i (ev es i) k (ev es k)) (fun _ _ _=>rfl) rfl
theorem sF {es:List Ev} (c:es.length<=64):Rel es.length (zMv es).strong/\∀ i k:Nat,Bit (zMv es).strong i k ↔ i<es.length/\k<es.length/\zMq i (ev es i) k (ev es k)=true :=
 nK c EE.strong (fun i k=>zMq i (ev es i) k (ev es k)) (fun _ _ _=>rfl) rfl
theorem yY {es:List Ev} (c:es.length<=64):Rel es.length (zMv es).gathers/\∀ i k:Nat,Bit (zMv es).gathers i k ↔ i<es.length/\k<es.length/\zMG (ev es i) (ev es k)=true :=
 nK c EE.gathers (fun i k=>zMG (ev es i) (ev es k)) (fun _ _ _=>rfl) rfl
theorem yT {es:List Ev} (c:es.length<=64):Rel es.length (zMv es).fences/\∀ i k:Nat,Bit (zMv es).fences i k ↔ i<es.length/\k<es.length/\zMp i (ev es i) k (ev es k)=true :=
 nK c EE.fences (fun i k=>zMp i (ev es i) k (ev es k)) (fun _ _ _=>rfl) rfl
theorem kKD {es:List Ev} (c:es.length<=64):Rel es.length (zMv es).rows/\∀ i k:Nat,Bit (zMv es).rows i k ↔ i<es.length/\k<es.length/\isRow i (ev es i) k (ev es k)=true :=
 nK c EE.rows (fun i k=>isRow i (ev es i) k (ev es k)) (fun _ _ _=>rfl) rfl
theorem kIQ {es:List Ev} (c:es.length<=64):Rel es.length (zMv es).Ef/\∀ i k:Nat,Bit (zMv es).Ef i k ↔ i<es.length/\k<es.length/\kAU (ev es i).Ef (k:Int)=true :=
 nK c EE.Ef (fun i k=>kAU (ev es i).Ef (k:Int)) (fun _ _ _=>rfl) rfl
theorem kHG {es:List Ev} (c:es.length<=64):Rel es.length (zMv es).halves/\∀ i k:Nat,Bit (zMv es).halves i k ↔ i<es.length/\k<es.length/\zNt i (ev es i) k=true :=
 nK c EE.halves (fun i k=>zNt i (ev es i) k) (fun _ _ _=>rfl) rfl
theorem kJh {es:List Ev} (c:es.length<=64):Rel es.length (zMv es).sends/\∀ i k:Nat,Bit (zMv es).sends i k ↔ i<es.length/\k<es.length/\zOg i (ev es i) k (ev es k)=true :=
 nK c EE.sends (fun i k=>zOg i (ev es i) k (ev es k)) (fun _ _ _=>rfl) rfl
theorem kIR {es:List Ev} (c:es.length<=64):Rel es.length (zMv es).takes/\∀ i k:Nat,Bit (zMv es).takes i k ↔ i<es.length/\k<es.length/\zPm i (ev es i) k (ev es k)=true :=
 nK c EE.takes (fun i k=>zPm i (ev es i) k (ev es k)) (fun _ _ _=>rfl) rfl
theorem kGi {es:List Ev} (d:es.length<=64) (c:List Int):Rel es.length (zMT es c)/\∀ a b,Bit (zMT es c) a b ↔ a<es.length/\b<es.length/\zPE es c a b=true :=
 AK d (zPE es c) _ (fun r i=>rfl)
theorem kKL {es:List Ev} (k:es.length<=64) {aN:List Nat} (j:Rel es.length aN):Rel es.length (dU es aN)/\∀ a b,Bit (dU es aN) a b ↔ Bit aN b a/\((ev es b).order≠0/\(ev es a).order≠0):=by
 have h:=kFa k (fun r w=>bR aN (r:Int) (w:Int)&&(ev es r).order != 0&&(ev es w).order != 0) (oX es aN) (fun r i=>rfl);refine⟨h.1,fun a b=>?_⟩;have d:=h.2 a b;rw[show (dU es aN)=(xW es.length).foldl (oX es aN) (aS es.length) from rfl,d];simp only[x9,bne_iff_ne,ne_eq];constructor
 ·rintro ⟨c,d,⟨e,f⟩,g⟩;exact⟨(lA _ _ _ (by omega)).1 e,f,g⟩
 ·rintro ⟨c,d,e⟩;have f:=j.lt _ _ c;have g:=c.left;exact⟨f,by rw[<- j.len];exact g,⟨(lA _ _ _ (by omega)).2 c,d⟩,e⟩
theorem kHB {es:List Ev} (q:es.length<=64) {d:List Int} (m:d.length=es.length):Rel es.length ((zMv es).reads d)/\∀ a b,Bit ((zMv es).reads d) a b ↔ b<es.length/\a<es.length/\d.getD a (-1)=(b:Int):=by
 have h:=uN (n:=es.length) (fun (r:List Nat) (i:Nat)=>bJ r (i:Int) (d.getD i (-1))) (fun i a b=>a=i/\b<es.length/\d.getD a (-1)=(b:Int)) (xW d.length) (fun r i j o=>by
  have l:i<es.length:=by rw[<- m];exact List.mem_range.1 j
  refine⟨by rw[jX];exact o,fun a b=>?_⟩;by_cases hlt:d.getD i (-1)<es.length
  ·by_cases h0:0<=d.getD i (-1)
   ·have e:d.getD i (-1)=((d.getD i (-1)).toNat:Int):=by omega
    rw[e,kJf q o i _ l (by omega)];constructor
    ·rintro (c | ⟨c,g⟩)
     ·exact xR c
     ·exact xF ⟨c,by omega,by rw[c];omega⟩
    ·rintro (c | ⟨c,g,f⟩)
     ·exact xR c
     ·exact xF ⟨c,by rw[c] at f;omega⟩
   ·have e:bJ r (i:Int) (d.getD i (-1))=r:=by
     unfold bJ;rw[if_neg (by omega)];have:cY (d.getD i (-1))=0:=by unfold cY;rw[if_pos (by omega)]
     rw[this,Nat.or_zero,x3,CH _ _ (by omega)];exact List.set_getElem_self (by omega)
    rw[e];constructor
    ·exact xR
    ·rintro (c | ⟨c,g,f⟩)
     ·exact c
     ·rw[c] at f;omega
  ·have e:bJ r (i:Int) (d.getD i (-1))=r:=by
    unfold bJ;rw[if_pos (by omega)]
   rw[e];constructor
   ·exact xR
   ·rintro (c | ⟨c,g,f⟩)
    ·exact c
    ·rw[c] at f;omega) (aS es.length) (by simp[aS])
 unfold EE.reads;rw[sM];have k:∀ a b,Bit ((xW d.length).foldl (fun (r:List Nat) (i:Nat)=>bJ r (i:Int) (d.getD i (-1))) (aS es.length)) a b ↔ b<es.length/\a<es.length/\d.getD a (-1)=(b:Int):=fun a b=>by
  rw[h.2];constructor
  ·rintro (c | ⟨i,j,rfl,g,f⟩)
   ·exact absurd c (EM _ _ _)
   ·exact⟨g,by rw[<- m];exact List.mem_range.1 j,f⟩
  ·rintro ⟨c,g,f⟩;exact xF ⟨a,List.mem_range.2 (by rw[m];exact g),rfl,c,f⟩
 exact⟨⟨h.1,fun a b p=>((k a b).1 p).1⟩,k⟩
structure Sys where
 ahead:Nat->Nat->Prop
 strong:Nat->Nat->Prop
 gathers:Nat->Nat->Prop
 fences:Nat->Nat->Prop
 halves:Nat->Nat->Prop
 Ef:Nat->Nat->Prop
 sends:Nat->Nat->Prop
 takes:Nat->Nat->Prop
 rd:Nat->Nat->Prop
 bh:Nat->Nat->Prop
 ord:Nat->Prop
def Th (R S:Nat->Nat->Prop) (a b:Nat):Prop:=∃ c,R a c/\S c b
namespace Sys
def cI (X:Sys) (a b:Nat):Prop:=X.rd a b/\X.strong a b
def aN (X:Sys) (a b:Nat):Prop:=X.cI a b\/Th (TC (Th X.cI X.halves)) X.cI a b
def dU (X:Sys) (a b:Nat):Prop:=X.aN b a/\(X.ord b/\X.ord a)
def cP (X:Sys) (a b:Nat):Prop:=Th (Th X.sends X.dU) X.takes a b/\X.strong a b
def before (X:Sys):Nat->Nat->Prop:=TC (fun a b=>(X.ahead a b\/X.cP a b)\/X.gathers a b)
def misses (X:Sys):Nat->Nat->Prop:=Th X.rd X.bh
def comm (X:Sys) (a b:Nat):Prop:=(X.rd b a\/X.bh a b)\/X.misses a b
def linked (X:Sys):Nat->Nat->Prop:=TC X.comm
structure May (X:Sys):Prop where
 bef:∀ i,¬ X.before i i
 split:∀ i,¬ Th (Th X.halves X.misses) X.bh i i
 link:∀ i,¬ Th X.before X.linked i i
 fence:∀ i,¬ TC (fun a b=>(X.before a b\/Th (Th X.before X.linked) X.before a b)/\X.fences a b) i i
def mI (X:Sys):Prop:=∀ i,¬ TC (fun a b=>X.Ef a b\/X.rd a b) i i
section
variable {f:Nat->Nat} {X Y:Sys}
end
end Sys
def kAG (es:List Ev) (rs ps:List Int):Sys where
 ahead i k:=i<es.length/\k<es.length/\zMl i (ev es i) k (ev es k)=true
 strong i k:=i<es.length/\k<es.length/\zMq i (ev es i) k (ev es k)=true
 gathers i k:=i<es.length/\k<es.length/\zMG (ev es i) (ev es k)=true
 fences i k:=i<es.length/\k<es.length/\zMp i (ev es i) k (ev es k)=true
 halves i k:=i<es.length/\k<es.length/\zNt i (ev es i) k=true
 Ef i k:=i<es.length/\k<es.length/\kAU (ev es i).Ef (k:Int)=true
 sends i k:=i<es.length/\k<es.length/\zOg i (ev es i) k (ev es k)=true
 takes i k:=i<es.length/\k<es.length/\zPm i (ev es i) k (ev es k)=true
 rd i k:=k<es.length/\i<es.length/\rs.getD i (-1)=(k:Int)
 bh i k:=i<es.length/\k<es.length/\zPE es ps i k=true
 ord i:=(ev es i).order≠0
structure Says (n:Nat) (r:List Nat) (R:Nat->Nat->Prop):Prop where
 rel:Rel n r
 bit:∀ a b,Bit r a b ↔ R a b
section
variable {n:Nat} {r o:List Nat} {R O:Nat->Nat->Prop}
theorem Says.or (d:Says n r R) (c:Says n o O):Says n (cS r o) (fun a b=>R a b\/O a b) :=
 ⟨jS d.rel c.rel,fun a b=>by rw[AF d.rel.len c.rel.len,d.bit,c.bit]⟩
theorem Says.and (c:Says n r R) (d:Says n o O):Says n (fV r o) (fun a b=>R a b/\O a b) :=
 ⟨sJ c.rel,fun a b=>by rw[kIP c.rel.len,c.bit,d.bit]⟩
theorem Says.gX (i:n<=64) (d:Says n r R) (g:Says n o O):Says n (kAg r o) (Th R O) :=
 ⟨jP i d.rel g.rel,fun a b=>by
  rw[kHS i d.rel];constructor
  ·rintro ⟨c,e,f⟩;exact⟨c,(d.bit _ _).1 e,(g.bit _ _).1 f⟩
  ·rintro ⟨c,e,f⟩;exact⟨c,(d.bit _ _).2 e,(g.bit _ _).2 f⟩⟩
theorem Says.cl (d:n<=64) (c:Says n r R):Says n (jD r) (TC R) :=
 ⟨(kGd d c.rel).1,fun a b=>by
  rw[(kGd d c.rel).2];exact⟨TC.mono fun x y h=>(c.bit _ _).1 h,TC.mono fun x y h=>(c.bit _ _).2 h⟩⟩
theorem Says.jI (d:n<=64) (c:Says n r R):Says n (kU r) (fun a b=>R b a) :=
 ⟨(kGa d c.rel).1,fun a b=>by rw[(kGa d c.rel).2,c.bit]⟩
theorem Says.eY (d:n<=64) (c:Says n r R):bB r=true ↔ ∃ i,R i i:=by
 rw[kJA d c.rel];exact⟨fun ⟨i,h⟩=>⟨i,(c.bit _ _).1 h⟩,fun ⟨i,h⟩=>⟨i,(c.bit _ _).2 h⟩⟩
theorem Says.gR (c:n<=64) (d:Says n r R):cK r=true ↔ ∃ i,TC R i i:=Says.eY c (d.cl c)
end
section
variable {es:List Ev} {rs:List Int}
theorem tI (c:es.length<=64) (d:rs.length=es.length) (e:List Int):Says es.length ((zMv es).reads rs) (kAG es rs e).rd:=⟨(kHB c d).1,(kHB c d).2⟩
theorem EI (c:es.length<=64) (e:rs.length=es.length) (d:List Int):Says es.length ((zMv es).cI ((zMv es).reads rs)) (kAG es rs d).cI :=
 (tI c e d).and (O:=(kAG es rs d).strong) ⟨(sF c).1,(sF c).2⟩
theorem FL (c:es.length<=64) (d:List Int):Says es.length (zMv es).halves (kAG es rs d).halves:=⟨(kHG c).1,(kHG c).2⟩
theorem DR (c:es.length<=64) (e:rs.length=es.length) (d:List Int):Says es.length ((zMv es).aN ((zMv es).reads rs)) (kAG es rs d).aN :=
 (EI c e d).or ((((EI c e d).gX c (FL c d)).cl c).gX c (EI c e d))
theorem kIH (c:es.length<=64) (e:rs.length=es.length) (d:List Int):Says es.length (dU es ((zMv es).aN ((zMv es).reads rs))) (kAG es rs d).dU:=by
 have h:=kKL c (DR c e d).rel;refine⟨h.1,fun a b=>?_⟩;rw[h.2,(DR c e d).bit];exact Iff.rfl
theorem kFe (c:es.length<=64) (e:rs.length=es.length) (d:List Int):Says es.length ((zMv es).cP ((zMv es).aN ((zMv es).reads rs))) (kAG es rs d).cP:=by
 unfold EE.cP;rw[sM];exact ((Says.gX c (R:=(kAG es rs d).sends) ⟨(kJh c).1,(kJh c).2⟩ (kIH c e d)).gX c (O:=(kAG es rs d).takes) ⟨(kIR c).1,(kIR c).2⟩).and (O:=(kAG es rs d).strong) ⟨(sF c).1,(sF c).2⟩
theorem tT (c:es.length<=64) (e:rs.length=es.length) (d:List Int):Says es.length ((zMv es).before ((zMv es).reads rs)) (kAG es rs d).before :=
 Says.cl c ((Says.or (R:=(kAG es rs d).ahead) ⟨(xI c).1,(xI c).2⟩ (kFe c e d)).or (O:=(kAG es rs d).gathers) ⟨(yY c).1,(yY c).2⟩)
theorem yZ (d:es.length<=64) (c:List Int):Says es.length (zMT es c) (kAG es rs c).bh:=⟨(kGi d c).1,(kGi d c).2⟩
theorem kEr (c:es.length<=64) (e:rs.length=es.length) (d:List Int):Says es.length (linked ((zMv es).reads rs) (zMT es d)) (kAG es rs d).linked :=
 Says.cl c ((((tI c e d).jI c).or (yZ c d)).or ((tI c e d).gX c (yZ c d)))
theorem lT {b:Bool} {p:Prop} (h:b=true ↔ p):b=false ↔ ¬ p:=by
 cases b
 ·simp at h;simp[h]
 ·simp at h;simp[h]
theorem kLD (d:es.length<=64) (g:rs.length=es.length) (e:List Int):(zMv es).kB ((zMv es).reads rs) ((zMv es).before ((zMv es).reads rs)) e=true ↔ (kAG es rs e).May:=by
 have s:=(tT d g e).eY d;have j:Says es.length (zMT es e) (kAG es rs e).bh:=yZ d e;have k:Says es.length (zMv es).halves (kAG es rs e).halves:=FL d e;have t:=(Says.gX d (k.gX d ((tI d g e).gX d j)) j).eY d;have u:=((tT d g e).gX d (kEr d g e)).eY d;have v:=(((tT d g e).or (((tT d g e).gX d (kEr d g e)).gX d (tT d g e))).and (O:=(kAG es rs e).fences) ⟨(yT d).1,(yT d).2⟩).gR d;unfold EE.kB;rw[sM];have q:(zMv es).dX (kAg ((zMv es).reads rs) (zMT es e)) (zMT es e)=bB (kAg (kAg (zMv es).halves (kAg ((zMv es).reads rs) (zMT es e))) (zMT es e)):=rfl;have r:(zMv es).eJ ((zMv es).before ((zMv es).reads rs)) (linked ((zMv es).reads rs) (zMT es e))=cK (fV (cS ((zMv es).before ((zMv es).reads rs)) (kAg (kAg ((zMv es).before ((zMv es).reads rs)) (linked ((zMv es).reads rs) (zMT es e))) ((zMv es).before ((zMv es).reads rs)))) (zMv es).fences):=rfl;rw[q,r];have l:=lT s;have n:=lT t;have o:=lT u;have p:=lT v;constructor
 ·intro h
  split at h
  ·cases h
  ·split at h
   ·cases h
   ·split at h
    ·cases h
    ·rename_i a b c;rw[Bool.not_eq_true'] at h;rw[Bool.not_eq_true] at a b c;exact⟨fun i f=>l.1 a ⟨i,f⟩,fun i f=>n.1 b ⟨i,f⟩,fun i f=>o.1 c ⟨i,f⟩,fun i f=>p.1 h ⟨i,f⟩⟩
 ·intro m;rw[l.2 (fun ⟨i,f⟩=>m.bef i f),n.2 (fun ⟨i,f⟩=>m.split i f),o.2 (fun ⟨i,f⟩=>m.link i f),p.2 (fun ⟨i,f⟩=>m.fence i f)];rfl
theorem kKg (c:es.length<=64) (f:rs.length=es.length) (e:List Int):(zMv es).cH ((zMv es).reads rs)=false ↔ (kAG es rs e).mI:=by
 have h:=(Says.or (R:=(kAG es rs e).Ef) ⟨(kIQ c).1,(kIQ c).2⟩ (tI c f e)).gR c;unfold EE.cH;rw[lT h];exact⟨fun k i d=>k ⟨i,d⟩,fun k ⟨i,d⟩=>k i d⟩
end
section
variable {f:Nat->Nat} {es es':List Ev}
end
end Q
end Go.Proofs.YtonodfjdiepglaaGreatDoor
