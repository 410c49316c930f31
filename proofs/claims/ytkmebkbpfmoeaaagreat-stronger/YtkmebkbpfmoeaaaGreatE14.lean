import Derived.Test.YtkmebkbpfmoeaaaGreatE08
set_option linter.unusedVariables false
set_option linter.unusedSimpArgs false
set_option maxHeartbeats 12800000
namespace Go.Proofs.YtkmebkbpfmoeaaaGreat
namespace Q
def Bit (r:List Nat) (a b:Nat):Prop:=(r.getD a 0).testBit b=true
structure Rel (n:Nat) (r:List Nat):Prop where
 len:r.length=n
 lt:∀ a b,Bit r a b→b<n
theorem Bit.left {r:List Nat} {a b:Nat} (h:Bit r a b):a<r.length:=by
 by_cases hl:a<r.length
 ·exact hl
 ·unfold Bit at h
  rw[getD_out _ _ (by omega)] at h
  simp at h
theorem one_bit (b c:Nat) (h:b<64):(one (b:Int)).testBit c=decide (b=c):=by
 unfold one
 rw[if_neg (by omega),Int.toNat_natCast,Nat.testBit_two_pow]
theorem hasS_bit (s b:Nat) (h:b<64):hasS s (b:Int)=s.testBit b:=by
 unfold hasS one
 rw[if_neg (by omega),Int.toNat_natCast]
 cases hb:s.testBit b
 ·have:s &&& 2 ^ b=0:=by
   refine Nat.eq_of_testBit_eq (fun i=>?_)
   rw[Nat.testBit_and,Nat.testBit_two_pow,Nat.zero_testBit]
   by_cases h:b=i
   ·rw[← h,hb];rfl
   ·simp[h]
  rw[this];rfl
 ·have:s &&& 2 ^ b≠0:=by
   intro e
   have h2:=congrArg (fun x=>x.testBit b) e
   simp[Nat.testBit_and,Nat.testBit_two_pow,hb] at h2
  simp[this]
theorem hasR_bit (r:List Nat) (a b:Nat) (h:b<64):hasR r (a:Int) (b:Int)=true ↔ Bit r a b:=by
 unfold hasR Bit
 rw[ofR_nat,hasS_bit _ _ h]
theorem map_get (f:Nat→Nat) (n a:Nat):((List.range n).map f).getD a 0=if a<n then f a else 0:=by
 by_cases h:a<n
 ·rw[getD_in _ _ (by simpa using h),if_pos h];simp
 ·rw[getD_out _ _ (by simpa using h),if_neg h]
theorem new_bit (n a b:Nat):¬ Bit (newR n) a b:=by
 intro h
 unfold Bit newR at h
 have:(List.replicate n 0).getD a 0=0:=by
  by_cases ha:a<n
  ·rw[getD_in _ _ (by simpa using ha)];simp
  ·rw[getD_out _ _ (by simpa using ha)]
 rw[this] at h;simp at h
section
variable {n:Nat} {r o:List Nat}
theorem or_bit (hr:r.length=n) (ho:o.length=n) (a b:Nat):Bit (orR r o) a b ↔ Bit r a b∨Bit o a b:=by
 unfold Bit orR
 rw[map_get]
 by_cases h:a<r.length
 ·rw[if_pos h,Nat.testBit_or,ofR_nat,ofR_nat,Bool.or_eq_true]
 ·rw[if_neg h,getD_out r _ (by omega),getD_out o _ (by omega)];simp
theorem and_bit (hr:r.length=n) (a b:Nat):Bit (andR r o) a b ↔ Bit r a b∧Bit o a b:=by
 unfold Bit andR
 rw[map_get]
 by_cases h:a<r.length
 ·rw[if_pos h,Nat.testBit_and,ofR_nat,ofR_nat,Bool.and_eq_true]
 ·rw[if_neg h,getD_out r _ (by omega)];simp
theorem zCu (hr:Rel n r) (ho:Rel n o):Rel n (orR r o) :=
 ⟨by rw[or_len];exact hr.len,fun a b h=>by rcases (or_bit hr.len ho.len a b).1 h with h | h;exact hr.lt _ _ h;exact ho.lt _ _ h⟩
theorem zDt (hr:Rel n r):Rel n (andR r o) :=
 ⟨by rw[and_len];exact hr.len,fun a b h=>hr.lt _ _ ((and_bit hr.len a b).1 h).1⟩
theorem thenB_bit (hn:n≤64) (a x:Nat):∀ (l:List Nat) (acc:Nat),(∀ c∈l,c<n)→((l.foldl (thenB r o a) acc).testBit x=true ↔ acc.testBit x=true∨∃ c∈l,Bit r a c∧Bit o c x)
 | [],acc,_=>by simp
 | c::l,acc,h=>by
  rw[List.foldl_cons,thenB_bit hn a x l _ (fun y hy=>h y (List.mem_cons_of_mem _ hy))]
  have hc:c<n:=h c (by simp)
  unfold thenB
  by_cases hb:Bit r a c
  ·rw[if_pos ((hasR_bit r a c (by omega)).2 hb),Nat.testBit_or,ofR_nat,Bool.or_eq_true]
   constructor
   ·rintro ((h1 | h1) | ⟨y,hy,h1⟩)
    ·exact Or.inl h1
    ·exact Or.inr ⟨c,by simp,hb,h1⟩
    ·exact Or.inr ⟨y,List.mem_cons_of_mem _ hy,h1⟩
   ·rintro (h1 | ⟨y,hy,h1⟩)
    ·exact Or.inl (Or.inl h1)
    ·rcases List.mem_cons.1 hy with rfl | hy
     ·exact Or.inl (Or.inr h1.2)
     ·exact Or.inr ⟨y,hy,h1⟩
  ·rw[if_neg (fun h2=>hb ((hasR_bit r a c (by omega)).1 h2))]
   constructor
   ·rintro (h1 | ⟨y,hy,h1⟩)
    ·exact Or.inl h1
    ·exact Or.inr ⟨y,List.mem_cons_of_mem _ hy,h1⟩
   ·rintro (h1 | ⟨y,hy,h1⟩)
    ·exact Or.inl h1
    ·rcases List.mem_cons.1 hy with rfl | hy
     ·exact absurd h1.1 hb
     ·exact Or.inr ⟨y,hy,h1⟩
theorem then_bit (hn:n≤64) (hr:Rel n r) (a b:Nat):Bit (thenR r o) a b ↔ ∃ c,Bit r a c∧Bit o c b:=by
 have e:Bit (thenR r o) a b ↔ (a<r.length∧(thenA r o a).testBit b=true):=by
  unfold thenR
  rw[Bit,map_get]
  by_cases h:a<r.length
  ·simp[h]
  ·simp[h]
 rw[e]
 unfold thenA
 rw[thenB_bit (n:=n) hn a b _ _ (fun c hc=>by rw[hr.len] at hc;exact List.mem_range.1 hc)]
 simp only[Nat.zero_testBit,Bool.false_eq_true,false_or,List.mem_range]
 constructor
 ·rintro ⟨_,c,_,h⟩;exact⟨c,h⟩
 ·rintro ⟨c,h⟩;exact⟨h.1.left,c,by rw[hr.len];exact hr.lt _ _ h.1,h⟩
theorem zBo (hn:n≤64) (hr:Rel n r) (ho:Rel n o):Rel n (thenR r o) :=
 ⟨by rw[then_len];exact hr.len,fun a b h=>by obtain⟨c,_,h⟩:=(then_bit hn hr a b).1 h;exact ho.lt _ _ h⟩
theorem setB_get (l:List Nat) (i x a:Nat) (h:i<l.length):(l.set i x).getD a 0=if a=i then x else l.getD a 0:=by
 by_cases ha:a=i
 ·rw[ha,if_pos rfl,getD_in _ _ (by simpa using h)];simp
 ·rw[if_neg ha];simp[List.getD,List.getElem?_set,Ne.symm ha]
theorem add_bit (hn:n≤64) (hr:r.length=n) (i k:Nat) (hi:i<n) (hk:k<n) (a b:Nat):Bit (addR r i k) a b ↔ Bit r a b∨(a=i∧b=k):=by
 unfold addR
 rw[if_neg (by omega),Int.toNat_natCast,Bit,setB_get _ _ _ _ (by omega)]
 by_cases h:a=i
 ·rw[if_pos h,Nat.testBit_or,ofR_nat,one_bit _ _ (by omega),Bool.or_eq_true,decide_eq_true_eq,h]
  constructor
  ·rintro (h1 | h1)
   ·exact Or.inl h1
   ·exact Or.inr ⟨rfl,h1.symm⟩
  ·rintro (h1 | h1)
   ·exact Or.inl h1
   ·exact Or.inr h1.2.symm
 ·rw[if_neg h];simp[h,Bit]
theorem fold_bit {β:Type} (F:List Nat→β→List Nat) (G:β→Nat→Nat→Prop) (l:List β) (hF:∀ r x,x∈l→r.length=n→(F r x).length=n∧∀ a b,Bit (F r x) a b ↔ Bit r a b∨G x a b) :
  ∀ r,r.length=n→(l.foldl F r).length=n∧∀ a b,Bit (l.foldl F r) a b ↔ Bit r a b∨∃ x∈l,G x a b:=by
 induction l with
 | nil=>intro r h;exact⟨h,by simp⟩
 | cons x l ih =>
  intro r h
  have h1:=hF r x (by simp) h
  have h2:=ih (fun r y hy hr=>hF r y (List.mem_cons_of_mem _ hy) hr) (F r x) h1.1
  refine⟨h2.1,fun a b=>?_⟩
  rw[List.foldl_cons,h2.2,h1.2]
  constructor
  ·rintro ((h3 | h3) | ⟨y,hy,h3⟩)
   ·exact Or.inl h3
   ·exact Or.inr ⟨x,by simp,h3⟩
   ·exact Or.inr ⟨y,List.mem_cons_of_mem _ hy,h3⟩
  ·rintro (h3 | ⟨y,hy,h3⟩)
   ·exact Or.inl (Or.inl h3)
   ·rcases List.mem_cons.1 hy with rfl | hy
    ·exact Or.inl (Or.inr h3)
    ·exact Or.inr ⟨y,hy,h3⟩
theorem ite_add (hn:n≤64) (c:Bool) (i k:Nat) (hi:i<n) (hk:k<n) (hr:r.length=n):(if c=true then addR r i k else r).length=n∧∀ a b,Bit (if c=true then addR r i k else r) a b ↔ Bit r a b∨(c=true∧a=i∧b=k):=by
 cases c
 ·exact⟨by simpa using hr,fun a b=>by simp⟩
 ·exact⟨by simpa [zIH] using hr,fun a b=>by simpa using add_bit hn hr i k hi hk a b⟩
theorem build_bit (hn:n≤64) (c:Nat→Nat→Bool) (F:List Nat→Nat→List Nat) (hF:∀ r i,F r i=(List.range n).foldl (fun r k=>if c i k=true then addR r (i:Int) (k:Int) else r) r) :
  Rel n ((List.range n).foldl F (newR n))∧∀ a b,Bit ((List.range n).foldl F (newR n)) a b ↔ a<n∧b<n∧c a b=true:=by
 have h:=fold_bit (n:=n) F (fun i a b=>a=i∧b<n∧c a b=true) (List.range n) (fun r i hi hr=>by
  rw[hF]
  have h:=fold_bit (n:=n) (fun r k=>if c i k=true then addR r (i:Int) (k:Int) else r) (fun k a b=>c i k=true∧a=i∧b=k) (List.range n) (fun r k hk hr=>ite_add hn _ i k (List.mem_range.1 hi) (List.mem_range.1 hk) hr) r hr
  refine⟨h.1,fun a b=>?_⟩
  rw[h.2]
  constructor
  ·rintro (h1 | ⟨k,hk,h1,rfl,rfl⟩)
   ·exact Or.inl h1
   ·exact Or.inr ⟨rfl,List.mem_range.1 hk,h1⟩
  ·rintro (h1 | ⟨rfl,h1,h2⟩)
   ·exact Or.inl h1
   ·exact Or.inr ⟨b,List.mem_range.2 h1,h2,rfl,rfl⟩) (newR n) (by simp[newR])
 have h2:∀ a b,Bit ((List.range n).foldl F (newR n)) a b ↔ a<n∧b<n∧c a b=true:=fun a b=>by
  rw[h.2]
  constructor
  ·rintro (h1 | ⟨k,hk,rfl,h1⟩)
   ·exact absurd h1 (new_bit _ _ _)
   ·exact⟨List.mem_range.1 hk,h1⟩
  ·rintro ⟨h1,h2⟩
   exact Or.inr ⟨a,List.mem_range.2 h1,rfl,h2⟩
 exact⟨⟨h.1,fun a b hb=>((h2 a b).1 hb).2.1⟩,h2⟩
theorem buildT_bit (hn:n≤64) (c:Nat→Nat→Bool) (F:List Nat→Nat→List Nat) (hF:∀ r i,F r i=(List.range n).foldl (fun r k=>if c i k=true then addR r (k:Int) (i:Int) else r) r) :
  Rel n ((List.range n).foldl F (newR n))∧∀ a b,Bit ((List.range n).foldl F (newR n)) a b ↔ a<n∧b<n∧c b a=true:=by
 have h:=fold_bit (n:=n) F (fun i a b=>b=i∧a<n∧c b a=true) (List.range n) (fun r i hi hr=>by
  rw[hF]
  have h:=fold_bit (n:=n) (fun r k=>if c i k=true then addR r (k:Int) (i:Int) else r) (fun k a b=>c i k=true∧a=k∧b=i) (List.range n) (fun r k hk hr=>ite_add hn _ k i (List.mem_range.1 hk) (List.mem_range.1 hi) hr) r hr
  refine⟨h.1,fun a b=>?_⟩
  rw[h.2]
  constructor
  ·rintro (h1 | ⟨k,hk,h1,rfl,rfl⟩)
   ·exact Or.inl h1
   ·exact Or.inr ⟨rfl,List.mem_range.1 hk,h1⟩
  ·rintro (h1 | ⟨rfl,h1,h2⟩)
   ·exact Or.inl h1
   ·exact Or.inr ⟨a,List.mem_range.2 h1,h2,rfl,rfl⟩) (newR n) (by simp[newR])
 have h2:∀ a b,Bit ((List.range n).foldl F (newR n)) a b ↔ a<n∧b<n∧c b a=true:=fun a b=>by
  rw[h.2]
  constructor
  ·rintro (h1 | ⟨k,hk,rfl,h1⟩)
   ·exact absurd h1 (new_bit _ _ _)
   ·exact⟨h1.1,List.mem_range.1 hk,h1.2⟩
  ·rintro ⟨h1,h3,h2⟩
   exact Or.inr ⟨b,List.mem_range.2 h3,rfl,h1,h2⟩
 exact⟨⟨h.1,fun a b hb=>((h2 a b).1 hb).2.1⟩,h2⟩
theorem turned_rb (hn:n≤64) (hr:Rel n r):Rel n (zJA r)∧∀ a b,Bit (zJA r) a b ↔ Bit r b a:=by
 have h:=buildT_bit hn (fun a b=>hasR r (a:Int) (b:Int)) (turnA r) (fun t a=>by
  unfold turnA turnB;rw[hr.len])
 unfold zJA
 rw[hr.len]
 refine⟨h.1,fun a b=>?_⟩
 rw[h.2]
 constructor
 ·rintro ⟨h1,h2,h3⟩;exact (hasR_bit r b a (by omega)).1 h3
 ·intro h1
  have h2:=h1.left
  have h3:=hr.lt _ _ h1
  exact⟨h3,by rw[← hr.len];exact h2,(hasR_bit r b a (by omega)).2 h1⟩
def TC (R:Nat→Nat→Prop) (a b:Nat):Prop:=∀ S:Nat→Nat→Prop,(∀ x y,R x y→S x y)→(∀ x y z,S x y→S y z→S x z)→S a b
theorem TC.base {R:Nat→Nat→Prop} {a b:Nat} (h:R a b):TC R a b:=fun _ hS _=>hS _ _ h
theorem TC.trans {R:Nat→Nat→Prop} {a b c:Nat} (h:TC R a b) (k:TC R b c):TC R a c:=fun S hS hT=>hT _ _ _ (h S hS hT) (k S hS hT)
theorem TC.map {R S:Nat→Nat→Prop} (f:Nat→Nat) (h:∀ x y,R x y→S (f x) (f y)) {a b:Nat} (k:TC R a b):TC S (f a) (f b) :=
 k (fun x y=>TC S (f x) (f y)) (fun x y hx=>TC.base (h x y hx)) (fun _ _ _=>TC.trans)
theorem TC.mono {R S:Nat→Nat→Prop} (h:∀ x y,R x y→S x y) {a b:Nat} (k:TC R a b):TC S a b:=TC.map (fun x=>x) h k
theorem closeB_fold (hn:n≤64) (b:Nat) (hb:b<n) (hr:Rel n r):∀ m,m≤n→Rel n ((List.range m).foldl (zJB b) r)∧∀ x y,Bit ((List.range m).foldl (zJB b) r) x y ↔ Bit r x y∨(x<m∧Bit r x b∧Bit r b y)
 | 0,_=>⟨hr,fun x y=>by simp⟩
 | m+1,hm=>by
  rw[zIj]
  obtain⟨i1,i2⟩:=closeB_fold hn b hb hr m (by omega)
  generalize (List.range m).foldl (zJB b) r=c at i1 i2
  have key:∀ x y,Bit (zJB b c m) x y ↔ Bit r x y∨(x<m+1∧Bit r x b∧Bit r b y):=by
   intro x y
   have e1:∀ z,Bit c z b ↔ Bit r z b:=fun z=>by
    rw[i2]
    constructor
    ·rintro (h | h)
     ·exact h
     ·exact h.2.1
    ·exact Or.inl
   have e2:∀ z,Bit c b z ↔ Bit r b z:=fun z=>by
    rw[i2]
    constructor
    ·rintro (h | h)
     ·exact h
     ·exact h.2.2
    ·exact Or.inl
   unfold zJB
   by_cases h:Bit c m b
   ·rw[if_pos ((hasR_bit c m b (by omega)).2 h),Bit,setB_get _ _ _ _ (by rw[i1.len];omega)]
    by_cases hx:x=m
    ·rw[if_pos hx,Nat.testBit_or,ofR_nat,ofR_nat,Bool.or_eq_true]
     have f1:(c.getD m 0).testBit y=true ↔ Bit c m y:=Iff.rfl
     have f2:(c.getD b 0).testBit y=true ↔ Bit c b y:=Iff.rfl
     rw[f1,f2,i2,e2,hx]
     constructor
     ·rintro ((h1 | h1) | h1)
      ·exact Or.inl h1
      ·exact Or.inr ⟨by omega,h1.2⟩
      ·exact Or.inr ⟨by omega,(e1 m).1 h,h1⟩
     ·rintro (h1 | h1)
      ·exact Or.inl (Or.inl h1)
      ·exact Or.inr h1.2.2
    ·rw[if_neg hx]
     have f1:(c.getD x 0).testBit y=true ↔ Bit c x y:=Iff.rfl
     rw[f1,i2]
     constructor
     ·rintro (h1 | h1)
      ·exact Or.inl h1
      ·exact Or.inr ⟨by omega,h1.2⟩
     ·rintro (h1 | h1)
      ·exact Or.inl h1
      ·exact Or.inr ⟨by omega,h1.2⟩
   ·rw[if_neg (fun h1=>h ((hasR_bit c m b (by omega)).1 h1)),i2]
    constructor
    ·rintro (h1 | h1)
     ·exact Or.inl h1
     ·exact Or.inr ⟨by omega,h1.2⟩
    ·rintro (h1 | h1)
     ·exact Or.inl h1
     ·by_cases hx:x=m
      ·exact absurd ((e1 m).2 (hx ▸ h1.2.1)) h
      ·exact Or.inr ⟨by omega,h1.2⟩
  refine⟨⟨by rw[closeB_len];exact i1.len,fun x y h=>?_⟩,key⟩
  rcases (key x y).1 h with h | h
  ·exact hr.lt _ _ h
  ·exact hr.lt _ _ h.2.2
theorem closed_fold (hn:n≤64) (hr:Rel n r):∀ m,m≤n→Rel n ((List.range m).foldl (zKr n) r)∧(∀ x y,Bit r x y→Bit ((List.range m).foldl (zKr n) r) x y)∧(∀ x y,Bit ((List.range m).foldl (zKr n) r) x y→TC (Bit r) x y)∧∀ k x y,k<m→Bit ((List.range m).foldl (zKr n) r) x k→Bit ((List.range m).foldl (zKr n) r) k y→Bit ((List.range m).foldl (zKr n) r) x y
 | 0,_=>⟨hr,fun _ _ h=>h,fun _ _ h=>TC.base h,fun k x y h=>absurd h (by omega)⟩
 | m+1,hm=>by
  rw[zIj]
  obtain⟨i1,i2,i3,i4⟩:=closed_fold hn hr m (by omega)
  generalize (List.range m).foldl (zKr n) r=c at i1 i2 i3 i4
  obtain⟨j1,j2⟩:=closeB_fold hn m (by omega) i1 n (Nat.le_refl _)
  have j3:∀ x y,Bit (zKr n c m) x y ↔ Bit c x y∨(Bit c x m∧Bit c m y):=fun x y=>by
   unfold zKr
   rw[j2]
   constructor
   ·rintro (h | h)
    ·exact Or.inl h
    ·exact Or.inr h.2
   ·rintro (h | h)
    ·exact Or.inl h
    ·exact Or.inr ⟨by rw[← i1.len];exact h.1.left,h⟩
  refine⟨j1,fun x y h=>(j3 x y).2 (Or.inl (i2 _ _ h)),fun x y h=>?_,fun k x y hk=>?_⟩
  ·rcases (j3 x y).1 h with h | h
   ·exact i3 _ _ h
   ·exact (i3 _ _ h.1).trans (i3 _ _ h.2)
  ·rw[j3,j3,j3]
   by_cases e:k=m
   ·rw[e]
    rintro (h | h) (h' | h')
    ·exact Or.inr ⟨h,h'⟩
    ·exact Or.inr ⟨h,h'.2⟩
    ·exact Or.inr ⟨h.1,h'⟩
    ·exact Or.inr ⟨h.1,h'.2⟩
   ·have T:=fun x y=>i4 k x y (by omega)
    rintro (h | h) (h' | h')
    ·exact Or.inl (T _ _ h h')
    ·exact Or.inr ⟨T _ _ h h'.1,h'.2⟩
    ·exact Or.inr ⟨h.1,T _ _ h.2 h'⟩
    ·exact Or.inr ⟨h.1,h'.2⟩
theorem closed_rb (hn:n≤64) (hr:Rel n r):Rel n (zJg r)∧∀ a b,Bit (zJg r) a b ↔ TC (Bit r) a b:=by
 have ho:=zCu hr hr
 obtain⟨h1,h2,h3,h4⟩:=closed_fold hn ho n (Nat.le_refl _)
 have e:∀ x y,Bit (orR r r) x y ↔ Bit r x y:=fun x y=>by rw[or_bit hr.len hr.len];simp
 unfold zJg
 rw[hr.len]
 refine⟨h1,fun a b=>⟨fun h=>(h3 _ _ h).mono (fun x y hx=>(e x y).1 hx),fun h=>?_⟩⟩
 refine h _ (fun x y hx=>h2 _ _ ((e x y).2 hx)) (fun x y z hx hy=>h4 y x z (h1.lt _ _ hx) hx hy)
theorem loops_bit (hn:n≤64) (hr:Rel n r):zIG r=true ↔ ∃ i,Bit r i i:=by
 unfold zIG
 rw[List.any_eq_true]
 constructor
 ·rintro ⟨i,hi,h⟩
  exact⟨i,(hasR_bit r i i (by have:=List.mem_range.1 hi;rw[hr.len] at this;omega)).1 h⟩
 ·rintro ⟨i,h⟩
  exact⟨i,List.mem_range.2 h.left,(hasR_bit r i i (by have:=hr.lt _ _ h;omega)).2 h⟩
end
end Q
namespace Q
theorem fold_proj {α β γ:Type} (g:α→β) (F:α→γ→α) (G:β→γ→β) (h:∀ a x,g (F a x)=G (g a) x):∀ (l:List γ) (a:α),g (l.foldl F a)=l.foldl G (g a)
 | [],a=>rfl
 | x::l,a=>by rw[List.foldl_cons,List.foldl_cons,fold_proj g F G h l,h]
theorem facts_field {es:List Ev} (hn:es.length≤64) (g:Facts→List Nat) (c:Nat→Nat→Bool) (h:∀ f i k,g (f.pair i (ev es i) k (ev es k))=if c i k=true then addR (g f) (i:Int) (k:Int) else g f) (h0:g (Facts.new es)=newR es.length) :
  Rel es.length (g (zIu es))∧∀ a b,Bit (g (zIu es)) a b ↔ a<es.length∧b<es.length∧c a b=true:=by
 unfold zIu
 rw[fold_proj g (zJb es) (fun r i=>(List.range es.length).foldl (fun r k=>if c i k=true then addR r (i:Int) (k:Int) else r) r) (fun f i=>fold_proj g _ _ (fun f k=>h f i k) _ _),h0]
 exact build_bit hn c _ (fun r i=>rfl)
theorem fold_same {α β γ:Type} (g:α→β) (F:α→γ→α) (h:∀ a x,g (F a x)=g a):∀ (l:List γ) (a:α),g (l.foldl F a)=g a
 | [],a=>rfl
 | x::l,a=>by rw[List.foldl_cons,fold_same g F h l,h]
theorem factsOf_ev (es:List Ev):(zIu es).events=es:=by
 unfold zIu
 exact fold_same (fun f:Facts=>f.events) (zJb es) (fun f i=>fold_same (fun f:Facts=>f.events) (fun (f:Facts) (k:Nat)=>f.pair i (ev es i) k (ev es k)) (fun f k=>rfl) (List.range es.length) f) _ _
theorem f_ahead {es:List Ev} (hn:es.length≤64):Rel es.length (zIu es).ahead∧∀ i k:Nat,Bit (zIu es).ahead i k ↔ i<es.length∧k<es.length∧zIl i (ev es i) k (ev es k)=true :=
 facts_field hn Facts.ahead (fun i k=>zIl i (ev es i) k (ev es k)) (fun _ _ _=>rfl) rfl
theorem f_strong {es:List Ev} (hn:es.length≤64):Rel es.length (zIu es).strong∧∀ i k:Nat,Bit (zIu es).strong i k ↔ i<es.length∧k<es.length∧zIo i (ev es i) k (ev es k)=true :=
 facts_field hn Facts.strong (fun i k=>zIo i (ev es i) k (ev es k)) (fun _ _ _=>rfl) rfl
theorem f_gathers {es:List Ev} (hn:es.length≤64):Rel es.length (zIu es).gathers∧∀ i k:Nat,Bit (zIu es).gathers i k ↔ i<es.length∧k<es.length∧zIw (ev es i) (ev es k)=true :=
 facts_field hn Facts.gathers (fun i k=>zIw (ev es i) (ev es k)) (fun _ _ _=>rfl) rfl
theorem f_fences {es:List Ev} (hn:es.length≤64):Rel es.length (zIu es).fences∧∀ i k:Nat,Bit (zIu es).fences i k ↔ i<es.length∧k<es.length∧zIn i (ev es i) k (ev es k)=true :=
 facts_field hn Facts.fences (fun i k=>zIn i (ev es i) k (ev es k)) (fun _ _ _=>rfl) rfl
theorem f_hangs {es:List Ev} (hn:es.length≤64):Rel es.length (zIu es).hangs∧∀ i k:Nat,Bit (zIu es).hangs i k ↔ i<es.length∧k<es.length∧hasS (ev es i).hangs (k:Int)=true :=
 facts_field hn Facts.hangs (fun i k=>hasS (ev es i).hangs (k:Int)) (fun _ _ _=>rfl) rfl
theorem f_halves {es:List Ev} (hn:es.length≤64):Rel es.length (zIu es).halves∧∀ i k:Nat,Bit (zIu es).halves i k ↔ i<es.length∧k<es.length∧zIS i (ev es i) k=true :=
 facts_field hn Facts.halves (fun i k=>zIS i (ev es i) k) (fun _ _ _=>rfl) rfl
theorem f_sends {es:List Ev} (hn:es.length≤64):Rel es.length (zIu es).sends∧∀ i k:Nat,Bit (zIu es).sends i k ↔ i<es.length∧k<es.length∧zJu i (ev es i) k (ev es k)=true :=
 facts_field hn Facts.sends (fun i k=>zJu i (ev es i) k (ev es k)) (fun _ _ _=>rfl) rfl
theorem f_takes {es:List Ev} (hn:es.length≤64):Rel es.length (zIu es).takes∧∀ i k:Nat,Bit (zIu es).takes i k ↔ i<es.length∧k<es.length∧zKk i (ev es i) k (ev es k)=true :=
 facts_field hn Facts.takes (fun i k=>zKk i (ev es i) k (ev es k)) (fun _ _ _=>rfl) rfl
theorem behind_rb {es:List Ev} (hn:es.length≤64) (ps:List Int):Rel es.length (zIx es ps)∧∀ a b,Bit (zIx es ps) a b ↔ a<es.length∧b<es.length∧zKx es ps a b=true :=
 build_bit hn (zKx es ps) _ (fun r i=>rfl)
theorem heard_rb {es:List Ev} (hn:es.length≤64) {sees:List Nat} (hs:Rel es.length sees):Rel es.length (heard es sees)∧∀ a b,Bit (heard es sees) a b ↔ Bit sees b a∧((ev es b).order≠0∧(ev es a).order≠0):=by
 have h:=buildT_bit hn (fun r w=>hasR sees (r:Int) (w:Int)&&(ev es r).order != 0&&(ev es w).order != 0) (zKa es sees) (fun r i=>rfl)
 refine⟨h.1,fun a b=>?_⟩
 have h2:=h.2 a b
 rw[show (heard es sees)=(List.range es.length).foldl (zKa es sees) (newR es.length) from rfl,h2]
 simp only[Bool.and_eq_true,bne_iff_ne,ne_eq]
 constructor
 ·rintro ⟨h1,h2,⟨h3,h4⟩,h5⟩;exact⟨(hasR_bit _ _ _ (by omega)).1 h3,h4,h5⟩
 ·rintro ⟨h1,h2,h3⟩
  have h4:=hs.lt _ _ h1
  have h5:=h1.left
  exact⟨h4,by rw[← hs.len];exact h5,⟨(hasR_bit _ _ _ (by omega)).2 h1,h2⟩,h3⟩
theorem reads_rb {es:List Ev} (hn:es.length≤64) {rs:List Int} (hr:rs.length=es.length):Rel es.length ((zIu es).reads rs)∧∀ a b,Bit ((zIu es).reads rs) a b ↔ b<es.length∧a<es.length∧rs.getD a (-1)=(b:Int):=by
 have h:=fold_bit (n:=es.length) (fun (r:List Nat) (i:Nat)=>addR r (i:Int) (rs.getD i (-1))) (fun i a b=>a=i∧b<es.length∧rs.getD a (-1)=(b:Int)) (List.range rs.length) (fun r i hi hl=>by
  have hi':i<es.length:=by rw[← hr];exact List.mem_range.1 hi
  refine⟨by rw[zIH];exact hl,fun a b=>?_⟩
  by_cases hlt:rs.getD i (-1)<es.length
  ·by_cases h0:0≤rs.getD i (-1)
   ·have e:rs.getD i (-1)=((rs.getD i (-1)).toNat:Int):=by omega
    rw[e,add_bit hn hl i _ hi' (by omega)]
    constructor
    ·rintro (h1 | ⟨h1,h2⟩)
     ·exact Or.inl h1
     ·exact Or.inr ⟨h1,by omega,by rw[h1];omega⟩
    ·rintro (h1 | ⟨h1,h2,h3⟩)
     ·exact Or.inl h1
     ·exact Or.inr ⟨h1,by rw[h1] at h3;omega⟩
   ·have e:addR r (i:Int) (rs.getD i (-1))=r:=by
     unfold addR
     rw[if_neg (by omega)]
     have:one (rs.getD i (-1))=0:=by unfold one;rw[if_pos (by omega)]
     rw[this,Nat.or_zero,Int.toNat_natCast,ofR_get _ _ (by omega)]
     exact List.set_getElem_self (by omega)
    rw[e]
    constructor
    ·exact Or.inl
    ·rintro (h1 | ⟨h1,h2,h3⟩)
     ·exact h1
     ·rw[h1] at h3;omega
  ·have e:addR r (i:Int) (rs.getD i (-1))=r:=by
    unfold addR
    rw[if_pos (by omega)]
   rw[e]
   constructor
   ·exact Or.inl
   ·rintro (h1 | ⟨h1,h2,h3⟩)
    ·exact h1
    ·rw[h1] at h3;omega) (newR es.length) (by simp[newR])
 unfold Facts.reads
 rw[factsOf_ev]
 have k:∀ a b,Bit ((List.range rs.length).foldl (fun (r:List Nat) (i:Nat)=>addR r (i:Int) (rs.getD i (-1))) (newR es.length)) a b ↔ b<es.length∧a<es.length∧rs.getD a (-1)=(b:Int):=fun a b=>by
  rw[h.2]
  constructor
  ·rintro (h1 | ⟨i,hi,rfl,h2,h3⟩)
   ·exact absurd h1 (new_bit _ _ _)
   ·exact⟨h2,by rw[← hr];exact List.mem_range.1 hi,h3⟩
  ·rintro ⟨h1,h2,h3⟩
   exact Or.inr ⟨a,List.mem_range.2 (by rw[hr];exact h2),rfl,h1,h3⟩
 exact⟨⟨h.1,fun a b hb=>((k a b).1 hb).1⟩,k⟩
structure Sys where
 ahead:Nat→Nat→Prop
 strong:Nat→Nat→Prop
 gathers:Nat→Nat→Prop
 fences:Nat→Nat→Prop
 halves:Nat→Nat→Prop
 hangs:Nat→Nat→Prop
 sends:Nat→Nat→Prop
 takes:Nat→Nat→Prop
 rd:Nat→Nat→Prop
 bh:Nat→Nat→Prop
 ord:Nat→Prop
def Th (R S:Nat→Nat→Prop) (a b:Nat):Prop:=∃ c,R a c∧S c b
namespace Sys
def straight (X:Sys) (a b:Nat):Prop:=X.rd a b∧X.strong a b
def sees (X:Sys) (a b:Nat):Prop:=X.straight a b∨Th (TC (Th X.straight X.halves)) X.straight a b
def heard (X:Sys) (a b:Nat):Prop:=X.sees b a∧(X.ord b∧X.ord a)
def tells (X:Sys) (a b:Nat):Prop:=Th (Th X.sends X.heard) X.takes a b∧X.strong a b
def before (X:Sys):Nat→Nat→Prop:=TC (fun a b=>(X.ahead a b∨X.tells a b)∨X.gathers a b)
def misses (X:Sys):Nat→Nat→Prop:=Th X.rd X.bh
def comm (X:Sys) (a b:Nat):Prop:=(X.rd b a∨X.bh a b)∨X.misses a b
def linked (X:Sys):Nat→Nat→Prop:=TC X.comm
structure May (X:Sys):Prop where
 bef:∀ i,¬ X.before i i
 split:∀ i,¬ Th (Th X.halves X.misses) X.bh i i
 link:∀ i,¬ Th X.before X.linked i i
 fence:∀ i,¬ TC (fun a b=>(X.before a b∨Th (Th X.before X.linked) X.before a b)∧X.fences a b) i i
def NoHang (X:Sys):Prop:=∀ i,¬ TC (fun a b=>X.hangs a b∨X.rd a b) i i
structure Hom (f:Nat→Nat) (X Y:Sys):Prop where
 ahead:∀ a b,X.ahead a b→Y.ahead (f a) (f b)
 strong:∀ a b,X.strong a b→Y.strong (f a) (f b)
 gathers:∀ a b,X.gathers a b→Y.gathers (f a) (f b)
 fences:∀ a b,X.fences a b→Y.fences (f a) (f b)
 halves:∀ a b,X.halves a b→Y.halves (f a) (f b)
 hangs:∀ a b,X.hangs a b→Y.hangs (f a) (f b)
 sends:∀ a b,X.sends a b→Y.sends (f a) (f b)
 takes:∀ a b,X.takes a b→Y.takes (f a) (f b)
 rd:∀ a b,X.rd a b→Y.rd (f a) (f b)
 bh:∀ a b,X.bh a b→Y.bh (f a) (f b)
 ord:∀ a,X.ord a→Y.ord (f a)
theorem th_map {f:Nat→Nat} {R S R' S':Nat→Nat→Prop} (h:∀ a b,R a b→R' (f a) (f b)) (k:∀ a b,S a b→S' (f a) (f b)):∀ a b,Th R S a b→Th R' S' (f a) (f b) :=
 fun _ _ ⟨c,h1,h2⟩=>⟨f c,h _ _ h1,k _ _ h2⟩
section
variable {f:Nat→Nat} {X Y:Sys}
theorem Hom.straight (h:Hom f X Y):∀ a b,X.straight a b→Y.straight (f a) (f b):=fun a b k=>⟨h.rd _ _ k.1,h.strong _ _ k.2⟩
theorem Hom.sees (h:Hom f X Y):∀ a b,X.sees a b→Y.sees (f a) (f b):=fun a b k =>
 k.elim (fun k=>Or.inl (h.straight _ _ k)) (fun k=>Or.inr (th_map (fun x y k=>TC.map f (th_map h.straight h.halves) k) h.straight _ _ k))
theorem Hom.heard (h:Hom f X Y):∀ a b,X.heard a b→Y.heard (f a) (f b):=fun a b k=>⟨h.sees _ _ k.1,h.ord _ k.2.1,h.ord _ k.2.2⟩
theorem Hom.tells (h:Hom f X Y):∀ a b,X.tells a b→Y.tells (f a) (f b):=fun a b k=>⟨th_map (th_map h.sends h.heard) h.takes _ _ k.1,h.strong _ _ k.2⟩
theorem Hom.before (h:Hom f X Y):∀ a b,X.before a b→Y.before (f a) (f b):=fun a b k=>TC.map f (fun x y k=>by
 rcases k with (k | k) | k
 ·exact Or.inl (Or.inl (h.ahead _ _ k))
 ·exact Or.inl (Or.inr (h.tells _ _ k))
 ·exact Or.inr (h.gathers _ _ k)) k
theorem Hom.misses (h:Hom f X Y):∀ a b,X.misses a b→Y.misses (f a) (f b):=th_map h.rd h.bh
theorem Hom.linked (h:Hom f X Y):∀ a b,X.linked a b→Y.linked (f a) (f b):=fun a b k=>TC.map f (fun x y k=>by
 rcases k with (k | k) | k
 ·exact Or.inl (Or.inl (h.rd _ _ k))
 ·exact Or.inl (Or.inr (h.bh _ _ k))
 ·exact Or.inr (h.misses _ _ k)) k
theorem Hom.may (h:Hom f X Y) (m:Y.May):X.May where
 bef i k:=m.bef _ (h.before _ _ k)
 split i k:=m.split _ (th_map (th_map h.halves h.misses) h.bh _ _ k)
 link i k:=m.link _ (th_map h.before h.linked _ _ k)
 fence i k:=m.fence _ (TC.map f (fun a b k=>⟨k.1.elim (fun k=>Or.inl (h.before _ _ k)) (fun k=>Or.inr (th_map (th_map h.before h.linked) h.before _ _ k)),h.fences _ _ k.2⟩) k)
theorem Hom.noHang (h:Hom f X Y) (m:Y.NoHang):X.NoHang:=fun i k=>m _ (TC.map f (fun a b k=>k.elim (fun k=>Or.inl (h.hangs _ _ k)) (fun k=>Or.inr (h.rd _ _ k))) k)
end
end Sys
end Q
namespace Q
def sysOf (es:List Ev) (rs ps:List Int):Sys where
 ahead i k:=i<es.length∧k<es.length∧zIl i (ev es i) k (ev es k)=true
 strong i k:=i<es.length∧k<es.length∧zIo i (ev es i) k (ev es k)=true
 gathers i k:=i<es.length∧k<es.length∧zIw (ev es i) (ev es k)=true
 fences i k:=i<es.length∧k<es.length∧zIn i (ev es i) k (ev es k)=true
 halves i k:=i<es.length∧k<es.length∧zIS i (ev es i) k=true
 hangs i k:=i<es.length∧k<es.length∧hasS (ev es i).hangs (k:Int)=true
 sends i k:=i<es.length∧k<es.length∧zJu i (ev es i) k (ev es k)=true
 takes i k:=i<es.length∧k<es.length∧zKk i (ev es i) k (ev es k)=true
 rd i k:=k<es.length∧i<es.length∧rs.getD i (-1)=(k:Int)
 bh i k:=i<es.length∧k<es.length∧zKx es ps i k=true
 ord i:=(ev es i).order≠0
structure Says (n:Nat) (r:List Nat) (R:Nat→Nat→Prop):Prop where
 rel:Rel n r
 bit:∀ a b,Bit r a b ↔ R a b
section
variable {n:Nat} {r o:List Nat} {R O:Nat→Nat→Prop}
theorem Says.or (hr:Says n r R) (ho:Says n o O):Says n (orR r o) (fun a b=>R a b∨O a b) :=
 ⟨zCu hr.rel ho.rel,fun a b=>by rw[or_bit hr.rel.len ho.rel.len,hr.bit,ho.bit]⟩
theorem Says.and (hr:Says n r R) (ho:Says n o O):Says n (andR r o) (fun a b=>R a b∧O a b) :=
 ⟨zDt hr.rel,fun a b=>by rw[and_bit hr.rel.len,hr.bit,ho.bit]⟩
theorem Says.thn (hn:n≤64) (hr:Says n r R) (ho:Says n o O):Says n (thenR r o) (Th R O) :=
 ⟨zBo hn hr.rel ho.rel,fun a b=>by
  rw[then_bit hn hr.rel]
  constructor
  ·rintro ⟨c,h1,h2⟩;exact⟨c,(hr.bit _ _).1 h1,(ho.bit _ _).1 h2⟩
  ·rintro ⟨c,h1,h2⟩;exact⟨c,(hr.bit _ _).2 h1,(ho.bit _ _).2 h2⟩⟩
theorem Says.cl (hn:n≤64) (hr:Says n r R):Says n (zJg r) (TC R) :=
 ⟨(closed_rb hn hr.rel).1,fun a b=>by
  rw[(closed_rb hn hr.rel).2]
  exact⟨TC.mono fun x y h=>(hr.bit _ _).1 h,TC.mono fun x y h=>(hr.bit _ _).2 h⟩⟩
theorem Says.turned (hn:n≤64) (hr:Says n r R):Says n (zJA r) (fun a b=>R b a) :=
 ⟨(turned_rb hn hr.rel).1,fun a b=>by rw[(turned_rb hn hr.rel).2,hr.bit]⟩
theorem Says.to (hr:Says n r R) {S:Nat→Nat→Prop} (h:∀ a b,R a b ↔ S a b):Says n r S:=⟨hr.rel,fun a b=>by rw[hr.bit,h]⟩
theorem Says.loops (hn:n≤64) (hr:Says n r R):zIG r=true ↔ ∃ i,R i i:=by
 rw[loops_bit hn hr.rel]
 exact⟨fun ⟨i,h⟩=>⟨i,(hr.bit _ _).1 h⟩,fun ⟨i,h⟩=>⟨i,(hr.bit _ _).2 h⟩⟩
theorem Says.circles (hn:n≤64) (hr:Says n r R):zJO r=true ↔ ∃ i,TC R i i:=Says.loops hn (hr.cl hn)
end
section
variable {es:List Ev} {rs:List Int}
theorem says_reads (hn:es.length≤64) (hr:rs.length=es.length) (ps:List Int):Says es.length ((zIu es).reads rs) (sysOf es rs ps).rd:=⟨(reads_rb hn hr).1,(reads_rb hn hr).2⟩
theorem says_straight (hn:es.length≤64) (hr:rs.length=es.length) (ps:List Int):Says es.length ((zIu es).straight ((zIu es).reads rs)) (sysOf es rs ps).straight :=
 (says_reads hn hr ps).and (O:=(sysOf es rs ps).strong) ⟨(f_strong hn).1,(f_strong hn).2⟩
theorem says_halves (hn:es.length≤64) (ps:List Int):Says es.length (zIu es).halves (sysOf es rs ps).halves:=⟨(f_halves hn).1,(f_halves hn).2⟩
theorem says_sees (hn:es.length≤64) (hr:rs.length=es.length) (ps:List Int):Says es.length ((zIu es).sees ((zIu es).reads rs)) (sysOf es rs ps).sees :=
 (says_straight hn hr ps).or ((((says_straight hn hr ps).thn hn (says_halves hn ps)).cl hn).thn hn (says_straight hn hr ps))
theorem says_heard (hn:es.length≤64) (hr:rs.length=es.length) (ps:List Int):Says es.length (heard es ((zIu es).sees ((zIu es).reads rs))) (sysOf es rs ps).heard:=by
 have h:=heard_rb hn (says_sees hn hr ps).rel
 refine⟨h.1,fun a b=>?_⟩
 rw[h.2,(says_sees hn hr ps).bit]
 exact Iff.rfl
theorem says_tells (hn:es.length≤64) (hr:rs.length=es.length) (ps:List Int):Says es.length ((zIu es).tells ((zIu es).sees ((zIu es).reads rs))) (sysOf es rs ps).tells:=by
 unfold Facts.tells
 rw[factsOf_ev]
 exact ((Says.thn hn (R:=(sysOf es rs ps).sends) ⟨(f_sends hn).1,(f_sends hn).2⟩ (says_heard hn hr ps)).thn hn (O:=(sysOf es rs ps).takes) ⟨(f_takes hn).1,(f_takes hn).2⟩).and (O:=(sysOf es rs ps).strong) ⟨(f_strong hn).1,(f_strong hn).2⟩
theorem says_before (hn:es.length≤64) (hr:rs.length=es.length) (ps:List Int):Says es.length ((zIu es).before ((zIu es).reads rs)) (sysOf es rs ps).before :=
 Says.cl hn ((Says.or (R:=(sysOf es rs ps).ahead) ⟨(f_ahead hn).1,(f_ahead hn).2⟩ (says_tells hn hr ps)).or (O:=(sysOf es rs ps).gathers) ⟨(f_gathers hn).1,(f_gathers hn).2⟩)
theorem says_behind (hn:es.length≤64) (ps:List Int):Says es.length (zIx es ps) (sysOf es rs ps).bh:=⟨(behind_rb hn ps).1,(behind_rb hn ps).2⟩
theorem says_linked (hn:es.length≤64) (hr:rs.length=es.length) (ps:List Int):Says es.length (linked ((zIu es).reads rs) (zIx es ps)) (sysOf es rs ps).linked :=
 Says.cl hn ((((says_reads hn hr ps).turned hn).or (says_behind hn ps)).or ((says_reads hn hr ps).thn hn (says_behind hn ps)))
theorem bool_not {b:Bool} {p:Prop} (h:b=true ↔ p):b=false ↔ ¬ p:=by
 cases b
 ·simp at h;simp[h]
 ·simp at h;simp[h]
theorem may_iff (hn:es.length≤64) (hr:rs.length=es.length) (ps:List Int):(zIu es).mayBe ((zIu es).reads rs) ((zIu es).before ((zIu es).reads rs)) ps=true ↔ (sysOf es rs ps).May:=by
 have h1:=(says_before hn hr ps).loops hn
 have hbh:Says es.length (zIx es ps) (sysOf es rs ps).bh:=says_behind hn ps
 have hhv:Says es.length (zIu es).halves (sysOf es rs ps).halves:=says_halves hn ps
 have h2:=(Says.thn hn (hhv.thn hn ((says_reads hn hr ps).thn hn hbh)) hbh).loops hn
 have h3:=((says_before hn hr ps).thn hn (says_linked hn hr ps)).loops hn
 have h4:=(((says_before hn hr ps).or (((says_before hn hr ps).thn hn (says_linked hn hr ps)).thn hn (says_before hn hr ps))).and (O:=(sysOf es rs ps).fences) ⟨(f_fences hn).1,(f_fences hn).2⟩).circles hn
 unfold Facts.mayBe
 rw[factsOf_ev]
 have e2:(zIu es).splits (thenR ((zIu es).reads rs) (zIx es ps)) (zIx es ps)=zIG (thenR (thenR (zIu es).halves (thenR ((zIu es).reads rs) (zIx es ps))) (zIx es ps)):=rfl
 have e4:(zIu es).fencesCircle ((zIu es).before ((zIu es).reads rs)) (linked ((zIu es).reads rs) (zIx es ps))=zJO (andR (orR ((zIu es).before ((zIu es).reads rs)) (thenR (thenR ((zIu es).before ((zIu es).reads rs)) (linked ((zIu es).reads rs) (zIx es ps))) ((zIu es).before ((zIu es).reads rs)))) (zIu es).fences):=rfl
 rw[e2,e4]
 have k1:=bool_not h1
 have k2:=bool_not h2
 have k3:=bool_not h3
 have k4:=bool_not h4
 constructor
 ·intro h
  split at h
  ·cases h
  ·split at h
   ·cases h
   ·split at h
    ·cases h
    ·rename_i a b c
     rw[Bool.not_eq_true'] at h
     rw[Bool.not_eq_true] at a b c
     exact⟨fun i hi=>k1.1 a ⟨i,hi⟩,fun i hi=>k2.1 b ⟨i,hi⟩,fun i hi=>k3.1 c ⟨i,hi⟩,fun i hi=>k4.1 h ⟨i,hi⟩⟩
 ·intro m
  rw[k1.2 (fun ⟨i,hi⟩=>m.bef i hi),k2.2 (fun ⟨i,hi⟩=>m.split i hi),k3.2 (fun ⟨i,hi⟩=>m.link i hi),k4.2 (fun ⟨i,hi⟩=>m.fence i hi)]
  rfl
theorem hang_iff (hn:es.length≤64) (hr:rs.length=es.length) (ps:List Int):(zIu es).hangsOn ((zIu es).reads rs)=false ↔ (sysOf es rs ps).NoHang:=by
 have h:=(Says.or (R:=(sysOf es rs ps).hangs) ⟨(f_hangs hn).1,(f_hangs hn).2⟩ (says_reads hn hr ps)).circles hn
 unfold Facts.hangsOn
 rw[bool_not h]
 exact⟨fun k i hi=>k ⟨i,hi⟩,fun k ⟨i,hi⟩=>k i hi⟩
structure Clash (es:List Ev) (X:Sys) (i k:Nat):Prop where
 li:i<es.length
 lk:k<es.length
 kind:(ev es i).kind=1
 ne:i≠k
 weak:¬ X.strong i k
 var:(ev es i).var=(ev es k).var
 acc:zIW (ev es k)=true
 ik:¬ X.before i k
 ki:¬ X.before k i
theorem not_hasR {r:List Nat} {R:Nat→Nat→Prop} {n:Nat} (hn:n≤64) (h:Says n r R) (i k:Nat) (hk:k<n):(!hasR r (i:Int) (k:Int))=true ↔ ¬ R i k:=by
 rw[Bool.not_eq_true',bool_not ((hasR_bit r i k (by omega)).trans (h.bit i k))]
theorem clash_iff (hn:es.length≤64) (hr:rs.length=es.length) (ps:List Int):(zIu es).clashes ((zIu es).before ((zIu es).reads rs))=true ↔ ∃ i k,Clash es (sysOf es rs ps) i k:=by
 have hs:Says es.length (zIu es).strong (sysOf es rs ps).strong:=⟨(f_strong hn).1,(f_strong hn).2⟩
 have hb:=says_before hn hr ps
 unfold Facts.clashes Facts.clashAt Facts.mayClash
 rw[factsOf_ev]
 simp only[List.any_eq_true,List.mem_range]
 constructor
 ·rintro ⟨i,hi,k,hk,h⟩
  rw[Bool.and_eq_true,Bool.and_eq_true,Bool.and_eq_true,Bool.and_eq_true,Bool.and_eq_true,Bool.and_eq_true,not_hasR hn hs i k hk,not_hasR hn hb i k hk,not_hasR hn hb k i hi] at h
  obtain⟨⟨⟨⟨⟨⟨a,b⟩,c⟩,d⟩,e⟩,f⟩,g⟩:=h
  exact⟨i,k,hi,hk,by simpa using a,by simpa using b,c,by simpa using d,e,f,g⟩
 ·rintro ⟨i,k,h⟩
  refine⟨i,h.li,k,h.lk,?_⟩
  rw[Bool.and_eq_true,Bool.and_eq_true,Bool.and_eq_true,Bool.and_eq_true,Bool.and_eq_true,Bool.and_eq_true,not_hasR hn hs i k h.lk,not_hasR hn hb i k h.lk,not_hasR hn hb k i h.li]
  exact⟨⟨⟨⟨⟨⟨by simp[h.kind],by simpa using h.ne⟩,h.weak⟩,by simp[h.var]⟩,h.acc⟩,h.ik⟩,h.ki⟩
end
end Q
end Go.Proofs.YtkmebkbpfmoeaaaGreat
