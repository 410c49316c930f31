import Derived.Test.YtkmebkbpfmoeaaaGreatF09
set_option linter.unusedVariables false
set_option linter.unusedSimpArgs false
set_option maxHeartbeats 12800000
namespace Go.Proofs.YtkmebkbpfmoeaaaGreat
namespace Q
def Bit (r:List Nat) (a b:Nat):Prop:=(r.getD a 0).testBit b=true
structure Rel (n:Nat) (r:List Nat):Prop where
 len:r.length=n
 lt:∀ a b,Bit r a b→b<n
theorem Bit.left {r:List Nat} {a b:Nat} (h:Bit r a b):a<r.length:=by
 by_cases hl:a<r.length
 ·exact hl
 ·unfold Bit at h
  rw[getD_out _ _ (by omega)] at h
  simp at h
theorem one_bit (b c:Nat) (h:b<64):(one (b:Int)).testBit c=decide (b=c):=by
 unfold one
 rw[if_neg (by omega),Int.toNat_natCast,Nat.testBit_two_pow]
theorem hasS_bit (s b:Nat) (h:b<64):hasS s (b:Int)=s.testBit b:=by
 unfold hasS one
 rw[if_neg (by omega),Int.toNat_natCast]
 cases hb:s.testBit b
 ·have:s &&& 2 ^ b=0:=by
   refine Nat.eq_of_testBit_eq (fun i=>?_)
   rw[Nat.testBit_and,Nat.testBit_two_pow,Nat.zero_testBit]
   by_cases h:b=i
   ·rw[← h,hb];rfl
   ·simp[h]
  rw[this];rfl
 ·have:s &&& 2 ^ b≠0:=by
   intro e
   have h2:=congrArg (fun x=>x.testBit b) e
   simp[Nat.testBit_and,Nat.testBit_two_pow,hb] at h2
  simp[this]
theorem hasR_bit (r:List Nat) (a b:Nat) (h:b<64):hasR r (a:Int) (b:Int)=true ↔ Bit r a b:=by
 unfold hasR Bit
 rw[ofR_nat,hasS_bit _ _ h]
theorem map_get (f:Nat→Nat) (n a:Nat):((List.range n).map f).getD a 0=if a<n then f a else 0:=by
 by_cases h:a<n
 ·rw[getD_in _ _ (by simpa using h),if_pos h];simp
 ·rw[getD_out _ _ (by simpa using h),if_neg h]
theorem new_bit (n a b:Nat):¬ Bit (newR n) a b:=by
 intro h
 unfold Bit newR at h
 have:(List.replicate n 0).getD a 0=0:=by
  by_cases ha:a<n
  ·rw[getD_in _ _ (by simpa using ha)];simp
  ·rw[getD_out _ _ (by simpa using ha)]
 rw[this] at h;simp at h
section
variable {n:Nat} {r o:List Nat}
theorem or_bit (hr:r.length=n) (ho:o.length=n) (a b:Nat):Bit (orR r o) a b ↔ Bit r a b∨Bit o a b:=by
 unfold Bit orR
 rw[map_get]
 by_cases h:a<r.length
 ·rw[if_pos h,Nat.testBit_or,ofR_nat,ofR_nat,Bool.or_eq_true]
 ·rw[if_neg h,getD_out r _ (by omega),getD_out o _ (by omega)];simp
theorem and_bit (hr:r.length=n) (a b:Nat):Bit (andR r o) a b ↔ Bit r a b∧Bit o a b:=by
 unfold Bit andR
 rw[map_get]
 by_cases h:a<r.length
 ·rw[if_pos h,Nat.testBit_and,ofR_nat,ofR_nat,Bool.and_eq_true]
 ·rw[if_neg h,getD_out r _ (by omega)];simp
theorem zCw (hr:Rel n r) (ho:Rel n o):Rel n (orR r o) :=
 ⟨by rw[or_len];exact hr.len,fun a b h=>by rcases (or_bit hr.len ho.len a b).1 h with h | h;exact hr.lt _ _ h;exact ho.lt _ _ h⟩
theorem zDt (hr:Rel n r):Rel n (andR r o) :=
 ⟨by rw[and_len];exact hr.len,fun a b h=>hr.lt _ _ ((and_bit hr.len a b).1 h).1⟩
theorem thenB_bit (hn:n≤64) (a x:Nat):∀ (l:List Nat) (acc:Nat),(∀ c∈l,c<n)→((l.foldl (thenB r o a) acc).testBit x=true ↔ acc.testBit x=true∨∃ c∈l,Bit r a c∧Bit o c x)
 | [],acc,_=>by simp
 | c::l,acc,h=>by
  rw[List.foldl_cons,thenB_bit hn a x l _ (fun y hy=>h y (List.mem_cons_of_mem _ hy))]
  have hc:c<n:=h c (by simp)
  unfold thenB
  by_cases hb:Bit r a c
  ·rw[if_pos ((hasR_bit r a c (by omega)).2 hb),Nat.testBit_or,ofR_nat,Bool.or_eq_true]
   constructor
   ·rintro ((h1 | h1) | ⟨y,hy,h1⟩)
    ·exact Or.inl h1
    ·exact Or.inr ⟨c,by simp,hb,h1⟩
    ·exact Or.inr ⟨y,List.mem_cons_of_mem _ hy,h1⟩
   ·rintro (h1 | ⟨y,hy,h1⟩)
    ·exact Or.inl (Or.inl h1)
    ·rcases List.mem_cons.1 hy with rfl | hy
     ·exact Or.inl (Or.inr h1.2)
     ·exact Or.inr ⟨y,hy,h1⟩
  ·rw[if_neg (fun h2=>hb ((hasR_bit r a c (by omega)).1 h2))]
   constructor
   ·rintro (h1 | ⟨y,hy,h1⟩)
    ·exact Or.inl h1
    ·exact Or.inr ⟨y,List.mem_cons_of_mem _ hy,h1⟩
   ·rintro (h1 | ⟨y,hy,h1⟩)
    ·exact Or.inl h1
    ·rcases List.mem_cons.1 hy with rfl | hy
     ·exact absurd h1.1 hb
     ·exact Or.inr ⟨y,hy,h1⟩
theorem then_bit (hn:n≤64) (hr:Rel n r) (a b:Nat):Bit (thenR r o) a b ↔ ∃ c,Bit r a c∧Bit o c b:=by
 have e:Bit (thenR r o) a b ↔ (a<r.length∧(thenA r o a).testBit b=true):=by
  unfold thenR
  rw[Bit,map_get]
  by_cases h:a<r.length
  ·simp[h]
  ·simp[h]
 rw[e]
 unfold thenA
 rw[thenB_bit (n:=n) hn a b _ _ (fun c hc=>by rw[hr.len] at hc;exact List.mem_range.1 hc)]
 simp only[Nat.zero_testBit,Bool.false_eq_true,false_or,List.mem_range]
 constructor
 ·rintro ⟨_,c,_,h⟩;exact⟨c,h⟩
 ·rintro ⟨c,h⟩;exact⟨h.1.left,c,by rw[hr.len];exact hr.lt _ _ h.1,h⟩
theorem zBn (hn:n≤64) (hr:Rel n r) (ho:Rel n o):Rel n (thenR r o) :=
 ⟨by rw[then_len];exact hr.len,fun a b h=>by obtain⟨c,_,h⟩:=(then_bit hn hr a b).1 h;exact ho.lt _ _ h⟩
theorem setB_get (l:List Nat) (i x a:Nat) (h:i<l.length):(l.set i x).getD a 0=if a=i then x else l.getD a 0:=by
 by_cases ha:a=i
 ·rw[ha,if_pos rfl,getD_in _ _ (by simpa using h)];simp
 ·rw[if_neg ha];simp[List.getD,List.getElem?_set,Ne.symm ha]
theorem add_bit (hn:n≤64) (hr:r.length=n) (i k:Nat) (hi:i<n) (hk:k<n) (a b:Nat):Bit (addR r i k) a b ↔ Bit r a b∨(a=i∧b=k):=by
 unfold addR
 rw[if_neg (by omega),Int.toNat_natCast,Bit,setB_get _ _ _ _ (by omega)]
 by_cases h:a=i
 ·rw[if_pos h,Nat.testBit_or,ofR_nat,one_bit _ _ (by omega),Bool.or_eq_true,decide_eq_true_eq,h]
  constructor
  ·rintro (h1 | h1)
   ·exact Or.inl h1
   ·exact Or.inr ⟨rfl,h1.symm⟩
  ·rintro (h1 | h1)
   ·exact Or.inl h1
   ·exact Or.inr h1.2.symm
 ·rw[if_neg h];simp[h,Bit]
theorem fold_bit {β:Type} (F:List Nat→β→List Nat) (G:β→Nat→Nat→Prop) (l:List β) (hF:∀ r x,x∈l→r.length=n→(F r x).length=n∧∀ a b,Bit (F r x) a b ↔ Bit r a b∨G x a b) :
  ∀ r,r.length=n→(l.foldl F r).length=n∧∀ a b,Bit (l.foldl F r) a b ↔ Bit r a b∨∃ x∈l,G x a b:=by
 induction l with
 | nil=>intro r h;exact⟨h,by simp⟩
 | cons x l ih =>
  intro r h
  have h1:=hF r x (by simp) h
  have h2:=ih (fun r y hy hr=>hF r y (List.mem_cons_of_mem _ hy) hr) (F r x) h1.1
  refine⟨h2.1,fun a b=>?_⟩
  rw[List.foldl_cons,h2.2,h1.2]
  constructor
  ·rintro ((h3 | h3) | ⟨y,hy,h3⟩)
   ·exact Or.inl h3
   ·exact Or.inr ⟨x,by simp,h3⟩
   ·exact Or.inr ⟨y,List.mem_cons_of_mem _ hy,h3⟩
  ·rintro (h3 | ⟨y,hy,h3⟩)
   ·exact Or.inl (Or.inl h3)
   ·rcases List.mem_cons.1 hy with rfl | hy
    ·exact Or.inl (Or.inr h3)
    ·exact Or.inr ⟨y,hy,h3⟩
theorem ite_add (hn:n≤64) (c:Bool) (i k:Nat) (hi:i<n) (hk:k<n) (hr:r.length=n):(if c=true then addR r i k else r).length=n∧∀ a b,Bit (if c=true then addR r i k else r) a b ↔ Bit r a b∨(c=true∧a=i∧b=k):=by
 cases c
 ·exact⟨by simpa using hr,fun a b=>by simp⟩
 ·exact⟨by simpa [zIE] using hr,fun a b=>by simpa using add_bit hn hr i k hi hk a b⟩
theorem build_bit (hn:n≤64) (c:Nat→Nat→Bool) (F:List Nat→Nat→List Nat) (hF:∀ r i,F r i=(List.range n).foldl (fun r k=>if c i k=true then addR r (i:Int) (k:Int) else r) r) :
  Rel n ((List.range n).foldl F (newR n))∧∀ a b,Bit ((List.range n).foldl F (newR n)) a b ↔ a<n∧b<n∧c a b=true:=by
 have h:=fold_bit (n:=n) F (fun i a b=>a=i∧b<n∧c a b=true) (List.range n) (fun r i hi hr=>by
  rw[hF]
  have h:=fold_bit (n:=n) (fun r k=>if c i k=true then addR r (i:Int) (k:Int) else r) (fun k a b=>c i k=true∧a=i∧b=k) (List.range n) (fun r k hk hr=>ite_add hn _ i k (List.mem_range.1 hi) (List.mem_range.1 hk) hr) r hr
  refine⟨h.1,fun a b=>?_⟩
  rw[h.2]
  constructor
  ·rintro (h1 | ⟨k,hk,h1,rfl,rfl⟩)
   ·exact Or.inl h1
   ·exact Or.inr ⟨rfl,List.mem_range.1 hk,h1⟩
  ·rintro (h1 | ⟨rfl,h1,h2⟩)
   ·exact Or.inl h1
   ·exact Or.inr ⟨b,List.mem_range.2 h1,h2,rfl,rfl⟩) (newR n) (by simp[newR])
 have h2:∀ a b,Bit ((List.range n).foldl F (newR n)) a b ↔ a<n∧b<n∧c a b=true:=fun a b=>by
  rw[h.2]
  constructor
  ·rintro (h1 | ⟨k,hk,rfl,h1⟩)
   ·exact absurd h1 (new_bit _ _ _)
   ·exact⟨List.mem_range.1 hk,h1⟩
  ·rintro ⟨h1,h2⟩
   exact Or.inr ⟨a,List.mem_range.2 h1,rfl,h2⟩
 exact⟨⟨h.1,fun a b hb=>((h2 a b).1 hb).2.1⟩,h2⟩
theorem buildT_bit (hn:n≤64) (c:Nat→Nat→Bool) (F:List Nat→Nat→List Nat) (hF:∀ r i,F r i=(List.range n).foldl (fun r k=>if c i k=true then addR r (k:Int) (i:Int) else r) r) :
  Rel n ((List.range n).foldl F (newR n))∧∀ a b,Bit ((List.range n).foldl F (newR n)) a b ↔ a<n∧b<n∧c b a=true:=by
 have h:=fold_bit (n:=n) F (fun i a b=>b=i∧a<n∧c b a=true) (List.range n) (fun r i hi hr=>by
  rw[hF]
  have h:=fold_bit (n:=n) (fun r k=>if c i k=true then addR r (k:Int) (i:Int) else r) (fun k a b=>c i k=true∧a=k∧b=i) (List.range n) (fun r k hk hr=>ite_add hn _ k i (List.mem_range.1 hk) (List.mem_range.1 hi) hr) r hr
  refine⟨h.1,fun a b=>?_⟩
  rw[h.2]
  constructor
  ·rintro (h1 | ⟨k,hk,h1,rfl,rfl⟩)
   ·exact Or.inl h1
   ·exact Or.inr ⟨rfl,List.mem_range.1 hk,h1⟩
  ·rintro (h1 | ⟨rfl,h1,h2⟩)
   ·exact Or.inl h1
   ·exact Or.inr ⟨a,List.mem_range.2 h1,h2,rfl,rfl⟩) (newR n) (by simp[newR])
 have h2:∀ a b,Bit ((List.range n).foldl F (newR n)) a b ↔ a<n∧b<n∧c b a=true:=fun a b=>by
  rw[h.2]
  constructor
  ·rintro (h1 | ⟨k,hk,rfl,h1⟩)
   ·exact absurd h1 (new_bit _ _ _)
   ·exact⟨h1.1,List.mem_range.1 hk,h1.2⟩
  ·rintro ⟨h1,h3,h2⟩
   exact Or.inr ⟨b,List.mem_range.2 h3,rfl,h1,h2⟩
 exact⟨⟨h.1,fun a b hb=>((h2 a b).1 hb).2.1⟩,h2⟩
theorem turned_rb (hn:n≤64) (hr:Rel n r):Rel n (zJv r)∧∀ a b,Bit (zJv r) a b ↔ Bit r b a:=by
 have h:=buildT_bit hn (fun a b=>hasR r (a:Int) (b:Int)) (turnA r) (fun t a=>by
  unfold turnA turnB;rw[hr.len])
 unfold zJv
 rw[hr.len]
 refine⟨h.1,fun a b=>?_⟩
 rw[h.2]
 constructor
 ·rintro ⟨h1,h2,h3⟩;exact (hasR_bit r b a (by omega)).1 h3
 ·intro h1
  have h2:=h1.left
  have h3:=hr.lt _ _ h1
  exact⟨h3,by rw[← hr.len];exact h2,(hasR_bit r b a (by omega)).2 h1⟩
def TC (R:Nat→Nat→Prop) (a b:Nat):Prop:=∀ S:Nat→Nat→Prop,(∀ x y,R x y→S x y)→(∀ x y z,S x y→S y z→S x z)→S a b
theorem TC.base {R:Nat→Nat→Prop} {a b:Nat} (h:R a b):TC R a b:=fun _ hS _=>hS _ _ h
theorem TC.trans {R:Nat→Nat→Prop} {a b c:Nat} (h:TC R a b) (k:TC R b c):TC R a c:=fun S hS hT=>hT _ _ _ (h S hS hT) (k S hS hT)
theorem TC.map {R S:Nat→Nat→Prop} (f:Nat→Nat) (h:∀ x y,R x y→S (f x) (f y)) {a b:Nat} (k:TC R a b):TC S (f a) (f b) :=
 k (fun x y=>TC S (f x) (f y)) (fun x y hx=>TC.base (h x y hx)) (fun _ _ _=>TC.trans)
theorem TC.mono {R S:Nat→Nat→Prop} (h:∀ x y,R x y→S x y) {a b:Nat} (k:TC R a b):TC S a b:=TC.map (fun x=>x) h k
theorem closeB_fold (hn:n≤64) (b:Nat) (hb:b<n) (hr:Rel n r):∀ m,m≤n→Rel n ((List.range m).foldl (zJw b) r)∧∀ x y,Bit ((List.range m).foldl (zJw b) r) x y ↔ Bit r x y∨(x<m∧Bit r x b∧Bit r b y)
 | 0,_=>⟨hr,fun x y=>by simp⟩
 | m+1,hm=>by
  rw[zIf]
  obtain⟨i1,i2⟩:=closeB_fold hn b hb hr m (by omega)
  generalize (List.range m).foldl (zJw b) r=c at i1 i2
  have key:∀ x y,Bit (zJw b c m) x y ↔ Bit r x y∨(x<m+1∧Bit r x b∧Bit r b y):=by
   intro x y
   have e1:∀ z,Bit c z b ↔ Bit r z b:=fun z=>by
    rw[i2]
    constructor
    ·rintro (h | h)
     ·exact h
     ·exact h.2.1
    ·exact Or.inl
   have e2:∀ z,Bit c b z ↔ Bit r b z:=fun z=>by
    rw[i2]
    constructor
    ·rintro (h | h)
     ·exact h
     ·exact h.2.2
    ·exact Or.inl
   unfold zJw
   by_cases h:Bit c m b
   ·rw[if_pos ((hasR_bit c m b (by omega)).2 h),Bit,setB_get _ _ _ _ (by rw[i1.len];omega)]
    by_cases hx:x=m
    ·rw[if_pos hx,Nat.testBit_or,ofR_nat,ofR_nat,Bool.or_eq_true]
     have f1:(c.getD m 0).testBit y=true ↔ Bit c m y:=Iff.rfl
     have f2:(c.getD b 0).testBit y=true ↔ Bit c b y:=Iff.rfl
     rw[f1,f2,i2,e2,hx]
     constructor
     ·rintro ((h1 | h1) | h1)
      ·exact Or.inl h1
      ·exact Or.inr ⟨by omega,h1.2⟩
      ·exact Or.inr ⟨by omega,(e1 m).1 h,h1⟩
     ·rintro (h1 | h1)
      ·exact Or.inl (Or.inl h1)
      ·exact Or.inr h1.2.2
    ·rw[if_neg hx]
     have f1:(c.getD x 0).testBit y=true ↔ Bit c x y:=Iff.rfl
     rw[f1,i2]
     constructor
     ·rintro (h1 | h1)
      ·exact Or.inl h1
      ·exact Or.inr ⟨by omega,h1.2⟩
     ·rintro (h1 | h1)
      ·exact Or.inl h1
      ·exact Or.inr ⟨by omega,h1.2⟩
   ·rw[if_neg (fun h1=>h ((hasR_bit c m b (by omega)).1 h1)),i2]
    constructor
    ·rintro (h1 | h1)
     ·exact Or.inl h1
     ·exact Or.inr ⟨by omega,h1.2⟩
    ·rintro (h1 | h1)
     ·exact Or.inl h1
     ·by_cases hx:x=m
      ·exact absurd ((e1 m).2 (hx ▸ h1.2.1)) h
      ·exact Or.inr ⟨by omega,h1.2⟩
  refine⟨⟨by rw[closeB_len];exact i1.len,fun x y h=>?_⟩,key⟩
  rcases (key x y).1 h with h | h
  ·exact hr.lt _ _ h
  ·exact hr.lt _ _ h.2.2
theorem closed_fold (hn:n≤64) (hr:Rel n r):∀ m,m≤n→Rel n ((List.range m).foldl (zKe n) r)∧(∀ x y,Bit r x y→Bit ((List.range m).foldl (zKe n) r) x y)∧(∀ x y,Bit ((List.range m).foldl (zKe n) r) x y→TC (Bit r) x y)∧∀ k x y,k<m→Bit ((List.range m).foldl (zKe n) r) x k→Bit ((List.range m).foldl (zKe n) r) k y→Bit ((List.range m).foldl (zKe n) r) x y
 | 0,_=>⟨hr,fun _ _ h=>h,fun _ _ h=>TC.base h,fun k x y h=>absurd h (by omega)⟩
 | m+1,hm=>by
  rw[zIf]
  obtain⟨i1,i2,i3,i4⟩:=closed_fold hn hr m (by omega)
  generalize (List.range m).foldl (zKe n) r=c at i1 i2 i3 i4
  obtain⟨j1,j2⟩:=closeB_fold hn m (by omega) i1 n (Nat.le_refl _)
  have j3:∀ x y,Bit (zKe n c m) x y ↔ Bit c x y∨(Bit c x m∧Bit c m y):=fun x y=>by
   unfold zKe
   rw[j2]
   constructor
   ·rintro (h | h)
    ·exact Or.inl h
    ·exact Or.inr h.2
   ·rintro (h | h)
    ·exact Or.inl h
    ·exact Or.inr ⟨by rw[← i1.len];exact h.1.left,h⟩
  refine⟨j1,fun x y h=>(j3 x y).2 (Or.inl (i2 _ _ h)),fun x y h=>?_,fun k x y hk=>?_⟩
  ·rcases (j3 x y).1 h with h | h
   ·exact i3 _ _ h
   ·exact (i3 _ _ h.1).trans (i3 _ _ h.2)
  ·rw[j3,j3,j3]
   by_cases e:k=m
   ·rw[e]
    rintro (h | h) (h' | h')
    ·exact Or.inr ⟨h,h'⟩
    ·exact Or.inr ⟨h,h'.2⟩
    ·exact Or.inr ⟨h.1,h'⟩
    ·exact Or.inr ⟨h.1,h'.2⟩
   ·have T:=fun x y=>i4 k x y (by omega)
    rintro (h | h) (h' | h')
    ·exact Or.inl (T _ _ h h')
    ·exact Or.inr ⟨T _ _ h h'.1,h'.2⟩
    ·exact Or.inr ⟨h.1,T _ _ h.2 h'⟩
    ·exact Or.inr ⟨h.1,h'.2⟩
theorem closed_rb (hn:n≤64) (hr:Rel n r):Rel n (zJb r)∧∀ a b,Bit (zJb r) a b ↔ TC (Bit r) a b:=by
 have ho:=zCw hr hr
 obtain⟨h1,h2,h3,h4⟩:=closed_fold hn ho n (Nat.le_refl _)
 have e:∀ x y,Bit (orR r r) x y ↔ Bit r x y:=fun x y=>by rw[or_bit hr.len hr.len];simp
 unfold zJb
 rw[hr.len]
 refine⟨h1,fun a b=>⟨fun h=>(h3 _ _ h).mono (fun x y hx=>(e x y).1 hx),fun h=>?_⟩⟩
 refine h _ (fun x y hx=>h2 _ _ ((e x y).2 hx)) (fun x y z hx hy=>h4 y x z (h1.lt _ _ hx) hx hy)
theorem loops_bit (hn:n≤64) (hr:Rel n r):zID r=true ↔ ∃ i,Bit r i i:=by
 unfold zID
 rw[List.any_eq_true]
 constructor
 ·rintro ⟨i,hi,h⟩
  exact⟨i,(hasR_bit r i i (by have:=List.mem_range.1 hi;rw[hr.len] at this;omega)).1 h⟩
 ·rintro ⟨i,h⟩
  exact⟨i,List.mem_range.2 h.left,(hasR_bit r i i (by have:=hr.lt _ _ h;omega)).2 h⟩
end
end Q
namespace Q
theorem fold_proj {α β γ:Type} (g:α→β) (F:α→γ→α) (G:β→γ→β) (h:∀ a x,g (F a x)=G (g a) x):∀ (l:List γ) (a:α),g (l.foldl F a)=l.foldl G (g a)
 | [],a=>rfl
 | x::l,a=>by rw[List.foldl_cons,List.foldl_cons,fold_proj g F G h l,h]
theorem facts_field {es:List Ev} (hn:es.length≤64) (g:Facts→List Nat) (c:Nat→Nat→Bool) (h:∀ f i k,g (f.pair i (ev es i) k (ev es k))=if c i k=true then addR (g f) (i:Int) (k:Int) else g f) (h0:g (Facts.new es)=newR es.length) :
  Rel es.length (g (zIq es))∧∀ a b,Bit (g (zIq es)) a b ↔ a<es.length∧b<es.length∧c a b=true:=by
 unfold zIq
 rw[fold_proj g (zIX es) (fun r i=>(List.range es.length).foldl (fun r k=>if c i k=true then addR r (i:Int) (k:Int) else r) r) (fun f i=>fold_proj g _ _ (fun f k=>h f i k) _ _),h0]
 exact build_bit hn c _ (fun r i=>rfl)
theorem fold_same {α β γ:Type} (g:α→β) (F:α→γ→α) (h:∀ a x,g (F a x)=g a):∀ (l:List γ) (a:α),g (l.foldl F a)=g a
 | [],a=>rfl
 | x::l,a=>by rw[List.foldl_cons,fold_same g F h l,h]
theorem factsOf_ev (es:List Ev):(zIq es).events=es:=by
 unfold zIq
 exact fold_same (fun f:Facts=>f.events) (zIX es) (fun f i=>fold_same (fun f:Facts=>f.events) (fun (f:Facts) (k:Nat)=>f.pair i (ev es i) k (ev es k)) (fun f k=>rfl) (List.range es.length) f) _ _
theorem f_ahead {es:List Ev} (hn:es.length≤64):Rel es.length (zIq es).ahead∧∀ i k:Nat,Bit (zIq es).ahead i k ↔ i<es.length∧k<es.length∧zIh i (ev es i) k (ev es k)=true :=
 facts_field hn Facts.ahead (fun i k=>zIh i (ev es i) k (ev es k)) (fun _ _ _=>rfl) rfl
theorem f_strong {es:List Ev} (hn:es.length≤64):Rel es.length (zIq es).strong∧∀ i k:Nat,Bit (zIq es).strong i k ↔ i<es.length∧k<es.length∧zIl i (ev es i) k (ev es k)=true :=
 facts_field hn Facts.strong (fun i k=>zIl i (ev es i) k (ev es k)) (fun _ _ _=>rfl) rfl
theorem f_gathers {es:List Ev} (hn:es.length≤64):Rel es.length (zIq es).gathers∧∀ i k:Nat,Bit (zIq es).gathers i k ↔ i<es.length∧k<es.length∧zIt (ev es i) (ev es k)=true :=
 facts_field hn Facts.gathers (fun i k=>zIt (ev es i) (ev es k)) (fun _ _ _=>rfl) rfl
theorem f_fences {es:List Ev} (hn:es.length≤64):Rel es.length (zIq es).fences∧∀ i k:Nat,Bit (zIq es).fences i k ↔ i<es.length∧k<es.length∧zIj i (ev es i) k (ev es k)=true :=
 facts_field hn Facts.fences (fun i k=>zIj i (ev es i) k (ev es k)) (fun _ _ _=>rfl) rfl
theorem f_hangs {es:List Ev} (hn:es.length≤64):Rel es.length (zIq es).hangs∧∀ i k:Nat,Bit (zIq es).hangs i k ↔ i<es.length∧k<es.length∧hasS (ev es i).hangs (k:Int)=true :=
 facts_field hn Facts.hangs (fun i k=>hasS (ev es i).hangs (k:Int)) (fun _ _ _=>rfl) rfl
theorem f_halves {es:List Ev} (hn:es.length≤64):Rel es.length (zIq es).halves∧∀ i k:Nat,Bit (zIq es).halves i k ↔ i<es.length∧k<es.length∧zIP i (ev es i) k=true :=
 facts_field hn Facts.halves (fun i k=>zIP i (ev es i) k) (fun _ _ _=>rfl) rfl
theorem f_sends {es:List Ev} (hn:es.length≤64):Rel es.length (zIq es).sends∧∀ i k:Nat,Bit (zIq es).sends i k ↔ i<es.length∧k<es.length∧zJo i (ev es i) k (ev es k)=true :=
 facts_field hn Facts.sends (fun i k=>zJo i (ev es i) k (ev es k)) (fun _ _ _=>rfl) rfl
theorem f_takes {es:List Ev} (hn:es.length≤64):Rel es.length (zIq es).takes∧∀ i k:Nat,Bit (zIq es).takes i k ↔ i<es.length∧k<es.length∧zJZ i (ev es i) k (ev es k)=true :=
 facts_field hn Facts.takes (fun i k=>zJZ i (ev es i) k (ev es k)) (fun _ _ _=>rfl) rfl
theorem behind_rb {es:List Ev} (hn:es.length≤64) (ps:List Int):Rel es.length (zIu es ps)∧∀ a b,Bit (zIu es ps) a b ↔ a<es.length∧b<es.length∧zKk es ps a b=true :=
 build_bit hn (zKk es ps) _ (fun r i=>rfl)
theorem heard_rb {es:List Ev} (hn:es.length≤64) {sees:List Nat} (hs:Rel es.length sees):Rel es.length (heard es sees)∧∀ a b,Bit (heard es sees) a b ↔ Bit sees b a∧((ev es b).order≠0∧(ev es a).order≠0):=by
 have h:=buildT_bit hn (fun r w=>hasR sees (r:Int) (w:Int)&&(ev es r).order != 0&&(ev es w).order != 0) (zJR es sees) (fun r i=>rfl)
 refine⟨h.1,fun a b=>?_⟩
 have h2:=h.2 a b
 rw[show (heard es sees)=(List.range es.length).foldl (zJR es sees) (newR es.length) from rfl,h2]
 simp only[Bool.and_eq_true,bne_iff_ne,ne_eq]
 constructor
 ·rintro ⟨h1,h2,⟨h3,h4⟩,h5⟩;exact⟨(hasR_bit _ _ _ (by omega)).1 h3,h4,h5⟩
 ·rintro ⟨h1,h2,h3⟩
  have h4:=hs.lt _ _ h1
  have h5:=h1.left
  exact⟨h4,by rw[← hs.len];exact h5,⟨(hasR_bit _ _ _ (by omega)).2 h1,h2⟩,h3⟩
theorem reads_rb {es:List Ev} (hn:es.length≤64) {rs:List Int} (hr:rs.length=es.length):Rel es.length ((zIq es).reads rs)∧∀ a b,Bit ((zIq es).reads rs) a b ↔ b<es.length∧a<es.length∧rs.getD a (-1)=(b:Int):=by
 have h:=fold_bit (n:=es.length) (fun (r:List Nat) (i:Nat)=>addR r (i:Int) (rs.getD i (-1))) (fun i a b=>a=i∧b<es.length∧rs.getD a (-1)=(b:Int)) (List.range rs.length) (fun r i hi hl=>by
  have hi':i<es.length:=by rw[← hr];exact List.mem_range.1 hi
  refine⟨by rw[zIE];exact hl,fun a b=>?_⟩
  by_cases hlt:rs.getD i (-1)<es.length
  ·by_cases h0:0≤rs.getD i (-1)
   ·have e:rs.getD i (-1)=((rs.getD i (-1)).toNat:Int):=by omega
    rw[e,add_bit hn hl i _ hi' (by omega)]
    constructor
    ·rintro (h1 | ⟨h1,h2⟩)
     ·exact Or.inl h1
     ·exact Or.inr ⟨h1,by omega,by rw[h1];omega⟩
    ·rintro (h1 | ⟨h1,h2,h3⟩)
     ·exact Or.inl h1
     ·exact Or.inr ⟨h1,by rw[h1] at h3;omega⟩
   ·have e:addR r (i:Int) (rs.getD i (-1))=r:=by
     unfold addR
     rw[if_neg (by omega)]
     have:one (rs.getD i (-1))=0:=by unfold one;rw[if_pos (by omega)]
     rw[this,Nat.or_zero,Int.toNat_natCast,ofR_get _ _ (by omega)]
     exact List.set_getElem_self (by omega)
    rw[e]
    constructor
    ·exact Or.inl
    ·rintro (h1 | ⟨h1,h2,h3⟩)
     ·exact h1
     ·rw[h1] at h3;omega
  ·have e:addR r (i:Int) (rs.getD i (-1))=r:=by
    unfold addR
    rw[if_pos (by omega)]
   rw[e]
   constructor
   ·exact Or.inl
   ·rintro (h1 | ⟨h1,h2,h3⟩)
    ·exact h1
    ·rw[h1] at h3;omega) (newR es.length) (by simp[newR])
 unfold Facts.reads
 rw[factsOf_ev]
 have k:∀ a b,Bit ((List.range rs.length).foldl (fun (r:List Nat) (i:Nat)=>addR r (i:Int) (rs.getD i (-1))) (newR es.length)) a b ↔ b<es.length∧a<es.length∧rs.getD a (-1)=(b:Int):=fun a b=>by
  rw[h.2]
  constructor
  ·rintro (h1 | ⟨i,hi,rfl,h2,h3⟩)
   ·exact absurd h1 (new_bit _ _ _)
   ·exact⟨h2,by rw[← hr];exact List.mem_range.1 hi,h3⟩
  ·rintro ⟨h1,h2,h3⟩
   exact Or.inr ⟨a,List.mem_range.2 (by rw[hr];exact h2),rfl,h1,h3⟩
 exact⟨⟨h.1,fun a b hb=>((k a b).1 hb).1⟩,k⟩
structure Sys where
 ahead:Nat→Nat→Prop
 strong:Nat→Nat→Prop
 gathers:Nat→Nat→Prop
 fences:Nat→Nat→Prop
 halves:Nat→Nat→Prop
 hangs:Nat→Nat→Prop
 sends:Nat→Nat→Prop
 takes:Nat→Nat→Prop
 rd:Nat→Nat→Prop
 bh:Nat→Nat→Prop
 ord:Nat→Prop
def Th (R S:Nat→Nat→Prop) (a b:Nat):Prop:=∃ c,R a c∧S c b
namespace Sys
def straight (X:Sys) (a b:Nat):Prop:=X.rd a b∧X.strong a b
def sees (X:Sys) (a b:Nat):Prop:=X.straight a b∨Th (TC (Th X.straight X.halves)) X.straight a b
def heard (X:Sys) (a b:Nat):Prop:=X.sees b a∧(X.ord b∧X.ord a)
def tells (X:Sys) (a b:Nat):Prop:=Th (Th X.sends X.heard) X.takes a b∧X.strong a b
def before (X:Sys):Nat→Nat→Prop:=TC (fun a b=>(X.ahead a b∨X.tells a b)∨X.gathers a b)
def misses (X:Sys):Nat→Nat→Prop:=Th X.rd X.bh
def comm (X:Sys) (a b:Nat):Prop:=(X.rd b a∨X.bh a b)∨X.misses a b
def linked (X:Sys):Nat→Nat→Prop:=TC X.comm
structure May (X:Sys):Prop where
 bef:∀ i,¬ X.before i i
 split:∀ i,¬ Th (Th X.halves X.misses) X.bh i i
 link:∀ i,¬ Th X.before X.linked i i
 fence:∀ i,¬ TC (fun a b=>(X.before a b∨Th (Th X.before X.linked) X.before a b)∧X.fences a b) i i
def NoHang (X:Sys):Prop:=∀ i,¬ TC (fun a b=>X.hangs a b∨X.rd a b) i i
structure Hom (f:Nat→Nat) (X Y:Sys):Prop where
 ahead:∀ a b,X.ahead a b→Y.ahead (f a) (f b)
 strong:∀ a b,X.strong a b→Y.strong (f a) (f b)
 gathers:∀ a b,X.gathers a b→Y.gathers (f a) (f b)
 fences:∀ a b,X.fences a b→Y.fences (f a) (f b)
 halves:∀ a b,X.halves a b→Y.halves (f a) (f b)
 hangs:∀ a b,X.hangs a b→Y.hangs (f a) (f b)
 sends:∀ a b,X.sends a b→Y.sends (f a) (f b)
 takes:∀ a b,X.takes a b→Y.takes (f a) (f b)
 rd:∀ a b,X.rd a b→Y.rd (f a) (f b)
 bh:∀ a b,X.bh a b→Y.bh (f a) (f b)
 ord:∀ a,X.ord a→Y.ord (f a)
theorem th_map {f:Nat→Nat} {R S R' S':Nat→Nat→Prop} (h:∀ a b,R a b→R' (f a) (f b)) (k:∀ a b,S a b→S' (f a) (f b)):∀ a b,Th R S a b→Th R' S' (f a) (f b) :=
 fun _ _ ⟨c,h1,h2⟩=>⟨f c,h _ _ h1,k _ _ h2⟩
section
variable {f:Nat→Nat} {X Y:Sys}
theorem Hom.straight (h:Hom f X Y):∀ a b,X.straight a b→Y.straight (f a) (f b):=fun a b k=>⟨h.rd _ _ k.1,h.strong _ _ k.2⟩
theorem Hom.sees (h:Hom f X Y):∀ a b,X.sees a b→Y.sees (f a) (f b):=fun a b k =>
 k.elim (fun k=>Or.inl (h.straight _ _ k)) (fun k=>Or.inr (th_map (fun x y k=>TC.map f (th_map h.straight h.halves) k) h.straight _ _ k))
theorem Hom.heard (h:Hom f X Y):∀ a b,X.heard a b→Y.heard (f a) (f b):=fun a b k=>⟨h.sees _ _ k.1,h.ord _ k.2.1,h.ord _ k.2.2⟩
theorem Hom.tells (h:Hom f X Y):∀ a b,X.tells a b→Y.tells (f a) (f b):=fun a b k=>⟨th_map (th_map h.sends h.heard) h.takes _ _ k.1,h.strong _ _ k.2⟩
theorem Hom.before (h:Hom f X Y):∀ a b,X.before a b→Y.before (f a) (f b):=fun a b k=>TC.map f (fun x y k=>by
 rcases k with (k | k) | k
 ·exact Or.inl (Or.inl (h.ahead _ _ k))
 ·exact Or.inl (Or.inr (h.tells _ _ k))
 ·exact Or.inr (h.gathers _ _ k)) k
theorem Hom.misses (h:Hom f X Y):∀ a b,X.misses a b→Y.misses (f a) (f b):=th_map h.rd h.bh
theorem Hom.linked (h:Hom f X Y):∀ a b,X.linked a b→Y.linked (f a) (f b):=fun a b k=>TC.map f (fun x y k=>by
 rcases k with (k | k) | k
 ·exact Or.inl (Or.inl (h.rd _ _ k))
 ·exact Or.inl (Or.inr (h.bh _ _ k))
 ·exact Or.inr (h.misses _ _ k)) k
theorem Hom.may (h:Hom f X Y) (m:Y.May):X.May where
 bef i k:=m.bef _ (h.before _ _ k)
 split i k:=m.split _ (th_map (th_map h.halves h.misses) h.bh _ _ k)
 link i k:=m.link _ (th_map h.before h.linked _ _ k)
 fence i k:=m.fence _ (TC.map f (fun a b k=>⟨k.1.elim (fun k=>Or.inl (h.before _ _ k)) (fun k=>Or.inr (th_map (th_map h.before h.linked) h.before _ _ k)),h.fences _ _ k.2⟩) k)
theorem Hom.noHang (h:Hom f X Y) (m:Y.NoHang):X.NoHang:=fun i k=>m _ (TC.map f (fun a b k=>k.elim (fun k=>Or.inl (h.hangs _ _ k)) (fun k=>Or.inr (h.rd _ _ k))) k)
end
end Sys
end Q
end Go.Proofs.YtkmebkbpfmoeaaaGreat
