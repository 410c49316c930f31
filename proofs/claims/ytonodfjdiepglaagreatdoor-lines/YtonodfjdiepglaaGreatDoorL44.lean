import Derived.Test.YtonodfjdiepglaaGreatDoorL43
import Derived.Test.YtonodfjdiepglaaGreatDoorL04
set_option linter.unusedVariables false
set_option linter.unusedSimpArgs false
set_option maxHeartbeats 12800000
namespace Go.Proofs.YtonodfjdiepglaaGreatDoor
open Go Go.RowKit Go.Proofs.Tryz P Q R
set_option maxRecDepth 1000000
variable {W0 w w' w1:World} {B bo cap k n sz:Nat} {e:TypeId} {bv ov tv u u' v:Value} {ovs tvs vs xs ys:List Value} {b l:List Tree} {F G:List Nat} {ls:List (List Tree)} {ts:List R.Th} {fs:List Fr} {f:Fr}
open List renaming length_append→xF,append_assoc→xW,length_cons→x5,map_append→x8,length_nil→x9,map_nil→xb,append_inj'→xc,mem_append_left→xd,mem_append_right→xe,getElem?_append_left→xg,append_nil→xh,set_append_right→xj
open Go.RowKit.Below renaming heap_setCell→xR
open Bool renaming false_eq_true→x4
open Go.Obj renaming cells→x6
open Go.World renaming ownsRow_nil→x7
open Nat renaming zero_add→xa
open Go.Value renaming ownBlock→xi
theorem zLh (h:w.ownsRow B e sz v n xs) (k:w.ownsRow B e sz v n ys):xs=ys:=by
 rcases h.2 with ⟨j,q⟩ | ⟨g,c,p,j,_,r,_,_,_,s⟩
 ·have a:=h.1;have b:=k.1;rw[q] at a b;simp at a b;rw[a,b]
 ·rcases k.2 with ⟨i,_⟩ | ⟨x,t,o,i,_,d,_,_,_,m⟩
  ·rw[j] at i;simp at i
  ·rw[j] at i;simp at i;obtain⟨rfl,rfl⟩:=i;rw[r] at d;simp at d;rw[<- s,<- m,d]
theorem zHo (h:w.ownsRow B e sz (.slice (some ⟨k,0,none⟩) (n+1) cap) (n+1) (xs++ys)) (o:xs.length=n*sz):w.ownsRow B e sz (.slice (some ⟨k,0,none⟩) n cap) n xs:=by
 rcases h.2 with ⟨d,_⟩ | ⟨s,m,a,d,p,q,r,i,j,c⟩
 ·simp at d
 ·simp only[Value.slice.injEq,Option.some.injEq,Addr.mk.injEq,and_true,true_and] at d;obtain⟨rfl,rfl⟩:=d;refine⟨o,.inr ⟨k,cap,a,rfl,p,q,by omega,i,j,?_⟩⟩;have e:a.toList.take (n*sz)=(a.toList.take ((n+1)*sz)).take (n*sz):=by
   rw[List.take_take];congr 1;rw[Nat.add_mul];omega
  rw[e,c,<- o];simp
theorem zAq.eP (h:zAq w B v l F):∀ k∈F,∃ cur,w.heap[k]?=some (.cells cur 44 (0,0)):=by
 induction h using zAq.eG with
 | @row v l vs Fs ho hv hF hc hn ih =>
  intro k a;simp only[List.mem_append,List.mem_flatten,Option.mem_toList] at a
  rcases a with a | ⟨F,c,a⟩
  ·exact eC ho a
  ·obtain⟨i,j,e⟩:=List.mem_iff_getElem.1 c;have d:i<l.length:=by omega
   have g:i<vs.length:=by omega
   exact ih i l[i] vs[i] F (by simp[d]) (by simp[g]) (by simp[j,e]) k a
theorem zAq.pS (h:zAq w B v l F):∃ xs,w.ownsRow B 44 9 v l.length xs:=by
 cases h using zAq.cs with
 | row ho _ _ _ _=>exact⟨_,ho⟩
def zBW (w:World) (B:Nat) (vs:List Value) (ls:List (List Tree)) (G:List Nat):Prop :=
 ∀ M:List Value->List (List Tree)->List Nat->Prop,M [] [] []->(∀ (vs:List Value) (ls:List (List Tree)) (G:List Nat) (u:Value) (l:List Tree) (F:List Nat),M vs ls G->zAq w B u l F->(∀ k∈F,k ∉ G)->M (vs++[u]) (ls++[l]) (G++F))->M vs ls G
theorem zBW.nil:zBW w B [] [] []:=fun _ a _=>a
theorem zBW.bD (h:zBW w B vs ls G) (g:zAq w B u l F) (d:∀ k∈F,k ∉ G):zBW w B (vs++[u]) (ls++[l]) (G++F) :=
 fun M c a=>a _ _ _ _ _ _ (h M c a) g d
theorem zBW.eG {a:∀ (vs:List Value) (ls:List (List Tree)) (G:List Nat),zBW w B vs ls G->Prop} (nil:a [] [] [] zBW.nil)
  (bD:∀ {vs:List Value} {ls:List (List Tree)} {G:List Nat} {u:Value} {l:List Tree} {F:List Nat} (h:zBW w B vs ls G) (g:zAq w B u l F) (d:∀ k∈F,k ∉ G),a vs ls G h->a (vs++[u]) (ls++[l]) (G++F) (zBW.bD h g d))
  {vs:List Value} {ls:List (List Tree)} {G:List Nat} (h:zBW w B vs ls G):a vs ls G h :=
 (h (fun vs ls G=>∃ h:zBW w B vs ls G,a vs ls G h) ⟨_,nil⟩ (fun _ _ _ _ _ _ ⟨h,c⟩ g d=>⟨zBW.bD h g d,bD h g d c⟩)).2
theorem zBW.cs {a:∀ (vs:List Value) (ls:List (List Tree)) (G:List Nat),zBW w B vs ls G->Prop} (nil:a [] [] [] zBW.nil)
  (bD:∀ {vs:List Value} {ls:List (List Tree)} {G:List Nat} {u:Value} {l:List Tree} {F:List Nat} (h:zBW w B vs ls G) (g:zAq w B u l F) (d:∀ k∈F,k ∉ G),a (vs++[u]) (ls++[l]) (G++F) (zBW.bD h g d))
  {vs:List Value} {ls:List (List Tree)} {G:List Nat} (h:zBW w B vs ls G):a vs ls G h:=zBW.eG nil (fun h g d _=>bD h g d) h
theorem zBW.len (h:zBW w B vs ls G):vs.length=ls.length:=by
 induction h using zBW.eG with
 | nil=>rfl
 | bD _ _ _ ih=>simp[ih]
theorem zBW.last (h:zBW w B (vs++[u]) (ls++[l]) G):∃ Ga F,G=Ga++F/\zBW w B vs ls Ga/\zAq w B u l F/\∀ k∈F,k ∉ Ga:=by
 generalize g:vs++[u]=m at h;generalize i:ls++[l]=j at h
 cases h using zBW.cs with
 | nil=>simp at g
 | bD h1 h2 h3 =>
  obtain⟨a,b⟩:=xc g rfl;obtain⟨c,d⟩:=xc i rfl;simp at b d;subst a b c d;exact⟨_,_,rfl,h1,h2,h3⟩
theorem zBW.keep (h:zBW w B vs ls G) (d:∀ k∈G,w'.heap[k]?=w.heap[k]?):zBW w' B vs ls G:=by
 induction h using zBW.eG with
 | nil=>exact .nil
 | bD h1 h2 h3 ih=>exact .bD (ih (fun k c=>d k (xd _ c))) (h2.keep (fun k a=>d k (xe _ a))) h3
theorem zBW.eP (h:zBW w B vs ls G):∀ k∈G,∃ cur,w.heap[k]?=some (.cells cur 44 (0,0)):=by
 induction h using zBW.eG with
 | nil=>simp
 | bD h1 h2 h3 ih =>
  intro k a
  rcases List.mem_append.1 a with a | a
  ·exact ih k a
  ·exact h2.eP k a
theorem zBW.lt (h:zBW w B vs ls G):∀ k∈G,k<w.heap.size:=fun k d=>by
 obtain⟨c,a⟩:=h.eP k d;exact (Array.getElem?_eq_some_iff.1 a).1
theorem zBW.all (h:zBW w B vs ls G):∃ g:List (List Nat),g.length=ls.length/\∀ (i:Nat) (l:List Tree) (u:Value) (F:List Nat),ls[i]?=some l->vs[i]?=some u->g[i]?=some F->zAq w B u l F:=by
 induction h using zBW.eG with
 | nil=>exact⟨[],rfl,by simp⟩
 | @bD vs ls G u l F h1 h2 h3 ih =>
  obtain⟨g,e,o⟩:=ih;have p:=h1.len;refine⟨g++[F],by simp[e],fun i q u' m a d c=>?_⟩;by_cases hi:i<ls.length
  ·rw[xg hi] at a;rw[xg (by omega)] at d c;exact o i q u' m a d c
  ·have j:i=ls.length:=by
    have:=(List.getElem?_eq_some_iff.1 a).1;simp at this;omega
   subst j;rw[List.getElem?_append_right (by omega)] at a d c;simp at a;simp[p] at d;simp[e] at c;subst a d c;exact h2
theorem zBW.put {x:Lh}
  (h:zBW w B (vs++[u]) (ls++[l]) G) (I:zAq w B bv b F) (K:∀ k∈F,k ∉ G)
  (S:w.ownsRow B 44 9 u l.length xs) (N:w'.ownsRow B 44 9 u' (l.length+1) (xs++(bV x bv).toList))
  (M:∀ k,k<w.heap.size->some k≠u.ownBlock->(∃ cur,w.heap[k]?=some (.cells cur 44 (0,0)))->w'.heap[k]?=w.heap[k]?)
  (j:u'.ownBlock=u.ownBlock\/∀ k,u'.ownBlock=some k->w.heap.size<=k) :
  ∃ G',zBW w' B (vs++[u']) (ls++[l++[.mk x b]]) G':=by
 obtain⟨D,H,rfl,q,r,E⟩:=h.last;have o:∀ k,(k∈D\/k∈H\/k∈F)->some k≠u.ownBlock->w'.heap[k]?=w.heap[k]?:=fun k d g=>by
  have O:∃ cur,w.heap[k]?=some (.cells cur 44 (0,0)):=by
   rcases d with d | d | d
   ·exact q.eP k d
   ·exact r.eP k d
   ·exact I.eP k d
  obtain⟨c,J⟩:=O;exact M k (Array.getElem?_eq_some_iff.1 J).1 g ⟨c,J⟩
 have y:∀ k∈H,k ∉ F:=fun k z L=>K k L (xe _ z)
 obtain⟨T,s,p⟩:=zAq.bD (x:=x) r I y (fun vs C=>by rw[zLh C S];exact N) (fun k d g=>o k (Or.inr d) g) j;have m:∀ k∈D,some k≠u.ownBlock:=fun k a e=>E k (r.own k e.symm) a
 refine⟨_,.bD (q.keep (fun k a=>o k (Or.inl a) (m k a))) s (fun k A a=>?_)⟩
 rcases p k A with i | i | i
 ·exact E k i a
 ·exact K k i (xd _ a)
 ·rcases j with t | t
  ·exact m k a (by rw[<- t,i])
  ·have:=t k i;have:=q.lt k a;omega
def nV (a:Int) (v:Value):List Value:=v::(bV (iA a) (.slice none 0 0)).toList
def zBn:List Fr->List Value->List Value
 | f::l,v::vs=>nV f.a v++zBn l vs
 | _,_=>[]
theorem pZ (l:List Fr):∀ (vs:List Value),vs.length=l.length->(zBn l vs).length=l.length*10:=by
 induction l with
 | nil=>intro vs _;simp[zBn]
 | cons t l ih =>
  intro vs h
  cases vs with
  | nil=>simp at h
  | cons v vs =>
   have:=ih vs (by simpa using h);simp only[zBn,xF,this,x5];simp[nV,bV];omega
theorem vR (l m:List Fr):∀ (vs a:List Value),vs.length=l.length->zBn (l++m) (vs++a)=zBn l vs++zBn m a:=by
 induction l with
 | nil =>
  intro vs a h;have:vs=[]:=List.length_eq_zero_iff.1 h;subst this;simp[zBn]
 | cons t l ih =>
  intro vs a h
  cases vs with
  | nil=>simp at h
  | cons v vs=>simp only[List.cons_append,zBn,ih vs a (by simpa using h),xW]
structure RdM (w:World) (B:Nat) (tv ov:Value) (ts:List R.Th) (fs:List Fr) (tvs ovs:List Value) (G:List Nat):Prop where
 th:w.ownsRow B 42 3 tv ts.length (zAX ts tvs)
 fr:w.ownsRow B 46 10 ov fs.length (zBn fs ovs)
 lt:tvs.length=ts.length
 lo:ovs.length=fs.length
 kids:zBW w B (tvs++ovs) (ts.map R.Th.body++fs.map Fr.l) G
theorem RdM.zero (w:World) (B:Nat):RdM w B (.slice none 0 0) (.slice none 0 0) [] [] [] [] [] :=
 ⟨x7 _ _ _ _,x7 _ _ _ _,rfl,rfl,.nil⟩
theorem RdM.keep (h:RdM w B tv ov ts fs tvs ovs G) (a:∀ k,k<w.heap.size->w'.heap[k]?=w.heap[k]?):RdM w' B tv ov ts fs tvs ovs G :=
 ⟨aX h.th (fun k e=>a k (h.th.lt k e).2),aX h.fr (fun k e=>a k (h.fr.lt k e).2),h.lt,h.lo,h.kids.keep (fun k c=>a k (h.kids.lt k c))⟩
theorem lM (h:w.ownsRow B e sz v n xs) (m:∀ k,k<w.heap.size->W0.heap[k]?=w.heap[k]?) (o:w.heap.size<=W0.heap.size) (a:W0.grownBy w1 v.ownBlock)
  {c:Array Value} {i:TypeId} (j:w.heap[k]?=some (.cells c i (0,0))) (g:e≠i):w1.heap[k]?=w.heap[k]?:=by
 have d:=(Array.getElem?_eq_some_iff.1 j).1;rw[a.block k (by omega) (Ne.symm (mJ h j g)),m k d]
theorem RdM.thread {i:Value} {b row:Int} (h:RdM w B tv ov ts [] tvs ovs G) (o:∀ k,k<w.heap.size->W0.heap[k]?=w.heap[k]?) (g:w.heap.size<=W0.heap.size)
  (d:w1.ownsRow B 42 3 i (ts.length+1) (zAX ts tvs++[.int .i64 b,.slice none 0 0,.int .i64 row])) (a:W0.grownBy w1 tv.ownBlock) :
  RdM w1 B i ov (ts++[⟨b,[],row⟩]) [] (tvs++[.slice none 0 0]) ovs G:=by
 have r:ovs=[]:=List.length_eq_zero_iff.1 h.lo;subst r;refine⟨?_,?_,by simp[h.lt],rfl,?_⟩
 ·rw[BE _ _ _ _ h.lt,xF];simpa [zAX] using d
 ·refine aX h.fr (fun k e=>?_);obtain⟨c,j⟩:=eC h.fr e;exact lM h.th o g a j (by decide)
 ·have p:=h.kids.keep (w':=w1) (fun k m=>by
   obtain⟨c,j⟩:=h.kids.eP k m;exact lM h.th o g a j (by decide))
  have q:=zBW.bD p (zAq.nil w1 B) (by simp);simpa using q
theorem RdM.branch {j:Value} {a:Int} (h:RdM w B tv ov ts fs tvs ovs G) (p:∀ k,k<w.heap.size->W0.heap[k]?=w.heap[k]?) (i:w.heap.size<=W0.heap.size)
  (g:w1.ownsRow B 46 10 j (fs.length+1) (zBn fs ovs++nV a (.slice none 0 0))) (d:W0.grownBy w1 ov.ownBlock) :
  RdM w1 B tv j ts (fs++[⟨[],a⟩]) tvs (ovs++[.slice none 0 0]) G:=by
 refine⟨?_,?_,h.lt,by simp[h.lo],?_⟩
 ·refine aX h.th (fun k e=>?_);obtain⟨c,m⟩:=eC h.th e;exact lM h.fr p i d m (by decide)
 ·rw[vR _ _ _ _ h.lo,xF];simpa [zBn] using g
 ·have q:=h.kids.keep (w':=w1) (fun k o=>by
   obtain⟨c,m⟩:=h.kids.eP k o;exact lM h.fr p i d m (by decide))
  have r:=zBW.bD q (zAq.nil w1 B) (by simp);simpa using r
theorem RdM.pop (h:RdM w B tv (.slice (some ⟨bo,0,none⟩) (n+1) cap) ts (fs++[f]) tvs (ovs++[u]) G) (o:n=fs.length) :
  ∃ c F,RdM w B tv (.slice (some ⟨bo,0,none⟩) n cap) ts fs tvs ovs c/\zAq w B u f.l F/\∀ k∈F,k ∉ c:=by
 subst o;have a:ovs.length=fs.length:=by simpa using h.lo
 have g:=h.kids;rw[x8,<- xW,<- xW] at g;obtain⟨c,F,_,i,j,m⟩:=zBW.last g;refine⟨c,F,⟨h.th,?_,h.lt,a,i⟩,j,m⟩;have d:=h.fr;rw[vR _ _ _ _ a] at d;simp only[xF,x5,x9,xa] at d;exact zHo d (pZ _ _ a)
theorem RdM.ER {m:Nat} {a:List R.Th} {t:R.Th} {i:List Value} {x:Lh}
  (h:RdM w B (.slice (some ⟨m,0,none⟩) (n+1) cap) ov (a++[t]) [] (i++[u]) ovs G) (W:n=a.length) (U:zAq w B bv b F) (V:∀ k∈F,k ∉ G)
  (I:∀ k,k<w.heap.size->W0.heap[k]?=w.heap[k]?) (D:w.heap.size<=W0.heap.size)
  (L:w.ownsRow B 44 9 u t.body.length xs) (M:w1.ownsRow B 44 9 u' (t.body.length+1) (xs++(bV x bv).toList)) (d:W0.grownBy w1 u.ownBlock)
  (H:u'.ownBlock=u.ownBlock\/∀ k,u'.ownBlock=some k->w.heap.size<=k) :
  ∃ E,RdM (w1.setCell ⟨m,n*3+1,none⟩ u') B (.slice (some ⟨m,0,none⟩) (n+1) cap) ov (a++[{ t with body:=t.body++[.mk x b] }]) [] (i++[u']) ovs E:=by
 subst W;have K:ovs=[]:=List.length_eq_zero_iff.1 h.lo;subst K;have o:i.length=a.length:=by simpa using h.lt
 have s:=h.th;simp only[xF,x5,x9,xa] at s;obtain⟨N,g⟩:=eC s (k:=m) rfl;have q:w1.heap[m]?=w.heap[m]?:=lM L I D d g (by decide);have y:∀ k c e,w.heap[k]?=some (x6 c e (0,0))->e≠42->e≠44->(w1.setCell ⟨m,a.length*3+1,none⟩ u').heap[k]?=w.heap[k]?:=fun k c e j z r=>by
  rw[xR _ _ _ _ (fun p=>by simp at p;subst p;rw[g] at j;simp at j;exact z j.2.symm)];exact lM L I D d j (Ne.symm r)
 have line:∀ k,(∃ c,w.heap[k]?=some (x6 c 44 (0,0)))->(w1.setCell ⟨m,a.length*3+1,none⟩ u').heap[k]?=w1.heap[k]?:=fun k ⟨c,j⟩ =>
  xR _ _ _ _ (fun p=>by simp at p;subst p;rw[g] at j;simp at j)
 have J:(w1.setCell ⟨m,a.length*3+1,none⟩ u').ownsRow B 44 9 u' (t.body.length+1) (xs++(bV x bv).toList):=aX M (fun k e=>xR _ _ _ _ (fun p=>by
  simp at p;subst p;obtain⟨c,j⟩:=eC M e;rw[q,g] at j;simp at j))
 have C:=h.kids;simp only[xh,x8,List.map_cons,xb] at C;obtain⟨E,T⟩:=zBW.put (w':=w1.setCell ⟨m,a.length*3+1,none⟩ u') (x:=x) C U V L J (fun k z r S=>by rw[line k S,d.block k (by omega) r,I k z]) H;refine⟨E,?_,?_,by simp[o],rfl,by simpa using T⟩
 ·have z:w1.ownsRow B 42 3 (.slice (some ⟨m,0,none⟩) (a.length+1) cap) (a.length+1) (zAX (a++[t]) (i++[u])):=aX s (fun k A=>by
   simp[xi] at A;subst A;exact q)
  have r:=(z.stored (a.length*3+1) u').1;rw[BE _ _ _ _ o] at r ⊢;have O:(zAX a i++zAX [t] [u]).set (a.length*3+1) u'=zAX a i++zAX [{ t with body:=t.body++[.mk x b] }] [u']:=by
   rw[xj _ _ (by rw[xH _ _ o];omega),xH _ _ o,show a.length*3+1-a.length*3=1 by omega];rfl
  rw[O] at r;simpa using r
 ·refine aX h.fr (fun k e=>?_);obtain⟨c,j⟩:=eC h.fr e;exact y k c _ j (by decide) (by decide)
theorem RdM.AH {x:Lh}
  (h:RdM w B tv (.slice (some ⟨bo,0,none⟩) (n+1) cap) ts (fs++[f]) tvs (ovs++[u]) G) (O:n=fs.length) (M:zAq w B bv b F) (N:∀ k∈F,k ∉ G)
  (C:∀ k,k<w.heap.size->W0.heap[k]?=w.heap[k]?) (y:w.heap.size<=W0.heap.size)
  (E:w.ownsRow B 44 9 u f.l.length xs) (H:w1.ownsRow B 44 9 u' (f.l.length+1) (xs++(bV x bv).toList)) (a:W0.grownBy w1 u.ownBlock)
  (A:u'.ownBlock=u.ownBlock\/∀ k,u'.ownBlock=some k->w.heap.size<=k) :
  ∃ z,RdM (w1.setCell ⟨bo,n*10,none⟩ u') B tv (.slice (some ⟨bo,0,none⟩) (n+1) cap) ts (fs++[{ f with l:=f.l++[.mk x b] }]) tvs (ovs++[u']) z:=by
 subst O;have i:ovs.length=fs.length:=by simpa using h.lo
 have q:=h.fr;simp only[xF,x5,x9,xa] at q;obtain⟨I,d⟩:=eC q (k:=bo) rfl;have m:w1.heap[bo]?=w.heap[bo]?:=lM E C y a d (by decide);have r:∀ k c e,w.heap[k]?=some (x6 c e (0,0))->e≠46->e≠44->(w1.setCell ⟨bo,fs.length*10,none⟩ u').heap[k]?=w.heap[k]?:=fun k c e g s o=>by
  rw[xR _ _ _ _ (fun j=>by simp at j;subst j;rw[d] at g;simp at g;exact s g.2.symm)];exact lM E C y a g (Ne.symm o)
 have line:∀ k,(∃ c,w.heap[k]?=some (x6 c 44 (0,0)))->(w1.setCell ⟨bo,fs.length*10,none⟩ u').heap[k]?=w1.heap[k]?:=fun k ⟨c,g⟩ =>
  xR _ _ _ _ (fun j=>by simp at j;subst j;rw[d] at g;simp at g)
 have D:(w1.setCell ⟨bo,fs.length*10,none⟩ u').ownsRow B 44 9 u' (f.l.length+1) (xs++(bV x bv).toList):=aX H (fun k e=>xR _ _ _ _ (fun j=>by
  simp at j;subst j;obtain⟨c,g⟩:=eC H e;rw[m,d] at g;simp at g))
 have p:=h.kids;rw[x8,<- xW,<- xW] at p;simp only[List.map_cons,xb] at p;obtain⟨z,L⟩:=zBW.put (w':=w1.setCell ⟨bo,fs.length*10,none⟩ u') (x:=x) p M N E D (fun k s o K=>by rw[line k K,a.block k (by omega) o,C k s]) A;refine⟨z,?_,?_,h.lt,by simp[i],by simpa using L⟩
 ·refine aX h.th (fun k e=>?_);obtain⟨c,g⟩:=eC h.th e;exact r k c _ g (by decide) (by decide)
 ·have s:w1.ownsRow B 46 10 (.slice (some ⟨bo,0,none⟩) (fs.length+1) cap) (fs.length+1) (zBn (fs++[f]) (ovs++[u])):=aX q (fun k t=>by
   simp[xi] at t;subst t;exact m)
  have o:=(s.stored (fs.length*10) u').1;rw[vR _ _ _ _ i] at o ⊢;have J:(zBn fs ovs++zBn [f] [u]).set (fs.length*10) u'=zBn fs ovs++zBn [{ f with l:=f.l++[.mk x b] }] [u']:=by
   rw[xj _ _ (by rw[pZ _ _ i];omega),pZ _ _ i,show fs.length*10-fs.length*10=0 by omega];rfl
  rw[J] at o;simpa using o
theorem RdM.done (h:RdM w B tv ov ts [] tvs ovs G):∃ a,ThsAt w B tv ts tvs a:=by
 have c:ovs=[]:=List.length_eq_zero_iff.1 h.lo;subst c;have d:=h.kids;simp only[xh,xb] at d;obtain⟨a,m,g⟩:=d.all;refine⟨a,h.th,h.lt,by simpa using m,fun i t u F o p j=>g i t.body u F ?_ p j⟩;rw[List.getElem?_map,o];rfl
theorem zLj (b off cap:Nat) (c e d s t:ByteArray) (w:World) (Z:zAp w b off ([c,e,d,s,t])) (g:b<w.heap.size) (ab:(c.toList==[98,97,114,114,105,101,114])=false) (ac:(c.toList==[102,101,110,99,101])=false) (ad:(c.toList==[115,116,111,114,101])=false) (he:(e.toList==[61])=true) (hl:(d.toList==[108,111,97,100])=false) :
  Calls prog 13 #[.slice (some ⟨b,off,none⟩) 5 cap] w fun e w'=>e=.returned (jN (mU c d s t))/\Below w.heap.size w w':=by
 obtain⟨aa,_,N⟩:=Z.head;have S0:=zAa (StAt.start w b off ([c,e,d,s,t]) x0 Z);obtain⟨X,_,_⟩:=N.head;clear Z N;have cl:((d.toList==[97,100,100])=true)\/((d.toList==[97,100,100])=false/\(d.toList==[115,119,97,112])=true)\/((d.toList==[97,100,100])=false/\(d.toList==[115,119,97,112])=false):=by
  cases x2:(d.toList==[97,100,100])<;>cases x3:(d.toList==[115,119,97,112])<;>simp
 rcases cl with y2 | ⟨y2,y3⟩ | ⟨y2,y3⟩
 all_goals
  go_enter func13,ntmps13;go_wp2_with fail;refine (fL c regs _ _ rfl (by simp)).mono ?_;rintro e w1 ⟨rfl,E⟩;have O:=StAt.below S0.out E;obtain⟨A,C,i,j,m,o,q,r,x,y,z⟩:=O.xat.facts;have d2:=O.words 2 d rfl;have J:b<w1.heap.size:=by have:=O.bel.size;omega
  have S1:=zAa O;clear O E S0 X;go_wp2_with fail;have s2:=(S1.out.set { x0 with reg:=inn c.toList regs } g 1 (.int .i64 (inn c.toList regs)) rfl).set { x0 with reg:=inn c.toList regs,op:=kAA } g 0 (.string kAA) rfl;refine (nY d _).mono ?_;rintro e w2 ⟨rfl,H⟩;have T:=s2.below H;clear i j m o q r x y z A C;obtain⟨A,C,i,j,m,o,q,r,x,y,z⟩:=T.xat.facts;have d3:=T.words 3 s rfl;have K:b<w2.heap.size:=by have:=T.bel.size;omega
  have S3:=zAa T;clear T s2 H S1 d2 J;go_wp2_with fail;have s4:=(S3.out.set { x0 with reg:=inn c.toList regs,op:=kAA,a:=(aW d.toList).1 } g 3 (.int .i64 (aW d.toList).1) rfl).set { x0 with reg:=inn c.toList regs,op:=kAA,a:=(aW d.toList).1,sign:=s } g 5 (.string s) rfl;refine (fL s iZ _ _ rfl (by simp)).mono ?_;rintro e w4 ⟨rfl,I⟩;have U:=s4.below I;clear i j m o q r x y z A C;obtain⟨A,C,i,j,m,o,q,r,x,y,z⟩:=U.xat.facts;have d4:=U.words 4 t rfl;have L:b<w4.heap.size:=by have:=U.bel.size;omega
  have S5:=zAa U;clear U s4 I S3 d3 K;go_wp2_with fail;refine (nY t _).mono ?_;rintro e w5 ⟨rfl,D⟩;have s6:=S5.out.below D;clear i j m o q r x y z A C;obtain⟨A,C,i,j,m,o,q,r,x,y,z⟩:=s6.xat.facts;have S6:=zAa s6;clear s6 D S5 d4 L;have S:StAt w (w5.setCell ⟨w.heap.size+1,4,none⟩ (.int .i64 (aW t.toList).1)) b off [c,e,d,s,t] { x0 with reg:=inn c.toList regs,op:=kAA,a:=(aW d.toList).1,sign:=s,b:=(aW t.toList).1 }:=S6.out.set { x0 with reg:=inn c.toList regs,op:=kAA,a:=(aW d.toList).1,sign:=s,b:=(aW t.toList).1 } g 4 (.int .i64 (aW t.toList).1) rfl;clear i j m o q r x y z A C;obtain⟨A,C,i,j,m,o,q,r,x,y,z⟩:=S6.out.xat.facts;have HE:Hid (mU c d s t=({ x0 with reg:=inn c.toList regs,op:=kAA,a:=(aW d.toList).1,sign:=s,b:=(aW t.toList).1 },decide (0<=inn c.toList regs)&&(aW d.toList).2&&(aW t.toList).2&&decide (0<=inn s.toList iZ))):=rfl;generalize (aW d.toList).2=W at *;generalize (aW t.toList).2=o2 at *;have cc:decide (0<=inn c.toList regs)=false\/(decide (0<=inn c.toList regs)=true/\W=false)\/(decide (0<=inn c.toList regs)=true/\W=true/\o2=false)\/(decide (0<=inn c.toList regs)=true/\W=true/\o2=true):=by
   cases decide (0<=inn c.toList regs)<;>cases W<;>cases o2<;>simp
  rcases cc with V | ⟨V,rfl⟩ | ⟨V,rfl,rfl⟩ | ⟨V,rfl,rfl⟩
  all_goals
   go_wp2_with (first | (refine oV (.tmp 4) rfl rfl (w.heap.size+1) _ (.slice none 0 0) rfl S.xat ?_) | (refine nL (.tmp 2) (.tmp 212) rfl rfl w.heap.size _ _ (.slice none 0 0) (.slice none 0 0) rfl rfl rfl (by exact S.res) ?_;intro w9 Y M));rw[HE.out];refine eR (p:=2) (u:=3) w.heap.size { x0 with reg:=inn c.toList regs,op:=kAA,a:=(aW d.toList).1,sign:=s,b:=(aW t.toList).1 } _ (by kernel_rfl) rfl rfl Y rfl ⟨by rw[V];rfl,S.done M⟩
theorem zHp (b off n cap:Nat) (c e d:ByteArray) (r:List ByteArray) (w:World) (D:zAp w b off (c::e::d::r)) (j:(c::e::d::r).length=n) (g:b<w.heap.size) (ai:(c.toList==[98,97,114,114,105,101,114])=false) (aj:(c.toList==[102,101,110,99,101])=false) (i:(c.toList==[115,116,111,114,101]&&decide (4<=n))=false) (he:(e.toList==[61])=true) (h3:¬ n=3) (h5:¬ n=5) (A:(d.toList==[108,111,97,100]&&decide (5<=n))=false) (ha:((d.toList==[97,100,100]||d.toList==[115,119,97,112])&&decide (6<=n))=false) :
  Calls prog 13 #[.slice (some ⟨b,off,none⟩) n cap] w fun e w'=>e=.returned (jN (yP c d))/\Below w.heap.size w w':=by
 obtain⟨ad,_,x⟩:=D.head;have K:=zAa (StAt.start w b off (c::e::d::r) x0 D);obtain⟨z,_,_⟩:=x.head;have af:0<n:=by simp at j;omega
 have ag:(1:Int)<(n:Int):=by simp at j;omega
 have ah:(2:Int)<(n:Int):=by simp at j;omega
 have t:¬ (n:Int)<3:=by simp at j;omega
 have ae:decide ((n:Int)<3)=false:=decide_eq_false t;have ab:((n:Int)==3)=false:=by simp;omega
 have ac:((n:Int) != 5)=true:=by rw[bne_iff_ne];omega
 have aa:(c.toList==[115,116,111,114,101])=false:=by
  have h4:decide (4<=n)=true:=by simp at j ⊢;omega
  rw[h4] at i;simpa using i
 clear i j x D;have cl:((d.toList==[108,111,97,100])=true/\(d.toList==[97,100,100])=false/\(d.toList==[115,119,97,112])=false/\¬ (4:Int)<(n:Int))\/((d.toList==[108,111,97,100])=false/\(d.toList==[97,100,100])=true/\¬ (5:Int)<(n:Int))\/((d.toList==[108,111,97,100])=false/\(d.toList==[97,100,100])=false/\(d.toList==[115,119,97,112])=true/\¬ (5:Int)<(n:Int))\/((d.toList==[108,111,97,100])=false/\(d.toList==[97,100,100])=false/\(d.toList==[115,119,97,112])=false):=by
  cases x1:(d.toList==[108,111,97,100])
  ·cases x2:(d.toList==[97,100,100])<;>cases x3:(d.toList==[115,119,97,112])<;>simp[x2,x3] at ha ⊢<;>omega
  ·have:d.toList=[108,111,97,100]:=by simpa using x1
   left;rw[x1] at A;rw[this];refine⟨rfl,by decide,by decide,?_⟩;simp at A;omega
 clear A ha h3 h5
 rcases cl with ⟨H,I,J,y4⟩ | ⟨H,I,J⟩ | ⟨H,I,J,y4⟩ | ⟨H,I,J⟩
 all_goals
  go_enter func13,ntmps13;go_wp2_with fail;refine (fL c regs _ _ rfl (by simp)).mono ?_;rintro e w1 ⟨rfl,m⟩;have y:=StAt.below K.out m;obtain⟨Z,f2,M,N,O,T,U,V,W,X,Y⟩:=y.xat.facts;have d2:=y.words 2 d rfl;have q:b<w1.heap.size:=by have:=y.bel.size;omega
  have L:=zAa y;clear y m K z;go_wp2_with fail;have s2:=(L.out.set { x0 with reg:=inn c.toList regs } g 1 (.int .i64 (inn c.toList regs)) rfl).set { x0 with reg:=inn c.toList regs,op:=kAA } g 0 (.string kAA) rfl;refine (nY d _).mono ?_;rintro e w2 ⟨rfl,o⟩;have E:=s2.below o;clear M N O T U V W X Y Z f2;obtain⟨Z,f2,M,N,O,T,U,V,W,X,Y⟩:=E.xat.facts;have S3:=zAa E;clear E s2 o L d2 q;have S:StAt w (w2.setCell ⟨w.heap.size+1,3,none⟩ (.int .i64 (aW d.toList).1)) b off (c::e::d::r) { x0 with reg:=inn c.toList regs,op:=kAA,a:=(aW d.toList).1 }:=S3.out.set { x0 with reg:=inn c.toList regs,op:=kAA,a:=(aW d.toList).1 } g 3 (.int .i64 (aW d.toList).1) rfl;have HE:Hid (yP c d=({ x0 with reg:=inn c.toList regs,op:=kAA,a:=(aW d.toList).1 },false)):=rfl;go_wp2_with (first | (refine oV (.tmp 4) rfl rfl (w.heap.size+1) _ (.slice none 0 0) rfl S.xat ?_) | (refine nL (.tmp 2) (.tmp 194) rfl rfl w.heap.size _ _ (.slice none 0 0) (.slice none 0 0) rfl rfl rfl (by exact S.res) ?_;intro w9 C s));rw[HE.out];exact eR (p:=2) (u:=3) w.heap.size { x0 with reg:=inn c.toList regs,op:=kAA,a:=(aW d.toList).1 } false (by kernel_rfl) rfl rfl C rfl ⟨rfl,S.done s⟩
theorem zLk (b off n cap:Nat) (c:ByteArray) (r:List ByteArray) (w:World) (g:zAp w b off (c::r)) (i:(c::r).length=n) (H:n<=cap) (a:b<w.heap.size) :
  Calls prog 13 #[.slice (some ⟨b,off,none⟩) n cap] w fun e w'=>e=.returned (jN (fG c r))/\Below w.heap.size w w':=by
 have m:r.length+1=n:=by simpa using i
 unfold fG
 cases hk0:(c.toList==[98,97,114,114,105,101,114])
 rotate_left
 ·exact zGH b off n cap c r w g i a hk0
 cases hk1:(c.toList==[102,101,110,99,101])
 rotate_left
 ·exact zJq b off n cap c r w g i H a hk0 hk1
 simp only[x4,if_false]
 cases hks:(c.toList==[115,116,111,114,101]&&decide (3<=r.length))
 rotate_left
 ·simp only[if_true];obtain⟨D,C⟩:(c.toList==[115,116,111,114,101])=true/\3<=r.length:=by simpa using hks
  match r,g,i,m,C with
  | p::v::q,g,i,m,C=>exact zJr b off n cap c p v q w g i H a (by omega) hk0 hk1 D
 simp only[x4,if_false];have j:(c.toList==[115,116,111,114,101]&&decide (4<=n))=false:=by
  rw[<- hks];congr 2;simp;omega
 match r,g,i,m with
 | [],g,i,m=>exact zFT b off n cap c [] w g i a hk0 hk1 (by simp at m;omega)
 | [x],g,i,m=>exact zFT b off n cap c [x] w g i a hk0 hk1 (by simp at m;omega)
 | e::d::q,g,i,m =>
  simp only[]
  cases he:(e.toList==[61])
  ·simp only[x4,if_false];exact zKl b off n cap c e d q w g i a hk0 hk1 j he
  simp only[if_true];unfold kJ;have o:q.length+3=n:=by simp at m;omega
  cases hl:(d.toList==[108,111,97,100]&&decide (2<=q.length))
  rotate_left
  ·simp only[if_true];obtain⟨D,C⟩:(d.toList==[108,111,97,100])=true/\2<=q.length:=by simpa using hl
   match q,g,i,o,C with
   | p::t,g,i,o,C=>exact zKm b off n cap c e d p t w g i H a (by omega) hk0 hk1 j he D
  simp only[x4,if_false];have A:(d.toList==[108,111,97,100]&&decide (5<=n))=false:=by
   rw[<- hl];congr 2;simp;omega
  cases ha:((d.toList==[97,100,100]||d.toList==[115,119,97,112])&&decide (3<=q.length))
  rotate_left
  ·simp only[if_true];obtain⟨D,C⟩:(d.toList==[97,100,100]||d.toList==[115,119,97,112])=true/\3<=q.length:=by simpa using ha
   have I:(d.toList==[108,111,97,100])=false:=by
    have:decide (5<=n)=true:=by simp;omega
    rw[this] at A;simpa using A
   match q,g,i,o,C with
   | p::v::t,g,i,o,C =>
    cases hda:(d.toList==[97,100,100])
    ·exact zKn b off n cap c e d p v t w g i H a (by omega) hk0 hk1 j he I hda (by simpa [hda] using D)
    ·exact zLi b off n cap c e d p v t w g i H a (by omega) hk0 hk1 j he I hda
  simp only[x4,if_false];have E:((d.toList==[97,100,100]||d.toList==[115,119,97,112])&&decide (6<=n))=false:=by
   rw[<- ha];congr 2;simp;omega
  match q,g,i,o with
  | [],g,i,o =>
   have J:n=3:=by simpa using o.symm
   subst J
   cases hst:(c.toList==[115,116,111,114,101])
   ·exact zJs b off cap c e d w g a hk0 hk1 he hst
   ·exact zJt b off cap c e d w g a hk0 hk1 he hst
  | [x],g,i,o=>exact zHp b off n cap c e d [x] w g i a hk0 hk1 j he (by simp at o;omega) (by simp at o;omega) A E
  | [s,t],g,i,o =>
   have K:n=5:=by simpa using o.symm
   subst K;exact zLj b off cap c e d s t w g a hk0 hk1 (by simpa using j) he (by simpa using A)
  | x::y::z::t,g,i,o=>exact zHp b off n cap c e d (x::y::z::t) w g i a hk0 hk1 j he (by simp at o;omega) (by simp at o;omega) A E
theorem Tryz.infoTh:(prog.info? 42).map (fun i=>(i.zero,i.size,i.bytes))=some (some (.agg #[.int .i64 0,.slice none 0 0,.int .i64 0]),3,40):=by kernel_rfl
theorem Tryz.infoFr:(prog.info? 46).map (fun i=>(i.zero,i.size,i.bytes))=some (some (.agg (#[.slice none 0 0]++bV z0 (.slice none 0 0))),10,144):=by kernel_rfl
theorem zBG.oG {g:Nat} {x:Lh} (h:zBG w g x bv) (u:Value):zBG (w.setCell ⟨g,8,none⟩ u) g x u:=by
 unfold zBG at *;rw[bH h];rfl
theorem zHq (n:Int) (k:Nat) (w:World) (j:10<=n) (h:n<10000) (m:k<10) (ih:∀ w:World,Calls prog 9 #[.int .i64 (n / 10)] w fun e w'=>∃ s,e=.returned (.string s)/\fM k s (bP (n / 10))/\Below w.heap.size w w') :
  Calls prog 9 #[.int .i64 n] w fun e w'=>∃ s,e=.returned (.string s)/\fM (k+1) s (bP n)/\Below w.heap.size w w':=by
 have o:=zT w (48+n % 10) (by omega) (by omega);have a:bP n=bP (n / 10)++[UInt8.ofNat (48+n % 10).toNat]:=by
  unfold bP;rw[CP _ (by omega)];rw[show n.toNat / 10=(n / 10).toNat by omega,show 48+n.toNat % 10=(48+n % 10).toNat by omega]
 have d:=zAa a;have g:=zAa ih;clear a ih;go_enter func9,ntmps9;go_wp2_with (first | (go_at_call 9;refine (g.out _).mono ?_;rintro e w1 ⟨s,rfl,c,i⟩;have p:=c.size));go_ret;refine⟨_,rfl,⟨?_,?_⟩,((Below.refl _ _).alloc (Nat.le_refl _) _).trans (i.mono (by simp))⟩
 ·rw[kO,c.1,d.out,aP]
 ·simp[kA];omega
theorem zKo (n:Int) (w:World) (m:0<=n) (h:n<10000) :
  Calls prog 9 #[.int .i64 n] w fun e w'=>∃ s,e=.returned (.string s)/\fM 4 s (bP n)/\Below w.heap.size w w':=by
 have o:∀ {k:Nat} {n:Int} {w:World},k<=4->(Calls prog 9 #[.int .i64 n] w fun e w'=>∃ s,e=.returned (.string s)/\fM k s (bP n)/\Below w.heap.size w w')->Calls prog 9 #[.int .i64 n] w fun e w'=>∃ s,e=.returned (.string s)/\fM 4 s (bP n)/\Below w.heap.size w w':=fun p c=>by
  refine c.mono ?_;rintro e w' ⟨s,rfl,d,g⟩;exact⟨s,rfl,⟨d.1,by have:=d.2;omega⟩,g⟩
 have i:∀ (n:Int) (w:World),0<=n->n<100->Calls prog 9 #[.int .i64 n] w fun e w'=>∃ s,e=.returned (.string s)/\fM 2 s (bP n)/\Below w.heap.size w w':=fun n w a b=>zJQ n w a b
 have j:∀ (n:Int) (w:World),0<=n->n<1000->Calls prog 9 #[.int .i64 n] w fun e w'=>∃ s,e=.returned (.string s)/\fM 3 s (bP n)/\Below w.heap.size w w':=fun n w a b=>by
  by_cases c:n<100
  ·refine (i n w a c).mono ?_;rintro e w' ⟨s,rfl,d,g⟩;exact⟨s,rfl,⟨d.1,by have:=d.2;omega⟩,g⟩
  ·exact zHq n 2 w (by omega) (by omega) (by omega) (fun w=>i (n / 10) w (by omega) (by omega))
 by_cases c:n<1000
 ·exact o (by omega) (j n w m c)
 ·exact zHq n 3 w (by omega) h (by omega) (fun w=>j (n / 10) w (by omega) (by omega))
namespace R
def nR (last:Option (List UInt8)):Option AS × Int->List Th × Int × Int
 | (none,i)=>([],2,i)
 | (some a,n)=>if last≠some []\/n=0\/a.s.opn≠[] then ([],2,n+1) else qV a.s.ts
theorem kID {l:List UInt8} (h:¬ 2000<l.length):kCZ l=nR (zMi 10 l).getLast? (fZ AS.zero 0 (zMi 10 l).dropLast):=by
 unfold kCZ nR;rw[if_neg h];generalize fZ AS.zero 0 (zMi 10 l).dropLast=o;obtain⟨o,n⟩:=o
 cases o<;>rfl
end R
structure AsM (w:World) (B:Nat) (a:AS) (tv ov nv:Value) (tvs ovs:List Value) (G:List Nat) (nms:List ByteArray):Prop where
 mem:RdM w B tv ov a.s.ts a.s.opn tvs ovs G
 nm:w.ownsRow B 9 1 nv nms.length (nms.map Value.string)
 eq:nms.map ByteArray.toList=a.nm
 sz:SzA a.s
def zFs (s:ByteArray) (w:World) (e:Ending) (w':World):Prop :=
 ∃ tv,e=.returned (.tuple #[tv,.int .i64 (kCZ s.toList).2.1,.int .i64 (kCZ s.toList).2.2])/\(∃ a q cc,tv=.slice a q cc)/\Below w.heap.size w w'
theorem AsM.zero (w:World) (B:Nat):AsM w B AS.zero (.slice none 0 0) (.slice none 0 0) (.slice none 0 0) [] [] [] [] :=
 ⟨RdM.zero w B,x7 _ _ _ _,rfl,SzA.zero⟩
end Go.Proofs.YtonodfjdiepglaaGreatDoor
