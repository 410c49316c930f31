import Derived.Test.YtonodfjdiepglaaGreatDoorL50
set_option linter.unusedVariables false
set_option linter.unusedSimpArgs false
set_option maxHeartbeats 12800000
namespace Go.Proofs.YtonodfjdiepglaaGreatDoor
open Go Go.RowKit Go.Proofs.Tryz P Q R
set_option maxRecDepth 1000000
variable {e:Ev} {j k lim m n t:Nat} {g':Nat->GT} {v y:Int} {st:Stm} {rs:List Stm} {f h:Nat->Nat} {ts:List Thr}
open Or renaming inl→xF,inr→xR
open List renaming range→xW,length_append→x2,getElem_mem→x4,getD_eq_getElem?_getD→x6
open Nat renaming le_refl→x1,le_of_lt_succ→x7,lt_of_lt_of_le→x8
open Bool renaming false_eq_true→x5
namespace Q
def InT (x:GT) (e:Ev) (t:Nat):Prop:=∃ j,j<x.es.length/\e=ev x.es j/\t=x.T j
def GE (n:Nat) (g:Nat->GT) (e:Ev) (t:Nat):Prop:=(∃ i:Nat,i<3/\e=zMN (i:Int)/\t=i)\/∃ k,k<n/\InT (g k) e t
def kGp (n:Nat) (g:Nat->GT) (v:Int) (lim:Nat) (y:Int) (t:Nat):Prop:=∃ e,GE n g e t/\e.kind=1/\e.var=v/\e.value=y/\t<lim/\∀ e' t',GE n g e' t'->e'.kind=1->e'.var=v->t'<lim->t'<=t
structure GInv (ts:List Thr) (g:Nat->GT) (mem:Int->Int) (now:Nat) (R:Int->Int->Nat):Prop where
 now3:3<=now
 th:∀ k,k<ts.length->TInv (ts.getD k kAD) k now (g k)
 inj:∀ k k' j j',k<ts.length->k'<ts.length->j<(g k).es.length->j'<(g k').es.length->(ev (g k).es j).kind<3->(ev (g k').es j').kind<3->(g k).T j=(g k').T j'->k=k'
 bar:∀ k j,k<ts.length->j<(g k).es.length->((ev (g k).es j).kind=3\/(ev (g k).es j).kind=4)->(ev (g k).es j).block=(ts.getD k kAD).block/\(ev (g k).es j).bars<((g k).p.1.bars:Int)/\(g k).T j=R (ev (g k).es j).block (ev (g k).es j).bars+if (ev (g k).es j).kind=3 then 0 else 1
 bars:∀ k k',k<ts.length->k'<ts.length->(ts.getD k kAD).block=(ts.getD k' kAD).block->(g k).p.1.bars=(g k').p.1.bars
 rd:∀ e t,GE ts.length g e t->e.kind=0->∃ t',kGp ts.length g e.var t e.value t'
 mem:∀ v,0<=v->v<3->(0<=mem v/\mem v<4)/\∃ t,kGp ts.length g v now (mem v) t
section
variable {ts:List P.Thr} {g:Nat->GT} {mem:Int->Int} {now:Nat} {R:Int->Int->Nat}
theorem GInv.lt (h:GInv ts g mem now R) (k:GE ts.length g e t):t<now:=by
 rcases k with ⟨i,c,_,rfl⟩ | ⟨k,b,j,a,_,rfl⟩
 ·have:=h.now3;omega
 ·exact ((h.th k b).lo j a).2
theorem AA (h:GInv ts g mem now R) (S:Nat->Bool) (a:Nat->Stm) (r:Nat->Nat) (u:∀ k,k<ts.length->g' k=if S k=true then (g k).cZ (a k) now (r k) else g k) :
  GE ts.length g' e t ↔ GE ts.length g e t\/∃ k,k<ts.length/\S k=true/\∃ j,j<(dM (g k).p (a k) (r k)).length/\e=ev (dM (g k).p (a k) (r k)) j/\t=now+j:=by
 constructor
 ·rintro (s | ⟨k,b,j,l,d,i⟩)
  ·exact xF (xF s)
  ·have x:=(h.th k b).len;rw[u k b] at l d i;by_cases c:S k=true
   ·rw[if_pos c] at l d i;by_cases c2:j<(g k).es.length
    ·obtain⟨o,q⟩:=oO x (a k) now (r k) c2;exact xF (xR ⟨k,b,j,c2,by rw[d,o],by rw[i,q]⟩)
    ·rw[qQ] at l;obtain⟨o,q⟩:=rR x (a k) now (r k) (j:=j-(g k).es.length) (by omega);rw[show (g k).es.length+(j-(g k).es.length)=j by omega] at o q;exact xR ⟨k,b,c,j-(g k).es.length,by omega,by rw[d,o],by rw[i,q]⟩
   ·rw[if_neg c] at l d i;exact xF (xR ⟨k,b,j,l,d,i⟩)
 ·rintro ((s | ⟨k,b,j,l,d,i⟩) | ⟨k,b,c,j,l,d,i⟩)
  ·exact xF s
  ·refine xR ⟨k,b,j,?_⟩;rw[u k b];by_cases c:S k=true
   ·rw[if_pos c];obtain⟨o,q⟩:=oO (h.th k b).len (a k) now (r k) l;exact⟨by rw[qQ];omega,by rw[d,o],by rw[i,q]⟩
   ·rw[if_neg c];exact⟨l,d,i⟩
  ·refine xR ⟨k,b,(g k).es.length+j,?_⟩;rw[u k b,if_pos c];obtain⟨o,q⟩:=rR (h.th k b).len (a k) now (r k) l;exact⟨by rw[qQ];omega,by rw[d,o],by rw[i,q]⟩
theorem kGp.keep (h:kGp n g v lim y t) (r:∀ e t,GE n g e t->GE n g' e t) (s:∀ e t,GE n g' e t->e.kind=1->e.var=v->t<lim->GE n g e t):kGp n g' v lim y t:=by
 obtain⟨e,a,b,c,d,f,k⟩:=h;exact⟨e,r _ _ a,b,c,d,f,fun q u p i l o=>k q u (s _ _ p i l o) i l o⟩
def kLP (mem:Int->Int) (L:List Ev) (x:Int):Int:=if (ev L (L.length-1)).kind=1/\(ev L (L.length-1)).var=x then (ev L (L.length-1)).value else mem x
theorem GInv.cY (h:GInv ts g mem now R) {d:Nat} (F:d<ts.length) (hw:WF (ts.getD d kAD)) (hr:(g d).rest=st::rs) (Y:¬ ((g d).p.2=0/\st.kind=5)) :
  GInv ts (fun k=>if k=d then (g d).cZ st now ((mem st.var).toNat % 4) else g k) (kLP mem (dM (g d).p st ((mem st.var).toNat % 4))) (now+2) R:=by
 have U:(mem st.var).toNat % 4<4:=by omega
 generalize aa:(mem st.var).toNat % 4=v at U ⊢;have O:=h.th d F;have u:=O.cZ hw hr U h.now3;have S:=kGB (g d).p st U Y;obtain⟨s1,s2,s3⟩:=tL (g d).p st v;rw[if_neg Y] at s3;have C:∀ j,j<(dM (g d).p st v).length->ev (dM (g d).p st v) j∈((g d).cZ st now v).p.1.Ea:=fun j i=>by
  show _∈((g d).cZ st now v).es;rw[yG,kED _ _ i];exact List.mem_append_right _ (x4 _)
 have M:∀ j,j<(dM (g d).p st v).length->((ev (dM (g d).p st v) j).kind=0\/(ev (dM (g d).p st v) j).kind=1)->0<=(ev (dM (g d).p st v) j).var/\(ev (dM (g d).p st v) j).var<3:=fun j i r=>by
  have hm:=C j i;refine (u.mi.evs _ hm).var ?_;unfold zNz
  rcases r with e | e<;>rw[e]<;>rfl
 have K:∀ j,j<(dM (g d).p st v).length->0<=(ev (dM (g d).p st v) j).value/\(ev (dM (g d).p st v) j).value<4:=fun j i=>by
  obtain⟨N,hN⟩:=u.ok;have:=hN.evs _ (C j i);exact⟨this.1,this.2.1⟩
 have H:∀ e t,GE ts.length (fun k=>if k=d then (g d).cZ st now v else g k) e t ↔ GE ts.length g e t\/∃ j,j<(dM (g d).p st v).length/\e=ev (dM (g d).p st v) j/\t=now+j:=fun e t=>by
  rw[AA h (fun k=>decide (k=d)) (fun _=>st) (fun _=>v) (g':=fun k=>if k=d then (g d).cZ st now v else g k) (fun k r=>by
   by_cases c:k=d
   ·simp[c]
   ·simp[c])]
  constructor
  ·rintro (a | ⟨k,r,c,a⟩)
   ·exact xF a
   ·have:k=d:=by simpa using c
    subst this;exact xR a
  ·rintro (a | a)
   ·exact xF a
   ·exact xR ⟨d,F,by simp,a⟩
 generalize J:dM (g d).p st v=L at *;have lK:∀ e t,GE ts.length (fun k=>if k=d then (g d).cZ st now v else g k) e t->t<now->GE ts.length g e t:=fun e t a b=>by
  rcases (H e t).1 a with a | ⟨j,_,_,a⟩
  ·exact a
  ·omega
 have W:∀ e t,GE ts.length g e t->GE ts.length (fun k=>if k=d then (g d).cZ st now v else g k) e t:=fun e t a=>(H e t).2 (xF a)
 refine⟨by have:=h.now3;omega,fun k r=>?_,?_,?_,?_,?_,?_⟩
 ·by_cases c:k=d
  ·subst c;rw[if_pos rfl];exact u
  ·rw[if_neg c];exact (h.th k r).vT (by omega)
 ·have z:∀ l,l<ts.length->l≠d->∀ j A,j<((g d).cZ st now v).es.length->A<(g l).es.length->(ev ((g d).cZ st now v).es j).kind<3->(ev (g l).es A).kind<3->((g d).cZ st now v).T j=(g l).T A->False:=fun l q ne j A i o a b e=>by
   by_cases c:j<(g d).es.length
   ·obtain⟨E,I⟩:=oO O.len st now v c;rw[E] at a;rw[I] at e;exact ne (h.inj d l j A F q c o a b e).symm
   ·rw[qQ,J] at i;obtain⟨_,I⟩:=rR O.len st now v (j:=j-(g d).es.length) (by rw[J];omega);rw[show (g d).es.length+(j-(g d).es.length)=j by omega] at I;have:=((h.th l q).lo A o).2;omega
  intro k l j A r q i o a b e;by_cases c:k=d<;>by_cases c':l=d
  ·rw[c,c']
  ·simp only[c,c',if_true,if_false] at i o a b e;exact (z l q c' j A i o a b e).elim
  ·simp only[c,c',if_true,if_false] at i o a b e;exact (z k r c A j o i b a e.symm).elim
  ·simp only[c,c',if_false] at i o a b e;exact h.inj k l j A r q i o a b e
 ·intro k j r i a;by_cases c:k=d
  ·subst c;simp only[if_true] at i a ⊢;by_cases c2:j<(g k).es.length
   ·obtain⟨E,I⟩:=oO O.len st now v c2;rw[E] at a;rw[E,I];obtain⟨b1,b2,b3⟩:=h.bar k j r c2 a;exact⟨b1,by show _<((bL (g k).p st v).1.bars:Int);omega,b3⟩
   ·rw[qQ,J] at i;obtain⟨E,_⟩:=rR O.len st now v (j:=j-(g k).es.length) (by rw[J];omega);rw[show (g k).es.length+(j-(g k).es.length)=j by omega,J] at E;rw[E] at a;have:=S.kind (j-(g k).es.length) (by omega);omega
  ·simp only[c,if_false] at i a ⊢;exact h.bar k j r i a
 ·have z:∀ k,(if k=d then (g d).cZ st now v else g k).p.1.bars=(g k).p.1.bars:=fun k=>by
   by_cases c:k=d
   ·subst c;rw[if_pos rfl];show (bL (g k).p st v).1.bars=_;omega
   ·rw[if_neg c]
  intro k l r q e;show (if k=d then (g d).cZ st now v else g k).p.1.bars=(if l=d then (g d).cZ st now v else g l).p.1.bars;rw[z,z];exact h.bars k l r q e
 ·intro e t a k
  rcases (H e t).1 a with a | ⟨j,i,rfl,rfl⟩
  ·obtain⟨B,b⟩:=h.rd e t a k;have:=h.lt a;exact⟨B,b.keep W (fun G B s _ _ lt=>lK G B s (by omega))⟩
  ·obtain⟨rfl,q1,q2⟩:=S.rd j i k;have X:=M 0 i (xF k);rw[q1] at X;obtain⟨Z,B,b⟩:=h.mem st.var X.1 X.2;refine⟨B,?_⟩;rw[q1,q2];have:mem st.var=(v:Int):=by omega
   rw[this] at b;exact b.keep W (fun G B s _ _ lt=>lK G B s (by omega))
 ·intro x x0 x3;obtain⟨Z,B,b⟩:=h.mem x x0 x3;unfold kLP;by_cases c:(ev L (L.length-1)).kind=1/\(ev L (L.length-1)).var=x
  ·rw[if_pos c];have D:L.length-1<L.length:=by
    by_cases c2:L.length-1<L.length
    ·exact c2
    ·rw[kBQ _ _ (by omega)] at c;have:=c.1;simp[Ev.zero] at this
   refine⟨K _ D,now+(L.length-1),ev L (L.length-1),(H _ _).2 (xR ⟨_,D,rfl,rfl⟩),c.1,c.2,rfl,by have:=S.len;omega,fun G B s l _ _=>?_⟩
   rcases (H _ _).1 s with s | ⟨j,i,_,rfl⟩
   ·have:=h.lt s;omega
   ·omega
  ·rw[if_neg c];refine⟨Z,B,?_⟩;obtain⟨e,a1,a2,a3,a4,a5,a6⟩:=b;refine⟨e,W _ _ a1,a2,a3,a4,by omega,fun G V s l v' _=>?_⟩
   rcases (H _ _).1 s with s | ⟨j,i,rfl,rfl⟩
   ·exact a6 G V s l v' (h.lt s)
   ·have:=S.wr j i l;exact absurd ⟨by rw[<- l];congr 2;omega,by rw[<- v'];congr 2;omega⟩ c
theorem GInv.rel (h:GInv ts g mem now R) (b:Int) (n:Nat) (d:Nat->Stm) (hw:∀ k,k<ts.length->WF (ts.getD k kAD)) (I:∀ k,k<ts.length->(ts.getD k kAD).block=b->((g k).rest=d k::(g k).rest.tail/\(d k).kind=5/\(g k).p.2=0)/\(g k).p.1.bars=n) :
  GInv ts (fun k=>if (ts.getD k kAD).block=b then (g k).cZ (d k) now 0 else g k) mem (now+2) (fun Y j=>if Y=b/\j=(n:Int) then now else R Y j):=by
 have H:∀ k,k<ts.length->(ts.getD k kAD).block=b->TInv (ts.getD k kAD) k (now+2) ((g k).cZ (d k) now 0):=fun k l e=>(h.th k l).cZ (hw k l) (I k l e).1.1 (by omega) h.now3
 have o:∀ k,k<ts.length->(ts.getD k kAD).block=b->dM (g k).p (d k) 0=[((g k).p.1.un 0).event 3 (d k),((g k).p.1.un 0).event 4 (d k)]:=fun k l e=>by
  obtain⟨⟨_,J,G⟩,_⟩:=I k l e;rw[<- kIS _ _ _ J]
  congr 1
  rw[<- G]
 have U:∀ e t,GE ts.length (fun k=>if (ts.getD k kAD).block=b then (g k).cZ (d k) now 0 else g k) e t->e.kind<3->GE ts.length g e t:=fun e t a X=>by
  rcases (AA h (fun k=>decide ((ts.getD k kAD).block=b)) d (fun _=>0) (fun k l=>by
   by_cases c:(ts.getD k kAD).block=b
   ·simp only[c,if_true,decide_true]
   ·simp only[c,if_false,decide_false,x5])).1 a with a | ⟨k,l,c,j,u,rfl,_⟩
  ·exact a
  ·have N:(ts.getD k kAD).block=b:=by simpa using c
   rw[o k l N] at u X;have:j=0\/j=1:=by have:j<2:=u;omega
   rcases this with rfl | rfl
   ·exact absurd X (by show ¬ (3:Int)<3;omega)
   ·exact absurd X (by show ¬ (4:Int)<3;omega)
 have up:∀ e t,GE ts.length g e t->GE ts.length (fun k=>if (ts.getD k kAD).block=b then (g k).cZ (d k) now 0 else g k) e t:=fun e t a =>
  (AA h (fun k=>decide ((ts.getD k kAD).block=b)) d (fun _=>0) (fun k l=>by
   by_cases c:(ts.getD k kAD).block=b
   ·simp only[c,if_true,decide_true]
   ·simp only[c,if_false,decide_false,x5])).2 (xF a)
 have B:∀ k j,k<ts.length->j<(if (ts.getD k kAD).block=b then (g k).cZ (d k) now 0 else g k).es.length->(j<(g k).es.length/\ev (if (ts.getD k kAD).block=b then (g k).cZ (d k) now 0 else g k).es j=ev (g k).es j/\(if (ts.getD k kAD).block=b then (g k).cZ (d k) now 0 else g k).T j=(g k).T j)\/((ts.getD k kAD).block=b/\∃ i,i<2/\ev (if (ts.getD k kAD).block=b then (g k).cZ (d k) now 0 else g k).es j=ev [((g k).p.1.un 0).event 3 (d k),((g k).p.1.un 0).event 4 (d k)] i/\(if (ts.getD k kAD).block=b then (g k).cZ (d k) now 0 else g k).T j=now+i):=fun k j l u=>by
  by_cases c:(ts.getD k kAD).block=b
  ·simp only[c,if_true] at u ⊢;by_cases N:j<(g k).es.length
   ·exact xF ⟨N,oO (h.th k l).len _ _ _ N⟩
   ·rw[qQ,o k l c] at u;have aa:j<(g k).es.length+2:=u;obtain⟨s,z⟩:=rR (h.th k l).len (d k) now 0 (j:=j-(g k).es.length) (by rw[o k l c];show _<2;omega);rw[show (g k).es.length+(j-(g k).es.length)=j by omega] at s z;rw[o k l c] at s;exact xR ⟨trivial,j-(g k).es.length,by omega,s,z⟩
  ·simp only[c,if_false] at u ⊢;exact xF ⟨u,trivial,trivial⟩
 have D:∀ k i,i<2->(ev [((g k).p.1.un 0).event 3 (d k),((g k).p.1.un 0).event 4 (d k)] i).kind=3+(i:Int)/\(ev [((g k).p.1.un 0).event 3 (d k),((g k).p.1.un 0).event 4 (d k)] i).block=(g k).p.1.block/\(ev [((g k).p.1.un 0).event 3 (d k),((g k).p.1.un 0).event 4 (d k)] i).bars=((g k).p.1.bars:Int):=fun k i F=>by
  have:i=0\/i=1:=by omega
  rcases this with rfl | rfl
  ·exact⟨rfl,rfl,rfl⟩
  ·exact⟨rfl,rfl,rfl⟩
 refine⟨by have:=h.now3;omega,fun k l=>?_,?_,?_,?_,?_,?_⟩
 ·by_cases c:(ts.getD k kAD).block=b
  ·rw[if_pos c];exact H k l c
  ·rw[if_neg c];exact (h.th k l).vT (by omega)
 ·intro k r j j' l x u W a A e
  rcases B k j l u with ⟨c,s,z⟩ | ⟨_,i,F,s,_⟩
  ·rcases B r j' x W with ⟨c',C,S⟩ | ⟨_,i,F,C,_⟩
   ·rw[s] at a;rw[C] at A;rw[z,S] at e;exact h.inj k r j j' l x c c' a A e
   ·rw[C,(D r i F).1] at A;omega
  ·rw[s,(D k i F).1] at a;omega
 ·intro k j l u a;have V:(g k).p.1.bars<=(if (ts.getD k kAD).block=b then (g k).cZ (d k) now 0 else g k).p.1.bars:=by
   by_cases c:(ts.getD k kAD).block=b
   ·rw[if_pos c];have:=(tL (g k).p (d k) 0).2.2;show _<=(bL (g k).p (d k) 0).1.bars;omega
   ·rw[if_neg c];exact x1 _
  rcases B k j l u with ⟨c,s,z⟩ | ⟨c,i,F,s,z⟩
  ·rw[s] at a;rw[s,z];obtain⟨Z,b2,b3⟩:=h.bar k j l c a;refine⟨Z,by omega,?_⟩;rw[b3];have:¬ ((ev (g k).es j).block=b/\(ev (g k).es j).bars=(n:Int)):=fun ⟨q1,q2⟩=>by
    have:=(I k l (by rw[<- Z];exact q1)).2;omega
   rw[if_neg this]
  ·obtain⟨z1,z2,z3⟩:=D k i F;rw[s,z,z1,z2,z3,(h.th k l).blk];obtain⟨⟨_,J,G⟩,hn⟩:=I k l c;refine⟨rfl,?_,?_⟩
   ·rw[if_pos c];have:=(tL (g k).p (d k) 0).2.2;rw[if_pos ⟨G,J⟩] at this;show _<((bL (g k).p (d k) 0).1.bars:Int);omega
   ·rw[if_pos ⟨c,by rw[hn]⟩];have:i=0\/i=1:=by omega
    rcases this with rfl | rfl
    ·rfl
    ·rfl
 ·have K:∀ k,k<ts.length->(if (ts.getD k kAD).block=b then (g k).cZ (d k) now 0 else g k).p.1.bars=(g k).p.1.bars+if (ts.getD k kAD).block=b then 1 else 0:=fun k l=>by
   by_cases c:(ts.getD k kAD).block=b
   ·obtain⟨⟨_,J,G⟩,_⟩:=I k l c;have:=(tL (g k).p (d k) 0).2.2;rw[if_pos ⟨G,J⟩] at this;rw[if_pos c,if_pos c];exact this
   ·rw[if_neg c,if_neg c];rfl
  intro k r l x e;show (if (ts.getD k kAD).block=b then (g k).cZ (d k) now 0 else g k).p.1.bars=(if (ts.getD r kAD).block=b then (g r).cZ (d r) now 0 else g r).p.1.bars;rw[K k l,K r x,h.bars k r l x e,e]
 ·intro e t a k;have E:=U e t a (by omega);obtain⟨L,q⟩:=h.rd e t E k;exact⟨L,q.keep up (fun O L A r _ _=>U O L A (by omega))⟩
 ·intro v v0 v3;obtain⟨m1,L,e,a1,E,a3,a4,a5,a6⟩:=h.mem v v0 v3;exact⟨m1,L,e,up _ _ a1,E,a3,a4,by omega,fun O M A r v' _=>by
   have E:=U O M A (by omega);exact a6 O M E r v' (h.lt E)⟩
end
def g0 (ts:List Thr) (k:Nat):GT:=⟨(ED.start k (ts.getD k kAD).block 0,0),[],(ts.getD k kAD).Eb,[]⟩
theorem kIx (ts:List Thr):GInv ts (g0 ts) (fun _=>0) 3 (fun _ _=>0):=by
 have n:∀ k j,¬ j<(g0 ts k).es.length:=fun k j h=>by simp[g0,GT.es,ED.start] at h
 have d:∀ e t,GE ts.length (g0 ts) e t->∃ i:Nat,i<3/\e=zMN (i:Int)/\t=i:=fun e t h=>by
  rcases h with h | ⟨k,_,j,b,_⟩
  ·exact h
  ·exact absurd b (n k j)
 refine⟨x1 _,fun k _=>?_,fun k r j q _ _ h=>absurd h (n k j),fun k j _ h=>absurd h (n k j),fun _ _ _ _ _=>rfl,fun e t h k=>?_,fun v s u=>?_⟩
 ·exact⟨rfl,kHU _ _,kFm _ _ _,fun i l=>absurd l (n k i),⟨0,CA _ _ _ (by omega)⟩,rfl,rfl,by simp[g0,cnt],by simp[g0,bars,ED.start],rfl,fun j b=>absurd b (n k j),fun i j _ b=>absurd b (n k j),fun j b=>absurd b (n k (j+1)),fun j b=>absurd b (n k j)⟩
 ·obtain⟨i,_,rfl,_⟩:=d e t h;simp[zMN] at k
 ·refine⟨by decide,v.toNat,zMN v,xF ⟨v.toNat,by omega,by congr;omega,rfl⟩,rfl,rfl,rfl,by omega,fun g o a _ c _=>?_⟩;obtain⟨i,_,rfl,p⟩:=d g o a;have:(i:Int)=v:=c;omega
theorem kFs:∀ (a:List (List Run)) (rs:List Run),rs.length=a.length->(∀ k,k<a.length->rs.getD k kMr∈a.getD k [])->∃ b∈zMH (zBh a),∀ W,zPf W a b=rs.foldl Wd.join W
 | [],[],_,_=>⟨[],by simp[zBh,zMH],fun W=>rfl⟩
 | r::a,x::rs,hl,h=>by
  obtain⟨b,c,e⟩:=kFs a rs (by simpa using hl) (fun k g=>by simpa using h (k+1) (by simpa using g));obtain⟨i,d,l⟩:=List.getElem_of_mem (show x∈r by simpa using h 0 (by simp));refine⟨(i:Int)::b,zH ⟨by omega,by show (i:Int)<(r.length:Int);omega,kBj c⟩,fun W=>?_⟩;rw[zPf,dif_pos (by simpa using d),List.foldl_cons,<- e]
  congr 2
 | [],x::rs,hl,_=>by simp at hl
 | r::a,[],hl,_=>by simp at hl
section
variable {ts:List P.Thr} {g:Nat->GT} {mem:Int->Int} {now:Nat} {R:Int->Int->Nat}
def kAY (n:Nat) (g:Nat->GT):List (List Ev):=(xW n).map fun k=>(g k).es
theorem vV (n:Nat) (g:Nat->GT) (a:k<n):(kAY n g).getD k []=(g k).es:=by
 unfold kAY;rw[x6];simp[a]
theorem wX (n:Nat) (g:Nat->GT):(kAY n g).length=n:=by simp[kAY]
def kBq (n:Nat) (g:Nat->GT) (m:Nat):Nat:=if m<3 then m else (g (lP (kAY n g) (m-3)).1).T (lP (kAY n g) (m-3)).2
theorem kAB (n:Nat) (g:Nat->GT) (a:k<n) (b:j<(g k).es.length):kBq n g (3+kAL (kAY n g) k+j)=(g k).T j:=by
 unfold kBq;rw[if_neg (by omega),show 3+kAL (kAY n g) k+j-3=kAL (kAY n g) k+j by omega,kLA _ _ _ (by rw[wX];exact a) (by rw[vV n g a];exact b)]
theorem idx (n:Nat) (g:Nat->GT) (d:3<=m) (c:m<(zNn++kBz 3 (kAY n g)).length):∃ k j,k<n/\j<(g k).es.length/\m=3+kAL (kAY n g) k+j:=by
 rw[x2,rJ,kGz] at c;obtain⟨a,b,i⟩:=FK (kAY n g) (m-3) (by omega);rw[wX] at a;rw[vV n g a] at b;exact⟨_,_,a,b,by omega⟩
theorem kCh (n:Nat) (g:Nat->GT) (a:k<n) (c:j<(g k).es.length):ev (zNn++kBz 3 (kAY n g)) (3+kAL (kAY n g) k+j)=zNI (3+kAL (kAY n g) k) (ev (g k).es j)/\3+kAL (kAY n g) k+j<(zNn++kBz 3 (kAY n g)).length:=by
 have b:=kLa (kAY n g) k j (by rw[vV n g a];exact c);rw[vV n g a] at b;refine⟨b,?_⟩;rw[x2,rJ,kGz,wX];have:=xV (kAY n g) k n a (by rw[wX];exact x1 _);rw[vV n g a] at this;omega
structure EvS (a b:Ev):Prop where
 kind:a.kind=b.kind
 var:a.var=b.var
 value:a.value=b.value
theorem kMi (g:Nat->GT) (h:GE n g e t):∃ m,m<(zNn++kBz 3 (kAY n g)).length/\EvS (ev (zNn++kBz 3 (kAY n g)) m) e/\kBq n g m=t:=by
 rcases h with ⟨i,a,rfl,rfl⟩ | ⟨k,c,j,b,rfl,rfl⟩
 ·refine⟨t,by rw[x2,rJ];omega,by rw[kBg _ _ a];exact⟨rfl,rfl,rfl⟩,by unfold kBq;rw[if_pos a]⟩
 ·obtain⟨d,l⟩:=kCh n g c b;exact⟨_,l,by rw[d];exact⟨rfl,rfl,rfl⟩,kAB n g c b⟩
theorem kIs (g:Nat->GT) (d:m<(zNn++kBz 3 (kAY n g)).length):∃ e,GE n g e (kBq n g m)/\EvS (ev (zNn++kBz 3 (kAY n g)) m) e:=by
 by_cases c:m<3
 ·exact⟨zMN (m:Int),xF ⟨m,c,rfl,by unfold kBq;rw[if_pos c]⟩,by rw[kBg _ _ c];exact⟨rfl,rfl,rfl⟩⟩
 ·obtain⟨k,j,b,a,rfl⟩:=idx n g (by omega) d;rw[kAB n g b a,(kCh n g b a).1];exact⟨ev (g k).es j,xR ⟨k,b,j,a,rfl,rfl⟩,⟨rfl,rfl,rfl⟩⟩
theorem kIa (g:Nat->GT) (h:kGp n g v lim y t):∃ w,w<(zNn++kBz 3 (kAY n g)).length/\(ev (zNn++kBz 3 (kAY n g)) w).kind=1/\(ev (zNn++kBz 3 (kAY n g)) w).var=v/\(ev (zNn++kBz 3 (kAY n g)) w).value=y/\kBq n g w<lim/\∀ u,u<(zNn++kBz 3 (kAY n g)).length->(ev (zNn++kBz 3 (kAY n g)) u).kind=1->(ev (zNn++kBz 3 (kAY n g)) u).var=v->kBq n g u<lim->kBq n g u<=kBq n g w:=by
 obtain⟨e,a,b,c,d,f,k⟩:=h;obtain⟨w,q,es,z⟩:=kMi g a;refine⟨w,q,es.kind.trans b,es.var.trans c,es.value.trans d,by omega,fun u p r s x=>?_⟩;obtain⟨o,l,i⟩:=kIs g p;have:=k o _ l (i.kind.symm.trans r) (i.var.symm.trans s) x;omega
theorem GInv.thrd (h:GInv ts g mem now R) (c:k<ts.length) (b:j<(g k).es.length):(ev (g k).es j).thread=(k:Int):=by
 have a:=h.th k c;have:=(a.mi.evs (ev (g k).es j) (by rw[kED _ _ b];exact x4 _)).thr;rw[this,a.thr]
theorem GInv.timed (h:GInv ts g mem now R) (H:(zNn++kBz 3 (kAY ts.length g)).length<=64):Timed (zNn++kBz 3 (kAY ts.length g)) (kBq ts.length g) where
 thr i k h3 hik hk e:=by
  obtain⟨a,j,o,p,rfl⟩:=idx ts.length g h3 (by omega);obtain⟨b,r,q,d,rfl⟩:=idx ts.length g (by omega) hk;rw[(kCh _ g o p).1,(kCh _ g q d).1] at e;have u:(ev (g a).es j).thread=(ev (g b).es r).thread:=e;rw[h.thrd o p,h.thrd q d] at u;have:a=b:=by omega
  subst this;rw[kAB _ g o p,kAB _ g o d];exact (h.th a o).inc j r (by omega) d
 fst i k hi h3 hk:=by
  obtain⟨b,r,q,d,rfl⟩:=idx ts.length g h3 hk;rw[kAB _ g q d];have:=((h.th b q).lo r d).1;unfold kBq;rw[if_pos hi];omega
 gat i k hi hk e:=by
  unfold zMG at e;simp only[Bool.and_eq_true,beq_iff_eq] at e;obtain⟨⟨⟨z,u⟩,B⟩,A⟩:=e;have E:3<=i:=by
   by_cases c:i<3
   ·rw[kBg _ _ c] at z;simp[zMN] at z
   ·omega
  have F:3<=k:=by
   by_cases c:k<3
   ·rw[kBg _ _ c] at u;simp[zMN] at u
   ·omega
  obtain⟨a,j,o,p,rfl⟩:=idx ts.length g E hi;obtain⟨b,r,q,d,rfl⟩:=idx ts.length g F hk;rw[(kCh _ g o p).1] at z B A;rw[(kCh _ g q d).1] at u B A;have C:(ev (g a).es j).kind=3:=z;have D:(ev (g b).es r).kind=4:=u;have G:(ev (g a).es j).block=(ev (g b).es r).block:=B;have I:(ev (g a).es j).bars=(ev (g b).es r).bars:=A;obtain⟨_,_,S⟩:=h.bar a j o p (xF C);obtain⟨_,_,T⟩:=h.bar b r q d (xR D);rw[kAB _ g o p,kAB _ g q d,S,T,G,I,C,D];simp
 half k hk z u:=by
  have F:3<=k+1:=by
   by_cases c:k+1<3
   ·rw[kBg _ _ c] at u;simp[zMN] at u
   ·omega
  obtain⟨a,j,o,p,e⟩:=idx ts.length g F hk;rw[e,(kCh _ g o p).1] at z u;have C:(ev (g a).es j).kind=1:=z;have D:(ev (g a).es j).step=true:=u;have G:=((h.th a o).mi.sw j C D).1;obtain⟨i,rfl⟩:∃ i,j=i+1:=⟨j-1,by omega⟩;rw[e,show k=3+kAL (kAY ts.length g) a+i by omega,kAB _ g o p,kAB _ g o (by omega)];exact (h.th a o).half i p C D
 inj i k hi hk ne z u e:=by
  by_cases c:i<3<;>by_cases c':k<3
  ·unfold kBq at e;rw[if_pos c,if_pos c'] at e;exact ne e
  ·obtain⟨b,r,q,d,rfl⟩:=idx ts.length g (by omega) hk;rw[kAB _ g q d] at e;unfold kBq at e;rw[if_pos c] at e;have:=((h.th b q).lo r d).1;omega
  ·obtain⟨b,r,q,d,rfl⟩:=idx ts.length g (by omega) hi;rw[kAB _ g q d] at e;unfold kBq at e;rw[if_pos c'] at e;have:=((h.th b q).lo r d).1;omega
  ·obtain⟨a,j,o,p,rfl⟩:=idx ts.length g (by omega) hi;obtain⟨b,r,q,d,rfl⟩:=idx ts.length g (by omega) hk;rw[(kCh _ g o p).1] at z;rw[(kCh _ g q d).1] at u;rw[kAB _ g o p,kAB _ g q d] at e;have:=h.inj a b j r o q p d z u e;subst this;by_cases c1:j<r
   ·have:=(h.th a o).inc j r c1 d;omega
   ·by_cases c2:r<j
    ·have:=(h.th a o).inc r j c2 p;omega
    ·exact ne (by omega)
 kind i hi:=by
  by_cases c:i<3
  ·rw[kBg _ _ c];simp[zMN]
  ·obtain⟨a,j,o,p,rfl⟩:=idx ts.length g (by omega) hi;rw[(kCh _ g o p).1];exact (h.th a o).knd j p
 rd k hk e:=by
  obtain⟨x,a,s⟩:=kIs g hk;obtain⟨U,l⟩:=h.rd x _ a (s.kind.symm.trans e);rw[<- s.var,<- s.value] at l;obtain⟨w,J,K,L,M,N,O⟩:=kIa g l;exact⟨w,J,K,L,M,N,O⟩
 hang i k hi hk e:=by
  have E:3<=i:=by
   by_cases c:i<3
   ·rw[kBg _ _ c] at e;rw[show (zMN (i:Int)).Ef=0 from rfl,kBG] at e;cases e
   ·omega
  obtain⟨a,j,o,p,rfl⟩:=idx ts.length g E hi;rw[(kCh _ g o p).1] at e;obtain⟨_,z,u⟩:=(kDA (ev (g a).es j).Ef (3+kAL (kAY ts.length g) a) k (by omega)).1 e;have B:=(h.th a o).mh j p _ u;have A:=kAB ts.length g o (j:=k-(3+kAL (kAY ts.length g) a)) (by omega);rw[show 3+kAL (kAY ts.length g) a+(k-(3+kAL (kAY ts.length g) a))=k by omega] at A;rw[A,kAB _ g o p];exact (h.th a o).inc _ _ B p
theorem GInv.out (h:GInv ts g mem now R) (W:xC ts) (Y:∀ d∈zMH (zBh (runs ts)),(zMj (runs ts) d).Ea.length<=64) (Z:∀ k,k<ts.length->(g k).rest=[]) :
  ((xW ts.length).map fun k=>(g k).p.1.regs).flatten++[mem 0,mem 1,mem 2]∈(xK ts).rows/\((xW ts.length).map fun k=>(g k).p.1.regs).flatten++[mem 0,mem 1,mem 2]∈(kAp ts).rows:=by
 obtain⟨d,C,X⟩:=kFs (runs ts) ((xW ts.length).map fun k=>(⟨(g k).es,(g k).p.1.regs⟩:Run)) (by simp[runs,DI]) (fun k o=>by
  rw[runs,DI] at o;rw[runs,kDU ts 0 k o,Nat.zero_add];have e:((xW ts.length).map fun k=>(⟨(g k).es,(g k).p.1.regs⟩:Run)).getD k kMr=⟨(g k).es,(g k).p.1.regs⟩:=by
   rw[x6];simp[o]
  rw[e];have G:=h.th k o;have c:=G.cod;have E:=G.sp;rw[Z k o,List.append_nil] at E;rw[E] at c;exact c.run)
 have hw:zMj (runs ts) d=((xW ts.length).map fun k=>(⟨(g k).es,(g k).p.1.regs⟩:Run)).foldl Wd.join ⟨zNn,[]⟩:=X _;obtain⟨H,I⟩:=kFY ((xW ts.length).map fun k=>(⟨(g k).es,(g k).p.1.regs⟩:Run)) ⟨zNn,[]⟩;rw[<- hw,List.map_map] at H I;have r:(zMj (runs ts) d).Ea=zNn++kBz 3 (kAY ts.length g):=H;have wr:(zMj (runs ts) d).regs=((xW ts.length).map fun k=>(g k).p.1.regs).flatten:=I;have a:=Y d C;have F:=h.timed (by rw[<- r];exact a);rw[<- r] at F;obtain⟨rs,A,q,i,V,s,O,S,T,U⟩:=kIq (kJV W d) a F;have c:(⟨zMj (runs ts) d,zMv (zMj (runs ts) d).Ea,(zMv (zMj (runs ts) d).Ea).reads (gB (zMf (zMj (runs ts) d).Ea) rs)⟩:Cand)∈pA ts:=kGA.2 ⟨d,C,rs,A,rfl,O⟩;have z:∀ v:Int,0<=v->v<3->jA (zMj (runs ts) d).Ea v (kAl (zMj (runs ts) d) q)=mem v:=fun v v0 v3=>by
  obtain⟨_,t,l⟩:=h.mem v v0 v3;obtain⟨w,J,K,L,M,w5,N⟩:=kIa g l;rw[<- r] at J K L M N;rw[U v w J K L (fun u B k1 k2=>N u B k1 k2 (by
   rw[r] at B;obtain⟨x,b,_⟩:=kIs g B;exact h.lt b)),M]
 have D:gK (zMj (runs ts) d) (kAl (zMj (runs ts) d) q)=((xW ts.length).map fun k=>(g k).p.1.regs).flatten++[mem 0,mem 1,mem 2]:=by
  unfold gK;rw[wr,z 0 (by omega) (by omega),z 1 (by omega) (by omega),z 2 (by omega) (by omega)]
 exact⟨(kHz ts _).2 ⟨_,c,q,i,S,D.symm⟩,(kEz ts _).2 ⟨_,c,q,i,V,s,T,D.symm⟩⟩
end
def nM (f:Nat->Nat):Nat->Nat
 | 0=>0
 | n+1=>nM f n+f n
theorem kKV {f h:Nat->Nat}:∀ n,(∀ k,k<n->f k<=h k)->nM f n<=nM h n
 | 0,_=>x1 _
 | n+1,e=>by have:=kKV n (fun k a=>e k (by omega));have:=e n (by omega);simp only[nM];omega
theorem zD {f h:Nat->Nat}:∀ n,(∀ k,k<n->f k<=h k)->(∃ k,k<n/\f k<h k)->nM f n<nM h n
 | 0,_,⟨k,hk,_⟩=>absurd hk (by omega)
 | n+1,e,⟨k,hk,hlt⟩=>by
  simp only[nM];by_cases c:k=n
  ·subst c;have:=kKV k (fun j a=>e j (by omega));omega
  ·have:=zD n (fun j a=>e j (by omega)) ⟨k,by omega,hlt⟩;have:=e n (by omega);omega
theorem kJH (h:st.kind=5):0<bars (st::rs):=by
 have:∀ l,0<=bars l:=fun l=>by
  induction l with
  | nil=>simp[bars]
  | cons s l ih=>simp only[bars];split<;>omega
 have:=this rs;simp only[bars,h];simp;omega
theorem kMp (A:∀ k,k<ts.length->WF (ts.getD k kAD)) (C:∀ k k',k<ts.length->k'<ts.length->(ts.getD k kAD).block=(ts.getD k' kAD).block->bars (ts.getD k kAD).Eb=bars (ts.getD k' kAD).Eb):∀ (m:Nat) (g:Nat->GT) (mem:Int->Int) (l:Nat) (R:Int->Int->Nat),GInv ts g mem l R->nM (fun k=>(g k).rest.length) ts.length<=m->∃ g' mem' now' R',GInv ts g' mem' now' R'/\∀ k,k<ts.length->(g' k).rest=[]:=by
 intro m
 induction m with
 | zero =>
  intro g mem l R h s;refine⟨g,mem,l,R,h,fun k d=>?_⟩;have:nM (fun k=>(g k).rest.length) ts.length=0:=by omega
  cases i:(g k).rest with
  | nil=>rfl
  | cons st rs =>
   have:=zD (f:=fun _=>0) (h:=fun k=>(g k).rest.length) ts.length (fun _ _=>by omega) ⟨k,d,by simp[i]⟩;omega
 | succ m ih =>
  intro g mem l R h s;by_cases c1:∃ k,k<ts.length/\∃ st rs,(g k).rest=st::rs/\¬ ((g k).p.2=0/\st.kind=5)
  ·obtain⟨b,a,st,rs,i,r⟩:=c1;refine ih _ _ _ _ (h.cY a (A b a) i r) (x7 (x8 (zD ts.length (fun k d=>?_) ⟨b,a,?_⟩) s))
   ·by_cases c:k=b
    ·subst c;simp[GT.cZ]
    ·simp[c]
   ·simp[GT.cZ,i]
  ·have o:∀ k,k<ts.length->∀ st rs,(g k).rest=st::rs->(g k).p.2=0/\st.kind=5:=fun k d st rs i=>by
    by_cases c:(g k).p.2=0/\st.kind=5
    ·exact c
    ·exact absurd ⟨k,d,st,rs,i,c⟩ c1
   by_cases c2:∃ k,k<ts.length/\(g k).rest≠[]
   ·obtain⟨b,a,u⟩:=c2
    cases i:(g b).rest with
    | nil=>exact absurd i u
    | cons st rs =>
     have r:=o b a st rs i;have x:∀ k,k<ts.length->(ts.getD k kAD).block=(ts.getD b kAD).block->((g k).rest=((g k).rest.headD Stm.zero)::(g k).rest.tail/\((g k).rest.headD Stm.zero).kind=5/\(g k).p.2=0)/\(g k).p.1.bars=(g b).p.1.bars:=fun k d e=>by
      have z:=h.bars k b d a e;have q:=C k b d a e;rw[<- (h.th k d).sp,<- (h.th b a).sp,yE,yE,<- (h.th k d).brs,<- (h.th b a).brs,z,i] at q;have B:=kJH (rs:=rs) r.2
      cases hrk:(g k).rest with
      | nil=>rw[hrk] at q;simp only[bars] at q B;omega
      | cons st' rs' =>
       obtain⟨D,E⟩:=o k d st' rs' hrk;exact⟨⟨rfl,E,D⟩,z⟩
     refine ih _ _ _ _ (h.rel (ts.getD b kAD).block (g b).p.1.bars (fun k=>(g k).rest.headD Stm.zero) A x) (x7 (x8 (zD ts.length (fun k d=>?_) ⟨b,a,?_⟩) s))
     ·by_cases c:(ts.getD k kAD).block=(ts.getD b kAD).block
      ·simp only[c,if_true];show (g k).rest.tail.length<=_;simp
      ·simp only[c,if_false];exact x1 _
     ·simp[GT.cZ,i]
   ·exact⟨g,mem,l,R,h,fun k d=>by
     by_cases c:(g k).rest=[]
     ·exact c
     ·exact absurd ⟨k,d,c⟩ c2⟩
theorem kKA (p:∀ k,k<ts.length->WF (ts.getD k kAD)) (i:∀ k k',k<ts.length->k'<ts.length->(ts.getD k kAD).block=(ts.getD k' kAD).block->bars (ts.getD k kAD).Eb=bars (ts.getD k' kAD).Eb) (c:xC ts) (l:∀ d∈zMH (zBh (runs ts)),(zMj (runs ts) d).Ea.length<=64):(xK ts).rows≠[]/\(kAp ts).rows≠[]:=by
 obtain⟨g,mem,q,R,h,o⟩:=kMp p i _ _ _ _ _ (kIx ts) (x1 _);obtain⟨a,b⟩:=h.out c l o;exact⟨fun e=>(by rw[e] at a;cases a),fun e=>(by rw[e] at b;cases b)⟩
end Q
end Go.Proofs.YtonodfjdiepglaaGreatDoor
