import Derived.Test.YtlikcongbhhpfaaGreatDoorM41
set_option linter.unusedVariables false
set_option linter.unusedSimpArgs false
set_option maxHeartbeats 12800000
namespace Go.Proofs.YtlikcongbhhpfaaGreatDoor
open Go Go.RowKit Go.Proofs.Tryz P Q
set_option maxRecDepth 1000000
variable {e:Ev}{j k lim m n t:Nat}{g':Nat->GT}{v y:Int}{st:JR}{rs:List JR}{f h:Nat->Nat}{ts:List JV}
open List renaming length->Y
open Or renaming inl->xF,inr->xR
open List renaming range->xW,length_append->x2,getElem_mem->x4,getD_eq_getElem?_getD->x6
open Nat renaming le_refl->x1,le_of_lt_succ->x7,lt_of_lt_of_le->x8
open Bool renaming false_eq_true->x5
namespace Q
def InT(x:GT)(e:Ev)(t:Nat):Prop:=∃j,j<Y x.es/\e=ev x.es j/\t=x.T j
def GE(n:Nat)(g:Nat->GT)(e:Ev)(t:Nat):Prop:=(∃i:Nat,i<3/\e=NG (i:Int)/\t=i)\/∃k,k<n/\InT (g k) e t
def QQ(n:Nat)(g:Nat->GT)(v:Int)(lim:Nat)(y:Int)(t:Nat):Prop:=∃e,GE n g e t/\e.k=1/\e.z=v/\e.value=y/\t<lim/\∀e' t',GE n g e' t'->e'.k=1->e'.z=v->t'<lim->t'<=t
structure NK(ts:List JV)(g:Nat->GT)(mem:Int->Int)(now:Nat)(R:Int->Int->Nat):Prop where
 now3:3<=now
 th:∀k,k<Y ts->TInv (ts.getD k JZ) k now (g k)
 inj:∀k k' j j',k<Y ts->k'<Y ts->j<(g k).es.length->j'<(g k').es.length->(ev (g k).es j).k<3->(ev (g k').es j').k<3->(g k).T j=(g k').T j'->k=k'
 bar:∀k j,k<Y ts->j<(g k).es.length->(ev (g k).es j).k=3\/(ev (g k).es j).k=4->(ev (g k).es j).block=(ts.getD k JZ).block/\(ev (g k).es j).u<((g k).p.1.u:Int)/\(g k).T j=R (ev (g k).es j).block (ev (g k).es j).u+if(ev (g k).es j).k=3 then 0 else 1
 u:∀k k',k<Y ts->k'<Y ts->(ts.getD k JZ).block=(ts.getD k' JZ).block->(g k).p.1.u=(g k').p.1.u
 rd:∀e t,GE (Y ts) g e t->e.k=0->∃t',QQ (Y ts) g e.z t e.value t'
 mem:∀v,0<=v->v<3->(0<=mem v/\mem v<4)/\∃t,QQ (Y ts) g v now (mem v) t
section
variable {ts:List P.JV}{g:Nat->GT}{mem:Int->Int}{now:Nat}{R:Int->Int->Nat}
theorem NK.lt(h:NK ts g mem now R)(k:GE (Y ts) g e t):t<now:=by
 rcases k with⟨i,c,_,rfl⟩|⟨k,b,j,a,_,rfl⟩
 ·have:=h.now3;omega
 ·exact((h.th k b).lo j a).2
theorem IL(h:NK ts g mem now R)(S:Nat->Bool)(a:Nat->JR)(r:Nat->Nat)(u:∀k,k<Y ts->g' k=if S k=true then(g k).bQ (a k) now (r k)else g k):
  GE (Y ts) g' e t↔GE (Y ts) g e t\/∃k,k<Y ts/\S k=true/\∃j,j<(cW (g k).p (a k) (r k)).length/\e=ev (cW (g k).p (a k) (r k)) j/\t=now+j:=by
 constructor
 ·rintro(s|⟨k,b,j,l,d,i⟩)
  ·exact xF (xF s)
  ·have x:=(h.th k b).len;rw[u k b]at l d i;by_cases c:S k=true
   ·rw[if_pos c]at l d i;by_cases c2:j<(g k).es.length
    ·obtain⟨o,q⟩:=pO x (a k) now (r k) c2;exact xF (xR ⟨k,b,j,c2,by rw[d,o],by rw[i,q]⟩)
    ·rw[qO]at l;obtain⟨o,q⟩:=tQ x (a k) now (r k) (j:=j-(g k).es.length) (by omega);rw[show(g k).es.length+(j-(g k).es.length)=j by omega]at o q;exact xR ⟨k,b,c,j-(g k).es.length,by omega,by rw[d,o],by rw[i,q]⟩
   ·rw[if_neg c]at l d i;exact xF (xR ⟨k,b,j,l,d,i⟩)
 ·rintro((s|⟨k,b,j,l,d,i⟩)|⟨k,b,c,j,l,d,i⟩)
  ·exact xF s
  ·refine xR ⟨k,b,j,?_⟩;rw[u k b];by_cases c:S k=true
   ·rw[if_pos c];obtain⟨o,q⟩:=pO (h.th k b).len (a k) now (r k) l;exact⟨by rw[qO];omega,by rw[d,o],by rw[i,q]⟩
   ·rw[if_neg c];exact⟨l,d,i⟩
  ·refine xR ⟨k,b,(g k).es.length+j,?_⟩;rw[u k b,if_pos c];obtain⟨o,q⟩:=tQ (h.th k b).len (a k) now (r k) l;exact⟨by rw[qO];omega,by rw[d,o],by rw[i,q]⟩
theorem QQ.keep(h:QQ n g v lim y t)(r:∀e t,GE n g e t->GE n g' e t)(s:∀e t,GE n g' e t->e.k=1->e.z=v->t<lim->GE n g e t):QQ n g' v lim y t:=by
 obtain⟨e,a,b,c,d,f,k⟩:=h;exact⟨e,r _ _ a,b,c,d,f,fun q u p i l o=>k q u (s _ _ p i l o) i l o⟩
def kQ(mem:Int->Int)(L:List Ev)(x:Int):Int:=if(ev L (Y L-1)).k=1/\(ev L (Y L-1)).z=x then(ev L (Y L-1)).value else mem x
theorem NK.one(h:NK ts g mem now R){k0:Nat}(G:k0<Y ts)(hw:WF (ts.getD k0 JZ))(hr:(g k0).rest=st::rs)(hb:¬((g k0).p.2=0/\st.k=5)):
  NK ts (fun k=>if k=k0 then(g k0).bQ st now ((mem st.z).toNat%4)else g k) (kQ mem (cW (g k0).p st ((mem st.z).toNat%4))) (now+2) R:=by
 have W:(mem st.z).toNat%4<4:=by omega
 generalize aa:(mem st.z).toNat%4=v at W⊢;have U:=h.th k0 G;have s:=U.bQ hw hr W h.now3;have V:=Cz (g k0).p st W hb;obtain⟨s1,s2,s3⟩:=rF (g k0).p st v;rw[if_neg hb]at s3;have C:∀j,j<(cW (g k0).p st v).length->ev (cW (g k0).p st v) j∈((g k0).bQ st now v).p.1.E:=fun j d=>by
  show _∈((g k0).bQ st now v).es;rw[zH,QF _ _ d];exact List.mem_append_right _ (x4 _)
 have S:∀j,j<(cW (g k0).p st v).length->(ev (cW (g k0).p st v) j).k=0\/(ev (cW (g k0).p st v) j).k=1->0<=(ev (cW (g k0).p st v) j).z/\(ev (cW (g k0).p st v) j).z<3:=fun j d q=>by
  refine(s.mi.K _ (C j d)).z ?_;unfold OP
  rcases q with e|e<;>rw[e]<;>rfl
 have O:∀j,j<(cW (g k0).p st v).length->0<=(ev (cW (g k0).p st v) j).value/\(ev (cW (g k0).p st v) j).value<4:=fun j d=>by
  obtain⟨N,hN⟩:=s.ok;have:=hN.K _ (C j d);exact⟨this.1,this.2.1⟩
 have I:∀e t,GE (Y ts) (fun k=>if k=k0 then(g k0).bQ st now v else g k) e t↔GE (Y ts) g e t\/∃j,j<(cW (g k0).p st v).length/\e=ev (cW (g k0).p st v) j/\t=now+j:=fun e t=>by
  rw[IL h (fun k=>decide (k=k0)) (fun _=>st) (fun _=>v) (g':=fun k=>if k=k0 then(g k0).bQ st now v else g k) fun k q=>by
   by_cases c:k=k0
   ·simp[c]
   ·simp[c]]
  constructor
  ·rintro(a|⟨k,q,c,a⟩)
   ·exact xF a
   ·have:k=k0:=by simpa using c
    subst this;exact xR a
  ·rintro(a|a)
   ·exact xF a
   ·exact xR ⟨k0,G,by simp,a⟩
 generalize M:cW (g k0).p st v=L at*;have zP:∀e t,GE (Y ts) (fun k=>if k=k0 then(g k0).bQ st now v else g k) e t->t<now->GE (Y ts) g e t:=fun e t a b=>by
  rcases(I e t).1 a with a|⟨j,_,_,a⟩
  ·exact a
  ·omega
 have up:∀e t,GE (Y ts) g e t->GE (Y ts) (fun k=>if k=k0 then(g k0).bQ st now v else g k) e t:=fun e t a=>(I e t).2 (xF a)
 refine⟨by have:=h.now3;omega,fun k q=>?_,?_,?_,?_,?_,?_⟩
 ·by_cases c:k=k0
  ·subst c;rw[if_pos rfl];exact s
  ·rw[if_neg c];exact(h.th k q).JT (by omega)
 ·have KP:∀i,i<Y ts->i≠k0->∀j A,j<((g k0).bQ st now v).es.length->A<(g i).es.length->(ev ((g k0).bQ st now v).es j).k<3->(ev (g i).es A).k<3->((g k0).bQ st now v).T j=(g i).T A->False:=fun i o ne j A d l a b e=>by
   by_cases c:j<(g k0).es.length
   ·obtain⟨F,J⟩:=pO U.len st now v c;rw[F]at a;rw[J]at e;exact ne (h.inj k0 i j A G o c l a b e).symm
   ·rw[qO,M]at d;obtain⟨_,J⟩:=tQ U.len st now v (j:=j-(g k0).es.length) (by rw[M];omega);rw[show(g k0).es.length+(j-(g k0).es.length)=j by omega]at J;have:=((h.th i o).lo A l).2;omega
  intro k i j A q o d l a b e;by_cases c:k=k0<;>by_cases c':i=k0
  ·rw[c,c']
  ·simp only[c,c',if_true,if_false]at d l a b e;exact(KP i o c' j A d l a b e).elim
  ·simp only[c,c',if_true,if_false]at d l a b e;exact(KP k q c A j l d b a e.symm).elim
  ·simp only[c,c',if_false]at d l a b e;exact h.inj k i j A q o d l a b e
 ·intro k j q d a;by_cases c:k=k0
  ·subst c;simp only[if_true]at d a⊢;by_cases c2:j<(g k).es.length
   ·obtain⟨F,J⟩:=pO U.len st now v c2;rw[F]at a;rw[F,J];obtain⟨b1,b2,b3⟩:=h.bar k j q c2 a;exact⟨b1,by show _<((aP (g k).p st v).1.u:Int);omega,b3⟩
   ·rw[qO,M]at d;obtain⟨F,_⟩:=tQ U.len st now v (j:=j-(g k).es.length) (by rw[M];omega);rw[show(g k).es.length+(j-(g k).es.length)=j by omega,M]at F;rw[F]at a;have:=V.k (j-(g k).es.length) (by omega);omega
  ·simp only[c,if_false]at d a⊢;exact h.bar k j q d a
 ·have KP:∀k,(if k=k0 then(g k0).bQ st now v else g k).p.1.u=(g k).p.1.u:=fun k=>by
   by_cases c:k=k0
   ·subst c;rw[if_pos rfl];show(aP (g k).p st v).1.u=_;omega
   ·rw[if_neg c]
  intro k i q o e;show(if k=k0 then(g k0).bQ st now v else g k).p.1.u=(if i=k0 then(g k0).bQ st now v else g i).p.1.u;rw[KP,KP];exact h.u k i q o e
 ·intro e t a k
  rcases(I e t).1 a with a|⟨j,d,rfl,rfl⟩
  ·obtain⟨B,b⟩:=h.rd e t a k;have:=h.lt a;exact⟨B,b.keep up fun H B r _ _ lt=>zP H B r (by omega)⟩
  ·obtain⟨rfl,q1,q2⟩:=V.rd j d k;have vr:=S 0 d (xF k);rw[q1]at vr;obtain⟨m1,B,b⟩:=h.mem st.z vr.1 vr.2;refine⟨B,?_⟩;rw[q1,q2];have:mem st.z=(v:Int):=by omega
   rw[this]at b;exact b.keep up fun H B r _ _ lt=>zP H B r (by omega)
 ·intro x x0 x3;obtain⟨m1,B,b⟩:=h.mem x x0 x3;unfold kQ;by_cases c:(ev L (Y L-1)).k=1/\(ev L (Y L-1)).z=x
  ·rw[if_pos c];have D:Y L-1<Y L:=by
    by_cases c2:Y L-1<Y L
    ·exact c2
    ·rw[PI _ _ (by omega)]at c;have:=c.1;simp[Ev.zero]at this
   refine⟨O _ D,now+(Y L-1),ev L (Y L-1),(I _ _).2 (xR ⟨_,D,Z,Z⟩),c.1,c.2,Z,by have:=V.len;omega,fun H B r i _ _=>?_⟩
   rcases(I _ _).1 r with r|⟨j,d,_,rfl⟩
   ·have:=h.lt r;omega
   ·omega
  ·rw[if_neg c];refine⟨m1,B,?_⟩;obtain⟨e,a1,a2,a3,a4,a5,a6⟩:=b;refine⟨e,up _ _ a1,a2,a3,a4,by omega,fun H X r i v' _=>?_⟩
   rcases(I _ _).1 r with r|⟨j,d,rfl,rfl⟩
   ·exact a6 H X r i v' (h.lt r)
   ·have:=V.wr j d i;exact absurd ⟨by rw[<- i];congr 2;omega,by rw[<- v'];congr 2;omega⟩ c
theorem NK.rel(h:NK ts g mem now R)(b:Int)(n:Nat)(d:Nat->JR)(hw:∀k,k<Y ts->WF (ts.getD k JZ))(H:∀k,k<Y ts->(ts.getD k JZ).block=b->((g k).rest=d k::(g k).rest.tail/\(d k).k=5/\(g k).p.2=0)/\(g k).p.1.u=n):
  NK ts (fun k=>if(ts.getD k JZ).block=b then(g k).bQ (d k) now 0 else g k) mem (now+2) fun b' j=>if b'=b/\j=(n:Int)then now else R b' j:=by
 have o:∀k,k<Y ts->(ts.getD k JZ).block=b->cW (g k).p (d k) 0=[((g k).p.1.un 0).V 3 (d k),((g k).p.1.un 0).V 4 (d k)]:=fun k l e=>by
  obtain⟨⟨_,I,G⟩,_⟩:=H k l e;rw[<- Da _ _ _ I]
  congr 1
  rw[<- G]
 have S:∀e t,GE (Y ts) (fun k=>if(ts.getD k JZ).block=b then(g k).bQ (d k) now 0 else g k) e t->e.k<3->GE (Y ts) g e t:=fun e t a X=>by
  rcases(IL h (fun k=>decide ((ts.getD k JZ).block=b)) d (fun _=>0) fun k l=>by
   by_cases c:(ts.getD k JZ).block=b
   ·simp only[c,if_true,decide_true]
   ·simp only[c,if_false,decide_false,x5]).1 a with a|⟨k,l,c,j,x,rfl,_⟩
  ·exact a
  ·have M:(ts.getD k JZ).block=b:=by simpa using c
   rw[o k l M]at x X;have:j=0\/j=1:=by have:j<2:=x;omega
   rcases this with rfl|rfl
   ·exact absurd X (by show ¬(3:Int)<3;omega)
   ·exact absurd X (by show ¬(4:Int)<3;omega)
 have up:∀e t,GE (Y ts) g e t->GE (Y ts) (fun k=>if(ts.getD k JZ).block=b then(g k).bQ (d k) now 0 else g k) e t:=fun e t a =>
  (IL h (fun k=>decide ((ts.getD k JZ).block=b)) d (fun _=>0) fun k l=>by
   by_cases c:(ts.getD k JZ).block=b
   ·simp only[c,if_true,decide_true]
   ·simp only[c,if_false,decide_false,x5]).2 (xF a)
 have C:∀k j,k<Y ts->j<(if(ts.getD k JZ).block=b then(g k).bQ (d k) now 0 else g k).es.length->j<(g k).es.length/\ev (if(ts.getD k JZ).block=b then(g k).bQ (d k) now 0 else g k).es j=ev (g k).es j/\(if(ts.getD k JZ).block=b then(g k).bQ (d k) now 0 else g k).T j=(g k).T j\/(ts.getD k JZ).block=b/\∃i,i<2/\ev (if(ts.getD k JZ).block=b then(g k).bQ (d k) now 0 else g k).es j=ev [((g k).p.1.un 0).V 3 (d k),((g k).p.1.un 0).V 4 (d k)] i/\(if(ts.getD k JZ).block=b then(g k).bQ (d k) now 0 else g k).T j=now+i:=fun k j l x=>by
  by_cases c:(ts.getD k JZ).block=b
  ·simp only[c,if_true]at x⊢;by_cases M:j<(g k).es.length
   ·exact xF ⟨M,pO (h.th k l).len _ _ _ M⟩
   ·rw[qO,o k l c]at x;have aa:j<(g k).es.length+2:=x;obtain⟨s,A⟩:=tQ (h.th k l).len (d k) now 0 (j:=j-(g k).es.length) (by rw[o k l c];show _<2;omega);rw[show(g k).es.length+(j-(g k).es.length)=j by omega]at s A;rw[o k l c]at s;exact xR ⟨trivial,j-(g k).es.length,by omega,s,A⟩
  ·simp only[c,if_false]at x⊢;exact xF ⟨x,trivial,trivial⟩
 have E:∀k i,i<2->(ev [((g k).p.1.un 0).V 3 (d k),((g k).p.1.un 0).V 4 (d k)] i).k=3+(i:Int)/\(ev [((g k).p.1.un 0).V 3 (d k),((g k).p.1.un 0).V 4 (d k)] i).block=(g k).p.1.block/\(ev [((g k).p.1.un 0).V 3 (d k),((g k).p.1.un 0).V 4 (d k)] i).u=((g k).p.1.u:Int):=fun k i F=>by
  have:i=0\/i=1:=by omega
  rcases this with rfl|rfl
  ·exact⟨Z,Z,Z⟩
  ·exact⟨Z,Z,Z⟩
 refine⟨by have:=h.now3;omega,fun k l=>?_,?_,?_,?_,?_,?_⟩
 ·by_cases c:(ts.getD k JZ).block=b
  ·rw[if_pos c];exact(fun k l e=>(h.th k l).bQ (hw k l) (H k l e).1.1 (by omega) h.now3) k l c
  ·rw[if_neg c];exact(h.th k l).JT (by omega)
 ·intro k r j j' l z x W a B e
  rcases C k j l x with⟨c,s,A⟩|⟨_,i,F,s,_⟩
  ·rcases C r j' z W with⟨c',D,O⟩|⟨_,i,F,D,_⟩
   ·rw[s]at a;rw[D]at B;rw[A,O]at e;exact h.inj k r j j' l z c c' a B e
   ·rw[D,(E r i F).1]at B;omega
  ·rw[s,(E k i F).1]at a;omega
 ·intro k j l x a;have U:(g k).p.1.u<=(if(ts.getD k JZ).block=b then(g k).bQ (d k) now 0 else g k).p.1.u:=by
   by_cases c:(ts.getD k JZ).block=b
   ·rw[if_pos c];have:=(rF (g k).p (d k) 0).2.2;show _<=(aP (g k).p (d k) 0).1.u;omega
   ·rw[if_neg c];exact x1 _
  rcases C k j l x with⟨c,s,A⟩|⟨c,i,F,s,A⟩
  ·rw[s]at a;rw[s,A];obtain⟨b1,b2,b3⟩:=h.bar k j l c a;refine⟨b1,by omega,?_⟩;rw[b3];have:¬((ev (g k).es j).block=b/\(ev (g k).es j).u=(n:Int)):=fun⟨q1,q2⟩=>by
    have:=(H k l (by rw[<- b1];exact q1)).2;omega
   rw[if_neg this]
  ·obtain⟨z1,z2,z3⟩:=E k i F;rw[s,A,z1,z2,z3,(h.th k l).blk];obtain⟨⟨_,I,G⟩,hn⟩:=H k l c;refine⟨Z,?_,?_⟩
   ·rw[if_pos c];have:=(rF (g k).p (d k) 0).2.2;rw[if_pos ⟨G,I⟩]at this;show _<((aP (g k).p (d k) 0).1.u:Int);omega
   ·rw[if_pos ⟨c,by rw[hn]⟩];have:i=0\/i=1:=by omega
    rcases this with rfl|rfl
    ·rfl
    ·rfl
 ·have KP:∀k,k<Y ts->(if(ts.getD k JZ).block=b then(g k).bQ (d k) now 0 else g k).p.1.u=(g k).p.1.u+if(ts.getD k JZ).block=b then 1 else 0:=fun k l=>by
   by_cases c:(ts.getD k JZ).block=b
   ·obtain⟨⟨_,I,G⟩,_⟩:=H k l c;have:=(rF (g k).p (d k) 0).2.2;rw[if_pos ⟨G,I⟩]at this;rw[if_pos c,if_pos c];exact this
   ·rw[if_neg c,if_neg c];rfl
  intro k r l z e;show(if(ts.getD k JZ).block=b then(g k).bQ (d k) now 0 else g k).p.1.u=(if(ts.getD r JZ).block=b then(g r).bQ (d r) now 0 else g r).p.1.u;rw[KP k l,KP r z,h.u k r l z e,e]
 ·intro e t a k;obtain⟨J,q⟩:=h.rd e t (S e t a (by omega)) k;exact⟨J,q.keep up fun N J B r _ _=>S N J B (by omega)⟩
 ·intro v v0 v3;obtain⟨m1,J,e,a1,L,a3,a4,a5,a6⟩:=h.mem v v0 v3;exact⟨m1,J,e,up _ _ a1,L,a3,a4,by omega,fun N K B r v' _=>by
   have L:=S N K B (by omega);exact a6 N K L r v' (h.lt L)⟩
end
def g0(ts:List JV)(k:Nat):GT:=⟨(Ex.start k (ts.getD k JZ).block 0,0),[],(ts.getD k JZ).S,[]⟩
theorem Db(ts:List JV):NK ts (g0 ts) (fun _=>0) 3 fun _ _=>0:=by
 have n:∀k j,¬j<(g0 ts k).es.length:=fun k j h=>by simp[g0,GT.es,Ex.start]at h
 have d:∀e t,GE (Y ts) (g0 ts) e t->∃i:Nat,i<3/\e=NG (i:Int)/\t=i:=fun e t h=>by
  rcases h with h|⟨k,_,j,b,_⟩
  ·exact h
  ·exact absurd b (n k j)
 refine⟨x1 _,fun k _=>?_,fun k r j q _ _ h=>absurd h (n k j),fun k j _ h=>absurd h (n k j),fun _ _ _ _ _=>Z,fun e t h k=>?_,fun v s u=>?_⟩
 ·exact⟨Z,S2 _ _,Ci _ _ _,fun i l=>absurd l (n k i),⟨0,CR _ _ _ (by omega)⟩,Z,Z,by simp[g0,JU],by simp[g0,LF,Ex.start],Z,fun j b=>absurd b (n k j),fun i j _ b=>absurd b (n k j),fun j b=>absurd b (n k (j+1)),fun j b=>absurd b (n k j)⟩
 ·obtain⟨i,_,rfl,_⟩:=d e t h;simp[NG]at k
 ·refine⟨by decide,v.toNat,NG v,xF ⟨v.toNat,by omega,by congr;omega,Z⟩,Z,Z,Z,by omega,fun g o a _ c _=>?_⟩;obtain⟨i,_,rfl,p⟩:=d g o a;have:(i:Int)=v:=c;omega
theorem Dc:∀(a:List (List Run)) (rs:List Run),Y rs=Y a->(∀k,k<Y a->rs.getD k Cs∈a.getD k [])->∃b∈LX (MP a),∀W,gM W a b=rs.foldl Wd.join W
 |[],[],_,_=>⟨[],by simp[MP,LX],fun W=>Z⟩
 |r::a,x::rs,hl,h=>by
  obtain⟨b,c,e⟩:=Dc a rs (by simpa using hl) (fun k g=>by simpa using h (k+1) (by simpa using g));obtain⟨i,d,l⟩:=List.getElem_of_mem (show x∈r by simpa using h 0 (by simp));refine⟨(i:Int)::b,zU ⟨by omega,by show(i:Int)<(Y r:Int);omega,PY c⟩,fun W=>?_⟩;rw[gM,dif_pos (by simpa using d),List.foldl_cons,<- e]
  congr 2
 |[],x::rs,hl,_=>by simp at hl
 |r::a,[],hl,_=>by simp at hl
section
variable {ts:List P.JV}{g:Nat->GT}{mem:Int->Int}{now:Nat}{R:Int->Int->Nat}
def NM(n:Nat)(g:Nat->GT):List (List Ev):=(xW n).map fun k=>(g k).es
theorem vI(n:Nat)(g:Nat->GT)(a:k<n):(NM n g).getD k []=(g k).es:=by
 unfold NM;rw[x6];simp[a]
theorem AN(n:Nat)(g:Nat->GT):(NM n g).length=n:=by simp[NM]
def PC(n:Nat)(g:Nat->GT)(m:Nat):Nat:=if m<3 then m else(g (mB (NM n g) (m-3)).1).T (mB (NM n g) (m-3)).2
theorem PD(n:Nat)(g:Nat->GT)(a:k<n)(b:j<(g k).es.length):PC n g (3+NB (NM n g) k+j)=(g k).T j:=by
 unfold PC;rw[if_neg (by omega),show 3+NB (NM n g) k+j-3=NB (NM n g) k+j by omega,Sv _ _ _ (by rw[AN];exact a) (by rw[vI n g a];exact b)]
theorem idx(n:Nat)(g:Nat->GT)(d:3<=m)(c:m<(MX++OD 3 (NM n g)).length):∃k j,k<n/\j<(g k).es.length/\m=3+NB (NM n g) k+j:=by
 rw[x2,tE,Co]at c;obtain⟨a,b,i⟩:=DJ (NM n g) (m-3) (by omega);rw[AN]at a;rw[vI n g a]at b;exact⟨_,_,a,b,by omega⟩
theorem PQ(n:Nat)(g:Nat->GT)(a:k<n)(c:j<(g k).es.length):ev (MX++OD 3 (NM n g)) (3+NB (NM n g) k+j)=OO (3+NB (NM n g) k) (ev (g k).es j)/\3+NB (NM n g) k+j<(MX++OD 3 (NM n g)).length:=by
 have b:=Sw (NM n g) k j (by rw[vI n g a];exact c);rw[vI n g a]at b;refine⟨b,?_⟩;rw[x2,tE,Co,AN];have:=yF (NM n g) k n a (by rw[AN];exact x1 _);rw[vI n g a]at this;omega
structure EvS(a b:Ev):Prop where
 k:a.k=b.k
 z:a.z=b.z
 value:a.value=b.value
theorem S9(g:Nat->GT)(h:GE n g e t):∃m,m<(MX++OD 3 (NM n g)).length/\EvS (ev (MX++OD 3 (NM n g)) m) e/\PC n g m=t:=by
 rcases h with⟨i,a,rfl,rfl⟩|⟨k,c,j,b,rfl,rfl⟩
 ·refine⟨t,by rw[x2,tE];omega,by rw[QM _ _ a];exact⟨Z,Z,Z⟩,by unfold PC;rw[if_pos a]⟩
 ·obtain⟨d,l⟩:=PQ n g c b;exact⟨_,l,by rw[d];exact⟨Z,Z,Z⟩,PD n g c b⟩
theorem RU(g:Nat->GT)(d:m<(MX++OD 3 (NM n g)).length):∃e,GE n g e (PC n g m)/\EvS (ev (MX++OD 3 (NM n g)) m) e:=by
 by_cases c:m<3
 ·exact⟨NG (m:Int),xF ⟨m,c,Z,by unfold PC;rw[if_pos c]⟩,by rw[QM _ _ c];exact⟨Z,Z,Z⟩⟩
 ·obtain⟨k,j,b,a,rfl⟩:=idx n g (by omega) d;rw[PD n g b a,(PQ n g b a).1];exact⟨ev (g k).es j,xR ⟨k,b,j,a,Z,Z⟩,⟨Z,Z,Z⟩⟩
theorem Dd(g:Nat->GT)(h:QQ n g v lim y t):∃w,w<(MX++OD 3 (NM n g)).length/\(ev (MX++OD 3 (NM n g)) w).k=1/\(ev (MX++OD 3 (NM n g)) w).z=v/\(ev (MX++OD 3 (NM n g)) w).value=y/\PC n g w<lim/\∀u,u<(MX++OD 3 (NM n g)).length->(ev (MX++OD 3 (NM n g)) u).k=1->(ev (MX++OD 3 (NM n g)) u).z=v->PC n g u<lim->PC n g u<=PC n g w:=by
 obtain⟨e,a,b,c,d,f,k⟩:=h;obtain⟨w,q,es,A⟩:=S9 g a;refine⟨w,q,es.k.trans b,es.z.trans c,es.value.trans d,by omega,fun u p r s x=>?_⟩;obtain⟨o,l,i⟩:=RU g p;have:=k o _ l (i.k.symm.trans r) (i.z.symm.trans s) x;omega
theorem NK.thrd(h:NK ts g mem now R)(c:k<Y ts)(b:j<(g k).es.length):(ev (g k).es j).j=(k:Int):=by
 have a:=h.th k c;have:=(a.mi.K (ev (g k).es j) (by rw[QF _ _ b];exact x4 _)).thr;rw[this,a.thr]
theorem NK.timed(h:NK ts g mem now R)(J:(MX++OD 3 (NM (Y ts) g)).length<=64):Timed (MX++OD 3 (NM (Y ts) g)) (PC (Y ts) g) where
 thr i k h3 hik hk e:=by
  obtain⟨a,j,o,p,rfl⟩:=idx (Y ts) g h3 (by omega);obtain⟨b,r,q,d,rfl⟩:=idx (Y ts) g (by omega) hk;rw[(PQ _ g o p).1,(PQ _ g q d).1]at e;have A:(ev (g a).es j).j=(ev (g b).es r).j:=e;rw[h.thrd o p,h.thrd q d]at A;have:a=b:=by omega
  subst this;rw[PD _ g o p,PD _ g o d];exact(h.th a o).inc j r (by omega) d
 fst i k hi h3 hk:=by
  obtain⟨b,r,q,d,rfl⟩:=idx (Y ts) g h3 hk;rw[PD _ g q d];have:=((h.th b q).lo r d).1;unfold PC;rw[if_pos hi];omega
 gat i k hi hk e:=by
  unfold PT at e;simp only[Bool.and_eq_true,beq_iff_eq]at e;obtain⟨⟨⟨B,A⟩,D⟩,C⟩:=e;have G:3<=i:=by
   by_cases c:i<3
   ·rw[QM _ _ c]at B;simp[NG]at B
   ·omega
  have H:3<=k:=by
   by_cases c:k<3
   ·rw[QM _ _ c]at A;simp[NG]at A
   ·omega
  obtain⟨a,j,o,p,rfl⟩:=idx (Y ts) g G hi;obtain⟨b,r,q,d,rfl⟩:=idx (Y ts) g H hk;rw[(PQ _ g o p).1]at B D C;rw[(PQ _ g q d).1]at A D C;have E:(ev (g a).es j).k=3:=B;have F:(ev (g b).es r).k=4:=A;have I:(ev (g a).es j).block=(ev (g b).es r).block:=D;have K:(ev (g a).es j).u=(ev (g b).es r).u:=C;obtain⟨_,_,U⟩:=h.bar a j o p (xF E);obtain⟨_,_,V⟩:=h.bar b r q d (xR F);rw[PD _ g o p,PD _ g q d,U,V,I,K,E,F];simp
 half k hk B A:=by
  have H:3<=k+1:=by
   by_cases c:k+1<3
   ·rw[QM _ _ c]at A;simp[NG]at A
   ·omega
  obtain⟨a,j,o,p,e⟩:=idx (Y ts) g H hk;rw[e,(PQ _ g o p).1]at B A;have E:(ev (g a).es j).k=1:=B;have F:(ev (g a).es j).step=true:=A;have I:=((h.th a o).mi.sw j E F).1;obtain⟨i,rfl⟩:∃i,j=i+1:=⟨j-1,by omega⟩;rw[e,show k=3+NB (NM (Y ts) g) a+i by omega,PD _ g o p,PD _ g o (by omega)];exact(h.th a o).half i p E F
 inj i k hi hk ne B A e:=by
  by_cases c:i<3<;>by_cases c':k<3
  ·unfold PC at e;rw[if_pos c,if_pos c']at e;exact ne e
  ·obtain⟨b,r,q,d,rfl⟩:=idx (Y ts) g (by omega) hk;rw[PD _ g q d]at e;unfold PC at e;rw[if_pos c]at e;have:=((h.th b q).lo r d).1;omega
  ·obtain⟨b,r,q,d,rfl⟩:=idx (Y ts) g (by omega) hi;rw[PD _ g q d]at e;unfold PC at e;rw[if_pos c']at e;have:=((h.th b q).lo r d).1;omega
  ·obtain⟨a,j,o,p,rfl⟩:=idx (Y ts) g (by omega) hi;obtain⟨b,r,q,d,rfl⟩:=idx (Y ts) g (by omega) hk;rw[(PQ _ g o p).1]at B;rw[(PQ _ g q d).1]at A;rw[PD _ g o p,PD _ g q d]at e;have:=h.inj a b j r o q p d B A e;subst this;by_cases c1:j<r
   ·have:=(h.th a o).inc j r c1 d;omega
   ·by_cases c2:r<j
    ·have:=(h.th a o).inc r j c2 p;omega
    ·exact ne (by omega)
 k i hi:=by
  by_cases c:i<3
  ·rw[QM _ _ c];simp[NG]
  ·obtain⟨a,j,o,p,rfl⟩:=idx (Y ts) g (by omega) hi;rw[(PQ _ g o p).1];exact(h.th a o).knd j p
 rd k hk e:=by
  obtain⟨x,a,s⟩:=RU g hk;obtain⟨W,l⟩:=h.rd x _ a (s.k.symm.trans e);rw[<- s.z,<- s.value]at l;obtain⟨w,L,M,N,O,S,T⟩:=Dd g l;exact⟨w,L,M,N,O,S,T⟩
 hang i k hi hk e:=by
  have G:3<=i:=by
   by_cases c:i<3
   ·rw[QM _ _ c]at e;rw[show(NG (i:Int)).h=0 from rfl,QL]at e;cases e
   ·omega
  obtain⟨a,j,o,p,rfl⟩:=idx (Y ts) g G hi;rw[(PQ _ g o p).1]at e;obtain⟨_,B,A⟩:=(RP (ev (g a).es j).h (3+NB (NM (Y ts) g) a) k (by omega)).1 e;have D:=(h.th a o).mh j p _ A;have C:=PD (Y ts) g o (j:=k-(3+NB (NM (Y ts) g) a)) (by omega);rw[show 3+NB (NM (Y ts) g) a+(k-(3+NB (NM (Y ts) g) a))=k by omega]at C;rw[C,PD _ g o p];exact(h.th a o).inc _ _ D p
theorem NK.o(h:NK ts g mem now R)(hV:PZ ts)(hn:∀d∈LX (MP (KC ts)),(KZ (KC ts) d).E.length<=64)(hr:∀k,k<Y ts->(g k).rest=[]):
  ((xW (Y ts)).map fun k=>(g k).p.1.g).flatten++[mem 0,mem 1,mem 2]∈(OB ts).y/\((xW (Y ts)).map fun k=>(g k).p.1.g).flatten++[mem 0,mem 1,mem 2]∈(MI ts).y:=by
 obtain⟨d,C,hj⟩:=Dc (KC ts) ((xW (Y ts)).map fun k=>(⟨(g k).es,(g k).p.1.g⟩:Run)) (by simp[KC,JF]) fun k o=>by
  rw[KC,JF]at o;rw[KC,Ct ts 0 k o,Nat.zero_add];have e:((xW (Y ts)).map fun k=>(⟨(g k).es,(g k).p.1.g⟩:Run)).getD k Cs=⟨(g k).es,(g k).p.1.g⟩:=by
   rw[x6];simp[o]
  rw[e];have I:=h.th k o;have c:=I.cod;have G:=I.sp;rw[hr k o,List.append_nil]at G;rw[G]at c;exact c.run
 have hw:KZ (KC ts) d=((xW (Y ts)).map fun k=>(⟨(g k).es,(g k).p.1.g⟩:Run)).foldl Wd.join ⟨MX,[]⟩:=hj _;obtain⟨J,K⟩:=Cq ((xW (Y ts)).map fun k=>(⟨(g k).es,(g k).p.1.g⟩:Run)) ⟨MX,[]⟩;rw[<- hw,List.map_map]at J K;have r:(KZ (KC ts) d).E=MX++OD 3 (NM (Y ts) g):=J;have wr:(KZ (KC ts) d).g=((xW (Y ts)).map fun k=>(g k).p.1.g).flatten:=K;have a:=hn d C;have H:=h.timed (by rw[<- r];exact a);rw[<- r]at H;obtain⟨rs,A,q,i,X,s,T,U,V,W⟩:=Su (St hV d) a H;have c:(⟨KZ (KC ts) d,KK (KZ (KC ts) d).E,(KK (KZ (KC ts) d).E).D (gK (KL (KZ (KC ts) d).E) rs)⟩:Cand)∈PW ts:=QZ.2 ⟨d,C,rs,A,Z,T⟩;have z:∀v:Int,0<=v->v<3->jU (KZ (KC ts) d).E v (OI (KZ (KC ts) d) q)=mem v:=fun v v0 v3=>by
  obtain⟨_,t,l⟩:=h.mem v v0 v3;obtain⟨w,L,M,N,O,w5,S⟩:=Dd g l;rw[<- r]at L M N O S;rw[W v w L M N fun u B k1 k2=>S u B k1 k2 (by
   rw[r]at B;obtain⟨x,b,_⟩:=RU g B;exact h.lt b),O]
 have F:OH (KZ (KC ts) d) (OI (KZ (KC ts) d) q)=((xW (Y ts)).map fun k=>(g k).p.1.g).flatten++[mem 0,mem 1,mem 2]:=by
  unfold OH;rw[wr,z 0 (by omega) (by omega),z 1 (by omega) (by omega),z 2 (by omega) (by omega)]
 exact⟨(RL ts _).2 ⟨_,c,q,i,U,F.symm⟩,(RO ts _).2 ⟨_,c,q,i,X,s,V,F.symm⟩⟩
end
def oE(f:Nat->Nat):Nat->Nat
 |0=>0
 |n+1=>oE f n+f n
theorem De{f h:Nat->Nat}:∀n,(∀k,k<n->f k<=h k)->oE f n<=oE h n
 |0,_=>x1 _
 |n+1,e=>by have:=De n fun k a=>e k (by omega);have:=e n (by omega);simp only[oE];omega
theorem AB{f h:Nat->Nat}:∀n,(∀k,k<n->f k<=h k)->(∃k,k<n/\f k<h k)->oE f n<oE h n
 |0,_,⟨k,hk,_⟩=>absurd hk (by omega)
 |n+1,e,⟨k,hk,hlt⟩=>by
  simp only[oE];by_cases c:k=n
  ·subst c;have:=De k fun j a=>e j (by omega);omega
  ·have:=AB n (fun j a=>e j (by omega)) ⟨k,by omega,hlt⟩;have:=e n (by omega);omega
theorem Df(h:st.k=5):0<LF (st::rs):=by
 have:∀l,0<=LF l:=fun l=>by
  induction l with
  |nil=>simp[LF]
  |cons s l ih=>simp only[LF];split<;>omega
 have:=this rs;simp only[LF,h];simp;omega
theorem Ta(A:∀k,k<Y ts->WF (ts.getD k JZ))(C:∀k k',k<Y ts->k'<Y ts->(ts.getD k JZ).block=(ts.getD k' JZ).block->LF (ts.getD k JZ).S=LF (ts.getD k' JZ).S):∀(m:Nat) (g:Nat->GT) (mem:Int->Int) (l:Nat) (R:Int->Int->Nat),NK ts g mem l R->oE (fun k=>(g k).rest.length) (Y ts)<=m->∃g' mem' now' R',NK ts g' mem' now' R'/\∀k,k<Y ts->(g' k).rest=[]:=by
 intro m
 induction m with
 |zero =>
  intro g mem l R h s;refine⟨g,mem,l,R,h,fun k d=>?_⟩;have:oE (fun k=>(g k).rest.length) (Y ts)=0:=by omega
  cases i:(g k).rest with
  |nil=>rfl
  |cons st rs =>
   have:=AB (f:=fun _=>0) (h:=fun k=>(g k).rest.length) (Y ts) fun _ _=>by omega ⟨k,d,by simp[i]⟩;omega
 |succ m ih =>
  intro g mem l R h s;by_cases c1:∃k,k<Y ts/\∃st rs,(g k).rest=st::rs/\¬((g k).p.2=0/\st.k=5)
  ·obtain⟨b,a,st,rs,i,r⟩:=c1;refine ih _ _ _ _ (h.one a (A b a) i r) (x7 (x8 (AB (Y ts) (fun k d=>?_) ⟨b,a,?_⟩) s))
   ·by_cases c:k=b
    ·subst c;simp[GT.bQ]
    ·simp[c]
   ·simp[GT.bQ,i]
  ·have o:∀k,k<Y ts->∀st rs,(g k).rest=st::rs->(g k).p.2=0/\st.k=5:=fun k d st rs i=>by
    by_cases c:(g k).p.2=0/\st.k=5
    ·exact c
    ·exact absurd ⟨k,d,st,rs,i,c⟩ c1
   by_cases c2:∃k,k<Y ts/\(g k).rest≠[]
   ·obtain⟨b,a,x⟩:=c2
    cases i:(g b).rest with
    |nil=>exact absurd i x
    |cons st rs =>
     have r:=o b a st rs i;have KP:∀k,k<Y ts->(ts.getD k JZ).block=(ts.getD b JZ).block->((g k).rest=(g k).rest.headD JR.zero::(g k).rest.tail/\((g k).rest.headD JR.zero).k=5/\(g k).p.2=0)/\(g k).p.1.u=(g b).p.1.u:=fun k d e=>by
      have z:=h.u k b d a e;have q:=C k b d a e;rw[<- (h.th k d).sp,<- (h.th b a).sp,sL,sL,<- (h.th k d).brs,<- (h.th b a).brs,z,i]at q;have B:=Df (rs:=rs) r.2
      cases hrk:(g k).rest with
      |nil=>rw[hrk]at q;simp only[LF]at q B;omega
      |cons st' rs' =>
       obtain⟨D,E⟩:=o k d st' rs' hrk;exact⟨⟨Z,E,D⟩,z⟩
     refine ih _ _ _ _ (h.rel (ts.getD b JZ).block (g b).p.1.u (fun k=>(g k).rest.headD JR.zero) A KP) (x7 (x8 (AB (Y ts) (fun k d=>?_) ⟨b,a,?_⟩) s))
     ·by_cases c:(ts.getD k JZ).block=(ts.getD b JZ).block
      ·simp only[c,if_true];show(g k).rest.tail.length<=_;simp
      ·simp only[c,if_false];exact x1 _
     ·simp[GT.bQ,i]
   ·exact⟨g,mem,l,R,h,fun k d=>by
     by_cases c:(g k).rest=[]
     ·exact c
     ·exact absurd ⟨k,d,c⟩ c2⟩
theorem Tb(q:∀k,k<Y ts->WF (ts.getD k JZ))(i:∀k k',k<Y ts->k'<Y ts->(ts.getD k JZ).block=(ts.getD k' JZ).block->LF (ts.getD k JZ).S=LF (ts.getD k' JZ).S)(c:PZ ts)(l:∀d∈LX (MP (KC ts)),(KZ (KC ts) d).E.length<=64):(OB ts).y≠[]/\(MI ts).y≠[]:=by
 obtain⟨g,mem,r,R,h,p⟩:=Ta q i _ _ _ _ _ (Db ts) (x1 _);obtain⟨a,b⟩:=h.o c l p;exact⟨fun e=>(by rw[e]at a;cases a),fun e=>by rw[e]at b;cases b⟩
end Q
end Go.Proofs.YtlikcongbhhpfaaGreatDoor
