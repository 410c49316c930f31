import Derived.Test.YtehclbpoabdpoaaGreatDoorO41
set_option linter.all false
set_option maxHeartbeats 0
namespace Go.Proofs.YtehclbpoabdpoaaGreatDoor
open Go Go.RowKit Go.Proofs.Tryz P Q
open scoped Classical
set_option maxRecDepth 1000000
variable {p:Nat->Bool}{i n s w:Nat}{es:List Ev}{ds rs:List Int}{B:Nat->Nat->Bool}{v:Int}{m:Et}{a b e:Ev}{st:MV}
open List renaming length->I
open Bool renaming true->C,false->O
open List renaming range->xF,getD_eq_getElem?_getD->xR,replicate->x1,getElem?_eq_getElem->x3,length_append->x4,mem_singleton->x5,mem_cons->x6,not_mem_nil->x7,getElem?_set_self->x8,getElem?_set_ne->x9,mem_cons_of_mem->xa,append_assoc->xc
open Bool renaming and_eq_true->xW
open Nat renaming le_refl->x2
open Int renaming toNat_natCast->xb
namespace Q
def SQ(es:List Ev)(i:Nat)(h:i<I es):ev es i=es[i]:=by
 unfold ev;rw[xR,x3 h];rfl
def RU(es:List Ev)(i:Nat)(h:I es<=i):ev es i=Ev.zero:=by
 unfold ev;rw[xR,List.getElem?_eq_none h];rfl
def SJ(es fs:List Ev)(i:Nat):ev (es++fs) i=if i<I es then ev es i else ev fs (i-I es):=by
 unfold ev;rw[xR,xR,xR,List.getElem?_append]
 split<;>rfl
def SK(g:Ev->Ev)(es:List Ev)(i:Nat):ev (es.map g) i=if i<I es then g (ev es i)else Ev.zero:=by
 by_cases h:i<I es
 ·rw[if_pos h,SQ _ _ (by simpa using h),SQ _ _ h];simp
 ·rw[if_neg h,RU _ _ (by simpa using h)]
def cB(m:Nat)(p:Nat->Bool):Nat:=((xF m).filter p).length
def tD(m:Nat)(p:Nat->Bool):cB (m+1) p=cB m p+if p m=C then 1 else 0:=by
 unfold cB;rw[List.range_succ,List.filter_append,x4]
 cases h:p m<;>simp[h]
def wN{p q:Nat->Bool}:∀m,(∀k,k<m->p k=C->q k=C)->cB m p<=cB m q
 |0,_=>x2 _
 |m+1,h=>by
  rw[tD,tD];have ih:=wN m fun k c=>h k (by omega)
  cases hp:p m
  ·simp;omega
  ·rw[(h m (by omega)) hp];simp;omega
def EI{p q:Nat->Bool}:∀m,(∀k,k<m->p k=C->q k=C)->(∃k,k<m/\q k=C/\p k=O)->cB m p<cB m q
 |0,_,⟨k,hk,_⟩=>absurd hk (by omega)
 |m+1,h,⟨k,hk,h1,h2⟩=>by
  rw[tD,tD];by_cases e:k=m
  ·subst e;have ih:=wN k fun j c=>h j (by omega);rw[h1,h2];simp;omega
  ·have ih:=EI m (fun j c=>h j (by omega)) ⟨k,by omega,h1,h2⟩
   cases hp:p m
   ·simp;omega
   ·rw[(h m (by omega)) hp];simp;omega
def Cl{s p q:Nat->Bool}:∀m,(∀k,k<m->(s k=C↔p k=C\/q k=C)/\¬(p k=C/\q k=C))->cB m s=cB m p+cB m q
 |0,_=>Z
 |m+1,h=>by
  rw[tD,tD,tD,Cl m fun k f=>h k (by omega)];obtain⟨c,d⟩:=h m (by omega)
  cases hp:p m<;>cases hq:q m<;>cases hs:s m<;>simp[hp,hq,hs]at c d⊢<;>omega
def Un(m:Nat)(h:∀k,k<m->p k=O):cB m p=0:=by
 have:=wN (p:=p) (q:=fun _=>O) m (fun k c e=>by rw[h k c]at e;cases e);have d:cB m (fun _=>O)=0:=by unfold cB;simp
 omega
def DX(l:List Int)(i j:Nat)(x:Int)(h:i<I l):(l.set i x).getD j 0=if j=i then x else l.getD j 0:=by
 by_cases e:j=i
 ·subst e;rw[if_pos rfl,xR,x8 h];rfl
 ·rw[if_neg e,xR,x9 (Ne.symm e),xR]
def Cm(rs p:List Int)(i:Nat)(k:i<I p):∀m,m<=i->((xF m).foldl (nD rs i) p).length=I p/\∀j,((xF m).foldl (nD rs i) p).getD j 0=if j<m/\rs.getD j (-1)=rs.getD i (-1)/\p.getD i 0<=p.getD j 0 then p.getD j 0+1 else p.getD j 0
 |0,_=>⟨Z,fun j=>by simp⟩
 |m+1,hm=>by
  rw[jJ];obtain⟨g,f⟩:=Cm rs p i k m (by omega);generalize(xF m).foldl (nD rs i) p=q at g f;have e1:q.getD i 0=p.getD i 0:=by rw[f,if_neg (by omega)]
  have e2:q.getD m 0=p.getD m 0:=by rw[f,if_neg (by omega)]
  unfold nD;rw[e1,e2];by_cases c:rs.getD m (-1)=rs.getD i (-1)/\p.getD i 0<=p.getD m 0
  ·rw[if_pos (by simp only[xW,beq_iff_eq,decide_eq_true_eq];exact c)];refine⟨by simp[g],fun j=>?_⟩;rw[DX _ _ _ _ (by omega)];by_cases e:j=m
   ·subst e;rw[if_pos rfl,if_pos ⟨by omega,c⟩]
   ·rw[if_neg e,f];by_cases c2:j<m/\rs.getD j (-1)=rs.getD i (-1)/\p.getD i 0<=p.getD j 0
    ·rw[if_pos c2,if_pos ⟨by omega,c2.2⟩]
    ·rw[if_neg c2,if_neg fun d=>c2 ⟨by omega,d.2⟩]
  ·rw[if_neg (by simp only[xW,beq_iff_eq,decide_eq_true_eq];exact c)];refine⟨g,fun j=>?_⟩;rw[f];by_cases e:j=m
   ·subst e;rw[if_neg (by omega),if_neg fun d=>c d.2]
   ·by_cases c2:j<m/\rs.getD j (-1)=rs.getD i (-1)/\p.getD i 0<=p.getD j 0
    ·rw[if_pos c2,if_pos ⟨by omega,c2.2⟩]
    ·rw[if_neg c2,if_neg fun d=>c2 ⟨by omega,d.2⟩]
def Co(rs ds p:List Int)(i:Nat)(d:i<I p):(jH rs ds p i).length=I p/\(rs.getD i (-1)=-1->∀j,(jH rs ds p i).getD j 0=if j=i then -1 else p.getD j 0)/\(rs.getD i (-1)≠-1->∀j,(jH rs ds p i).getD j 0=if j=i then lD rs i-ds.getD i 0 else if j<i/\rs.getD j (-1)=rs.getD i (-1)/\lD rs i-ds.getD i 0<=p.getD j 0 then p.getD j 0+1 else p.getD j 0):=by
 unfold jH;by_cases c:rs.getD i (-1)=-1
 ·rw[if_pos (by simpa using c)];exact⟨by simp,fun _ j=>DX _ _ _ _ d,fun h=>absurd c h⟩
 ·rw[if_neg (by simpa using c)];obtain⟨f,g⟩:=Cm rs (p.set i (lD rs i-ds.getD i 0)) i (by simpa using d) i (x2 _);refine⟨by rw[f];simp,fun h=>absurd h c,fun _ j=>?_⟩;rw[g,DX _ _ _ _ d,DX _ _ _ _ d,if_pos rfl];by_cases e:j=i
  ·rw[if_pos e,if_pos e,if_neg (by omega)]
  ·rw[if_neg e,if_neg e]
structure Ord(es:List Ev)(rs:List Int)(B:Nat->Nat->Bool):Prop where
 same:∀i k,B i k=C->i<I es/\k<I es/\rs.getD i (-1)=rs.getD k (-1)/\rs.getD i (-1)≠-1
 irr:∀i,B i i=O
 trans:∀i j k,B i j=C->B j k=C->B i k=C
 total:∀i k,i<I es->k<I es->i≠k->rs.getD i (-1)=rs.getD k (-1)->rs.getD i (-1)≠-1->B i k=C\/B k i=C
 first:∀i k,B i k=C->(ev es k).j≠-1
def Ord.not(h:Ord es rs B){k:Nat}(e:B i k=C):B k i=O:=by
 cases c:B k i
 ·rfl
 ·have:=h.trans i k i e c;rw[h.irr]at this;cases this
def Cp(f g:Nat->Int):∀(L:List Nat),(∀i∈L,0<=g i/\g i<f i)->PE (L.map f) (L.map g)
 |[],_=>trivial
 |a::L,h=>⟨(h a (by simp)).1,(h a (by simp)).2,Cp f g L fun i c=>h i (xa _ c)⟩
def MQ:∀{c ds:List Int},PE c ds->ds∈OJ c
 |[],[],_=>by simp[OJ]
 |b::c,d::ds,h=>by
  simp only[OJ,List.mem_flatMap,List.mem_map,List.mem_range];exact⟨ds,MQ h.2.2,d.toNat,by have:=h.1;have:=h.2.1;omega,by have:=h.1;rw[Int.toNat_of_nonneg this]⟩
 |[],d::ds,h=>by simp[PE]at h
 |b::c,[],h=>by simp[PE]at h
def Cq(f:Nat->Int)(n i:Nat)(h:i<n):((xF n).map f).getD i 0=f i:=by
 rw[xR];simp[h]
def Cr{es:List Ev}{rs:List Int}{B:Nat->Nat->Bool}(u:I rs=I es)(h:Ord es rs B)(ds:List Int)(f:∀i,i<I es->ds.getD i 0=(cB i (B i):Nat)):∀m,m<=I es->((xF m).foldl (jH rs ds) (x1 (I rs) 0)).length=I es/\∀i,i<m->rs.getD i (-1)≠-1->((xF m).foldl (jH rs ds) (x1 (I rs) 0)).getD i 0=(cB m fun k=>B k i:Nat)
 |0,_=>⟨by simp[u],fun i t=>absurd t (by omega)⟩
 |m+1,hm=>by
  rw[jJ];obtain⟨r,l⟩:=Cr u h ds f m (by omega);generalize(xF m).foldl (jH rs ds) (x1 (I rs) 0)=p at r l;obtain⟨y,z,A⟩:=Co rs ds p m (by omega);refine⟨by rw[y];exact r,fun i t j=>?_⟩;rw[tD];by_cases c:rs.getD m (-1)=-1
  ·rw[z c i];have o:i≠m:=fun e=>j (e▸c)
   rw[if_neg o,l i (by omega) j];have:B m i=O:=by
    cases e:B m i
    ·rfl
    ·exact absurd c (h.same _ _ e).2.2.2
   simp[this]
  ·rw[A c i];have d:lD rs m-ds.getD m 0=(cB m fun k=>B k m:Nat):=by
    have e1:lD rs m=(cB m fun k=>rs.getD k (-1)==rs.getD m (-1):Nat):=Z;have e2:=Cl (s:=fun k=>rs.getD k (-1)==rs.getD m (-1)) (p:=fun k=>B k m) (q:=fun k=>B m k) m fun k g=>by
     refine⟨⟨fun e=>?_,fun e=>?_⟩,fun e=>?_⟩
     ·have e3:rs.getD k (-1)=rs.getD m (-1):=by simpa using e
      exact h.total k m (by omega) (by omega) (by omega) e3 (by rw[e3];exact c)
     ·rcases e with e|e
      ·simpa using(h.same _ _ e).2.2.1
      ·simpa using(h.same _ _ e).2.2.1.symm
     ·have:=h.not e.1;rw[e.2]at this;cases this
    have e3:cB m (fun k=>B m k)=cB m (B m):=Z;rw[e1,e2,f m (by omega),e3];omega
   rw[d];by_cases e:i=m
   ·rw[if_pos e,e,h.irr];simp
   ·rw[if_neg e,l i (by omega) j];by_cases e2:rs.getD i (-1)=rs.getD m (-1)
    ·rcases h.total i m (by omega) (by omega) e e2 j with e3|e3
     ·have D:cB m (fun k=>B k i)<cB m fun k=>B k m:=EI m (fun k _ g=>h.trans _ _ _ g e3) ⟨i,by omega,e3,h.irr i⟩;rw[if_neg (by omega),h.not e3];simp
     ·have D:cB m (fun k=>B k m)<=cB m fun k=>B k i:=wN m fun k _ g=>h.trans _ _ _ g e3;rw[if_pos ⟨by omega,e2,by omega⟩,e3];simp
    ·have:B m i=O:=by
      cases e3:B m i
      ·rfl
      ·exact absurd (h.same _ _ e3).2.2.1.symm e2
     rw[if_neg fun x=>e2 x.2.1,this];simp
def vZ(es:List Ev)(i:Nat)(h:i<I es):(aN es).getD i (-1)=if(ev es i).B=1 then(ev es i).z else -1:=by
 unfold aN;rw[xR,List.getElem?_map,x3 h,SQ es i h];simp
def zP(es:List Ev):(aN es).length=I es:=by simp[aN]
def JI(es:List Ev):Prop:=∀i,i<I es->(ev es i).B=1->(ev es i).z≠-1
def Uo(F:JI es)(h:Ord es (aN es) B):∃ds∈OJ (OR es (aN es)),∀i k,i<I es->k<I es->QY es (eA (aN es) ds) i k=B i k:=by
 have z:=zP es;refine⟨(xF (aN es).length).map fun i=>((cB i (B i):Nat):Int),MQ ?_,fun i k d l=>?_⟩
 ·unfold OR;refine Cp _ _ _ fun i d=>?_;refine⟨by omega,?_⟩;unfold lX;have:cB i (B i)<=cB i (jL es (aN es) i):=wN i fun k l e=>by
   obtain⟨_,_,t,g⟩:=h.same _ _ e;unfold jL;simp only[xW,bne_iff_ne,ne_eq,beq_iff_eq];exact⟨⟨g,t.symm⟩,h.first _ _ e⟩
  unfold cB at this⊢;omega
 ·obtain⟨_,y⟩:=Cr z h ((xF (aN es).length).map fun i=>((cB i (B i):Nat):Int)) (fun i d=>Cq (fun i=>((cB i (B i):Nat):Int)) (aN es).length i (by rw[z];exact d)) (I es) (x2 _);have D:eA (aN es) ((xF (aN es).length).map fun i=>((cB i (B i):Nat):Int))=(xF (I es)).foldl (jH (aN es) ((xF (aN es).length).map fun i=>((cB i (B i):Nat):Int))) (x1 (aN es).length 0):=by
   unfold eA;rw[z]
  rw[D];generalize(xF (I es)).foldl (jH (aN es) ((xF (aN es).length).map fun i=>((cB i (B i):Nat):Int))) (x1 (aN es).length 0)=p at y;have f:∀i k,i<I es->k<I es->B i k=C->p.getD i 0<p.getD k 0:=fun i k d l e=>by
   obtain⟨_,_,t,g⟩:=h.same _ _ e;rw[y i d g,y k l (by rw[<- t];exact g)];have:=EI (I es) (p:=fun j=>B j i) (q:=fun j=>B j k) (fun j _ E=>h.trans _ _ _ E e) ⟨i,d,e,h.irr i⟩;omega
  rw[Bool.eq_iff_iff];unfold QY;simp only[xW,beq_iff_eq,decide_eq_true_eq];constructor
  ·rintro⟨⟨⟨u,x⟩,G⟩,H⟩;have o:=vZ es i d;have r:=vZ es k l;rw[if_pos u]at o;rw[if_pos x]at r;have A:i≠k:=fun e=>by rw[e]at H;omega
   rcases h.total i k d l A (by rw[o,r,G]) (by rw[o];exact F i d u)with e|e
   ·exact e
   ·have:=f k i l d e;omega
  ·intro e;obtain⟨_,_,t,g⟩:=h.same _ _ e;have o:=vZ es i d;have r:=vZ es k l;have u:(ev es i).B=1:=by
    by_cases c:(ev es i).B=1
    ·exact c
    ·rw[if_neg c]at o;exact absurd o g
   have x:(ev es k).B=1:=by
    by_cases c:(ev es k).B=1
    ·exact c
    ·rw[if_neg c]at r;rw[t]at g;exact absurd r g
   rw[if_pos u]at o;rw[if_pos x]at r;exact⟨⟨⟨u,x⟩,by rw[<- o,<- r,t]⟩,f i k d l e⟩
def FV(es:List Ev):Prop:=∀i k,i<I es->k<I es->i≠k->(ev es i).B=1->(ev es k).B=1->(ev es i).z=(ev es k).z->(ev es k).j=-1->k<i/\(ev es i).j≠-1
structure PlOk(es:List Ev)(rs p:List Int)(m:Nat):Prop where
 pos:∀i,i<m->rs.getD i (-1)≠-1->0<=p.getD i 0
 inj:∀i k,i<m->k<m->i≠k->rs.getD i (-1)≠-1->rs.getD i (-1)=rs.getD k (-1)->p.getD i 0≠p.getD k 0
 first:∀i,i<m->rs.getD i (-1)≠-1->(ev es i).j=-1->p.getD i 0=0
def Cs:∀{c ds:List Int},PE c ds->∀i,i<I c->0<=ds.getD i 0/\ds.getD i 0<c.getD i 0
 |[],[],_,i,h=>by simp at h
 |b::c,d::ds,h,0,_=>⟨h.1,h.2.1⟩
 |b::c,d::ds,h,i+1,hi=>by
  have:=Cs h.2.2 i (by simpa using hi);simpa using this
 |[],d::ds,h,_,_=>by simp[PE]at h
 |b::c,[],h,_,_=>by simp[PE]at h
def MF(h:i<I es)(e:(aN es).getD i (-1)≠-1):(ev es i).B=1/\(aN es).getD i (-1)=(ev es i).z:=by
 have r:=vZ es i h;by_cases c:(ev es i).B=1
 ·rw[if_pos c]at r;exact⟨c,r⟩
 ·rw[if_neg c]at r;exact absurd r e
def Ct{es:List Ev}(J:FV es){ds:List Int}(H:PE (OR es (aN es)) ds):∀m,m<=I es->((xF m).foldl (jH (aN es) ds) (x1 (aN es).length 0)).length=I es/\PlOk es (aN es) ((xF m).foldl (jH (aN es) ds) (x1 (aN es).length 0)) m
 |0,_=>⟨by simp[zP],fun i h=>absurd h (by omega),fun i k h=>absurd h (by omega),fun i h=>absurd h (by omega)⟩
 |m+1,hm=>by
  rw[jJ];obtain⟨G,y⟩:=Ct J H m (by omega);generalize(xF m).foldl (jH (aN es) ds) (x1 (aN es).length 0)=p at G y;obtain⟨M,N,S⟩:=Co (aN es) ds p m (by omega);refine⟨by rw[M];exact G,?_⟩;by_cases c:(aN es).getD m (-1)=-1
  ·have g:=N c;refine⟨fun i D d=>?_,fun i k D K o d l=>?_,fun i D d q=>?_⟩
   ·have:i≠m:=fun e=>d (e▸c)
    rw[g,if_neg this];exact y.pos i (by omega) d
   ·have e1:i≠m:=fun e=>d (e▸c)
    have e2:k≠m:=fun e=>d (by rw[l];exact e▸c)
    rw[g,g,if_neg e1,if_neg e2];exact y.inj i k (by omega) (by omega) o d l
   ·have:i≠m:=fun e=>d (e▸c)
    rw[g,if_neg this];exact y.first i (by omega) d q
  ·have g:=S c;have hb:(OR es (aN es)).length=I es:=by simp[OR,zP]
   obtain⟨d0,L⟩:=Cs H m (by omega);have A:(OR es (aN es)).getD m 0=lX es (aN es) m:=by
    unfold OR;exact Cq _ _ _ (by rw[zP];omega)
   have e1:lD (aN es) m=(cB m fun k=>(aN es).getD k (-1)==(aN es).getD m (-1):Nat):=Z;have e2:lX es (aN es) m=1+(cB m (jL es (aN es) m):Nat):=Z;have T:cB m (jL es (aN es) m)<=cB m fun k=>(aN es).getD k (-1)==(aN es).getD m (-1):=wN m fun k _ e=>by
    unfold jL at e;simp only[xW]at e;exact e.1.2
   rw[A,e2]at L;have t:0<=lD (aN es) m-ds.getD m 0:=by rw[e1];omega
   have x:(ev es m).j=-1->lD (aN es) m-ds.getD m 0=0:=fun q=>by
    have z:cB m fun k=>(aN es).getD k (-1)==(aN es).getD m (-1)=0:=Un m fun k K=>by
     rw[beq_eq_false_iff_ne];intro e;obtain⟨V,X⟩:=MF (es:=es) (i:=m) (by omega) c;obtain⟨W,Y⟩:=MF (es:=es) (i:=k) (by omega) (by rw[e];exact c);have:=(J k m (by omega) (by omega) (by omega) W V (by rw[<- X,<- Y,e]) q).1;omega
    rw[e1];omega
   have u:∀i,i<m->(aN es).getD i (-1)=(aN es).getD m (-1)->(ev es i).j=-1->1<=lD (aN es) m-ds.getD m 0:=fun i D l q=>by
    have U:cB m (jL es (aN es) m)<cB m fun k=>(aN es).getD k (-1)==(aN es).getD m (-1):=EI m (fun k _ e=>by
     unfold jL at e;simp only[xW]at e;exact e.1.2) ⟨i,D,by simpa using l,by unfold jL;simp[q]⟩
    rw[e1];omega
   generalize lD (aN es) m-ds.getD m 0=F at g t x u;refine⟨fun i D d=>?_,fun i k D K o d l=>?_,fun i D d q=>?_⟩
   ·rw[g];by_cases e:i=m
    ·rw[if_pos e];exact t
    ·rw[if_neg e];have:=y.pos i (by omega) d
     split<;>omega
   ·rw[g,g];by_cases e:i=m
    ·subst e;rw[if_pos rfl,if_neg (Ne.symm o)];by_cases c2:F<=p.getD k 0
     ·rw[if_pos ⟨by omega,l.symm,c2⟩];omega
     ·rw[if_neg fun r=>c2 r.2.2];omega
    ·rw[if_neg e];by_cases e':k=m
     ·subst e';rw[if_pos rfl];by_cases c2:F<=p.getD i 0
      ·rw[if_pos ⟨by omega,l,c2⟩];omega
      ·rw[if_neg fun r=>c2 r.2.2];omega
     ·rw[if_neg e'];have E:=y.inj i k (by omega) (by omega) o d l;rw[<- l];by_cases c0:(aN es).getD i (-1)=(aN es).getD m (-1)
      ·by_cases c2:F<=p.getD i 0<;>by_cases r:F<=p.getD k 0
       ·rw[if_pos ⟨by omega,c0,c2⟩,if_pos ⟨by omega,c0,r⟩];omega
       ·rw[if_pos ⟨by omega,c0,c2⟩,if_neg fun f=>r f.2.2];omega
       ·rw[if_neg fun f=>c2 f.2.2,if_pos ⟨by omega,c0,r⟩];omega
       ·rw[if_neg fun f=>c2 f.2.2,if_neg fun f=>r f.2.2];exact E
      ·rw[if_neg fun f=>c0 f.2.1,if_neg fun f=>c0 f.2.1];exact E
   ·rw[g];by_cases e:i=m
    ·rw[if_pos e];exact x (e▸q)
    ·rw[if_neg e];have E:=y.first i (by omega) d q
     by_cases c0:(aN es).getD i (-1)=(aN es).getD m (-1)
     ·have:=u i (by omega) c0 q;rw[if_neg fun f=>by omega];exact E
     ·rw[if_neg fun f=>c0 f.2.1];exact E
def MK(d:FV es)(c:ds∈OJ (OR es (aN es))):PlOk es (aN es) (eA (aN es) ds) (I es):=by
 have:=(Ct d (SI c) (I es) (x2 _)).2;unfold eA;rw[zP]at this⊢;exact this
def Cu(ps:List Int)(i k:Nat):QY es ps i k=C↔(ev es i).B=1/\(ev es k).B=1/\(ev es i).z=(ev es k).z/\ps.getD i 0<ps.getD k 0:=by
 unfold QY;simp only[xW,beq_iff_eq,decide_eq_true_eq];exact⟨fun h=>⟨h.1.1.1,h.1.1.2,h.1.2,h.2⟩,fun h=>⟨⟨⟨h.1,h.2.1⟩,h.2.2.1⟩,h.2.2.2⟩⟩
def sW(c:JI es)(h:i<I es)(k:(ev es i).B=1):(aN es).getD i (-1)=(ev es i).z/\(aN es).getD i (-1)≠-1:=by
 have r:=vZ es i h;rw[if_pos k]at r;exact⟨r,by rw[r];exact c i h k⟩
def Cv{es:List Ev}{v:Int}{ps:List Int}{w:Nat}(l:(ev es w).B=1)(o:(ev es w).z=v)(q:0<=ps.getD w 0)(g:∀k,k<I es->(ev es k).B=1->(ev es k).z=v->k≠w->ps.getD k 0<ps.getD w 0):∀m,m<=I es->(w<m->(xF m).foldl (oB v ps es) (0, -1)=((ev es w).value,ps.getD w 0))/\(m<=w->((xF m).foldl (oB v ps es) (0, -1)).2<ps.getD w 0)
 |0,_=>⟨fun h=>absurd h (by omega),fun _=>by show(-1:Int)<ps.getD w 0;omega⟩
 |m+1,hm=>by
  rw[jJ];obtain⟨j,d⟩:=Cv l o q g m (by omega);generalize(xF m).foldl (oB v ps es) (0, -1)=st at j d⊢;refine⟨fun h=>?_,fun h=>?_⟩
  ·by_cases e:m=w
   ·subst e;have f:=d (x2 _);unfold oB;rw[if_pos (by simp only[xW,beq_iff_eq,decide_eq_true_eq];exact⟨⟨l,o⟩,f⟩)]
   ·rw[j (by omega)];unfold oB;rw[if_neg];simp only[xW,beq_iff_eq,decide_eq_true_eq];rintro⟨⟨a,b⟩,c⟩;have:=g m (by omega) a b e;omega
  ·have f:=d (by omega);unfold oB
   split
   ·rename_i c;simp only[xW,beq_iff_eq,decide_eq_true_eq]at c;exact g m (by omega) c.1.1 c.1.2 (by omega)
   ·exact f
def Uq{ps:List Int}(d:w<I es)(f:(ev es w).B=1)(j:(ev es w).z=v)(g:0<=ps.getD w 0)(c:∀k,k<I es->(ev es k).B=1->(ev es k).z=v->k≠w->ps.getD k 0<ps.getD w 0):mB es v ps=(ev es w).value:=by
 unfold mB;rw[(Cv f j g c (I es) (x2 _)).1 d]
def IT(c:List Int)(cs:List (List Int))(d:Int)(ds:List Int):eW (c::cs) (d::ds)=c.getD d.toNat (-1)::eW cs ds:=by
 unfold eW;rw[List.length_cons,List.range_succ_eq_map,List.map_cons,List.map_map];rfl
def Ur(l:List Int)(x:Int)(h:x∈l):∃k,k<I l/\l.getD k (-1)=x:=by
 obtain⟨k,c,e⟩:=List.getElem_of_mem h;exact⟨k,c,by rw[xR,x3 c];exact e⟩
def Cw:∀(cs:List (List Int)) (l:List Int),I l=I cs->(∀i,i<I cs->l.getD i (-1)∈cs.getD i [])->∃ds∈OJ (PN cs),eW cs ds=l
 |[],[],_,_=>⟨[],by simp[PN,OJ],Z⟩
 |c::cs,x::l,h,hm=>by
  obtain⟨ds,d,e⟩:=Cw cs l (by simpa using h) (fun i g=>by simpa using hm (i+1) (by simpa using g));obtain⟨k,j,f⟩:=Ur c x (by simpa using hm 0 (by simp));refine⟨(k:Int)::ds,MQ ⟨by omega,by show(k:Int)<(I c:Int);omega,SI d⟩,?_⟩;rw[IT,e,xb,f]
 |[],x::l,h,_=>by simp at h
 |c::cs,[],h,_=>by simp at h
def Cx:∀{cs:List (List Int)} {ds:List Int},PE (PN cs) ds->∀i,i<I cs->(eW cs ds).getD i (-1)∈cs.getD i []
 |[],[],_,i,h=>by simp at h
 |c::cs,d::ds,h,0,_=>by
  rw[IT];have f:=h.1;have g:d<(I c:Int):=h.2.1;have:d.toNat<I c:=by omega
  simp[this]
 |c::cs,d::ds,h,i+1,hi=>by
  rw[IT];have:=Cx (cs:=cs) (ds:=ds) h.2.2 i (by simpa using hi);simpa using this
 |[],d::ds,h,_,_=>by simp[PN,PE]at h
 |c::cs,[],h,_,_=>by simp[PN,PE]at h
section
variable {pi:Int->Int}{f:Nat->Nat}{es es':List Ev}
end
def tW(s k:Nat):PD s (k:Int)=C↔k<64/\s.testBit k=C:=by
 by_cases h:k<64
 ·rw[XC s k h];simp[h]
 ·unfold PD bW;rw[if_pos (by omega)];simp[h]
def DK(a b k:Nat):PD (a|||b) (k:Int)=C↔PD a (k:Int)=C\/PD b (k:Int)=C:=by
 rw[tW,tW,tW,Nat.testBit_or,Bool.or_eq_true];constructor
 ·rintro⟨h,c|c⟩
  ·exact Or.inl ⟨h,c⟩
  ·exact Or.inr ⟨h,c⟩
 ·rintro(⟨h,c⟩|⟨h,c⟩)
  ·exact⟨h,Or.inl c⟩
  ·exact⟨h,Or.inr c⟩
def RV(k:Nat):PD 0 (k:Int)=O:=by
 cases h:PD 0 (k:Int)
 ·rfl
 ·have:=((tW 0 k).1 h).2;simp at this
def Cy(n k:Nat):PD (bW (n:Int)) (k:Int)=C↔n<64/\k=n:=by
 rw[tW];by_cases h:n<64
 ·rw[XB n k h,decide_eq_true_eq];constructor
  ·rintro⟨_,rfl⟩;exact⟨h,Z⟩
  ·rintro⟨_,rfl⟩;exact⟨h,Z⟩
 ·have:bW (n:Int)=0:=by unfold bW;rw[if_pos (by omega)]
  rw[this];simp[h]
def TI(s n k:Nat)(g:n<64):PD (QS s (n:Int)) (k:Int)=C↔k<64/\n<=k/\PD s ((k-n:Nat):Int)=C:=by
 rw[tW,tW];unfold QS;rw[if_neg (by omega),xb,show(18446744073709551616:Nat)=2^64 by decide,Nat.testBit_mod_two_pow,Nat.testBit_mul_two_pow];simp only[xW,decide_eq_true_eq];constructor
 ·rintro⟨h,f,c,d⟩;exact⟨h,c,by omega,d⟩
 ·rintro⟨h,c,_,d⟩;exact⟨h,h,c,d⟩
def HB(n s:Nat):Prop:=∀k:Nat,PD s (k:Int)=C->k<n
def HB.mono{m:Nat}(h:HB n s)(e:n<=m):HB m s:=fun k c=>by have:=h k c;omega
def HB.or{a b:Nat}(h:HB n a)(k:HB n b):HB n (a|||b):=fun j c=>by
 rcases(DK a b j).1 c with e|e
 ·exact h j e
 ·exact k j e
def SA(n:Nat):HB n 0:=fun k c=>by rw[RV]at c;cases c
def DC(n:Nat):HB (n+1) (bW (n:Int)):=fun k c=>by have:=((Cy n k).1 c).2;omega
def SR(es:List Ev):Prop:=∀i,(ev es i).B=0->(ev es i).step=C->(ev es (i+1)).B=1/\(ev es (i+1)).step=C
def TJ{fs:List Ev}(h:SR es)(k:SR fs):SR (es++fs):=fun i d f=>by
 rw[SJ]at d f⊢;by_cases c:i<I es
 ·rw[if_pos c]at d f;obtain⟨a,b⟩:=h i d f;have:i+1<I es:=by
   by_cases c2:i+1<I es
   ·exact c2
   ·rw[RU _ _ (by omega)]at a;simp[Ev.zero]at a
  rw[if_pos this];exact⟨a,b⟩
 ·rw[if_neg c]at d f;rw[if_neg (by omega),show i+1-I es=i-I es+1 by omega];exact k _ d f
def zE(h:¬(e.B=0/\e.step=C)):SR [e]:=fun i d c=>by
 cases i with
 |zero=>exact absurd ⟨d,c⟩ h
 |succ n=>rw[RU _ _ (by simp)]at c;simp[Ev.zero]at c
def Cz(h:b.B=1/\b.step=C):SR [a,b]:=fun i c d=>by
 cases i with
 |zero=>exact h
 |succ n =>
  cases n with
  |zero=>rw[show ev [a,b] (0+1)=b from rfl,h.1]at c;simp at c
  |succ n=>rw[RU _ _ (by simp)]at d;simp[Ev.zero]at d
def Ut:SR []:=fun i _ c=>by rw[RU _ _ (by simp)]at c;simp[Ev.zero]at c
def SW(es:List Ev):Prop:=∀i,(ev es i).B=1->(ev es i).step=C->0<i/\(ev es (i-1)).B=0/\(ev es (i-1)).step=C
def TM{fs:List Ev}(h:SW es)(k:SW fs):SW (es++fs):=fun i d f=>by
 rw[SJ]at d f⊢;by_cases c:i<I es
 ·rw[if_pos c]at d f;obtain⟨a,b⟩:=h i d f;rw[if_pos (by omega)];exact⟨a,b⟩
 ·rw[if_neg c]at d f;obtain⟨a,b⟩:=k _ d f;rw[if_neg (by omega),show i-1-I es=i-I es-1 by omega];exact⟨by omega,b⟩
def zG(h:¬(e.B=1/\e.step=C)):SW [e]:=fun i d c=>by
 cases i with
 |zero=>exact absurd ⟨d,c⟩ h
 |succ n=>rw[RU _ _ (by simp)]at c;simp[Ev.zero]at c
def Da(h:a.B=0/\a.step=C):SW [a,b]:=fun i c d=>by
 cases i with
 |zero=>rw[show ev [a,b] 0=a from rfl,h.1]at c;simp at c
 |succ n =>
  cases n with
  |zero=>exact⟨by omega,h⟩
  |succ n=>rw[RU _ _ (by simp)]at d;simp[Ev.zero]at d
def Uu:SW []:=fun i _ c=>by rw[RU _ _ (by simp)]at c;simp[Ev.zero]at c
def tO(s:MV):Prop:=s.B=0\/s.B=1\/s.B=2\/s.B=3->0<=s.z/\s.z<3
structure EvIn(n:Nat)(th:Int)(e:Ev):Prop where
 thr:e.j=th
 z:QH e=C->0<=e.z/\e.z<3
 hb:HB n e.h
def EvIn.mono{m:Nat}{th:Int}(h:EvIn n th e)(k:n<=m):EvIn m th e:=⟨h.thr,h.z,h.hb.mono k⟩
structure OL(m:Et):Prop where
 K:∀e∈m.E,EvIn (I m.E) m.j e
 mb:∀j,HB (I m.E) (m.made.getD j 0)
 ab:HB (I m.E) m.A
 sr:SR m.E
 sw:SW m.E
def OL.pR{m':Et}(h:OL m)(L:List Ev)(d:m'.E=m.E++L)(o:m'.j=m.j)(l:m'.made=m.made)(k:m'.A=m.A)(g:∀e∈L,EvIn (I m.E+I L) m.j e)(hs:SR L)(q:SW L):OL m':=by
 have f:I m'.E=I m.E+I L:=by rw[d,x4]
 refine⟨fun e c=>?_,fun j=>?_,?_,by rw[d];exact TJ h.sr hs,by rw[d];exact TM h.sw q⟩
 ·rw[f,o];rw[d]at c
  rcases List.mem_append.1 c with c|c
  ·exact(h.K e c).mono (by omega)
  ·exact g e c
 ·rw[f,l];exact(h.mb j).mono (by omega)
 ·rw[f,k];exact h.ab.mono (by omega)
def Uv(l:List Nat)(i j x:Nat):(l.set i x).getD j 0=x\/(l.set i x).getD j 0=l.getD j 0:=by
 by_cases h:i=j
 ·subst h;by_cases hl:i<I l
  ·left;rw[xR,x8 hl];rfl
  ·right;rw[List.set_eq_of_length_le (by omega)]
 ·right;rw[xR,x9 h,xR]
def OL.aJ(h:OL m)(d v:Int)(hs:HB (I m.E) s):OL (m.aJ d v s):=by
 unfold Et.aJ
 split
 ·exact h
 ·refine⟨h.K,fun j=>?_,h.ab,h.sr,h.sw⟩;show HB (I m.E) ((m.made.set d.toNat s).getD j 0)
  rcases Uv m.made d.toNat j s with e|e
  ·rw[e];exact hs
  ·rw[e];exact h.mb j
def OL.Ea(h:OL m)(a:QR):HB (I m.E) (m.Ea a):=by
 unfold Et.Ea
 split
 ·split
  ·exact SA _
  ·exact h.mb _
 ·exact SA _
def Uw(k:Int):k=0\/k=1\/k=2\/k=3\/k=4\/k=5\/(k==0)=O/\(k==1)=O/\(k==2)=O/\(k==3)=O/\(k==4)=O/\(k==5)=O:=by
 simp only[beq_eq_false_iff_ne,ne_eq];omega
def OL.bO(h:OL m)(g:tO st):OL (m.bO st):=by
 have rd:∀n,st.B=0\/st.B=2\/st.B=3->HB n m.A->EvIn n m.j {m.V 0 st with value:=(m.Y%4:Nat)}:=fun n l f=>⟨Z,fun _=>g (by omega),f⟩
 have wr:∀n v (s:Nat),st.B=1\/st.B=2\/st.B=3->HB n m.A->HB n s->EvIn n m.j {m.V 1 st with value:=v,h:=m.A|||s}:=fun n v s l f hs=>⟨Z,fun _=>g (by omega),f.or hs⟩
 unfold Et.bO
 rcases Uw st.B with e|e|e|e|e|e|⟨k,e1,e2,e3,e4,e5⟩
 ·rw[e];refine OL.aJ (m:=m.read st) (OL.pR (m':=m.read st) h [{m.V 0 st with value:=(m.Y%4:Nat)}] Z Z Z Z (fun x d=>?_) (zE fun c=>?_) (zG fun c=>by have:=c.1;simp[Et.V]at this)) _ _ ?_
  ·rw[x5]at d;rw[d];exact rd _ (Or.inl e) (h.ab.mono (by simp))
  ·have:=c.2;simp[Et.V,e]at this
  ·show HB (m.E++[_]).length _;rw[x4];exact DC _
 ·rw[e];refine OL.pR h [{m.V 1 st with value:=m.value st.a,h:=m.A|||m.Ea st.a}] Z Z Z Z (fun x d=>?_) (zE fun c=>?_) (zG fun c=>by have:=c.2;simp[Et.V,e]at this)
  ·rw[x5]at d;rw[d];exact wr _ _ _ (Or.inl e) (h.ab.mono (by simp)) ((h.Ea _).mono (by simp))
  ·have:=c.1;simp[Et.V]at this
 ·rw[e];show OL (m.step st);unfold Et.step;rw[e];refine OL.aJ (m:=(m.read st).bL st ((m.value st.a+(m.read st).aU (I m.E))%4) (m.Ea st.a|||bW (I m.E:Nat))) (OL.pR h [{m.V 0 st with value:=(m.Y%4:Nat)},{m.V 1 st with value:=(m.value st.a+(m.read st).aU (I m.E))%4,h:=m.A|||(m.Ea st.a|||bW (I m.E:Nat))}] ?_ Z Z Z (fun x d=>?_) (Cz ⟨Z,by simp[Et.V,e]⟩) (Da ⟨Z,by simp[Et.V,e]⟩)) _ _ ?_
  ·show m.E++[_]++[_]=_;rw[xc];rfl
  ·simp only[x6,x7,or_false]at d
   rcases d with rfl|rfl
   ·exact rd _ (by omega) (h.ab.mono (by simp))
   ·exact wr _ _ _ (by omega) (h.ab.mono (by simp)) (((h.Ea _).mono (by simp)).or ((DC _).mono (by simp)))
  ·show HB (m.E++[_]++[_]).length _;refine(DC _).mono ?_;simp
 ·rw[e];show OL (m.step st);unfold Et.step;rw[e];refine OL.aJ (m:=(m.read st).bL st (m.value st.a) (m.Ea st.a)) (OL.pR h [{m.V 0 st with value:=(m.Y%4:Nat)},{m.V 1 st with value:=m.value st.a,h:=m.A|||m.Ea st.a}] ?_ Z Z Z (fun x d=>?_) (Cz ⟨Z,by simp[Et.V,e]⟩) (Da ⟨Z,by simp[Et.V,e]⟩)) _ _ ?_
  ·show m.E++[_]++[_]=_;rw[xc];rfl
  ·simp only[x6,x7,or_false]at d
   rcases d with rfl|rfl
   ·exact rd _ (by omega) (h.ab.mono (by simp))
   ·exact wr _ _ _ (by omega) (h.ab.mono (by simp)) ((h.Ea _).mono (by simp))
  ·show HB (m.E++[_]++[_]).length _;refine(DC _).mono ?_;simp
 ·rw[e];refine OL.pR h [m.V 2 st] Z Z Z Z (fun x d=>?_) (zE fun c=>by have:=c.1;simp[Et.V]at this) (zG fun c=>by have:=c.1;simp[Et.V]at this);rw[x5]at d;rw[d];exact⟨Z,fun c=>by simp[QH,Et.V]at c,SA _⟩
 ·rw[e];refine OL.pR h [m.V 3 st,m.V 4 st] Z Z Z Z (fun x d=>?_) (TJ (es:=[m.V 3 st]) (zE fun c=>by have:=c.1;simp[Et.V]at this) (zE fun c=>by have:=c.1;simp[Et.V]at this)) (TM (es:=[m.V 3 st]) (zG fun c=>by have:=c.1;simp[Et.V]at this) (zG fun c=>by have:=c.1;simp[Et.V]at this));simp only[x6,x7,or_false]at d
  rcases d with rfl|rfl
  ·exact⟨Z,fun c=>by simp[QH,Et.V]at c,SA _⟩
  ·exact⟨Z,fun c=>by simp[QH,Et.V]at c,SA _⟩
 ·rw[k,e1,e2,e3,e4,e5];simp only[Bool.false_eq_true,if_false,Bool.or_self]
  split
  ·exact h.aJ _ _ ((h.Ea _).or (h.Ea _))
  ·exact h
def OL.aK{p:Et×Nat}(h:OL p.1)(c:tO st):OL (aK p st).1:=by
 unfold Q.aK
 split
 ·split
  ·exact⟨h.K,h.mb,h.ab.or (h.Ea _),h.sr,h.sw⟩
  ·exact h.bO c
 ·split
  ·exact h
  ·split<;>exact h
def Db:∀(c:List MV) {p:Et×Nat},(∀s∈c,tO s)->OL p.1->OL (c.foldl aK p).1
 |[],_,_,h=>h
 |s::c,p,hs,h=>by
  rw[List.foldl_cons];exact Db c (fun x d=>hs x (xa _ d)) (h.aK (hs s (by simp)))
def Ux(t b:Int)(u:Nat):OL (Et.start t b u):=
 ⟨fun e c=>by simp[Et.start]at c,fun j=>by
  have:(Et.start t b u).made.getD j 0=0:=by
   match j with
   |0=>rfl
   |1=>rfl
   |2=>rfl
   |3=>rfl
   |j+4=>rfl
  rw[this];exact SA _,SA _,Ut,Uu⟩
def Uy{t:NB}(h:∀s∈t.S,tO s)(i c:Nat):OL (kC t i c):=Db _ h (Ux _ _ _)
end Q
