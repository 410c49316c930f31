import Derived.Test.YtehclbpoabdpoaaGreatDoorO47
set_option linter.all false
set_option maxHeartbeats 0
namespace Go.Proofs.YtehclbpoabdpoaaGreatDoor
open Go Go.RowKit Go.Proofs.Tryz P Q R
open scoped Classical
set_option maxRecDepth 1000000
variable {a b i j k n:Nat}{B:Nat->Nat->Bool}{s:List Nat}{ats ds f:List Int}
open List renaming length->I
open Bool renaming true->Y,false->O
open Bool renaming and_eq_true->xF,or_eq_true->x1,eq_iff_iff->x6,not_eq_true'->xe,noConfusion->xk
open Or renaming inl->xR,inr->xW
open Nat renaming lt_or_ge->x2,le_refl->x5
open List renaming getD_eq_getElem?_getD->x4,getElem?_eq_getElem->x7,length_cons->x9,range->xa,any_eq_true->xb,idxOf_lt_length_of_mem->xc,mem_cons_of_mem->xd,getElem_cons_zero->xg,idxOf_append->xh,nodup_append->xi,getElem_idxOf->xj
open Int renaming toNat_natCast->x8
def Ew:∀(l m:List Nat),l.Nodup->(∀x∈l,x∈m)->I l<=I m
 |[],_,_,_=>by simp
 |a::l,m,h,hs=>by
  have c:=List.nodup_cons.1 h;have d:a∈m:=hs a (by simp);have:=Ew l (m.erase a) c.2 fun x g=>(List.mem_erase_of_ne fun e=>c.1 (by rw[<- e];exact g)).2 (hs x (xd _ g));rw[List.length_erase_of_mem d]at this;have o:=List.length_pos_of_mem d;simp;omega
def Q.We(a b:Ev):Q.aD a b=Q.aD b a:=by
 unfold Q.aD;rw[Bool.or_comm (a.j == -1),Bool.or_comm (!Q.bP a),Bool.and_comm (a.scope==1)];have e1:(a.j==b.j)=(b.j==a.j):=by rw[x6];simp;exact eq_comm
 have e2:(a.block==b.block)=(b.block==a.block):=by rw[x6];simp;exact eq_comm
 rw[e1,e2]
namespace J
structure CR(jes:List E)(qes:List Ev)(f ats ps:List Int):Prop where
 w:WR jes qes
 fl:I f=I qes
 leg:∀j,j<I qes->Legal jes j (f.getD j 0)
 bh:∀i k,i<I qes->k<I qes->J.order jes ats i k=QY qes ps i k
 NY:∀i k,i<I qes->k<I qes->i≠k->(Q.ev qes i).B=1->(Q.ev qes k).B=1->(Q.ev qes i).z=(Q.ev qes k).z->QY qes ps i k=Y\/QY qes ps k i=Y
 sr:∀i,i<I qes->(Q.ev qes i).B=0->(Q.ev qes i).step=Y->i+1<I qes/\(Q.ev qes (i+1)).B=1/\(Q.ev qes (i+1)).step=Y
 sw:∀i,i<I qes->(Q.ev qes i).B=1->(Q.ev qes i).step=Y->0<i/\(Q.ev qes (i-1)).B=0/\(Q.ev qes (i-1)).step=Y/\(Q.ev qes (i-1)).z=(Q.ev qes i).z/\(Q.ev qes (i-1)).j=(Q.ev qes i).j
section
variable {jes:List E}{qes:List Q.Ev}{f ats ps:List Int}
def CR.rd(h:CR jes qes f ats ps)(m:i<I qes)(t:(Q.ev qes i).B=0):∃k,k<I qes/\f.getD i 0=(k:Int)/\(Q.ev qes k).B=1/\(Q.ev qes k).z=(Q.ev qes i).z/\k≠i+1\/k<I qes/\f.getD i 0=(k:Int)/\(Q.ev qes k).B=1/\(Q.ev qes k).z=(Q.ev qes i).z/\(Q.ev qes i).step=O:=by
 have p:=h.w.er i m;have l:=h.leg i m;unfold Legal at l;rw[(eE p).1,t]at l;simp only[beq_self_eq_true,if_true]at l;obtain⟨k,e,o,g⟩:=l;rw[h.w.len]at e;have q:=h.w.er k e;unfold cT at g;rw[(eE q).2.1]at g;simp only[xF,beq_iff_eq,xe,Bool.and_eq_false_iff,beq_eq_false_iff_ne]at g;obtain⟨a,b,c,d⟩:=g;have r:=p.v (by omega);have u:=q.v (by omega);rw[r.1,u.1]at b
 rcases d with d|d
 ·exact⟨k,xW ⟨e,o,a,b,by rw[<- r.2.2];exact d⟩⟩
 ·exact⟨k,xR ⟨e,o,a,b,by omega⟩⟩
def CR.no(h:CR jes qes f ats ps)(c:i<I qes)(d:(Q.ev qes i).B≠0):f.getD i 0=-1:=by
 have l:=h.leg i c;unfold Legal at l;rw[(eE (h.w.er i c)).1]at l;rw[if_neg (by simpa using d)]at l;exact l
def CR.gd(h:CR jes qes f ats ps)(c:i<I qes):f.getD i (-1)=f.getD i 0:=by
 rw[x4,x4,x7 (by rw[h.fl];exact c)];rfl
def CR.qV(h:CR jes qes f ats ps)(c:i<I qes)(d:k<I qes):(NS qes f ps).rd i k↔f.getD i 0=(k:Int):=by
 show k<I qes/\i<I qes/\f.getD i (-1)=(k:Int)↔_;rw[h.gd c];exact⟨fun e=>e.2.2,fun e=>⟨d,c,e⟩⟩
def CR.lO(h:CR jes qes f ats ps)(c:i<I qes)(d:k<I qes):(NS qes f ps).G i k↔i≠k/\J.aD jes i k=Y:=by
 show i<I qes/\k<I qes/\SB i (Q.ev qes i) k (Q.ev qes k)=Y↔_;unfold SB;rw[h.w.G c d,xF,bne_iff_ne];exact⟨fun e=>e.2.2,fun e=>⟨c,d,e⟩⟩
def CR.pI(h:CR jes qes f ats ps)(c:i<I qes)(d:k<I qes):J.aD jes i k=J.aD jes k i:=by
 rw[h.w.G c d,h.w.G d c,We]
def CR.uY(h:CR jes qes f ats ps)(c:i<I qes)(d:k<I qes):(NS qes f ps).bh i k↔J.order jes ats i k=Y:=by
 show i<I qes/\k<I qes/\QY qes ps i k=Y↔_;rw[h.bh i k c d];exact⟨fun e=>e.2.2,fun e=>⟨c,d,e⟩⟩
def CR.jY(h:CR jes qes f ats ps)(d:i<I qes)(e:f.getD i 0=(k:Int)):(Q.ev qes i).B=0:=by
 rcases Classical.em ((Q.ev qes i).B=0)with c|c
 ·exact c
 ·have:=h.no d c;omega
def CR.to(h:CR jes qes f ats ps)(l:i<I qes)(e:f.getD i 0=(k:Int)):k<I qes/\(Q.ev qes k).B=1/\(Q.ev qes k).z=(Q.ev qes i).z/\((Q.ev qes i).step=Y->k≠i+1):=by
 obtain⟨m,o⟩:=h.rd l (h.jY l e)
 rcases o with⟨a,b,c,d,g⟩|⟨a,b,c,d,g⟩
 ·have:m=k:=by omega
  subst this;exact⟨a,c,d,fun _=>g⟩
 ·have:m=k:=by omega
  subst this;exact⟨a,c,d,fun e=>by rw[g]at e;cases e⟩
def CR.comm(h:CR jes qes f ats ps)(d:i<I qes)(g:k<I qes):J.cU jes f ats i k=Y↔(NS qes f ps).comm i k:=by
 have e1:J.aX jes f i k=Y↔(NS qes f ps).rd k i:=by
  rw[h.qV g d];unfold J.aX;rw[xF,(eE (h.w.er k g)).1,beq_iff_eq,beq_iff_eq];exact⟨fun e=>e.1,fun e=>⟨e,h.jY g e⟩⟩
 have e3:J.misses jes f ats i k=Y↔(NS qes f ps).misses i k:=by
  unfold J.misses;rw[xF,(eE (h.w.er i d)).1,beq_iff_eq];constructor
  ·rintro⟨a,b⟩;obtain⟨m,l⟩:=h.rd d a;have c:m<I qes/\f.getD i 0=(m:Int):=l.elim (fun x=>⟨x.1,x.2.1⟩) fun x=>⟨x.1,x.2.1⟩;rw[c.2,x8]at b;exact⟨m,(h.qV d c.1).2 c.2,(h.uY c.1 g).2 b⟩
  ·rintro⟨m,a,b⟩;have l:m<I qes:=a.1;have e:=(h.qV d l).1 a;refine⟨h.jY d e,?_⟩;rw[e,x8];exact(h.uY l g).1 b
 unfold J.cU Q.Sys.comm;rw[x1,x1,e1,<- h.uY d g,e3,or_assoc]
def CR.nA(h:CR jes qes f ats ps)(e:(NS qes f ps).comm i k):i<I qes/\k<I qes:=by
 rcases e with(e|e)|⟨m,e1,e2⟩
 ·exact⟨e.1,e.2.1⟩
 ·exact⟨e.1,e.2.1⟩
 ·exact⟨e1.2.1,e2.2.1⟩
def CR.talk(h:CR jes qes f ats ps)(i k:Nat):J.talk jes f ats i k=Y↔(NS qes f ps).OF i k:=by
 unfold J.talk cl;rw[bJ,h.w.len];constructor
 ·exact TC.mono fun x y e=>(h.comm e.1 e.2.1).1 e.2.2
 ·exact TC.mono fun x y e=>⟨(h.nA e).1,(h.nA e).2,(h.comm (h.nA e).1 (h.nA e).2).2 e⟩
def CR.half(h:CR jes qes f ats ps)(c:i<I qes)(d:k<I qes):(NS qes f ps).L i k↔(Q.ev qes i).B=1/\(Q.ev qes i).step=Y/\k+1=i:=by
 show i<I qes/\k<I qes/\SD i (Q.ev qes i) k=Y↔_;unfold SD;simp only[xF,beq_iff_eq];exact⟨fun e=>⟨e.2.2.1.1,e.2.2.1.2,e.2.2.2⟩,fun e=>⟨c,d,⟨e.1,e.2.1⟩,e.2.2⟩⟩
def sP(d:List E)(f:List Int)(a n b:Nat):bI d f a (n+1) b=Y↔∃c:Nat,f.getD b 0=(c:Int)/\J.aD d c b=Y/\(c=a\/(ev d c).half=Y/\bI d f a n (c-1)=Y):=by
 rw[bI];constructor
 ·intro e
  split at e
  ·rename_i g;rw[xF,decide_eq_true_eq]at g;refine⟨(f.getD b 0).toNat,by omega,g.2,?_⟩
   split at e
   ·rename_i l;left;rw[beq_iff_eq]at l;omega
   ·split at e
    ·rename_i m;exact xW ⟨m,e⟩
    ·cases e
  ·cases e
 ·rintro⟨c,e1,e2,e3⟩;rw[e1];have t:(c:Int).toNat=c:=by omega
  rw[t,e2];simp only[Bool.and_true,decide_eq_true_eq];rw[if_pos (by omega)]
  rcases e3 with rfl|⟨e3,e4⟩
  ·simp
  ·split
   ·rfl
   ·first|exact e4|(rw[if_pos e3];exact e4)
def Ex(d:List E)(f:List Int)(a:Nat):∀n b,bI d f a n b=Y->bI d f a (n+1) b=Y
 |0,b,h=>by simp[bI]at h
 |n+1,b,h=>by
  rw[sP]at h⊢;obtain⟨c,g,l,m⟩:=h;exact⟨c,g,l,m.imp id fun e=>⟨e.1,Ex d f a n _ e.2⟩⟩
def Wf(c:List E)(f:List Int)(a:Nat){m:Nat}(h:bI c f a n b=Y)(d:n<=m):bI c f a m b=Y:=by
 induction d with
 |refl=>exact h
 |step _ ih=>exact Ex c f a _ _ ih
def CR.chain(h:CR jes qes f ats ps)(a:Nat):∀n b,b<I qes->bI jes f a n b=Y->∃L:List Nat,L.Nodup/\(∀x∈L,x<I qes)/\L.head?=some b/\∀(i:Nat) (d:i<I L),bI jes f a (I L-i) L[i]=Y
 |0,b,_,e=>by simp[bI]at e
 |n+1,b,hb,e=>by
  have z:=e;rw[sP]at e;obtain⟨c,g,p,l⟩:=e
  rcases l with rfl|⟨l,v⟩
  ·refine⟨[b],by simp,by simpa using hb,Z,fun i d=>?_⟩;have:i=0:=by simp at d;omega
   subst this;rw[show[b].length-0=0+1 from rfl,sP];exact⟨c,g,p,xR Z⟩
  ·have A:=h.to hb g;obtain⟨L,q,r,t,o⟩:=h.chain a n (c-1) (by omega) v;by_cases hm:b∈L
   ·obtain⟨i,d,e⟩:=List.mem_iff_getElem.1 hm;refine⟨L.drop i,q.sublist (List.drop_sublist _ _),fun x m=>r x (List.mem_of_mem_drop m),by rw[List.head?_drop,x7 d,e],fun j y=>?_⟩;rw[List.length_drop]at y⊢;rw[List.getElem_drop];have:=o (i+j) (by omega);rw[show I L-i-j=I L-(i+j)by omega];exact this
   ·refine⟨b::L,List.nodup_cons.2 ⟨hm,q⟩,fun x m=>(List.mem_cons.1 m).elim (fun e=>by rw[e];exact hb) (r x),Z,fun i d=>?_⟩
    cases i with
    |zero =>
     simp only[x9,Nat.sub_zero,xg];rw[sP];refine⟨c,g,p,xW ⟨l,?_⟩⟩
     cases L with
     |nil=>simp at t
     |cons x L =>
      have u:x=c-1:=by simpa using t
      have:=o 0 (by simp);simpa[u]using this
    |succ i =>
     have:=o i (by simpa using d);simp only[x9,List.getElem_cons_succ];rw[show I L+1-(i+1)=I L-i by omega];exact this
def CR.sD(h:CR jes qes f ats ps)(l:b<I qes)(e:bI jes f a n b=Y):J.aP jes f a b=Y:=by
 obtain⟨L,o,p,d,q⟩:=h.chain a n b l e;have c:=Ew L (xa (I qes)) o fun x m=>List.mem_range.2 (p x m);rw[List.length_range]at c
 cases L with
 |nil=>simp at d
 |cons x L =>
  have g:x=b:=by simpa using d
  have:=q 0 (by simp);simp only[Nat.sub_zero,xg]at this;rw[g]at this;unfold J.aP;exact Wf jes f a this (by rw[h.w.len];simp only[x9]at c⊢;omega)
def CR.mV(h:CR jes qes f ats ps)(a:Nat)(r:a<I qes):∀n b,b<I qes->bI jes f a n b=Y->(NS qes f ps).aP b a
 |0,b,_,e=>by simp[bI]at e
 |n+1,b,hb,e=>by
  rw[sP]at e;obtain⟨c,m,p,o⟩:=e;have g:=h.to hb m;have u:=h.jY hb m;have hs:(NS qes f ps).bK b c:=⟨(h.qV hb g.1).2 m,(h.lO hb g.1).2 ⟨fun e=>by rw[e]at u;omega,by rw[h.pI hb g.1];exact p⟩⟩
  rcases o with rfl|⟨o,q⟩
  ·exact xR hs
  ·have l:(Q.ev qes c).step=Y:=by rw[<- ((h.w.er c g.1).v (by omega)).2.2];exact o
   have z:=h.sw c g.1 g.2.1 l;have t:(NS qes f ps).L c (c-1):=(h.half g.1 (by omega)).2 ⟨g.2.1,l,by omega⟩;have base:TC (Q.Th (NS qes f ps).bK (NS qes f ps).L) b (c-1):=TC.base ⟨c,hs,t⟩
   rcases h.mV a r n (c-1) (by omega) q with k|⟨d,x,y⟩
   ·exact xW ⟨c-1,base,k⟩
   ·exact xW ⟨d,base.trans x,y⟩
def CR.aP(h:CR jes qes f ats ps)(p:a<I qes)(e:b<I qes):J.aP jes f a b=Y↔(NS qes f ps).aP b a:=by
 constructor
 ·exact h.mV a p _ b e
 ·have l:∀b,(NS qes f ps).bK b a->∃m,bI jes f a m b=Y:=fun b k=>by
   have e:b<I qes:=k.1.2.1;refine⟨1,(sP jes f a 0 b).2 ⟨a,(h.qV e p).1 k.1,?_,xR Z⟩⟩;rw[h.pI p e];exact((h.lO e p).1 k.2).2
  intro k;have:∃m,bI jes f a m b=Y:=by
   rcases k with k|⟨c,C,D⟩
   ·exact l b k
   ·have:=C (fun x y=>(∃m,bI jes f a m y=Y)->∃m,bI jes f a m x=Y) (fun x y ⟨d,o,t⟩=>?_) fun x y z e1 e2 e3=>e1 (e2 e3)
    ·exact this (l c D)
    ·rintro⟨m,q⟩;have r:x<I qes:=o.1.2.1;have g:d<I qes:=o.1.1;have A:y<I qes:=t.2.1;have u:=(h.half g A).1 t;refine⟨m+1,(sP jes f a m x).2 ⟨d,(h.qV r g).1 o.1,by rw[h.pI g r];exact((h.lO r g).1 o.2).2,xW ⟨?_,?_⟩⟩⟩
     ·rw[((h.w.er d g).v (by omega)).2.2];exact u.2.1
     ·rw[show d-1=y by omega];exact q
  obtain⟨m,q⟩:=this;exact h.sD e q
end
section
variable {jes:List E}{qes:List Q.Ev}{f ats ps:List Int}
def Wg{c:List E}(h:J.aD c a b=Y):3<=a/\3<=b:=by
 unfold J.aD at h
 split at h
 ·cases h
 ·omega
def Ey(d:List E)(f:List Int)(a:Nat):∀n b,bI d f a n b=Y->3<=a/\3<=b
 |0,b,e=>by simp[bI]at e
 |n+1,b,e=>by
  rw[sP]at e;obtain⟨c,o,g,l⟩:=e;have hs:=Wg g
  rcases l with rfl|⟨_,m⟩
  ·exact hs
  ·exact⟨(Ey d f a n _ m).1,hs.2⟩
def Ez(jes:List E)(f:List Int)(a b i k:Nat):Prop:=3<=i/\i<I jes/\3<=k/\k<I jes/\((ev jes i).B.toList==kW)=Y/\((ev jes i).ord.toList==bT)=O/\iT jes a i=Y/\((ev jes k).B.toList==kR)=Y/\((ev jes k).ord.toList==bT)=O/\iK jes k b=Y/\J.aP jes f i k=Y
def EG(e:E)(q:List UInt8)(h:Bool):(!lB e q h)=Y↔(e.B.toList==q)=Y/\(e.ord.toList==bT)=O/\h=Y:=by
 unfold lB
 cases(e.B.toList==q)<;>cases(e.ord.toList==bT)<;>cases h<;>simp
def E4(c:List E)(f:List Int)(a b:Nat):J.bS c f a b=Y↔J.aD c a b=Y/\∃i k,Ez c f a b i k:=by
 unfold J.bS;rw[xF,xb];refine and_congr_right fun _=>?_;constructor
 ·rintro⟨i,e,h⟩;rw[xF,decide_eq_true_eq]at h;obtain⟨d,h⟩:=h;unfold ti at h;rw[xF,EG,xb]at h;obtain⟨⟨m,o,p⟩,k,g,h⟩:=h;rw[xF,decide_eq_true_eq]at h;obtain⟨l,h⟩:=h;unfold tk at h;rw[xF,EG]at h;exact⟨i,k,d,List.mem_range.1 e,l,List.mem_range.1 g,m,o,p,h.1.1,h.1.2.1,h.1.2.2,h.2⟩
 ·rintro⟨i,k,d,e,l,g,m,o,p,q,r,t,s⟩;refine⟨i,List.mem_range.2 e,?_⟩;rw[xF,decide_eq_true_eq];refine⟨d,?_⟩;unfold ti;rw[xF,EG,xb];refine⟨⟨m,o,p⟩,k,List.mem_range.2 g,?_⟩;rw[xF,decide_eq_true_eq];refine⟨l,?_⟩;unfold tk;rw[xF,EG];exact⟨⟨q,r,t⟩,s⟩
def CR.sends(h:CR jes qes f ats ps)(c:a<I qes)(d:i<I qes):(NS qes f ps).sends a i↔(Q.ev qes i).B=1/\iT jes a i=Y:=by
 have g:=h.w.er a c;have l:=h.w.er i d;show a<I qes/\i<I qes/\SE a (Q.ev qes a) i (Q.ev qes i)=Y↔_;unfold SE iT jO;rw[(eE g).2.2.1,h.w.C c d];constructor
 ·rintro⟨_,_,e⟩;simp only[x1,xF,beq_iff_eq]at e
  rcases e with⟨e1,e2,e3⟩|⟨⟨e1,e2⟩,e3⟩
  ·subst e1;refine⟨e2,?_⟩;rw[x1];left;rw[xF,(tL g (by omega)).2.1];exact⟨by simp,e3⟩
  ·refine⟨e3,?_⟩;rw[x1];right;rw[xF];exact⟨by simpa using e2,e1⟩
 ·rintro⟨e1,e2⟩;refine⟨c,d,?_⟩;rw[x1]at e2⊢
  rcases e2 with e2|e2
  ·left
   rw[xF,(tL l (by omega)).2.1]at e2;have e3:i=a:=by have:=e2.1;rw[beq_iff_eq]at this;omega
   subst e3;rw[xF,xF];exact⟨by simp,by simpa using e1,e2.2⟩
  ·right
   rw[xF]at e2;rw[xF,xF];exact⟨⟨e2.2,e2.1⟩,by simpa using e1⟩
def CR.M(h:CR jes qes f ats ps)(d:k<I qes)(c:b<I qes):(NS qes f ps).M k b↔(Q.ev qes k).B=0/\iK jes k b=Y:=by
 have g:=h.w.er k d;have l:=h.w.er b c;show k<I qes/\b<I qes/\SF k (Q.ev qes k) b (Q.ev qes b)=Y↔_;unfold SF iK jO;rw[(eE l).2.2.1,h.w.C d c];constructor
 ·rintro⟨_,_,e⟩;simp only[x1,xF,beq_iff_eq]at e
  rcases e with⟨e1,e2,e3⟩|⟨⟨e1,e2⟩,e3⟩
  ·subst e1;refine⟨e2,?_⟩;rw[x1];left;rw[xF,(tL g (by omega)).2.2.1];exact⟨by simp,e3⟩
  ·refine⟨e2,?_⟩;rw[x1];right;rw[xF];exact⟨by simpa using e3,e1⟩
 ·rintro⟨e1,e2⟩;refine⟨d,c,?_⟩;rw[x1]at e2⊢
  rcases e2 with e2|e2
  ·left
   rw[xF,(tL g (by omega)).2.2.1]at e2;have e3:k=b:=by have:=e2.1;rw[beq_iff_eq]at this;omega
   rw[xF,xF];exact⟨by simpa using e3,by simpa using e1,e2.2⟩
  ·right
   rw[xF]at e2;rw[xF,xF];exact⟨⟨e2.2,by simpa using e1⟩,e2.1⟩
def CR.rL(h:CR jes qes f ats ps)(c:i<I qes)(d:(Q.ev qes i).B<=2):(NS qes f ps).ord i↔((ev jes i).ord.toList==bT)=O:=by
 show(Q.ev qes i).q≠0↔_;rw[(tL (h.w.er i c) d).1,beq_eq_false_iff_ne]
def CR.yP(h:CR jes qes f ats ps)(e:(NS qes f ps).aP b a):a<I qes/\b<I qes:=by
 rcases e with e|⟨c,e1,e2⟩
 ·exact⟨e.1.1,e.1.2.1⟩
 ·refine⟨e2.1.1,?_⟩;have:=e1 (fun x y=>x<I qes) (fun x y ⟨d,g,_⟩=>g.1.2.1) fun _ _ _ a _=>a;exact this
def CR.yG(h:CR jes qes f ats ps)(q:a<I qes)(r:b<I qes):Ez jes f a b i k↔((NS qes f ps).sends a i/\(NS qes f ps).eB i k)/\(NS qes f ps).M k b:=by
 constructor
 ·rintro⟨C,c,D,d,e,z,m,l,A,o,s⟩;rw[h.w.len]at c d;rw[(eE (h.w.er i c)).2.1,beq_iff_eq]at e;rw[(eE (h.w.er k d)).1,beq_iff_eq]at l;exact⟨⟨(h.sends q c).2 ⟨e,m⟩,(h.aP c d).1 s,(h.rL d (by omega)).2 A,(h.rL c (by omega)).2 z⟩,(h.M d r).2 ⟨l,o⟩⟩
 ·rintro⟨⟨s,g,x,y⟩,t⟩;have u:=h.yP g;have c:i<I qes:=u.1;have d:k<I qes:=u.2;obtain⟨e,m⟩:=(h.sends q c).1 s;obtain⟨l,o⟩:=(h.M d r).1 t;have v:=(h.aP c d).2 g;have p:=Ey jes f i _ k v;exact⟨p.1,by rw[h.w.len];exact c,p.2,by rw[h.w.len];exact d,by rw[(eE (h.w.er i c)).2.1,e];rfl,(h.rL c (by omega)).1 y,m,by rw[(eE (h.w.er k d)).1,l];rfl,(h.rL d (by omega)).1 x,o,v⟩
def CR.bS(h:CR jes qes f ats ps)(c:a<I qes)(d:b<I qes)(e:a≠b):J.bS jes f a b=Y↔(NS qes f ps).bS a b:=by
 rw[E4];constructor
 ·rintro⟨s,i,k,t⟩;have:=(h.yG c d).1 t;exact⟨⟨k,⟨i,this.1.1,this.1.2⟩,this.2⟩,(h.lO c d).2 ⟨e,s⟩⟩
 ·rintro⟨⟨k,⟨i,g,l⟩,m⟩,s⟩;exact⟨((h.lO c d).1 s).2,i,k,(h.yG c d).2 ⟨⟨g,l⟩,m⟩⟩
def CR.iH(h:CR jes qes f ats ps)(c:i<I qes)(d:k<I qes):(NS qes f ps).C i k↔J.cD jes i k=Y:=by
 show i<I qes/\k<I qes/\QI i (Q.ev qes i) k (Q.ev qes k)=Y↔_;rw[h.w.C c d];exact⟨fun e=>e.2.2,fun e=>⟨c,d,e⟩⟩
def CR.OF(h:CR jes qes f ats ps)(J:(NS qes f ps).May)(e:(NS qes f ps).aP k i):(NS qes f ps).OF i k:=by
 have v:∀x y,(NS qes f ps).bK x y->(NS qes f ps).OF y x:=fun x y s=>TC.base (xR (xR s.1))
 rcases e with e|⟨c,e1,e2⟩
 ·exact v _ _ e
 ·refine(v _ _ e2).trans (e1 (fun x y=>(NS qes f ps).OF y x) (fun x y ⟨w,C,D⟩=>?_) fun x y z a b=>b.trans a);have d:w<I qes:=C.1.1;have g:y<I qes:=D.2.1;have q:=(h.half d g).1 D;have l:=h.sw w d q.1 q.2.1;rw[show w-1=y by omega]at l;refine TC.trans ?_ (v x w C);obtain⟨m,r⟩:=h.rd g l.2.1;have A:f.getD y 0=(m:Int):=r.elim (fun x=>x.2.1) fun x=>x.2.1;obtain⟨p,F,G,H⟩:=h.to g A;have u:m≠w:=fun e=>H l.2.2.1 (by omega)
  have o:(NS qes f ps).rd y m:=(h.qV g p).2 A
  rcases h.NY m w p d u F q.1 (G.trans l.2.2.2.1)with t|t
  ·exact TC.base (xW ⟨m,o,⟨p,d,t⟩⟩)
  ·exfalso;have K:(NS qes f ps).OF w y:=TC.trans (TC.base (xR (xW ⟨d,p,t⟩))) (TC.base (xR (xR o)));have L:(Q.ev qes y).j≠-1:=fun e=>by have:=(h.w.fk y ((h.w.th y g).2 e)).1;omega
   have E:(NS qes f ps).MY y w:=TC.base (xR (xR ⟨g,d,by
    unfold QI;rw[show((Q.ev qes y).j == -1)=O by simpa using L];simp only[Bool.false_eq_true,if_false,xF,beq_iff_eq,decide_eq_true_eq];exact⟨l.2.2.2.2,by omega⟩⟩))
   exact J.link y ⟨w,E,K⟩
def CR.IM(h:CR jes qes f ats ps)(q:(NS qes f ps).May)(m:a<I qes):J.bS jes f a a=O:=by
 cases c:J.bS jes f a a
 ·rfl
 exfalso;rw[E4]at c;obtain⟨_,i,k,z,d,A,g,t,C,o,p,D,l,s⟩:=c;rw[h.w.len]at d g;have r:=eE (h.w.er a m);unfold iT jO at o;unfold iK jO at l;rw[x1,xF,xF,r.2.2.1,beq_iff_eq,beq_iff_eq]at o l;rw[(eE (h.w.er i d)).2.1,beq_iff_eq]at t;rw[(eE (h.w.er k g)).1,beq_iff_eq]at p;have x:(Q.ev qes a).B=2/\J.cD jes a i=Y:=by
  rcases o with e|e
  ·have v:i=a:=by omega
   rw[v]at t
   rcases l with u|u
   ·have e1:k=a:=by omega
    rw[e1]at p;omega
   ·omega
  ·exact e
 have y:J.cD jes k a=Y:=by
  rcases l with e|e
  ·have e1:k=a:=by omega
   rw[e1]at p;omega
  ·exact e.2
 have bf:(NS qes f ps).MY k i:=TC.trans (TC.base (xR (xR ((h.iH g m).2 y)))) (TC.base (xR (xR ((h.iH m d).2 x.2))));exact q.link k ⟨i,bf,h.OF q ((h.aP d g).1 s)⟩
def CR.nJ(h:CR jes qes f ats ps)(e:(NS qes f ps).MY i k):J.bef jes f i k=Y:=by
 unfold J.bef cl;rw[bJ,h.w.len];refine TC.mono (fun x y e=>?_) e
 rcases e with(e|e)|e
 ·exact⟨e.1,e.2.1,by unfold fQ;rw[(h.iH e.1 e.2.1).1 e];rfl⟩
 ·have d:x<I qes:=e.2.1;have g:y<I qes:=e.2.2.1;have c:=((h.lO d g).1 e.2).1;exact⟨d,g,by unfold fQ;rw[(h.bS d g c).2 e];simp⟩
 ·exact⟨e.1,e.2.1,by unfold fQ;rw[h.w.J e.1 e.2.1,e.2.2];simp⟩
def CR.bef(h:CR jes qes f ats ps)(l:(NS qes f ps).May)(i k:Nat):J.bef jes f i k=Y↔(NS qes f ps).MY i k:=by
 refine⟨fun e=>?_,h.nJ⟩;unfold J.bef cl at e;rw[bJ,h.w.len]at e;refine TC.mono (fun x y ⟨d,g,e⟩=>?_) e;unfold fQ at e;rw[x1,x1]at e
 rcases e with e|e|e
 ·exact xR (xR ((h.iH d g).2 e))
 ·by_cases c:x=y
  ·subst c;rw[h.IM l d]at e;cases e
  ·exact xR (xW ((h.bS d g c).1 e))
 ·exact xW ⟨d,g,by rw[<- h.w.J d g];exact e⟩
def GL{R:Nat->Nat->Prop}(c:∀x y,R x y->x<n/\y<n)(h:TC R a b):a<n/\b<n:=h (fun x y=>x<n/\y<n) c fun _ _ _ a b=>⟨a.1,b.2⟩
def CR.rW(h:CR jes qes f ats ps)(e:(NS qes f ps).MY i k):i<I qes/\k<I qes:=GL (fun x y e=>by
 rcases e with(e|e)|e
 ·exact⟨e.1,e.2.1⟩
 ·exact⟨e.2.1,e.2.2.1⟩
 ·exact⟨e.1,e.2.1⟩) e
def DY{R:Nat->Nat->Bool}:rnd n R=O↔∀i,i<n->R i i=O:=by
 unfold rnd;rw[List.any_eq_false];simp
def CR.yB(h:CR jes qes f ats ps)(c:i<I qes)(d:k<I qes):(NS qes f ps).N i k↔J.sc jes i k=Y:=by
 show i<I qes/\k<I qes/\RQ i (Q.ev qes i) k (Q.ev qes k)=Y↔_;rw[h.w.sc c d];exact⟨fun e=>e.2.2,fun e=>⟨c,d,e⟩⟩
def CR.whole(h:CR jes qes f ats ps):wholeB jes f ats=Y↔∀i,¬Q.Th (Q.Th (NS qes f ps).L (NS qes f ps).misses) (NS qes f ps).bh i i:=by
 have K:∀{a b:Nat},a<I qes->b<I qes->(J.misses jes f ats a b=Y↔(NS qes f ps).misses a b):=fun{a b} o F=>by
  unfold J.misses;rw[xF,(eE (h.w.er a o)).1,beq_iff_eq];constructor
  ·rintro⟨x,y⟩;obtain⟨m,t⟩:=h.rd o x;have l:m<I qes/\f.getD a 0=(m:Int):=t.elim (fun x=>⟨x.1,x.2.1⟩) fun x=>⟨x.1,x.2.1⟩;rw[l.2,x8]at y;exact⟨m,(h.qV o l.1).2 l.2,(h.uY l.1 F).2 y⟩
  ·rintro⟨m,x,y⟩;have t:m<I qes:=x.1;have e:=(h.qV o t).1 x;refine⟨h.jY o e,?_⟩;rw[e,x8];exact(h.uY t F).1 y
 rw[gI];constructor
 ·rintro H i ⟨c,⟨d,z,N⟩,E⟩;have g:i<I qes:=z.1;have q:d<I qes:=z.2.1;have A:c<I qes:=E.1;have G:=(h.half g q).1 z;have u:=h.sw i g G.1 G.2.1;rw[show i-1=d by omega]at u;have r:=h.w.er d q;have M:3<=d:=by
   rcases x2 d 3 with x|x
   ·have:=(h.w.fk d x).1;omega
   ·exact x
  have:=H d M (by rw[h.w.len];exact q) (by unfold isStep;rw[(eE r).1,u.2.1,(r.v (by omega)).2.2,u.2.2.1];rfl) c (by rw[h.w.len];exact A);unfold iW at this;rw[(K q A).2 N,show d+1=i by omega,(h.uY A g).1 E]at this;cases this
 ·intro H i S g hs k C;rw[h.w.len]at g C;unfold isStep at hs;have r:=h.w.er i g;rw[xF,(eE r).1,beq_iff_eq]at hs;have D:(Q.ev qes i).step=Y:=by rw[<- (r.v (by omega)).2.2];exact hs.2
  have p:=h.sr i g hs.1 D
  cases c:iW jes f ats i k
  ·rfl
  exfalso;unfold iW at c;rw[xF]at c;exact H (i+1) ⟨k,⟨i,(h.half p.1 g).2 ⟨p.2.1,p.2.2,Z⟩,(K g C).1 c.1⟩,(h.uY C p.1).2 c.2⟩
def CR.BT(h:CR jes qes f ats ps):J.May jes f ats↔(NS qes f ps).May:=by
 constructor
 ·intro m;have q:=DY.1 m.bef;have r:=DY.1 m.fence;rw[h.w.len]at q r;refine⟨fun i e=>?_,h.whole.1 m.whole,fun i ⟨k,e1,e2⟩=>?_,fun i e=>?_⟩
  ·have:=q i (h.rW e).1;rw[h.nJ e]at this;cases this
  ·have l:=h.rW e1;exact m.link i k (by rw[h.w.len];exact l.1) (by rw[h.w.len];exact l.2) ⟨h.nJ e1,(h.talk k i).2 e2⟩
  ·have l:i<I qes:=(GL (n:=I qes) (fun x y e=>⟨e.2.1,e.2.2.1⟩) e).1;have:=r i l;have t:cl (I qes) (fen jes (J.bef jes f) (J.talk jes f ats)) i i=Y:=by
    unfold cl;rw[bJ];refine TC.mono (fun x y e=>⟨e.2.1,e.2.2.1,?_⟩) e;unfold fen;rw[xF,bJ];refine⟨(h.yB e.2.1 e.2.2.1).1 e.2,?_⟩
    rcases e.1 with e|⟨b,⟨a,d,o⟩,g⟩
    ·exact xR (h.nJ e)
    ·exact xW ⟨a,b,by rw[h.w.len];exact(h.rW d).2,by rw[h.w.len];exact(h.rW g).1,h.nJ d,(h.talk a b).2 o,h.nJ g⟩
   rw[t]at this;cases this
 ·intro m;refine⟨DY.2 fun i p=>?_,h.whole.2 m.split,fun i k p z ⟨e1,e2⟩=>m.link i ⟨k,(h.bef m i k).1 e1,(h.talk k i).1 e2⟩,DY.2 fun i p=>?_⟩
  ·cases c:J.bef jes f i i
   ·rfl
   ·exact absurd ((h.bef m i i).1 c) (m.bef i)
  ·cases c:cl (I jes) (fen jes (J.bef jes f) (J.talk jes f ats)) i i
   ·rfl
   exfalso;unfold cl at c;rw[bJ,h.w.len]at c;refine m.fence i (TC.mono (fun x y ⟨u,v,e⟩=>?_) c);unfold fen at e;rw[xF,bJ]at e;refine⟨?_,(h.yB u v).2 e.1⟩
   rcases e.2 with e|⟨a,b,_,_,d,o,g⟩
   ·exact xR ((h.bef m _ _).1 e)
   ·exact xW ⟨b,⟨a,(h.bef m _ _).1 d,(h.talk a b).1 o⟩,(h.bef m _ _).1 g⟩
end
end J
def Q.TC.eI{R:Nat->Nat->Prop}(h:TC R a b):TC (fun x y=>R y x) b a:=h (fun x y=>TC (fun x y=>R y x) y x) (fun _ _ e=>TC.base e) fun _ _ _ e1 e2=>e2.trans e1
namespace J
def HR(jes:List E)(qes:List Ev)(base:List Int):Prop:=∀i k,i<I qes->k<I qes->(PD (Q.ev qes i).h (k:Int)=Y↔3<=i/\∃x∈(ev jes i).on,(k:Int)=base.getD (ev jes i).t.toNat 0+x)
section
variable {jes:List E}{qes:List Q.Ev}{f ats ps:List Int}
def CR.hang(h:CR jes qes f ats ps){base:List Int}(o:HR jes qes base):¬J.Hang jes base f↔(NS qes f ps).pG:=by
 have d:∀a b,a<I qes->b<I qes->(uH jes base f a b↔(NS qes f ps).h b a\/(NS qes f ps).rd b a):=fun a b m g=>by
  unfold uH;have e1:(NS qes f ps).h b a↔3<=b/\∃x∈(ev jes b).on,(a:Int)=base.getD (ev jes b).t.toNat 0+x:=by
   rw[<- o b a g m];exact⟨fun e=>e.2.2,fun e=>⟨g,m,e⟩⟩
  rw[e1,h.qV g m];constructor
  ·rintro⟨l,e|e⟩
   ·exact xR ⟨l,e⟩
   ·exact xW e.symm
  ·rintro(⟨l,e⟩|e)
   ·exact⟨l,xR e⟩
   ·refine⟨?_,xW e.symm⟩
    rcases x2 b 3 with c|c
    ·have:=h.jY g e;have:=(h.w.fk b c).1;omega
    ·exact c
 have lt:∀x y,(NS qes f ps).h x y\/(NS qes f ps).rd x y->x<I qes/\y<I qes:=fun x y e=>e.elim (fun e=>⟨e.1,e.2.1⟩) fun e=>⟨e.2.1,e.1⟩
 constructor
 ·intro n i e;refine n ⟨i,by rw[h.w.len];exact(GL lt e).1,?_⟩;rw[h.w.len];exact TC.mono (fun x y e=>⟨(lt y x e).2,(lt y x e).1,(d x y (lt y x e).2 (lt y x e).1).2 e⟩) e.eI
 ·rintro n ⟨i,p,e⟩;rw[h.w.len]at e;exact n i (TC.mono (fun x y e=>(d y x e.1 e.2.1).1 e.2.2) e.eI)
def CR.clash(h:CR jes qes f ats ps)(hm:(NS qes f ps).May):J.cG jes (J.bef jes f)↔∃i k,Clash qes (NS qes f ps) i k:=by
 have A:∀i k,J.bef jes f i k=O↔¬(NS qes f ps).MY i k:=fun i k=>by
  rw[<- h.bef hm i k];cases J.bef jes f i k<;>simp
 have D:∀{i k:Nat},i<I qes->k<I qes->i<3->3<=k->(NS qes f ps).MY i k:=fun{i k} m l c d=>TC.base (xR (xR ((h.iH m l).2 (by unfold J.cD;rw[if_pos c];simpa using d))))
 have G:∀{i k:Nat},i<I qes->k<I qes->3<=i->3<=k->i≠k->(Q.ev qes i).B=1->QH (Q.ev qes k)=Y->(Q.ev qes i).z=(Q.ev qes k).z->¬(NS qes f ps).MY i k->¬(NS qes f ps).MY k i->J.aD jes i k=O->Clash qes (NS qes f ps) i k:=fun m l _ _ C T U u V W K=>⟨m,l,T,C,(fun e=>by rw[((h.lO m l).1 e).2]at K;cases K),u,U,V,W⟩
 constructor
 ·rintro⟨i,k,u,X,l,e⟩;rw[h.w.len]at l;have m:i<I qes:=by omega
  have q:=h.w.er i m;have p:=h.w.er k l;unfold dC GX gP at e;rw[(eE q).1,(eE q).2.1,(eE p).1,(eE p).2.1]at e;simp only[xF,xe,Bool.or_eq_false_iff,Bool.not_eq_false',x1,beq_iff_eq]at e;obtain⟨⟨e1,e2,e3,e4,e5⟩,H⟩:=e;rw[A]at e4 e5
  rcases e1 with⟨a,b⟩|⟨a,b⟩
  ·have v:(Q.ev qes i).z=(Q.ev qes k).z:=by rw[<- (q.v (by omega)).1,<- (p.v (by omega)).1];exact e2
   exact⟨i,k,G m l u (by omega) (by omega) a (by unfold QH;rcases b with b|b<;>rw[b]<;>rfl) v e4 e5 H⟩
  ·have v:(Q.ev qes k).z=(Q.ev qes i).z:=by rw[<- (q.v (by omega)).1,<- (p.v (by omega)).1];exact e2.symm
   exact⟨k,i,G l m (by omega) u (by omega) b (by unfold QH;rw[a];rfl) v e5 e4 (by rw[h.pI l m];exact H)⟩
 ·rintro⟨i,k,c⟩;have m:=c.li;have l:=c.lk;have L:3<=i:=by
   rcases x2 i 3 with x|x
   ·rcases x2 k 3 with y|y
    ·have:=c.z;rw[(h.w.fk i x).2,(h.w.fk k y).2]at this;exact absurd (by omega) c.ne
    ·exact absurd (D m l x y) c.ik
   ·exact x
  have k3:3<=k:=by
   rcases x2 k 3 with y|y
   ·exact absurd (D l m y L) c.ki
   ·exact y
  have r:J.aD jes i k=O:=by
   cases s:J.aD jes i k
   ·rfl
   ·exact absurd ((h.lO m l).2 ⟨c.ne,s⟩) c.weak
  have M:(Q.ev qes k).B=0\/(Q.ev qes k).B=1:=by
   have:=c.acc;unfold QH at this;simpa using this
  have q:=h.w.er i m;have p:=h.w.er k l;have S:((ev jes i).t==(ev jes k).t)=O:=by
   cases t:(ev jes i).t==(ev jes k).t
   ·rfl
   ·exfalso;unfold J.aD at r;rw[if_neg (by omega),t]at r;cases r
  have N:(ev jes i).loc=(ev jes k).loc:=by rw[(q.v (by have:=c.B;omega)).1,(p.v (by omega)).1];exact c.z
  have E:=(A i k).2 c.ik;have F:=(A k i).2 c.ki;have fin:∀{x y:Nat},gP (ev jes x) (ev jes y)=Y->(ev jes x).loc=(ev jes y).loc->((ev jes x).t==(ev jes y).t)=O->J.bef jes f x y=O->J.bef jes f y x=O->J.aD jes x y=O->dC jes (J.bef jes f) x y=Y:=fun a b c d e g=>by
   unfold dC GX;rw[a,b,c,d,e,g];simp
  rcases x2 i k with o|o
  ·refine⟨i,k,L,o,by rw[h.w.len];exact l,fin ?_ N S E F r⟩;unfold gP;rw[(eE q).2.1,(eE p).1,(eE p).2.1,c.B]
   rcases M with e|e<;>rw[e]<;>rfl
  ·have o':k<i:=by have:=c.ne;omega
   refine⟨k,i,k3,o',by rw[h.w.len];exact m,fin ?_ N.symm (by rw[<- S,x6];simp;exact eq_comm) F E (by rw[h.pI l m];exact r)⟩;unfold gP;rw[(eE q).2.1,(eE q).1,(eE p).1,(eE p).2.1,c.B]
   rcases M with e|e<;>rw[e]<;>rfl
end
def RD(jes:List E)(i:Nat):Bool:=(ev jes i).B.toList==kW
structure BO(jes:List E)(B:Nat->Nat->Bool):Prop where
 same:∀i k,B i k=Y->i<I jes/\k<I jes/\RD jes i=Y/\RD jes k=Y/\(ev jes i).loc=(ev jes k).loc
 irr:∀i,B i i=O
 trans:∀i j k,B i j=Y->B j k=Y->B i k=Y
 total:∀i k,i<I jes->k<I jes->i≠k->RD jes i=Y->RD jes k=Y->(ev jes i).loc=(ev jes k).loc->B i k=Y\/B k i=Y
 first:∀i k,B i k=Y->3<=k
def F3(jes:List E):Prop:=3<=I jes/\∀i,i<3->RD jes i=Y/\(ev jes i).loc=(i:Int)
def E5{B:Nat->Nat->Bool}(g:∀i,B i i=O)(trans:∀i j k,B i j=Y->B j k=Y->B i k=Y):∀(L:List Nat),L≠[]->∃i∈L,∀k∈L,B k i=O
 |[],h=>absurd Z h
 |[x],_=>⟨x,by simp,fun k l=>by simp at l;rw[l];exact g x⟩
 |x::y::L,_=>by
  obtain⟨i,m,h⟩:=E5 g trans (y::L) (by simp)
  cases c:B x i
  ·exact⟨i,xd _ m,fun k l=>(List.mem_cons.1 l).elim (fun e=>by rw[e];exact c) (h k)⟩
  ·refine⟨x,by simp,fun k l=>?_⟩
   rcases List.mem_cons.1 l with e|e
   ·rw[e];exact g x
   ·cases d:B k x
    ·rfl
    ·have:=trans k x i d c;rw[h k e]at this;cases this
section
variable {jes:List E}{B:Nat->Nat->Bool}
structure Good(jes:List E)(B:Nat->Nat->Bool)(seq:List Nat):Prop where
 nd:seq.Nodup
 wr:∀x∈seq,wr jes x
 bef:∀i k,i∈seq->J.wr jes k->B k i=Y->k∈seq/\seq.idxOf k<seq.idxOf i
def E6{seq:List Nat}(h:¬kK jes seq):∃j,Nxt jes seq j:=by
 have:∃i,wr jes i/\i∉seq:=Classical.byContradiction fun n=>h fun i e=>Classical.byContradiction fun c=>n ⟨i,e,c⟩
 obtain⟨i,e⟩:=this;have l:∀n,∀i,i<=n->wr jes i/\i∉seq->∃j,Nxt jes seq j:=by
  intro n
  induction n with
  |zero =>
   intro i o h;exact⟨i,h.1,h.2,fun k p _=>by omega⟩
  |succ n ih =>
   intro i o h;by_cases c:∃k,k<i/\wr jes k/\k∉seq
   ·obtain⟨k,m,g⟩:=c;exact ih k (by omega) g
   ·exact⟨i,h.1,h.2,fun k m g=>Classical.byContradiction fun d=>c ⟨k,m,g,d⟩⟩
 exact l i i (x5 _) e
def JL{seq:List Nat}{x:Nat}(h:x∈seq):(seq++[i]).idxOf x=seq.idxOf x:=by
 rw[xh,if_pos h]
def Wh{seq:List Nat}(h:i∉seq):(seq++[i]).idxOf i=I seq:=by
 rw[xh,if_neg h];simp
def BO.good(u:BO jes B):∀(m:Nat) (seq:List Nat),dW jes seq<=m->Good jes B seq->∃s,nP jes seq s/\Good jes B s:=by
 intro m
 induction m with
 |zero =>
  intro seq F r;by_cases d:kK jes seq
  ·exact⟨seq,(dK d).2 Z,r⟩
  ·obtain⟨j,o⟩:=E6 d;have:=eR o.w o.new;omega
 |succ m ih =>
  intro seq F r;by_cases d:kK jes seq
  ·exact⟨seq,(dK d).2 Z,r⟩
  obtain⟨j,o⟩:=E6 d;have D:((xa (I jes)).filter fun i=>yes (wr jes i/\i∉seq/\(ev jes i).loc=(ev jes j).loc))≠[]:=by
   intro e;have:j∈(xa (I jes)).filter fun i=>yes (wr jes i/\i∉seq/\(ev jes i).loc=(ev jes j).loc):=List.mem_filter.2 ⟨List.mem_range.2 o.w.2.1,bJ.2 ⟨o.w,o.new,Z⟩⟩
   rw[e]at this;simp at this
  obtain⟨i,E,t⟩:=E5 u.irr u.trans _ D;obtain⟨_,y⟩:=List.mem_filter.1 E;obtain⟨A,c,l⟩:=bJ.1 y;have v:Good jes B (seq++[i]):=by
   refine⟨?_,fun x G=>(List.mem_append.1 G).elim (r.wr x) fun e=>by simp at e;rw[e];exact A,fun a k g z q=>?_⟩
   ·rw[xi];exact⟨r.nd,by simp,fun a g b q=>by simp at q;subst q;exact fun e=>c (by rw[<- e];exact g)⟩
   ·rcases List.mem_append.1 g with g|g
    ·obtain⟨C,H⟩:=r.bef a k g z q;exact⟨List.mem_append.2 (xR C),by rw[JL C,JL g];exact H⟩
    ·simp at g;subst g;have hs:=u.same k a q;have p:k∈seq:=Classical.byContradiction fun n=>by
      have:=t k (List.mem_filter.2 ⟨List.mem_range.2 z.2.1,bJ.2 ⟨z,n,hs.2.2.2.2.trans l⟩⟩);rw[q]at this;cases this
     refine⟨List.mem_append.2 (xR p),?_⟩;rw[JL p,Wh c];exact xc p
  obtain⟨s,J,K⟩:=ih (seq++[i]) (by have:=eR A c;omega) v;exact⟨s,(eQ d).2 ⟨i,⟨A,c,j,o,l⟩,J⟩,K⟩
def nP.mem{seq:List Nat}(h:nP jes seq s)(hs:∀x∈seq,wr jes x)(q:seq.Nodup):(∀x,x∈s↔wr jes x)/\s.Nodup:=by
 obtain⟨l,rfl,m,o⟩:=h;have d:∀n,n<=I l->(∀x∈seq++l.take n,wr jes x)/\(seq++l.take n).Nodup:=by
  intro n
  induction n with
  |zero=>intro _;simpa using⟨hs,q⟩
  |succ n ih =>
   intro r;obtain⟨a,b⟩:=ih (by omega);have p:=m n (by omega);rw[List.take_succ_eq_append_getElem (by omega),<- List.append_assoc];refine⟨fun x c=>(List.mem_append.1 c).elim (a x) fun e=>by simp at e;rw[e];exact p.w,?_⟩;rw[xi];exact⟨b,by simp,fun x c y g=>by simp at g;subst g;exact fun e=>p.new (by rw[<- e];exact c)⟩
 have:=d (I l) (x5 _);rw[List.take_length]at this;exact⟨fun x=>⟨this.1 x,o x⟩,this.2⟩
def qE(n:Nat)(s:List Nat)(h:i<n):(hZ n s).getD i 0=if i∈s then(s.idxOf i:Int)+1 else 0:=by
 unfold hZ;simp[h]
def Wi(g:a∈s)(l:b∈s)(e:s.idxOf a=s.idxOf b):a=b:=by
 have c:=xj (xc g);have d:=xj (xc l);rw[<- c,<- d]
 congr 1
def nP.bo(F:F3 jes)(h:nP jes [] s):BO jes fun i k=>decide (i<I jes)&&(decide (k<I jes)&&J.order jes (hZ (I jes) s) i k):=by
 obtain⟨z,hn⟩:=h.mem (by simp) (by simp);have q:∀i k,(decide (i<I jes)&&(decide (k<I jes)&&J.order jes (hZ (I jes) s) i k))=Y↔i<I jes/\k<I jes/\i≠k/\RD jes i=Y/\RD jes k=Y/\(ev jes i).loc=(ev jes k).loc/\(hZ (I jes) s).getD i 0<(hZ (I jes) s).getD k 0:=fun i k=>by
  unfold J.order RD;simp only[xF,decide_eq_true_eq,bne_iff_ne,beq_iff_eq];constructor
  ·rintro⟨a,b,c,d,e,f,g⟩;exact⟨a,b,by omega,d,e,f,g⟩
  ·rintro⟨a,b,c,d,e,f,g⟩;exact⟨a,b,by omega,d,e,f,g⟩
 have X:∀i,i<I jes->0<=(hZ (I jes) s).getD i 0:=fun i p=>by rw[qE _ _ p];split<;>omega
 refine⟨fun i k e=>?_,fun i=>?_,fun i j k a b=>?_,fun i k p r o t u l=>?_,fun i k e=>?_⟩
 ·obtain⟨a,b,_,c,d,e,_⟩:=(q i k).1 e;exact⟨a,b,c,d,e⟩
 ·cases c:decide (i<I jes)&&(decide (i<I jes)&&J.order jes (hZ (I jes) s) i i)
  ·rfl
  ·exact absurd Z ((q i i).1 c).2.2.1
 ·obtain⟨L,a2,a3,M,a5,N,S⟩:=(q i j).1 a;obtain⟨b1,T,b3,b4,U,V,W⟩:=(q j k).1 b;refine(q i k).2 ⟨L,T,fun e=>?_,M,U,N.trans V,Int.lt_trans S W⟩;subst e;omega
 ·have C:∀{x:Nat},x<I jes->RD jes x=Y->¬x<3->x∈s:=fun v H n=>(z _).2 ⟨by omega,v,H⟩
  have A:∀{x:Nat},x<3->x∉s:=fun v e=>by have:=((z _).1 e).1;omega
  have lt:∀{x y:Nat},x<I jes->y<I jes->x≠y->RD jes x=Y->RD jes y=Y->(ev jes x).loc=(ev jes y).loc->x<3->(hZ (I jes) s).getD x 0<(hZ (I jes) s).getD y 0:=fun{x y} v G o H wy l K=>by
   have E:¬y<3:=fun E=>by
    have e1:=(F.2 x K).2;have e2:=(F.2 y E).2;rw[e1,e2]at l;omega
   rw[qE _ _ v,qE _ _ G,if_neg (A K),if_pos (C G wy E)];omega
  by_cases i3:i<3
  ·exact xR ((q i k).2 ⟨p,r,o,t,u,l,lt p r o t u l i3⟩)
  by_cases k3:k<3
  ·exact xW ((q k i).2 ⟨r,p,fun e=>o e.symm,u,t,l.symm,lt r p (fun e=>o e.symm) u t l.symm k3⟩)
  have D:=C p t i3;have mk:=C r u k3;have ne:s.idxOf i≠s.idxOf k:=fun e=>o (Wi D mk e)
  rcases x2 (s.idxOf i) (s.idxOf k)with c|c
  ·exact xR ((q i k).2 ⟨p,r,o,t,u,l,by rw[qE _ _ p,qE _ _ r,if_pos D,if_pos mk];omega⟩)
  ·exact xW ((q k i).2 ⟨r,p,fun e=>o e.symm,u,t,l.symm,by rw[qE _ _ p,qE _ _ r,if_pos D,if_pos mk];omega⟩)
 ·obtain⟨a,b,_,_,_,_,c⟩:=(q i k).1 e;have:=X i a;rw[qE _ _ b]at c
  split at c
  ·rename_i m;exact((z k).1 m).1
  ·omega
def BO.seq(A:F3 jes)(c:BO jes B):∃s,nP jes [] s/\∀i k,i<I jes->k<I jes->J.order jes (hZ (I jes) s) i k=B i k:=by
 obtain⟨s,q,F⟩:=c.good (dW jes []) [] (x5 _) ⟨by simp,by simp,fun i k d=>by simp at d⟩;refine⟨s,q,fun i k d p=>?_⟩;have m:=q.bo A;obtain⟨v,H⟩:=q.mem (by simp) (by simp);have l:∀i k,B i k=Y->J.order jes (hZ (I jes) s) i k=Y:=fun i k b=>by
  obtain⟨x,r,y,u,z⟩:=c.same i k b;have C:=c.first i k b
  have g:i≠k:=fun e=>by rw[e,c.irr]at b;cases b
  have mk:k∈s:=(v k).2 ⟨C,r,u⟩;unfold J.order;simp only[xF,bne_iff_ne,beq_iff_eq,decide_eq_true_eq];refine⟨by omega,by simpa[RD]using y,by simpa[RD]using u,z,?_⟩;rw[qE _ _ x,qE _ _ r,if_pos mk]
  split
  ·rename_i D;have:=(F.bef k i mk ((v i).1 D) b).2;omega
  ·omega
 cases b:B i k
 ·cases o:J.order jes (hZ (I jes) s) i k
  ·rfl
  ·exfalso;have e1:(decide (i<I jes)&&(decide (k<I jes)&&J.order jes (hZ (I jes) s) i k))=Y:=by rw[o];simp[d,p]
   have hs:=m.same i k e1;have g:i≠k:=fun e=>by
    subst e;exact xk ((m.irr i).symm.trans e1)
   rcases c.total i k d p g hs.2.2.1 hs.2.2.2.1 hs.2.2.2.2 with t|t
   ·rw[b]at t;cases t
   ·have E:=l k i t;have G:=m.trans i k i e1 (by rw[E];simp[d,p]);exact xk ((m.irr i).symm.trans G)
 ·exact l i k b
end
structure WP(jes:List E)(qes:List Ev)(base:List Int):Prop where
 w:WR jes qes
 hr:HR jes qes base
 n:I qes<=64
 sr:∀i,i<I qes->(Q.ev qes i).B=0->(Q.ev qes i).step=Y->i+1<I qes/\(Q.ev qes (i+1)).B=1/\(Q.ev qes (i+1)).step=Y
 sw:∀i,i<I qes->(Q.ev qes i).B=1->(Q.ev qes i).step=Y->0<i/\(Q.ev qes (i-1)).B=0/\(Q.ev qes (i-1)).step=Y/\(Q.ev qes (i-1)).z=(Q.ev qes i).z/\(Q.ev qes (i-1)).j=(Q.ev qes i).j
 va:∀i,i<I qes->(Q.ev qes i).B=1->0<=(Q.ev qes i).z/\(Q.ev qes i).z<3
section
variable {jes:List E}{qes:List Q.Ev}{base:List Int}
def WP.f3(h:WP jes qes base):F3 jes:=by
 refine⟨by rw[h.w.len];exact h.w.three,fun i c=>?_⟩;have d:i<I qes:=by have:=h.w.three;omega
 have r:=h.w.er i d;have k:=h.w.fk i c;exact⟨by unfold RD;rw[(eE r).2.1,k.1];rfl,by rw[(r.v (by omega)).1,k.2]⟩
def WP.fW(h:WP jes qes base):JI qes:=fun i c d=>by have:=h.va i c d;omega
def WP.kI(h:WP jes qes base):FV qes:=fun i k g l d p q v t=>by
 have o:=(h.w.th k l).2 t;have r:=(h.w.fk k o).2;have m:¬i<3:=fun c=>by
  have:=(h.w.fk i c).2;exact d (by omega)
 exact⟨by omega,fun e=>m ((h.w.th i g).2 e)⟩
def WP.OD(h:WP jes qes base)(c:i<I qes):RD jes i=Y↔(Q.ev qes i).B=1:=by
 unfold RD;rw[(eE (h.w.er i c)).2.1,beq_iff_eq]
def WP.loc(h:WP jes qes base)(c:i<I qes)(d:(Q.ev qes i).B=1):(ev jes i).loc=(Q.ev qes i).z:=((h.w.er i c).v (by omega)).1
def BO.ord(h:WP jes qes base)(g:BO jes B):Q.Ord qes (aN qes) B:=by
 have row:∀{i:Nat},i<I qes->(aN qes).getD i (-1)≠-1->(Q.ev qes i).B=1/\(aN qes).getD i (-1)=(Q.ev qes i).z:=fun m e=>MF m e
 refine⟨fun i k e=>?_,g.irr,g.trans,fun i k m o r e n=>?_,fun i k e=>?_⟩
 ·obtain⟨a,b,c,d,l⟩:=g.same i k e;rw[h.w.len]at a b;have p:=(h.OD a).1 c;have q:=(h.OD b).1 d;have u:=sW h.fW a p;have v:=sW h.fW b q;rw[h.loc a p,h.loc b q]at l;exact⟨a,b,by rw[u.1,v.1,l],u.2⟩
 ·obtain⟨p,x⟩:=row m n;obtain⟨q,y⟩:=row o (by rw[<- e];exact n);exact g.total i k (by rw[h.w.len];exact m) (by rw[h.w.len];exact o) r ((h.OD m).2 p) ((h.OD o).2 q) (by rw[h.loc m p,h.loc o q,<- x,<- y];exact e)
 ·have A:=g.first i k e
  have o:k<I qes:=by rw[<- h.w.len];exact(g.same i k e).2.1
  exact fun t=>by have:=(h.w.th k o).2 t;omega
def WP.bo(h:WP jes qes base)(K:ds∈OJ (OR qes (aN qes))):BO jes fun i k=>decide (i<I qes)&&(decide (k<I qes)&&QY qes (eA (aN qes) ds) i k):=by
 have p:=MK h.kI K;generalize eA (aN qes) ds=ps at p;have g:∀i k,(decide (i<I qes)&&(decide (k<I qes)&&QY qes ps i k))=Y↔i<I qes/\k<I qes/\(Q.ev qes i).B=1/\(Q.ev qes k).B=1/\(Q.ev qes i).z=(Q.ev qes k).z/\ps.getD i 0<ps.getD k 0:=fun i k=>by
  simp only[xF,decide_eq_true_eq,Cu]
 refine⟨fun i k e=>?_,fun i=>?_,fun i j k a b=>?_,fun i k m o u L M l=>?_,fun i k e=>?_⟩
 ·obtain⟨a,b,c,d,v,_⟩:=(g i k).1 e;exact⟨by rw[h.w.len];exact a,by rw[h.w.len];exact b,(h.OD a).2 c,(h.OD b).2 d,by rw[h.loc a c,h.loc b d];exact v⟩
 ·cases c:decide (i<I qes)&&(decide (i<I qes)&&QY qes ps i i)
  ·rfl
  ·have:=((g i i).1 c).2.2.2.2.2;omega
 ·obtain⟨A,N,C,S,D,E⟩:=(g i j).1 a;obtain⟨T,F,U,G,H,J⟩:=(g j k).1 b;exact(g i k).2 ⟨A,F,C,G,D.trans H,Int.lt_trans E J⟩
 ·rw[h.w.len]at m o;have q:=(h.OD m).1 L;have r:=(h.OD o).1 M;rw[h.loc m q,h.loc o r]at l;have t:=sW h.fW m q;have y:=sW h.fW o r;have ne:=p.inj i k m o u t.2 (by rw[t.1,y.1,l])
  rcases Int.lt_or_lt_of_ne ne with c|c
  ·exact xR ((g i k).2 ⟨m,o,q,r,l,c⟩)
  ·exact xW ((g k i).2 ⟨o,m,r,q,l.symm,c⟩)
 ·obtain⟨a,b,c,d,v,lt⟩:=(g i k).1 e
  rcases x2 k 3 with x|x
  ·exfalso;have t:=sW h.fW a c;have y:=sW h.fW b d;have:=p.pos i a t.2;have:=p.first k b y.2 ((h.w.th k b).1 x)
   omega
  ·exact x
def Wj(q:F3 jes)(ats:List Int)(v:Nat)(r:v<3):∀m,3<=m->m<=I jes->OD jes v (lastTo jes ats v m)=Y/\lastTo jes ats v m<m/\∀k,k<m->OD jes v k=Y->ats.getD k 0<=ats.getD (lastTo jes ats v m) 0:=by
 intro m
 induction m with
 |zero=>intro h;omega
 |succ m ih =>
  intro y x;by_cases c:m<3
  ·have e:m+1=3:=by omega
   rw[e,fF jes ats v 3 (x5 _)];obtain⟨a,b⟩:=q.2 v r;refine⟨by unfold OD;unfold RD at a;rw[a,b];simp,r,fun k o g=>?_⟩;have p:=(q.2 k o).2;unfold OD at g;simp only[xF,beq_iff_eq,p]at g;have:k=v:=by omega
   rw[this];exact Int.le_refl _
  ·obtain⟨u,z,t⟩:=ih (by omega) (by omega);rw[lastTo]
   split
   ·rename_i l;simp only[xF,decide_eq_true_eq]at l;refine⟨l.2.1,by omega,fun k o g=>?_⟩;by_cases d:k<m
    ·have:=t k d g;omega
    ·have:k=m:=by omega
     rw[this];exact Int.le_refl _
   ·rename_i l;refine⟨u,by omega,fun k o g=>?_⟩;by_cases d:k<m
    ·exact t k d g
    ·have e:k=m:=by omega
     subst e;simp only[xF,decide_eq_true_eq,not_and]at l;have:=l (by omega) g;omega
def WP.last(h:WP jes qes base){ps:List Int}(c:CR jes qes f ats ps)(l:∀i,i<I qes->(Q.ev qes i).B=1->0<=ps.getD i 0)(v:Nat)(r:v<3):mB qes (v:Int) ps=(ev jes (lastTo jes ats v (I jes))).val:=by
 obtain⟨a,b,m⟩:=Wj h.f3 ats v r (I jes) h.f3.1 (x5 _);generalize lastTo jes ats v (I jes)=w at*;rw[h.w.len]at b;unfold J.OD at a;rw[xF]at a;have e:(Q.ev qes w).B=1:=(h.OD b).1 a.1;have q:(Q.ev qes w).z=(v:Int):=by rw[<- h.loc b e];simpa using a.2
 rw[((h.w.er w b).v (by omega)).2.1];refine Uq b e q (l w b e) fun k d o p g=>?_
 rcases c.NY k w d b g o e (p.trans q.symm)with t|t
 ·exact((Cu ps k w).1 t).2.2.2
 ·exfalso;rw[<- c.bh w k b d]at t;unfold J.order at t;simp only[xF,decide_eq_true_eq]at t;have:=m k (by rw[h.w.len];exact d) (by unfold J.OD;rw[xF];exact⟨t.2.2.1,by rw[h.loc d o,p];simp⟩);omega
def WP.o(h:WP jes qes base){ps regs:List Int}(c:CR jes qes f ats ps)(d:∀i,i<I qes->(Q.ev qes i).B=1->0<=ps.getD i 0):gM jes ats regs=RE ⟨qes,regs⟩ ps:=by
 unfold gM RE;have e:=h.last c d 0 (by omega);have e1:=h.last c d 1 (by omega);have e2:=h.last c d 2 (by omega);simp only at*;rw[<- e,<- e1,<- e2];rfl
def WP.cT(h:WP jes qes base)(m:j<I qes)(o:k<I qes)(q:(Q.ev qes j).B=0):J.cT jes j k=Q.cT qes j k:=by
 have p:=h.w.er j m;have g:=h.w.er k o;unfold J.cT Q.cT;rw[(eE g).2.1]
 cases c:(Q.ev qes k).B==1
 ·rfl
 have r:(Q.ev qes k).B=1:=by simpa using c
 have d:=p.v (by omega);have l:=g.v (by omega);rw[d.1,d.2.1,d.2.2,l.1,l.2.1];have e:((k:Int)==(j:Int)+1)=(k==j+1):=by rw[x6,beq_iff_eq,beq_iff_eq];omega
 rw[e];simp[Bool.and_assoc]
def WP.sY(h:WP jes qes base)(d:j<I qes)(x:Int):Legal jes j x↔x∈mA qes j:=by
 unfold Legal mA;rw[(eE (h.w.er j d)).1]
 cases c:(Q.ev qes j).B==0
 ·simp
 ·have g:(Q.ev qes j).B=0:=by simpa using c
  simp only[if_true,List.mem_map,List.mem_filter,List.mem_range];constructor
  ·rintro⟨k,a,b,e⟩;rw[h.w.len]at a;exact⟨k,⟨a,by rw[<- h.cT d a g];exact e⟩,b.symm⟩
  ·rintro⟨k,⟨a,e⟩,b⟩;exact⟨k,by rw[h.w.len];exact a,b.symm,by rw[h.cT d a g];exact e⟩
def E7{c:List Ev}(h:i<I c):(NC c).getD i []=mA c i:=by unfold NC;simp[h]
def WP.yX(h:WP jes qes base)(o:RdX jes base 0 [] f)(A:nP jes [] s):(∃p∈OJ (PN (NC qes)),eW (NC qes) p=f)/\∃ds∈OJ (OR qes (aN qes)),CR jes qes f (hZ (I jes) s) (eA (aN qes) ds)/\∀i,i<I qes->(Q.ev qes i).B=1->0<=(eA (aN qes) ds).getD i 0:=by
 have l:I f=I qes:=by rw[o.len,h.w.len]
 have cl:(NC qes).length=I qes:=by simp[NC]
 constructor
 ·obtain⟨p,y,z⟩:=Cw (NC qes) f (by rw[l,cl]) fun i c=>by
   rw[cl]at c;rw[E7 c];have e:f.getD i (-1)=f.getD i 0:=by rw[x4,x4,x7 (by rw[l];exact c)];rfl
   rw[e];exact(h.sY c _).1 (o.leg i (Nat.zero_le _) (by rw[h.w.len];exact c))
  exact⟨p,y,z⟩
 ·have r:=A.bo h.f3;obtain⟨ds,q,g⟩:=Uo h.fW (r.ord h);have D:=MK h.kI q;have x:∀i k,i<I qes->k<I qes->J.order jes (hZ (I jes) s) i k=QY qes (eA (aN qes) ds) i k:=fun i k c d=>by
   rw[g i k c d];simp[h.w.len,c,d]
  refine⟨ds,q,⟨h.w,l,fun j C=>o.leg j (Nat.zero_le _) (by rw[h.w.len];exact C),x,fun i k c d m t u v=>?_,h.sr,h.sw⟩,fun i c d=>D.pos i c (sW h.fW c d).2⟩;rw[g i k c d,g k i d c];exact r.total i k (by rw[h.w.len];exact c) (by rw[h.w.len];exact d) m ((h.OD c).2 t) ((h.OD d).2 u) (by rw[h.loc c t,h.loc d u];exact v)
def WP.there(h:WP jes qes base){g:List Int}(y:g∈OJ (PN (NC qes)))(r:ds∈OJ (OR qes (aN qes))):∃s,nP jes [] s/\CR jes qes (eW (NC qes) g) (hZ (I jes) s) (eA (aN qes) ds)/\(∀i,i<I qes->(Q.ev qes i).B=1->0<=(eA (aN qes) ds).getD i 0)/\(¬Hang jes base (eW (NC qes) g)->RdX jes base 0 [] (eW (NC qes) g)):=by
 have cl:(NC qes).length=I qes:=by simp[NC]
 have o:(eW (NC qes) g).length=I qes:=by simp[eW,cl]
 have x:=MK h.kI r;have q:=h.bo r;obtain⟨s,z,A⟩:=q.seq h.f3;have m:∀j,j<I qes->Legal jes j ((eW (NC qes) g).getD j 0):=fun j l=>by
  have:=Cx (SI y) j (by rw[cl];exact l);rw[E7 l]at this;have e:(eW (NC qes) g).getD j (-1)=(eW (NC qes) g).getD j 0:=by rw[x4,x4,x7 (by rw[o];exact l)];rfl
  rw[e]at this;exact(h.sY l _).2 this
 refine⟨s,z,⟨h.w,o,m,fun i k c d=>?_,fun i k c d p t u v=>?_,h.sr,h.sw⟩,fun i c d=>x.pos i c (sW h.fW c d).2,fun n=>⟨by rw[o,h.w.len],fun j l=>by omega,fun j _ l=>m j (by rw[<- h.w.len];exact l),n⟩⟩
 ·rw[A i k (by rw[h.w.len];exact c) (by rw[h.w.len];exact d)];simp[c,d]
 ·have:=q.total i k (by rw[h.w.len];exact c) (by rw[h.w.len];exact d) p ((h.OD c).2 t) ((h.OD d).2 u) (by rw[h.loc c t,h.loc d u];exact v);simpa[c,d]using this
def WP.y(h:WP jes qes base)(regs o:List Int):pK jes base regs 0 [] o↔∃e∈OJ (PN (NC qes)),(NH qes).cH ((NH qes).D (eW (NC qes) e))=O/\∃ds∈OJ (OR qes (aN qes)),(NH qes).fX ((NH qes).D (eW (NC qes) e)) ((NH qes).MY ((NH qes).D (eW (NC qes) e))) (eA (aN qes) ds)=Y/\o=RE ⟨qes,regs⟩ (eA (aN qes) ds):=by
 constructor
 ·rintro⟨f,l,s,t,g,rfl⟩;obtain⟨⟨e,p,r⟩,ds,m,c,d⟩:=h.yX l t;refine⟨e,p,?_,ds,m,?_,h.o c d⟩
  ·rw[r,CA h.n c.fl (eA (aN qes) ds)];exact(c.hang h.hr).1 l.no
  ·rw[r,DJ h.n c.fl];exact c.BT.1 g
 ·rintro⟨e,p,q,ds,m,g,rfl⟩;obtain⟨s,u,c,d,l⟩:=h.there p m;rw[CA h.n c.fl (eA (aN qes) ds)]at q;rw[DJ h.n c.fl]at g;exact⟨_,l ((c.hang h.hr).2 q),s,u,c.BT.2 g,(h.o c d).symm⟩
def WP.clash(h:WP jes qes base):RdC jes base 0 []↔∃d∈OJ (PN (NC qes)),(NH qes).cH ((NH qes).D (eW (NC qes) d))=O/\∃ds∈OJ (OR qes (aN qes)),(NH qes).fX ((NH qes).D (eW (NC qes) d)) ((NH qes).MY ((NH qes).D (eW (NC qes) d))) (eA (aN qes) ds)=Y/\(NH qes).bU ((NH qes).MY ((NH qes).D (eW (NC qes) d)))=Y:=by
 constructor
 ·rintro⟨f,m,s,u,e,l⟩;obtain⟨⟨d,q,r⟩,ds,o,c,p⟩:=h.yX m u;have g:=c.BT.1 e;refine⟨d,q,?_,ds,o,?_,?_⟩
  ·rw[r,CA h.n c.fl (eA (aN qes) ds)];exact(c.hang h.hr).1 m.no
  ·rw[r,DJ h.n c.fl];exact g
  ·rw[r,YC h.n c.fl (eA (aN qes) ds)];exact(c.clash g).1 l
 ·rintro⟨d,q,t,ds,o,e,l⟩;obtain⟨s,v,c,p,m⟩:=h.there q o;rw[CA h.n c.fl (eA (aN qes) ds)]at t;rw[DJ h.n c.fl]at e;rw[YC h.n c.fl (eA (aN qes) ds)]at l;exact⟨_,m ((c.hang h.hr).2 t),s,v,c.BT.2 e,(c.clash e).2 l⟩
end
end J
