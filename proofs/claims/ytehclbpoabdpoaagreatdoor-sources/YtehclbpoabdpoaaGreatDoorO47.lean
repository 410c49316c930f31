import Derived.Test.YtehclbpoabdpoaaGreatDoorO46
import Derived.Test.YtehclbpoabdpoaaGreatDoorO12
import Derived.Test.YtehclbpoabdpoaaGreatDoorO42
set_option linter.all false
set_option maxHeartbeats 0
namespace Go.Proofs.YtehclbpoabdpoaaGreatDoor
open Go Go.RowKit Go.Proofs.Tryz P Q R
open scoped Classical
set_option maxRecDepth 1000000
variable {i u:Nat}{a k kd m n o v:Int}{ts:List R.Th}{us:List NB}{l:List Int}{s:St}
open List renaming length->L
open Bool renaming true->I,false->U
open Or renaming inr->xF,inl->xW
open Bool renaming false_eq_true->xR
open List renaming mem_append->x1,getD_eq_getElem?_getD->x2,mem_singleton->x3
namespace J
def SL(k:Int):List UInt8:=if k=0 then kR else if k=1 then kW else if k=2 then kF else if k=3 then kA else kL
def Vs:List UInt8:=[114,101,108,97,120,101,100]
def ordW(o:Int):List UInt8:=if o=0 then bT else if o=1 then Vs else if o=2 then lJ else if o=3 then lA else if o=4 then qN else sI
structure ER(j:E)(q:Ev):Prop where
 k0:0<=q.B/\q.B<=4
 k:j.B.toList=SL q.B
 t:j.t=q.j
 b:q.j≠-1->j.b=q.block
 v:q.B<=1->j.loc=q.z/\j.val=q.value/\j.half=q.step
 o:q.B<=2->(0<=q.q/\q.q<=5)/\j.ord.toList=ordW q.q
 o5:q.B<=1->q.q<=4
 oe:3<=q.B->j.ord.toList=[]
 s:q.B<=2->(j.scope.toList==sDev)=(q.scope==1)
 r:3<=q.B->j.round=q.u
section
variable {j:E}{q:Q.Ev}
def eE(h:ER j q):(j.B.toList==kR)=(q.B==0)/\(j.B.toList==kW)=(q.B==1)/\(j.B.toList==kF)=(q.B==2)/\(j.B.toList==kA)=(q.B==3)/\(j.B.toList==kL)=(q.B==4):=by
 rw[h.k];obtain⟨c,d⟩:=h.k0;have b:q.B=0\/q.B=1\/q.B=2\/q.B=3\/q.B=4:=by omega
 rcases b with e|e|e|e|e<;>rw[e]<;>decide
def tL(h:ER j q)(b:q.B<=2):(j.ord.toList==bT)=(q.q==0)/\(j.ord.toList==lA||j.ord.toList==qN)=P.rel q.q/\(j.ord.toList==lJ||j.ord.toList==qN)=acq q.q/\(j.ord.toList==sI)=(q.q==5)/\j.ord.toList.isEmpty=U:=by
 obtain⟨⟨d,f⟩,c⟩:=h.o b;rw[c];have b:q.q=0\/q.q=1\/q.q=2\/q.q=3\/q.q=4\/q.q=5:=by omega
 rcases b with e|e|e|e|e|e<;>rw[e]<;>decide
def Du(h:ER j q):(j.ord.toList==bT||j.ord.toList.isEmpty)=!Q.bP q:=by
 unfold bP;by_cases hk:q.B<=2
 ·obtain⟨e1,_,_,_,e5⟩:=tL h hk;rw[e1,e5];have a:(q.B != 3)=I:=by simp;omega
  have b:(q.B != 4)=I:=by simp;omega
  rw[a,b]
  cases c:q.q==0<;>simp[bne,c]
 ·rw[h.oe (by omega)];have:=h.k0;have c:q.B=3\/q.B=4:=by omega
  rcases c with c|c<;>rw[c]<;>simp[bT]
end
structure WR(jes:List E)(qes:List Ev):Prop where
 len:L jes=L qes
 er:∀i,i<L qes->ER (ev jes i) (Q.ev qes i)
 th:∀i,i<L qes->(i<3↔(Q.ev qes i).j=-1)
 fk:∀i,i<3->(Q.ev qes i).B=1/\(Q.ev qes i).z=(i:Int)
 three:3<=L qes
section
variable {jes:List E}{qes:List Q.Ev}
def WR.C(h:WR jes qes){k:Nat}(f:i<L qes)(g:k<L qes):J.cD jes i k=QI (i:Int) (Q.ev qes i) (k:Int) (Q.ev qes k):=by
 unfold J.cD QI;have p:=h.th i f;have b:=h.th k g;rw[(h.er i f).t,(h.er k g).t];by_cases c:i<3
 ·rw[if_pos c];have e1:((Q.ev qes i).j == -1)=I:=by simpa using p.1 c
  rw[e1,if_pos rfl];by_cases d:k<3
  ·have e2:=b.1 d;rw[e2];simp;omega
  ·have e2:(Q.ev qes k).j≠-1:=fun e=>d (b.2 e)
   rw[show decide (3<=k)=I by simp;omega];exact(by simpa using e2:((Q.ev qes k).j != -1)=I).symm
 ·rw[if_neg c];have q:(Q.ev qes i).j≠-1:=fun e=>c (p.2 e)
  have e1:((Q.ev qes i).j == -1)=U:=by simpa using q
  rw[e1];simp only[xR,if_false];by_cases d:k<3
  ·have e2:=b.1 d;rw[show decide (3<=k)=U by simp;omega,e2,e1];simp
  ·rw[show decide (3<=k)=I by simp;omega,Bool.true_and]
   congr 1
   simp
def WR.G(h:WR jes qes){k:Nat}(x:i<L qes)(r:k<L qes):J.aD jes i k=Q.aD (Q.ev qes i) (Q.ev qes k):=by
 unfold J.aD Q.aD;have C:=h.th i x;have D:=h.th k r;have f:=h.er i x;have g:=h.er k r;rw[f.t,g.t];by_cases c:i<3
 ·rw[if_pos (xW c),C.1 c];simp
 by_cases d:k<3
 ·rw[if_pos (xF d),D.1 d];simp
 have z:(Q.ev qes i).j≠-1:=fun e=>c (C.2 e)
 have A:(Q.ev qes k).j≠-1:=fun e=>d (D.2 e)
 rw[if_neg (by omega)];have e1:((Q.ev qes i).j == -1)=U:=by simpa using z
 have e2:((Q.ev qes k).j == -1)=U:=by simpa using A
 rw[e1,e2];simp only[Bool.or_self,xR,if_false]
 cases hq:(Q.ev qes i).j==(Q.ev qes k).j
 ·simp only[xR,if_false];have p:plain (J.ev jes i) (J.ev jes k)=(!Q.bP (Q.ev qes i)||!Q.bP (Q.ev qes k)):=by
   rw[<- Du f,<- Du g];unfold plain
   cases((J.ev jes i).ord.toList==bT)<;>cases((J.ev jes k).ord.toList==bT)<;>cases(J.ev jes i).ord.toList.isEmpty<;>cases(J.ev jes k).ord.toList.isEmpty<;>rfl
  rw[p]
  cases o1:bP (Q.ev qes i)<;>cases o2:bP (Q.ev qes k)<;>simp
  have y:∀{q:Ev},bP q=I->0<=q.B/\q.B<=4->q.B<=2:=fun{q} e r=>by
   unfold bP at e;simp at e;omega
  unfold nG;rw[f.b z,g.b A,f.s (y o1 f.k0),g.s (y o2 g.k0)]
 ·simp
def WR.J(h:WR jes qes){k:Nat}(g:i<L qes)(c:k<L qes):J.dY (J.ev jes i) (J.ev jes k)=RX (Q.ev qes i) (Q.ev qes k):=by
 have d:=h.er i g;have f:=h.er k c;unfold J.dY RX;rw[(eE d).2.2.2.1,(eE f).2.2.2.2]
 cases c1:(Q.ev qes i).B==3
 ·simp
 cases c2:(Q.ev qes k).B==4
 ·simp
 have e1:(Q.ev qes i).B=3:=by simpa using c1
 have e2:(Q.ev qes k).B=4:=by simpa using c2
 have n:∀{m:Nat},m<L qes->(Q.ev qes m).B≠1->(Q.ev qes m).j≠-1:=fun{m} p c e=>c (h.fk m ((h.th m p).2 e)).1
 rw[d.b (n g (by omega)),f.b (n c (by omega)),d.r (by omega),f.r (by omega)];simp
def WR.sc(h:WR jes qes){k:Nat}(b:i<L qes)(c:k<L qes):J.sc jes i k=RQ i (Q.ev qes i) k (Q.ev qes k):=by
 have d:=h.er i b;have f:=h.er k c;unfold J.sc RQ;rw[h.G b c,(eE d).2.2.1,(eE f).2.2.1];have e:((i:Int) != (k:Int))=(i != k):=by rw[Bool.eq_iff_iff,bne_iff_ne,bne_iff_ne];omega
 rw[e];unfold OY
 cases c1:(Q.ev qes i).B==2
 ·simp
 cases c2:(Q.ev qes k).B==2
 ·simp
 have e1:(Q.ev qes i).B=2:=by simpa using c1
 have e2:(Q.ev qes k).B=2:=by simpa using c2
 rw[(tL d (by omega)).2.2.2.1,(tL f (by omega)).2.2.2.1];simp[Bool.and_assoc]
end
end J
def eS(n:Int)(ts:List R.Th)(us:List NB)(k:Int):Prop :=
 ∀M:Int->List R.Th->List NB->Int->Prop,(∀n:Int,M n [] [] n) ->
  (∀(n m k:Int) (ts:List R.Th) (us:List NB) (t:R.Th) (u:NB),OH n t.body u.S m->u.block=t.block->u.i=t.row->M m ts us k->M n (t::ts) (u::us) k)->M n ts us k
def eS.nil(n:Int):eS n [] [] n:=fun _ b _=>b n
def eS.cons{t:R.Th}{u:NB}(f:OH n t.body u.S m)(b:u.block=t.block)(l:u.i=t.row)(h:eS m ts us k):eS n (t::ts) (u::us) k :=
 fun M d c=>c _ _ _ _ _ _ _ f b l (h M d c)
def eS.ind{c:∀(n:Int) (ts:List R.Th) (us:List NB) (k:Int),eS n ts us k->Prop}(nil:∀n:Int,c n [] [] n (eS.nil n))(cons:∀{n m k:Int} {ts:List R.Th} {us:List NB} {t:R.Th} {u:NB} (f:OH n t.body u.S m) (b:u.block=t.block) (l:u.i=t.row) (h:eS m ts us k),c m ts us k h->c n (t::ts) (u::us) k (eS.cons f b l h)){n:Int}{ts:List R.Th}{us:List NB}{k:Int}(h:eS n ts us k):c n ts us k h :=
 (h (fun n ts us k=>∃h:eS n ts us k,c n ts us k h) (fun n=>⟨_,nil n⟩) fun _ _ _ _ _ _ _ f b l ⟨h,d⟩=>⟨eS.cons f b l h,cons f b l h d⟩).2
def eS.append{c:List R.Th}{d:List NB}(h:eS n ts us m)(g:eS m c d k):eS n (ts++c) (us++d) k:=by
 induction h using eS.ind with
 |nil=>simpa using g
 |cons f b l _ ih=>simpa using eS.cons f b l (ih g)
def QU.toC(h:QU n ts us k):eS n ts us k:=by
 induction h using QU.ind with
 |nil=>exact .nil _
 |aY _ f b l ih=>exact ih.append (.cons f b l (.nil _))
def eS.NY(p:MV->Bool)(q:Lh->Bool)(h:eS n ts us k)(e:∀st x,Twin st x->q x=p st)(b:∀st,st.B=10->p st=U)(c:∀st,st.B=11->p st=U)(d:∀a,q (fI a)=U):P.NY p us=eH q ts:=by
 induction h using eS.ind with
 |nil=>rfl
 |cons f _ _ _ ih=>simp only[P.NY,eH,f.NA p q e b c d,ih]
def rN(a:Int):(fI a).op.toList=[105,102]:=by simp[fI,sIf,bQ]
def Vt(h:eS n ts us k):sN ts=!P.jQ us:=by
 unfold sN jQ;rw[h.NY _ _ (fun _ _ t=>t.rd) fun e c=>by simp[P.OE,P.aX,c] fun e c=>by simp[P.OE,P.aX,c] fun a=>by simp[R.OE,rN,gG,bQ,jW,jT],h.NY _ _ (fun _ _ t=>t.wr) fun e c=>by simp[P.OD,lV,c] fun e c=>by simp[P.OD,lV,c] fun a=>by simp[R.OD,rN,gN,bQ,jW,jT],h.NY _ _ (fun _ _ t=>t.fn) fun e c=>by simp[P.OO,c] fun e c=>by simp[P.OO,c] fun a=>by simp[R.OO,rN,gT,bQ]];have d:∀a b:Int,decide (a<=b)=!decide (b<a):=fun a b=>by
  by_cases h:a<=b
  ·have:¬b<a:=by omega
   simp[h,this]
  ·have:b<a:=by omega
   simp[h,this]
 rw[d,d,d];simp[Bool.not_or]
def Vu{l:List Tree}{c:List MV}(h:OH n l c m):PO c=NL isB l:=by
 rw[L3];exact h.NA _ _ (fun _ _ t=>t.br) fun d b=>by simp[b] fun d b=>by simp[b] fun a=>by simp[isB,rN,jE,bQ]
namespace P
def gU(b:Int):List NB->Int
 |[]=>-1
 |t::r=>if t.block==b then PO t.S else gU b r
def Vv(b:Int)(l:List NB):kO b l=if gU b l<0 then 0 else gU b l:=by
 induction l with
 |nil=>rfl
 |cons t r ih =>
  simp only[kO,gU]
  split
  ·have:=(yU t.S).1;rw[if_neg (by omega)]
  ·exact ih
def Dv(b:Int)(l:List NB):-1<=gU b l:=by
 induction l with
 |nil=>simp[gU]
 |cons t r ih =>
  simp only[gU]
  split
  ·have:=(yU t.S).1;omega
  ·exact ih
def wV(b:Int)(l m:List NB):gU b (l++m)=if gU b l<0 then gU b m else gU b l:=by
 induction l with
 |nil=>rfl
 |cons t r ih =>
  simp only[List.cons_append,gU]
  split
  ·have:=(yU t.S).1;rw[if_neg (by omega)]
  ·exact ih
end P
def Vw(h:eS n ts us k):∀c:List NB,(∀u∈us,u.block=0\/u.block=1) ->
  iU (c++us) us=oK (gU 0 c) (gU 1 c) ts:=by
 induction h using eS.ind with
 |nil=>intro _ _;rfl
 | @cons n m k ts us t u f b l _ ih =>
  intro c g;have j:=Vu f;have q:=(yU u.S).1;have d:=ih (c++[u]) fun v p=>g v (by simp[p]);rw[List.append_assoc,List.singleton_append]at d;have G:kO u.block (c++u::us)=gU u.block (c++[u]):=by
   rw[Vv,wV,wV];simp only[gU,beq_self_eq_true,if_true];by_cases hp:gU u.block c<0
   ·simp only[if_pos hp];rw[if_neg (by omega)]
   ·simp only[if_neg hp]
  simp only[iU,oK];rw[G,<- j,<- b,<- l,d,wV,wV]
  rcases g u (by simp)with e|e
  ·rw[e,wV];simp only[gU,e,beq_self_eq_true,if_true,show((0:Int)==1)=U from rfl,xR,if_false];have e1:(if gU 1 c<0 then(-1:Int)else gU 1 c)=gU 1 c:=by
    have:=Dv 1 c
    split<;>omega
   rw[e1,bne_comm]
  ·rw[e,wV];simp only[gU,e,beq_self_eq_true,if_true,show((1:Int)==0)=U from rfl,xR,if_false];have e1:(if gU 0 c<0 then(-1:Int)else gU 0 c)=gU 0 c:=by
    have:=Dv 0 c
    split<;>omega
   rw[e1,bne_comm]
def KO{g:St}{i:Int}{c:ByteArray}{w:List ByteArray}(h:R.step s i c w=some g):g.ts≠[]:=by
 have j:∀(l:List R.Th) x,l≠[]->tH l x≠[]:=fun l x d=>by
  match l,d with
  |[],d=>exact absurd Z d
  |[_],_=>simp[tH]
  |_::_::_,_=>simp[tH]
 have f:∀(s:St) x,s.ts≠[]->(R.put s x).ts≠[]:=fun s x hs=>by
  unfold R.put
  split
  ·exact j _ _ hs
  ·exact hs
 unfold R.step at h
 split at h
 ·unfold R.eG at h
  split at h
  ·split at h
   ·simp at h;rw[<- h];simp
   ·simp at h
  ·simp at h
 ·split at h
  ·simp at h
  ·rename_i b;have b:s.ts≠[]:=fun e=>b (by rw[e];rfl)
   split at h
   ·unfold R.fC at h
    split at h
    ·simp at h
    ·split at h
     ·simp at h;rw[<- h];exact f _ _ b
     ·simp at h
   ·split at h
    ·unfold R.branch at h
     split at h
     ·split at h
      ·simp at h;rw[<- h];exact b
      ·simp at h
     ·simp at h
    ·unfold R.bW at h
     split at h
     ·simp at h;rw[<- h];exact f _ _ b
     ·simp at h
def Vx(b:List (List UInt8)):∀(s d:St) (i:Int),(run s i b).1=some d->(run s i b).2=i+L b/\(b≠[]->d.ts≠[]):=by
 induction b with
 |nil=>intro s d i _;exact⟨by simp[run],fun h=>absurd Z h⟩
 |cons x b ih =>
  intro s d i h;simp only[run]at h⊢
  cases hw:(ND 32 x).map nF with
  |nil=>rw[hw]at h;simp at h
  |cons c w =>
   rw[hw]at h;simp only[]at h⊢
   cases hs:R.step s (i+1) c w with
   |none=>rw[hs]at h;simp at h
   |some s2 =>
    rw[hs]at h;simp only[]at h⊢;have:=ih _ _ _ h;refine⟨by rw[this.1];simp;omega,fun _=>?_⟩;by_cases hx:b=[]
    ·subst hx;simp[run]at h;rw[<- h];exact KO hs
    ·exact this.2 hx
def Vy(b:List (List UInt8)):∀(s:St) (i:Int),(run s i b).1=none->i<(run s i b).2:=by
 induction b with
 |nil=>intro s i h;simp[run]at h
 |cons x b ih =>
  intro s i h;simp only[run]at h⊢
  cases hw:(ND 32 x).map nF with
  |nil=>simp only[];omega
  |cons c w =>
   rw[hw]at h;simp only[]at h⊢
   cases hs:R.step s (i+1) c w with
   |none=>simp only[];omega
   |some s2 =>
    rw[hs]at h;simp only[]at h⊢;have:=ih _ _ h;omega
def Rel.whole{r:Rd}(h:Rel r s)(y:s.O=[]):∃k,eS 0 s.ts r.H k:=by
 rcases h.ths with⟨c,d,_⟩|⟨ts,us,t,u,m,k,b,q,c,d,e,f,g,j,p,x⟩
 ·exact⟨0,by rw[c,d];exact .nil 0⟩
 ·obtain⟨e1,e2,e3⟩:=g.none y;refine⟨k,?_⟩;rw[c,d];refine e.toC.append (.cons ?_ p x (.nil _));rw[j,e1,List.append_nil];exact f
def Vz(all:List NB)(l:List NB)(h:∀u∈l,0<u.i):0<=iU all l:=by
 induction l with
 |nil=>simp[iU]
 |cons t r ih =>
  simp only[iU]
  split
  ·have:=h t (by simp);omega
  ·exact ih fun u b=>h u (by simp[b])
def V0(l:List UInt8):(PK l).2=(read l).2/\((read l).2.1=0->∃k,eS 0 (read l).1 (PK l).1 k/\QC (PK l).1=none/\∀u∈(PK l).1,u.block=0\/u.block=1):=by
 unfold PK R.read;by_cases hl:2000<L l
 ·rw[if_pos hl,if_pos hl];exact⟨rfl,fun h=>by simp at h⟩
 rw[if_neg hl,if_neg hl];have E:=L1 (ND 10 l).dropLast Rd.zero St.zero 0 Lq rfl (by omega);have S:=Vx (ND 10 l).dropLast St.zero;have N:=Vy (ND 10 l).dropLast St.zero 0;have Z:(ND 10 l).dropLast=[]->(OX Rd.zero (ND 10 l).dropLast).1.H=[]:=fun h=>by rw[h];rfl
 unfold cS;generalize OX Rd.zero (ND 10 l).dropLast=q at E Z⊢;have A:=fun M=>S M 0
 generalize run St.zero 0 (ND 10 l).dropLast=o at E A N⊢;obtain⟨o,n⟩:=o;obtain⟨r,g⟩:=E
 cases o with
 |none =>
  have:=N rfl;simp only[]at r g this⊢;have z:(n != 0)=I:=by simp;omega
  simp only[g,xR,if_false,r,z,if_true];exact⟨trivial,fun h=>by simp at h⟩
 |some s =>
  obtain⟨F,T⟩:=A s rfl;simp only[]at r g F⊢;obtain⟨g,b⟩:=g;simp only[g,if_true];have D:q.1.H=[]↔n=0:=by
   constructor
   ·intro h;have:s.ts=[]:=List.length_eq_zero_iff.1 (by rw[<- b.mK,h];rfl);have c:(ND 10 l).dropLast=[]:=by
     by_cases c:(ND 10 l).dropLast=[]
     ·exact c
     ·exact absurd this (T c)
    rw[F,c];rfl
   ·intro h;refine Z (List.length_eq_zero_iff.1 ?_);omega
  have C:=b.mE;have j:q.1.O=[]↔s.O=[]:=by
   constructor
   ·intro h;exact List.length_eq_zero_iff.1 (by rw[<- C,h];rfl)
   ·intro h;exact List.length_eq_zero_iff.1 (by rw[C,h];rfl)
  by_cases hb:(ND 10 l).getLast?≠some []\/n=0\/s.O≠[]
  ·have f:(ND 10 l).getLast?≠some []\/q.1.O≠[]\/q.1.H=[]:=by
    rcases hb with h|h|h
    ·exact xW h
    ·exact xF (xF (D.2 h))
    ·exact xF (xW fun e=>h (j.1 e))
   rw[if_pos hb,if_pos f];have z:(n+1 != 0)=I:=by simp;omega
   simp only[r,z,if_true];exact⟨trivial,fun h=>by simp at h⟩
  ·have f:¬((ND 10 l).getLast?≠some []\/q.1.O≠[]\/q.1.H=[]):=by
    rintro(h|h|h)
    ·exact hb (xW h)
    ·exact hb (xF (xF fun e=>h (j.2 e)))
    ·exact hb (xF (xW (D.1 h)))
   rw[if_neg hb,if_neg f];obtain⟨k,W⟩:=b.whole (Classical.byContradiction fun h=>hb (xF (xF h)));have y:kX q.1.H=s.inner:=by rw[Lp,b.inn]
   have p:iU q.1.H q.1.H=mI s.ts:=by
    have:=Vw W [] fun u d=>(b.thr u d).2;simpa[gU,mI]using this
   have K:0<=mI s.ts:=by rw[<- p];exact Vz _ _ fun u d=>(b.thr u d).1
   have J:0<=s.inner:=by
    rw[b.inn]
    cases c:QC q.1.H with
    |none=>simp
    |some v=>have:=b.pos v c;simp;omega
   simp only[y,p,bne_self_eq_false,xR,if_false];by_cases hi:s.inner=0
   ·rw[hi];simp only[bne_self_eq_false,xR,if_false,beq_self_eq_true,if_true];by_cases d:mI s.ts=0
    ·rw[d];simp only[bne_self_eq_false,xR,if_false,Int.lt_irrefl];rw[Vt W]
     cases jQ q.1.H
     ·simp only[xR,if_false,Bool.not_false,if_true];refine⟨trivial,fun _=>⟨k,W,?_,fun u d=>(b.thr u d).2⟩⟩
      cases c:QC q.1.H with
      |none=>rfl
      |some v=>have V:=b.pos v c;have B:=b.inn;rw[c,hi]at B;simp at B;omega
     ·simp
    ·have t:(mI s.ts != 0)=I:=by simpa using d
     have x:0<mI s.ts:=by omega
     simp[t,x]
   ·have t:(s.inner != 0)=I:=by simpa using hi
    have G:(s.inner==0)=U:=by simpa using hi
    have x:0<s.inner:=by omega
    simp[t,x,G]
namespace J
def enc:List Int->Nat
 |[]=>0
 |v::l=>v.toNat+4*enc l
def EvP(t:Nat)(b:Int)(e:E)(q:Ev):Prop:=ER ((e.bF (t:Int)).bM b) q/\q.j=(t:Int)/\∀k:Nat,PD q.h (k:Int)=I↔(k:Int)∈e.on
structure Sim(t:Nat)(b:Int)(m:Et)(s:PS):Prop where
 th:m.j=(t:Int)
 bk:m.block=b
 rg:m.g=s.g
 ml:L m.made=4
 md:∀i,i<4->∀k:Nat,PD (m.made.getD i 0) (k:Int)=I↔(k:Int)∈s.hang.getD i []
 as_:∀k:Nat,PD m.A (k:Int)=I↔(k:Int)∈s.way
 br:(m.u:Int)=s.round
 el:L m.E=L s.e
 ev:∀i,i<L s.e->EvP t b (J.ev s.e i) (Q.ev m.E i)
 un:m.Y=enc s.D
def Dw(b:0<=o)(c:o<6):Go.Proofs.YtehclbpoabdpoaaGreatDoor.ordW o=ordW o:=by
 have:o=0\/o=1\/o=2\/o=3\/o=4\/o=5:=by omega
 rcases this with rfl|rfl|rfl|rfl|rfl|rfl<;>decide
def Dx{s:Int}(h:OkOS o s):(scW o s==sDev)=(s==1):=by
 unfold scW
 rcases h.s0 with rfl|rfl
 ·by_cases c:o=0
  ·subst c;decide
  ·have:(o==0)=U:=by simpa using c
   rw[this];decide
 ·by_cases c:o=0
  ·have:=h.w c;omega
  ·have:(o==0)=U:=by simpa using c
   rw[this];decide
section
variable {t n:Nat}{b:Int}{m:Q.Et}{s:PS}{st:P.MV}{x:R.Lh}
def Sim.val(h:Sim t b m s){o:QR}(c:RF o a):m.value o=s.val a:=by
 obtain⟨e,d,f⟩:=c;unfold Et.value PS.val;unfold rI at e
 cases hr:o.MW
 ·rw[hr]at e;simp only[xR,if_false]at e⊢;rw[if_neg (by omega),e]
 ·rw[hr]at e;simp only[if_true]at e⊢;rw[if_neg (by omega),if_pos (by omega),h.rg,e]
  congr 1;omega
def Sim.aH(h:Sim t b m s){o:QR}(c:RF o a)(k:Nat):PD (m.Ea o) (k:Int)=I↔(k:Int)∈s.aH a:=by
 obtain⟨e,d,f⟩:=c;unfold Et.Ea PS.aH;unfold rI at e
 cases hr:o.MW
 ·rw[hr]at e;simp only[xR,if_false]at e⊢;rw[if_neg (by omega),RV];simp
 ·rw[hr]at e;simp only[if_true]at e⊢;rw[if_neg (by omega),if_pos (by omega),h.md _ (by omega) k];rw[show(-1-a).toNat=o.n.toNat by omega]
def Sim.put(h:Sim t b m s){l:List E}{ql:List Ev}(g:L ql=L l)(d:∀i,i<L l->EvP t b (J.ev l i) (Q.ev ql i)):Sim t b {m with E:=m.E++ql} (s.put l):=by
 refine⟨h.th,h.bk,h.rg,h.ml,h.md,h.as_,h.br,by simp[PS.put,h.el,g],fun i f=>?_,h.un⟩;simp only[PS.put,List.length_append]at f;show EvP t b (J.ev (s.e++l) i) (Q.ev (m.E++ql) i);by_cases c:i<L s.e
 ·rw[vX c,show Q.ev (m.E++ql) i=Q.ev m.E i by unfold Q.ev;simp[List.getElem?_append_left (show i<L m.E by rw[h.el];exact c)]];exact h.ev i c
 ·rw[vT (by omega),show Q.ev (m.E++ql) i=Q.ev ql (i-L s.e)by unfold Q.ev;simp[List.getElem?_append_right (show L m.E<=i by rw[h.el];omega),h.el]];exact d _ (by omega)
def Sim.aJ(h:Sim t b m s){r:Int}(q:0<=r)(x:r<4)(j:L s.hang=4)(p:L s.g=4)(f:∀k:Nat,PD u (k:Int)=I↔(k:Int)∈l):Sim t b (m.aJ r v u) (s.aJ r v l):=by
 unfold Et.aJ PS.aJ;rw[if_neg (by omega)];refine⟨h.th,h.bk,by simp only;rw[h.rg],by simp[h.ml],fun i d k=>?_,h.as_,h.br,h.el,h.ev,h.un⟩;simp only;by_cases c:r.toNat=i
 ·subst c;rw[DQ,if_pos ⟨rfl,by omega⟩];rw[x2,List.getElem?_set_self (by rw[h.ml];omega)];exact f k
 ·rw[DQ,if_neg fun e=>c e.1];rw[x2,List.getElem?_set_ne c,<- x2];exact h.md i d k
def Dy(h:Sim t b m s)(g:Twin st x)(d:QW st.B=I)(f:kd=0\/kd=1){half:Bool}(y:half=(st.B==2||st.B==3)){on:List Int}{hg:Nat}(A:∀k:Nat,PD hg (k:Int)=I↔(k:Int)∈on)(D:st.q<=4):
  EvP t b ⟨0,0,if kd=0 then⟨#[114]⟩else⟨#[119]⟩,x.z,v,x.ord,x.scope,half,0,on⟩ {m.V kd st with value:=v,h:=hg}:=by
 obtain⟨j,F,G⟩:=g.acc d;obtain⟨p,r,c,H⟩:=g.os (by rw[d];rfl);have C:(kd==0||kd==1)=I:=by rcases f with e|e<;>rw[e]<;>rfl
 refine⟨⟨?_,?_,?_,?_,fun _=>⟨j,Z,?_⟩,fun _=>⟨⟨c.o0,by have:=c.o1;simp only[Et.V];omega⟩,?_⟩,fun _=>D,?_,fun _=>?_,?_⟩,h.th,A⟩
 ·simp only[Et.V];omega
 ·rcases f with rfl|rfl
  ·simp only[Et.V,if_true];rw[SL];simp[E.bF,E.bM,kR,bQ]
  ·simp only[Et.V];rw[SL];simp[E.bF,E.bM,kW,bQ]
 ·simp only[Et.V,E.bF,E.bM];exact h.th.symm
 ·intro _;simp only[Et.V,E.bF,E.bM];exact h.bk.symm
 ·simp only[Et.V,E.bF,E.bM,C,Bool.true_and];exact y
 ·simp only[Et.V,E.bF,E.bM];rw[p,Dw c.o0 c.o1]
 ·intro e;simp only[Et.V]at e;omega
 ·simp only[Et.V,E.bF,E.bM];rw[r,Dx c]
 ·intro e;simp only[Et.V]at e;omega
def Wa(h:Sim t b m s)(j:Twin st x)(g:st.B=4):EvP t b (fE x) (m.V 2 st):=by
 obtain⟨d,f,c,p⟩:=j.os (by rw[g];rfl);refine⟨⟨by simp[Et.V],by simp[Et.V,E.bF,E.bM,fE,SL,kF,bQ],by simp only[Et.V,E.bF,E.bM,fE];exact h.th.symm,fun _=>by simp only[Et.V,E.bF,E.bM,fE];exact h.bk.symm,fun e=>by simp[Et.V]at e,fun _=>⟨⟨c.o0,by have:=c.o1;simp only[Et.V];omega⟩,?_⟩,fun e=>by simp[Et.V]at e,fun e=>by simp[Et.V]at e,fun _=>?_,fun e=>by simp[Et.V]at e⟩,h.th,fun k=>?_⟩
 ·simp only[Et.V,E.bF,E.bM,fE];rw[d,Dw c.o0 c.o1]
 ·simp only[Et.V,E.bF,E.bM,fE];rw[f,Dx c]
 ·have:(m.V 2 st).h=0:=by simp[Et.V]
  rw[this,RV];simp[fE]
def Dz(h:Sim t b m s)(c:kd=3\/kd=4):EvP t b ⟨0,0,if kd=3 then⟨#[97]⟩else⟨#[108]⟩,0,0,⟨#[]⟩,⟨#[]⟩,U,s.round,[]⟩ (m.V kd st):=by
 refine⟨⟨?_,?_,?_,?_,?_,?_,?_,?_,?_,?_⟩,h.th,fun k=>?_⟩
 ·simp only[Et.V];omega
 ·rcases c with rfl|rfl
  ·simp[Et.V,E.bF,E.bM,SL,kA,bQ]
  ·simp[Et.V,E.bF,E.bM,SL,kL,bQ]
 ·simp only[Et.V,E.bF,E.bM];exact h.th.symm
 ·intro _;simp only[Et.V,E.bF,E.bM];exact h.bk.symm
 ·intro e;simp only[Et.V]at e;omega
 ·intro e;simp only[Et.V]at e;omega
 ·intro e;simp only[Et.V]at e;omega
 ·intro _;simp[E.bF,E.bM,bQ]
 ·intro e;simp only[Et.V]at e;omega
 ·intro _;have e1:(kd==3||kd==4)=I:=by rcases c with e|e<;>rw[e]<;>rfl
  simp only[Et.V,E.bF,E.bM,e1,if_true];exact h.br.symm
 ·have:(m.V kd st).h=0:=by rcases c with rfl|rfl<;>simp[Et.V]
  rw[this,RV];simp
def Wb(h:∀v∈l,0<=v/\v<4):enc l%4=(l.headD 0).toNat/\enc l/4=enc l.tail/\((enc l%4:Nat):Int)=l.headD 0:=by
 cases l with
 |nil=>simp[enc]
 |cons v l =>
  have:=h v (by simp);simp only[enc,List.headD_cons,List.tail_cons];omega
end
end J
namespace J
section
variable {t n:Nat}{b:Int}{m:Q.Et}{s:PS}{st:P.MV}{x:R.Lh}
def D0(b:QW k=I)(c:QM k o=I):o<=4:=by
 unfold QW at b;unfold QM at c;have d:k=0\/k=1\/k=2\/k=3:=by simp at b;omega
 rcases d with rfl|rfl|rfl|rfl<;>simp at c<;>omega
def Sim.read(h:Sim t b m s)(g:Bnd n s)(d:Twin st x)(c:QW st.B=I){half:Bool}(j:half=(st.B==2||st.B==3)):Sim t b (m.read st) (s.take.put [rE x (s.D.headD 0) half s.way])/\(m.read st).aU (L m.E)=s.D.headD 0:=by
 obtain⟨e1,e2,e3⟩:=Wb g.rd;have e:Sim t b {m with Y:=m.Y/4} s.take:=⟨h.th,h.bk,h.rg,h.ml,h.md,h.as_,h.br,h.el,h.ev,by simp only[PS.take];rw[h.un,e2]⟩;have ev:=Dy h d c (xW Z) j (v:=s.D.headD 0) (on:=s.way) (hg:=m.A) h.as_ (D0 c (d.os (by rw[c];rfl)).2.2.2);have f:=e.put (l:=[rE x (s.D.headD 0) half s.way]) (ql:=[{m.V 0 st with value:=s.D.headD 0,h:=m.A}]) Z fun i p=>by
  have:i=0:=by simp at p;omega
  subst this;exact ev
 have q:m.read st={m with Y:=m.Y/4,E:=m.E++[{m.V 0 st with value:=s.D.headD 0,h:=m.A}]}:=by
  unfold Et.read;rw[h.un,e3];simp[Et.V]
 rw[q];refine⟨f,?_⟩;simp[Et.aU]
def EM{r:Nat}(b:r<64)(k:Nat):PD (Q.bW (r:Int)) (k:Int)=I↔(k:Int)∈[(r:Int)]:=by
 rw[Cy];simp only[x3];omega
def AX{a c:Nat}{b d:List Int}(e:∀k:Nat,PD a (k:Int)=I↔(k:Int)∈b)(f:∀k:Nat,PD c (k:Int)=I↔(k:Int)∈d)(k:Nat):PD (a|||c) (k:Int)=I↔(k:Int)∈b++d:=by
 rw[DK,e,f,x1]
def Sim.bL(h:Sim t b m s)(d:Twin st x)(c:QW st.B=I){half:Bool}(e:half=(st.B==2||st.B==3)){on lu:List Int}(j:∀k:Nat,PD u (k:Int)=I↔(k:Int)∈lu)(g:∀k:Int,k∈on↔k∈s.way\/k∈lu):Sim t b (m.bL st v u) (s.put [wE x v half on]):=by
 have ev:=Dy h d c (xF Z) e (v:=v) (on:=on) (hg:=m.A|||u) fun k=>by rw[DK,h.as_,j,g] (D0 c (d.os (by rw[c];rfl)).2.2.2);exact h.put (l:=[wE x v half on]) (ql:=[{m.V 1 st with value:=v,h:=m.A|||u}]) Z fun i f=>by
  have:i=0:=by simp at f;omega
  subst this;exact ev
def Wc(a v:Int)(b:0<=a/\a<4)(c:0<=v/\v<4):(a+4-v)%4=(a-v+4)%4:=by congr 1;omega
def Sim.step(h:Sim t b m s)(f:Bnd n s)(c:Twin st x)(X:L s.e<60):Sim t b (m.bO st) (s.step x):=by
 have d:=c.op;have q:=h.val c.oa;have O:=h.val c.ob;have p:=h.aH c.oa;have N:=h.aH c.ob;have kd:=c.kd;have T:st.B=0\/st.B=1\/(st.B=2\/st.B=3)\/st.B=4\/st.B=5\/st.B=6\/st.B=7\/st.B=8\/st.B=9:=by omega
 rcases T with k|k|k|k|k|k
 ·have g:QW st.B=I:=by rw[k];rfl
  obtain⟨G,H⟩:=h.read f c g (half:=U) (by rw[k];rfl);obtain⟨y,z,A⟩:=c.rg (by rw[k];rfl);have e1:m.bO st=(m.read st).aZ st.dest (L m.E):=by unfold Et.bO;rw[k];rfl
  have e2:s.step x=s.load x:=by unfold PS.step;rw[d,k];rfl
  rw[e1,e2];unfold Et.aZ PS.load;rw[H,y,h.el];exact G.aJ z A f.hl f.rl (EM (by omega))
 ·have g:QW st.B=I:=by rw[k];rfl
  have e1:m.bO st=m.bL st (m.value st.a) (m.Ea st.a):=by unfold Et.bO;rw[k];rfl
  have e2:s.step x=s.put [wE x (s.val x.a) U (s.aH x.a++s.way)]:=by unfold PS.step;rw[d,k];rfl
  rw[e1,e2,q];exact h.bL c g (by rw[k];rfl) p fun k=>by rw[x1];exact or_comm
 ·have g:QW st.B=I:=by rcases k with k|k<;>rw[k]<;>rfl
  have K:I=(st.B==2||st.B==3):=by rcases k with k|k<;>rw[k]<;>rfl
  obtain⟨G,H⟩:=h.read f c g K;obtain⟨y,z,A⟩:=c.rg (by rcases k with k|k<;>rw[k]<;>rfl);have e1:m.bO st=m.step st:=by unfold Et.bO;rcases k with k|k<;>rw[k]<;>rfl
  rw[e1];have S:∀{v:Int} {u:Nat},((m.read st).bL st v u).aU (L m.E)=s.D.headD 0:=fun{v u}=>by
   rw[<- H];simp[Et.aU,Et.bL,Et.put,Et.read]
  rcases k with k|k
  ·have e2:s.step x=s.add x:=by unfold PS.step;rw[d,k];rfl
   have e3:m.step st=((m.read st).bL st ((m.value st.a+(m.read st).aU (L m.E))%4) (m.Ea st.a|||Q.bW (L m.E:Nat))).aZ st.dest (L m.E):=by unfold Et.step;rw[k];rfl
   rw[e2,e3,H,q];have J:=G.bL c g K (v:=(s.val x.a+s.D.headD 0)%4) (u:=m.Ea st.a|||Q.bW (L m.E:Nat)) (lu:=s.aH x.a++[(L m.E:Int)]) (on:=s.aH x.a++s.way++[(L s.e:Int)]) (AX p (EM (by rw[h.el];omega))) fun k=>by
    rw[h.el];show k∈s.aH x.a++s.way++[(L s.e:Int)]↔k∈s.way\/k∈s.aH x.a++[(L s.e:Int)];simp only[x1,x3];constructor
    ·rintro((a|a)|a)
     ·exact xF (xW a)
     ·exact xW a
     ·exact xF (xF a)
    ·rintro(a|a|a)
     ·exact xW (xF a)
     ·exact xW (xW a)
     ·exact xF a
   unfold Et.aZ;rw[S,h.el];rw[h.el]at J;have:=J.aJ (r:=st.dest) (v:=s.D.headD 0) (u:=Q.bW (L s.e:Nat)) (l:=[(L s.e:Int)]) z A f.hl f.rl (EM (by omega));unfold PS.add;rw[y];simpa[PS.put]using this
  ·have e2:s.step x=s.swap x:=by unfold PS.step;rw[d,k];rfl
   have e3:m.step st=((m.read st).bL st (m.value st.a) (m.Ea st.a)).aZ st.dest (L m.E):=by unfold Et.step;rw[k];rfl
   rw[e2,e3,q];have J:=G.bL c g K (v:=s.val x.a) (u:=m.Ea st.a) (lu:=s.aH x.a) (on:=s.aH x.a++s.way) p (fun k=>by rw[x1];exact or_comm);unfold Et.aZ;rw[S,h.el];have:=J.aJ (r:=st.dest) (v:=s.D.headD 0) (u:=Q.bW (L s.e:Nat)) (l:=[(L s.e:Int)]) z A f.hl f.rl (EM (by omega));unfold PS.swap;rw[y];simpa[PS.put]using this
 ·have e1:m.bO st=m.put (m.V 2 st):=by unfold Et.bO;rw[k];rfl
  have e2:s.step x=s.put [fE x]:=by unfold PS.step;rw[d,k];rfl
  rw[e1,e2];exact h.put (l:=[fE x]) (ql:=[m.V 2 st]) Z fun i M=>by
   have:i=0:=by simp at M;omega
   subst this;exact Wa h c k
 ·have e1:m.bO st=m.cX st:=by unfold Et.bO;rw[k];rfl
  have e2:s.step x={s.put [aE s.round,lE s.round]with round:=s.round+1}:=by unfold PS.step;rw[d,k];rfl
  rw[e1,e2];have:=h.put (l:=[aE s.round,lE s.round]) (ql:=[m.V 3 st,m.V 4 st]) Z fun i M=>by
   have:i=0\/i=1:=by simp at M;omega
   rcases this with rfl|rfl
   ·exact Dz h (xW Z)
   ·exact Dz h (xF Z)
  exact⟨this.th,this.bk,this.rg,this.ml,this.md,this.as_,by show((m.u+1:Nat):Int)=s.round+1;have:=h.br;omega,this.el,this.ev,this.un⟩
 ·have e1:m.bO st=m.aJ st.dest (m.bD st) (m.Ea st.a|||m.Ea st.b):=by unfold Et.bO;rcases k with k|k|k|k<;>rw[k]<;>rfl
  have e2:s.step x=s.set x:=by unfold PS.step;rcases k with k|k|k|k<;>rw[d,k]<;>rfl
  obtain⟨y,z,A⟩:=c.rg (by rcases k with k|k|k|k<;>rw[k]<;>rfl);rw[e1,e2];have F:=c.sg;have fin:∀{v:Int} {l:List Int},(∀k:Nat,PD (m.Ea st.a|||m.Ea st.b) (k:Int)=I↔(k:Int)∈l)->m.bD st=v->Sim t b (m.aJ st.dest (m.bD st) (m.Ea st.a|||m.Ea st.b)) (s.aJ x.MW v l):=fun C W=>by
   rw[W,y];exact h.aJ z A f.hl f.rl C
  unfold PS.set
  rcases k with k|k|k|k
  ·rw[F,k];show Sim t b _ (s.aJ x.MW (s.val x.a) (s.aH x.a));refine fin (fun j=>?_) (by unfold Et.bD;rw[k];exact q);have:m.Ea st.b=0:=by unfold Et.Ea;rw[c.b6 k];rfl
   rw[this,Nat.or_zero];exact p j
  ·rw[F,k];show Sim t b _ (s.aJ x.MW ((s.val x.a+s.val x.b)%4) (s.aH x.a++s.aH x.b));exact fin (AX p N) (by unfold Et.bD;rw[k,q,O];rfl)
  ·rw[F,k];show Sim t b _ (s.aJ x.MW ((s.val x.a-s.val x.b+4)%4) (s.aH x.a++s.aH x.b));exact fin (AX p N) (by unfold Et.bD;rw[k,q,O];exact Wc _ _ (f.val (a:=x.a) (by have:=c.oa;unfold RF rI at this;split at this<;>omega) (by have:=c.oa;unfold RF rI at this;split at this<;>omega)) (f.val (a:=x.b) (by have:=c.ob;unfold RF rI at this;split at this<;>omega) (by have:=c.ob;unfold RF rI at this;split at this<;>omega)))
  ·rw[F,k];show Sim t b _ (s.aJ x.MW (if s.val x.a==s.val x.b then 1 else 0) (s.aH x.a++s.aH x.b));exact fin (AX p N) (by unfold Et.bD;rw[k,q,O];rfl)
end
end J
