import Derived.Test.YtehclbpoabdpoaaGreatDoorO33
import Derived.Test.YtehclbpoabdpoaaGreatDoorO18
set_option linter.all false
set_option maxHeartbeats 0
namespace Go.Proofs.YtehclbpoabdpoaaGreatDoor
open Go Go.RowKit Go.Proofs.Tryz P Q
open scoped Classical
set_option maxRecDepth 1000000
variable {p:MV->Bool}{st st':MV}{r ws:List (List UInt8)}{G:MV->Prop}{ts:List NB}{l:List UInt8}{t:NB}{w:Wd}{α:Type}
open List renaming length->U
open Bool renaming true->C
open Or renaming inl->xF,inr->xR
open List renaming range->xW,mem_cons_of_mem->x1,foldl_cons->x2,length_cons->x4,length_append->x5,append_inj'->x7,length_map->x9,map_cons->xa,append_assoc->xb,filter_append->xc,filter_map->xd,mem_nil_iff->xe,flatMap_cons->xg,getElem?_eq_getElem->xh,filter_congr->xi,mem_flatMap->xj
open Nat renaming le_trans->x3,lt_of_le_of_lt->x6,pow_le_pow_right->x8
namespace P
def Bo{c:UInt8}{n:Int}(h:(eD c n).2=C):0<=(eD c n).1/\(eD c n).1<n:=by
 unfold eD at h⊢;simp only[Bool.and_eq_true,decide_eq_true_eq]at h⊢;omega
def T1{p:List UInt8}(h:(bZ p).2=C):0<=(bZ p).1/\(bZ p).1<4:=by
 obtain⟨d,rfl⟩:=Jx h;simp only[bZ,if_true]at h⊢;exact Bo h
def vY{p:List UInt8}(h:(cF p).2=C):zI (cF p).1:=by
 match p,h with
 |[],h=>simp[cF,bZ]at h
 |[c],h=>exact Bo (n:=4) h
 |a::b::r,h=>exact T1 (p:=a::b::r) h
def kN:zI QR.zero:=⟨by decide,by decide⟩
def DG(h:dI st r=(st',C))(hs:QK st):QK st':=by
 rcases Jz h with⟨o,rfl,a,rfl⟩|⟨o,s,rfl,b,c,d,rfl,e⟩<;>exact hs
def Bp{k:Int}(h:step st k r=(st',C))(hs:QK st):QK st':=by
 match r,h with
 |[],h=>simp[step]at h
 |[_],h=>simp[step]at h
 |p::v::r,h =>
  simp only[step]at h
  split at h
  ·rename_i a;simp only[iC]at a h
   split at a
   ·rename_i b;rw[if_pos b]at h;exact DG h ⟨vY a,hs.2⟩
   ·simp at a
  ·simp at h
def T4(h:sum st r=(st',C))(hs:QK st):QK st':=by
 match r,h with
 |[],h=>simp[sum]at h
 |[a],h =>
  simp only[sum]at h
  split at h
  ·rename_i c;simp only[Prod.mk.injEq]at h;rw[<- h.1];exact⟨vY c,hs.2⟩
  ·simp at h
 |[_,_],h=>simp[sum]at h
 |[a,s,b],h =>
  simp only[sum]at h
  split at h
  ·rename_i c
   split at h
   ·simp only[Prod.mk.injEq]at h;rw[<- h.1];exact⟨vY c,vY h.2⟩
   ·simp at h
  ·simp at h
 |_::_::_::_::_,h=>simp[sum]at h
def T5(h:cR ws=(st,C)):QK st:=by
 have g:QK MV.zero:=⟨kN,kN⟩
 cases ws with
 |nil=>simp[cR]at h
 |cons c r =>
  simp only[cR]at h
  split at h
  ·match r,h with
   |[],h=>simp[store]at h
   |[_],h=>simp[store]at h
   |p::v::r,h =>
    simp only[store]at h
    split at h
    ·rename_i b;simp only[iC]at b h
     split at b
     ·rename_i f;rw[if_pos f]at h;exact DG h ⟨vY b,kN⟩
     ·simp at b
    ·simp at h
  ·split at h
   ·simp only[fence]at h;exact DG h ⟨kN,kN⟩
   ·split at h
    ·simp only[Prod.mk.injEq]at h;rw[<- h.1];exact⟨kN,kN⟩
    ·split at h
     ·match r,h with
      |[],h=>simp[oY]at h
      |[a],h =>
       simp only[oY,Prod.mk.injEq]at h;rw[<- h.1];exact⟨vY h.2,kN⟩
      |_::_::_,h=>simp[oY]at h
     ·split at h
      ·simp only[Prod.mk.injEq]at h;rw[<- h.1];exact⟨kN,kN⟩
      ·match r,h with
       |[],h=>simp[fP]at h
       |[_],h=>simp[fP]at h
       |e::d::r,h =>
        simp only[fP]at h
        split at h
        ·split at h
         ·split at h
          ·cases r with
           |nil=>simp[load]at h
           |cons v r =>
            simp only[load]at h
            split at h
            ·exact DG h ⟨kN,kN⟩
            ·simp at h
          ·split at h
           ·exact Bp h ⟨kN,kN⟩
           ·split at h
            ·exact Bp h ⟨kN,kN⟩
            ·exact T4 h ⟨kN,kN⟩
         ·simp at h
        ·simp at h
def Bq{r b:Rd}(h:cW r ws=(b,C)):(∃t,t.S=[]/\t.i=r.i/\b.H=r.H++[t]/\b.count=0/\r.O=[]/\b.O=[])\/∃st l lb,cR ws=(st,C)/\r.H≠[]/\b.H=fB r.H {st with i:=l,label:=lb}/\(st.B=11/\b.count=r.count/\U b.O+1=U r.O\/r.count<8/\b.count=r.count+1/\st.B≠11/\(U b.O:Int)=U r.O+if st.B==10 then 1 else 0):=by
 unfold cW at h
 split at h
 ·refine xF ?_;unfold eG at h
  split at h
  ·simp at h
  ·rename_i n;have m:r.O=[]:=List.eq_nil_of_length_eq_zero (by omega)
   split at h
   ·split at h
    ·simp only[Prod.mk.injEq]at h;exact⟨⟨_,r.i,[]⟩,Z,Z,by rw[<- h.1],by rw[<- h.1],m,by rw[<- h.1];exact m⟩
    ·simp at h
   ·simp at h
 ·split at h
  ·simp at h
  ·rename_i k;have d:r.H≠[]:=by simpa using k
   refine xR ?_;simp only[]at h
   split at h
   ·rename_i hs;have j:cR ws=((cR ws).1,C):=by rw[<- hs]
    split at h
    ·rename_i a;unfold fC at h
     split at h
     ·simp at h
     ·rename_i q f;simp only[Prod.mk.injEq]at h;have g:r.O≠[]:=by intro e;rw[e]at f;simp at f
      refine⟨(cR ws).1,r.i,_,j,d,by rw[<- h.1];rfl,xF ⟨by simpa using a,by rw[<- h.1];rfl,?_⟩⟩;rw[<- h.1];show U r.O.dropLast+1=U r.O;have:=List.length_pos_iff.2 g;rw[List.length_dropLast];omega
    ·rename_i a
     split at h
     ·simp at h
     ·rename_i o
      split at h
      ·rename_i c
       split at h
       ·simp at h
       ·unfold branch at h
        split at h
        ·simp at h
        ·simp only[Prod.mk.injEq]at h;exact⟨(cR ws).1,r.i,r.I+1,j,d,by rw[<- h.1];rfl,xR ⟨by omega,by rw[<- h.1];rfl,by simpa using a,by rw[<- h.1,if_pos c];simp[put]⟩⟩
      ·rename_i c;simp only[Prod.mk.injEq]at h;exact⟨(cR ws).1,r.i,(cR ws).1.label,j,d,by rw[<- h.1];rfl,xR ⟨by omega,by rw[<- h.1];rfl,by simpa using a,by rw[<- h.1,if_neg c];simp[put]⟩⟩
   ·simp at h
def DO(G:MV->Prop)(ts:List NB):Prop:=∀t∈ts,∀s∈t.S,G s
def Br{G:MV->Prop}{s:MV}(hs:G s):∀{ts:List NB},DO G ts->DO G (fB ts s)
 |[],h=>h
 |[t],h=>fun u d x c=>by
  simp[fB]at d;subst d
  rcases List.mem_append.1 c with c|c
  ·exact h t (by simp) x c
  ·simp at c;rw[c];exact hs
 |a::b::ts,h=>fun u d x c=>by
  rw[fB]at d
  rcases List.mem_cons.1 d with rfl|d
  ·exact h u (by simp) x c
  ·exact Br hs (fun v e=>h v (x1 _ e)) u d x c
def Bs{G:MV->Prop}(k:∀st l n,G st->G {st with i:=l,label:=n})(m:∀ws st,cR ws=(st,C)->G st):∀(j:List (List UInt8)) (r c:Rd),OX r j=(c,C)->DO G r.H->DO G c.H
 |[],r,c,h,hr=>by simp[OX]at h;rw[<- h];exact hr
 |x::j,r,c,h,hr=>by
  simp only[OX]at h
  split at h
  ·rename_i q;have e:cW {r with i:=r.i+1} (ND 32 x)=((cW {r with i:=r.i+1} (ND 32 x)).1,C):=by rw[<- q]
   refine Bs k m j _ c h ?_
   rcases Bq e with⟨t,f,_,a,_⟩|⟨st,l,n,d,o,a,_⟩
   ·rw[a];intro u b x g
    rcases List.mem_append.1 b with b|b
    ·exact hr u b x g
    ·simp at b;rw[b,f]at g;simp at g
   ·rw[a];exact Br (k _ _ _ (m _ _ d)) hr
  ·simp at h
def nE(s:MV):Bool:=s.B != 11
def iE(s:MV):Bool:=s.B==11
def iB(s:MV):Bool:=s.B==10
def T6(h:ts≠[])(s:MV):∃a t,ts=a++[t]/\fB ts s=a++[{t with S:=t.S++[s]}]:=by
 rcases List.eq_nil_or_concat ts with b|⟨a,t,rfl⟩
 ·exact absurd b h
 ·rw[List.concat_eq_append];exact⟨a,t,Z,wO a t s⟩
structure Cn(r:Rd):Prop where
 le:∀t∈r.H,NA nE t.S<=8
 last:∀a t,r.H=a++[t]->NA nE t.S<=r.count
 ln:∀t∈r.H,0<t.i
 lin:0<=r.i
 en:∀t∈r.H,NA iE t.S<=NA iB t.S
 op:∀a t,r.H=a++[t]->NA iE t.S+U r.O=NA iB t.S
def T7(q:Rd)(x:List (List UInt8)):(cW q x).1.i=q.i:=by
 unfold cW
 split
 ·unfold eG
  split
  ·rfl
  ·split
   ·split<;>rfl
   ·rfl
 ·split
  ·rfl
  ·simp only[]
   split
   ·split
    ·unfold fC;split<;>rfl
    ·split
     ·rfl
     ·split
      ·split
       ·rfl
       ·unfold branch;split<;>rfl
      ·rfl
   ·rfl
def Bt:∀(D:List (List UInt8)) (r o:Rd),OX r D=(o,C)->Cn r->Cn o
 |[],r,o,h,hr=>by simp[OX]at h;rw[<- h];exact hr
 |x::D,r,o,h,hr=>by
  simp only[OX]at h
  split at h
  ·rename_i V;have e:cW {r with i:=r.i+1} (ND 32 x)=((cW {r with i:=r.i+1} (ND 32 x)).1,C):=by rw[<- V]
   refine Bt D _ o h ?_;have I:0<=(cW {r with i:=r.i+1} (ND 32 x)).1.i:=by rw[T7];show 0<=r.i+1;have:=hr.lin;omega
   rcases Bq e with⟨t,k,A,d,q,_,z⟩|⟨st,l,n,T,y,d,q⟩
   ·refine⟨fun u c=>?_,fun a u c=>?_,fun u c=>?_,I,fun u c=>?_,fun b u c=>?_⟩
    ·rw[d]at c
     rcases List.mem_append.1 c with c|c
     ·exact hr.le u c
     ·simp at c;rw[c,k];simp[NA]
    ·rw[d]at c;have:=(x7 c Z).2;simp at this;rw[<- this,k,q];simp[NA]
    ·rw[d]at c
     rcases List.mem_append.1 c with c|c
     ·exact hr.ln u c
     ·simp at c;rw[c,A];show 0<r.i+1;have:=hr.lin;omega
    ·rw[d]at c
     rcases List.mem_append.1 c with c|c
     ·exact hr.en u c
     ·simp at c;rw[c,k];simp[NA]
    ·rw[d]at c;have:=(x7 c Z).2;simp at this;rw[<- this,k,z];simp[NA]
   ·obtain⟨a,t,J,K⟩:=T6 y {st with i:=l,label:=n};have f:r.H=a++[t]:=J;rw[K]at d;have L:=hr.le t (by rw[f];simp);have M:=hr.last a t f;have F:NA nE (t.S++[{st with i:=l,label:=n}])<=8/\NA nE (t.S++[{st with i:=l,label:=n}])<=(cW {r with i:=r.i+1} (ND 32 x)).1.count:=by
     rw[xJ]
     rcases q with⟨g,j,_⟩|⟨g,j,_,_⟩
     ·rw[j];simp only[NA,nE,g];exact⟨by simpa using L,by simpa using M⟩
     ·rw[j];simp only[NA];have E:r.count<8:=g;show _<=(8:Int)/\_<=r.count+1
      split<;>omega
    have N:=hr.op a t f;have v:NA iE (t.S++[{st with i:=l,label:=n}])+((cW {r with i:=r.i+1} (ND 32 x)).1.O.length:Int)=NA iB (t.S++[{st with i:=l,label:=n}]):=by
     rw[xJ,xJ]
     rcases q with⟨g,_,j⟩|⟨_,_,g,j⟩
     ·have m:((cW {r with i:=r.i+1} (ND 32 x)).1.O.length:Int)+1=U r.O:=by exact_mod_cast j
      simp only[NA,iE,iB,g];simp;omega
     ·have m:((cW {r with i:=r.i+1} (ND 32 x)).1.O.length:Int)=U r.O+if st.B==10 then 1 else 0:=j
      rw[m];have s:(st.B==11)=false:=by simpa using g
      simp only[NA,iE,iB,s];by_cases h10:st.B=10
      ·simp[h10];omega
      ·simp[h10];omega
    refine⟨fun u c=>?_,fun b u c=>?_,fun u c=>?_,I,fun u c=>?_,fun b u c=>?_⟩
    ·rw[d]at c
     rcases List.mem_append.1 c with c|c
     ·exact hr.le u (by rw[f];simp[c])
     ·simp at c;rw[c];exact F.1
    ·rw[d]at c;have:=(x7 c Z).2;simp at this;rw[<- this];exact F.2
    ·rw[d]at c
     rcases List.mem_append.1 c with c|c
     ·exact hr.ln u (by rw[f];simp[c])
     ·simp at c;rw[c];exact hr.ln t (by rw[f];simp)
    ·rw[d]at c
     rcases List.mem_append.1 c with c|c
     ·exact hr.en u (by rw[f];simp[c])
     ·simp at c;rw[c];show NA iE (t.S++_)<=NA iB (t.S++_);omega
    ·rw[d]at c;have:=(x7 c Z).2;simp at this;rw[<- this];exact v
  ·simp at h
def TD(h:(PK l).2.1=0):(PK l).1=(cS l).1/\(PK l).2.2=0/\U l<=2000/\(cS l).2=0/\kX (cS l).1=0/\iU (cS l).1 (cS l).1=0/\jQ (cS l).1=false:=by
 unfold PK at h⊢;by_cases h1:2000<U l
 ·rw[if_pos h1]at h;simp at h
 rw[if_neg h1]at h⊢;by_cases h2:((cS l).2 != 0)=C
 ·rw[if_pos h2]at h;simp at h
 rw[if_neg h2]at h⊢;by_cases h3:(kX (cS l).1 != 0)=C
 ·rw[if_pos h3]at h;simp at h
 rw[if_neg h3]at h⊢;by_cases h4:(iU (cS l).1 (cS l).1 != 0)=C
 ·rw[if_pos h4]at h;simp at h
 rw[if_neg h4]at h⊢;by_cases h5:jQ (cS l).1=C
 ·rw[if_pos h5]at h;simp at h
 rw[if_neg h5]at h⊢;exact⟨Z,Z,by omega,by simpa using h2,by simpa using h3,by simpa using h4,by simpa using h5⟩
def T8(h:(cS l).2=0):OX Rd.zero (ND 10 l).dropLast=((OX Rd.zero (ND 10 l).dropLast).1,C)/\(cS l).1=(OX Rd.zero (ND 10 l).dropLast).1.H/\(ND 10 l).getLast?=some []/\(OX Rd.zero (ND 10 l).dropLast).1.O=[]/\(OX Rd.zero (ND 10 l).dropLast).1.H≠[]:=by
 obtain⟨c,d,b⟩:=VD (ND 10 l).dropLast 0 Rd.zero MD;have z:Rd.zero.i=0:=Z;unfold cS at h⊢;simp only[]at h⊢
 cases hq:(OX Rd.zero (ND 10 l).dropLast).2
 ·have:=b hq;simp[hq]at h;omega
 ·simp only[hq,if_true]at h⊢
  split at h
  ·simp at h;omega
  ·rename_i a;rw[if_neg a];simp only[not_or,Decidable.not_not]at a;exact⟨by rw[<- hq],Z,a.1,a.2.1,a.2.2⟩
def CM(all:List NB):∀(l:List NB),(∀u∈l,0<u.i)->iU all l=0->∀t∈l,PO t.S=kO t.block all/\PO t.S<=2
 |[],_,_,t,a=>by simp at a
 |u::l,hl,h,t,a=>by
  simp only[iU]at h
  split at h
  ·have:=hl u (by simp);omega
  ·rename_i b
   rcases List.mem_cons.1 a with rfl|a
   ·simp at b;exact⟨b.1,by omega⟩
   ·exact CM all l (fun u c=>hl u (x1 _ c)) h t a
def GB{p q:MV->Bool}(h:∀s,p s=C->q s=C):∀l,NA p l<=NA q l
 |[]=>by simp[NA]
 |s::l=>by
  have:=GB h l;simp only[NA];by_cases hp:p s=C
  ·rw[if_pos hp,if_pos (h s hp)];omega
  ·rw[if_neg hp];split<;>omega
def Bu:∀l:List MV,(U l:Int)=NA nE l+NA iE l
 |[]=>by simp[NA]
 |s::l=>by
  have:=Bu l;simp only[NA,nE,iE,x4];by_cases h:s.B=11
  ·simp[h];omega
  ·simp[h];omega
structure KerIs(ts:List NB):Prop where
 ne:ts≠[]
 few:U ts<=4
 len:∀t∈ts,U t.S<=16
 ok:∀t∈ts,∀s∈t.S,QK s
 le:∀t∈ts,NA nE t.S<=8
 br:∀t∈ts,PO t.S<=2
 rd:NY OE ts<=4
 wr:NY OD ts<=3
 sc:NY OO ts<=3
def TE(h:(PK l).2.1=0):KerIs (PK l).1:=by
 obtain⟨i,o,q,e,u,j,k⟩:=TD h;obtain⟨f,c,y,z,A⟩:=T8 e;obtain⟨m,n,x⟩:=VE l e;have a:Cn (OX Rd.zero (ND 10 l).dropLast).1:=Bt _ _ _ f ⟨by simp[Rd.zero],by simp[Rd.zero],by simp[Rd.zero],by simp[Rd.zero],by simp[Rd.zero],by simp[Rd.zero]⟩;have d:=Bs (G:=QK) (fun st l v h=>h) (fun ws st h=>T5 h) _ _ _ f (fun t b=>by simp[Rd.zero]at b);have g:=CM (cS l).1 (cS l).1 (by rw[c];exact a.ln) j;simp only[jQ,Bool.or_eq_false_iff,decide_eq_false_iff_not]at k;rw[i];exact⟨m,n,fun t b=>by
  rw[c]at b;have e1:=a.en t b;have e2:=a.le t b;have e3:=Bu t.S;have e4:NA iB t.S<=NA nE t.S:=GB fun s hs=>by simp only[iB,nE]at *;rw[beq_iff_eq]at hs;rw[hs];decide _;omega,by rw[c];exact d,by rw[c];exact a.le,fun t b=>(g t b).2,by omega,by omega,by omega⟩
end P
namespace Q
def QV(s:MV):Bool:=s.B==2||s.B==3
def Bv(m:Et)(d v:Int)(s:Nat):(m.aJ d v s).E=m.E:=by unfold Et.aJ;split<;>rfl
def LQ(m:Et)(d:Int)(r:Nat):(m.aZ d r).E=m.E:=Bv _ _ _ _
def KU(m:Et)(d v:Int)(s:Nat):(m.aJ d v s).g.length=U m.g:=by unfold Et.aJ;split<;>simp
def vA(m:Et)(st:MV):List Ev :=
 if st.B==0 then[{m.V 0 st with value:=(m.Y%4:Nat)}]
 else if st.B==1 then[{m.V 1 st with value:=m.value st.a,h:=m.A|||m.Ea st.a}]
 else if st.B==2 then[{m.V 0 st with value:=(m.Y%4:Nat)},{m.V 1 st with value:=(m.value st.a+(m.read st).aU (U m.E))%4,h:=m.A|||(m.Ea st.a|||bW (U m.E:Nat))}]
 else if st.B==3 then[{m.V 0 st with value:=(m.Y%4:Nat)},{m.V 1 st with value:=m.value st.a,h:=m.A|||m.Ea st.a}]
 else if st.B==4 then[m.V 2 st]
 else if st.B==5 then[m.V 3 st,m.V 4 st]
 else[]
def T9(m:Et)(st:MV):(m.bO st).E=m.E++vA m st:=by
 unfold Et.bO vA;by_cases h0:(st.B==0)=C
 ·rw[if_pos h0,if_pos h0,LQ];rfl
 rw[if_neg h0,if_neg h0];by_cases h1:(st.B==1)=C
 ·rw[if_pos h1,if_pos h1];rfl
 rw[if_neg h1,if_neg h1];by_cases h2:(st.B==2)=C
 ·rw[if_pos (by rw[h2];rfl),if_pos h2];unfold Et.step;rw[if_pos h2,LQ];show m.E++[_]++[_]=_;rw[xb];rfl
 rw[if_neg h2];by_cases h3:(st.B==3)=C
 ·rw[if_pos (by rw[h3];simp),if_pos h3];unfold Et.step;rw[if_neg h2,LQ];show m.E++[_]++[_]=_;rw[xb];rfl
 rw[if_neg (by simp only[Bool.not_eq_true]at h2 h3;rw[h2,h3];simp),if_neg h3];by_cases h4:(st.B==4)=C
 ·rw[if_pos h4,if_pos h4];rfl
 rw[if_neg h4,if_neg h4];by_cases h5:(st.B==5)=C
 ·rw[if_pos h5,if_pos h5];rfl
 rw[if_neg h5,if_neg h5]
 split
 ·rw[Bv];simp
 ·simp
def wM(p:Et×Nat)(st:MV):List Ev:=if p.2==0 then(if st.B==10 then[]else vA p.1 st)else[]
def Bw(p:Et×Nat)(st:MV):(aK p st).1.E=p.1.E++wM p st:=by
 unfold aK wM
 split
 ·split
  ·simp[Et.bY]
  ·exact T9 _ _
 ·split
  ·simp
  ·split<;>simp
def Ua(m:Et)(st:MV):((vA m st).length:Int)<=(if nE st then 1 else 0)+((if QV st then 1 else 0)+if st.B==5 then 1 else 0):=by
 unfold vA nE QV;by_cases h0:st.B=0
 ·simp[h0]
 by_cases h1:st.B=1
 ·simp[h1]
 by_cases h2:st.B=2
 ·simp[h2]
 by_cases h3:st.B=3
 ·simp[h3]
 by_cases h4:st.B=4
 ·simp[h4]
 by_cases h5:st.B=5
 ·simp[h5]
 simp[h0,h1,h2,h3,h4,h5]
 split<;>omega
def Ub(p:Et×Nat)(st:MV):((wM p st).length:Int)<=(if nE st then 1 else 0)+((if QV st then 1 else 0)+if st.B==5 then 1 else 0):=by
 have:=Ua p.1 st;have a:(0:Int)<=(if nE st then 1 else 0)+((if QV st then 1 else 0)+if st.B==5 then 1 else 0):=by
  (repeat' split)<;>omega
 unfold wM
 split
 ·split
  ·simpa using a
  ·exact this
 ·simpa using a
def Uc(m:Et)(st:MV):(((vA m st).filter OY).length:Int)<=if P.OO st then 1 else 0:=by
 unfold vA P.OO;by_cases h0:st.B=0
 ·simp[h0,OY,Et.V]
 by_cases h1:st.B=1
 ·simp[h1,OY,Et.V]
 by_cases h2:st.B=2
 ·simp[h2,OY,Et.V]
 by_cases h3:st.B=3
 ·simp[h3,OY,Et.V]
 by_cases h4:st.B=4
 ·by_cases h5:st.q=5
  ·simp[h4,h5,OY,Et.V]
  ·simp[h4,h5,OY,Et.V]
 by_cases h5:st.B=5
 ·simp[h5,OY,Et.V]
 simp[h0,h1,h2,h3,h4,h5]
def Ud(p:Et×Nat)(st:MV):(((wM p st).filter OY).length:Int)<=if P.OO st then 1 else 0:=by
 have:=Uc p.1 st;have a:(0:Int)<=if P.OO st then 1 else 0:=by split<;>omega
 unfold wM
 split
 ·split
  ·simpa using a
  ·exact this
 ·simpa using a
def Bx:∀(a:List MV) (p:Et×Nat),((a.foldl aK p).1.E.length:Int)<=U p.1.E+(P.NA nE a+(P.NA QV a+PO a))
 |[],p=>by simp[P.NA,PO]
 |s::a,p=>by
  rw[x2];have b:=Bx a (aK p s);have c:=Ub p s;rw[Bw,x5]at b;simp only[P.NA,PO];push_cast at b;omega
def Bz:∀(a:List MV) (p:Et×Nat),(((a.foldl aK p).1.E.filter OY).length:Int)<=(p.1.E.filter OY).length+P.NA P.OO a
 |[],p=>by simp[P.NA]
 |s::a,p=>by
  rw[x2];have b:=Bz a (aK p s);have c:=Ud p s;rw[Bw,xc,x5]at b;simp only[P.NA];push_cast at b;omega
def B7:∀(a:List MV) (p:Et×Nat) (n:Nat),(∀s∈a,QK s)->p.1.Ok n->(a.foldl aK p).1.Ok (n+U a)
 |[],p,n,_,h=>h
 |s::a,p,n,hs,h=>by
  rw[x2,x4,show n+(U a+1)=n+1+U a by omega];exact B7 a _ _ (fun x b=>hs x (x1 _ b)) (ZO h (hs s (by simp)))
def Ue(m:Et)(st:MV):(m.bO st).g.length=U m.g:=by
 unfold Et.bO Et.aZ Et.step Et.aZ
 split
 ·rw[KU];rfl
 split
 ·rfl
 split
 ·rw[KU];split<;>rfl
 split
 ·rfl
 split
 ·rfl
 split
 ·rw[KU]
 ·rfl
def Uf(p:Et×Nat)(st:MV):(aK p st).1.g.length=U p.1.g:=by
 unfold aK
 split
 ·split
  ·rfl
  ·exact Ue _ _
 ·split
  ·rfl
  ·split<;>rfl
def B8:∀(a:List MV) (p:Et×Nat),(a.foldl aK p).1.g.length=U p.1.g
 |[],p=>Z
 |s::a,p=>by rw[x2,B8 a,Uf]
structure RunOk(r:Run)(t:NB):Prop where
 g:U r.g=4
 vals:∀x∈r.g,0<=x/\x<4
 K:∀e∈r.E,0<=e.value/\e.value<4/\e.h<OW
 len:(U r.E:Int)<=P.NA nE t.S+(P.NA QV t.S+PO t.S)
 sc:((r.E.filter OY).length:Int)<=P.NA P.OO t.S
def Ca:∀(a:List MV) (c:Nat),((a.foldl (fun c st=>if P.aX st.B then c*4 else c) c:Nat):Int)=c*4^(P.NA P.OE a).toNat
 |[],c=>by simp[P.NA]
 |s::a,c=>by
  rw[x2,Ca a];have b:=(oZ P.OE a).1;simp only[P.NA];have e:P.OE s=P.aX s.B:=Z;rw[e]
  cases hr:P.aX s.B
  ·simp
  ·simp only[if_true];rw[show(1+P.NA P.OE a).toNat=(P.NA P.OE a).toNat+1 by omega,Int.pow_succ];push_cast;rw[Int.mul_comm (4^_) 4,Int.mul_assoc]
def KH(a:List MV):QX a=4^(P.NA P.OE a).toNat:=by
 have:=Ca a 1;unfold QX;have b:((4^(P.NA P.OE a).toNat:Nat):Int)=4^(P.NA P.OE a).toNat:=by push_cast;rfl
 rw[<- Int.natCast_inj,this,b];simp
def MB{i:Nat}(hs:∀s∈t.S,QK s)(j:QX t.S<1000000000){r:Run}(h:r∈gY t i):RunOk r t:=by
 unfold gY iS at h;obtain⟨c,a,rfl⟩:=List.mem_map.1 h;have f:c<QX t.S:=by simpa using(List.mem_filter.1 a).1
 have b:=B7 t.S (Et.start i t.block c,0) 0 hs (ZP _ _ _ (by omega));have d:=Bx t.S (Et.start i t.block c,0);have e:=Bz t.S (Et.start i t.block c,0);simp only[Et.start,List.filter_nil,List.length_nil]at d e;exact⟨B8 t.S (Et.start i t.block c,0),b.g,b.K,by simp only[kC,rV,Et.run];simp only[Et.start];push_cast at d;omega,by simp only[kC,rV,Et.run];simp only[Et.start];push_cast at e;omega⟩
structure WI(w:Wd)(E S R:Int):Prop where
 pos:0<U w.E
 len:(U w.E:Int)<=E
 sc:((w.E.filter OY).length:Int)<=S
 g:(U w.g:Int)=R
 vals:∀x∈w.g,0<=x/\x<4
 K:∀e∈w.E,0<=e.value/\e.value<4/\e.h<OW
def Ug(n:Nat)(l:List Ev):((l.map (QT n)).filter OY).length=(l.filter OY).length:=by
 rw[xd,x9];rfl
def WI.join{E S R:Int}(h:WI w E S R){r:Run}(b:RunOk r t)(k:P.NA nE t.S<=8)(m:PO t.S<=2):WI (w.join r) (E+(10+P.NA QV t.S)) (S+P.NA P.OO t.S) (R+4):=by
 have i:=h.len;have j:=h.sc;have n:=b.len;have o:=b.sc;refine⟨by have:=h.pos;simp[Wd.join];omega,by simp[Wd.join];omega,?_,by simp[Wd.join,b.g,h.g],fun x c=>?_,fun e a=>?_⟩
 ·simp only[Wd.join];rw[xc,x5,Ug];push_cast;omega
 ·simp only[Wd.join]at c
  rcases List.mem_append.1 c with c|c
  ·exact h.vals x c
  ·exact b.vals x c
 ·simp only[Wd.join]at a
  rcases List.mem_append.1 a with a|a
  ·exact h.K e a
  ·obtain⟨d,f,rfl⟩:=List.mem_map.1 a;exact⟨(b.K d f).1,(b.K d f).2.1,Gz _ _⟩
structure ThrOk(t:NB):Prop where
 ok:∀s∈t.S,QK s
 le:P.NA nE t.S<=8
 br:PO t.S<=2
 cd:QX t.S<1000000000
def Cb:∀(ts:List NB) (i:Nat) (w:Wd) (a:List Int) (E S R:Int),(∀t∈ts,ThrOk t)->PE (PG (eF i ts)) a->WI w E S R->WI (iL w (eF i ts) a) (E+(10*U ts+NY QV ts)) (S+NY P.OO ts) (R+4*U ts)
 |[],i,w,a,E,S,R,ht,hd,h=>by
  cases a with
  |nil=>simpa[eF,iL,NY]using h
  |cons d a=>simp[eF,PG,PE]at hd
 |t::ts,i,w,a,E,S,R,ht,hd,h=>by
  cases a with
  |nil=>simp[eF,PG,PE]at hd
  |cons d a =>
   simp only[eF,PG,xa,PE]at hd;have b:d.toNat<(gY t i).length:=by omega
   simp only[eF,iL];rw[dif_pos b];have c:=ht t (by simp);simp only[NY,x4];rw[show E+(10*((U ts+1:Nat):Int)+(P.NA QV t.S+NY QV ts))=E+(10+P.NA QV t.S)+(10*U ts+NY QV ts)by push_cast;omega,show S+(P.NA P.OO t.S+NY P.OO ts)=S+P.NA P.OO t.S+NY P.OO ts by omega,show R+4*((U ts+1:Nat):Int)=R+4+4*U ts by push_cast;omega];exact Cb ts (i+1) _ a _ _ _ (fun u e=>ht u (x1 _ e)) hd.2.2 (h.join (MB c.ok c.cd (List.getElem_mem b)) c.le c.br)
def Cc:WI ⟨QF,[]⟩ 3 0 0:=by
 refine⟨by decide,by decide,by decide,by decide,fun x b=>by simp at b,fun e a=>?_⟩;simp only[QF,List.mem_cons,xe,or_false]at a
 rcases a with rfl|rfl|rfl<;>exact⟨by decide,by decide,by decide⟩
def GK{p q:MV->Bool}(h:∀s,p s=C->q s=C):∀l,NY p l<=NY q l
 |[]=>by simp[NY]
 |t::l=>by
  have a:=GB h t.S;have b:=GK h l;simp only[NY];omega
def CO{p:MV->Bool}:∀{l:List NB} {t:NB},t∈l->P.NA p t.S<=NY p l
 |u::l,t,h=>by
  have a:0<=NY p l:=by
   clear h
   induction l with
   |nil=>simp[NY]
   |cons v l ih=>simp only[NY];have:=(oZ p v.S).1;omega
  simp only[NY]
  rcases List.mem_cons.1 h with rfl|h
  ·omega
  ·have:=CO (p:=p) h;have:=(oZ p u.S).1;omega
def EZ(h:KerIs ts):∀t∈ts,ThrOk t:=fun t a=>by
 refine⟨h.ok t a,h.le t a,h.br t a,?_⟩;rw[KH];have b:=CO (p:=P.OE) a;have c:=h.rd;exact x6 (x8 (by omega) (by omega:(P.NA P.OE t.S).toNat<=4)) (by decide)
def SZ(h:KerIs ts){d:List Int}(b:PE (PG (NJ ts)) d):WI (NV (NJ ts) d) 46 3 (4*U ts):=by
 have a:=Cb ts 0 _ d _ _ _ (EZ h) b Cc;have c:NY QV ts<=NY P.OD ts:=GK fun s hs=>by
  simp only[QV,P.OD,lV]at *
  rcases Bool.or_eq_true _ _▸hs with hs|hs<;>rw[hs]<;>simp ts
 have e:=h.wr;have f:=h.few;have i:=h.sc;exact⟨a.pos,Int.le_trans a.len (by omega),Int.le_trans a.sc (by omega),by have:=a.g;rw[Int.zero_add]at this;exact this,a.vals,a.K⟩
def Cd:∀(b:Int) (a:List Int),(OJ (b::a)).length=(OJ a).length*b.toNat:=by
 intro b a;simp only[OJ]
 induction OJ a with
 |nil=>simp
 |cons r l ih=>rw[xg,x5,ih,x4,Nat.add_mul];simp;omega
def Ce(g:Nat->Int)(p:Nat->Bool)(c:Nat)(d:0<c):∀(L:List Nat),(∀i∈L,g i<=c/\(p i=false->g i=1))->(OJ (L.map g)).length<=c^(L.filter p).length
 |[],_=>by simp[OJ]
 |i::L,h=>by
  rw[xa,Cd];have a:=Ce g p c d L fun j e=>h j (x1 _ e);have b:=h i (by simp);rw[List.filter_cons]
  cases hp:p i
  ·simp only[Bool.false_eq_true,if_false];rw[b.2 hp];simpa using a
  ·simp only[if_true,x4];rw[Nat.pow_succ];exact Nat.mul_le_mul a (by omega)
def Cf(p:Ev->Bool)(a:List Ev)(i:Nat)(h:i<=U a):((xW i).filter fun k=>p (ev a k)).length<=(a.filter p).length:=by
 have c:(xW (U a)).map (ev a)=a:=by
  refine List.ext_getElem (by simp) fun k e b=>?_
  simp only[List.getElem_map,List.getElem_range,ev];simp[List.getD,xh b]
 have d:(a.filter p).length=((xW (U a)).filter fun k=>p (ev a k)).length:=by
  conv=>lhs;rw[<- c]
  rw[xd,x9];rfl
 rw[d];exact List.Sublist.length_le (List.Sublist.filter _ (List.range_sublist.2 h))
def Uh{a:List Ev}(h:(a.filter OY).length<=3):(OJ (OR a (RY a))).length<=64:=by
 unfold OR;have m:(RY a).length=U a:=by simp[RY]
 have f:∀k,k<U a->(RY a).getD k (-1)=if OY (ev a k)then 0 else -1:=fun k c=>by
  simp[RY,ev,List.getD,xh c]
 have g:=Ce (lX a (RY a)) (fun i=>OY (ev a i)) 4 (by omega) (xW (RY a).length) fun i d=>by
  have d:i<U a:=by simpa[m]using d
  have b:(xW i).filter (jL a (RY a) i)=(xW i).filter fun k=>OY (ev a i)&&(OY (ev a k)&&(ev a k).j != -1):=by
   refine xi fun k c=>?_
   have c:k<i:=by simpa using c
   unfold jL;rw[f i d,f k (by omega)]
   cases OY (ev a i)<;>cases OY (ev a k)<;>simp
  have n:((xW i).filter (jL a (RY a) i)).length<=(a.filter OY).length:=by
   rw[b];refine x3 ?_ (Cf OY a i (by omega));refine List.Sublist.length_le ?_;rw[show(xW i).filter (fun k=>OY (ev a i)&&(OY (ev a k)&&(ev a k).j != -1))=((xW i).filter fun k=>OY (ev a k)).filter fun k=>OY (ev a i)&&(ev a k).j != -1 by rw[List.filter_filter];exact xi fun k _=>by cases OY (ev a i)<;>cases OY (ev a k)<;>simp];exact List.filter_sublist
  refine⟨by unfold lX;omega,fun e=>?_⟩;have e:OY (ev a i)=false:=e;unfold lX;rw[b,e,show(xW i).filter (fun k=>false&&(OY (ev a k)&&(ev a k).j != -1))=[]from List.filter_eq_nil_iff.2 fun _ _=>by simp];rfl
 refine x3 g ?_;exact x3 (x8 (by omega) (x3 (Cf OY a _ (by omega)) h)) (by decide)
def TF{R:Int}(h:WI w 46 3 R)(b:R<100):WdOk w :=
 ⟨h.pos,by have:=h.len;omega,fun e a=>(h.K e a).2.2,by have:=h.g;omega,h.vals,fun e a=>⟨(h.K e a).1,(h.K e a).2.1⟩,x6 (Uh (by have:=h.sc;omega)) (by decide)⟩
def LT:∀{ts:List NB} {i:Nat} {a:List Run},a∈eF i ts->∃t∈ts,∃k,a=gY t k
 |t::ts,i,a,h=>by
  simp only[eF]at h
  rcases List.mem_cons.1 h with rfl|h
  ·exact⟨t,by simp,i,Z⟩
  ·obtain⟨u,b,k,e⟩:=LT h;exact⟨u,x1 _ b,k,e⟩
def Cg(t:NB)(i:Nat):(gY t i).length<=QX t.S:=by
 unfold gY iS;rw[x9];exact x3 (List.length_filter_le _ _) (by simp)
def Ui(h:KerIs ts):KerOk ts:=by
 have c:=EZ h;have s:=h.few;have f:∀t∈ts,QX t.S<=256:=fun t a=>by
  rw[KH];have o:=CO (p:=P.OE) a;have q:=h.rd;exact x3 (x8 (by omega) (by omega:(P.NA P.OE t.S).toNat<=4)) (by decide)
 refine⟨by omega,fun t a=>⟨(c t a).ok,?_,x6 (f t a) (by decide)⟩,fun n b=>?_,fun n b r m=>?_,fun d i=>TF (SZ h i) (by omega)⟩
 ·exact x6 (h.len t a) (by decide)
 ·obtain⟨t,a,k,rfl⟩:=LT b;exact x6 (x3 (Cg t k) (f t a)) (by decide)
 ·obtain⟨t,a,k,rfl⟩:=LT b;have:=MB (c t a).ok (c t a).cd m;exact⟨this.g,fun e j=>(this.K e j).2.2⟩
def GV{α:Type}(F:PA->α->PA)(c:α->List Int->Prop)(d:∀a x r,r∈(F a x).y↔r∈a.y\/c x r)(r:List Int):∀(l:List α) (a:PA),r∈(l.foldl F a).y↔r∈a.y\/∃x∈l,c x r
 |[],a=>by simp
 |x::l,a=>by
  rw[x2,GV F c d r l,d];constructor
  ·rintro((h|h)|⟨y,b,h⟩)
   ·exact xF h
   ·exact xR ⟨x,by simp,h⟩
   ·exact xR ⟨y,x1 _ b,h⟩
  ·rintro(h|⟨y,b,h⟩)
   ·exact xF (xF h)
   ·rcases List.mem_cons.1 b with rfl|b
    ·exact xF (xR h)
    ·exact xR ⟨y,b,h⟩
def GU{α:Type}(F:PA->α->PA)(c:α->Prop)(d:∀a x,(F a x).clash=C↔a.clash=C\/c x):∀(l:List α) (a:PA),(l.foldl F a).clash=C↔a.clash=C\/∃x∈l,c x
 |[],a=>by simp
 |x::l,a=>by
  rw[x2,GU F c d l,d];constructor
  ·rintro((h|h)|⟨y,b,h⟩)
   ·exact xF h
   ·exact xR ⟨x,by simp,h⟩
   ·exact xR ⟨y,x1 _ b,h⟩
  ·rintro(h|⟨y,b,h⟩)
   ·exact xF (xF h)
   ·rcases List.mem_cons.1 b with rfl|b
    ·exact xF (xR h)
    ·exact xR ⟨y,b,h⟩
def EP(w:Wd):List (List Int):=OJ (OR w.E (aN w.E))
def vG(w:Wd)(ds:List Int):List Int:=eA (aN w.E) ds
def sS(c:Cand)(ds:List Int):Bool:=c.F.fX c.D (c.F.MY c.D) (vG c.wd ds)
def TG(ts:List NB)(r:List Int):r∈(QJ ts).y↔∃c∈wR ts,∃d∈EP c.wd,sS c d=C/\r=RE c.wd (vG c.wd d):=by
 unfold QJ;rw[GV mM (fun c r=>∃d∈EP c.wd,sS c d=C/\r=RE c.wd (vG c.wd d)) ?_ r]
 ·simp
 ·intro a c r;unfold mM uX;rw[GV (kP c.wd c.F c.D (c.F.MY c.D)) (fun d r=>sS c d=C/\r=RE c.wd (vG c.wd d)) ?_ r]
  ·rfl
  ·intro a d r;unfold kP sS vG
   split
   ·rename_i h;rw[FC];constructor
    ·rintro(b|b)
     ·exact xR ⟨h,b⟩
     ·exact xF b
    ·rintro(b|b)
     ·exact xR b
     ·exact xF b.2
   ·rename_i h;constructor
    ·exact xF
    ·rintro(b|b)
     ·exact b
     ·exact absurd b.1 h
def Uj(ts:List NB):(QJ ts).clash=C↔∃c∈wR ts,∃b∈EP c.wd,sS c b=C/\c.F.bU (c.F.MY c.D)=C:=by
 unfold QJ;rw[GU mM (fun c=>∃b∈EP c.wd,sS c b=C/\c.F.bU (c.F.MY c.D)=C) ?_]
 ·simp
 ·intro a c;unfold mM uX;rw[GU (kP c.wd c.F c.D (c.F.MY c.D)) (fun b=>sS c b=C/\c.F.bU (c.F.MY c.D)=C) ?_]
  ·rfl
  ·intro a b;unfold kP sS vG
   split
   ·rename_i h
    cases a.clash<;>simp[h]
   ·rename_i h;simp[h]
def KY{α:Type}(F:PA->α->PA)(b:∀a x,QB a.y->QB (F a x).y):∀(l:List α) (a:PA),QB a.y->QB (l.foldl F a).y
 |[],a,h=>h
 |x::l,a,h=>by rw[x2];exact KY F b l _ (b a x h)
def Ch(ts:List NB):QB (QJ ts).y:=by
 refine KY _ (fun a c h=>?_) _ _ List.Pairwise.nil;refine KY _ (fun a b h=>?_) _ _ h;unfold kP
 split
 ·exact CQ h
 ·exact h
def SP{c:Cand}:c∈wR ts↔∃d∈OJ (PG (NJ ts)),∃b∈OJ (PN (NC (NV (NJ ts) d).E)),c=⟨NV (NJ ts) d,NH (NV (NJ ts) d).E,(NH (NV (NJ ts) d).E).D (eW (NC (NV (NJ ts) d).E) b)⟩/\c.F.cH c.D=false:=by
 unfold wR zC;simp only[xj,List.mem_filter,List.mem_map,Bool.not_eq_true'];constructor
 ·rintro⟨d,e,⟨⟨b,a,rfl⟩,h⟩⟩;exact⟨d,e,b,a,Z,h⟩
 ·rintro⟨d,e,b,a,rfl,h⟩;exact⟨d,e,⟨⟨b,a,Z⟩,h⟩⟩
def Ci{α:Type}[DecidableEq α]:∀(l m:List α),l.Nodup->(∀x∈l,x∈m)->U l<=U m
 |[],m,_,_=>by simp
 |x::l,m,h,hs=>by
  have a:=hs x (by simp);have c:=Ci l (m.erase x) (List.nodup_cons.1 h).2 fun y b=>(List.mem_erase_of_ne fun e:y=x=>(List.nodup_cons.1 h).1 (by rw[<- e];exact b)).2 (hs y (x1 _ b));have d:=List.length_erase_of_mem a;have f:=List.length_pos_of_mem a;simp only[x4];omega
def Uk{l:List (List Int)}(h:QB l):l.Nodup:=by
 refine List.Pairwise.imp ?_ h;intro a b c e;rw[e,tE]at c;omega
def Cj:∀(ts:List NB) (i:Nat),(OJ (PG (eF i ts))).length<=4^(NY P.OE ts).toNat
 |[],i=>by simp[eF,PG,OJ,NY]
 |t::ts,i=>by
  simp only[eF,PG,xa];rw[Cd];have a:=Cj ts (i+1);have b:=Cg t i;rw[KH]at b;have d:=(oZ P.OE t.S).1;have c:0<=NY P.OE ts:=by
   clear a
   induction ts with
   |nil=>simp[NY]
   |cons v l ih=>simp only[NY];have:=(oZ P.OE v.S).1;omega
  simp only[NY];rw[show(P.NA P.OE t.S+NY P.OE ts).toNat=(NY P.OE ts).toNat+(P.NA P.OE t.S).toNat by omega,Nat.pow_add];exact Nat.mul_le_mul a (by simpa using b)
def vP:List Int:=[0,1,2,3]
def MA{x:Int}(h:0<=x/\x<4):x∈vP:=by
 simp only[vP,List.mem_cons,xe,or_false];omega
def EC(ts:List NB):List (List Int):=(OJ (PG (NJ ts))).flatMap fun d=>vP.flatMap fun a=>vP.flatMap fun b=>vP.map fun c=>(NV (NJ ts) d).g++[a,b,c]
def BI{α β:Type}(f:α->List β)(n:Nat)(h:∀a,(f a).length=n):∀l:List α,(l.flatMap f).length=U l*n
 |[]=>by simp
 |a::l=>by rw[xg,x5,BI f n h l,h,x4,Nat.succ_mul];omega
def Ul(ts:List NB):(EC ts).length=(OJ (PG (NJ ts))).length*64:=by
 unfold EC;refine BI _ _ (fun d=>?_) _;rw[BI _ 16 fun a=>?_]
 ·rfl
 ·rw[BI _ 4 fun b=>?_]
  ·rfl
  ·simp[vP]
def SI:∀{c a:List Int},a∈OJ c->PE c a
 |[],a,h=>by simp[OJ]at h;rw[h];trivial
 |b::c,a,h=>by
  simp only[OJ,xj,List.mem_map,List.mem_range]at h;obtain⟨r,e,d,f,rfl⟩:=h;exact⟨by omega,by omega,SI e⟩
def Ck(h:KerIs ts):(QJ ts).y.length<100000000:=by
 have f:(QJ ts).y.length<=(EC ts).length:=by
  refine Ci _ _ (Uk (Ch ts)) fun r m=>?_;obtain⟨c,j,e,k,_,rfl⟩:=(TG ts r).1 m;obtain⟨d,b,s,n,rfl,_⟩:=SP.1 j;have o:=TF (SZ h (SI b)) (by have:=h.few;omega);unfold EC;refine List.mem_flatMap.2 ⟨d,b,?_⟩;have a:=fun v=>Ae (NV (NJ ts) d).E v (vG (NV (NJ ts) d) e) o.evals
  exact List.mem_flatMap.2 ⟨_,MA (a 0),List.mem_flatMap.2 ⟨_,MA (a 1),List.mem_map.2 ⟨_,MA (a 2),Z⟩⟩⟩
 have g:=Cj ts 0;have i:4^(NY P.OE ts).toNat<=4^4:=x8 (by omega) (by have:=h.rd;omega);have q:(OJ (PG (NJ ts))).length<=256:=x3 g i;rw[Ul]at f;omega
end Q
def Um(s:ByteArray)(w:World)(hs:s.size<=8192)(a:(PK s.toList).2.1=0):
  Calls prog 9 #[.string s] w fun e b=>∃ov vs,e=.returned (.tuple #[ov,.bool (QJ (PK s.toList).1).clash,.int .i64 0,.int .i64 0])/\HandO w.heap.size b ov (QJ (PK s.toList).1).y vs/\Below w.heap.size w b :=
 Rf s w hs a (TD a).2.1 (Ui (TE a)) (Ck (TE a))
