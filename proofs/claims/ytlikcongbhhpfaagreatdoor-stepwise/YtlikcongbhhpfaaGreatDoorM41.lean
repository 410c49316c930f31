import Derived.Test.YtlikcongbhhpfaaGreatDoorM40
set_option linter.unusedVariables false
set_option linter.unusedSimpArgs false
set_option maxHeartbeats 12800000
namespace Go.Proofs.YtlikcongbhhpfaaGreatDoor
open Go Go.RowKit Go.Proofs.Tryz P Q
set_option maxRecDepth 1000000
variable {α:Type}{i j k now v:Nat}{m:Ex}{st:JR}{p:Ex × Nat}{t:JV}
open List renaming length->C
open List renaming length_append->xF,getD_eq_getElem?_getD->xW,length_map->x0,foldl_append->x1,length_cons->x2,append_assoc->x3
open Bool renaming false_eq_true->xR,or_eq_true->x4
open Nat renaming lt_of_lt_of_le->x5,add_sub_cancel_left->x6
namespace Q
section
variable {k:Int}{m:Ex}{s t:P.JR}
end
structure StL(s t:JR):Prop where
 eq:t={s with i:=t.i,label:=t.label}
def PB:List JR->List JR->Prop
 |[],[]=>True
 |a::x,b::y=>StL a b/\PB x y
 |_,_=>False
structure ThL(t t':JV):Prop where
 block:t'.block=t.block
 sts:PB t.S t'.S
def OD(o:Nat):List (List Ev)->List Ev
 |[]=>[]
 |p::ps=>p.map (OO o)++OD (o+C p) ps
def NB:List (List Ev)->Nat->Nat
 |_,0=>0
 |[],_+1=>0
 |p::ps,i+1=>C p+NB ps i
def mB:List (List Ev)->Nat->Nat×Nat
 |[],_=>(0,0)
 |p::ps,m=>if m<C p then(0,m)else((mB ps (m-C p)).1+1,(mB ps (m-C p)).2)
theorem Co(o:Nat):∀a:List (List Ev),(OD o a).length=NB a (C a):=by
 intro a
 induction a generalizing o with
 |nil=>rfl
 |cons p a ih=>rw[OD,xF,x0,ih,x2,NB]
theorem Cp:∀(a:List (List Ev)) (o i l:Nat),l<(a.getD i []).length->ev (OD o a) (NB a i+l)=OO (o+NB a i) (ev (a.getD i []) l)
 |[],o,i,l,h=>by simp at h
 |p::a,o,0,l,h=>by
  have b:l<C p:=by simpa using h
  rw[OD,NB,Nat.zero_add,Nat.add_zero,PF,if_pos (by simpa using b),QG,if_pos b];rfl
 |p::a,o,i+1,l,h=>by
  rw[OD,NB,PF,if_neg (by simp;omega),x0,show C p+NB a i+l-C p=NB a i+l by omega,Cp a (o+C p) i l (by simpa using h)];have e:(p::a).getD (i+1) []=a.getD i []:=by simp
  rw[e,show o+C p+NB a i=o+(C p+NB a i)by omega]
theorem EM:∀(a:List (List Ev)) (i:Nat),i<C a->NB a (i+1)=NB a i+(a.getD i []).length
 |[],i,h=>by simp at h
 |p::a,0,_=>by simp[NB]
 |p::a,i+1,h=>by
  rw[NB,NB,EM a i (by simpa using h)];have e:(p::a).getD (i+1) []=a.getD i []:=by simp
  rw[e];omega
theorem yF(a:List (List Ev)):∀(i k:Nat),i<k->k<=C a->NB a i+(a.getD i []).length<=NB a k:=by
 intro i k h b
 induction k with
 |zero=>omega
 |succ k ih =>
  by_cases c:i=k
  ·rw[c,EM a k (by omega)];omega
  ·have:=ih (by omega) (by omega);rw[EM a k (by omega)];omega
theorem DJ:∀(a:List (List Ev)) (m:Nat),m<NB a (C a)->(mB a m).1<C a/\(mB a m).2<(a.getD (mB a m).1 []).length/\m=NB a (mB a m).1+(mB a m).2
 |[],m,h=>by simp[NB]at h
 |p::a,m,h=>by
  rw[x2,NB]at h;rw[mB];by_cases c:m<C p
  ·rw[if_pos c];exact⟨by simp,by simpa using c,by simp[NB]⟩
  ·rw[if_neg c];obtain⟨d,b,e⟩:=DJ a (m-C p) (by omega);refine⟨by simp;omega,by simpa using b,?_⟩;rw[NB];omega
theorem Sv(d:List (List Ev))(i l:Nat)(n:i<C d)(r:l<(d.getD i []).length):mB d (NB d i+l)=(i,l):=by
 have o:NB d i+l<NB d (C d):=by
  have:=yF d i (C d) n (Nat.le_refl _);omega
 obtain⟨e,f,g⟩:=DJ d _ o;generalize mB d (NB d i+l)=q at e f g;obtain⟨a,b⟩:=q;simp only at e f g;by_cases c:a=i
 ·subst c;have:b=l:=by omega
  rw[this]
 ·exfalso;by_cases c2:a<i
  ·have:=yF d a i c2 (by omega);omega
  ·have:=yF d i a (by omega) (by omega);omega
theorem Cq:∀(a:List Run) (W:Wd),(a.foldl Wd.join W).E=W.E++OD (C W.E) (a.map Run.E)/\(a.foldl Wd.join W).g=W.g++(a.map Run.g).flatten
 |[],W=>⟨by simp[OD],by simp⟩
 |r::a,W=>by
  obtain⟨b,c⟩:=Cq a (W.join r);rw[List.foldl_cons];refine⟨?_,?_⟩
  ·rw[b,List.map_cons,OD];show W.E++r.E.map (OO (C W.E))++OD (W.E++r.E.map (OO (C W.E))).length _=_;rw[x3,xF,x0]
  ·rw[c,List.map_cons,List.flatten_cons];show W.g++r.g++_=_;rw[x3]
theorem tE:MX.length=3:=rfl
theorem Sw(a:List (List Ev))(i l:Nat)(h:l<(a.getD i []).length):ev (MX++OD 3 a) (3+NB a i+l)=OO (3+NB a i) (ev (a.getD i []) l):=by
 rw[PF,if_neg (by rw[tE];omega),tE,show 3+NB a i+l-3=NB a i+l by omega,Cp a 3 i l h]
theorem QM(a:List (List Ev))(i:Nat)(h:i<3):ev (MX++OD 3 a) i=NG (i:Int):=by
 rw[PF,if_pos (by rw[tE];exact h)];exact Cj.fst i h
section
variable {n:Nat}{sg:Nat->Nat}{ps ps':List (List Ev)}
end
theorem PP(l:List α)(k:Nat)(d:α)(h:k<C l):l.getD k d=l[k]:=by rw[xW,List.getElem?_eq_getElem h];rfl
theorem QA(l:List α)(k:Nat)(d:α)(h:k<C l):l.getD k d∈l:=by rw[PP l k d h];exact List.getElem_mem h
theorem Cr{β:Type}(f:α->β)(l:List α)(k:Nat)(d:α)(a:β)(h:k<C l):(l.map f).getD k a=f (l.getD k d):=by
 rw[PP l k d h,PP (l.map f) k a (by simpa using h),List.getElem_map]
def Cs:Run:=⟨[],[]⟩
def JZ:JV:=⟨0,0,[]⟩
theorem Ct:∀(a:List JV) (i k:Nat),k<C a->(dP i a).getD k []=fT (a.getD k JZ) (i+k)
 |[],_,k,h=>by simp at h
 |t::a,i,0,_=>by simp[dP]
 |t::a,i,k+1,h=>by
  have:=Ct a (i+1) k (by simpa using h);rw[show i+1+k=i+(k+1)by omega]at this;simpa[dP]using this
theorem JF:∀(a:List JV) (i:Nat),(dP i a).length=C a
 |[],_=>Z
 |t::a,i=>by simp[dP,JF a (i+1)]
def Ex.un(m:Ex)(u:Nat):Ex:={m with Y:=u}
section
variable {m:Ex}{st:P.JR}
theorem Cu(d x:Int)(s u:Nat):(m.un u).aZ d x s=(m.aZ d x s).un u:=by
 unfold Ex.aZ;split<;>rfl
theorem Sx(c:v<4)(u:Nat):(m.un (v+4*u)).aN st=((m.un v).aN st).un u:=by
 have a:(v+4*u)%4=v%4:=by omega
 have b:(v+4*u)/4=u:=by omega
 unfold Ex.aN Ex.un;simp only[a,b];rfl
theorem Sy(c:eE st.k=true)(g:v<4)(u:Nat):(m.un (v+4*u)).aW st=((m.un v).aW st).un u:=by
 have f:=Sx (m:=m) (st:=st) g u;unfold eE at c;simp only[x4,beq_iff_eq]at c;have b:∀(q:Ex) (d:Int) (r:Nat),(q.un u).aM d r=(q.aM d r).un u:=fun q d r=>Cu d _ _ u
 rcases c with(e|e)|e
 ·unfold Ex.aW;rw[e];show((m.un (v+4*u)).aN st).aM st.dest (C m.E)=(((m.un v).aN st).aM st.dest (C m.E)).un u;rw[f,b]
 ·unfold Ex.aW;rw[e];show(m.un (v+4*u)).step st=((m.un v).step st).un u;unfold Ex.step;rw[f,e];exact b (((m.un v).aN st).write st (((m.un v).value st.a+((m.un v).aN st).aI (m.un v).E.length)%4) ((m.un v).Ea st.a|||one ((m.un v).E.length:Nat))) _ _
 ·unfold Ex.aW;rw[e];show(m.un (v+4*u)).step st=((m.un v).step st).un u;unfold Ex.step;rw[f,e];exact b (((m.un v).aN st).write st ((m.un v).value st.a) ((m.un v).Ea st.a)) _ _
theorem Sz(a:eE st.k=false)(u:Nat):(m.un u).aW st=((m.un 0).aW st).un u:=by
 unfold eE at a;simp only[Bool.or_eq_false_iff]at a;obtain⟨⟨b,c⟩,d⟩:=a;unfold Ex.aW;rw[b,c,d];simp only[xR,if_false,Bool.or_self]
 split
 ·rfl
 split
 ·rfl
 split
 ·rfl
 split
 ·exact Cu (m:=m.un 0) _ _ _ u
 ·rfl
end
def aP(p:Ex×Nat)(st:JR)(v:Nat):Ex×Nat:=((aG (p.1.un v,p.2) st).1.un 0,(aG (p.1.un v,p.2) st).2)
def cW(p:Ex×Nat)(st:JR)(v:Nat):List Ev:=kD (p.1.un v,p.2) st
theorem Cv(p:Ex×Nat)(st:JR)(v:Nat):(aP p st v).1.E=p.1.E++cW p st v:=AQ (p.1.un v,p.2) st
theorem S1(b:eE st.k=true)(c:v<4)(u:Nat):aG (m.un (v+4*u),0) st=((aG (m.un v,0) st).1.un u,(aG (m.un v,0) st).2):=by
 have a:(st.k==10)=false:=by
  unfold eE at b;simp only[x4,beq_iff_eq]at b;rw[beq_eq_false_iff_ne];omega
 unfold aG;simp only[a];show((m.un (v+4*u)).aW st,0)=(((m.un v).aW st).un u,0);rw[Sy b c]
theorem Cw{d:Nat}(b:d=0->eE st.k=false)(u:Nat):aG (m.un u,d) st=((aG (m.un 0,d) st).1.un u,(aG (m.un 0,d) st).2):=by
 unfold aG;by_cases c:d=0
 ·subst c;simp only[beq_self_eq_true,if_true]
  split
  ·rfl
  ·rw[Sz (b rfl)]
 ·have a:(d==0)=false:=by simpa using c
  simp only[a,xR,if_false]
  split
  ·rfl
  ·split<;>rfl
theorem Cx(a:List JR)(st:JR):OM (a++[st])=if eE st.k then OM a*4 else OM a:=by
 unfold OM;rw[x1];rfl
def QN(i:Nat)(b:Int)(ex:List JR)(p:Ex×Nat):Prop:=∀u,∃c,c<OM ex*(u+1)/\ex.foldl aG (Ex.start i b c,0)=(p.1.un u,p.2)
theorem S2(i:Nat)(b:Int):QN i b [] (Ex.start i b 0,0):=fun u=>⟨u,by simp[OM],rfl⟩
theorem QN.step{b:Int}{n:List JR}(h:QN i b n p)(st:JR)(q:v<4):QN i b (n++[st]) (aP p st v):=by
 intro u;obtain⟨m,d⟩:=p;by_cases a:d=0/\eE st.k=true
 ·obtain⟨o,a⟩:=a;subst o;obtain⟨c,g,l⟩:=h (v+4*u);refine⟨c,?_,?_⟩
  ·rw[Cx,if_pos a];refine x5 g ?_;rw[Nat.mul_assoc];exact Nat.mul_le_mul_left _ (by omega)
  ·rw[x1,l];show aG (m.un (v+4*u),0) st=_;rw[S1 a q];rfl
 ·have f:d=0->eE st.k=false:=fun e=>by
   cases c:eE st.k
   ·rfl
   ·exact absurd ⟨e,c⟩ a
  obtain⟨c,g,l⟩:=h u;refine⟨c,?_,?_⟩
  ·refine x5 g (Nat.mul_le_mul_right _ ?_);rw[Cx]
   split<;>omega
  ·rw[x1,l];show aG (m.un u,d) st=_;unfold aP;rw[Cw f u,Cw f v];rfl
theorem QN.run(h:QN i t.block t.S p):(⟨p.1.E,p.1.g⟩:Run)∈fT t i:=by
 obtain⟨c,b,a⟩:=h 0;unfold fT fQ;have e:gQ t i c=p.1.un 0:=by unfold gQ nJ;rw[a]
 refine List.mem_map.2 ⟨c,List.mem_filter.2 ⟨List.mem_range.2 (by omega),by rw[e];rfl⟩,by rw[e];rfl⟩
def MH(m:Ex):Prop:=∀i,i<C m.E->HB i (ev m.E i).h
theorem S3(h:LO m)(st:JR):∀j,j<(gO m st).length->HB (C m.E+j) (ev (gO m st) j).h:=by
 have c:=h.ab;have d:HB (C m.E+1) m.A:=c.mono (by omega);have f:=h.Ea st.a;have g:HB (C m.E+1) (m.Ea st.a):=f.mono (by omega);unfold gO
 rcases tY st.k with e|e|e|e|e|e|⟨l,n,o,q,r,s⟩
 ·rw[e];intro j b;have:j=0:=by simpa using b
  subst this;exact c
 ·rw[e];intro j b;have:j=0:=by simpa using b
  subst this;exact c.or f
 ·rw[e];intro j b;have:j=0\/j=1:=by have:j<2:=b;omega
  rcases this with rfl|rfl
  ·exact c
  ·exact d.or (g.or (wY _))
 ·rw[e];intro j b;have:j=0\/j=1:=by have:j<2:=b;omega
  rcases this with rfl|rfl
  ·exact c
  ·exact d.or g
 ·rw[e];intro j b;have:j=0:=by simpa using b
  subst this;exact PJ _
 ·rw[e];intro j b;have:j=0\/j=1:=by have:j<2:=b;omega
  rcases this with rfl|rfl<;>exact PJ _
 ·rw[l,n,o,q,r,s];intro j b;simp at b
theorem MH.step(h:MH p.1)(a:LO p.1)(st:JR)(v:Nat):MH (aP p st v).1:=by
 intro i e;rw[Cv]at e⊢;rw[PF];by_cases c:i<C p.1.E
 ·rw[if_pos c];exact h i c
 ·rw[if_neg c];rw[xF]at e;have b:LO (p.1.un v):=⟨a.K,a.mb,a.ab,a.sr,a.sw⟩;have KP:∀j,j<(cW p st v).length->HB (C p.1.E+j) (ev (cW p st v) j).h:=by
   unfold cW kD
   split
   ·split
    ·intro j d;simp at d
    ·exact S3 b st
   ·intro j d;simp at d
  have:=KP (i-C p.1.E) (by omega);rw[show C p.1.E+(i-C p.1.E)=i by omega]at this;exact this
theorem LO.aP(a:LO p.1)(b:StV st)(v:Nat):LO (aP p st v).1:=by
 have:=LO.aGx (p:=(p.1.un v,p.2)) (⟨a.K,a.mb,a.ab,a.sr,a.sw⟩) b;exact⟨this.K,this.mb,this.ab,this.sr,this.sw⟩
theorem Ex.Ok.aP{n:Nat}(h:p.1.Ok n)(b:NZ st)(c:v<4):(aP p st v).1.Ok (n+1):=by
 have a:=IE (p:=(p.1.un v,p.2)) (⟨h.g,h.made,h.A,h.K,h.len,h.u,by show v<1000000000;omega⟩) b;exact⟨a.g,a.made,a.A,a.K,a.len,a.u,by show(0:Nat)<1000000000;omega⟩
structure Shape(L:List Ev)(x v:Int):Prop where
 len:C L<=2
 k:∀j,j<C L->0<=(ev L j).k/\(ev L j).k<3
 rd:∀j,j<C L->(ev L j).k=0->j=0/\(ev L j).z=x/\(ev L j).value=v
 wr:∀j,j<C L->(ev L j).k=1->j+1=C L/\(ev L j).z=x
 half:∀j,j<C L->(ev L j).k=1->(ev L j).step=true->j≠0
theorem DL(x v:Int):Shape [] x v:=⟨by simp,fun j a=>by simp at a,fun j a=>by simp at a,fun j a=>by simp at a,fun j a=>by simp at a⟩
theorem JH{e:Ev}{x v:Int}(c:0<=e.k/\e.k<3)(d:e.k=0->e.z=x/\e.value=v)(b:e.k=1->e.z=x/\e.step=false):Shape [e] x v:=by
 have KP:∀j,j<[e].length->j=0:=fun j a=>by simpa using a
 refine⟨by simp,fun j a=>?_,fun j a k=>?_,fun j a k=>?_,fun j a k s=>?_⟩
 ·rw[KP j a];exact c
 ·rw[KP j a]at k⊢;exact⟨Z,d k⟩
 ·rw[KP j a]at k⊢;exact⟨Z,(b k).1⟩
 ·rw[KP j a]at k s;have:=(b k).2;rw[show ev [e] 0=e from rfl,this]at s;cases s
theorem Cy{r w:Ev}{x v:Int}(b:r.k=0)(c:r.z=x/\r.value=v)(d:w.k=1)(e:w.z=x):Shape [r,w] x v:=by
 have KP:∀j,j<[r,w].length->j=0\/j=1:=fun j a=>by have:j<2:=a;omega
 refine⟨by simp,fun j a=>?_,fun j a k=>?_,fun j a k=>?_,fun j a k s=>?_⟩
 ·rcases KP j a with rfl|rfl
  ·show 0<=r.k/\r.k<3;omega
  ·show 0<=w.k/\w.k<3;omega
 ·rcases KP j a with rfl|rfl
  ·exact⟨Z,c⟩
  ·rw[show ev [r,w] 1=w from rfl,d]at k;omega
 ·rcases KP j a with rfl|rfl
  ·rw[show ev [r,w] 0=r from rfl,b]at k;omega
  ·exact⟨Z,e⟩
 ·rcases KP j a with rfl|rfl
  ·rw[show ev [r,w] 0=r from rfl,b]at k;omega
  ·omega
theorem Cz(p:Ex×Nat)(st:JR)(q:v<4)(o:¬(p.2=0/\st.k=5)):Shape (cW p st v) st.z (v:Int):=by
 have a:((v%4:Nat):Int)=(v:Int):=by omega
 unfold cW kD;by_cases c:p.2=0
 ·rw[if_pos (by simpa using c)]
  split
  ·exact DL _ _
  ·have n:st.k≠5:=fun e=>o ⟨c,e⟩
   unfold gO
   rcases tY st.k with e|e|e|e|e|e|⟨b,d,f,g,a,l⟩
   ·rw[e];exact JH ⟨by simp[Ex.V],by simp[Ex.V]⟩ (fun _=>⟨Z,a⟩) fun k=>by simp[Ex.V]at k
   ·rw[e];exact JH ⟨by simp[Ex.V],by simp[Ex.V]⟩ (fun k=>by simp[Ex.V]at k) fun _=>⟨Z,by simp[Ex.V,e]⟩
   ·rw[e];exact Cy Z ⟨Z,a⟩ Z Z
   ·rw[e];exact Cy Z ⟨Z,a⟩ Z Z
   ·rw[e];exact JH ⟨by simp[Ex.V],by simp[Ex.V]⟩ (fun k=>by simp[Ex.V]at k) fun k=>by simp[Ex.V]at k
   ·exact absurd e n
   ·rw[b,d,f,g,a,l];exact DL _ _
 ·rw[if_neg (by simpa using c)];exact DL _ _
theorem rF(p:Ex×Nat)(st:JR)(v:Nat):(aP p st v).1.j=p.1.j/\(aP p st v).1.block=p.1.block/\(aP p st v).1.u=p.1.u+if p.2=0/\st.k=5 then 1 else 0:=by
 unfold aP aG;by_cases c:p.2=0
 ·simp only[c,beq_self_eq_true,if_true,true_and];by_cases c10:st.k=10
  ·simp only[c10,beq_self_eq_true,if_true];exact⟨Z,Z,Z⟩
  ·rw[if_neg (by simpa using c10)];have b:∀(q:Ex) (d x:Int) (s:Nat),(q.aZ d x s).j=q.j/\(q.aZ d x s).block=q.block/\(q.aZ d x s).u=q.u:=fun q d x s=>by unfold Ex.aZ;split<;>exact⟨Z,Z,Z⟩
   show((p.1.un v).aW st).j=_/\((p.1.un v).aW st).block=_/\((p.1.un v).aW st).u=_;unfold Ex.aW
   rcases tY st.k with e|e|e|e|e|e|⟨l,n,o,r,y,f⟩
   ·rw[e];exact b _ _ _ _
   ·rw[e];exact⟨Z,Z,Z⟩
   ·have:=b (((p.1.un v).aN st).write st (((p.1.un v).value st.a+((p.1.un v).aN st).aI (p.1.un v).E.length)%4) ((p.1.un v).Ea st.a|||one ((p.1.un v).E.length:Nat)));rw[e];show((p.1.un v).step st).j=_/\((p.1.un v).step st).block=_/\((p.1.un v).step st).u=_;unfold Ex.step;rw[e];exact this _ _ _
   ·have:=b (((p.1.un v).aN st).write st ((p.1.un v).value st.a) ((p.1.un v).Ea st.a));rw[e];show((p.1.un v).step st).j=_/\((p.1.un v).step st).block=_/\((p.1.un v).step st).u=_;unfold Ex.step;rw[e];exact this _ _ _
   ·rw[e];exact⟨Z,Z,Z⟩
   ·rw[e];exact⟨Z,Z,Z⟩
   ·have z:st.k≠5:=by simpa using f
    rw[l,n,o,r,y,f,if_neg z];simp only[xR,if_false,Bool.or_self]
    split
    ·exact b _ _ _ _
    ·exact⟨Z,Z,Z⟩
 ·have g:(p.2==0)=false:=by simpa using c
  simp only[g,xR,if_false,c,false_and,Nat.add_zero]
  split
  ·exact⟨Z,Z,Z⟩
  ·split<;>exact⟨Z,Z,Z⟩
theorem Da(m:Ex)(st:JR)(v:Nat)(h:st.k=5):cW (m,0) st v=[(m.un v).V 3 st,(m.un v).V 4 st]:=by
 unfold cW kD gO;rw[h];rfl
structure GT where
 p:Ex×Nat
 ex:List JR
 rest:List JR
 tm:List Nat
def GT.T(x:GT)(j:Nat):Nat:=x.tm.getD j 0
def GT.es(x:GT):List Ev:=x.p.1.E
def GT.bQ(x:GT)(st:JR)(now v:Nat):GT:=⟨aP x.p st v,x.ex++[st],x.rest.tail,x.tm++(List.range (cW x.p st v).length).map fun j=>now+j⟩
structure WF(t:JV):Prop where
 ends:∀a b,t.S=a++b->JU iE a<=JU iB a
 bar:∀a st b,t.S=a++st::b->st.k=5->JU iB a=JU iE a
 z:∀s∈t.S,StV s
 ok:∀s∈t.S,NZ s
structure TInv(t:JV)(k now:Nat)(x:GT):Prop where
 sp:x.ex++x.rest=t.S
 cod:QN k t.block x.ex x.p
 mi:LO x.p.1
 mh:MH x.p.1
 ok:∃N,x.p.1.Ok N
 thr:x.p.1.j=(k:Int)
 blk:x.p.1.block=t.block
 dep:(x.p.2:Int)<=JU iB x.ex-JU iE x.ex
 brs:(x.p.1.u:Int)=LF x.ex
 len:C x.tm=C x.es
 lo:∀j,j<C x.es->3<=x.T j/\x.T j<now
 inc:∀i j,i<j->j<C x.es->x.T i<x.T j
 half:∀j,j+1<C x.es->(ev x.es (j+1)).k=1->(ev x.es (j+1)).step=true->x.T (j+1)=x.T j+1
 knd:∀j,j<C x.es->0<=(ev x.es j).k
theorem TInv.JT{a:Nat}{x:GT}(h:TInv t k now x)(e:now<=a):TInv t k a x :=
 ⟨h.sp,h.cod,h.mi,h.mh,h.ok,h.thr,h.blk,h.dep,h.brs,h.len,fun j b=>by have:=h.lo j b;omega,h.inc,h.half,h.knd⟩
theorem zH(x:GT)(st:JR)(now v:Nat):(x.bQ st now v).es=x.es++cW x.p st v:=Cv x.p st v
theorem pO{x:GT}(b:C x.tm=C x.es)(st:JR)(now v:Nat)(a:j<C x.es):ev (x.bQ st now v).es j=ev x.es j/\(x.bQ st now v).T j=x.T j:=by
 refine⟨by rw[zH,PF,if_pos a],?_⟩;unfold GT.T GT.bQ;simp only;rw[xW,List.getElem?_append_left (by omega),xW]
theorem tQ{x:GT}(b:C x.tm=C x.es)(st:JR)(now v:Nat)(a:j<(cW x.p st v).length):ev (x.bQ st now v).es (C x.es+j)=ev (cW x.p st v) j/\(x.bQ st now v).T (C x.es+j)=now+j:=by
 refine⟨by rw[zH,PF,if_neg (by omega),x6],?_⟩;unfold GT.T GT.bQ;simp only;rw[xW,List.getElem?_append_right (by omega),b,x6];simp[a]
theorem qO(x:GT)(st:JR)(now v:Nat):(x.bQ st now v).es.length=C x.es+(cW x.p st v).length:=by rw[zH,xF]
theorem S4(p:Ex×Nat)(st:JR)(g:v<4):(cW p st v).length<=2/\(∀j,j<(cW p st v).length->0<=(ev (cW p st v) j).k)/\∀j,j<(cW p st v).length->(ev (cW p st v) j).k=1->(ev (cW p st v) j).step=true->j≠0:=by
 by_cases c:p.2=0/\st.k=5
 ·obtain⟨m,d⟩:=p;obtain⟨b,f⟩:=c;simp only at b;subst b;rw[Da m st v f];have KP:∀j,j<2->(ev [(m.un v).V 3 st,(m.un v).V 4 st] j).k=3\/(ev [(m.un v).V 3 st,(m.un v).V 4 st] j).k=4:=fun j a=>by
   have:j=0\/j=1:=by omega
   rcases this with rfl|rfl
   ·exact Or.inl Z
   ·exact Or.inr Z
  exact⟨by simp,fun j a=>by rcases KP j a with e|e<;>omega,fun j a k=>by rcases KP j a with e|e<;>omega⟩
 ·have h:=Cz p st g c;exact⟨h.len,fun j a=>(h.k j a).1,h.half⟩
theorem S5(p:Ex×Nat)(st:JR)(v:Nat):((aP p st v).2:Int)<=p.2+(if st.k==10 then 1 else 0)-if st.k==11/\p.2≠0 then 1 else 0:=by
 unfold aP aG;by_cases c:p.2=0
 ·simp only[c,beq_self_eq_true,if_true]
  split
  ·rename_i h;have:¬((st.k==11)=true/\(0:Nat)≠0):=fun h=>h.2 Z
   rw[if_neg this];simp only
   split<;>simp
  ·rename_i h;have:¬((st.k==11)=true/\(0:Nat)≠0):=fun h=>h.2 Z
   rw[if_neg this];simp
 ·have a:(p.2==0)=false:=by simpa using c
  simp only[a,xR,if_false];by_cases h10:st.k=10
  ·simp[h10]
  ·by_cases h11:st.k=11
   ·simp[h11,c];omega
   ·simp[h10,h11]
theorem TInv.bQ{x:GT}(n:WF t)(h:TInv t k now x){q:List JR}(E:x.rest=st::q)(A:v<4)(X:3<=now):TInv t k (now+2) (x.bQ st now v):=by
 have d:t.S=x.ex++st::q:=by rw[<- E];exact h.sp.symm
 have D:st∈t.S:=by rw[d];simp
 obtain⟨n1,J,K⟩:=S4 x.p st A;have I:=qO x st now v;obtain⟨L,M,O⟩:=rF x.p st v;have KP:∀j,j<(x.bQ st now v).es.length->j<C x.es/\ev (x.bQ st now v).es j=ev x.es j/\(x.bQ st now v).T j=x.T j\/∃i,i<(cW x.p st v).length/\j=C x.es+i/\ev (x.bQ st now v).es j=ev (cW x.p st v) i/\(x.bQ st now v).T j=now+i:=fun j f=>by
  by_cases c:j<C x.es
  ·exact Or.inl ⟨c,pO h.len st now v c⟩
  ·refine Or.inr ⟨j-C x.es,by omega,by omega,?_⟩;have:=tQ h.len st now v (j:=j-C x.es) (by omega);rw[show C x.es+(j-C x.es)=j by omega]at this;exact this
 refine⟨?_,h.cod.step st A,h.mi.aP (n.z st D) v,h.mh.step h.mi st v,?_,L.trans h.thr,M.trans h.blk,?_,?_,?_,?_,?_,?_,?_⟩
 ·show x.ex++[st]++x.rest.tail=t.S;rw[d,E];simp
 ·obtain⟨N,H⟩:=h.ok;exact⟨N+1,H.aP (n.ok st D) A⟩
 ·show((aP x.p st v).2:Int)<=JU iB (x.ex++[st])-JU iE (x.ex++[st]);have U:=S5 x.p st v;have V:=h.dep;have W:=n.ends (x.ex++[st]) q (by rw[d];simp);rw[mK,mK]at *;simp only[JU,iB,iE]at *;by_cases h11:st.k=11
  ·have:(aP x.p st v).2=x.p.2-1:=by
    unfold aP aG;by_cases c:x.p.2=0
    ·simp[c,h11]
    ·simp[c,h11]
   simp only[h11]at *;simp at*;omega
  ·simp only[h11]at *;simp at*;omega
 ·show((aP x.p st v).1.u:Int)=LF (x.ex++[st]);rw[O,sL];have:=h.brs;simp only[LF];by_cases h5:st.k=5
  ·have B:=n.bar x.ex st q d h5;have Y:=h.dep;rw[if_pos ⟨by omega,h5⟩,h5];simp;omega
  ·rw[if_neg fun e=>h5 e.2];simp[h5];omega
 ·show(x.tm++_).length=_;rw[I,xF,h.len];simp
 ·intro j f
  rcases KP j f with⟨c,_,e⟩|⟨i,hi,_,_,e⟩
  ·have:=h.lo j c;omega
  ·omega
 ·intro i j y f
  rcases KP j f with⟨c,_,e⟩|⟨a,l,F,_,e⟩
  ·have:=h.inc i j y c;rw[e,(pO h.len st now v (by omega)).2];exact this
  ·rcases KP i (by omega)with⟨c,_,s⟩|⟨b,B,G,_,s⟩
   ·have:=h.lo i c;omega
   ·omega
 ·intro j f o r
  rcases KP (j+1) f with⟨c,g,e⟩|⟨a,l,F,g,e⟩
  ·rw[g]at o r;rw[e,(pO h.len st now v (by omega)).2];exact h.half j c o r
  ·rw[g]at o r;have:=K a l o r
   rcases KP j (by omega)with⟨c,_,s⟩|⟨b,B,G,_,s⟩
   ·omega
   ·omega
 ·intro j f
  rcases KP j f with⟨c,g,_⟩|⟨a,l,_,g,_⟩
  ·rw[g];exact h.knd j c
  ·rw[g];exact J a l
end Q
end Go.Proofs.YtlikcongbhhpfaaGreatDoor
