import Derived.Test.YteekngiepnnmjaaGreatDoorV11
set_option linter.all false
set_option maxHeartbeats 0
namespace Go.Proofs.YteekngiepnnmjaaGreatDoor
open Go Go.RowKit Go.Proofs.Tryz P Q R
open scoped Classical
set_option maxRecDepth 1000000
open _root_ renaming List->S,List->σ,ByteArray->O,ByteArray->ν,Int->H,Int->ι,if_true->ξ,if_false->ψ,decide_eq_false->φ,decide_eq_true->ρ,absurd->τ,Nat->ζ,UInt8->z,UInt8->δ,beq_self_eq_true->γ,if_neg->θ
open Go renaming Value->ω,World->π,Calls->ε
open Go.RowKit renaming Below->η
open Go.Proofs.Tryz renaming prog->κ
variable {v:σ δ}{st:VW}{a k m n:ι}{b l:σ Tree}{ss:σ VW}{e:TypeId}{ls:σ (σ Tree)}{ts:σ R.Th}{us:σ VZ}{t:R.Th}{bv u:ω}{r:Rd}{s:St}{vs xs ys:σ ω}{w w':π}{B g sz:ζ}{F G:σ ζ}
open _root_.Array renaming size->J
open Go.World renaming heap->V
open List renaming length->j
open Bool renaming false->Y,true->U
open Option renaming none->C,some->A
open Go.Value renaming slice->E,string->L,int->D
open Go.IntKind renaming i64->T
open Go.Ending renaming returned->W
open Nat renaming le_refl->xF
open _root_.ByteArray renaming toList->xR
open Bool renaming false_eq_true->xW,true_and->x6,and_true->x7
open Go.RowKit.Below renaming setCell->x4
open Or renaming inr->x5
open Go.World renaming frozen?->x8
open List renaming isEmpty_nil->x9,cons_append->xa,getElem_mem->xb,mem_append_right->xc
theorem UI(h:decide (0<=inn v dM)=U):0<=inn v dM/\inn v dM<3:=by
 grind [Gu]
theorem MR(h:decide (0<=inn v regs)=U):0<=inn v regs/\inn v regs<4:=by
 grind [BT]
theorem MX(st:VW)(c:S (S z))(h:(gQ st c).2=U):YV st.kind (gQ st c).1.q=U:=by
 match c,h with
 |[],h=>simp[gQ]at h
 |o::r,h =>
  unfold gQ at h⊢;by_cases hc:((P.order o).2&&YV st.kind (P.order o).1)=U
  ·grind
  ·simp[hc]at h
def opK(k:H):S z:=if k=0 then[108,111,97,100]else if k=1 then[115,116,111,114,101]else if k=2 then[97,100,100]else if k=3 then[115,119,97,112]else if k=4 then[102,101,110,99,101]else if k=5 then[98,97,114,114,105,101,114]else[115,101,116]
def A3(k:H):S z:=if k=7 then[43]else if k=8 then[45]else if k=9 then[61,61]else[]
def isD(k:H):Bool:=k==0||k==2||k==3||decide (6<=k)
def ZW(o:ZD)(a:H):Prop:=a=vM o/\0<=o.n/\o.n<4
structure Twin(st:VW)(x:Lh):Prop where
 rd:R.XG x=P.XG st
 wr:R.XI x=P.XI st
 fn:R.XC x=P.XC st
 br:isB x=(st.kind==5)
 k10:(st.kind==10)=Y
 k11:(st.kind==11)=Y
 acc:ZU st.kind=U->x.z=st.z/\0<=st.z/\st.z<3
 os:(ZU st.kind||st.kind==4)=U->x.ord.toList=ordW st.q/\x.scope.toList=scW st.q st.scope/\OkOS st.q st.scope/\YV st.kind st.q=U
 kd:0<=st.kind/\st.kind<=9
 op:x.op.toList=opK st.kind
 rg:isD st.kind=U->x.VX=st.dest/\0<=st.dest/\st.dest<4
 oa:ZW st.a x.a
 ob:ZW st.b x.b
 sg:x.sign.toList=A3 st.kind
 b6:st.kind=6->st.b.VX=Y
def vU:ZW VW.zero.a x0.a/\ZW VW.zero.b x0.b:=⟨⟨Z,by decide,by decide⟩,⟨Z,by decide,by decide⟩⟩
def CL:x0.sign.toList=[]:=by rw[x0,bI]
def ND:x0.scope.toList=[]:=by rw[x0,bI]
theorem Xv:Twin {VW.zero with kind:=5} {x0 with op:=mP}:=by
 refine⟨?_,?_,?_,?_,Z,Z,?_,?_,by decide,?_,?_,vU.1,vU.2,CL,λh=>τ h (by decide)⟩
 ·grind [R.XG,P.XG,P.aZ,mP,mG,qQ,qZ,bI]
 ·grind [R.XI,P.XI,rP,mP,mD,qQ,qZ,bI]
 ·grind [R.XC,P.XC,mP,jS,bI]
 ·grind [isB]
 ·grind [ZU]
 ·grind [ZU]
 ·simp[mP,bI,opK]
 grind [isD]
def hU{c:VW}{x0 x:Lh}(s:Same c st x0 x)(y:YV c.kind st.q=U)(d:c.kind=0\/c.kind=1\/c.kind=2\/c.kind=3\/c.kind=4)(f:x0.op.toList=opK c.kind)(p:c.kind≠4->x0.z=c.z/\0<=c.z/\c.z<3)(i:isD c.kind=U->x0.VX=c.dest/\0<=c.dest/\c.dest<4)(H:ZW c.a x0.a)(I:ZW c.b x0.b)(K:x0.sign.toList=[]):Twin st x:=by
 obtain⟨e1,e2,e3,e4,e5⟩:c.kind=st.kind/\c.z=st.z/\c.dest=st.dest/\c.a=st.a/\c.b=st.b:=by rw[s.stm];exact⟨Z,Z,Z,Z,Z⟩
 obtain⟨M,N,f3,O,S,X⟩:x0.op=x.op/\x0.z=x.z/\x0.VX=x.VX/\x0.a=x.a/\x0.b=x.b/\x0.sign=x.sign:=by rw[s.ln];exact⟨Z,Z,Z,Z,Z,Z⟩
 have o:=s.sc;rw[e1]at d y f p i;rw[e2,N]at p;rw[e3,f3]at i;rw[e4,O]at H;rw[e5,S]at I;rw[M]at f;rw[X]at K;refine⟨?_,?_,?_,?_,?_,?_,λh=>p ?_,λ_=>⟨s.od,s.sp,s.ok,y⟩,by omega,f,i,H,I,?_,λh=>by omega⟩
 all_goals
  rcases d with d|d|d|d|d<;>first
   |(simp[R.XG,R.XI,R.XC,isB,P.XG,P.XI,P.XC,P.aZ,rP,f,d,opK,A3,K,mG,mD,jS,mP,qQ,qZ,bI,<- o];done)
   |(rw[d]at h;simp[ZU]at h)
theorem Xw(r:S O):(gQ {VW.zero with kind:=4} (r.map xR)).2=(how {x0 with op:=jS} R.oFence r).2/\((how {x0 with op:=jS} R.oFence r).2=U->Twin (gQ {VW.zero with kind:=4} (r.map xR)).1 (how {x0 with op:=jS} R.oFence r).1):=by
 have h:=ME {VW.zero with kind:=4} {x0 with op:=jS} R.oFence Wb ND Z r;exact⟨h.1,λc=>hU (h.2 c) (MX _ _ (h.1.trans c)) (by simp) (by simp[jS,bI,opK]) (λh=>τ Z h) (λh=>by simp[isD]at h) vU.1 vU.2 CL⟩
theorem Xx(p v:O)(r:S O):(P.store ([115,116,111,114,101]::p.toList::v.toList::r.map xR)).2=(xN p v r).2/\((xN p v r).2=U->Twin (P.store ([115,116,111,114,101]::p.toList::v.toList::r.map xR)).1 (xN p v r).1):=by
 have x:=UG p.toList;have q:=AJ v.toList;unfold P.store P.eU xN;simp only[]
 cases h1:(jI p.toList).2
 ·grind
 have y:decide (0<=inn p.toList dM)=U:=by grind
 have i:=x.2 h1;simp only[ξ]
 cases h2:(dG v.toList).2
 ·grind
 have d:(bV v.toList).2=U:=by grind
 have f:=q.2 h2;have o:=DO _ h2;simp only[ξ];have h:=ME {VW.zero with kind:=1,z:=(jI p.toList).1,a:=(dG v.toList).1} {x0 with op:=mD,z:=inn p.toList dM,a:=(bV v.toList).1} R.oStore Wc ND Z r;rw[d,y];simp only[x6,x7];exact⟨h.1,λc=>hU (h.2 c) (MX _ _ (h.1.trans c)) (by simp) (by simp[mD,bI,opK]) (λ_=>⟨i.symm,by grind [UI]⟩) (λh=>by simp[isD]at h) ⟨f.symm,o⟩ vU.2 CL⟩
theorem Xy(d p:O)(r:S O)(q:(cX d.toList).2=U):(P.load {VW.zero with dest:=(cX d.toList).1} (p.toList::r.map xR)).2=(uR d p r).2/\((uR d p r).2=U->Twin (P.load {VW.zero with dest:=(cX d.toList).1} (p.toList::r.map xR)).1 (uR d p r).1):=by
 have y:=UG p.toList;have x:=BQ d.toList;have i:decide (0<=inn d.toList regs)=U:=by grind
 have f:=x.2 q;unfold uR;simp only[]
 cases h1:(jI p.toList).2
 ·grind [LA]
 have H:decide (0<=inn p.toList dM)=U:=by grind
 have o:=y.2 h1;rw[JI _ _ _ h1,H,i];simp only[x6,x7];have h:=ME {VW.zero with dest:=(cX d.toList).1,kind:=0,z:=(jI p.toList).1} {x0 with VX:=inn d.toList regs,op:=mG,z:=inn p.toList dM} R.oLoad We ND Z r;exact⟨h.1,λc=>hU (h.2 c) (MX _ _ (h.1.trans c)) (by simp) (by simp[mG,bI,opK]) (λ_=>⟨o.symm,by grind [UI]⟩) (λ_=>⟨f.symm,by grind [MR]⟩) vU.1 vU.2 CL⟩
theorem Hp(K:ι)(d c p v:ν)(r:σ ν)(H:(cX d.toList).2=U)(X:K=2/\c.toList=[97,100,100]\/K=3/\c.toList=[115,119,97,112]):(P.step {VW.zero with dest:=(cX d.toList).1} K (p.toList::v.toList::r.map xR)).2=(uJ d c p v r).2/\((uJ d c p v r).2=U->Twin (P.step {VW.zero with dest:=(cX d.toList).1} K (p.toList::v.toList::r.map xR)).1 (uJ d c p v r).1):=by
 have O:=UG p.toList;have M:=AJ v.toList;have N:=BQ d.toList;have x:decide (0<=inn d.toList regs)=U:=by grind
 have q:=N.2 H;unfold P.step P.eU uJ;simp only[]
 cases h1:(jI p.toList).2
 ·grind
 have S:decide (0<=inn p.toList dM)=U:=by grind
 have y:=O.2 h1;simp only[ξ]
 cases h2:(dG v.toList).2
 ·grind
 have i:(bV v.toList).2=U:=by grind
 have o:=M.2 h2;have I:=DO _ h2;simp only[ξ];have h:=ME {VW.zero with dest:=(cX d.toList).1,kind:=K,z:=(jI p.toList).1,a:=(dG v.toList).1} {x0 with VX:=inn d.toList regs,op:=c,z:=inn p.toList dM,a:=(bV v.toList).1} tB (by grind [Wf,Wg]) ND Z r;rw[i,S,x];simp only[x6,x7];exact⟨h.1,λf=>hU (h.2 f) (MX _ _ (h.1.trans f)) (by simp;omega) (by grind [opK]) (λ_=>⟨y.symm,by grind [UI]⟩) (λ_=>⟨q.symm,by grind [MR]⟩) ⟨o.symm,I⟩ vU.2 CL⟩
theorem Xz(v:S z):(sign v).2=decide (0<=inn v qD)/\((sign v).2=U->(sign v).1=7+inn v qD/\(inn v qD=0\/inn v qD=1\/inn v qD=2)):=by
 have e:bF 32 qD=[[43],[45],[61,61]]:=by decide
 rw[AR v qD _ e];by_cases h1:v=[43]
 ·subst h1;decide
 by_cases h2:v=[45]
 ·subst h2;decide
 by_cases h3:v=[61,61]
 ·subst h3;decide
 simp_all [sign,gW,Ne.symm]
def X0(h:inn v qD=k):(k=0->v=[43])/\(k=1->v=[45])/\(k=2->v=[61,61]):=by
 have e:bF 32 qD=[[43],[45],[61,61]]:=by decide
 rw[AR v qD _ e]at h;by_cases h1:v=[43]
 ·subst h1;subst h;decide
 by_cases h2:v=[45]
 ·subst h2;subst h;decide
 by_cases h3:v=[61,61]
 ·subst h3;subst h;decide
 simp[gW,Ne.symm h1,Ne.symm h2,Ne.symm h3]at h;omega
theorem X3(d a:O)(o:(cX d.toList).2=U):(sum {VW.zero with dest:=(cX d.toList).1} [a.toList]).2=(vA d a).2/\((vA d a).2=U->Twin (sum {VW.zero with dest:=(cX d.toList).1} [a.toList]).1 (vA d a).1):=by
 have p:=AJ a.toList;have q:=BQ d.toList;have i:decide (0<=inn d.toList regs)=U:=by grind
 have x:=q.2 o;unfold vA;simp only[i,x6]
 cases h2:(dG a.toList).2
 ·grind [bV,JE]
 have c:(bV a.toList).2=U:=by grind
 have f:=p.2 h2;rw[A7 _ _ h2,c];refine⟨Z,λ_=>?_⟩;refine⟨?_,?_,?_,?_,Z,Z,?_,?_,⟨by grind,by grind⟩,?_,λ_=>?_,⟨f.symm,DO _ h2⟩,vU.2,CL,λ_=>Z⟩
 ·simp[R.XG,P.XG,P.aZ,fD,mG,qQ,qZ,bI]
 ·simp[R.XI,P.XI,rP,fD,mD,qQ,qZ,bI]
 ·simp[R.XC,P.XC,fD,jS,bI]
 ·simp[isB,fD,mP,bI]
 ·grind [ZU]
 ·grind [ZU]
 ·simp[fD,bI,opK]
 grind [MR]
theorem X4(d a s b:ν)(K:(cX d.toList).2=U):(sum {VW.zero with dest:=(cX d.toList).1} [a.toList,s.toList,b.toList]).2=(tW d a s b).2/\((tW d a s b).2=U->Twin (sum {VW.zero with dest:=(cX d.toList).1} [a.toList,s.toList,b.toList]).1 (tW d a s b).1):=by
 have M:=AJ a.toList;have H:=AJ b.toList;have O:=Xz s.toList;have N:=BQ d.toList;have o:decide (0<=inn d.toList regs)=U:=by grind
 have i:=N.2 K;unfold tW;simp only[o,x6]
 cases h2:(dG a.toList).2
 ·grind [bV,JE]
 have p:(bV a.toList).2=U:=by grind
 cases h3:(sign s.toList).2
 ·grind [Nv]
 have q:decide (0<=inn s.toList qD)=U:=by grind
 rw[A8 _ _ _ _ h2 h3,p,q];simp only[x6,x7];refine⟨H.1,λI=>?_⟩;have z:(dG b.toList).2=U:=by grind
 have y:=M.2 h2;have x:=H.2 z;obtain⟨c,f⟩:=O.2 h3
 rcases f with f|f|f
 all_goals
  rw[f]at c;refine⟨?_,?_,?_,?_,by simp[c],by simp[c],?_,?_,by simp[c],?_,λ_=>⟨i.symm,by show 0<=(cX d.toList).1/\(cX d.toList).1<4;rw[i];exact MR o⟩,⟨y.symm,DO _ h2⟩,⟨x.symm,DO _ z⟩,?_,λh=>τ h (by simp[c])⟩
  ·simp[R.XG,P.XG,P.aZ,c,fD,mG,qQ,qZ,bI]
  ·simp[R.XI,P.XI,rP,c,fD,mD,qQ,qZ,bI]
  ·simp[R.XC,P.XC,c,fD,jS,bI]
  ·simp[isB,c,fD,mP,bI]
  ·intro h;simp[c,ZU]at h
  ·intro h;simp[c,ZU]at h
  ·simp[c,fD,bI,opK]
  ·have t:=X0 f;show s.toList=A3 (sign s.toList).1;rw[c]
   first|exact t.1 Z|exact t.2.1 Z|exact t.2.2 Z
theorem bf{x:VW×Bool}{y:Lh×Bool}(c:x.2=Y)(d:y.2=Y):x.2=y.2/\(y.2=U->Twin x.1 y.1):=⟨by grind,λh=>by grind⟩
def Hq(st:VW)(l:S (S z))(h:j l<2):(P.load st l).2=Y:=by
 match l,h with
 |[],_=>rfl
 |[p],_ =>
  cases hp:(jI p).2
  ·rw[LA _ _ _ hp]
  ·rw[JI _ _ _ hp];rfl
theorem xS(st:VW)(k:H)(l:S (S z))(h:j l<3):(P.step st k l).2=Y:=by
 match l,h with
 |[],_=>rfl
 |[_],_=>rfl
 |[p,v],_ =>
  cases hp:(P.eU {st with kind:=k} p v).2
  ·grind [Nt]
  ·rw[Nu _ _ _ _ _ hp];rfl
def rest(d c:O):S O->Lh×Bool
 |[]=>vA d c
 |[s,b]=>tW d c s b
 |_=>MU d c
def xE(d c:O)(r:S O)(h:(bV c.toList).2=Y):(rest d c r).2=Y:=by
 match r with
 |[]=>simp[rest,vA,h]
 |[s,b]=>simp[rest,tW,h]
 |[_]=>rfl
 |_::_::_::_=>rfl
theorem Hr(d c:O)(r:S O)(f:c.toList=[108,111,97,100]):pV d c r=match r with
  |p::q::t=>uR d p (q::t)
  |_=>rest d c r:=by
 unfold pV
 match r with
 |[]=>simp[f,rest]
 |[_]=>simp[f,rest]
 |_::_::_=>simp[f]
theorem SD(d c:O)(r:S O)(f:c.toList=[97,100,100]\/c.toList=[115,119,97,112]):pV d c r=match r with
  |p::v::q::t=>uJ d c p v (q::t)
  |_=>rest d c r:=by
 unfold pV
 match r with
 |[]=>rcases f with f|f<;>simp[f,rest]
 |[_]=>rcases f with f|f<;>simp[f,rest]
 |[_,_]=>rcases f with f|f<;>simp[f,rest]
 |_::_::_::_=>rcases f with f|f<;>simp[f]
theorem Hs(d c:O)(r:S O)(f:¬c.toList=[108,111,97,100])(i:¬c.toList=[97,100,100])(o:¬c.toList=[115,119,97,112]):pV d c r=rest d c r:=by
 unfold pV
 grind [rest]
def X5(d c:S z)(r:S (S z))(f:(cX d).2=U):kV (d::[61]::c::r) =
  if c=[108,111,97,100]then P.load {VW.zero with dest:=(cX d).1} r else if c=[97,100,100]then P.step {VW.zero with dest:=(cX d).1} 2 r
  else if c=[115,119,97,112]then P.step {VW.zero with dest:=(cX d).1} 3 r else sum {VW.zero with dest:=(cX d).1} (c::r):=by
 simp[kV,f]
theorem X6(d c:O)(r:S O)(i:(cX d.toList).2=U):
  (kV (d.toList::[61]::c.toList::r.map xR)).2=(pV d c r).2/\((pV d c r).2=U->Twin (kV (d.toList::[61]::c.toList::r.map xR)).1 (pV d c r).1):=by
 rw[X5 _ _ _ i];by_cases h1:c.toList=[108,111,97,100]
 ·have f:(bV c.toList).2=Y:=by rw[h1];decide
  rw[if_pos h1,Hr d c r h1]
  match r with
  |[]=>exact bf (Hq _ _ (by simp)) (xE d c _ f)
  |[p]=>exact bf (Hq _ _ (by simp)) (xE d c _ f)
  |p::q::t=>exact Xy d p (q::t) i
 rw[θ h1];by_cases h2:c.toList=[97,100,100]
 ·have f:(bV c.toList).2=Y:=by rw[h2];decide
  rw[if_pos h2,SD d c r (Or.inl h2)]
  match r with
  |[]=>exact bf (xS _ _ _ (by simp)) (xE d c _ f)
  |[p]=>exact bf (xS _ _ _ (by simp)) (xE d c _ f)
  |[p,v]=>exact bf (xS _ _ _ (by simp)) (xE d c _ f)
  |p::v::q::t=>exact Hp 2 d c p v (q::t) i (.inl ⟨Z,h2⟩)
 rw[θ h2];by_cases h3:c.toList=[115,119,97,112]
 ·have f:(bV c.toList).2=Y:=by rw[h3];decide
  rw[if_pos h3,SD d c r (x5 h3)]
  match r with
  |[]=>exact bf (xS _ _ _ (by simp)) (xE d c _ f)
  |[p]=>exact bf (xS _ _ _ (by simp)) (xE d c _ f)
  |[p,v]=>exact bf (xS _ _ _ (by simp)) (xE d c _ f)
  |p::v::q::t=>exact Hp 3 d c p v (q::t) i (.inr ⟨Z,h3⟩)
 rw[θ h3,Hs d c r h1 h2 h3]
 match r with
 |[]=>exact X3 d c i
 |[x]=>exact bf (by grind [A9]) Z
 |[s,b]=>exact X4 d c s b i
 |x::y::z::t=>exact bf (by grind [A9]) Z
theorem VM(d c:O)(r:S O)(h:decide (0<=inn d.toList regs)=Y):(pV d c r).2=Y:=by
 have f:∀q,(rest d c q).2=Y:=λq=>by
  match q with
  |[]=>simp[rest,vA,h]
  |[_,_]=>simp[rest,tW,h]
  |[_]=>rfl
  |_::_::_::_=>rfl
 by_cases h1:c.toList=[108,111,97,100]
 ·grind [Hr,uR]
 by_cases h2:c.toList=[97,100,100]\/c.toList=[115,119,97,112]
 ·grind [SD,uJ]
 grind [Hs]
theorem X7(c:O)(r:S O)(o:¬c.toList=[105,102])(i:¬c.toList=[101,110,100]):
  (gR (c.toList::r.map xR)).2=(jE c r).2/\((jE c r).2=U->Twin (gR (c.toList::r.map xR)).1 (jE c r).1):=by
 unfold gR jE;by_cases hb:c.toList=[98,97,114,114,105,101,114]
 ·simp_all [Xv]
 by_cases hf:c.toList=[102,101,110,99,101]
 ·grind [Ba,Xw]
 by_cases hs:c.toList=[115,116,111,114,101]
 ·simp only[hs]
  match r with
  |[]=>exact bf (by simp[P.store]) (by simp)
  |[x]=>exact bf (by simp[P.store]) (by simp)
  |[x,y] =>
   refine bf ?_ ?_
   ·simp only[List.map_cons,List.map_nil];have:(P.store [[115,116,111,114,101],x.toList,y.toList]).2=Y:=by
     unfold P.store;simp only[]
     split
     ·rfl
     ·rfl
    simpa using this
   ·grind [VM,BT]
  |p::v::q::t=>simpa using Xx p v (q::t)
 have e1:(c.toList==[115,116,111,114,101])=Y:=by simpa using hs
 have e2:(c.toList==[102,101,110,99,101])=Y:=by simpa using hf
 have e3:(c.toList==[98,97,114,114,105,101,114])=Y:=by simpa using hb
 have e4:(c.toList==[105,102])=Y:=by simpa using o
 have e5:(c.toList==[101,110,100])=Y:=by simpa using i
 simp only[e1,e2,e3,e4,e5,xW,ψ,Bool.false_and]
 match r with
 |[]=>exact bf Z Z
 |[_]=>exact bf Z Z
 |e::d::q =>
  simp only[List.map_cons];by_cases he:e.toList=[61]
  ·have f:(e.toList==[61])=U:=by simpa using he
   simp only[f,ξ]
   grind [kV,VM,BQ,X6]
  ·simp_all [xW,ψ,Pp,τ]
structure IfT(st:VW)(a n:ι):Prop where
 k:st.kind=10
 l:st.label=n
 o:ZW st.a a
structure EndT(st:VW)(n:ι):Prop where
 k:st.kind=11
 l:st.label=n
def XK(n:H)(l:S Tree)(ss:S VW)(m:H):Prop :=
 ∀M:H->S Tree->S VW->H->Prop,(∀n:H,M n [] [] n) ->
  (∀(n m:H) (st:VW) (x:Lh) (l:S Tree) (ss:S VW),Twin st x->¬x.op.toList=[105,102]->M n l ss m->M n (.mk x []::l) (st::ss) m) ->
  (∀(n m k a:H) (st e:VW) (b l:S Tree) (bs ss:S VW),IfT st a (n+1)->M (n+1) b bs m->EndT e (n+1)->M m l ss k->M n (.mk (gH a) b::l) (st::(bs++e::ss)) k)->M n l ss m
def XK.nil(n:ι):XK n [] [] n:=λ_ c _ _=>c n
def XK.leaf{x:Lh}(t:Twin st x)(o:¬x.op.toList=[105,102])(f:XK n l ss m):XK n (.mk x []::l) (st::ss) m :=
 λM d c i=>c _ _ _ _ _ _ t o (f M d c i)
theorem XK.node{e:VW}{o:σ VW}(i:IfT st a (n+1))(f:XK (n+1) b o m)(d:EndT e (n+1))(g:XK m l ss k):XK n (.mk (gH a) b::l) (st::(o++e::ss)) k :=
 λM p q c=>c _ _ _ _ _ _ _ _ _ _ i (f M p q c) d (g M p q c)
def XK.ind{c:∀(n:ι) (l:σ Tree) (ss:σ VW) (m:ι),XK n l ss m->Prop}(nil:∀n:ι,c n [] [] n (XK.nil n))(leaf:∀{n m:ι} {st:VW} {x:Lh} {l:σ Tree} {ss:σ VW} (t:Twin st x) (o:¬x.op.toList=[105,102]) (f:XK n l ss m),c n l ss m f->c n (.mk x []::l) (st::ss) m (XK.leaf t o f))(node:∀{n m k a:ι} {st e:VW} {b l:σ Tree} {p ss:σ VW} (i:IfT st a (n+1)) (f:XK (n+1) b p m) (d:EndT e (n+1)) (g:XK m l ss k),c (n+1) b p m f->c m l ss k g->c n (.mk (gH a) b::l) (st::(p++e::ss)) k (XK.node i f d g)){n:ι}{l:σ Tree}{ss:σ VW}{m:ι}(h:XK n l ss m):c n l ss m h :=
 (h (λn l ss m=>∃h:XK n l ss m,c n l ss m h) (λn=>⟨_,nil n⟩) (λ_ _ _ _ _ _ t o ⟨f,q⟩=>⟨XK.leaf t o f,leaf t o f q⟩) λ_ _ _ _ _ _ _ _ _ _ i ⟨f,q⟩ d ⟨g,y⟩=>⟨XK.node i f d g,node i f d g q y⟩).2
theorem XK.append{q:σ Tree}{c:σ VW}(h:XK n l ss m)(g:XK m q c k):XK n (l++q) (ss++c) k:=by
 induction h using XK.ind with
 |nil n=>simpa using g
 |leaf t o _ ih=>simpa using XK.leaf t o (ih g)
 |node i b e _ _ ih =>
  grind [XK.node]
def YR(n:H)(fs:S Fr)(q:S VW)(ls:S H)(k:H):Prop :=
 ∀M:H->S Fr->S VW->S H->H->Prop,(∀n:H,M n [] [] [] n) ->
  (∀(n m k a:H) (fs:S Fr) (q ss:S VW) (ls:S H) (st:VW) (l:S Tree),M n fs q ls m->IfT st a (m+1)->XK (m+1) l ss k->M n (fs++[⟨l,a⟩]) (q++st::ss) (ls++[m+1]) k)->M n fs q ls k
theorem YR.nil(n:ι):YR n [] [] [] n:=λ_ c _=>c n
theorem YR.bD{fs:σ Fr}{q:σ VW}{ls:σ ι}(h:YR n fs q ls m)(i:IfT st a (m+1))(f:XK (m+1) l ss k):YR n (fs++[⟨l,a⟩]) (q++st::ss) (ls++[m+1]) k :=
 λM d c=>c _ _ _ _ _ _ _ _ _ _ (h M d c) i f
def YR.ind{c:∀(n:ι) (fs:σ Fr) (q:σ VW) (ls:σ ι) (k:ι),YR n fs q ls k->Prop}(nil:∀n:ι,c n [] [] [] n (YR.nil n))(bD:∀{n m k a:ι} {fs:σ Fr} {q ss:σ VW} {ls:σ ι} {st:VW} {l:σ Tree} (h:YR n fs q ls m) (i:IfT st a (m+1)) (f:XK (m+1) l ss k),c n fs q ls m h->c n (fs++[⟨l,a⟩]) (q++st::ss) (ls++[m+1]) k (YR.bD h i f)){n:ι}{fs:σ Fr}{q:σ VW}{ls:σ ι}{k:ι}(h:YR n fs q ls k):c n fs q ls k h :=
 (h (λn fs q ls k=>∃h:YR n fs q ls k,c n fs q ls k h) (λn=>⟨_,nil n⟩) λ_ _ _ _ _ _ _ _ _ _ ⟨h,d⟩ i f=>⟨YR.bD h i f,bD h i f d⟩).2
def YR.cs{c:∀(n:ι) (fs:σ Fr) (q:σ VW) (ls:σ ι) (k:ι),YR n fs q ls k->Prop}(nil:∀n:ι,c n [] [] [] n (YR.nil n))(bD:∀{n m k a:ι} {fs:σ Fr} {q ss:σ VW} {ls:σ ι} {st:VW} {l:σ Tree} (h:YR n fs q ls m) (i:IfT st a (m+1)) (f:XK (m+1) l ss k),c n (fs++[⟨l,a⟩]) (q++st::ss) (ls++[m+1]) k (YR.bD h i f)){n:ι}{fs:σ Fr}{q:σ VW}{ls:σ ι}{k:ι}(h:YR n fs q ls k):c n fs q ls k h:=YR.ind nil (λh i f _=>bD h i f) h
def YR.len{fs:σ Fr}{q:σ VW}{ls:σ ι}(h:YR n fs q ls k):j ls=j fs:=by
 induction h using YR.ind with
 |nil=>rfl
 |bD _ _ _ ih=>simp[ih]
def YR.none{fs:σ Fr}{q:σ VW}{ls:σ ι}(h:YR n fs q ls k)(c:fs=[]):q=[]/\ls=[]/\k=n:=by
 cases h using YR.cs with
 |nil=>exact⟨Z,Z,Z⟩
 |bD _ _ _=>simp at c
def YR.last{fs:σ Fr}{q:σ VW}{ls:σ ι}(h:YR n fs q ls k)(c:fs≠[]):
  ∃m a gs p ss ms st l,YR n gs p ms m/\IfT st a (m+1)/\XK (m+1) l ss k/\fs=gs++[⟨l,a⟩]/\q=p++st::ss/\ls=ms++[m+1]:=by
 cases h using YR.cs with
 |nil=>exact τ Z c
 |bD h1 h2 h3=>exact⟨_,_,_,_,_,_,_,_,h1,h2,h3,Z,Z,Z⟩
def ZI(n:H)(ts:S R.Th)(us:S VZ)(k:H):Prop :=
 ∀M:H->S R.Th->S VZ->H->Prop,(∀n:H,M n [] [] n) ->
  (∀(n m k:H) (ts:S R.Th) (us:S VZ) (t:R.Th) (u:VZ),M n ts us m->XK m t.body u.S k->u.block=t.block->u.i=t.row->M n (ts++[t]) (us++[u]) k)->M n ts us k
def ZI.nil(n:ι):ZI n [] [] n:=λ_ c _=>c n
theorem ZI.bD{u:VZ}(h:ZI n ts us m)(f:XK m t.body u.S k)(b:u.block=t.block)(l:u.i=t.row):ZI n (ts++[t]) (us++[u]) k :=
 λM d c=>c _ _ _ _ _ _ _ (h M d c) f b l
def ZI.ind{c:∀(n:ι) (ts:σ R.Th) (us:σ VZ) (k:ι),ZI n ts us k->Prop}(nil:∀n:ι,c n [] [] n (ZI.nil n))(bD:∀{n m k:ι} {ts:σ R.Th} {us:σ VZ} {t:R.Th} {u:VZ} (h:ZI n ts us m) (f:XK m t.body u.S k) (b:u.block=t.block) (l:u.i=t.row),c n ts us m h->c n (ts++[t]) (us++[u]) k (ZI.bD h f b l)){n:ι}{ts:σ R.Th}{us:σ VZ}{k:ι}(h:ZI n ts us k):c n ts us k h :=
 (h (λn ts us k=>∃h:ZI n ts us k,c n ts us k h) (λn=>⟨_,nil n⟩) λ_ _ _ _ _ _ _ ⟨h,d⟩ f b l=>⟨ZI.bD h f b l,bD h f b l d⟩).2
theorem ZI.len(h:ZI n ts us k):j us=j ts:=by
 induction h using ZI.ind with
 |nil=>rfl
 |bD _ _ _ _ ih=>simp[ih]
namespace P
def lX:S VW->H
 |[]=>0
 |s::r=>(if s.kind==10 then 1 else if s.kind==11 then -1 else 0)+lX r
def OG(a b:S VW):lX (a++b)=lX a+lX b:=by
 induction a with
 |nil=>simp[lX]
 |cons s r ih=>simp[lX,ih];omega
theorem VJ(ss:S VW):∀(d:H) (st:VW),tC d (ss++[st])=(tC d ss).or (if st.kind==5&&decide (0<d+lX ss)then A st.i else C):=by
 induction ss with
 |nil =>
  intro d st;simp only[List.nil_append,tC,lX,Int.add_zero,Option.none_or]
  grind
 |cons s r ih =>
  grind [tC,lX]
def ZF:S VZ->Option H
 |[]=>C
 |t::r=>(tC 0 t.S).or (ZF r)
theorem GM(a b:S VZ):ZF (a++b)=(ZF a).or (ZF b):=by
 induction a with
 |nil=>simp[ZF]
 |cons t r ih=>simp[ZF,ih,Option.or_assoc]
end P
theorem XK.lX(h:XK n l ss m):P.lX ss=0:=by
 induction h using XK.ind with
 |nil=>rfl
 |leaf t _ _ ih=>simp[P.lX,t.k10,t.k11,ih]
 |node i _ e _ ih1 ih2=>simp[P.lX,OG,i.k,e.k,ih1,ih2]
theorem YR.lX{fs:σ Fr}{q:σ VW}{ls:σ ι}(h:YR n fs q ls k):P.lX q=j fs:=by
 induction h using YR.ind with
 |nil=>rfl
 |bD _ i f ih=>simp[P.lX,OG,i.k,f.lX,ih]
def Twin.i{x:Lh}(h:Twin st x)(i:ι):Twin {st with i:=i} x:=⟨h.rd,h.wr,h.fn,h.br,h.k10,h.k11,h.acc,h.os,h.kd,h.op,h.rg,h.oa,h.ob,h.sg,h.b6⟩
structure Rel(r:Rd)(s:St):Prop where
 VY:r.count=s.count
 few:j r.H<=4
 thr:∀u∈r.H,0<u.i/\(u.block=0\/u.block=1)
 inn:s.inner=(ZF r.H).getD 0
 pos:∀l,ZF r.H=A l->0<l
 ths:r.H=[]/\s.ts=[]/\s.O=[]/\r.O=[]/\r.I=0 \/
  ∃ts us t u m k b q,s.ts=ts++[t]/\r.H=us++[u]/\ZI 0 ts us m/\XK m t.body b k/\YR k s.O q r.O r.I/\u.S=b++q/\u.block=t.block/\u.i=t.row
def Rel.jV(h:Rel r s):j r.O=j s.O:=by
 rcases h.ths with⟨_,_,c,d,_⟩|⟨ts,us,t,u,m,k,b,q,_,_,_,_,f,_⟩
 ·rw[c,d];rfl
 ·exact f.len
theorem Rel.mK(h:Rel r s):j r.H=j s.ts:=by
 rcases h.ths with⟨c,d,_⟩|⟨ts,us,t,u,m,k,b,q,c,d,f,_⟩
 ·rw[c,d];rfl
 grind [ZI.len]
theorem DV{ts:S VZ}(st:VW)(h:∀u∈ts,0<u.i/\(u.block=0\/u.block=1)):∀u∈iQ ts st,0<u.i/\(u.block=0\/u.block=1):=by
 match ts,h with
 |[],h=>intro u c;simp[iQ]at c
 |[t],h =>
  intro u c;simp[iQ]at c;subst c;exact h t (by simp)
 |t::v::q,h =>
  intro u c;simp only[iQ,List.mem_cons]at c
  rcases c with rfl|c
  ·exact h u (by simp)
  ·exact DV (ts:=v::q) st (λu c=>h u (by grind)) u c
theorem X8(st:VW)(tr:Tree)(c n:H)(i:H)(inn:H)(y:Rel r s)(ab:s.ts≠[])(hi:0<i)(hc:c=n)(ac:∀k,XK k [tr] [st] k)(hl:st.i=i)(aa:inn=if st.kind==5&&!s.O.isEmpty&&s.inner==0 then i else s.inner):
  Rel (P.put {r with count:=c} st) (R.put {s with count:=n,inner:=inn} tr):=by
 rcases y.ths with⟨h1,h2,h3,N,X⟩|⟨ts,us,t,u,m,k,b,q,h1,h2,h3,N,X,h7,h8,h9⟩
 ·exact τ h2 ab
 have ad:lX u.S=j s.O:=by rw[h7,OG,N.lX,X.lX];omega
 have M:iQ r.H st=us++[{u with S:=u.S++[st]}]:=by rw[h2,EC]
 have I:ZF (iQ r.H st)=(ZF r.H).or (if st.kind==5&&decide (0<(j s.O:H))then A i else C):=by
  grind [GM,ZF,VJ]
 have K:(!s.O.isEmpty)=decide (0<(j s.O:H)):=by
  cases s.O with
  |nil=>rfl
  |cons a l=>simp
 have x:inn=(ZF (iQ r.H st)).getD 0:=by
  rw[aa,I,<- K];have h0:=y.inn;have hp:=y.pos
  cases ho:ZF r.H with
  |none =>
   grind
  |some l =>
   rw[ho]at h0;have:=hp l ho;simp at h0;have hn:(s.inner==0)=Y:=by grind
   rw[hn,h0];simp
 have d:∀l,ZF (iQ r.H st)=A l->0<l:=by
  intro l f;rw[I]at f
  cases ho:ZF r.H with
  |none =>
   grind
  |some l' =>
   rw[ho]at f;simp at f;rw[<- f];exact y.pos _ ho
 have o:(iQ r.H st).length<=4:=by grind [Rel.few]
 unfold R.put P.put;by_cases he:s.O=[]
 ·obtain⟨e1,e2,e3⟩:=X.none he;simp only[he,x9,ξ];refine⟨hc,o,DV st y.thr,x,d,x5 ⟨ts,us,{t with body:=t.body++[tr]},{u with S:=u.S++[st]},m,k,b++[st],[],?_,M,h3,N.append (ac k),?_,?_,h8,h9⟩⟩
  ·grind [LV]
  ·grind
  ·simp[h7,e1]
 ·obtain⟨m',a,gs,p,ss,ms,ae,l,o1,o2,o3,o4,o5,o6⟩:=X.last he;have z:s.O.isEmpty=Y:=by cases hx:s.O with
   |nil=>exact τ hx he
   |cons _ _=>rfl
  simp only[z,xW,ψ];refine⟨hc,o,DV st y.thr,x,d,x5 ⟨ts,us,t,{u with S:=u.S++[st]},m,k,b,q++[st],h1,M,h3,N,?_,?_,h8,h9⟩⟩
  ·grind [NH,YR.bD,XK.append]
  ·simp[h7]
theorem X9(st:VW)(l:H)(f:Fr)(i:Rel r s)(hk:st.kind=11)(hl:r.O.getLast?=A l)(hf:s.O.getLast?=A f):
  Rel (P.put {r with O:=r.O.dropLast} {st with label:=l}) (R.put {s with O:=s.O.dropLast} (.mk (gH f.a) f.l)):=by
 have z:s.O≠[]:=by grind
 rcases i.ths with⟨h1,h2,h3,h5,h6⟩|⟨ts,us,t,u,m,k,b,q,h1,h2,h3,h5,h6,h7,h8,h9⟩
 ·exact τ h3 z
 obtain⟨c,a,X,p,ss,ms,M,tl,o1,o2,o3,o4,o5,o6⟩:=h6.last z;have ef:f=⟨tl,a⟩:=by grind
 have el:l=c+1:=by grind
 subst ef;subst el;have hs:s.O.dropLast=X:=by grind
 have hm:r.O.dropLast=ms:=by grind
 rw[hs,hm];have K:∀x,iQ r.H x=us++[{u with S:=u.S++[x]}]:=λx=>by rw[h2,EC]
 have N:XK c [.mk (gH a) tl] (M::(ss++[{st with label:=c+1}])) r.I:=XK.node o2 o3 ⟨hk,Z⟩ (.nil _);have y:ZF (iQ r.H {st with label:=c+1})=ZF r.H:=by
  grind [GM,ZF,VJ]
 have d:(iQ r.H {st with label:=c+1}).length<=4:=by grind [Rel.few]
 unfold R.put P.put;by_cases he:X=[]
 ·obtain⟨e1,e2,e3⟩:=o1.none he;subst he;simp only[x9,ξ];refine⟨i.VY,d,DV _ i.thr,by grind [Rel.inn],by simp only[y];exact i.pos,x5 ⟨ts,us,{t with body:=t.body++[.mk (gH a) tl]},{u with S:=u.S++[{st with label:=c+1}]},m,r.I,b++M::(ss++[{st with label:=c+1}]),[],?_,K _,h3,h5.append (e3▸N),?_,?_,h8,h9⟩⟩
  ·grind [LV]
  ·simp only[e2];exact .nil _
  ·simp[h7,o5,e1]
 ·obtain⟨m2,a2,aa,p2,ac,ab,ad,ae,q1,q2,q3,q4,q5,q6⟩:=o1.last he;have o:X.isEmpty=Y:=by cases hx:X with
   |nil=>exact τ hx he
   |cons _ _=>rfl
  simp only[o,xW,ψ];refine⟨i.VY,d,DV _ i.thr,by grind [Rel.inn],by simp only[y];exact i.pos,x5 ⟨ts,us,t,{u with S:=u.S++[{st with label:=c+1}]},m,k,b,q++[{st with label:=c+1}],h1,K _,h3,h5,?_,?_,h8,h9⟩⟩
  ·simp only[q4,NH,q6,o5,q5];have:=YR.bD q1 q2 (q3.append N);simpa using this
  ·simp[h7]
theorem Ya(st:VW)(a:H)(c n:H)(p:Rel r s)(i:s.ts≠[])(hk:st.kind=10)(ho:ZW st.a a)(hc:c=n):
  Rel (P.put {r with count:=c,I:=r.I+1,O:=r.O++[r.I+1]} {st with label:=r.I+1}) {s with count:=n,O:=s.O++[⟨[],a⟩]}:=by
 rcases p.ths with⟨y,d,z,K,M⟩|⟨ts,us,t,u,m,k,b,q,y,d,z,K,M,N,X,h9⟩
 ·exact τ d i
 have o:∀x,iQ r.H x=us++[{u with S:=u.S++[x]}]:=λx=>by rw[d,EC]
 have f:ZF (iQ r.H {st with label:=r.I+1})=ZF r.H:=by
  grind [GM,ZF,VJ]
 unfold P.put;refine⟨hc,by grind [Rel.few],DV _ p.thr,by grind [Rel.inn],by simp only[f];exact p.pos,x5 ⟨ts,us,t,{u with S:=u.S++[{st with label:=r.I+1}]},m,k,b,q++[{st with label:=r.I+1}],y,o _,z,K,YR.bD M ⟨hk,Z,ho⟩ (.nil _),?_,X,h9⟩⟩;simp[N]
theorem SZ(x:Lh)(c:S z)(r:S O):(how x c r).1.op=x.op:=by
 unfold how
 grind
theorem Yb(d c:O)(r:S O):¬(pV d c r).1.op.toList=[105,102]:=by
 have o:¬x0.op.toList=[105,102]:=by rw[x0,bI];decide
 have f:¬fD.toList=[105,102]:=by rw[fD,bI];decide
 unfold pV
 split
 ·grind [uR,SZ,mG,bI]
 ·split
  ·rename_i i;simp only[Bool.and_eq_true,Bool.or_eq_true,beq_iff_eq]at i
   grind [uJ,SZ]
  ·split
   ·exact f
   ·exact f
   ·exact f
theorem Yc(c:O)(w:S O):¬(jE c w).1.op.toList=[105,102]:=by
 have d:¬x0.op.toList=[105,102]:=by rw[x0,bI];decide
 unfold jE
 grind [mP,bI,SZ,jS,xN,mD,Yb]
theorem XK.VY(p:VW->Bool)(q:Lh->Bool)(h:XK n l ss m)(o:∀st x,Twin st x->q x=p st)(c:∀st,st.kind=10->p st=Y)(d:∀st,st.kind=11->p st=Y)(f:∀a,q (gH a)=Y):P.VY p ss=WF q l:=by
 induction h using XK.ind with
 |nil=>simp[P.VY,lD]
 |leaf t _ _ ih=>simp[P.VY,lD,mZ,jP,o _ _ t,ih]
 |node i _ e _ ih1 ih2=>simp[P.VY,CB,lD,mZ,jP,c _ i.k,d _ e.k,f,ih1,ih2]
def Ht(l:S VW):YY l=P.VY (λs=>s.kind==5) l:=by
 induction l with
 |nil=>rfl
 |cons s r ih=>simp only[YY,P.VY,ih]
def eZ(n:H)(ts:S R.Th)(us:S VZ)(k:H):Prop :=
 ∀M:H->S R.Th->S VZ->H->Prop,(∀n:H,M n [] [] n) ->
  (∀(n m k:H) (ts:S R.Th) (us:S VZ) (t:R.Th) (u:VZ),XK n t.body u.S m->u.block=t.block->u.i=t.row->M m ts us k->M n (t::ts) (u::us) k)->M n ts us k
def eZ.nil(n:ι):eZ n [] [] n:=λ_ c _=>c n
def eZ.cons{u:VZ}(f:XK n t.body u.S m)(b:u.block=t.block)(l:u.i=t.row)(h:eZ m ts us k):eZ n (t::ts) (u::us) k :=
 λM d c=>c _ _ _ _ _ _ _ f b l (h M d c)
def eZ.ind{c:∀(n:ι) (ts:σ R.Th) (us:σ VZ) (k:ι),eZ n ts us k->Prop}(nil:∀n:ι,c n [] [] n (eZ.nil n))(cons:∀{n m k:ι} {ts:σ R.Th} {us:σ VZ} {t:R.Th} {u:VZ} (f:XK n t.body u.S m) (b:u.block=t.block) (l:u.i=t.row) (h:eZ m ts us k),c m ts us k h->c n (t::ts) (u::us) k (eZ.cons f b l h)){n:ι}{ts:σ R.Th}{us:σ VZ}{k:ι}(h:eZ n ts us k):c n ts us k h :=
 (h (λn ts us k=>∃h:eZ n ts us k,c n ts us k h) (λn=>⟨_,nil n⟩) λ_ _ _ _ _ _ _ f b l ⟨h,d⟩=>⟨eZ.cons f b l h,cons f b l h d⟩).2
def eZ.append{vs:σ R.Th}{c:σ VZ}(h:eZ n ts us m)(g:eZ m vs c k):eZ n (ts++vs) (us++c) k:=by
 induction h using eZ.ind with
 |nil=>simpa using g
 |cons f b l _ ih=>simpa using eZ.cons f b l (ih g)
def ZI.toC(h:ZI n ts us k):eZ n ts us k:=by
 induction h using ZI.ind with
 |nil=>exact .nil _
 |bD _ f b l ih=>exact ih.append (.cons f b l (.nil _))
theorem eZ.XL(p:VW->Bool)(q:Lh->Bool)(h:eZ n ts us k)(o:∀st x,Twin st x->q x=p st)(c:∀st,st.kind=10->p st=Y)(d:∀st,st.kind=11->p st=Y)(i:∀a,q (gH a)=Y):P.XL p us=eY q ts:=by
 induction h using eZ.ind with
 |nil=>rfl
 |cons f _ _ _ ih=>simp only[P.XL,eY,f.VY p q o c d i,ih]
def vC(a:H):(gH a).op.toList=[105,102]:=by simp[gH,sIf,bI]
theorem Yd(h:eZ n ts us k):DS ts=!P.lK us:=by
 unfold DS lK;rw[h.XL _ _ (λ_ _ t=>t.rd) λst c=>by simp[P.XG,P.aZ,c] λst c=>by simp[P.XG,P.aZ,c] λa=>by simp[R.XG,vC,mG,bI,qQ,qZ],h.XL _ _ (λ_ _ t=>t.wr) λst c=>by simp[P.XI,rP,c] λst c=>by simp[P.XI,rP,c] λa=>by simp[R.XI,vC,mD,bI,qQ,qZ],h.XL _ _ (λ_ _ t=>t.fn) λst c=>by simp[P.XC,c] λst c=>by simp[P.XC,c] λa=>by simp[R.XC,vC,jS,bI]]
 grind
def Hu(h:XK n l ss m):YY ss=WF isB l:=by
 rw[Ht];exact h.VY _ _ (λ_ _ t=>t.br) λst c=>by simp[c] λst c=>by simp[c] λa=>by simp[isB,vC,mP,bI]
namespace P
def iX(b:H):S VZ->H
 |[]=>-1
 |t::r=>if t.block==b then YY t.S else iX b r
theorem Ye(b:H)(l:S VZ):mO b l=if iX b l<0 then 0 else iX b l:=by
 induction l with
 |nil=>rfl
 |cons t r ih =>
  simp only[mO,iX]
  split
  ·simp_all [zJ,θ]
  ·exact ih
def Hv(b:H)(l:S VZ):-1<=iX b l:=by
 induction l with
 |nil=>simp[iX]
 |cons t r ih =>
  simp only[iX]
  split
  ·have:=(zJ t.S).1;omega
  ·exact ih
theorem DW(b:H)(l m:S VZ):iX b (l++m)=if iX b l<0 then iX b m else iX b l:=by
 induction l with
 |nil=>rfl
 |cons t r ih =>
  simp only[xa,iX]
  split
  ·simp_all [zJ,θ]
  ·exact ih
end P
def Yf(h:eZ n ts us k):∀pre:S VZ,(∀u∈us,u.block=0\/u.block=1) ->
  lV (pre++us) us=rT (iX 0 pre) (iX 1 pre) ts:=by
 induction h using eZ.ind with
 |nil=>intro _ _;rfl
 | @cons n m k ts us t u f b l _ ih =>
  intro pre d;have i:=Hu f;have p:=(zJ u.S).1;have c:=ih (pre++[u]) λv o=>d v (by simp[o]);rw[List.append_assoc,List.singleton_append]at c;have G:mO u.block (pre++u::us)=iX u.block (pre++[u]):=by
   rw[Ye,DW,DW];simp only[iX,γ,ξ];omega
  simp only[lV,rT];rw[G,<- i,<- b,<- l,c,DW,DW]
  rcases d u (by simp)with e|e
  ·rw[e,DW];simp only[iX,e,γ,ξ,show((0:H)==1)=Y from rfl,xW,ψ];have e1:(if iX 1 pre<0 then(-1:H)else iX 1 pre)=iX 1 pre:=by
    have:=Hv 1 pre
    split<;>omega
   rw[e1,bne_comm]
  ·rw[e,DW];simp only[iX,e,γ,ξ,show((1:H)==0)=Y from rfl,xW,ψ];have e1:(if iX 0 pre<0 then(-1:H)else iX 0 pre)=iX 0 pre:=by
    have:=Hv 0 pre
    split<;>omega
   rw[e1,bne_comm]
theorem Rel.whole(h:Rel r s)(x:s.O=[]):∃k,eZ 0 s.ts r.H k:=by
 rcases h.ths with⟨c,d,_⟩|⟨ts,us,t,u,m,k,b,q,c,d,f,y,i,z,o,p⟩
 ·exact⟨0,by rw[c,d];exact .nil 0⟩
 ·obtain⟨e1,e2,e3⟩:=i.none x;refine⟨k,?_⟩;rw[c,d];refine f.toC.append (.cons ?_ o p (.nil _))
  grind
theorem Yg(all:S VZ)(l:S VZ)(h:∀u∈l,0<u.i):0<=lV all l:=by
 induction l with
 |nil=>simp[lV]
 |cons t r ih =>
  grind [lV]
namespace R
def Yh(c d:H)(t:Th)(r:S Th)(h:t.block=0):rT c d (t::r)=if(if c<0 then WF isB t.body else c) != WF isB t.body||decide (2<WF isB t.body)then t.row else rT (if c<0 then WF isB t.body else c) d r:=by
 simp[rT,h]
def Yi(d c:H)(t:Th)(r:S Th)(h:t.block=1):rT d c (t::r)=if(if c<0 then WF isB t.body else c) != WF isB t.body||decide (2<WF isB t.body)then t.row else rT d (if c<0 then WF isB t.body else c) r:=by
 simp[rT,h]
end R
def Yj{a b:ω}(h:w.heap[g]?=A (.cells #[a,b] 3 (0,0))):w.cell? ⟨g,0,C⟩=A a/\w.cell? ⟨g,1,C⟩=A b/\w.frozen? ⟨g,0,C⟩=Y/\w.frozen? ⟨g,1,C⟩=Y:=by
 refine⟨by simp[World.cell?,h],by simp[World.cell?,h],by simp[x8,h],by simp[x8,h]⟩
theorem Yk(B I n K:ζ)(ts:σ R.Th)(vs:σ ω)(Fs:σ (σ ζ))(w:π)(h:ThsAt w B (VV I n K) ts vs Fs)(hn:n=j ts)(ae:n<10)(hs:∀t∈ts,WV t.body<10000)(hb:∀t∈ts,t.block=0\/t.block=1):
  ε κ 19 #[VV I n K] w λe w'=>e=W (D T (vD ts))/\η (J (V w)) w w':=by
 have HA:=aD h;have O:=aD hn;have HS:=aD hs;have HB:=aD hb;clear h hn hs hb;go_in;go_wp2;go_loopw[4] (λi wr=>∃(k:ζ) (d f:ι),k<=n/\i=D T k/\aC (vD ts=rT d f (ts.drop k))/\(-1<=d/\d<10000/\-1<=f/\f<10000)/\wr.heap[J (V w)]?=A (.cells #[D T d,D T f] 3 (0,0))/\η (J (V w)) w wr) λi _=>n-(intOf i).toNat
 case atStart=>exact⟨0, -1, -1,Nat.zero_le _,Z,Z,by decide,heap_alloc_new w _,bB⟩
 case round =>
  obtain⟨k,d,f,hk,rfl,S,hf,N,c⟩:=hrel;by_cases hlt:k<n
  ·have y:k<j ts:=by rw[<- O.o];exact hlt
   obtain⟨H,u,c0,c1,c2,HC⟩:=HA.get O HS k y;have d0:=cK c H c0;have d1:=cK c H c1;have d2:=cK c H c2;have hz:=HS.o ts[k] (xb y);unfold WV at hz;have e1:=gO isB ts[k].body;have HD:=aD (CZ ts k y);have C1:aC (ε κ 21 #[u,L ⟨#[98,97,114,114,105,101,114]⟩,L ⟨#[]⟩] wr λe w'=>e=W (D T (WF isB ts[k].body))/\η (J (V wr)) wr w'):=by
    have:=HC.o ⟨#[98,97,114,114,105,101,114]⟩ ⟨#[]⟩ wr c;rw[bI,bI]at this;rw[G9];exact this
   have M:=HB.o ts[k] (xb y);have ab:J (V w)<J (V wr):=by
    grind
   have ad:=lI hlt;generalize ts[k]=t at*;generalize hN:WF isB t.body=nb at*;have ac:0<=nb/\nb<10000:=by omega
   rcases M with x|x
   case' inl =>
    have z:=Yh d f t (ts.drop (k+1)) x;rw[hN,<- HD.o,<- S.o]at z;by_cases hneg:d<0
    case' neg =>
     by_cases hdiff:d=nb
   case' inr =>
    have z:=Yi d f t (ts.drop (k+1)) x;rw[hN,<- HD.o,<- S.o]at z;by_cases hneg:f<0
    case' neg =>
     by_cases hdiff:f=nb
   all_goals
    by_cases hbig:2<nb
    all_goals
     rw[x]at d0
     try subst hdiff
     first|rw[if_pos hneg]at z|rw[θ hneg]at z
     first|simp[hbig,hdiff]at z|simp[hbig]at z
     have HR:=aD z;go_wp2_with(first|(go_at_call 21;refine C1.mono ?_;rintro e w1 ⟨rfl,p⟩;have q1:=cK p (by show I<_;omega) d0;have q2:=cK p (by show I<_;omega) d2;have q3:=(p.block (J (V w)) ab).trans N;obtain⟨p1,p2,p3,p4⟩:=Yj q3;have aa:I≠J (V w):=(by omega);have q5:=λ(i:ζ) (u:ω)=>(fC (w:=w1) (g:=J (V w)) (i:=i) (b:=I) (o:=k*3+2) (u:=u) aa).trans q2;have q:η (J (V w)) w w1:=c.trans (p.mono (by omega))))
     first
      |(go_ret
        rw[HR.o]
        first|exact⟨Z,q⟩|exact⟨Z,q.setCell (xF _) _⟩)
      |(go_roundw
        case rel=>first|exact⟨k+1,_,_,by omega,by go_num,HR,hf,q3,q⟩|exact⟨k+1,_,_,by omega,by go_num,HR,by omega,by rw[cI q3];rfl,q.setCell (xF _) _⟩
        case measure=>simp[intOf];omega)
  ·have X:aC (vD ts=0):=by
    unfold aC;rw[S.o,List.drop_eq_nil_of_le (by have:=O.o;omega)];rfl
   go_wp2;go_ret;rw[X.o];exact⟨Z,c⟩
namespace R
def ZY:S Fr->H
 |[]=>0
 |f::r=>1+WV f.l+ZY r
def Af:S Th->H
 |[]=>0
 |[t]=>WV t.body
 |_::u::r=>Af (u::r)
theorem UJ(ts:S Th)(t:Th):Af (ts++[t])=WV t.body:=by
 induction ts with
 |nil=>rfl
 |cons a r ih=>cases r with
  |nil=>rfl
  |cons b q=>simpa[Af]using ih
theorem EN(fs:S Fr)(f:Fr):ZY (fs++[f])=ZY fs+(1+WV f.l):=by
 induction fs with
 |nil=>simp[ZY]
 |cons a r ih=>simp only[xa,ZY,ih];omega
def FO(l:S Tree):0<=WV l:=(gO (λ_=>U) l).1
def SK(fs:S Fr):0<=ZY fs:=by
 induction fs with
 |nil=>simp[ZY]
 |cons f r ih=>have:=FO f.l;simp only[ZY];omega
theorem VL:∀ts:S Th,0<=Af ts
 |[]=>by simp[Af]
 |[t]=>by simp_all [Af,FO]
 |_::u::r=>by simpa[Af]using VL (u::r)
theorem JA(l:S Tree)(x:Lh)(b:S Tree):WV (l++[.mk x b])=WV l+(1+WV b):=by
 simp_all [WV,SH,lD,mZ,jP]
end R
theorem Yl{v:ω}{n:ζ}(h:w.ownsRow B e sz v n xs)(k:w.ownsRow B e sz v n ys):xs=ys:=by
 rcases h.2 with⟨e1,x⟩|⟨g,c,f,e1,_,y,_,_,_,z⟩
 ·have a:=h.1;have b:=k.1
  simp_all
 ·rcases k.2 with⟨e2,_⟩|⟨q,p,d,e2,_,i,_,_,_,o⟩
  ·grind
  grind
theorem Hw{k n c:ζ}(h:w.ownsRow B e sz (VV k (n+1) c) (n+1) (xs++ys))(x:j xs=n*sz):w.ownsRow B e sz (VV k n c) n xs:=by
 rcases h.2 with⟨i,_⟩|⟨I,q,d,i,y,z,H,o,p,f⟩
 ·simp at i
 ·simp only[Value.slice.injEq,Option.some.injEq,Addr.mk.injEq,and_true,true_and]at i;obtain⟨rfl,rfl⟩:=i;refine⟨x,.inr ⟨k,c,d,Z,y,z,by omega,o,p,?_⟩⟩;have e:d.toList.take (n*sz)=(d.toList.take ((n+1)*sz)).take (n*sz):=by
   grind
  rw[e,f,<- x];simp
theorem WX.iL{v:ω}(h:WX w B v l F):∀k∈F,∃cur,w.heap[k]?=A (.cells cur 52 (0,0)):=by
 induction h using WX.ind with
 | @row v l vs Fs ho hv hF hc hn ih =>
  intro k c;simp only[List.mem_append,List.mem_flatten,Option.mem_toList]at c
  rcases c with c|⟨F,d,c⟩
  ·exact gK ho c
  ·obtain⟨i,p,e⟩:=List.mem_iff_getElem.1 d;have f:i<j l:=by omega
   have o:i<j vs:=by omega
   exact ih i l[i] vs[i] F (by simp[f]) (by simp[o]) (by grind) k c
def WX.zT{v:ω}(h:WX w B v l F):∃xs,w.ownsRow B 52 9 v (j l) xs:=by
 cases h using WX.cs with
 |row ho _ _ _ _=>exact⟨_,ho⟩
def XX(w:π)(B:ζ)(vs:S ω)(ls:S (S Tree))(G:S ζ):Prop :=
 ∀M:S ω->S (S Tree)->S ζ->Prop,M [] [] []->(∀(vs:S ω) (ls:S (S Tree)) (G:S ζ) (u:ω) (l:S Tree) (F:S ζ),M vs ls G->WX w B u l F->(∀k∈F,k∉G)->M (vs++[u]) (ls++[l]) (G++F))->M vs ls G
def XX.nil:XX w B [] [] []:=λ_ c _=>c
def XX.bD(h:XX w B vs ls G)(g:WX w B u l F)(d:∀k∈F,k∉G):XX w B (vs++[u]) (ls++[l]) (G++F):=
 λM f c=>c _ _ _ _ _ _ (h M f c) g d
def XX.ind{w:π}{B:ζ}{c:∀(vs:σ ω) (ls:σ (σ Tree)) (G:σ ζ),XX w B vs ls G->Prop}(nil:c [] [] [] XX.nil)(bD:∀{vs:σ ω} {ls:σ (σ Tree)} {G:σ ζ} {u:ω} {l:σ Tree} {F:σ ζ} (h:XX w B vs ls G) (g:WX w B u l F) (d:∀k∈F,k∉G),c vs ls G h->c (vs++[u]) (ls++[l]) (G++F) (XX.bD h g d)){vs:σ ω}{ls:σ (σ Tree)}{G:σ ζ}(h:XX w B vs ls G):c vs ls G h :=
 (h (λvs ls G=>∃h:XX w B vs ls G,c vs ls G h) ⟨_,nil⟩ λ_ _ _ _ _ _ ⟨h,f⟩ g d=>⟨XX.bD h g d,bD h g d f⟩).2
def XX.cs{w:π}{B:ζ}{c:∀(vs:σ ω) (ls:σ (σ Tree)) (G:σ ζ),XX w B vs ls G->Prop}(nil:c [] [] [] XX.nil)(bD:∀{vs:σ ω} {ls:σ (σ Tree)} {G:σ ζ} {u:ω} {l:σ Tree} {F:σ ζ} (h:XX w B vs ls G) (g:WX w B u l F) (d:∀k∈F,k∉G),c (vs++[u]) (ls++[l]) (G++F) (XX.bD h g d)){vs:σ ω}{ls:σ (σ Tree)}{G:σ ζ}(h:XX w B vs ls G):c vs ls G h:=XX.ind nil (λh g d _=>bD h g d) h
def XX.len(h:XX w B vs ls G):j vs=j ls:=by
 induction h using XX.ind with
 |nil=>rfl
 |bD _ _ _ ih=>simp[ih]
theorem XX.last(h:XX w B (vs++[u]) (ls++[l]) G):∃Ga F,G=Ga++F/\XX w B vs ls Ga/\WX w B u l F/\∀k∈F,k∉Ga:=by
 generalize c:vs++[u]=f at h;generalize i:ls++[l]=d at h
 cases h using XX.cs with
 |nil=>simp at c
 |bD h1 h2 h3 =>
  grind [List.append_inj']
def XX.keep(h:XX w B vs ls G)(f:∀k∈G,w'.heap[k]?=w.heap[k]?):XX w' B vs ls G:=by
 induction h using XX.ind with
 |nil=>exact .nil
 |bD h1 h2 h3 ih=>exact .bD (ih λk d=>f k (List.mem_append_left _ d)) (h2.keep λk c=>f k (xc _ c)) h3
theorem XX.iL(h:XX w B vs ls G):∀k∈G,∃cur,w.heap[k]?=A (.cells cur 52 (0,0)):=by
 induction h using XX.ind with
 |nil=>simp
 |bD h1 h2 h3 ih =>
  grind [WX.iL]
theorem XX.lt(h:XX w B vs ls G):∀k∈G,k<J (V w):=λk c=>by
 grind [XX.iL]
theorem XX.all(h:XX w B vs ls G):∃c:σ (σ ζ),j c=j ls/\∀(i:ζ) (l:σ Tree) (u:ω) (F:σ ζ),ls[i]?=A l->vs[i]?=A u->c[i]?=A F->WX w B u l F:=by
 induction h using XX.ind with
 |nil=>exact⟨[],Z,by simp⟩
 | @bD vs ls G u l F h1 h2 h3 ih =>
  obtain⟨c,e,q⟩:=ih;have x:=h1.len;refine⟨c++[F],by simp[e],λi y z p f o d=>?_⟩;by_cases hi:i<j ls
  ·grind
  ·grind
theorem XX.put{i:ω}{x:Lh}(h:XX w B (vs++[u]) (ls++[l]) G)(X:WX w B bv b F)(hd:∀k∈F,k∉G)(hx:w.ownsRow B 52 9 u (j l) xs)(ho:w'.ownsRow B 52 9 i (j l+1) (xs++(cO x bv).toList))(hk:∀k,k<J (V w)->A k≠u.ownBlock->(∃cur,w.heap[k]?=A (.cells cur 52 (0,0)))->w'.heap[k]?=w.heap[k]?)(p:i.ownBlock=u.ownBlock\/∀k,i.ownBlock=A k->J (V w)<=k):
  ∃G',XX w' B (vs++[i]) (ls++[l++[.mk x b]]) G':=by
 obtain⟨z,H,rfl,N,I,O⟩:=h.last;have d:∀k,k∈z\/k∈H\/k∈F->A k≠u.ownBlock->w'.heap[k]?=w.heap[k]?:=λk K f=>by
  grind [XX.iL,WX.iL]
 obtain⟨F',o,M⟩:=WX.bD (x:=x) I X (λk y S=>hd k S (xc _ y)) λvs ab=>by grind [Yl] (λk K f=>d k (x5 K) f) p;have q:∀k∈z,A k≠u.ownBlock:=λk c e=>O k (I.own k e.symm) c
 refine⟨_,.bD (N.keep λk c=>d k (Or.inl c) (q k c)) o λk aa c=>?_⟩
 grind [XX.lt]
def XN.fs{x:Lh}(h:XN w g x bv):g<J (V w)/\(∀i,w.frozen? ⟨g,i,C⟩=Y)/\∀i,w.cell? ⟨g,i,C⟩=#[Value.string x.op,D T x.VX,D T x.z,D T x.a,D T x.b,L x.sign,L x.ord,L x.scope,bv][i]? :=
 ⟨h.lt,λi=>by unfold XN at h;simp[x8,h],cA h⟩
theorem XN.cY{z:Lh}{d:ω}(t:Lh)(c:ω)(h:XN w g z d):
  XN (((((((((w.setCell ⟨g,0,C⟩ (L t.op)).setCell ⟨g,1,C⟩ (D T t.VX)).setCell ⟨g,2,C⟩ (D T t.z)).setCell ⟨g,3,C⟩ (D T t.a)).setCell ⟨g,4,C⟩ (D T t.b)).setCell ⟨g,5,C⟩ (L t.sign)).setCell ⟨g,6,C⟩ (L t.ord)).setCell ⟨g,7,C⟩ (L t.scope)).setCell ⟨g,8,C⟩ c) g t c:=by
 unfold XN at*;have f:=cI h 0 (L t.op);have i:=cI f 1 (D T t.VX);have o:=cI i 2 (D T t.z);have p:=cI o 3 (D T t.a);have q:=cI p 4 (D T t.b);have x:=cI q 5 (L t.sign);have y:=cI (cI (cI x 6 (L t.ord)) 7 (L t.scope)) 8 c
 simp_all [cO]
def qK{d:π}(t:Lh)(f:ω)(h:η B d w)(c:B<=g):η B d (((((((((w.setCell ⟨g,0,C⟩ (L t.op)).setCell ⟨g,1,C⟩ (D T t.VX)).setCell ⟨g,2,C⟩ (D T t.z)).setCell ⟨g,3,C⟩ (D T t.a)).setCell ⟨g,4,C⟩ (D T t.b)).setCell ⟨g,5,C⟩ (L t.sign)).setCell ⟨g,6,C⟩ (L t.ord)).setCell ⟨g,7,C⟩ (L t.scope)).setCell ⟨g,8,C⟩ f):=
 x4 (x4 (x4 (x4 (x4 (x4 (x4 (x4 (x4 h c _) c _) c _) c _) c _) c _) c _) c _) c _
theorem VB(x:Lh)(o:S z)(c:S O):(how x o c).1.z=x.z:=by
 unfold how
 grind
def Ym(b off n i:ζ)(c p v:ν)(r:σ ν)(w:π)(hw:XO w b off (c::p::v::r))(hn:(c::p::v::r).length=n)(hc:n<=i)(d:b<J (V w))(h4:4<=n)(ad:(c.toList==[98,97,114,114,105,101,114])=Y)(ae:(c.toList==[102,101,110,99,101])=Y)(hk:(c.toList==[115,116,111,114,101])=U):
  ε κ 18 #[E (A ⟨b,off,C⟩) n i] w λe w'=>e=W (rF (xN p v r))/\η (J (V w)) w w':=by
 obtain⟨hd,_,af⟩:=hw.head;have S:0<n:=by omega
 have aa:(1:ι)<n:=by omega
 have ab:(2:ι)<n:=by omega
 have ac:(3:ι)<n:=by omega
 have I:j r=n-3:=by simp at hn;omega
 have x:¬i=3:=by omega
 have S0:=aD (StAt.start w b off (c::p::v::r) {x0 with op:=mD} hw);obtain⟨O,_,_⟩:=af.head;go_in;go_wp2_with fail;refine(lZ p dM _ _ Z (by simp)).mono ?_;rintro e w1 ⟨rfl,M⟩;have s1:=StAt.X S0 M;obtain⟨f1,f2,c0⟩:=s1.xat.fs;have d2:=s1.words 2 v Z;have S1:=aD s1;go_wp2_with fail;refine(yO v _).mono ?_;rintro e w2 ⟨rfl,N⟩;have s2:=(S1.set {x0 with op:=mD,z:=inn p.toList dM} d 2 _ Z).X N;obtain⟨f1,f2,c0⟩:=s2.xat.fs;have S2:=aD s2;go_wp2_with fail;have s3:=S2.set {x0 with op:=mD,z:=inn p.toList dM,a:=(bV v.toList).1} d 3 (D T (bV v.toList).1) Z;refine(GP (J (V w)+1) b _ _ _ {x0 with op:=mD,z:=inn p.toList dM,a:=(bV v.toList).1} (E C 0 0) R.oStore _ r _ (by exact s3.xat) (by exact s3.words.drop 3) I (by omega) Z (by simp)).mono ?_;rintro e w3 ⟨rfl,ag,y⟩;have s4:=s3.how d ag y;obtain⟨f1,f2,c0⟩:=s4.xat.fs;obtain⟨e1,e2,r0⟩:=s4.res.fs;have f:=aD s4;have hv:=VB {x0 with op:=mD,z:=inn p.toList dM,a:=(bV v.toList).1} R.oStore r;have K:aC (xN p v r=((how {x0 with op:=mD,z:=inn p.toList dM,a:=(bV v.toList).1} R.oStore r).1,(bV v.toList).2&&(how {x0 with op:=mD,z:=inn p.toList dM,a:=(bV v.toList).1} R.oStore r).2&&decide (0<=inn p.toList dM))):=Z;generalize how {x0 with op:=mD,z:=inn p.toList dM,a:=(bV v.toList).1} R.oStore r=H at*;generalize inn p.toList dM=iv at*;generalize(bV v.toList).2=ok at*;have HV:=aD hv;clear hv hd O S aa ab ac I x ad ae hk;cases ok
 ·go_wp2_with fail;go_region
  all_goals go_wp2
  all_goals exact lA (p:=2) (u:=3) (J (V w)) H.1 _ (by kernel_rfl) Z Z (by exact(f.res.cY H.1 (E C 0 0)).drew) Z ⟨by rw[K.o];rfl,(qK H.1 (E C 0 0) f.bel (xF _)).drew⟩
 generalize q:H.2=h2 at*;have ah:=aD q;clear q;cases h2
 ·go_wp2_with fail;go_region
  all_goals go_wp2
  all_goals exact lA (p:=2) (u:=3) (J (V w)) H.1 _ (by kernel_rfl) Z Z (by exact(f.res.cY H.1 (E C 0 0)).drew) Z ⟨by rw[K.o];simp,(qK H.1 (E C 0 0) f.bel (xF _)).drew⟩
 by_cases hiv:0<=H.1.z
 ·go_wp2_with fail;go_region
  all_goals go_wp2
  all_goals exact lA (p:=2) (u:=3) (J (V w)) H.1 _ (by kernel_rfl) Z Z (by exact(f.res.cY H.1 (E C 0 0)).drew) Z ⟨by have:=HV.o;rw[K.o,<- this];simp[hiv],(qK H.1 (E C 0 0) f.bel (xF _)).drew⟩
 ·go_wp2_with fail;go_region
  all_goals go_wp2
  all_goals exact lA (p:=2) (u:=3) (J (V w)) H.1 _ (by kernel_rfl) Z Z (by exact(f.res.cY H.1 (E C 0 0)).drew) Z ⟨by have:=HV.o;rw[K.o,<- this];simp,(qK H.1 (E C 0 0) f.bel (xF _)).drew⟩
theorem Yn(b off n y:ζ)(c e d p:ν)(r:σ ν)(w:π)(hw:XO w b off (c::e::d::p::r))(hn:(c::e::d::p::r).length=n)(hc:n<=y)(i:b<J (V w))(an:5<=n)(ai:(c.toList==[98,97,114,114,105,101,114])=Y)(aj:(c.toList==[102,101,110,99,101])=Y)(ak:(c.toList==[115,116,111,114,101]&&decide (4<=n))=Y)(he:(e.toList==[61])=U)(hd:(d.toList==[108,111,97,100])=U):
  ε κ 18 #[E (A ⟨b,off,C⟩) n y] w λe w'=>e=W (rF (uR c p r))/\η (J (V w)) w w':=by
 obtain⟨ac,_,al⟩:=hw.head;have ad:0<n:=by omega
 have ae:(1:ι)<n:=by omega
 have af:(2:ι)<n:=by omega
 have ag:(3:ι)<n:=by omega
 have ah:(4:ι)<n:=by omega
 have N:¬(n:ι)<3:=by omega
 have S:j r=n-4:=by simp at hn;omega
 have K:¬y=4:=by omega
 have O:(c.toList==[115,116,111,114,101])=Y:=by
  grind
 have S0:=aD (StAt.start w b off (c::e::d::p::r) x0 hw);obtain⟨aq,_,_⟩:=al.head;have ap:=NZ c.toList regs;go_in;go_wp2_with fail;refine(lZ c regs _ _ Z (by simp)).mono ?_;rintro e w1 ⟨rfl,aa⟩;have s1:=StAt.X S0 aa;obtain⟨f1,f2,c0⟩:=s1.xat.fs;have d2:=s1.words 2 d Z;have d3:=s1.words 3 p Z;have S1:=aD s1;go_wp2_with fail;have s2:=(S1.set {x0 with VX:=inn c.toList regs} i 1 (D T (inn c.toList regs)) Z).set {x0 with VX:=inn c.toList regs,op:=mG} i 0 (L mG) Z;refine(lZ p dM _ _ Z (by simp)).mono ?_;rintro e w2 ⟨rfl,ab⟩;have s3:=s2.X ab;obtain⟨f1,f2,c0⟩:=s3.xat.fs;have S3:=aD s3;go_wp2_with fail;have s5:=S3.set {x0 with VX:=inn c.toList regs,op:=mG,z:=inn p.toList dM} i 2 (D T (inn p.toList dM)) Z;refine(GP (J (V w)+1) b _ _ _ {x0 with VX:=inn c.toList regs,op:=mG,z:=inn p.toList dM} (E C 0 0) R.oLoad _ r _ (by exact s5.xat) (by exact s5.words.drop 4) S (by omega) Z (by simp)).mono ?_;rintro e w5 ⟨rfl,am,M⟩;have s6:=s5.how i am M;obtain⟨f1,f2,c0⟩:=s6.xat.fs;obtain⟨e1,e2,r0⟩:=s6.res.fs;have x:=aD s6;have hv:=VB {x0 with VX:=inn c.toList regs,op:=mG,z:=inn p.toList dM} R.oLoad r;have HE:aC (uR c p r=((how {x0 with VX:=inn c.toList regs,op:=mG,z:=inn p.toList dM} R.oLoad r).1,decide (0<=inn c.toList regs)&&(how {x0 with VX:=inn c.toList regs,op:=mG,z:=inn p.toList dM} R.oLoad r).2&&decide (0<=inn p.toList dM))):=Z;generalize how {x0 with VX:=inn c.toList regs,op:=mG,z:=inn p.toList dM} R.oLoad r=H at*;generalize inn p.toList dM=iv at*;generalize inn c.toList regs=ir at*;have HV:=aD hv;clear hv ac ad ae af ag ah N S K ai aj ak O he;generalize I:H.2=h2 at*;have ao:=aD I;clear I;by_cases hir:0<=ir
 rotate_left
 ·have f:decide (0<=ir)=Y:=φ hir;go_wp2_with fail;go_region
  all_goals go_wp2
  all_goals exact lA (p:=2) (u:=3) (J (V w)) H.1 _ (by kernel_rfl) Z Z (by exact(x.res.cY H.1 (E C 0 0)).drew) Z ⟨by rw[HE.o];simp[f],(qK H.1 (E C 0 0) x.bel (xF _)).drew⟩
 have f:decide (0<=ir)=U:=ρ hir;cases h2
 ·go_wp2_with fail;go_region
  all_goals go_wp2
  all_goals exact lA (p:=2) (u:=3) (J (V w)) H.1 _ (by kernel_rfl) Z Z (by exact(x.res.cY H.1 (E C 0 0)).drew) Z ⟨by rw[HE.o];simp[f],(qK H.1 (E C 0 0) x.bel (xF _)).drew⟩
 by_cases hiv:0<=H.1.z
 ·have q:decide (0<=H.1.z)=U:=ρ hiv;go_wp2_with fail;go_region
  all_goals go_wp2
  all_goals exact lA (p:=2) (u:=3) (J (V w)) H.1 _ (by kernel_rfl) Z Z (by exact(x.res.cY H.1 (E C 0 0)).drew) Z ⟨by have:=HV.o;rw[HE.o,<- this];simp[f,q],(qK H.1 (E C 0 0) x.bel (xF _)).drew⟩
 ·have q:decide (0<=H.1.z)=Y:=φ hiv;go_wp2_with fail;go_region
  all_goals go_wp2
  all_goals exact lA (p:=2) (u:=3) (J (V w)) H.1 _ (by kernel_rfl) Z Z (by exact(x.res.cY H.1 (E C 0 0)).drew) Z ⟨by have:=HV.o;rw[HE.o,<- this];simp[f,q],(qK H.1 (E C 0 0) x.bel (xF _)).drew⟩
def Yo(b off n I:ζ)(c e d p v:ν)(r:σ ν)(w:π)(hw:XO w b off (c::e::d::p::v::r))(hn:(c::e::d::p::v::r).length=n)(hc:n<=I)(i:b<J (V w))(ax:6<=n)(au:(c.toList==[98,97,114,114,105,101,114])=Y)(av:(c.toList==[102,101,110,99,101])=Y)(K:(c.toList==[115,116,111,114,101]&&decide (4<=n))=Y)(he:(e.toList==[61])=U)(aB:(d.toList==[108,111,97,100])=Y)(hd:(d.toList==[97,100,100])=U\/(d.toList==[97,100,100])=Y/\(d.toList==[115,119,97,112])=U):
  ε κ 18 #[E (A ⟨b,off,C⟩) n I] w λe w'=>e=W (rF (uJ c d p v r))/\η (J (V w)) w w':=by
 rcases hd with hd|⟨aA,hd⟩
 all_goals
  obtain⟨al,_,ai⟩:=hw.head;have an:0<n:=by omega
  have ao:(1:ι)<n:=by omega
  have ap:(2:ι)<n:=by omega
  have aq:(3:ι)<n:=by omega
  have ar:(4:ι)<n:=by omega
  have aE:(5:ι)<n:=by omega
  have af:¬(n:ι)<3:=by omega
  have ah:j r=n-5:=by simp at hn;omega
  have ae:¬I=5:=by omega
  have ag:(c.toList==[115,116,111,114,101])=Y:=by
   have h4:decide (4<=n)=U:=by simp;omega
   rw[h4]at K;simpa using K
  have S0:=aD (StAt.start w b off (c::e::d::p::v::r) x0 hw);obtain⟨am,_,_⟩:=ai.head;have az:=NZ c.toList regs;clear hn hw ai;go_in;go_wp2_with fail;refine(lZ c regs _ _ Z (by simp)).mono ?_;rintro e w1 ⟨rfl,ab⟩;have s1:=StAt.X S0 ab;obtain⟨O,S,N⟩:=s1.xat.fs;have d2:=s1.words 2 d Z;have d3:=s1.words 3 p Z;have S1:=aD s1;clear s1 ab S0 am;go_wp2_with fail;have s2:=(S1.set {x0 with VX:=inn c.toList regs} i 1 (D T (inn c.toList regs)) Z).set {x0 with VX:=inn c.toList regs,op:=d} i 0 (L d) Z;refine(lZ p dM _ _ Z (by simp)).mono ?_;rintro e w2 ⟨rfl,ac⟩;have s3:=s2.X ac;clear N O S;obtain⟨O,S,N⟩:=s3.xat.fs;have d4:=s3.words 4 v Z;have S3:=aD s3;clear s3 s2 ac S1 d2 d3;go_wp2_with fail;have s4:=S3.set {x0 with VX:=inn c.toList regs,op:=d,z:=inn p.toList dM} i 2 (D T (inn p.toList dM)) Z;refine(yO v _).mono ?_;rintro e w3 ⟨rfl,ad⟩;have M:=s4.X ad;clear N O S;obtain⟨O,S,N⟩:=M.xat.fs;have ak:=aD M;clear s4 M ad S3 d4;go_wp2_with fail;have s5:=ak.set {x0 with VX:=inn c.toList regs,op:=d,z:=inn p.toList dM,a:=(bV v.toList).1} i 3 (D T (bV v.toList).1) Z;refine(GP (J (V w)+1) b _ _ _ {x0 with VX:=inn c.toList regs,op:=d,z:=inn p.toList dM,a:=(bV v.toList).1} (E C 0 0) tB _ r _ (by exact s5.xat) (by exact s5.words.drop 5) ah (by omega) Z (by simp)).mono ?_;rintro e w5 ⟨rfl,aj,y⟩;have s6:=s5.how i aj y;clear N O S;clear s5 aj y;obtain⟨O,S,N⟩:=s6.xat.fs;obtain⟨e1,e2,r0⟩:=s6.res.fs;have x:=aD s6;clear s6;have hv:=VB {x0 with VX:=inn c.toList regs,op:=d,z:=inn p.toList dM,a:=(bV v.toList).1} tB r;have HE:aC (uJ c d p v r=((how {x0 with VX:=inn c.toList regs,op:=d,z:=inn p.toList dM,a:=(bV v.toList).1} tB r).1,decide (0<=inn c.toList regs)&&(how {x0 with VX:=inn c.toList regs,op:=d,z:=inn p.toList dM,a:=(bV v.toList).1} tB r).2&&(bV v.toList).2&&decide (0<=inn p.toList dM))):=Z;generalize how {x0 with VX:=inn c.toList regs,op:=d,z:=inn p.toList dM,a:=(bV v.toList).1} tB r=H at*;generalize inn p.toList dM=iv at*;generalize inn c.toList regs=ir at*;generalize(bV v.toList).2=aw at*;have HV:=aD hv;clear hv al an ao ap aq ar af ah ae au av K ag he;generalize aa:H.2=h2 at*;have ay:=aD aa;clear aa;by_cases hir:0<=ir
  rotate_left
  ·have f:decide (0<=ir)=Y:=φ hir;go_wp2_with fail;go_region
   all_goals go_wp2
   all_goals exact lA (p:=2) (u:=3) (J (V w)) H.1 _ (by kernel_rfl) Z Z (by exact(x.res.cY H.1 (E C 0 0)).drew) Z ⟨by rw[HE.o];simp[f],(qK H.1 (E C 0 0) x.bel (xF _)).drew⟩
  have f:decide (0<=ir)=U:=ρ hir;cases h2
  ·go_wp2_with fail;go_region
   all_goals go_wp2
   all_goals exact lA (p:=2) (u:=3) (J (V w)) H.1 _ (by kernel_rfl) Z Z (by exact(x.res.cY H.1 (E C 0 0)).drew) Z ⟨by rw[HE.o];simp[f],(qK H.1 (E C 0 0) x.bel (xF _)).drew⟩
  cases aw
  ·go_wp2_with fail;go_region
   all_goals go_wp2
   all_goals exact lA (p:=2) (u:=3) (J (V w)) H.1 _ (by kernel_rfl) Z Z (by exact(x.res.cY H.1 (E C 0 0)).drew) Z ⟨by rw[HE.o];simp[f],(qK H.1 (E C 0 0) x.bel (xF _)).drew⟩
  by_cases hiv:0<=H.1.z
  ·have q:decide (0<=H.1.z)=U:=ρ hiv;go_wp2_with fail;go_region
   all_goals go_wp2
   all_goals exact lA (p:=2) (u:=3) (J (V w)) H.1 _ (by kernel_rfl) Z Z (by exact(x.res.cY H.1 (E C 0 0)).drew) Z ⟨by have:=HV.o;rw[HE.o,<- this];simp[f,q],(qK H.1 (E C 0 0) x.bel (xF _)).drew⟩
  ·have q:decide (0<=H.1.z)=Y:=φ hiv;go_wp2_with fail;go_region
   all_goals go_wp2
   all_goals exact lA (p:=2) (u:=3) (J (V w)) H.1 _ (by kernel_rfl) Z Z (by exact(x.res.cY H.1 (E C 0 0)).drew) Z ⟨by have:=HV.o;rw[HE.o,<- this];simp[f,q],(qK H.1 (E C 0 0) x.bel (xF _)).drew⟩
def Yp(b off H:ζ)(c e d:ν)(w:π)(M:XO w b off ([c,e,d]))(f:b<J (V w))(ab:(c.toList==[98,97,114,114,105,101,114])=Y)(ac:(c.toList==[102,101,110,99,101])=Y)(he:(e.toList==[61])=U):
  ε κ 18 #[E (A ⟨b,off,C⟩) 3 H] w λe w'=>e=W (rF (vA c d))/\η (J (V w)) w w':=by
 cases hst:c.toList==[115,116,111,114,101]
 all_goals
  obtain⟨aa,_,y⟩:=M.head;have S0:=aD (StAt.start w b off ([c,e,d]) x0 M);obtain⟨I,_,_⟩:=y.head;clear M y;have cl:(d.toList==[108,111,97,100])=U/\(d.toList==[97,100,100])=Y/\(d.toList==[115,119,97,112])=Y\/(d.toList==[108,111,97,100])=Y/\(d.toList==[97,100,100])=U\/(d.toList==[108,111,97,100])=Y/\(d.toList==[97,100,100])=Y/\(d.toList==[115,119,97,112])=U\/(d.toList==[108,111,97,100])=Y/\(d.toList==[97,100,100])=Y/\(d.toList==[115,119,97,112])=Y:=by
   cases x1:d.toList==[108,111,97,100]
   ·cases x2:d.toList==[97,100,100]<;>cases x3:d.toList==[115,119,97,112]<;>simp
   ·have:d.toList=[108,111,97,100]:=by simpa using x1
    left;rw[this];decide
  rcases cl with⟨O,y2,y3⟩|⟨O,y2⟩|⟨O,y2,y3⟩|⟨O,y2,y3⟩
  all_goals
   go_in;go_wp2_with fail;refine(lZ c regs _ _ Z (by simp)).mono ?_;rintro e w1 ⟨rfl,i⟩;have z:=StAt.X S0 i;obtain⟨f1,f2,c0⟩:=z.xat.fs;have d2:=z.words 2 d Z;have S1:=aD z;clear z i S0 I;go_wp2_with fail;have s2:=(S1.set {x0 with VX:=inn c.toList regs} f 1 (D T (inn c.toList regs)) Z).set {x0 with VX:=inn c.toList regs,op:=fD} f 0 (L fD) Z;refine(yO d _).mono ?_;rintro e w2 ⟨rfl,q⟩;have N:=s2.X q;clear c0 f1 f2;obtain⟨f1,f2,c0⟩:=N.xat.fs;have S3:=aD N;clear N s2 q S1 d2;have S:StAt w (w2.setCell ⟨J (V w)+1,3,C⟩ (D T (bV d.toList).1)) b off ([c,e,d]) {x0 with VX:=inn c.toList regs,op:=fD,a:=(bV d.toList).1}:=S3.set {x0 with VX:=inn c.toList regs,op:=fD,a:=(bV d.toList).1} f 3 (D T (bV d.toList).1) Z;have HE:aC (vA c d=({x0 with VX:=inn c.toList regs,op:=fD,a:=(bV d.toList).1},decide (0<=inn c.toList regs)&&(bV d.toList).2)):=Z;generalize(bV d.toList).2=o1 at*
   cases hg:decide (0<=inn c.toList regs)
   all_goals
    go_wp2_with(first|(refine zK (.tmp 4) Z Z (J (V w)+1) _ (E C 0 0) Z S.xat ?_)|(refine xY (.tmp 2) (.tmp 187) Z Z (J (V w)) _ _ (E C 0 0) (E C 0 0) Z Z Z (by exact S.res) ?_;intro w9 K x));rw[HE.o];refine lA (p:=2) (u:=3) (J (V w)) {x0 with VX:=inn c.toList regs,op:=fD,a:=(bV d.toList).1} _ (by kernel_rfl) Z Z K Z ⟨by rw[hg];rfl,S.done x⟩
theorem Yq(b off aa:ζ)(c e d s t:ν)(w:π)(hw:XO w b off ([c,e,d,s,t]))(f:b<J (V w))(ae:(c.toList==[98,97,114,114,105,101,114])=Y)(af:(c.toList==[102,101,110,99,101])=Y)(ag:(c.toList==[115,116,111,114,101])=Y)(he:(e.toList==[61])=U)(hl:(d.toList==[108,111,97,100])=Y):
  ε κ 18 #[E (A ⟨b,off,C⟩) 5 aa] w λe w'=>e=W (rF (tW c d s t))/\η (J (V w)) w w':=by
 obtain⟨ad,_,M⟩:=hw.head;have S0:=aD (StAt.start w b off ([c,e,d,s,t]) x0 hw);obtain⟨ab,_,_⟩:=M.head;clear hw M;have cl:(d.toList==[97,100,100])=U\/(d.toList==[97,100,100])=Y/\(d.toList==[115,119,97,112])=U\/(d.toList==[97,100,100])=Y/\(d.toList==[115,119,97,112])=Y:=by
  grind
 rcases cl with y2|⟨y2,y3⟩|⟨y2,y3⟩
 all_goals
  go_in;go_wp2_with fail;refine(lZ c regs _ _ Z (by simp)).mono ?_;rintro e w1 ⟨rfl,z⟩;have s1:=StAt.X S0 z;obtain⟨q,x,i⟩:=s1.xat.fs;have d2:=s1.words 2 d Z;have S1:=aD s1;clear s1 z S0 ab;go_wp2_with fail;have s2:=(S1.set {x0 with VX:=inn c.toList regs} f 1 (D T (inn c.toList regs)) Z).set {x0 with VX:=inn c.toList regs,op:=fD} f 0 (L fD) Z;refine(yO d _).mono ?_;rintro e w2 ⟨rfl,H⟩;have s3:=s2.X H;clear i q x;obtain⟨q,x,i⟩:=s3.xat.fs;have d3:=s3.words 3 s Z;have S3:=aD s3;clear s3 s2 H S1 d2;go_wp2_with fail;have s4:=(S3.set {x0 with VX:=inn c.toList regs,op:=fD,a:=(bV d.toList).1} f 3 (D T (bV d.toList).1) Z).set {x0 with VX:=inn c.toList regs,op:=fD,a:=(bV d.toList).1,sign:=s} f 5 (L s) Z;refine(lZ s qD _ _ Z (by simp)).mono ?_;rintro e w4 ⟨rfl,I⟩;have s5:=s4.X I;clear i q x;obtain⟨q,x,i⟩:=s5.xat.fs;have d4:=s5.words 4 t Z;have S5:=aD s5;clear s5 s4 I S3 d3;go_wp2_with fail;refine(yO t _).mono ?_;rintro e w5 ⟨rfl,y⟩;have s6:=S5.X y;clear i q x;obtain⟨q,x,i⟩:=s6.xat.fs;have S6:=aD s6;clear s6 y S5 d4;have S:StAt w (w5.setCell ⟨J (V w)+1,4,C⟩ (D T (bV t.toList).1)) b off [c,e,d,s,t] {x0 with VX:=inn c.toList regs,op:=fD,a:=(bV d.toList).1,sign:=s,b:=(bV t.toList).1}:=S6.set {x0 with VX:=inn c.toList regs,op:=fD,a:=(bV d.toList).1,sign:=s,b:=(bV t.toList).1} f 4 (D T (bV t.toList).1) Z;clear i q x;obtain⟨q,x,i⟩:=S6.xat.fs;have HE:aC (tW c d s t=({x0 with VX:=inn c.toList regs,op:=fD,a:=(bV d.toList).1,sign:=s,b:=(bV t.toList).1},decide (0<=inn c.toList regs)&&(bV d.toList).2&&(bV t.toList).2&&decide (0<=inn s.toList qD))):=Z;generalize(bV d.toList).2=O at*;generalize(bV t.toList).2=o2 at*;have cc:decide (0<=inn c.toList regs)=Y\/decide (0<=inn c.toList regs)=U/\O=Y\/decide (0<=inn c.toList regs)=U/\O=U/\o2=Y\/decide (0<=inn c.toList regs)=U/\O=U/\o2=U:=by
   cases decide (0<=inn c.toList regs)<;>cases O<;>cases o2<;>simp
  rcases cc with N|⟨N,rfl⟩|⟨N,rfl,rfl⟩|⟨N,rfl,rfl⟩
  all_goals
   go_wp2_with(first|(refine zK (.tmp 4) Z Z (J (V w)+1) _ (E C 0 0) Z S.xat ?_)|(refine xY (.tmp 2) (.tmp 212) Z Z (J (V w)) _ _ (E C 0 0) (E C 0 0) Z Z Z (by exact S.res) ?_;intro w9 ac K));rw[HE.o];refine lA (p:=2) (u:=3) (J (V w)) {x0 with VX:=inn c.toList regs,op:=fD,a:=(bV d.toList).1,sign:=s,b:=(bV t.toList).1} _ (by kernel_rfl) Z Z ac Z ⟨by rw[N];rfl,S.done K⟩
theorem Hx(b off n K:ζ)(c e d:ν)(r:σ ν)(w:π)(hw:XO w b off (c::e::d::r))(z:(c::e::d::r).length=n)(f:b<J (V w))(ai:(c.toList==[98,97,114,114,105,101,114])=Y)(aj:(c.toList==[102,101,110,99,101])=Y)(N:(c.toList==[115,116,111,114,101]&&decide (4<=n))=Y)(he:(e.toList==[61])=U)(h3:¬n=3)(h5:¬n=5)(hl:(d.toList==[108,111,97,100]&&decide (5<=n))=Y)(ha:((d.toList==[97,100,100]||d.toList==[115,119,97,112])&&decide (6<=n))=Y):
  ε κ 18 #[E (A ⟨b,off,C⟩) n K] w λe w'=>e=W (rF (MU c d))/\η (J (V w)) w w':=by
 obtain⟨ad,_,H⟩:=hw.head;have S0:=aD (StAt.start w b off (c::e::d::r) x0 hw);obtain⟨M,_,_⟩:=H.head;have af:0<n:=by simp at z;omega
 have ag:(1:ι)<n:=by simp at z;omega
 have ah:(2:ι)<n:=by simp at z;omega
 have y:¬(n:ι)<3:=by simp at z;omega
 have ae:decide ((n:ι)<3)=Y:=φ y;have ab:((n:ι)==3)=Y:=by simp;omega
 have ac:((n:ι) != 5)=U:=by grind
 have aa:(c.toList==[115,116,111,114,101])=Y:=by
  grind
 clear N z H hw;have cl:(d.toList==[108,111,97,100])=U/\(d.toList==[97,100,100])=Y/\(d.toList==[115,119,97,112])=Y/\¬(4:ι)<n\/(d.toList==[108,111,97,100])=Y/\(d.toList==[97,100,100])=U/\¬(5:ι)<n\/(d.toList==[108,111,97,100])=Y/\(d.toList==[97,100,100])=Y/\(d.toList==[115,119,97,112])=U/\¬(5:ι)<n\/(d.toList==[108,111,97,100])=Y/\(d.toList==[97,100,100])=Y/\(d.toList==[115,119,97,112])=Y:=by
  grind
 clear hl ha h3 h5
 rcases cl with⟨y1,y2,y3,y4⟩|⟨y1,y2,y3⟩|⟨y1,y2,y3,y4⟩|⟨y1,y2,y3⟩
 all_goals
  go_in;go_wp2_with fail;refine(lZ c regs _ _ Z (by simp)).mono ?_;rintro e w1 ⟨rfl,i⟩;have I:=StAt.X S0 i;obtain⟨f1,f2,c0⟩:=I.xat.fs;have d2:=I.words 2 d Z;have S1:=aD I;clear I i S0 M;go_wp2_with fail;have s2:=(S1.set {x0 with VX:=inn c.toList regs} f 1 (D T (inn c.toList regs)) Z).set {x0 with VX:=inn c.toList regs,op:=fD} f 0 (L fD) Z;refine(yO d _).mono ?_;rintro e w2 ⟨rfl,q⟩;have s3:=s2.X q;clear c0 f1 f2;obtain⟨f1,f2,c0⟩:=s3.xat.fs;have S3:=aD s3;clear s3 s2 q S1 d2;have S:StAt w (w2.setCell ⟨J (V w)+1,3,C⟩ (D T (bV d.toList).1)) b off (c::e::d::r) {x0 with VX:=inn c.toList regs,op:=fD,a:=(bV d.toList).1}:=S3.set {x0 with VX:=inn c.toList regs,op:=fD,a:=(bV d.toList).1} f 3 (D T (bV d.toList).1) Z;have HE:aC (MU c d=({x0 with VX:=inn c.toList regs,op:=fD,a:=(bV d.toList).1},Y)):=Z;go_wp2_with(first|(refine zK (.tmp 4) Z Z (J (V w)+1) _ (E C 0 0) Z S.xat ?_)|(refine xY (.tmp 2) (.tmp 194) Z Z (J (V w)) _ _ (E C 0 0) (E C 0 0) Z Z Z (by exact S.res) ?_;intro w9 O x));rw[HE.o];exact lA (p:=2) (u:=3) (J (V w)) {x0 with VX:=inn c.toList regs,op:=fD,a:=(bV d.toList).1} Y (by kernel_rfl) Z Z O Z ⟨Z,S.done x⟩
theorem Yr(b off n i:ζ)(c:ν)(r:σ ν)(w:π)(o:XO w b off (c::r))(H:(c::r).length=n)(hc:n<=i)(f:b<J (V w)):
  ε κ 18 #[E (A ⟨b,off,C⟩) n i] w λe w'=>e=W (rF (jE c r))/\η (J (V w)) w w':=by
 have I:j r+1=n:=by simpa using H
 unfold jE
 cases hk0:c.toList==[98,97,114,114,105,101,114]
 rotate_left
 ·exact Tm b off n i c r w o H f hk0
 cases hk1:c.toList==[102,101,110,99,101]
 rotate_left
 ·exact Tn b off n i c r w o H hc f hk0 hk1
 simp only[xW,ψ]
 cases hks:c.toList==[115,116,111,114,101]&&decide (3<=j r)
 rotate_left
 ·simp only[ξ];obtain⟨X,N⟩:(c.toList==[115,116,111,114,101])=U/\3<=j r:=by simpa using hks
  match r,o,H,I,N with
  |p::v::q,o,H,I,N=>exact Ym b off n i c p v q w o H hc f (by omega) hk0 hk1 X
 simp only[xW,ψ];have K:(c.toList==[115,116,111,114,101]&&decide (4<=n))=Y:=by
  grind
 match r,o,H,I with
 |[],o,H,I=>exact Dv b off n i c [] w o H f hk0 hk1 (by simp at I;omega)
 |[x],o,H,I=>exact Dv b off n i c [x] w o H f hk0 hk1 (by simp at I;omega)
 |e::d::q,o,H,I =>
  simp only[]
  cases he:e.toList==[61]
  ·simp only[xW,ψ];exact Tp b off n i c e d q w o H f hk0 hk1 K he
  simp only[ξ];unfold pV;have M:j q+3=n:=by simp at I;omega
  cases hl:d.toList==[108,111,97,100]&&decide (2<=j q)
  rotate_left
  ·simp only[ξ];obtain⟨X,N⟩:(d.toList==[108,111,97,100])=U/\2<=j q:=by simpa using hl
   match q,o,H,M,N with
   |p::t,o,H,M,N=>exact Yn b off n i c e d p t w o H hc f (by omega) hk0 hk1 K he X
  simp only[xW,ψ];have S:(d.toList==[108,111,97,100]&&decide (5<=n))=Y:=by
   grind
  cases ha:(d.toList==[97,100,100]||d.toList==[115,119,97,112])&&decide (3<=j q)
  rotate_left
  ·simp only[ξ];obtain⟨X,N⟩:(d.toList==[97,100,100]||d.toList==[115,119,97,112])=U/\3<=j q:=by simpa using ha
   have aa:(d.toList==[108,111,97,100])=Y:=by
    grind
   match q,o,H,M,N with
   |p::v::t,o,H,M,N =>
    refine Yo b off n i c e d p v t w o H hc f (by omega) hk0 hk1 K he aa ?_
    cases hda:d.toList==[97,100,100]
    ·grind
    ·exact .inl Z
  simp only[xW,ψ];have O:((d.toList==[97,100,100]||d.toList==[115,119,97,112])&&decide (6<=n))=Y:=by
   grind
  match q,o,H,M with
  |[],o,H,M =>
   have h3:n=3:=by grind
   subst h3;exact Yp b off i c e d w o f hk0 hk1 he
  |[x],o,H,M=>exact Hx b off n i c e d [x] w o H f hk0 hk1 K he (by simp at M;omega) (by simp at M;omega) S O
  |[s,t],o,H,M =>
   have h5:n=5:=by grind
   subst h5;exact Yq b off i c e d s t w o f hk0 hk1 (by grind) he (by grind)
  |x::y::z::t,o,H,M=>exact Hx b off n i c e d (x::y::z::t) w o H f hk0 hk1 K he (by simp at M;omega) (by simp at M;omega) S O
