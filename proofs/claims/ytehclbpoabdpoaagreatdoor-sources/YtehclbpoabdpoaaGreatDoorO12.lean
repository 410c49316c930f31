import Derived.Test.YtehclbpoabdpoaaGreatDoorO10
set_option linter.all false
set_option maxHeartbeats 0
namespace Go.Proofs.YtehclbpoabdpoaaGreatDoor
open Go Go.RowKit Go.Proofs.Tryz P Q R
set_option maxRecDepth 1000000
variable {v:List UInt8}{a k m n:Int}{st:MV}{l:List Tree}{ss:List MV}{ls:List Int}{ts:List R.Th}{us:List NB}{r:Rd}{s:St}
open List renaming length->G
open Bool renaming false->Y,true->C
open _root_.ByteArray renaming toList->xF
open Bool renaming false_eq_true->xR,true_and->x1,and_true->x2,and_eq_true->x8
open Or renaming inr->xW
open List renaming map_cons->x3,map_nil->x5,isEmpty_nil->x7,getLast?_eq_none_iff->xa
open Option renaming or_none->x4,or_assoc->x9
open UInt8 renaming ofNat->x6
def wZ(h:decide (0<=inn v cJ)=C):0<=inn v cJ/\inn v cJ<3:=by
 refine⟨of_decide_eq_true h,?_⟩;rw[VY];(repeat' split)<;>omega
def CX(h:decide (0<=inn v regs)=C):0<=inn v regs/\inn v regs<4:=by
 refine⟨of_decide_eq_true h,?_⟩;rw[zW];(repeat' split)<;>omega
def DR(st:MV)(b:List (List UInt8))(h:(dI st b).2=C):QM st.B (dI st b).1.q=C:=by
 match b,h with
 |[],h=>simp[dI]at h
 |o::r,h =>
  unfold dI at h⊢;by_cases hc:((P.order o).2&&QM st.B (P.order o).1)=C
  ·simp only[hc,if_true]at h⊢;simp only[x8]at hc;by_cases hz:(P.order o).1=0
   ·have:=hc.2;rw[hz]at this;simpa[hz]using this
   ·simp only[beq_eq_false_iff_ne.2 hz,xR,if_false]at h⊢
    split
    ·exact hc.2
    ·exact hc.2
  ·simp[hc]at h
def opK(k:Int):List UInt8:=if k=0 then[108,111,97,100]else if k=1 then[115,116,111,114,101]else if k=2 then[97,100,100]else if k=3 then[115,119,97,112]else if k=4 then[102,101,110,99,101]else if k=5 then[98,97,114,114,105,101,114]else[115,101,116]
def WJ(k:Int):List UInt8:=if k=7 then[43]else if k=8 then[45]else if k=9 then[61,61]else[]
def isD(k:Int):Bool:=k==0||k==2||k==3||decide (6<=k)
def RF(o:QR)(a:Int):Prop:=a=rI o/\0<=o.n/\o.n<4
structure Twin(st:MV)(x:Lh):Prop where
 rd:R.OE x=P.OE st
 wr:R.OD x=P.OD st
 fn:R.OO x=P.OO st
 br:isB x=(st.B==5)
 k10:(st.B==10)=Y
 k11:(st.B==11)=Y
 acc:QW st.B=C->x.z=st.z/\0<=st.z/\st.z<3
 os:(QW st.B||st.B==4)=C->x.ord.toList=ordW st.q/\x.scope.toList=scW st.q st.scope/\OkOS st.q st.scope/\QM st.B st.q=C
 kd:0<=st.B/\st.B<=9
 op:x.op.toList=opK st.B
 rg:isD st.B=C->x.MW=st.dest/\0<=st.dest/\st.dest<4
 oa:RF st.a x.a
 ob:RF st.b x.b
 sg:x.sign.toList=WJ st.B
 b6:st.B=6->st.b.MW=Y
def sA:RF MV.zero.a x0.a/\RF MV.zero.b x0.b:=⟨⟨Z,by decide,by decide⟩,⟨Z,by decide,by decide⟩⟩
def xK:x0.sign.toList=[]:=by rw[x0,bQ]
def DZ:x0.scope.toList=[]:=by rw[x0,bQ]
def Ld:Twin {MV.zero with B:=5} {x0 with op:=jE}:=by
 refine⟨?_,?_,?_,?_,Z,Z,?_,?_,by decide,?_,?_,sA.1,sA.2,xK,fun h=>absurd h (by decide)⟩
 ·simp[R.OE,P.OE,P.aX,jE,gG,jW,jT,bQ,MV.zero]
 ·simp[R.OD,P.OD,lV,jE,gN,jW,jT,bQ,MV.zero]
 ·simp[R.OO,P.OO,jE,gT,bQ,MV.zero]
 ·simp[isB,jE,bQ,MV.zero]
 ·intro h;simp[QW,MV.zero]at h
 ·intro h;simp[QW,MV.zero]at h
 ·simp[jE,bQ,opK]
 ·intro h;simp[isD]at h
def Le(r:List ByteArray):(dI {MV.zero with B:=4} (r.map xF)).2=(how {x0 with op:=gT} R.oFence r).2/\((how {x0 with op:=gT} R.oFence r).2=C->Twin (dI {MV.zero with B:=4} (r.map xF)).1 (how {x0 with op:=gT} R.oFence r).1):=by
 have h:=BH {MV.zero with B:=4} {x0 with op:=gT} R.oFence Kq DZ Z r;refine⟨h.1,fun d=>?_⟩;have s:=h.2 d;have f:=DR _ _ (h.1.trans d);generalize(dI {MV.zero with B:=4} (r.map xF)).1=st at*;generalize(how {x0 with op:=gT} R.oFence r).1=x at*;have b:st.B=4:=by rw[s.stm]
 have c:x.op=gT:=by rw[s.ln]
 have e:=s.sc;refine⟨?_,?_,?_,?_,by rw[b];rfl,by rw[b];rfl,?_,?_,by rw[b];decide,?_,?_,?_,?_,?_,fun h=>by rw[b]at h;exact absurd h (by decide)⟩
 ·simp[R.OE,P.OE,P.aX,b,c,gG,gT,jW,jT,bQ]
 ·simp[R.OD,P.OD,lV,b,c,gN,gT,jW,jT,bQ]
 ·simp[R.OO,P.OO,b,c,gT,bQ,<- e]
 ·simp[isB,b,c,gT,jE,bQ]
 ·intro h;rw[b]at h;simp[QW]at h
 ·intro _;exact⟨s.od,s.sp,s.ok,by rw[b];exact f⟩
 ·simp[b,c,gT,bQ,opK]
 ·intro h;rw[b]at h;simp[isD]at h
 ·rw[s.stm,s.ln];exact sA.1
 ·rw[s.stm,s.ln];exact sA.2
 ·rw[s.ln,b];exact xK
def Lf(p v:ByteArray)(r:List ByteArray):(P.store ([115,116,111,114,101]::p.toList::v.toList::r.map xF)).2=(sX p v r).2/\((sX p v r).2=C->Twin (P.store ([115,116,111,114,101]::p.toList::v.toList::r.map xF)).1 (sX p v r).1):=by
 have o:=GP p.toList;have i:=wB v.toList;unfold P.store iC sX;simp only[]
 cases h1:(fT p.toList).2
 ·have f:decide (0<=inn p.toList cJ)=Y:=by rw[<- o.1,h1]
  simp[f]
 have f:decide (0<=inn p.toList cJ)=C:=by rw[<- o.1,h1]
 simp only[if_true]
 cases h2:(cF v.toList).2
 ·have:(bG v.toList).2=Y:=by rw[<- i.1,h2]
  simp[this]
 have g:(bG v.toList).2=C:=by rw[<- i.1,h2]
 have j:=i.2 h2;simp only[if_true];have h:=BH {MV.zero with B:=1,z:=(fT p.toList).1,a:=(cF v.toList).1} {x0 with op:=gN,z:=inn p.toList cJ,a:=(bG v.toList).1} R.oStore Kr DZ Z r;rw[g,f];simp only[x1,x2];refine⟨h.1,fun e=>?_⟩;have s:=h.2 e;have u:=DR _ _ (h.1.trans e);generalize(dI {MV.zero with B:=1,z:=(fT p.toList).1,a:=(cF v.toList).1} (r.map xF)).1=st at*;generalize(how {x0 with op:=gN,z:=inn p.toList cJ,a:=(bG v.toList).1} R.oStore r).1=x at*;have b:st.B=1:=by rw[s.stm]
 have c:x.op=gN:=by rw[s.ln]
 have y:st.a=(cF v.toList).1:=by rw[s.stm]
 have q:x.a=(bG v.toList).1:=by rw[s.ln]
 have d:st.z=inn p.toList cJ:=by rw[s.stm];exact o.2 h1
 have t:x.z=inn p.toList cJ:=by rw[s.ln]
 refine⟨?_,?_,?_,?_,by rw[b];rfl,by rw[b];rfl,?_,?_,by rw[b];decide,?_,?_,?_,?_,?_,fun h=>by rw[b]at h;exact absurd h (by decide)⟩
 ·simp[R.OE,P.OE,P.aX,b,c,gG,gN,jW,jT,bQ]
 ·simp[R.OD,P.OD,lV,b,c,gN,jW,jT,bQ]
 ·simp[R.OO,P.OO,b,c,gT,gN,bQ]
 ·simp[isB,b,c,gN,jE,bQ]
 ·intro _;exact⟨by rw[t,d],by rw[d];exact(wZ f).1,by rw[d];exact(wZ f).2⟩
 ·intro _;exact⟨s.od,s.sp,s.ok,by rw[b];exact u⟩
 ·simp[b,c,gN,bQ,opK]
 ·intro h;rw[b]at h;simp[isD]at h
 ·rw[y,q];exact⟨j.symm,pW _ h2⟩
 ·rw[s.stm,s.ln];exact sA.2
 ·rw[s.ln,b];exact xK
def Lg(d p:ByteArray)(r:List ByteArray)(y:(bZ d.toList).2=C):(P.load {MV.zero with dest:=(bZ d.toList).1} (p.toList::r.map xF)).2=(rC d p r).2/\((rC d p r).2=C->Twin (P.load {MV.zero with dest:=(bZ d.toList).1} (p.toList::r.map xF)).1 (rC d p r).1):=by
 have q:=GP p.toList;have A:=xB d.toList;have g:decide (0<=inn d.toList regs)=C:=by rw[<- A.1,y]
 unfold rC;simp only[]
 cases h1:(fT p.toList).2
 ·have i:decide (0<=inn p.toList cJ)=Y:=by rw[<- q.1,h1]
  rw[GR _ _ _ h1];simp[i]
 have i:decide (0<=inn p.toList cJ)=C:=by rw[<- q.1,h1]
 rw[FL _ _ _ h1,i,g];simp only[x1,x2];have h:=BH {MV.zero with dest:=(bZ d.toList).1,B:=0,z:=(fT p.toList).1} {x0 with MW:=inn d.toList regs,op:=gG,z:=inn p.toList cJ} R.oLoad Ks DZ Z r;refine⟨h.1,fun f=>?_⟩;have s:=h.2 f;have j:=DR _ _ (h.1.trans f);simp only[]at s j⊢;generalize(dI {MV.zero with dest:=(bZ d.toList).1,B:=0,z:=(fT p.toList).1} (r.map xF)).1=st at s j⊢;generalize(how {x0 with MW:=inn d.toList regs,op:=gG,z:=inn p.toList cJ} R.oLoad r).1=x at s⊢;have b:st.B=0:=by rw[s.stm]
 have c:x.op=gG:=by rw[s.ln]
 have e:st.z=inn p.toList cJ:=by rw[s.stm];exact q.2 h1
 have u:x.z=inn p.toList cJ:=by rw[s.ln]
 have o:st.dest=inn d.toList regs:=by rw[s.stm];exact A.2 y
 have t:x.MW=inn d.toList regs:=by rw[s.ln]
 refine⟨?_,?_,?_,?_,by rw[b];rfl,by rw[b];rfl,?_,?_,by rw[b];decide,?_,?_,?_,?_,?_,fun h=>by rw[b]at h;exact absurd h (by decide)⟩
 ·simp[R.OE,P.OE,P.aX,b,c,gG,jW,jT,bQ]
 ·simp[R.OD,P.OD,lV,b,c,gG,gN,jW,jT,bQ]
 ·simp[R.OO,P.OO,b,c,gT,gG,bQ]
 ·simp[isB,b,c,gG,jE,bQ]
 ·intro _;exact⟨by rw[u,e],by rw[e];exact(wZ i).1,by rw[e];exact(wZ i).2⟩
 ·intro _;exact⟨s.od,s.sp,s.ok,by rw[b];exact j⟩
 ·simp[b,c,gG,bQ,opK]
 ·intro _;rw[t,o];exact⟨Z,CX g⟩
 ·rw[s.stm,s.ln];exact sA.1
 ·rw[s.stm,s.ln];exact sA.2
 ·rw[s.ln,b];exact xK
def WL(K:Int)(d c p v:ByteArray)(r:List ByteArray)(J:(bZ d.toList).2=C)(I:K=2/\c.toList=[97,100,100]\/K=3/\c.toList=[115,119,97,112]):(P.step {MV.zero with dest:=(bZ d.toList).1} K (p.toList::v.toList::r.map xF)).2=(qM d c p v r).2/\((qM d c p v r).2=C->Twin (P.step {MV.zero with dest:=(bZ d.toList).1} K (p.toList::v.toList::r.map xF)).1 (qM d c p v r).1):=by
 have D:=GP p.toList;have y:=wB v.toList;have L:=xB d.toList;have j:decide (0<=inn d.toList regs)=C:=by rw[<- L.1,J]
 unfold P.step iC qM;simp only[]
 cases h1:(fT p.toList).2
 ·have o:decide (0<=inn p.toList cJ)=Y:=by rw[<- D.1,h1]
  simp[o]
 have o:decide (0<=inn p.toList cJ)=C:=by rw[<- D.1,h1]
 simp only[if_true]
 cases h2:(cF v.toList).2
 ·have:(bG v.toList).2=Y:=by rw[<- y.1,h2]
  simp[this]
 have t:(bG v.toList).2=C:=by rw[<- y.1,h2]
 have A:=y.2 h2;simp only[if_true];have h:=BH {MV.zero with dest:=(bZ d.toList).1,B:=K,z:=(fT p.toList).1,a:=(cF v.toList).1} {x0 with MW:=inn d.toList regs,op:=c,z:=inn p.toList cJ,a:=(bG v.toList).1} oG (by rcases I with⟨rfl,_⟩|⟨rfl,_⟩;exact Kt;exact Ku) DZ Z r;rw[t,o,j];simp only[x1,x2];refine⟨h.1,fun i=>?_⟩;have s:=h.2 i;have q:=DR _ _ (h.1.trans i);simp only[]at s q⊢;generalize(dI {MV.zero with dest:=(bZ d.toList).1,B:=K,z:=(fT p.toList).1,a:=(cF v.toList).1} (r.map xF)).1=st at s q⊢;generalize(how {x0 with MW:=inn d.toList regs,op:=c,z:=inn p.toList cJ,a:=(bG v.toList).1} oG r).1=x at s⊢;have b:st.B=K:=by rw[s.stm]
 rcases I with⟨rfl,g⟩|⟨rfl,g⟩
 all_goals
  have e:x.op=c:=by rw[s.ln]
  have M:st.a=(cF v.toList).1:=by rw[s.stm]
  have E:x.a=(bG v.toList).1:=by rw[s.ln]
  have f:st.z=inn p.toList cJ:=by rw[s.stm];exact D.2 h1
  have H:x.z=inn p.toList cJ:=by rw[s.ln]
  have u:st.dest=inn d.toList regs:=by rw[s.stm];exact L.2 J
  have F:x.MW=inn d.toList regs:=by rw[s.ln]
  refine⟨?_,?_,?_,?_,by rw[b];rfl,by rw[b];rfl,?_,?_,by rw[b];decide,?_,?_,?_,?_,?_,fun h=>by rw[b]at h;exact absurd h (by decide)⟩
  ·simp[R.OE,P.OE,P.aX,b,e,g,gG,jW,jT,bQ]
  ·simp[R.OD,P.OD,lV,b,e,g,gN,jW,jT,bQ]
  ·simp[R.OO,P.OO,b,e,g,gT,bQ]
  ·simp[isB,b,e,g,jE,bQ]
  ·intro _;exact⟨by rw[H,f],by rw[f];exact(wZ o).1,by rw[f];exact(wZ o).2⟩
  ·intro _;exact⟨s.od,s.sp,s.ok,by rw[b];exact q⟩
  ·simp[b,e,g,opK]
  ·intro _;rw[F,u];exact⟨Z,CX j⟩
  ·rw[M,E];exact⟨A.symm,pW _ h2⟩
  ·rw[s.stm,s.ln];exact sA.2
  ·rw[s.ln,b];exact xK
def Li(v:List UInt8):(sign v).2=decide (0<=inn v mG)/\((sign v).2=C->(sign v).1=7+inn v mG/\(inn v mG=0\/inn v mG=1\/inn v mG=2)):=by
 have e:ND 32 mG=[[43],[45],[61,61]]:=by decide
 rw[sL v mG _ e];by_cases h1:v=[43]
 ·subst h1;decide
 by_cases h2:v=[45]
 ·subst h2;decide
 by_cases h3:v=[61,61]
 ·subst h3;decide
 have:(sign v).2=Y:=by unfold sign;simp[h1,h2,h3]
 rw[this];simp[fZ,Ne.symm h1,Ne.symm h2,Ne.symm h3]
def Lj(h:inn v mG=k):(k=0->v=[43])/\(k=1->v=[45])/\(k=2->v=[61,61]):=by
 have e:ND 32 mG=[[43],[45],[61,61]]:=by decide
 rw[sL v mG _ e]at h;by_cases h1:v=[43]
 ·subst h1;subst h;decide
 by_cases h2:v=[45]
 ·subst h2;subst h;decide
 by_cases h3:v=[61,61]
 ·subst h3;subst h;decide
 simp[fZ,Ne.symm h1,Ne.symm h2,Ne.symm h3]at h;omega
def Lk(d a:ByteArray)(i:(bZ d.toList).2=C):(sum {MV.zero with dest:=(bZ d.toList).1} [a.toList]).2=(qG d a).2/\((qG d a).2=C->Twin (sum {MV.zero with dest:=(bZ d.toList).1} [a.toList]).1 (qG d a).1):=by
 have f:=wB a.toList;have j:=xB d.toList;have c:decide (0<=inn d.toList regs)=C:=by rw[<- j.1,i]
 have b:=j.2 i;unfold qG;simp only[c,x1]
 cases h2:(cF a.toList).2
 ·have:(bG a.toList).2=Y:=by rw[<- f.1,h2]
  rw[CG _ _ _ h2,this];simp
 have e:(bG a.toList).2=C:=by rw[<- f.1,h2]
 have g:=f.2 h2;rw[GZ _ _ h2,e];refine⟨Z,fun _=>?_⟩;refine⟨?_,?_,?_,?_,Z,Z,?_,?_,⟨by show(0:Int)<=6;decide,by show(6:Int)<=9;decide⟩,?_,fun _=>?_,⟨g.symm,pW _ h2⟩,sA.2,xK,fun _=>Z⟩
 ·simp[R.OE,P.OE,P.aX,eK,gG,jW,jT,bQ]
 ·simp[R.OD,P.OD,lV,eK,gN,jW,jT,bQ]
 ·simp[R.OO,P.OO,eK,gT,bQ]
 ·simp[isB,eK,jE,bQ]
 ·intro h;simp[QW]at h
 ·intro h;simp[QW]at h
 ·simp[eK,bQ,opK]
 ·exact⟨b.symm,by rw[b];exact CX c⟩
def Ll(d a s b:ByteArray)(z:(bZ d.toList).2=C):(sum {MV.zero with dest:=(bZ d.toList).1} [a.toList,s.toList,b.toList]).2=(qR d a s b).2/\((qR d a s b).2=C->Twin (sum {MV.zero with dest:=(bZ d.toList).1} [a.toList,s.toList,b.toList]).1 (qR d a s b).1):=by
 have u:=wB a.toList;have o:=wB b.toList;have hs:=Li s.toList;have A:=xB d.toList;have g:decide (0<=inn d.toList regs)=C:=by rw[<- A.1,z]
 have f:=A.2 z;unfold qR;simp only[g,x1]
 cases h2:(cF a.toList).2
 ·have:(bG a.toList).2=Y:=by rw[<- u.1,h2]
  rw[CG _ _ _ h2,this];simp
 have i:(bG a.toList).2=C:=by rw[<- u.1,h2]
 cases h3:(sign s.toList).2
 ·have:decide (0<=inn s.toList mG)=Y:=by rw[<- hs.1,h3]
  rw[TR _ _ _ _ h2 h3,this];simp
 have j:decide (0<=inn s.toList mG)=C:=by rw[<- hs.1,h3]
 rw[KJ _ _ _ _ h2 h3,i,j];simp only[x1,x2];refine⟨o.1,fun p=>?_⟩;have y:(cF b.toList).2=C:=by rw[o.1];exact p
 have x:=u.2 h2;have q:=o.2 y;obtain⟨c,e⟩:=hs.2 h3
 rcases e with e|e|e
 all_goals
  rw[e]at c;refine⟨?_,?_,?_,?_,by simp[c],by simp[c],?_,?_,by simp[c],?_,fun _=>⟨f.symm,by show 0<=(bZ d.toList).1/\(bZ d.toList).1<4;rw[f];exact CX g⟩,⟨x.symm,pW _ h2⟩,⟨q.symm,pW _ y⟩,?_,fun h=>absurd h (by simp[c])⟩
  ·simp[R.OE,P.OE,P.aX,c,eK,gG,jW,jT,bQ]
  ·simp[R.OD,P.OD,lV,c,eK,gN,jW,jT,bQ]
  ·simp[R.OO,P.OO,c,eK,gT,bQ]
  ·simp[isB,c,eK,jE,bQ]
  ·intro h;simp[c,QW]at h
  ·intro h;simp[c,QW]at h
  ·simp[c,eK,bQ,opK]
  ·have t:=Lj e;show s.toList=WJ (sign s.toList).1;rw[c]
   first|exact t.1 Z|exact t.2.1 Z|exact t.2.2 Z
def bf{x:MV×Bool}{y:Lh×Bool}(c:x.2=Y)(b:y.2=Y):x.2=y.2/\(y.2=C->Twin x.1 y.1):=⟨by rw[c,b],fun h=>by rw[b]at h;cases h⟩
def WN(st:MV)(l:List (List UInt8))(h:G l<2):(P.load st l).2=Y:=by
 match l,h with
 |[],_=>rfl
 |[p],_ =>
  cases hp:(fT p).2
  ·rw[GR _ _ _ hp]
  ·rw[FL _ _ _ hp];rfl
def tI(st:MV)(k:Int)(l:List (List UInt8))(h:G l<3):(P.step st k l).2=Y:=by
 match l,h with
 |[],_=>rfl
 |[_],_=>rfl
 |[p,v],_ =>
  cases hp:(iC {st with B:=k} p v).2
  ·rw[KP _ _ _ _ _ hp]
  ·rw[JF _ _ _ _ _ hp];rfl
def rest(d c:ByteArray):List ByteArray->Lh×Bool
 |[]=>qG d c
 |[s,b]=>qR d c s b
 |_=>BG d c
def tB(d c:ByteArray)(r:List ByteArray)(h:(bG c.toList).2=Y):(rest d c r).2=Y:=by
 match r with
 |[]=>simp[rest,qG,h]
 |[s,b]=>simp[rest,qR,h]
 |[_]=>rfl
 |_::_::_::_=>rfl
def WO(d c:ByteArray)(r:List ByteArray)(b:c.toList=[108,111,97,100]):mS d c r=match r with
  |p::q::t=>rC d p (q::t)
  |_=>rest d c r:=by
 unfold mS
 match r with
 |[]=>simp[b,rest]
 |[_]=>simp[b,rest]
 |_::_::_=>simp[b]
def IL(d c:ByteArray)(r:List ByteArray)(b:c.toList=[97,100,100]\/c.toList=[115,119,97,112]):mS d c r=match r with
  |p::v::q::t=>qM d c p v (q::t)
  |_=>rest d c r:=by
 unfold mS
 match r with
 |[]=>rcases b with b|b<;>simp[b,rest]
 |[_]=>rcases b with b|b<;>simp[b,rest]
 |[_,_]=>rcases b with b|b<;>simp[b,rest]
 |_::_::_::_=>rcases b with b|b<;>simp[b]
def WQ(d c:ByteArray)(r:List ByteArray)(b:¬c.toList=[108,111,97,100])(e:¬c.toList=[97,100,100])(f:¬c.toList=[115,119,97,112]):mS d c r=rest d c r:=by
 unfold mS
 match r with
 |[]=>simp[b,e,f,rest]
 |[_]=>simp[b,e,f,rest]
 |[_,_]=>simp[b,e,f,rest]
 |_::_::_::_=>simp[b,e,f,rest]
def Lm(d c:List UInt8)(r:List (List UInt8))(b:(bZ d).2=C):fP (d::[61]::c::r) =
  if c=[108,111,97,100]then P.load {MV.zero with dest:=(bZ d).1} r else if c=[97,100,100]then P.step {MV.zero with dest:=(bZ d).1} 2 r
  else if c=[115,119,97,112]then P.step {MV.zero with dest:=(bZ d).1} 3 r else sum {MV.zero with dest:=(bZ d).1} (c::r):=by
 simp[fP,b]
def Ln(d c:ByteArray)(r:List ByteArray)(f:(bZ d.toList).2=C):
  (fP (d.toList::[61]::c.toList::r.map xF)).2=(mS d c r).2/\((mS d c r).2=C->Twin (fP (d.toList::[61]::c.toList::r.map xF)).1 (mS d c r).1):=by
 rw[Lm _ _ _ f];by_cases h1:c.toList=[108,111,97,100]
 ·have e:(bG c.toList).2=Y:=by rw[h1];decide
  rw[if_pos h1,WO d c r h1]
  match r with
  |[]=>exact bf (WN _ _ (by simp)) (tB d c _ e)
  |[p]=>exact bf (WN _ _ (by simp)) (tB d c _ e)
  |p::q::t=>exact Lg d p (q::t) f
 rw[if_neg h1];by_cases h2:c.toList=[97,100,100]
 ·have e:(bG c.toList).2=Y:=by rw[h2];decide
  rw[if_pos h2,IL d c r (Or.inl h2)]
  match r with
  |[]=>exact bf (tI _ _ _ (by simp)) (tB d c _ e)
  |[p]=>exact bf (tI _ _ _ (by simp)) (tB d c _ e)
  |[p,v]=>exact bf (tI _ _ _ (by simp)) (tB d c _ e)
  |p::v::q::t=>exact WL 2 d c p v (q::t) f (.inl ⟨Z,h2⟩)
 rw[if_neg h2];by_cases h3:c.toList=[115,119,97,112]
 ·have e:(bG c.toList).2=Y:=by rw[h3];decide
  rw[if_pos h3,IL d c r (xW h3)]
  match r with
  |[]=>exact bf (tI _ _ _ (by simp)) (tB d c _ e)
  |[p]=>exact bf (tI _ _ _ (by simp)) (tB d c _ e)
  |[p,v]=>exact bf (tI _ _ _ (by simp)) (tB d c _ e)
  |p::v::q::t=>exact WL 3 d c p v (q::t) f (.inr ⟨Z,h3⟩)
 rw[if_neg h3,WQ d c r h1 h2 h3]
 match r with
 |[]=>exact Lk d c f
 |[x]=>exact bf (by rw[EX _ _ (by simp) (by simp)]) Z
 |[s,b]=>exact Ll d c s b f
 |x::y::z::t=>exact bf (by rw[EX _ _ (by simp) (by simp)]) Z
def WS(d c:ByteArray)(r:List ByteArray)(h:decide (0<=inn d.toList regs)=Y):(mS d c r).2=Y:=by
 have b:∀q,(rest d c q).2=Y:=fun q=>by
  match q with
  |[]=>simp[rest,qG,h]
  |[_,_]=>simp[rest,qR,h]
  |[_]=>rfl
  |_::_::_::_=>rfl
 by_cases h1:c.toList=[108,111,97,100]
 ·rw[WO d c r h1]
  match r with
  |[]=>exact b _
  |[_]=>exact b _
  |p::q::t=>simp[rC,h]
 by_cases h2:c.toList=[97,100,100]\/c.toList=[115,119,97,112]
 ·rw[IL d c r h2]
  match r with
  |[]=>exact b _
  |[_]=>exact b _
  |[_,_]=>exact b _
  |p::v::q::t=>simp[qM,h]
 ·rw[WQ d c r h1 (fun e=>h2 (Or.inl e)) fun e=>h2 (xW e)];exact b _
def Lo(c:ByteArray)(r:List ByteArray)(g:¬c.toList=[105,102])(f:¬c.toList=[101,110,100]):
  (cR (c.toList::r.map xF)).2=(fD c r).2/\((fD c r).2=C->Twin (cR (c.toList::r.map xF)).1 (fD c r).1):=by
 unfold cR fD;by_cases hb:c.toList=[98,97,114,114,105,101,114]
 ·simp only[hb];refine⟨by simp,fun _=>?_⟩;simpa using Ld
 by_cases hf:c.toList=[102,101,110,99,101]
 ·simp only[hf];simpa[fence]using Le r
 by_cases hs:c.toList=[115,116,111,114,101]
 ·simp only[hs]
  match r with
  |[]=>exact bf (by simp[P.store]) (by simp)
  |[x]=>exact bf (by simp[P.store]) (by simp)
  |[x,y] =>
   refine bf ?_ ?_
   ·simp only[x3,x5];have:(P.store [[115,116,111,114,101],x.toList,y.toList]).2=Y:=by
     unfold P.store;simp only[]
     split
     ·rfl
     ·rfl
    simpa using this
   ·simp
    split
    ·exact WS c y [] (by rw[hs,zW];decide)
    ·rfl
  |p::v::q::t=>simpa using Lf p v (q::t)
 have e1:(c.toList==[115,116,111,114,101])=Y:=by simpa using hs
 have e2:(c.toList==[102,101,110,99,101])=Y:=by simpa using hf
 have e3:(c.toList==[98,97,114,114,105,101,114])=Y:=by simpa using hb
 have e4:(c.toList==[105,102])=Y:=by simpa using g
 have e5:(c.toList==[101,110,100])=Y:=by simpa using f
 simp only[e1,e2,e3,e4,e5,xR,if_false,Bool.false_and]
 match r with
 |[]=>exact bf Z Z
 |[_]=>exact bf Z Z
 |e::d::q =>
  simp only[x3];by_cases he:e.toList=[61]
  ·have b:(e.toList==[61])=C:=by simpa using he
   simp only[b,if_true];rw[he]
   cases hreg:(bZ c.toList).2
   ·exact bf (by simp[fP,hreg]) (WS c d q (by rw[<- (xB c.toList).1,hreg]))
   ·exact Ln c d q hreg
  ·have b:(e.toList==[61])=Y:=by simpa using he
   simp only[b,xR,if_false];rw[UA _ _ _ _ b];refine⟨Z,fun h=>?_⟩;exact absurd h (by decide)
structure IfT(st:MV)(a n:Int):Prop where
 k:st.B=10
 l:st.label=n
 o:RF st.a a
structure EndT(st:MV)(n:Int):Prop where
 k:st.B=11
 l:st.label=n
def OH(n:Int)(l:List Tree)(ss:List MV)(m:Int):Prop :=
 ∀M:Int->List Tree->List MV->Int->Prop,(∀n:Int,M n [] [] n) ->
  (∀(n m:Int) (st:MV) (x:Lh) (l:List Tree) (ss:List MV),Twin st x->¬x.op.toList=[105,102]->M n l ss m->M n (.mk x []::l) (st::ss) m) ->
  (∀(n m k a:Int) (st e:MV) (b l:List Tree) (bs ss:List MV),IfT st a (n+1)->M (n+1) b bs m->EndT e (n+1)->M m l ss k->M n (.mk (fI a) b::l) (st::(bs++e::ss)) k)->M n l ss m
def OH.nil(n:Int):OH n [] [] n:=fun _ b _ _=>b n
def OH.leaf{x:Lh}(t:Twin st x)(o:¬x.op.toList=[105,102])(f:OH n l ss m):OH n (.mk x []::l) (st::ss) m :=
 fun M c b d=>b _ _ _ _ _ _ t o (f M c b d)
def OH.node{e:MV}{b:List Tree}{j:List MV}(i:IfT st a (n+1))(f:OH (n+1) b j m)(d:EndT e (n+1))(g:OH m l ss k):OH n (.mk (fI a) b::l) (st::(j++e::ss)) k :=
 fun M o p c=>c _ _ _ _ _ _ _ _ _ _ i (f M o p c) d (g M o p c)
def OH.ind{c:∀(n:Int) (l:List Tree) (ss:List MV) (m:Int),OH n l ss m->Prop}(nil:∀n:Int,c n [] [] n (OH.nil n))(leaf:∀{n m:Int} {st:MV} {x:Lh} {l:List Tree} {ss:List MV} (t:Twin st x) (o:¬x.op.toList=[105,102]) (f:OH n l ss m),c n l ss m f->c n (.mk x []::l) (st::ss) m (OH.leaf t o f))(node:∀{n m k a:Int} {st e:MV} {b l:List Tree} {j ss:List MV} (i:IfT st a (n+1)) (f:OH (n+1) b j m) (d:EndT e (n+1)) (g:OH m l ss k),c (n+1) b j m f->c m l ss k g->c n (.mk (fI a) b::l) (st::(j++e::ss)) k (OH.node i f d g)){n:Int}{l:List Tree}{ss:List MV}{m:Int}(h:OH n l ss m):c n l ss m h :=
 (h (fun n l ss m=>∃h:OH n l ss m,c n l ss m h) (fun n=>⟨_,nil n⟩) (fun _ _ _ _ _ _ t o ⟨f,p⟩=>⟨OH.leaf t o f,leaf t o f p⟩) fun _ _ _ _ _ _ _ _ _ _ i ⟨f,p⟩ d ⟨g,q⟩=>⟨OH.node i f d g,node i f d g p q⟩).2
def OH.append{q:List Tree}{c:List MV}(h:OH n l ss m)(g:OH m q c k):OH n (l++q) (ss++c) k:=by
 induction h using OH.ind with
 |nil n=>simpa using g
 |leaf t o _ ih=>simpa using OH.leaf t o (ih g)
 |node i b e _ _ ih =>
  have:=OH.node i b e (ih g);simpa using this
def PV(n:Int)(fs:List R.Fr)(q:List MV)(ls:List Int)(k:Int):Prop :=
 ∀M:Int->List R.Fr->List MV->List Int->Int->Prop,(∀n:Int,M n [] [] [] n) ->
  (∀(n m k a:Int) (fs:List R.Fr) (q ss:List MV) (ls:List Int) (st:MV) (l:List Tree),M n fs q ls m->IfT st a (m+1)->OH (m+1) l ss k->M n (fs++[⟨l,a⟩]) (q++st::ss) (ls++[m+1]) k)->M n fs q ls k
def PV.nil(n:Int):PV n [] [] [] n:=fun _ b _=>b n
def PV.aY{fs:List R.Fr}{q:List MV}(h:PV n fs q ls m)(i:IfT st a (m+1))(f:OH (m+1) l ss k):PV n (fs++[⟨l,a⟩]) (q++st::ss) (ls++[m+1]) k :=
 fun M c b=>b _ _ _ _ _ _ _ _ _ _ (h M c b) i f
def PV.ind{b:∀(n:Int) (fs:List R.Fr) (q:List MV) (ls:List Int) (k:Int),PV n fs q ls k->Prop}(nil:∀n:Int,b n [] [] [] n (PV.nil n))(aY:∀{n m k a:Int} {fs:List R.Fr} {q ss:List MV} {ls:List Int} {st:MV} {l:List Tree} (h:PV n fs q ls m) (i:IfT st a (m+1)) (f:OH (m+1) l ss k),b n fs q ls m h->b n (fs++[⟨l,a⟩]) (q++st::ss) (ls++[m+1]) k (PV.aY h i f)){n:Int}{fs:List R.Fr}{q:List MV}{ls:List Int}{k:Int}(h:PV n fs q ls k):b n fs q ls k h :=
 (h (fun n fs q ls k=>∃h:PV n fs q ls k,b n fs q ls k h) (fun n=>⟨_,nil n⟩) fun _ _ _ _ _ _ _ _ _ _ ⟨h,c⟩ i f=>⟨PV.aY h i f,aY h i f c⟩).2
def PV.cs{b:∀(n:Int) (fs:List R.Fr) (q:List MV) (ls:List Int) (k:Int),PV n fs q ls k->Prop}(nil:∀n:Int,b n [] [] [] n (PV.nil n))(aY:∀{n m k a:Int} {fs:List R.Fr} {q ss:List MV} {ls:List Int} {st:MV} {l:List Tree} (h:PV n fs q ls m) (i:IfT st a (m+1)) (f:OH (m+1) l ss k),b n (fs++[⟨l,a⟩]) (q++st::ss) (ls++[m+1]) k (PV.aY h i f)){n:Int}{fs:List R.Fr}{q:List MV}{ls:List Int}{k:Int}(h:PV n fs q ls k):b n fs q ls k h:=PV.ind nil (fun h i f _=>aY h i f) h
def PV.len{fs:List R.Fr}{q:List MV}(h:PV n fs q ls k):G ls=G fs:=by
 induction h using PV.ind with
 |nil=>rfl
 |aY _ _ _ ih=>simp[ih]
def PV.none{fs:List R.Fr}{q:List MV}(h:PV n fs q ls k)(b:fs=[]):q=[]/\ls=[]/\k=n:=by
 cases h using PV.cs with
 |nil=>exact⟨Z,Z,Z⟩
 |aY _ _ _=>simp at b
def PV.last{fs:List R.Fr}{q:List MV}(h:PV n fs q ls k)(b:fs≠[]):
  ∃m a gs p ss ms st l,PV n gs p ms m/\IfT st a (m+1)/\OH (m+1) l ss k/\fs=gs++[⟨l,a⟩]/\q=p++st::ss/\ls=ms++[m+1]:=by
 cases h using PV.cs with
 |nil=>exact absurd Z b
 |aY h1 h2 h3=>exact⟨_,_,_,_,_,_,_,_,h1,h2,h3,Z,Z,Z⟩
def QU(n:Int)(ts:List R.Th)(us:List NB)(k:Int):Prop :=
 ∀M:Int->List R.Th->List NB->Int->Prop,(∀n:Int,M n [] [] n) ->
  (∀(n m k:Int) (ts:List R.Th) (us:List NB) (t:R.Th) (u:NB),M n ts us m->OH m t.body u.S k->u.block=t.block->u.i=t.row->M n (ts++[t]) (us++[u]) k)->M n ts us k
def QU.nil(n:Int):QU n [] [] n:=fun _ b _=>b n
def QU.aY{t:R.Th}{u:NB}(h:QU n ts us m)(f:OH m t.body u.S k)(b:u.block=t.block)(l:u.i=t.row):QU n (ts++[t]) (us++[u]) k :=
 fun M d c=>c _ _ _ _ _ _ _ (h M d c) f b l
def QU.ind{c:∀(n:Int) (ts:List R.Th) (us:List NB) (k:Int),QU n ts us k->Prop}(nil:∀n:Int,c n [] [] n (QU.nil n))(aY:∀{n m k:Int} {ts:List R.Th} {us:List NB} {t:R.Th} {u:NB} (h:QU n ts us m) (f:OH m t.body u.S k) (b:u.block=t.block) (l:u.i=t.row),c n ts us m h->c n (ts++[t]) (us++[u]) k (QU.aY h f b l)){n:Int}{ts:List R.Th}{us:List NB}{k:Int}(h:QU n ts us k):c n ts us k h :=
 (h (fun n ts us k=>∃h:QU n ts us k,c n ts us k h) (fun n=>⟨_,nil n⟩) fun _ _ _ _ _ _ _ ⟨h,d⟩ f b l=>⟨QU.aY h f b l,aY h f b l d⟩).2
def QU.len(h:QU n ts us k):G us=G ts:=by
 induction h using QU.ind with
 |nil=>rfl
 |aY _ _ _ _ ih=>simp[ih]
namespace P
def dV:List MV->Int
 |[]=>0
 |s::r=>(if s.B==10 then 1 else if s.B==11 then -1 else 0)+dV r
def MR(a b:List MV):dV (a++b)=dV a+dV b:=by
 induction a with
 |nil=>simp[dV]
 |cons s r ih=>simp[dV,ih];omega
def GO(ss:List MV):∀(d:Int) (st:MV),fK d (ss++[st])=(fK d ss).or (if st.B==5&&decide (0<d+dV ss)then some st.i else none):=by
 induction ss with
 |nil =>
  intro d st;simp only[List.nil_append,fK,dV,Int.add_zero,Option.none_or];by_cases h5:st.B=5
  ·simp[h5]
  ·simp[h5]
 |cons s r ih =>
  intro d st;simp only[List.cons_append,fK,dV];by_cases h10:s.B=10
  ·have e:d+1+dV r=d+(1+dV r):=by omega
   simp[h10,ih,e]
  by_cases h11:s.B=11
  ·have e:d-1+dV r=d+(-1+dV r):=by omega
   simp[h11,ih,e]
  by_cases h5:s.B=5
  ·by_cases hd:0<d
   ·simp[h5,hd]
   ·simp[h5,hd,ih]
  ·simp[h10,h11,h5,ih]
def QC:List NB->Option Int
 |[]=>none
 |t::r=>(fK 0 t.S).or (QC r)
def Lp(ts:List NB):kX ts=(QC ts).getD 0:=by
 induction ts with
 |nil=>rfl
 |cons t r ih =>
  simp only[kX,QC]
  cases fK 0 t.S with
  |none=>simpa using ih
  |some l=>simp
def tG(a b:List NB):QC (a++b)=(QC a).or (QC b):=by
 induction a with
 |nil=>simp[QC]
 |cons t r ih=>simp[QC,ih,x9]
end P
def OH.dV(h:OH n l ss m):P.dV ss=0:=by
 induction h using OH.ind with
 |nil=>rfl
 |leaf t _ _ ih=>simp[P.dV,t.k10,t.k11,ih]
 |node i _ e _ ih1 ih2=>simp[P.dV,MR,i.k,e.k,ih1,ih2]
def PV.dV{fs:List R.Fr}{q:List MV}(h:PV n fs q ls k):P.dV q=G fs:=by
 induction h using PV.ind with
 |nil=>rfl
 |aY _ i f ih=>simp[P.dV,MR,i.k,f.dV,ih]
def Twin.i{x:Lh}(h:Twin st x)(i:Int):Twin {st with i:=i} x:=⟨h.rd,h.wr,h.fn,h.br,h.k10,h.k11,h.acc,h.os,h.kd,h.op,h.rg,h.oa,h.ob,h.sg,h.b6⟩
structure Rel(r:Rd)(s:St):Prop where
 NA:r.count=s.count
 few:G r.H<=4
 thr:∀u∈r.H,0<u.i/\(u.block=0\/u.block=1)
 inn:s.inner=(QC r.H).getD 0
 pos:∀l,QC r.H=some l->0<l
 ths:r.H=[]/\s.ts=[]/\s.O=[]/\r.O=[]/\r.I=0 \/
  ∃ts us t u m k b q,s.ts=ts++[t]/\r.H=us++[u]/\QU 0 ts us m/\OH m t.body b k/\PV k s.O q r.O r.I/\u.S=b++q/\u.block=t.block/\u.i=t.row
def Lq:Rel Rd.zero St.zero:=⟨Z,by simp[Rd.zero],by simp[Rd.zero],Z,fun l h=>by simp[Rd.zero,QC]at h,Or.inl ⟨Z,Z,Z,Z,Z⟩⟩
def Rel.mE(h:Rel r s):G r.O=G s.O:=by
 rcases h.ths with⟨_,_,c,d,_⟩|⟨ts,us,t,u,m,k,b,q,_,_,_,_,e,_⟩
 ·rw[c,d];rfl
 ·exact e.len
def Rel.mK(h:Rel r s):G r.H=G s.ts:=by
 rcases h.ths with⟨c,d,_⟩|⟨ts,us,t,u,m,k,b,q,c,d,e,_⟩
 ·rw[c,d];rfl
 ·rw[c,d];simp[e.len]
def zR(p:Rd×Bool)(o:Option St)(i:Int):Prop :=
 p.1.i=i/\match o with
 |none=>p.2=Y
 |some s=>p.2=C/\Rel p.1 s
def Lr(c:UInt8):(eD c 2).2=C↔c=48\/c=49:=by
 have:∀c:Fin 256,(eD (x6 c.1) 2).2=C↔x6 c.1=48\/x6 c.1=49:=by decide +kernel
 have h:=this ⟨c.toNat,UInt8.toNat_lt c⟩;simpa using h
def Ls(c:UInt8):(eD c 2).2=decide (0<=inn [c] bl)/\((eD c 2).2=C->(eD c 2).1=inn [c] bl):=by
 rw[AF];by_cases h0:c=48
 ·subst h0;decide
 by_cases h1:c=49
 ·subst h1;decide
 have b:(eD c 2).2=Y:=by
  cases h:(eD c 2).2
  ·rfl
  ·rcases(Lr c).1 h with h|h
   ·exact absurd h h0
   ·exact absurd h h1
 rw[b];simp[h0,h1]
def WT(v:List UInt8)(h:∀c,v≠[c]):decide (0<=inn v bl)=Y:=by
 rw[AF,if_neg (h _),if_neg (h _)];rfl
def Lt(r:Rd)(s:St)(i:Int)(c:ByteArray)(w:List ByteArray)(p:Rel r s)(F:r.i=i)(D:0<i):
  zR (P.eG r (c.toList::w.map xF)) (R.eG s i w) i:=by
 have hl:=p.mK;have ho:=p.mE;have hf:=p.few;have f:∀o,o=none->zR (r,Y) o i:=fun o h=>by subst h;exact⟨F,Z⟩
 unfold P.eG R.eG;by_cases j:4<=G r.H\/0<G r.O
 ·rw[if_pos j];apply f
  match w with
  |[]=>rfl
  |[d] =>
   simp only[];rw[if_neg];intro M;simp at M
   rcases j with j|j
   ·exact M.2 (by omega)
   ·rw[ho,M.1.2]at j;simp at j
  |_::_::_=>rfl
 rw[if_neg j];have U:¬G s.ts=4:=by omega
 have N:s.O=[]:=by
  have:G s.O=0:=by omega
  exact List.length_eq_zero_iff.1 this
 match w with
 |[]=>exact f _ Z
 |[d] =>
  simp only[x3,x5,N,x7,x2];have K:(G s.ts==4)=Y:=by simpa using U
  rw[K];simp only[Bool.not_false,x2]
  match hd:d.toList with
  |[] =>
   simp only[];apply f;rw[WT _ fun c h=>by cases h];rfl
  |[x] =>
   simp only[];have e:=Ls x
   cases hx:(eD x 2).2
   ·rw[hx]at e;rw[<- e.1];exact f _ Z
   ·rw[hx]at e;rw[<- e.1];simp only[if_true];refine⟨F,Z,⟨Z,?_,?_,?_,?_,xW ?_⟩⟩
    ·simp;omega
    ·intro u J;simp at J
     rcases J with J|rfl
     ·exact p.thr u J
     ·refine⟨by simp only[F];exact D,?_⟩;simp only[];rw[e.2 rfl,AF];have g:=e.1;rw[AF]at g
      split
      ·exact Or.inl Z
      ·rename_i A;rw[if_neg A]at g
       split
       ·exact xW Z
       ·rename_i E;rw[if_neg E]at g;exact absurd g (by decide)
    ·have:=p.inn;simp only[tG,QC,fK,x4];exact this
    ·intro l h;simp only[tG,QC,fK,x4]at h;exact p.pos l h
    ·have B:r.O=[]:=by
      have:G r.O=0:=by omega
      exact List.length_eq_zero_iff.1 this
     have T:QU 0 s.ts r.H r.I:=by
      rcases p.ths with⟨g,A,E,S,L⟩|⟨ts,us,t,u,m,k,b,q,g,A,E,S,L,V,W,X⟩
      ·rw[g,A,L];exact .nil 0
      ·obtain⟨e1,e2,e3⟩:=L.none N;rw[g,A];refine .aY E ?_ W X;rw[V,e1,List.append_nil,e3];exact S
     refine⟨s.ts,r.H,_,_,r.I,r.I,[],[],Z,Z,T,.nil _,?_,Z,e.2 Z,F⟩;rw[B];exact .nil _
  |x::y::z =>
   simp only[];apply f;rw[WT _ fun c h=>by cases h];rfl
 |a::b::z =>
  simp only[x3]
  split
  ·rename_i h;simp at h
  ·exact f _ Z
def wJ{ts:List NB}(st:MV)(h:∀u∈ts,0<u.i/\(u.block=0\/u.block=1)):∀u∈fB ts st,0<u.i/\(u.block=0\/u.block=1):=by
 match ts,h with
 |[],h=>intro u b;simp[fB]at b
 |[t],h =>
  intro u b;simp[fB]at b;subst b;exact h t (by simp)
 |t::v::q,h =>
  intro u b;simp only[fB,List.mem_cons]at b
  rcases b with rfl|b
  ·exact h u (by simp)
  ·exact wJ (ts:=v::q) st (fun u b=>h u (by simp at b⊢;exact xW b)) u b
def Lu(st:MV)(V:Tree)(c n:Int)(i:Int)(inn:Int)(x:Rel r s)(U:s.ts≠[])(hi:0<i)(hc:c=n)(E:∀k,OH k [V] [st] k)(hl:st.i=i)(T:inn=if st.B==5&&!s.O.isEmpty&&s.inner==0 then i else s.inner):
  Rel (P.put {r with count:=c} st) (R.put {s with count:=n,inner:=inn} V):=by
 rcases x.ths with⟨L,F,M,J,K⟩|⟨ts,us,t,u,m,k,b,q,L,F,M,J,K,N,W,X⟩
 ·exact absurd F U
 have y:dV u.S=G s.O:=by rw[N,MR,J.dV,K.dV];omega
 have o:fB r.H st=us++[{u with S:=u.S++[st]}]:=by rw[F,wO]
 have A:QC (fB r.H st)=(QC r.H).or (if st.B==5&&decide (0<(G s.O:Int))then some i else none):=by
  rw[o,F,tG,tG];simp only[QC,x4];rw[GO,y,hl,x9];simp
 have D:(!s.O.isEmpty)=decide (0<(G s.O:Int)):=by
  cases s.O with
  |nil=>rfl
  |cons a l=>simp
 have g:inn=(QC (fB r.H st)).getD 0:=by
  rw[T,A,<- D];have j:=x.inn;have hp:=x.pos
  cases ho:QC r.H with
  |none =>
   rw[ho]at j;simp at j;rw[j]
   cases(st.B==5&&!s.O.isEmpty)<;>simp
  |some l =>
   rw[ho]at j;have:=hp l ho;simp at j;have hn:(s.inner==0)=Y:=by rw[j];simp;omega
   rw[hn,j];simp
 have e:∀l,QC (fB r.H st)=some l->0<l:=by
  intro l d;rw[A]at d
  cases ho:QC r.H with
  |none =>
   rw[ho]at d;simp at d;omega
  |some l' =>
   rw[ho]at d;simp at d;rw[<- d];exact x.pos _ ho
 have f:(fB r.H st).length<=4:=by rw[xY];exact x.few
 unfold R.put P.put;by_cases he:s.O=[]
 ·obtain⟨e1,e2,e3⟩:=K.none he;simp only[he,x7,if_true];refine⟨hc,f,wJ st x.thr,g,e,xW ⟨ts,us,{t with body:=t.body++[V]},{u with S:=u.S++[st]},m,k,b++[st],[],?_,o,M,J.append (E k),?_,?_,W,X⟩⟩
  ·simp only[L,xC]
  ·simp only[e2,e3];exact .nil _
  ·simp[N,e1]
 ·obtain⟨m',a,gs,p,ss,ms,aa,l,o1,o2,o3,o4,o5,o6⟩:=K.last he;have z:s.O.isEmpty=Y:=by cases hx:s.O with
   |nil=>exact absurd hx he
   |cons _ _=>rfl
  simp only[z,xR,if_false];refine⟨hc,f,wJ st x.thr,g,e,xW ⟨ts,us,t,{u with S:=u.S++[st]},m,k,b,q++[st],L,o,M,J,?_,?_,W,X⟩⟩
  ·simp only[o4,wU,o6,o5];have:=PV.aY o1 o2 (o3.append (E r.I));simpa using this
  ·simp[N]
def Lv(st:MV)(l:Int)(f:R.Fr)(c:Rel r s)(U:st.B=11)(V:r.O.getLast?=some l)(D:s.O.getLast?=some f):
  Rel (P.put {r with O:=r.O.dropLast} {st with label:=l}) (R.put {s with O:=s.O.dropLast} (.mk (fI f.a) f.l)):=by
 have o:s.O≠[]:=by intro h;rw[h]at D;simp at D
 rcases c.ths with⟨E,F,A,J,K⟩|⟨ts,us,t,u,m,k,b,q,E,F,A,J,K,L,M,T⟩
 ·exact absurd A o
 obtain⟨e,a,z,p,ss,ms,y,tl,W,o2,o3,X,o5,o6⟩:=K.last o;have ef:f=⟨tl,a⟩:=by rw[X]at D;simpa using D.symm
 have el:l=e+1:=by rw[o6]at V;simpa using V.symm
 subst ef;subst el;have hs:s.O.dropLast=z:=by rw[X];simp
 have hm:r.O.dropLast=ms:=by rw[o6];simp
 rw[hs,hm];have i:∀x,fB r.H x=us++[{u with S:=u.S++[x]}]:=fun x=>by rw[F,wO]
 have N:OH e [.mk (fI a) tl] (y::(ss++[{st with label:=e+1}])) r.I:=OH.node o2 o3 ⟨U,Z⟩ (.nil _);have d:QC (fB r.H {st with label:=e+1})=QC r.H:=by
  rw[i,F,tG,tG];simp only[QC,x4];rw[GO];simp[U]
 have g:(fB r.H {st with label:=e+1}).length<=4:=by rw[xY];exact c.few
 unfold R.put P.put;by_cases he:z=[]
 ·obtain⟨e1,e2,e3⟩:=W.none he;subst he;simp only[x7,if_true];refine⟨c.NA,g,wJ _ c.thr,by simp only[d];exact c.inn,by simp only[d];exact c.pos,xW ⟨ts,us,{t with body:=t.body++[.mk (fI a) tl]},{u with S:=u.S++[{st with label:=e+1}]},m,r.I,b++y::(ss++[{st with label:=e+1}]),[],?_,i _,A,J.append (e3▸N),?_,?_,M,T⟩⟩
  ·simp only[E,xC]
  ·simp only[e2];exact .nil _
  ·simp[L,o5,e1]
 ·obtain⟨m2,a2,aa,p2,ac,ab,ad,ae,q1,q2,q3,q4,q5,q6⟩:=W.last he;have j:z.isEmpty=Y:=by cases hx:z with
   |nil=>exact absurd hx he
   |cons _ _=>rfl
  simp only[j,xR,if_false];refine⟨c.NA,g,wJ _ c.thr,by simp only[d];exact c.inn,by simp only[d];exact c.pos,xW ⟨ts,us,t,{u with S:=u.S++[{st with label:=e+1}]},m,k,b,q++[{st with label:=e+1}],E,i _,A,J,?_,?_,M,T⟩⟩
  ·simp only[q4,wU,q6,o5,q5];have:=PV.aY q1 q2 (q3.append N);simpa using this
  ·simp[L]
def Lw(st:MV)(a:Int)(c n:Int)(f:Rel r s)(i:s.ts≠[])(z:st.B=10)(J:RF st.a a)(F:c=n):
  Rel (P.put {r with count:=c,I:=r.I+1,O:=r.O++[r.I+1]} {st with label:=r.I+1}) {s with count:=n,O:=s.O++[⟨[],a⟩]}:=by
 rcases f.ths with⟨j,g,o,p,y⟩|⟨ts,us,t,u,m,k,b,q,j,g,o,p,y,A,D,E⟩
 ·exact absurd g i
 have e:∀x,fB r.H x=us++[{u with S:=u.S++[x]}]:=fun x=>by rw[g,wO]
 have d:QC (fB r.H {st with label:=r.I+1})=QC r.H:=by
  rw[e,g,tG,tG];simp only[QC,x4];rw[GO];simp[z]
 unfold P.put;refine⟨F,by rw[xY];exact f.few,wJ _ f.thr,by simp only[d];exact f.inn,by simp only[d];exact f.pos,xW ⟨ts,us,t,{u with S:=u.S++[{st with label:=r.I+1}]},m,k,b,q++[{st with label:=r.I+1}],j,e _,o,p,PV.aY y ⟨z,Z,J⟩ (.nil _),?_,D,E⟩⟩;simp[A]
def DF(x:Lh)(b:List UInt8)(r:List ByteArray):(how x b r).1.op=x.op:=by
 unfold how
 split
 ·rfl
 ·split
  ·rfl
  ·split
   ·rfl
   ·split<;>rfl
def Lx(d c:ByteArray)(r:List ByteArray):¬(mS d c r).1.op.toList=[105,102]:=by
 have b:¬x0.op.toList=[105,102]:=by rw[x0,bQ];decide
 have hs:¬eK.toList=[105,102]:=by rw[eK,bQ];decide
 unfold mS
 split
 ·split
  ·simp only[rC,DF,gG,bQ];decide
  ·exact b
 ·split
  ·rename_i e;simp only[x8,Bool.or_eq_true,beq_iff_eq]at e
   split
   ·simp only[qM,DF]
    rcases e.1 with h|h<;>rw[h]<;>decide
   ·exact b
  ·split
   ·exact hs
   ·exact hs
   ·exact hs
def Ly(c:ByteArray)(w:List ByteArray):¬(fD c w).1.op.toList=[105,102]:=by
 have b:¬x0.op.toList=[105,102]:=by rw[x0,bQ];decide
 unfold fD
 split
 ·simp only[jE,bQ];decide
 ·split
  ·simp only[DF,gT,bQ];decide
  ·split
   ·split
    ·simp only[sX,DF,gN,bQ];decide
    ·exact b
   ·split
    ·split
     ·exact Lx _ _ _
     ·exact b
    ·exact b
def Lz(r:Rd)(s:St)(i:Int)(c:ByteArray)(w:List ByteArray)(q:Rel r s)(j:r.i=i)(p:0<i):
  zR (cW r (c.toList::w.map xF)) (R.step s i c w) i:=by
 unfold cW R.step;simp only[List.head?_cons];by_cases ht:c.toList=[116,104,114,101,97,100]
 ·rw[if_pos (by simpa using ht),if_pos (by simpa using ht)];exact Lt r s i c w q j p
 have F:(some c.toList==some [116,104,114,101,97,100])=Y:=by simpa using ht
 have I:(c.toList==[116,104,114,101,97,100])=Y:=by simpa using ht
 simp only[F,I,xR,if_false];have y:=q.mK;have E:=q.mE;by_cases hn:s.ts=[]
 ·have:r.H=[]:=List.length_eq_zero_iff.1 (by rw[y,hn];rfl);rw[hn,this];exact⟨j,Z⟩
 have A:r.H.isEmpty=Y:=by
  cases hx:r.H with
  |nil=>rw[hx]at y;exact absurd (List.length_eq_zero_iff.1 y.symm) hn
  |cons _ _=>rfl
 have D:s.ts.isEmpty=Y:=by
  cases hx:s.ts with
  |nil=>exact absurd hx hn
  |cons _ _=>rfl
 rw[A,D];simp only[xR,if_false];have u:∀(n:Int) o,o=none->zR ({r with count:=n},Y) o i:=fun n o h=>by subst h;exact⟨j,Z⟩
 have d:∀o,o=none->zR (r,Y) o i:=fun o h=>by subst h;exact⟨j,Z⟩
 by_cases he:c.toList=[101,110,100]
 ·have t:(c.toList==[101,110,100])=C:=by simpa using he
  simp only[t,if_true];have hs:cR (c.toList::w.map xF)=({MV.zero with B:=11},w.isEmpty):=by
   unfold cR;simp[he]
  rw[hs];simp only[]
  cases hw:w.isEmpty
  ·simp only[xR,if_false];apply d;unfold R.fC;rw[hw]
   cases s.O.getLast?<;>rfl
  ·simp only[if_true];rw[if_pos (by rfl)];unfold P.fC R.fC;rw[hw]
   cases hg:s.O.getLast? with
   |none =>
    have:r.O=[]:=by
     rw[xa]at hg;exact List.length_eq_zero_iff.1 (by rw[E,hg];rfl)
    rw[this];exact⟨j,Z⟩
   |some f =>
    cases hg2:r.O.getLast? with
    |none =>
     rw[xa]at hg2;rw[hg2]at E;have:s.O=[]:=List.length_eq_zero_iff.1 E.symm;rw[this]at hg;simp at hg
    |some l=>exact⟨j,Z,Lv _ l f q Z hg2 hg⟩
 have t:(c.toList==[101,110,100])=Y:=by simpa using he
 simp only[t,xR,if_false];by_cases hif:c.toList=[105,102]
 ·have g:(c.toList==[105,102])=C:=by simpa using hif
  simp only[g,if_true];have hs:cR (c.toList::w.map xF)=oY (c.toList::w.map xF):=by
   unfold cR;simp[hif]
  rw[hs]
  match w with
  |[]=>exact d _ Z
  |[a] =>
   have e:=wB a.toList;simp only[oY,x3,x5,R.branch]
   cases hx:(cF a.toList).2
   ·simp only[xR,if_false];apply d;rw[<- e.1,hx];simp
   ·simp only[if_true];rw[if_neg (by decide)];have x:=q.NA;by_cases h8:8<=r.count
    ·rw[if_pos h8];apply d;rw[if_neg];simp;omega
    rw[if_neg h8,if_pos (by decide)];by_cases h2:2<=G r.O
    ·rw[if_pos h2];apply u;rw[if_neg];simp;omega
    rw[if_neg h2];unfold P.branch;simp only[];rw[if_neg h2,if_pos (by rw[<- e.1,hx];simp;omega)];refine⟨j,Z,?_⟩;refine Lw {MV.zero with B:=10,i:=r.i,a:=(cF a.toList).1} (bG a.toList).1 (r.count+1) (s.count+1) q hn Z ?_ (by rw[x]);exact⟨(e.2 hx).symm,pW _ hx⟩
  |a::b::z=>exact d _ Z
 have g:(c.toList==[105,102])=Y:=by simpa using hif
 simp only[g,xR,if_false];have e:=Lo c w hif he;unfold R.bW
 cases hx:(cR (c.toList::w.map xF)).2
 ·simp only[xR,if_false];apply d;rw[<- e.1,hx];simp
 ·have T:=(e.2 (by rw[<- e.1,hx])).i r.i;simp only[if_true];rw[if_neg (by rw[show((cR (c.toList::w.map xF)).1.B==11)=Y from T.k11];decide)];have x:=q.NA;by_cases h8:8<=r.count
  ·rw[if_pos h8];apply d;rw[if_neg];simp;omega
  rw[if_neg h8,if_neg (by rw[show((cR (c.toList::w.map xF)).1.B==10)=Y from T.k10];decide)];rw[if_pos (by rw[<- e.1,hx];simp;omega)];refine⟨j,Z,?_⟩;refine Lu {(cR (c.toList::w.map xF)).1 with i:=r.i} _ (r.count+1) (s.count+1) i _ q hn p (by rw[x]) (fun k=>.leaf T (Ly c w) (.nil k)) j ?_;rw[show((cR (c.toList::w.map xF)).1.B==5)=isB (fD c w).1 from T.br.symm]
def L0(c:UInt8)(x:List UInt8):ND c x≠[]:=by
 induction x with
 |nil=>simp[ND]
 |cons a r ih =>
  unfold ND
  split
  ·simp
  ·split<;>simp
def L1(d:List (List UInt8)):∀(r:Rd) (s:St) (i:Int),Rel r s->r.i=i->0<=i ->
  (OX r d).1.i=(run s i d).2/\match(run s i d).1 with
   |none=>(OX r d).2=Y
   |some s'=>(OX r d).2=C/\Rel (OX r d).1 s':=by
 induction d with
 |nil=>intro r s i b f j;exact⟨f,Z,b⟩
 |cons x d ih =>
  intro r s i b f j;simp only[OX,run]
  cases hw:ND 32 x with
  |nil=>exact absurd hw (L0 32 x)
  |cons c w =>
   have A:=Lz {r with i:=r.i+1} s (i+1) (nF c) (w.map nF) (⟨b.NA,b.few,b.thr,b.inn,b.pos,b.ths⟩) (by simp only[f]) (by omega);rw[WC,List.map_map,show xF ∘ nF=id from funext WC,List.map_id]at A;simp only[x3];generalize cW {r with i:=r.i+1} (c::w)=p at A⊢;obtain⟨g,e⟩:=A
   cases hs:R.step s (i+1) (nF c) (w.map nF)with
   |none =>
    rw[hs]at e;simp only[]at e;simp only[e,xR,if_false];exact⟨g,trivial⟩
   |some s' =>
    rw[hs]at e;simp only[e.1,if_true];exact ih _ _ _ e.2 g (by omega)
def OH.NA(p:MV->Bool)(q:Lh->Bool)(h:OH n l ss m)(f:∀st x,Twin st x->q x=p st)(b:∀st,st.B=10->p st=Y)(c:∀st,st.B=11->p st=Y)(d:∀a,q (fI a)=Y):P.NA p ss=NL q l:=by
 induction h using OH.ind with
 |nil=>simp[P.NA,iY]
 |leaf t _ _ ih=>simp[P.NA,iY,jA,iM,f _ _ t,ih]
 |node i _ e _ ih1 ih2=>simp[P.NA,xJ,iY,jA,iM,b _ i.k,c _ e.k,d,ih1,ih2]
def L3(l:List MV):PO l=P.NA (fun s=>s.B==5) l:=by
 induction l with
 |nil=>rfl
 |cons s r ih=>simp only[PO,P.NA,ih]
