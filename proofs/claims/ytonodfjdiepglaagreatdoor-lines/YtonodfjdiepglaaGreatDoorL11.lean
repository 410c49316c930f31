import Derived.Test.YtonodfjdiepglaaGreatDoorL09
set_option linter.unusedVariables false
set_option linter.unusedSimpArgs false
set_option maxHeartbeats 12800000
namespace Go.Proofs.YtonodfjdiepglaaGreatDoor
open Go Go.RowKit Go.Proofs.Tryz P Q R
set_option maxRecDepth 1000000
variable {a k m n:Int} {st:Stm} {l:List Tree} {ss:List Stm} {fs:List Fr} {ls:List Int} {ts:List R.Th} {us:List Thr} {r:Rd} {s:St}
open _root_.ByteArray renaming toList→xF
open Bool renaming true_and→xR,false_eq_true→xW,and_true→x1
set_option linter.unusedSimpArgs false
theorem sW (o:Opd) (h:0<=o.n):kBv (FN o)=kCm o:=by
 unfold FN kBv kCm
 cases o.reg
 ·simp only[xW,if_false];rw[if_neg (by omega)]
 ·simp only[if_true];rw[if_pos (by omega)];congr 1;omega
theorem wW (n:Int) (h:0<=n):kBv (-1-n)=P.bQ n:=by
 unfold kBv;rw[if_pos (by omega)];congr 1;omega
theorem wR (v:Int) (h:0<=v):R.cX v=P.cX v:=by unfold R.cX P.cX;rw[if_pos h]
theorem rN {v:List UInt8} (h:decide (0<=inn v bO)=true):0<=inn v bO/\inn v bO<3:=by
 refine⟨of_decide_eq_true h,?_⟩;rw[zGV];(repeat' split)<;>omega
theorem xN (st:Stm) (b:List (List UInt8)) (h:(dY st b).2=true):zMU st.kind (dY st b).1.order=true:=by
 match b,h with
 | [],h=>simp[dY] at h
 | o::r,h =>
  unfold dY at h ⊢;by_cases hc:((order o).2&&zMU st.kind (order o).1)=true
  ·simp only[hc,if_true] at h ⊢;simp only[Bool.and_eq_true] at hc;by_cases hz:(order o).1=0
   ·have:=hc.2;rw[hz] at this;simpa [hz] using this
   ·simp only[beq_eq_false_iff_ne.2 hz,xW,if_false] at h ⊢
    split
    ·exact hc.2
    ·exact hc.2
  ·simp[hc] at h
structure Twin (st:Stm) (x:Lh):Prop where
 txt:kBw x=kBx st
 rd:R.isR x=P.isR st
 wr:R.isW x=P.isW st
 fn:R.isF x=P.isF st
 br:isB x=(st.kind==5)
 k10:(st.kind==10)=false
 k11:(st.kind==11)=false
 gen:∀ (o' s':Int) (ob sb:ByteArray),kGZ { st with order:=o',scope:=s' }=46::kFF ob.toList sb.toList->kBw { x with ord:=ob,scope:=sb }=kBx { st with order:=o',scope:=s' }
 fe:(x.op.toList==kAe.toList)=(st.kind==4)
 se:(x.op.toList==kAA.toList)=kEw st.kind
 acc:kBE st.kind=true->x.var=st.var/\0<=st.var/\st.var<3
 nac:kBE st.kind=false->x.var=-1
 os:(kBE st.kind||st.kind==4)=true->x.ord.toList=zLR st.order/\x.scope.toList=scW st.order st.scope/\OkOS st.order st.scope/\zMU st.kind st.order=true
 non:(kBE st.kind||st.kind==4)=false->x.scope.toList=[]
theorem pP:x0.scope.toList=[]:=by rw[x0,aP]
theorem zFL:Twin { Stm.zero with kind:=5 } { x0 with op:=cW }:=by
 refine⟨?_,?_,?_,?_,?_,rfl,rfl,?_,?_,?_,?_,?_,?_,?_⟩
 ·simp[kBw,R.isR,R.isW,R.isF,isB,kBx,P.isR,P.isW,P.isF,reads,zMK,cW,cN,cO,kAe,cU,cT,aP,Stm.zero]
 ·simp[kBw,R.isR,R.isW,R.isF,isB,kBx,P.isR,P.isW,P.isF,reads,zMK,cW,cN,cO,kAe,cU,cT,aP,Stm.zero]
 ·simp[kBw,R.isR,R.isW,R.isF,isB,kBx,P.isR,P.isW,P.isF,reads,zMK,cW,cN,cO,kAe,cU,cT,aP,Stm.zero]
 ·simp[kBw,R.isR,R.isW,R.isF,isB,kBx,P.isR,P.isW,P.isF,reads,zMK,cW,cN,cO,kAe,cU,cT,aP,Stm.zero]
 ·simp[kBw,R.isR,R.isW,R.isF,isB,kBx,P.isR,P.isW,P.isF,reads,zMK,cW,cN,cO,kAe,cU,cT,aP,Stm.zero]
 ·intro b d c e _;simp[kBw,R.isR,R.isW,R.isF,isB,kBx,P.isR,P.isW,P.isF,reads,zMK,cW,cN,cO,kAe,cU,cT,aP,Stm.zero]
 ·simp[cW,cN,cO,kAe,kAA,cU,cT,aP,Stm.zero]
 ·simp[kEw,cW,cN,cO,kAe,kAA,cU,cT,aP,Stm.zero]
 ·intro h;simp[kBE,Stm.zero] at h
 ·intro _;rfl
 ·intro h;simp[kBE,Stm.zero] at h
 ·intro _;exact pP
theorem zHS (r:List ByteArray):(dY { Stm.zero with kind:=4 } (r.map xF)).2=(how { x0 with op:=kAe } mD r).2/\((how { x0 with op:=kAe } mD r).2=true->Twin (dY { Stm.zero with kind:=4 } (r.map xF)).1 (how { x0 with op:=kAe } mD r).1):=by
 have h:=yU { Stm.zero with kind:=4 } { x0 with op:=kAe } mD zGk pP rfl r;refine⟨h.1,fun e=>?_⟩;have s:=h.2 e;have i:=xN _ _ (h.1.trans e);generalize (dY { Stm.zero with kind:=4 } (r.map xF)).1=st at *;generalize (how { x0 with op:=kAe } mD r).1=x at *;have b:st.kind=4:=by rw[s.stm]
 have d:x.op=kAe:=by rw[s.ln]
 have f:=s.suf;have g:=s.sc;refine⟨?_,?_,?_,?_,?_,by rw[b];rfl,by rw[b];rfl,?_,?_,?_,?_,?_,?_,?_⟩
 ·simp[kBw,kBx,b,d,cW,cN,cO,kAe,cU,cT,aP,f]
 ·simp[R.isR,P.isR,reads,b,d,cN,kAe,cU,cT,aP]
 ·simp[R.isW,P.isW,zMK,b,d,cO,kAe,cU,cT,aP]
 ·simp[R.isF,P.isF,b,d,kAe,aP,<- g]
 ·simp[isB,b,d,kAe,cW,aP]
 ·intro j q p t c;simp only[b] at c;simp[kBw,R.bQ,kBx,b,d,cW,cN,cO,kAe,cU,cT,aP,c]
 ·simp[b,d,cW,cN,cO,kAe,kAA,cU,cT,aP]
 ·simp[kEw,b,d,cW,cN,cO,kAe,kAA,cU,cT,aP]
 ·intro h;rw[b] at h;simp[kBE] at h
 ·intro _;rw[s.ln];rfl
 ·intro _;exact⟨s.od,s.sp,s.ok,by rw[b];exact i⟩
 ·intro h;rw[b] at h;simp[kBE] at h
theorem zHT (p v:ByteArray) (r:List ByteArray):(P.store ([115,116,111,114,101]::p.toList::v.toList::r.map xF)).2=(oN p v r).2/\((oN p v r).2=true->Twin (P.store ([115,116,111,114,101]::p.toList::v.toList::r.map xF)).1 (oN p v r).1):=by
 have B:=CM p.toList;have z:=qR v.toList;unfold P.store P.kAp oN;simp only[]
 cases h1:(eQ p.toList).2
 ·have i:decide (0<=inn p.toList bO)=false:=by rw[<- B.1,h1]
  simp[i]
 have i:decide (0<=inn p.toList bO)=true:=by rw[<- B.1,h1]
 have C:=B.2 h1;simp only[if_true]
 cases h2:(cA v.toList).2
 ·have:(aW v.toList).2=false:=by rw[<- z.1,h2]
  simp[this]
 have y:(aW v.toList).2=true:=by rw[<- z.1,h2]
 have A:=z.2 h2;have G:=rX _ h2;simp only[if_true];have h:=yU { Stm.zero with kind:=1,var:=(eQ p.toList).1,a:=(cA v.toList).1 } { x0 with op:=cO,var:=inn p.toList bO,a:=(aW v.toList).1 } mT zGl pP rfl r;rw[y,i];simp only[xR,x1];refine⟨h.1,fun q=>?_⟩;have s:=h.2 q;have E:=xN _ _ (h.1.trans q);generalize (dY { Stm.zero with kind:=1,var:=(eQ p.toList).1,a:=(cA v.toList).1 } (r.map xF)).1=st at *;generalize (how { x0 with op:=cO,var:=inn p.toList bO,a:=(aW v.toList).1 } mT r).1=x at *;have c:st.kind=1:=by rw[s.stm]
 have b:x.op=cO:=by rw[s.ln]
 have F:st.a=(cA v.toList).1:=by rw[s.stm]
 have D:x.a=(aW v.toList).1:=by rw[s.ln]
 have f:st.var=inn p.toList bO:=by rw[s.stm];exact C
 have g:x.var=inn p.toList bO:=by rw[s.ln]
 have u:=s.suf;have j:0<=x.var:=by rw[g];exact of_decide_eq_true i
 have t:kBv x.a=kCm st.a:=by rw[D,<- A,F];exact sW _ G.1
 refine⟨?_,?_,?_,?_,?_,by rw[c];rfl,by rw[c];rfl,?_,?_,?_,?_,?_,?_,?_⟩
 ·have d:R.cX x.var=P.cX st.var:=by rw[wR _ j,f,g]
  simp[kBw,kBx,c,b,cW,cN,cO,kAe,cU,cT,aP,u,t,d]
 ·simp[R.isR,P.isR,reads,c,b,cN,cO,cU,cT,aP]
 ·simp[R.isW,P.isW,zMK,c,b,cO,cU,cT,aP]
 ·simp[R.isF,P.isF,c,b,kAe,cO,aP]
 ·simp[isB,c,b,cO,cW,aP]
 ·intro H J I K e;simp only[c] at e;have d:R.cX x.var=P.cX st.var:=by rw[wR _ j,f,g]
  simp[kBw,R.bQ,kBx,c,b,cW,cN,cO,kAe,cU,cT,aP,e,t,d]
 ·simp[c,b,cW,cN,cO,kAe,kAA,cU,cT,aP]
 ·simp[kEw,c,b,cW,cN,cO,kAe,kAA,cU,cT,aP]
 ·intro _;exact⟨by rw[g,f],by rw[f];exact (rN i).1,by rw[f];exact (rN i).2⟩
 ·intro h;rw[c] at h;simp[kBE] at h
 ·intro _;exact⟨s.od,s.sp,s.ok,by rw[c];exact E⟩
 ·intro h;rw[c] at h;simp[kBE] at h
theorem zJb (d p:ByteArray) (r:List ByteArray) (G:(cD d.toList).2=true):(P.load { Stm.zero with dest:=(cD d.toList).1 } (p.toList::r.map xF)).2=(mR d p r).2/\((mR d p r).2=true->Twin (P.load { Stm.zero with dest:=(cD d.toList).1 } (p.toList::r.map xF)).1 (mR d p r).1):=by
 have D:=CM p.toList;have H:=sZ d.toList;have v:decide (0<=inn d.toList regs)=true:=by rw[<- H.1,G]
 have C:=H.2 G;unfold mR;simp only[]
 cases h1:(eQ p.toList).2
 ·have t:decide (0<=inn p.toList bO)=false:=by rw[<- D.1,h1]
  rw[yM _ _ _ h1];simp[t]
 have t:decide (0<=inn p.toList bO)=true:=by rw[<- D.1,h1]
 have E:=D.2 h1;rw[zG _ _ _ h1,t,v];simp only[xR,x1];have h:=yU { Stm.zero with dest:=(cD d.toList).1,kind:=0,var:=(eQ p.toList).1 } { x0 with reg:=inn d.toList regs,op:=cN,var:=inn p.toList bO } nC zHB pP rfl r;refine⟨h.1,fun u=>?_⟩;have s:=h.2 u;have z:=xN _ _ (h.1.trans u);simp only[] at s z ⊢;generalize (dY { Stm.zero with dest:=(cD d.toList).1,kind:=0,var:=(eQ p.toList).1 } (r.map xF)).1=st at s z ⊢;generalize (how { x0 with reg:=inn d.toList regs,op:=cN,var:=inn p.toList bO } nC r).1=x at s ⊢;have c:st.kind=0:=by rw[s.stm]
 have b:x.op=cN:=by rw[s.ln]
 have g:st.var=inn p.toList bO:=by rw[s.stm];exact E
 have q:x.var=inn p.toList bO:=by rw[s.ln]
 have A:st.dest=inn d.toList regs:=by rw[s.stm];exact C
 have F:x.reg=inn d.toList regs:=by rw[s.ln]
 have y:=s.suf;have B:0<=x.var:=by rw[q];exact of_decide_eq_true t
 have i:R.cX x.var=P.cX st.var:=by rw[wR _ B,g,q]
 have j:R.bQ x=P.bQ st.dest:=by unfold R.bQ;rw[F,A];exact wW _ (of_decide_eq_true v)
 refine⟨?_,?_,?_,?_,?_,by rw[c];rfl,by rw[c];rfl,?_,?_,?_,?_,?_,?_,?_⟩
 ·simp[kBw,kBx,c,b,cW,cN,cO,kAe,cU,cT,aP,y,i,j]
 ·simp[R.isR,P.isR,reads,c,b,cN,cU,cT,aP]
 ·simp[R.isW,P.isW,zMK,c,b,cN,cO,cU,cT,aP]
 ·simp[R.isF,P.isF,c,b,kAe,cN,aP]
 ·simp[isB,c,b,cN,cW,aP]
 ·intro I K J L f;simp only[c] at f;have e:=j
  try unfold R.bQ at e
  simp[kBw,R.bQ,kBx,c,b,cW,cN,cO,kAe,cU,cT,aP,f,i,e]
 ·simp[c,b,cW,cN,cO,kAe,kAA,cU,cT,aP]
 ·simp[kEw,c,b,cW,cN,cO,kAe,kAA,cU,cT,aP]
 ·intro _;exact⟨by rw[q,g],by rw[g];exact (rN t).1,by rw[g];exact (rN t).2⟩
 ·intro h;rw[c] at h;simp[kBE] at h
 ·intro _;exact⟨s.od,s.sp,s.ok,by rw[c];exact z⟩
 ·intro h;rw[c] at h;simp[kBE] at h
theorem zHg (K:Int) (d c p v:ByteArray) (r:List ByteArray) (T:(cD d.toList).2=true) (S:K=2/\c.toList=[97,100,100]\/K=3/\c.toList=[115,119,97,112]):(P.step { Stm.zero with dest:=(cD d.toList).1 } K (p.toList::v.toList::r.map xF)).2=(lE d c p v r).2/\((lE d c p v r).2=true->Twin (P.step { Stm.zero with dest:=(cD d.toList).1 } K (p.toList::v.toList::r.map xF)).1 (lE d c p v r).1):=by
 have L:=CM p.toList;have H:=qR v.toList;have U:=sZ d.toList;have A:decide (0<=inn d.toList regs)=true:=by rw[<- U.1,T]
 have J:=U.2 T;unfold P.step P.kAp lE;simp only[]
 cases h1:(eQ p.toList).2
 ·have y:decide (0<=inn p.toList bO)=false:=by rw[<- L.1,h1]
  simp[y]
 have y:decide (0<=inn p.toList bO)=true:=by rw[<- L.1,h1]
 have M:=L.2 h1;simp only[if_true]
 cases h2:(cA v.toList).2
 ·have:(aW v.toList).2=false:=by rw[<- H.1,h2]
  simp[this]
 have E:(aW v.toList).2=true:=by rw[<- H.1,h2]
 have I:=H.2 h2;have W:=rX _ h2;simp only[if_true];have h:=yU { Stm.zero with dest:=(cD d.toList).1,kind:=K,var:=(eQ p.toList).1,a:=(cA v.toList).1 } { x0 with reg:=inn d.toList regs,op:=c,var:=inn p.toList bO,a:=(aW v.toList).1 } iK (by rcases S with ⟨rfl,_⟩ | ⟨rfl,_⟩;exact zIH;exact zHC) pP rfl r;rw[E,y,A];simp only[xR,x1];refine⟨h.1,fun z=>?_⟩;have s:=h.2 z;have D:=xN _ _ (h.1.trans z);simp only[] at s D ⊢;generalize (dY { Stm.zero with dest:=(cD d.toList).1,kind:=K,var:=(eQ p.toList).1,a:=(cA v.toList).1 } (r.map xF)).1=st at s D ⊢;generalize (how { x0 with reg:=inn d.toList regs,op:=c,var:=inn p.toList bO,a:=(aW v.toList).1 } iK r).1=x at s ⊢;have e:st.kind=K:=by rw[s.stm]
 rcases S with ⟨rfl,i⟩ | ⟨rfl,i⟩
 all_goals
  have b:x.op=c:=by rw[s.ln]
  have V:st.a=(cA v.toList).1:=by rw[s.stm]
  have N:x.a=(aW v.toList).1:=by rw[s.ln]
  have j:st.var=inn p.toList bO:=by rw[s.stm];exact M
  have u:x.var=inn p.toList bO:=by rw[s.ln]
  have F:st.dest=inn d.toList regs:=by rw[s.stm];exact J
  have O:x.reg=inn d.toList regs:=by rw[s.ln]
  have C:=s.suf;have G:0<=x.var:=by rw[u];exact of_decide_eq_true y
  have B:kBv x.a=kCm st.a:=by rw[N,<- I,V];exact sW _ W.1
  have q:R.cX x.var=P.cX st.var:=by rw[wR _ G,j,u]
  have t:R.bQ x=P.bQ st.dest:=by unfold R.bQ;rw[O,F];exact wW _ (of_decide_eq_true A)
  refine⟨?_,?_,?_,?_,?_,by rw[e];rfl,by rw[e];rfl,?_,?_,?_,?_,?_,?_,?_⟩
  ·simp[kBw,kBx,e,b,i,cW,cN,cO,kAe,cU,cT,aP,C,B,q,t]
  ·simp[R.isR,P.isR,reads,e,b,i,cN,cU,cT,aP]
  ·simp[R.isW,P.isW,zMK,e,b,i,cO,cU,cT,aP]
  ·simp[R.isF,P.isF,e,b,i,kAe,aP]
  ·simp[isB,e,b,i,cW,aP]
  ·intro X Z Y sb g;simp only[e] at g;have f:=t
   try unfold R.bQ at f
   simp[kBw,R.bQ,kBx,e,b,i,cW,cN,cO,kAe,cU,cT,aP,g,B,q,f]
  ·simp[e,b,i,cW,cN,cO,kAe,kAA,cU,cT,aP]
  ·simp[kEw,e,b,i,cW,cN,cO,kAe,kAA,cU,cT,aP]
  ·intro _;exact⟨by rw[u,j],by rw[j];exact (rN y).1,by rw[j];exact (rN y).2⟩
  ·intro h;rw[e] at h;simp[kBE] at h
  ·intro _;exact⟨s.od,s.sp,s.ok,by rw[e];exact D⟩
  ·intro h;rw[e] at h;simp[kBE] at h
set_option linter.unusedSimpArgs false
theorem zLa (v:List UInt8):(sign v).2=decide (0<=inn v iZ)/\((sign v).2=true->(sign v).1=7+inn v iZ/\(inn v iZ=0\/inn v iZ=1\/inn v iZ=2)):=by
 have e:zMi 32 iZ=[[43],[45],[61,61]]:=by decide
 rw[sQ v iZ _ e];by_cases h1:v=[43]
 ·subst h1;decide
 by_cases h2:v=[45]
 ·subst h2;decide
 by_cases h3:v=[61,61]
 ·subst h3;decide
 have:(sign v).2=false:=by unfold sign;simp[h1,h2,h3]
 rw[this];simp[eS,Ne.symm h1,Ne.symm h2,Ne.symm h3]
theorem zKf (d a:ByteArray) (u:(cD d.toList).2=true):(sum { Stm.zero with dest:=(cD d.toList).1 } [a.toList]).2=(lB d a).2/\((lB d a).2=true->Twin (sum { Stm.zero with dest:=(cD d.toList).1 } [a.toList]).1 (lB d a).1):=by
 have j:=qR a.toList;have v:=sZ d.toList;have e:decide (0<=inn d.toList regs)=true:=by rw[<- v.1,u]
 have q:=v.2 u;unfold lB;simp only[e,xR]
 cases h2:(cA a.toList).2
 ·have:(aW a.toList).2=false:=by rw[<- j.1,h2]
  rw[xJ _ _ _ h2,this];simp
 have i:(aW a.toList).2=true:=by rw[<- j.1,h2]
 have p:=j.2 h2;have x:=rX _ h2;rw[kJk _ _ h2,i];refine⟨rfl,fun _=>?_⟩;have g:kBv (aW a.toList).1=kCm (cA a.toList).1:=by rw[<- p];exact sW _ x.1
 have c:kBv (-1-inn d.toList regs)=P.bQ (cD d.toList).1:=by rw[q];exact wW _ (of_decide_eq_true e)
 have f:inn x0.sign.toList iZ<0:=by rw[x0,aP];decide
 refine⟨?_,?_,?_,?_,?_,rfl,rfl,?_,?_,?_,?_,?_,?_,?_⟩
 ·simp[kBw,R.bQ,kBx,kAA,cW,cN,cO,kAe,cU,cT,aP,f,g,c]
 ·simp[R.isR,P.isR,reads,kAA,cN,cU,cT,aP]
 ·simp[R.isW,P.isW,zMK,kAA,cO,cU,cT,aP]
 ·simp[R.isF,P.isF,kAA,kAe,aP]
 ·simp[isB,kAA,cW,aP]
 ·intro y A z B t;have b:=c
  try unfold R.bQ at b
  simp[kBw,R.bQ,kBx,kAA,cW,cN,cO,kAe,cU,cT,aP,f,g,b]
 ·simp[cW,cN,cO,kAe,kAA,cU,cT,aP]
 ·simp[kEw,cW,cN,cO,kAe,kAA,cU,cT,aP]
 ·intro h;simp[kBE] at h
 ·intro _;rfl
 ·intro h;simp[kBE] at h
 ·intro _;exact pP
theorem zKg (d a s b:ByteArray) (E:(cD d.toList).2=true):(sum { Stm.zero with dest:=(cD d.toList).1 } [a.toList,s.toList,b.toList]).2=(mU d a s b).2/\((mU d a s b).2=true->Twin (sum { Stm.zero with dest:=(cD d.toList).1 } [a.toList,s.toList,b.toList]).1 (mU d a s b).1):=by
 have y:=qR a.toList;have u:=qR b.toList;have B:=zLa s.toList;have F:=sZ d.toList;have i:decide (0<=inn d.toList regs)=true:=by rw[<- F.1,E]
 have A:=F.2 E;unfold mU;simp only[i,xR]
 cases h2:(cA a.toList).2
 ·have:(aW a.toList).2=false:=by rw[<- y.1,h2]
  rw[xJ _ _ _ h2,this];simp
 have q:(aW a.toList).2=true:=by rw[<- y.1,h2]
 cases h3:(sign s.toList).2
 ·have:decide (0<=inn s.toList iZ)=false:=by rw[<- B.1,h3]
  rw[kKF _ _ _ _ h2 h3,this];simp
 have t:decide (0<=inn s.toList iZ)=true:=by rw[<- B.1,h3]
 rw[kIL _ _ _ _ h2 h3,q,t];simp only[xR,x1];refine⟨u.1,fun v=>?_⟩;have D:(cA b.toList).2=true:=by rw[u.1];exact v
 have z:=y.2 h2;have x:=u.2 D;have H:=rX _ h2;have G:=rX _ D;have p:kBv (aW a.toList).1=kCm (cA a.toList).1:=by rw[<- z];exact sW _ H.1
 have j:kBv (aW b.toList).1=kCm (cA b.toList).1:=by rw[<- x];exact sW _ G.1
 have f:kBv (-1-inn d.toList regs)=P.bQ (cD d.toList).1:=by rw[A];exact wW _ (of_decide_eq_true i)
 obtain⟨c,g⟩:=B.2 h3
 rcases g with g | g | g
 all_goals
  rw[g] at c;refine⟨?_,?_,?_,?_,?_,by simp[c],by simp[c],?_,?_,?_,?_,?_,?_,?_⟩
  ·simp[kBw,R.bQ,kBx,c,g,kAA,cW,cN,cO,kAe,cU,cT,aP,p,j,f]
  ·simp[R.isR,P.isR,reads,c,kAA,cN,cU,cT,aP]
  ·simp[R.isW,P.isW,zMK,c,kAA,cO,cU,cT,aP]
  ·simp[R.isF,P.isF,c,kAA,kAe,aP]
  ·simp[isB,c,kAA,cW,aP]
  ·intro I K J L C;have e:=f
   try unfold R.bQ at e
   simp[kBw,R.bQ,kBx,c,g,kAA,cW,cN,cO,kAe,cU,cT,aP,p,j,e]
  ·simp[c,cW,cN,cO,kAe,kAA,cU,cT,aP]
  ·simp[kEw,c,cW,cN,cO,kAe,kAA,cU,cT,aP]
  ·intro h;simp[c,kBE] at h
  ·intro _;rfl
  ·intro h;simp[c,kBE] at h
  ·intro _;exact pP
theorem bf {x:Stm × Bool} {y:Lh × Bool} (c:x.2=false) (b:y.2=false):x.2=y.2/\(y.2=true->Twin x.1 y.1):=⟨by rw[c,b],fun h=>by rw[b] at h;cases h⟩
theorem zEV (st:Stm) (l:List (List UInt8)) (h:l.length<2):(P.load st l).2=false:=by
 match l,h with
 | [],_=>rfl
 | [p],_ =>
  cases hp:(eQ p).2
  ·rw[yM _ _ _ hp]
  ·rw[zG _ _ _ hp];rfl
theorem tF (st:Stm) (k:Int) (l:List (List UInt8)) (h:l.length<3):(P.step st k l).2=false:=by
 match l,h with
 | [],_=>rfl
 | [_],_=>rfl
 | [p,v],_ =>
  cases hp:(P.kAp { st with kind:=k } p v).2
  ·rw[kLr _ _ _ _ _ hp]
  ·rw[kKW _ _ _ _ _ hp];rfl
def rest (d c:ByteArray):List ByteArray->Lh × Bool
 | []=>lB d c
 | [s,b]=>mU d c s b
 | _=>yP d c
theorem oM (d c:ByteArray) (r:List ByteArray) (h:(aW c.toList).2=false):(rest d c r).2=false:=by
 match r with
 | []=>simp[rest,lB,h]
 | [s,b]=>simp[rest,mU,h]
 | [_]=>rfl
 | _::_::_::_=>rfl
theorem zHh (d c:ByteArray) (r:List ByteArray) (b:c.toList=[108,111,97,100]):kJ d c r=match r with
  | p::q::t=>mR d p (q::t)
  | _=>rest d c r:=by
 unfold kJ
 match r with
 | []=>simp[b,rest]
 | [_]=>simp[b,rest]
 | _::_::_=>simp[b]
theorem FE (d c:ByteArray) (r:List ByteArray) (b:c.toList=[97,100,100]\/c.toList=[115,119,97,112]):kJ d c r=match r with
  | p::v::q::t=>lE d c p v (q::t)
  | _=>rest d c r:=by
 unfold kJ
 match r with
 | []=>rcases b with b | b<;>simp[b,rest]
 | [_]=>rcases b with b | b<;>simp[b,rest]
 | [_,_]=>rcases b with b | b<;>simp[b,rest]
 | _::_::_::_=>rcases b with b | b<;>simp[b]
theorem zHi (d c:ByteArray) (r:List ByteArray) (b:¬ c.toList=[108,111,97,100]) (e:¬ c.toList=[97,100,100]) (f:¬ c.toList=[115,119,97,112]):kJ d c r=rest d c r:=by
 unfold kJ
 match r with
 | []=>simp[b,e,f,rest]
 | [_]=>simp[b,e,f,rest]
 | [_,_]=>simp[b,e,f,rest]
 | _::_::_::_=>simp[b,e,f,rest]
theorem zLV (d c:List UInt8) (r:List (List UInt8)) (b:(cD d).2=true):gC (d::[61]::c::r) =
  if c=[108,111,97,100] then P.load { Stm.zero with dest:=(cD d).1 } r else if c=[97,100,100] then P.step { Stm.zero with dest:=(cD d).1 } 2 r
  else if c=[115,119,97,112] then P.step { Stm.zero with dest:=(cD d).1 } 3 r else sum { Stm.zero with dest:=(cD d).1 } (c::r):=by
 simp[gC,b]
theorem zJc (d c:ByteArray) (r:List ByteArray) (f:(cD d.toList).2=true) :
  (gC (d.toList::[61]::c.toList::r.map xF)).2=(kJ d c r).2/\((kJ d c r).2=true->Twin (gC (d.toList::[61]::c.toList::r.map xF)).1 (kJ d c r).1):=by
 rw[zLV _ _ _ f];by_cases h1:c.toList=[108,111,97,100]
 ·have e:(aW c.toList).2=false:=by rw[h1];decide
  rw[if_pos h1,zHh d c r h1]
  match r with
  | []=>exact bf (zEV _ _ (by simp)) (oM d c _ e)
  | [p]=>exact bf (zEV _ _ (by simp)) (oM d c _ e)
  | p::q::t=>exact zJb d p (q::t) f
 rw[if_neg h1];by_cases h2:c.toList=[97,100,100]
 ·have e:(aW c.toList).2=false:=by rw[h2];decide
  rw[if_pos h2,FE d c r (Or.inl h2)]
  match r with
  | []=>exact bf (tF _ _ _ (by simp)) (oM d c _ e)
  | [p]=>exact bf (tF _ _ _ (by simp)) (oM d c _ e)
  | [p,v]=>exact bf (tF _ _ _ (by simp)) (oM d c _ e)
  | p::v::q::t=>exact zHg 2 d c p v (q::t) f (.inl ⟨rfl,h2⟩)
 rw[if_neg h2];by_cases h3:c.toList=[115,119,97,112]
 ·have e:(aW c.toList).2=false:=by rw[h3];decide
  rw[if_pos h3,FE d c r (Or.inr h3)]
  match r with
  | []=>exact bf (tF _ _ _ (by simp)) (oM d c _ e)
  | [p]=>exact bf (tF _ _ _ (by simp)) (oM d c _ e)
  | [p,v]=>exact bf (tF _ _ _ (by simp)) (oM d c _ e)
  | p::v::q::t=>exact zHg 3 d c p v (q::t) f (.inr ⟨rfl,h3⟩)
 rw[if_neg h3,zHi d c r h1 h2 h3]
 match r with
 | []=>exact zKf d c f
 | [x]=>exact bf (by rw[zPx _ _ (by simp) (by simp)]) rfl
 | [s,b]=>exact zKg d c s b f
 | x::y::z::t=>exact bf (by rw[zPx _ _ (by simp) (by simp)]) rfl
theorem BN (d c:ByteArray) (r:List ByteArray) (h:decide (0<=inn d.toList regs)=false):(kJ d c r).2=false:=by
 have b:∀ q,(rest d c q).2=false:=fun q=>by
  match q with
  | []=>simp[rest,lB,h]
  | [_,_]=>simp[rest,mU,h]
  | [_]=>rfl
  | _::_::_::_=>rfl
 by_cases h1:c.toList=[108,111,97,100]
 ·rw[zHh d c r h1]
  match r with
  | []=>exact b _
  | [_]=>exact b _
  | p::q::t=>simp[mR,h]
 by_cases h2:c.toList=[97,100,100]\/c.toList=[115,119,97,112]
 ·rw[FE d c r h2]
  match r with
  | []=>exact b _
  | [_]=>exact b _
  | [_,_]=>exact b _
  | p::v::q::t=>simp[lE,h]
 ·rw[zHi d c r h1 (fun e=>h2 (Or.inl e)) (fun e=>h2 (Or.inr e))];exact b _
theorem zLb (c:ByteArray) (r:List ByteArray) (g:¬ c.toList=[105,102]) (f:¬ c.toList=[101,110,100]) :
  (dD (c.toList::r.map xF)).2=(fG c r).2/\((fG c r).2=true->Twin (dD (c.toList::r.map xF)).1 (fG c r).1):=by
 unfold dD fG;by_cases hb:c.toList=[98,97,114,114,105,101,114]
 ·simp only[hb];refine⟨by simp,fun _=>?_⟩;simpa using zFL
 by_cases hf:c.toList=[102,101,110,99,101]
 ·simp only[hf];simpa [fence] using zHS r
 by_cases hs:c.toList=[115,116,111,114,101]
 ·simp only[hs]
  match r with
  | []=>exact bf (by simp[P.store]) (by simp)
  | [x]=>exact bf (by simp[P.store]) (by simp)
  | [x,y] =>
   refine bf ?_ ?_
   ·simp only[List.map_cons,List.map_nil];have:(P.store [[115,116,111,114,101],x.toList,y.toList]).2=false:=by
     unfold P.store;simp only[]
     split
     ·rfl
     ·rfl
    simpa using this
   ·simp
    split
    ·exact BN c y [] (by rw[hs,tW];decide)
    ·rfl
  | p::v::q::t=>simpa using zHT p v (q::t)
 have i:(c.toList==[115,116,111,114,101])=false:=by simpa using hs
 have j:(c.toList==[102,101,110,99,101])=false:=by simpa using hf
 have o:(c.toList==[98,97,114,114,105,101,114])=false:=by simpa using hb
 have u:(c.toList==[105,102])=false:=by simpa using g
 have z:(c.toList==[101,110,100])=false:=by simpa using f
 simp only[i,j,o,u,z,xW,if_false,Bool.false_and]
 match r with
 | []=>exact bf rfl rfl
 | [_]=>exact bf rfl rfl
 | e::d::q =>
  simp only[List.map_cons];by_cases he:e.toList=[61]
  ·have b:(e.toList==[61])=true:=by simpa using he
   simp only[b,if_true];rw[he]
   cases hreg:(cD c.toList).2
   ·exact bf (by simp[gC,hreg]) (BN c d q (by rw[<- (sZ c.toList).1,hreg]))
   ·exact zJc c d q hreg
  ·have b:(e.toList==[61])=false:=by simpa using he
   simp only[b,xW,if_false];rw[zKT _ _ _ _ b];refine⟨rfl,fun h=>?_⟩;exact absurd h (by decide)
structure IfT (st:Stm) (a n:Int):Prop where
 k:st.kind=10
 l:st.label=n
 o:kCm st.a=kBv a
structure EndT (st:Stm) (n:Int):Prop where
 k:st.kind=11
 l:st.label=n
def zBT (n:Int) (l:List Tree) (ss:List Stm) (m:Int):Prop :=
 ∀ M:Int->List Tree->List Stm->Int->Prop,(∀ n:Int,M n [] [] n) ->
  (∀ (n m:Int) (st:Stm) (x:Lh) (l:List Tree) (ss:List Stm),Twin st x->¬ x.op.toList=[105,102]->M n l ss m->M n (.mk x []::l) (st::ss) m) ->
  (∀ (n m k a:Int) (st e:Stm) (b l:List Tree) (bs ss:List Stm),IfT st a (n+1)->M (n+1) b bs m->EndT e (n+1)->M m l ss k->M n (.mk (iA a) b::l) (st::(bs++e::ss)) k)->M n l ss m
theorem zBT.nil (n:Int):zBT n [] [] n:=fun _ b _ _=>b n
theorem zBT.gW {x:Lh} (t:Twin st x) (o:¬ x.op.toList=[105,102]) (f:zBT n l ss m):zBT n (.mk x []::l) (st::ss) m :=
 fun M c b d=>b _ _ _ _ _ _ t o (f M c b d)
theorem zBT.node {e:Stm} {b:List Tree} {j:List Stm} (i:IfT st a (n+1)) (f:zBT (n+1) b j m) (d:EndT e (n+1)) (g:zBT m l ss k):zBT n (.mk (iA a) b::l) (st::(j++e::ss)) k :=
 fun M o p c=>c _ _ _ _ _ _ _ _ _ _ i (f M o p c) d (g M o p c)
theorem zBT.eG {c:∀ (n:Int) (l:List Tree) (ss:List Stm) (m:Int),zBT n l ss m->Prop} (nil:∀ n:Int,c n [] [] n (zBT.nil n))
  (gW:∀ {n m:Int} {st:Stm} {x:Lh} {l:List Tree} {ss:List Stm} (t:Twin st x) (o:¬ x.op.toList=[105,102]) (f:zBT n l ss m),c n l ss m f->c n (.mk x []::l) (st::ss) m (zBT.gW t o f))
  (node:∀ {n m k a:Int} {st e:Stm} {b l:List Tree} {j ss:List Stm} (i:IfT st a (n+1)) (f:zBT (n+1) b j m) (d:EndT e (n+1)) (g:zBT m l ss k),c (n+1) b j m f->c m l ss k g->c n (.mk (iA a) b::l) (st::(j++e::ss)) k (zBT.node i f d g))
  {n:Int} {l:List Tree} {ss:List Stm} {m:Int} (h:zBT n l ss m):c n l ss m h :=
 (h (fun n l ss m=>∃ h:zBT n l ss m,c n l ss m h) (fun n=>⟨_,nil n⟩) (fun _ _ _ _ _ _ t o ⟨f,p⟩=>⟨zBT.gW t o f,gW t o f p⟩) (fun _ _ _ _ _ _ _ _ _ _ i ⟨f,p⟩ d ⟨g,q⟩=>⟨zBT.node i f d g,node i f d g p q⟩)).2
theorem zBT.append {q:List Tree} {c:List Stm} (h:zBT n l ss m) (g:zBT m q c k):zBT n (l++q) (ss++c) k:=by
 induction h using zBT.eG with
 | nil n=>simpa using g
 | gW t o _ ih=>simpa using zBT.gW t o (ih g)
 | node i b e _ _ ih =>
  have:=zBT.node i b e (ih g);simpa using this
def zAJ (n:Int) (fs:List Fr) (q:List Stm) (ls:List Int) (k:Int):Prop :=
 ∀ M:Int->List Fr->List Stm->List Int->Int->Prop,(∀ n:Int,M n [] [] [] n) ->
  (∀ (n m k a:Int) (fs:List Fr) (q ss:List Stm) (ls:List Int) (st:Stm) (l:List Tree),M n fs q ls m->IfT st a (m+1)->zBT (m+1) l ss k->M n (fs++[⟨l,a⟩]) (q++st::ss) (ls++[m+1]) k)->M n fs q ls k
theorem zAJ.nil (n:Int):zAJ n [] [] [] n:=fun _ b _=>b n
theorem zAJ.bD {q:List Stm} (h:zAJ n fs q ls m) (i:IfT st a (m+1)) (f:zBT (m+1) l ss k):zAJ n (fs++[⟨l,a⟩]) (q++st::ss) (ls++[m+1]) k :=
 fun M c b=>b _ _ _ _ _ _ _ _ _ _ (h M c b) i f
theorem zAJ.eG {b:∀ (n:Int) (fs:List Fr) (q:List Stm) (ls:List Int) (k:Int),zAJ n fs q ls k->Prop} (nil:∀ n:Int,b n [] [] [] n (zAJ.nil n))
  (bD:∀ {n m k a:Int} {fs:List Fr} {q ss:List Stm} {ls:List Int} {st:Stm} {l:List Tree} (h:zAJ n fs q ls m) (i:IfT st a (m+1)) (f:zBT (m+1) l ss k),b n fs q ls m h->b n (fs++[⟨l,a⟩]) (q++st::ss) (ls++[m+1]) k (zAJ.bD h i f))
  {n:Int} {fs:List Fr} {q:List Stm} {ls:List Int} {k:Int} (h:zAJ n fs q ls k):b n fs q ls k h :=
 (h (fun n fs q ls k=>∃ h:zAJ n fs q ls k,b n fs q ls k h) (fun n=>⟨_,nil n⟩) (fun _ _ _ _ _ _ _ _ _ _ ⟨h,c⟩ i f=>⟨zAJ.bD h i f,bD h i f c⟩)).2
theorem zAJ.cs {b:∀ (n:Int) (fs:List Fr) (q:List Stm) (ls:List Int) (k:Int),zAJ n fs q ls k->Prop} (nil:∀ n:Int,b n [] [] [] n (zAJ.nil n))
  (bD:∀ {n m k a:Int} {fs:List Fr} {q ss:List Stm} {ls:List Int} {st:Stm} {l:List Tree} (h:zAJ n fs q ls m) (i:IfT st a (m+1)) (f:zBT (m+1) l ss k),b n (fs++[⟨l,a⟩]) (q++st::ss) (ls++[m+1]) k (zAJ.bD h i f))
  {n:Int} {fs:List Fr} {q:List Stm} {ls:List Int} {k:Int} (h:zAJ n fs q ls k):b n fs q ls k h:=zAJ.eG nil (fun h i f _=>bD h i f) h
theorem zAJ.len {q:List Stm} (h:zAJ n fs q ls k):ls.length=fs.length:=by
 induction h using zAJ.eG with
 | nil=>rfl
 | bD _ _ _ ih=>simp[ih]
theorem zAJ.none {q:List Stm} (h:zAJ n fs q ls k) (b:fs=[]):q=[]/\ls=[]/\k=n:=by
 cases h using zAJ.cs with
 | nil=>exact⟨rfl,rfl,rfl⟩
 | bD _ _ _=>simp at b
theorem zAJ.last {q:List Stm} (h:zAJ n fs q ls k) (b:fs≠[]) :
  ∃ m a gs p ss ms st l,zAJ n gs p ms m/\IfT st a (m+1)/\zBT (m+1) l ss k/\fs=gs++[⟨l,a⟩]/\q=p++st::ss/\ls=ms++[m+1]:=by
 cases h using zAJ.cs with
 | nil=>exact absurd rfl b
 | bD h1 h2 h3=>exact⟨_,_,_,_,_,_,_,_,h1,h2,h3,rfl,rfl,rfl⟩
def zEG (n:Int) (ts:List R.Th) (us:List Thr) (k:Int):Prop :=
 ∀ M:Int->List R.Th->List Thr->Int->Prop,(∀ n:Int,M n [] [] n) ->
  (∀ (n m k:Int) (ts:List R.Th) (us:List Thr) (t:R.Th) (u:Thr),M n ts us m->zBT m t.body u.Eb k->u.block=t.block->u.line=t.row->M n (ts++[t]) (us++[u]) k)->M n ts us k
theorem zEG.nil (n:Int):zEG n [] [] n:=fun _ b _=>b n
theorem zEG.bD {t:R.Th} {u:Thr} (h:zEG n ts us m) (f:zBT m t.body u.Eb k) (b:u.block=t.block) (l:u.line=t.row):zEG n (ts++[t]) (us++[u]) k :=
 fun M d c=>c _ _ _ _ _ _ _ (h M d c) f b l
theorem zEG.eG {c:∀ (n:Int) (ts:List R.Th) (us:List Thr) (k:Int),zEG n ts us k->Prop} (nil:∀ n:Int,c n [] [] n (zEG.nil n))
  (bD:∀ {n m k:Int} {ts:List R.Th} {us:List Thr} {t:R.Th} {u:Thr} (h:zEG n ts us m) (f:zBT m t.body u.Eb k) (b:u.block=t.block) (l:u.line=t.row),c n ts us m h->c n (ts++[t]) (us++[u]) k (zEG.bD h f b l))
  {n:Int} {ts:List R.Th} {us:List Thr} {k:Int} (h:zEG n ts us k):c n ts us k h :=
 (h (fun n ts us k=>∃ h:zEG n ts us k,c n ts us k h) (fun n=>⟨_,nil n⟩) (fun _ _ _ _ _ _ _ ⟨h,d⟩ f b l=>⟨zEG.bD h f b l,bD h f b l d⟩)).2
theorem zEG.len (h:zEG n ts us k):us.length=ts.length:=by
 induction h using zEG.eG with
 | nil=>rfl
 | bD _ _ _ _ ih=>simp[ih]
namespace P
def dep:List Stm->Int
 | []=>0
 | s::r=>(if s.kind==10 then 1 else if s.kind==11 then -1 else 0)+dep r
theorem DB (a b:List Stm):dep (a++b)=dep a+dep b:=by
 induction a with
 | nil=>simp[dep]
 | cons s r ih=>simp[dep,ih];omega
theorem BH (ss:List Stm):∀ (d:Int) (st:Stm),mG d (ss++[st])=(mG d ss).or (if st.kind==5&&decide (0<d+dep ss) then some st.line else none):=by
 induction ss with
 | nil =>
  intro d st;simp only[List.nil_append,mG,dep,Int.add_zero,Option.none_or];by_cases h5:st.kind=5
  ·simp[h5]
  ·simp[h5]
 | cons s r ih =>
  intro d st;simp only[List.cons_append,mG,dep];by_cases h10:s.kind=10
  ·have e:d+1+dep r=d+(1+dep r):=by omega
   simp[h10,ih,e]
  by_cases h11:s.kind=11
  ·have e:d-1+dep r=d+(-1+dep r):=by omega
   simp[h11,ih,e]
  by_cases h5:s.kind=5
  ·by_cases hd:0<d
   ·simp[h5,hd]
   ·simp[h5,hd,ih]
  ·simp[h10,h11,h5,ih]
def zMO:List Thr->Option Int
 | []=>none
 | t::r=>(mG 0 t.Eb).or (zMO r)
theorem pE (a b:List Thr):zMO (a++b)=(zMO a).or (zMO b):=by
 induction a with
 | nil=>simp[zMO]
 | cons t r ih=>simp[zMO,ih,Option.or_assoc]
end P
theorem zBT.dep (h:zBT n l ss m):dep ss=0:=by
 induction h using zBT.eG with
 | nil=>rfl
 | gW t _ _ ih=>simp[P.dep,t.k10,t.k11,ih]
 | node i _ e _ ih1 ih2=>simp[P.dep,DB,i.k,e.k,ih1,ih2]
theorem zAJ.dep {q:List Stm} (h:zAJ n fs q ls k):dep q=fs.length:=by
 induction h using zAJ.eG with
 | nil=>rfl
 | bD _ i f ih=>simp[P.dep,DB,i.k,f.dep,ih]
theorem Twin.line {x:Lh} (h:Twin st x) (i:Int):Twin { st with line:=i } x:=⟨h.txt,h.rd,h.wr,h.fn,h.br,h.k10,h.k11,h.gen,h.fe,h.se,h.acc,h.nac,h.os,h.non⟩
structure Rel (r:Rd) (s:St):Prop where
 cnt:r.count=s.count
 few:r.Ec.length<=4
 thr:∀ u∈r.Ec,0<u.line/\(u.block=0\/u.block=1)
 inn:s.inner=(zMO r.Ec).getD 0
 pos:∀ l,zMO r.Ec=some l->0<l
 ths:(r.Ec=[]/\s.ts=[]/\s.opn=[]/\r.opn=[]/\r.ifs=0) \/
  ∃ ts us t u m k b q,s.ts=ts++[t]/\r.Ec=us++[u]/\zEG 0 ts us m/\zBT m t.body b k/\zAJ k s.opn q r.opn r.ifs/\u.Eb=b++q/\u.block=t.block/\u.line=t.row
theorem Rel.fT (h:Rel r s):r.opn.length=s.opn.length:=by
 rcases h.ths with ⟨_,_,c,d,_⟩ | ⟨ts,us,t,u,m,k,b,q,_,_,_,_,e,_⟩
 ·rw[c,d];rfl
 ·exact e.len
theorem Rel.gU (h:Rel r s):r.Ec.length=s.ts.length:=by
 rcases h.ths with ⟨c,d,_⟩ | ⟨ts,us,t,u,m,k,b,q,c,d,e,_⟩
 ·rw[c,d];rfl
 ·rw[c,d];simp[e.len]
end Go.Proofs.YtonodfjdiepglaaGreatDoor
