import Derived.Test.YtlikcongbhhpfaaGreatDoorM47
import Derived.Test.YtlikcongbhhpfaaGreatDoorM46
set_option linter.unusedVariables false
set_option linter.unusedSimpArgs false
set_option maxHeartbeats 12800000
namespace Go.Proofs.YtlikcongbhhpfaaGreatDoor
open Go Go.RowKit Go.Proofs.Tryz P Q
set_option maxRecDepth 1000000
variable {k p q t:Nat}{α:Type}{w:World}{ws:List (List UInt8)}{K:Sk}{rows:List (List ByteArray)}{ps:List Nat}{regs:List (List Int)}{vars:List Int}{st:JR}
open List renaming length->M
open Go.World renaming cell?->H,heap->F
open _root_.Array renaming size->L
open Bool renaming false->Y,true->U
open Option renaming none->C,some->O
open Go.Value renaming int->G,string->N
open Go.IntKind renaming i64->E
open Or renaming inr->xF,inl->xW
open List renaming getD_eq_getElem?_getD->xR,length_cons->x0,getElem?_eq_getElem->x7,length_drop->xb,length_map->xc,range->xd,replicate->xe,getElem?_map->xg,map_set->xh,mem_of_getElem?->xi,length->xj,getElem?_set_self->xk,map_cons->xl,map_drop->xm,getElem?_set_ne->xp,drop_length->xr
open Go.RowKit.Below renaming refl->x8,heap_setCell->xa
open Go.World renaming cell?_of_block->x9
open Go.IntKind renaming wrap_u8->xn
open Nat renaming lt_of_lt_of_le->xo
section
variable {w:World}{K:Sk}{rows:List (List ByteArray)}{ps:List Nat}{regs:List (List Int)}{vars:List Int}{JT:List Bool}
theorem MK.jX(h:MK w K rows ps regs vars JT)(c:t<K.n):
  H w ⟨K.ga,t,C⟩=O (G E ((ps.getD t 0:Nat):Int))/\w.frozen? ⟨K.ga,t,C⟩=Y/\K.ga<L (F w):=by
 have b:t<M ps:=by rw[h.na];exact c
 refine⟨h.a.cell t _ ?_,h.a.free t (by simpa[PK]using b),h.a.lt⟩;simp only[PK,xg,xR,x7 b];rfl
theorem MK.gY(h:MK w K rows ps regs vars JT)(b:t<K.n):
  H w ⟨K.gw,t,C⟩=O (.bool (JT.getD t Y))/\w.frozen? ⟨K.gw,t,C⟩=Y/\K.gw<L (F w):=by
 have a:t<JT.length:=by rw[h.nw];exact b
 refine⟨h.t.cell t _ ?_,h.t.free t (by simpa[PM]using a),h.t.lt⟩;simp only[PM,xg,xR,x7 a];rfl
theorem MK.mG(h:MK w K rows ps regs vars JT)(x:t<K.n){i:ByteArray}(d:(rows.getD t [])[p]?=O i):
  ∃gx ox cx,H w ⟨K.gl,t,C⟩=O (.slice (O ⟨gx,ox,C⟩) (rows.getD t []).length cx)/\H w ⟨gx,ox+p,C⟩=O (N i)/\K.gl<L (F w)/\gx<L (F w)/\p<(rows.getD t []).length/\¬K.W gx:=by
 have b:t<M rows:=by rw[h.nl];exact x
 obtain⟨v,j,a,c,rfl,m⟩:=h.l t b;have e:rows.getD t []=rows[t]:=by rw[xR,x7 b];rfl
 rw[e]at d⊢;have f:p<rows[t].length:=(List.getElem?_eq_some_iff.1 d).1;obtain⟨g,o,rfl,r,s,u⟩:=m (by omega);have:=r p f;rw[(List.getElem?_eq_some_iff.1 d).2]at this;exact⟨g,o,c,j,this,h.gl,s,f,u⟩
theorem MK.fM(h:MK w K rows ps regs vars JT)(s:t<K.n)(x:Nat):MK (w.setCell ⟨K.ga,t,C⟩ (G E (x:Int))) K rows (ps.set t x) regs vars JT:=by
 have b:∀k,k≠K.ga->(w.setCell ⟨K.ga,t,C⟩ (G E (x:Int))).heap[k]?=w.heap[k]?:=fun k c=>xa _ _ _ _ c
 have d:L (F w)<=(w.setCell ⟨K.ga,t,C⟩ (G E (x:Int))).heap.size:=by simp
 have o:=h.ok;refine⟨o,(b _ fun e=>o.m (xW e)).trans h.m,h.nl,by simpa using h.na,h.nr,h.nv,h.nw,fun k c=>?_,by simpa using h.gl,?_,h.r.of (b _ fun e=>o.r (xW e)) d,fun k c=>⟨(h.rs k c).1,(h.rs k c).2.of (b _ (o.ra k (by rw[<- h.nr];exact c)).1) d⟩,h.v.of (b _ fun e=>o.av e.symm) d,h.t.of (b _ fun e=>o.aw e.symm) d⟩
 ·obtain⟨v,f,g⟩:=h.l k c;exact⟨v,(x9 (w:=w) (a:=⟨K.gl,k,C⟩) (b _ fun e=>o.l (xW e))).trans f,g.of (fun j _ i=>b j fun e=>i (xW e)) d⟩
 ·have:=h.a.set t (by simpa[PK]using(by rw[h.na];exact s:t<M ps)) (G E (x:Int));have e:(PK ps).set t (G E (x:Int))=PK (ps.set t x):=by unfold PK;rw[xh]
  rw[e]at this;exact this
theorem MK.wS(h:MK w K rows ps regs vars JT)(s:t<K.n)(x:Bool):MK (w.setCell ⟨K.gw,t,C⟩ (.bool x)) K rows ps regs vars (JT.set t x):=by
 have b:∀k,k≠K.gw->(w.setCell ⟨K.gw,t,C⟩ (.bool x)).heap[k]?=w.heap[k]?:=fun k c=>xa _ _ _ _ c
 have d:L (F w)<=(w.setCell ⟨K.gw,t,C⟩ (.bool x)).heap.size:=by simp
 have o:=h.ok;refine⟨o,(b _ fun e=>o.m (xF (xF (xW e)))).trans h.m,h.nl,h.na,h.nr,h.nv,by simpa using h.nw,fun k c=>?_,by simpa using h.gl,h.a.of (b _ o.aw) d,h.r.of (b _ fun e=>o.r (xF (xF (xW e)))) d,fun k c=>⟨(h.rs k c).1,(h.rs k c).2.of (b _ (o.ra k (by rw[<- h.nr];exact c)).2.2) d⟩,h.v.of (b _ o.vw) d,?_⟩
 ·obtain⟨v,f,g⟩:=h.l k c;exact⟨v,(x9 (w:=w) (a:=⟨K.gl,k,C⟩) (b _ fun e=>o.l (xF (xF (xW e))))).trans f,g.of (fun j _ i=>b j fun e=>i (xF (xF (xW e)))) d⟩
 ·have:=h.t.set t (by simpa[PM]using(by rw[h.nw];exact s:t<JT.length)) (.bool x);have e:(PM JT).set t (.bool x)=PM (JT.set t x):=by unfold PM;rw[xh]
  rw[e]at this;exact this
theorem MK.DH(h:MK w K rows ps regs vars JT)(z:t<K.n)(T:q<4)(x:Int):MK (w.setCell ⟨K.gR t,q,C⟩ (G E x)) K rows ps (regs.set t ((regs.getD t []).set q x)) vars JT:=by
 have b:∀k,k≠K.gR t->(w.setCell ⟨K.gR t,q,C⟩ (G E x)).heap[k]?=w.heap[k]?:=fun k i=>xa _ _ _ _ i
 have d:L (F w)<=(w.setCell ⟨K.gR t,q,C⟩ (G E x)).heap.size:=by simp
 have o:=h.ok;have y:K.W (K.gR t):=xF (xF (xF ⟨t,z,Z⟩));have I:K.gl≠K.gR t:=fun e=>o.l (by rw[e];exact y)
 obtain⟨B,S,A⟩:=o.ra t z;have u:t<M regs:=by rw[h.nr];exact z
 have e:regs.getD t []=regs[t]:=by rw[xR,x7 u];rfl
 refine⟨o,(b _ fun e=>o.m (by rw[e];exact y)).trans h.m,h.nl,h.na,by simpa using h.nr,h.nv,h.nw,fun k i=>?_,by simpa using h.gl,h.a.of (b _ fun e=>B e.symm) d,h.r.of (b _ fun e=>o.r (by rw[e];exact y)) d,fun k i=>?_,h.v.of (b _ fun e=>S e.symm) d,h.t.of (b _ fun e=>A e.symm) d⟩
 ·obtain⟨v,f,g⟩:=h.l k i;exact⟨v,(x9 (w:=w) (a:=⟨K.gl,k,C⟩) (b _ I)).trans f,g.of (fun j _ J=>b j fun e=>J (by rw[e];exact y)) d⟩
 ·have s:k<M regs:=by simpa using i
  rw[List.getElem_set];by_cases c:t=k
  ·subst c;rw[if_pos rfl,e];obtain⟨f,g⟩:=h.rs t u;refine⟨by simpa using f,?_⟩;have:=g.set q (by simpa[OJ]using(by omega:q<regs[t].length)) (G E x);have D:(OJ regs[t]).set q (G E x)=OJ (regs[t].set q x):=by unfold OJ;rw[xh]
   rw[D]at this;exact this
  ·rw[if_neg c];obtain⟨f,g⟩:=h.rs k s;exact⟨f,g.of (b _ fun e=>c (o.rr t k z (by rw[<- h.nr];exact s) e.symm)) d⟩
end
theorem pA(l:List α)(t:Nat)(d:α):l.set t (l.getD t d)=l:=by
 by_cases h:t<M l
 ·rw[xR,x7 h];exact List.set_getElem_self h
 ·rw[List.set_eq_of_length_le (by omega)]
theorem GQ{B:Nat}{v:Value}{ws:List ByteArray}(h:w.ownsRow B 9 1 v (M ws) (ws.map Value.string))(m:0<M ws):∃g c,v=JQ g (M ws) c/\B<=g/\g<L (F w)/\∀i u,ws[i]?=O u->H w ⟨g,i,C⟩=O (N u):=by
 rcases h.2 with⟨e,j⟩|⟨k,c,d,e,f,_⟩
 ·omega
 ·refine⟨k,c,e,f,(h.lt k (by rw[e];rfl)).2,fun i u b=>?_⟩;have a:=h;rw[e]at a;have l:i<M ws:=(List.getElem?_eq_some_iff.1 b).1;rw[a.cellAt i (by omega),xg,b];rfl
def iD:Nat->List Int->Nat
 |0,_=>0
 |_+1,[]=>0
 |d+1,k::r=>1+iD (if k=10 then d+2 else if k=11 then d else d+1) r
def lI:Nat->List Int->Bool
 |0,_=>U
 |_+1,[]=>Y
 |d+1,k::r=>lI (if k=10 then d+2 else if k=11 then d else d+1) r
structure DoS where
 p:Nat
 rg:List Int
 vr:List Int
 wt:Bool
theorem MK.vP{JT:List Bool}(h:MK w K rows ps regs vars JT){g:Nat}(c:L (F w)<=g):¬K.W g:=by
 rintro(e|e|e|⟨k,b,e⟩)
 ·have:=h.a.lt;omega
 ·have:=h.v.lt;omega
 ·have:=h.t.lt;omega
 ·have:=(h.rs k (by rw[h.nr];exact b)).2.lt;omega
def dJ(st:JR)(more:List Int)(p:Nat)(rg vr:List Int)(wt:Bool):DoS :=
 if st.k==4||st.k==11 then⟨p+1,rg,vr,wt⟩
 else if st.k==1 then⟨p+1,rg,vr.set st.z.toNat (cJ rg st.a),wt⟩
 else if st.k==10 then⟨p+1+if cJ rg st.a==0 then iD 1 more else 0,rg,vr,wt⟩
 else if st.k==5 then⟨p,rg,vr,U⟩
 else⟨p+1,iM rg st.dest (fC st rg vr).1,(fC st rg vr).2,wt⟩
theorem P.xT{s:List UInt8}(h:(cX s).2=U):(cX s).1=7\/(cX s).1=8\/(cX s).1=9:=by
 unfold cX at h⊢
 split
 ·exact xW Z
 split
 ·exact xF (xW Z)
 split
 ·exact xF (xF Z)
 ·rename_i a b c;rw[if_neg a,if_neg b,if_neg c]at h;simp at h
theorem U1(n:mD ws st):∃c r,ws=c::r/\(c==[105,102])=(st.k==10)/\(c==[101,110,100])=(st.k==11):=by
 have f:∀{d:List UInt8},(aS d).2=U->(d==[105,102])=Y/\(d==[101,110,100])=Y:=fun{d} h=>by
  match d,h with
  |[],h=>simp[aS]at h
  |[_],h=>simp[aS]at h
  |[a,b],h =>
   simp only[aS]at h
   split at h
   ·rename_i e;subst e;exact⟨by simp,by simp⟩
   ·simp at h
  |_::_::_::_,h=>simp[aS]at h
 rcases n with⟨p,u,r,o,s,g,j,m,l,rfl⟩|⟨d,u,r,o,s,g,i,j,l,rfl⟩|⟨d,p,u,r,o,s,g,i,j,m,l,rfl⟩|⟨d,p,u,r,o,s,g,i,j,m,l,rfl⟩|⟨r,o,s,g,l,rfl⟩|⟨g,rfl⟩|⟨a,g,j,rfl⟩|⟨g,rfl⟩|⟨d,a,g,i,j,rfl⟩|⟨d,a,s,b,g,i,j,m,l,rfl⟩
 ·exact⟨_,_,g,Z,Z⟩
 ·exact⟨d,_,g,(f i).1,(f i).2⟩
 ·exact⟨d,_,g,(f i).1,(f i).2⟩
 ·exact⟨d,_,g,(f i).1,(f i).2⟩
 ·exact⟨_,_,g,Z,Z⟩
 ·exact⟨_,_,g,Z,Z⟩
 ·exact⟨_,_,g,Z,Z⟩
 ·exact⟨_,_,g,Z,Z⟩
 ·exact⟨d,_,g,(f i).1,(f i).2⟩
 ·rcases xT l with e|e|e<;>exact⟨d,_,g,by rw[(f i).1,e];rfl,by rw[(f i).2,e];rfl⟩
def wW(K:Sk)(t:Nat)(w:World):Nat:=match H w ⟨K.ga,t,C⟩with
 |some v=>(intOf v).toNat
 |none=>0
theorem U2(m:mD ws st)(i:st.k=0\/st.k=2\/st.k=3\/st.k=6\/st.k=7\/st.k=8\/st.k=9):∃c r,ws=c::r/\(aS c).2=U/\st.dest=(aS c).1:=by
 rcases m with⟨p,u,r,o,s,e,g,l,j,rfl⟩|⟨d,u,r,o,s,e,f,g,j,rfl⟩|⟨d,p,u,r,o,s,e,f,g,l,j,rfl⟩|⟨d,p,u,r,o,s,e,f,g,l,j,rfl⟩|⟨r,o,s,e,j,rfl⟩|⟨e,rfl⟩|⟨a,e,g,rfl⟩|⟨e,rfl⟩|⟨d,a,e,f,g,rfl⟩|⟨d,a,s,b,e,f,g,l,j,rfl⟩
 ·exact absurd i (by simp)
 ·exact⟨d,_,e,f,Z⟩
 ·exact⟨d,_,e,f,Z⟩
 ·exact⟨d,_,e,f,Z⟩
 ·exact absurd i (by simp)
 ·exact absurd i (by simp)
 ·exact absurd i (by simp)
 ·exact absurd i (by simp)
 ·exact⟨d,_,e,f,Z⟩
 ·exact⟨d,_,e,f,Z⟩
theorem MK.EP{JT:List Bool}(h:MK w K rows ps regs vars JT)(b:t<K.n)(d:q<4):w.frozen? ⟨K.gR t,q,C⟩=Y:=by
 obtain⟨c,a⟩:=h.rs t (by rw[h.nr];exact b);exact a.free q (by simp only[OJ,xc];omega)
theorem P.U3{s:ByteArray}(h:(aS s.toList).2=U):∃q:Nat,q<4/\∃c:s.size=2,s[0].toNat=114/\s[1].toNat=48+q/\(aS s.toList).1=(q:Int)/\s.toList=([114,s[1]]:List UInt8):=by
 by_cases h2:s.size=2
 ·have b:=SI s h2;rw[EI s h2]at h⊢
  split at h
  ·simp at h
  ·rename_i a;rw[if_neg a];have a:(s[0].toNat:Int)=114:=by simpa using a
   simp only[cH,Bool.and_eq_true,decide_eq_true_eq]at h⊢;refine⟨s[1].toNat-48,by omega,h2,by omega,by omega,by omega,?_⟩;rw[b]
   congr 1
   apply UInt8.toNat_inj.1;show s[0].toNat=114;omega
 ·rw[EG s h2]at h;simp at h
theorem U4(d:st.k=0\/st.k=2\/st.k=3\/st.k=6\/st.k=7\/st.k=8\/st.k=9)(more:List Int)(p:Nat)(a b:List Int)(c:Bool):dJ st more p a b c=⟨p+1,iM a st.dest (fC st a b).1,(fC st a b).2,c⟩:=by
 unfold dJ
 rcases d with e|e|e|e|e|e|e<;>rw[e]<;>rfl
theorem U5(h:List (List Int))(t q:Nat)(x:Int){d:Int}(e:d=(q:Int))(a:q<4):h.set t (iM (h.getD t []) d x)=h.set t ((h.getD t []).set q x):=by
 unfold iM;rw[if_neg (by omega),e];rfl
theorem U6(K:Sk)(rows:List (List ByteArray))(ps:List Nat)(regs:List (List Int))(vars:List Int)(JT:List Bool)(t p:Nat)(ln:ByteArray)(st:JR)(ks:List Int)(w:World)(h:MK w K rows ps regs vars JT)(A:t<K.n)(hn:K.n<1000)(hp:ps.getD t 0=p)(hl:(rows.getD t [])[p]?=O ln)(aE:∀x∈rows.getD t [],x.size<=10000000)(ai:(rows.getD t []).length<100000)(hf:mD (KD 32 ln.toList) st)(hr:∀x∈regs.getD t [],0<=x/\x<4)(aa:∀x∈vars,0<=x/\x<4)(aF:st.k≠10):
  Calls prog 11 #[.pointer (O ⟨K.gm,0,C⟩),G E (t:Int)] w fun e I=>e=.returned (.tuple #[])/\MK I K rows (ps.set t (dJ st (ks.drop (p+1)) p (regs.getD t []) vars (JT.getD t Y)).p) (regs.set t (dJ st (ks.drop (p+1)) p (regs.getD t []) vars (JT.getD t Y)).rg) (dJ st (ks.drop (p+1)) p (regs.getD t []) vars (JT.getD t Y)).vr (JT.set t (dJ st (ks.drop (p+1)) p (regs.getD t []) vars (JT.getD t Y)).wt)/\XF K.W w I:=by
 generalize hD:dJ st (ks.drop (p+1)) p (regs.getD t []) vars (JT.getD t Y)=D;have j:=JO hD;obtain⟨f0,f1,f2,f3,f4,f5⟩:=h.MF;obtain⟨a1,a2,a3⟩:=h.jX A;obtain⟨gx,ox,cx,x1,x2,x3,x4,x5,x6⟩:=h.mG A hl;rw[hp]at a1;have aW:(t:Int)<(K.n:Int):=by omega
 have aI:(p:Int)<((rows.getD t []).length:Int):=by omega
 have HC:=JO fun w2=>BT ln w2 (aE ln (xi hl));have HM:=JO h;have aq:=JO h.na;have HL:=JO ai;generalize aT:(rows.getD t []).length=lr at*;go_enter func11,ntmps11;go_upto_region 0 with fail
 go_region_held3 (fun I=>H I ⟨K.gm,0,C⟩=O (JQ K.gl K.n K.cl)/\H I ⟨K.gm,1,C⟩=O (JQ K.ga K.n K.ca)/\H I ⟨K.gl,t,C⟩=O (.slice (O ⟨gx,ox,C⟩) lr cx)/\H I ⟨K.ga,t,C⟩=O (G E (p:Int))/\H I ⟨gx,ox+p,C⟩=O (N ln)) (first|exact⟨f0,f1,x1,a1,x2⟩|exact⟨p0,p1,p2,p3,p4⟩) (first
  |(go_at_call 21;refine(HC.o _).mono ?_;rintro e w1 ⟨v,ws,rfl,aK,aY,aD,aG⟩;have y:JP (Below (L (F w)) w w1):=((x8 (L (F w)) w).drew).trans (aG.mono (by simp));have p0:=(y.o.cell f5).trans f0;have p1:=(y.o.cell f5).trans f1;have p2:=(y.o.cell x3).trans x1;have p3:=(y.o.cell a3).trans a1;have p4:=(y.o.cell x4).trans x2))
 have au:JP (p<100000):=by have:=HL.o;unfold JP;omega
 have ao:=JO (HM.o.xf y.o);have pf:=(y.o.frozen (p:=⟨K.ga,t,C⟩) a3).trans a2;have S:=JO aK;have ar:=JO aD;go_upto_region 2 with fail
 rw[show (p:Int)+1=((p+1:Nat):Int)by omega];have f:=JO (ao.o.fM A (p+1));have X2:JP (XF K.W w (w1.setCell ⟨K.ga,t,C⟩ (G E ((p+1:Nat):Int)))):=(XF.aX y.o).trans (XF.aR w1 K.ga t _) fun k _ e=>xW e;have ab:0<M ws:=by
  have h1:=congrArg xj S.o;rw[xc]at h1;have h2:=List.length_pos_iff.2 (lJ 32 ln.toList);omega
 obtain⟨B,cy,rfl,y1,y2,y3⟩:=GQ ar.o ab;have y1:L (F w)<=B:=by simpa using y1
 have am:¬K.W B:=h.vP y1;have az:B≠K.ga:=by omega
 have HY:JP (∀i u,ws[i]?=O u->(w1.setCell ⟨K.ga,t,C⟩ (G E ((p+1:Nat):Int))).cell? ⟨B,i,C⟩=O (N u)):=fun i u hu=>by
  rw[x9 (w:=w1) (a:=⟨B,i,C⟩) (xa _ _ _ _ az)];exact y3 i u hu
 have yl:B<(w1.setCell ⟨K.ga,t,C⟩ (G E ((p+1:Nat):Int))).heap.size:=by simpa using y2
 generalize w1.setCell ⟨K.ga,t,C⟩ (G E ((p+1:Nat):Int))=W at*;clear ao HM pf p1 p3 y1 y2 y3 az ar y f5 a3 x3 x4 x5 x6;have ag:=S.o▸hf;have SR:regs.set t (regs.getD t [])=regs:=pA regs t [];have ST:JT.set t (JT.getD t Y)=JT:=pA JT t Y;clear hf hl hp aI aE HC ai;by_cases hdk:st.k=0\/st.k=2\/st.k=3\/st.k=6\/st.k=7\/st.k=8\/st.k=9
 ·obtain⟨d,r,l,q0,ed⟩:=U2 ag hdk;obtain⟨c,T,rfl,rfl,e1⟩:=List.map_eq_cons_iff.1 l;obtain⟨q,hq,z1,z2,z3,z4,z5⟩:=U3 q0;have hc:=HY.o 0 c Z;have ac:(c.toList==[101,110,100])=Y:=by rw[z5];simp
  have ah:(c.toList==[102,101,110,99,101])=Y:=by rw[z5];simp
  have ak:(c.toList==[115,116,111,114,101])=Y:=by rw[z5];simp
  have aA:(c.toList==[105,102])=Y:=by rw[z5];simp
  have aB:(c.toList==[98,97,114,114,105,101,114])=Y:=by rw[z5];simp
  have ae:(0:Int)<((c::T).length:Int):=by simp only[x0];omega
  have aj:=JO (U0 K rows (ps.set t (p+1)) regs vars JT t (JQ B (c::T).length cy) (c::T) st W f.o A hn ⟨B,cy,Z,yl,HY.o⟩ ag hdk hr aa);have HF:JP (∀(V:World),MK V K rows (ps.set t (p+1)) regs (fC st (regs.getD t []) vars).2 JT->MK (V.setCell ⟨K.gR t,q,C⟩ (G E (fC st (regs.getD t []) vars).1)) K rows (ps.set t D.p) (regs.set t D.rg) D.vr (JT.set t D.wt)):=fun V h3=>by
   have e:D=_:=j.o.symm;rw[e,U4 hdk];simp only;rw[ST,U5 _ _ _ _ (ed.trans z4) hq];exact h3.DH A hq _
  have HX:JP (∀x V,XF K.W W V->XF K.W w (V.setCell ⟨K.gR t,q,C⟩ (G E x))):=fun x V hx=>(X2.o.trans hx fun k _ e=>e).trans (XF.aR V (K.gR t) q _) fun k _ e=>xF (xF (xF ⟨t,A,e⟩))
  have hw:IntKind.u8.wrap ((c[1].toNat:Int)-48)=(q:Int):=by rw[xn,z3];omega
  have aJ:(q:Int)<4:=by omega
  have n1:K.gm≠K.gR t:=fun e=>h.ok.m (by rw[e];exact xF (xF (xF ⟨t,A,Z⟩)))
  have n2:B≠K.gR t:=fun e=>am (xF (xF (xF ⟨t,A,e⟩)))
  have n3:K.gr≠K.gR t:=fun e=>h.ok.r (by rw[e];exact xF (xF (xF ⟨t,A,Z⟩)))
  generalize(c::T).length=ad at*;generalize fC st (regs.getD t []) vars=R at aj HF;obtain⟨R1,R2⟩:=R;clear j l e1 hr aa f X2 S ab SR ST HY ag ed z2 z3 z4 z5 q0 h hdk;go_upto_region 4 with(first
   |(go_at_call 23;refine(aj.o).mono ?_;rintro e V ⟨rfl,aC,al⟩;have g:=JO aC;have X3:=JO al;have af:H V ⟨B,0,C⟩=O (N c):=(x9 (w:=W) (a:=⟨B,0,C⟩) (al.block B yl am)).trans hc;clear hc aj al aC))
  obtain⟨g0,g1,g2,g3,g4,g5⟩:=g.o.MF;obtain⟨r2,r3,r4⟩:=g.o.KI A;have r5:=r4 q hq;have r6:=g.o.EP A hq;have an:=JO (HF.o V g.o);have aw:=JO (HX.o R1 V X3.o);generalize(regs.getD t []).getD q 0=xq at r5;clear g0 g1 g3 g4 r4 g X3 HF HX aq au HL ac ah ak aA aB;have aL:0<ad:=by omega
  go_region_held3 (fun I=>H I ⟨K.gm,2,C⟩=O (JQ K.gr K.n K.cr)/\H I ⟨K.gr,t,C⟩=O (JQ (K.gR t) 4 4)/\H I ⟨B,0,C⟩=O (N c)) (first|exact⟨g2,r2,af⟩|exact⟨(aV n1).trans g2,(aV n3).trans r2,(aV n2).trans af⟩|(simp only[World.cell?_drew];exact⟨g2,r2,af⟩)|(simp;exact⟨g2,r2,af⟩)) (fail)
  all_goals go_wp2_with fail
  all_goals go_end0
  all_goals first|exact⟨Z,an.o,aw.o⟩|exact⟨Z,an.o.xf ((x8 _ _).drew),aw.o.X ((x8 _ _).drew)⟩
 rcases ag with⟨q,u,r,o,s,l,q1,q2,q3,rfl⟩|⟨d,u,r,o,s,l,q0,q1,q3,rfl⟩|⟨d,q,u,r,o,s,l,q0,q1,q2,q3,rfl⟩|⟨d,q,u,r,o,s,l,q0,q1,q2,q3,rfl⟩|⟨r,o,s,l,q3,rfl⟩|⟨l,rfl⟩|⟨a,l,q1,rfl⟩|⟨l,rfl⟩|⟨d,a,l,q0,q1,rfl⟩|⟨d,a,s,b,l,q0,q1,q2,q3,rfl⟩
 ·obtain⟨c,T,rfl,z,e1⟩:=List.map_eq_cons_iff.1 l;obtain⟨q9,r2,rfl,eq,e2⟩:=List.map_eq_cons_iff.1 e1;obtain⟨u9,r3,rfl,eu,e3⟩:=List.map_eq_cons_iff.1 e2;subst eq eu;have hc:=HY.o 0 c Z;have ax:=HY.o 1 q9 Z;have ay:=HY.o 2 u9 Z;have ac:(c.toList==[101,110,100])=Y:=by rw[z];rfl
  have ah:(c.toList==[102,101,110,99,101])=Y:=by rw[z];rfl
  have ak:(c.toList==[115,116,111,114,101])=U:=by rw[z];rfl
  have ae:(0:Int)<((c::q9::u9::r3).length:Int):=by simp only[x0];omega
  have aQ:(1:Int)<((c::q9::u9::r3).length:Int):=by simp only[x0];omega
  have aS:(2:Int)<((c::q9::u9::r3).length:Int):=by simp only[x0];omega
  generalize(c::q9::u9::r3).length=ad at*;obtain⟨qq,hq,z1,z2,z3⟩:=BJ q1;obtain⟨v1,v2,v3⟩:=f.o.oC hq;obtain⟨g0,g1,g2,g3,g4,g5⟩:=f.o.MF;have hw:IntKind.u8.wrap ((q9[0].toNat:Int)-120)=(qq:Int):=by rw[xn,z2];omega
  have aJ:(qq:Int)<3:=by omega
  have HO:=JO fun(w2:World) (hb:Below (L (F W)) W w2)=>rI K rows (ps.set t (p+1)) regs vars JT t u9 w2 (f.o.xf hb) A q2 hn;have HV:=JO (rP (regs:=regs.getD t []) (nB q2));have HS:JP (∀w2,Below (L (F W)) W w2->MK (w2.setCell ⟨K.gv,qq,C⟩ (G E (cJ (regs.getD t []) (aO u9.toList).1))) K rows (ps.set t D.p) (regs.set t D.rg) D.vr (JT.set t D.wt)):=fun w2 hb=>by
   have e:D=⟨p+1,regs.getD t [],vars.set qq (cJ (regs.getD t []) (aO u9.toList).1),JT.getD t Y⟩:=by
    rw[<- j.o];unfold dJ;simp[z3]
   rw[e];simp only;rw[SR,ST];exact(f.o.xf hb).rJ hq _
  have HX:JP (∀x w2,Below (L (F W)) W w2->XF K.W w (w2.setCell ⟨K.gv,qq,C⟩ (G E x))):=fun x w2 hb=>(X2.o.X hb).trans (XF.aR w2 K.gv qq _) fun k _ e=>xF (xW e)
  generalize cJ (regs.getD t []) (aO u9.toList).1=yv at HV HS⊢;clear j l e1 e2 e3 z q1 q2 q3 z2 z3 hr aa f X2 S HY ab SR ST g0 g1 g2 g4;have n1:K.gm≠K.gv:=fun e=>h.ok.m (xF (xW e))
  have n2:B≠K.gv:=fun e=>am (xF (xW e))
  clear h;go_upto_region 8 with fail
  go_region_held3 (fun I=>H I ⟨K.gm,3,C⟩=O (JQ K.gv 3 3)/\H I ⟨B,1,C⟩=O (N q9)/\H I ⟨B,2,C⟩=O (N u9)) (first|exact⟨g3,ax,ay⟩|exact⟨p0,p1,p2⟩|exact⟨(aV n1).trans p0,(aV n2).trans p1,(aV n2).trans p2⟩) (first
   |(go_at_call 22;refine(HO.o _ ((x8 _ _).drew)).mono ?_;rintro e V ⟨rfl,aH⟩;rw[HV.o];have J:JP (Below (L (F W)) W V):=((x8 (L (F W)) W).drew).trans (aH.mono (by simp));have p0:=(J.o.cell g5).trans g3;have p1:=(J.o.cell yl).trans ax;have p2:=(J.o.cell yl).trans ay;have aN:=(J.o.cell v3).trans v1;have aP:=(J.o.frozen v3).trans v2))
  all_goals go_wp2_with fail
  all_goals go_end0
  all_goals exact⟨Z,HS.o _ J.o,HX.o _ _ J.o⟩
 ·exact absurd (by simp) hdk
 ·exact absurd (by simp) hdk
 ·exact absurd (by simp) hdk
 ·obtain⟨c,T,rfl,z,e1⟩:=List.map_eq_cons_iff.1 l;have hc:=HY.o 0 c Z;have ac:(c.toList==[101,110,100])=Y:=by rw[z];rfl
  have ah:(c.toList==[102,101,110,99,101])=U:=by rw[z];rfl
  have ae:(0:Int)<((c::T).length:Int):=by simp only[x0];omega
  generalize(c::T).length=ad at*;have HF:JP (MK W K rows (ps.set t D.p) (regs.set t D.rg) D.vr (JT.set t D.wt)):=by
   have e:D=⟨p+1,regs.getD t [],vars,JT.getD t Y⟩:=j.o.symm;unfold JP;rw[e];simp only;rw[SR,ST];exact f.o
  clear j l e1 z hr aa S HY ab SR ST;go_wp2_with fail;go_end0;exact⟨Z,HF.o,X2.o⟩
 ·obtain⟨c,T,rfl,z,e1⟩:=List.map_eq_cons_iff.1 l;have hc:=HY.o 0 c Z;have ac:(c.toList==[101,110,100])=Y:=by rw[z];rfl
  have ah:(c.toList==[102,101,110,99,101])=Y:=by rw[z];rfl
  have ak:(c.toList==[115,116,111,114,101])=Y:=by rw[z];rfl
  have aA:(c.toList==[105,102])=Y:=by rw[z];rfl
  have aB:(c.toList==[98,97,114,114,105,101,114])=U:=by rw[z];rfl
  have ae:(0:Int)<((c::T).length:Int):=by simp only[x0];omega
  generalize(c::T).length=ad at*;have HE:JP (D=⟨p,regs.getD t [],vars,U⟩):=j.o.symm;have av:=JO SR;obtain⟨g0,g1,g2,g3,g4,g5⟩:=f.o.MF;obtain⟨b1,b2,b3⟩:=f.o.jX A;have aU:t<M ps:=by rw[aq.o];exact A
  have g:=JO (f.o.fM A p);rw[List.set_set]at g;have X3:JP (XF K.W w (W.setCell ⟨K.ga,t,C⟩ (G E (p:Int)))):=X2.o.trans (XF.aR W K.ga t _) fun k _ e=>xW e;clear j l e1 z hr aa S HY ab SR ST g0 g2 g3;have aM:wrap64 (p:Int)=(p:Int):=by have:=au.o;unfold wrap64;omega
  go_upto_region 21 with fail
  obtain⟨k0,k1,k2,k3,k4,k5⟩:=g.o.MF;obtain⟨d1,d2,d3⟩:=g.o.gY A;have ap:=JO (g.o.wS A U);have X4:JP (XF K.W w ((W.setCell ⟨K.ga,t,C⟩ (G E (p:Int))).setCell ⟨K.gw,t,C⟩ (.bool U))):=X3.o.trans (XF.aR _ K.gw t _) fun k _ e=>xF (xF (xW e));generalize W.setCell ⟨K.ga,t,C⟩ (G E (p:Int))=W2 at*;have HF:JP (MK (W2.setCell ⟨K.gw,t,C⟩ (.bool U)) K rows (ps.set t D.p) (regs.set t D.rg) D.vr (JT.set t D.wt)):=by
   unfold JP;rw[HE.o];simp only;rw[av.o];exact ap.o
  clear ap HE av k0 k1 k2 k3 g f h;go_wp2_with fail;go_end0;exact⟨Z,HF.o,X4.o⟩
 ·exact absurd Z aF
 ·obtain⟨c,T,rfl,z,e1⟩:=List.map_eq_cons_iff.1 l;have hc:=HY.o 0 c Z;have ac:(c.toList==[101,110,100])=U:=by rw[z];rfl
  have ae:(0:Int)<((c::T).length:Int):=by simp only[x0];omega
  generalize(c::T).length=ad at*;have HF:JP (MK W K rows (ps.set t D.p) (regs.set t D.rg) D.vr (JT.set t D.wt)):=by
   have e:D=⟨p+1,regs.getD t [],vars,JT.getD t Y⟩:=j.o.symm;unfold JP;rw[e];simp only;rw[SR,ST];exact f.o
  clear j l e1 z hr aa S HY ab SR ST;go_wp2_with fail;go_end0;exact⟨Z,HF.o,X2.o⟩
 ·exact absurd (by simp) hdk
 ·exact absurd (by rcases xT q3 with e|e|e<;>simp[e]) hdk
theorem U7(m:mD ws st)(f:st.k=10):∃a,ws=[[105,102],a]/\(aO a).2=U/\st={JR.zero with k:=10,a:=(aO a).1}:=by
 rcases m with⟨p,u,r,o,s,c,g,l,i,rfl⟩|⟨d,u,r,o,s,c,j,g,i,rfl⟩|⟨d,p,u,r,o,s,c,j,g,l,i,rfl⟩|⟨d,p,u,r,o,s,c,j,g,l,i,rfl⟩|⟨r,o,s,c,i,rfl⟩|⟨c,rfl⟩|⟨a,c,g,rfl⟩|⟨c,rfl⟩|⟨d,a,c,j,g,rfl⟩|⟨d,a,s,b,c,j,g,l,i,rfl⟩
 ·exact absurd f (by simp)
 ·exact absurd f (by simp)
 ·exact absurd f (by simp)
 ·exact absurd f (by simp)
 ·exact absurd f (by simp)
 ·exact absurd f (by simp)
 ·exact⟨a,c,g,Z⟩
 ·exact absurd f (by simp)
 ·exact absurd f (by simp)
 ·exact absurd f (by rcases xT i with e|e|e<;>simp[e])
theorem U8(K:Sk)(rows:List (List ByteArray))(ps:List Nat)(regs:List (List Int))(vars:List Int)(JT:List Bool)(t p:Nat)(ln:ByteArray)(st:JR)(b:List Int)(w:World)(h:MK w K rows ps regs vars JT)(ht:t<K.n)(hn:K.n<1000)(hp:ps.getD t 0=p)(hl:(rows.getD t [])[p]?=O ln)(ax:∀x∈rows.getD t [],x.size<=10000000)(au:(rows.getD t []).length<100000)(hf:mD (KD 32 ln.toList) st)(hr:∀x∈regs.getD t [],0<=x/\x<4)(br:∀x∈vars,0<=x/\x<4)(aT:M b=(rows.getD t []).length)(aQ:∀i x,(rows.getD t [])[i]?=O x->∃s,mD (KD 32 x.toList) s/\s.k=b.getD i 0)(aI:st.k=10)(aV:lI 1 (b.drop (p+1))=U):
  Calls prog 11 #[.pointer (O ⟨K.gm,0,C⟩),G E (t:Int)] w fun e B=>e=.returned (.tuple #[])/\MK B K rows (ps.set t (dJ st (b.drop (p+1)) p (regs.getD t []) vars (JT.getD t Y)).p) (regs.set t (dJ st (b.drop (p+1)) p (regs.getD t []) vars (JT.getD t Y)).rg) (dJ st (b.drop (p+1)) p (regs.getD t []) vars (JT.getD t Y)).vr (JT.set t (dJ st (b.drop (p+1)) p (regs.getD t []) vars (JT.getD t Y)).wt)/\XF K.W w B:=by
 generalize hD:dJ st (b.drop (p+1)) p (regs.getD t []) vars (JT.getD t Y)=D;have aA:=JO hD;obtain⟨f0,f1,f2,f3,f4,f5⟩:=h.MF;obtain⟨a1,a2,a3⟩:=h.jX ht;obtain⟨gx,ox,cx,x1,x2,x3,x4,x5,x6⟩:=h.mG ht hl;rw[hp]at a1;have bq:(t:Int)<(K.n:Int):=by omega
 have aW:(p:Int)<((rows.getD t []).length:Int):=by omega
 have HC:=JO fun w2=>BT ln w2 (ax ln (xi hl));have HM:=JO h;have aE:=JO h.na;have aH:=JO ax;have HL:=JO au;generalize aU:(rows.getD t []).length=lr at*;have ak:=JO aU;go_enter func11,ntmps11;go_upto_region 0 with fail
 go_region_held3 (fun B=>H B ⟨K.gm,0,C⟩=O (JQ K.gl K.n K.cl)/\H B ⟨K.gm,1,C⟩=O (JQ K.ga K.n K.ca)/\H B ⟨K.gl,t,C⟩=O (.slice (O ⟨gx,ox,C⟩) lr cx)/\H B ⟨K.ga,t,C⟩=O (G E (p:Int))/\H B ⟨gx,ox+p,C⟩=O (N ln)) (first|exact⟨f0,f1,x1,a1,x2⟩|exact⟨p0,p1,p2,p3,p4⟩) (first
  |(go_at_call 21;refine(HC.o _).mono ?_;rintro e w1 ⟨v,ws,rfl,ac,ay,A,y⟩;have g:JP (Below (L (F w)) w w1):=((x8 (L (F w)) w).drew).trans (y.mono (by simp));have p0:=(g.o.cell f5).trans f0;have p1:=(g.o.cell f5).trans f1;have p2:=(g.o.cell x3).trans x1;have p3:=(g.o.cell a3).trans a1;have p4:=(g.o.cell x4).trans x2))
 have aC:=JO (HM.o.xf g.o);have pf:=(g.o.frozen (p:=⟨K.ga,t,C⟩) a3).trans a2;have ao:=JO ac;have aG:=JO A;go_upto_region 2 with fail
 rw[show (p:Int)+1=((p+1:Nat):Int)by omega];have ae:=JO (aC.o.fM ht (p+1));have X2:JP (XF K.W w (w1.setCell ⟨K.ga,t,C⟩ (G E ((p+1:Nat):Int)))):=(XF.aX g.o).trans (XF.aR w1 K.ga t _) fun k _ e=>xW e;have ba:0<M ws:=by
  have h1:=congrArg xj ao.o;rw[xc]at h1;have h2:=List.length_pos_iff.2 (lJ 32 ln.toList);omega
 obtain⟨gy,cy,rfl,y1,y2,y3⟩:=GQ aG.o ba;have y1:L (F w)<=gy:=by simpa using y1
 have aM:gy≠K.ga:=by omega
 have HY:JP (∀i u,ws[i]?=O u->(w1.setCell ⟨K.ga,t,C⟩ (G E ((p+1:Nat):Int))).cell? ⟨gy,i,C⟩=O (N u)):=fun i u hu=>by
  rw[x9 (w:=w1) (a:=⟨gy,i,C⟩) (xa _ _ _ _ aM)];exact y3 i u hu
 have yl:gy<(w1.setCell ⟨K.ga,t,C⟩ (G E ((p+1:Nat):Int))).heap.size:=by simpa using y2
 generalize w1.setCell ⟨K.ga,t,C⟩ (G E ((p+1:Nat):Int))=W at*;have aK:=ao.o▸hf;have SR:regs.set t (regs.getD t [])=regs:=pA regs t [];have ST:JT.set t (JT.getD t Y)=JT:=pA JT t Y;obtain⟨a,e0,q1,rfl⟩:=U7 aK aI;obtain⟨c1,r1,rfl,ec,e1⟩:=List.map_eq_cons_iff.1 e0;obtain⟨u9,r2,rfl,eu,e2⟩:=List.map_eq_cons_iff.1 e1;subst eu;have hc:=HY.o 0 c1 Z;have bk:=HY.o 1 u9 Z;have bm:(c1.toList==[101,110,100])=Y:=by rw[ec];rfl
 have bn:(c1.toList==[102,101,110,99,101])=Y:=by rw[ec];rfl
 have bo:(c1.toList==[115,116,111,114,101])=Y:=by rw[ec];rfl
 have bp:(c1.toList==[105,102])=U:=by rw[ec];rfl
 have bg:(0:Int)<((c1::u9::r2).length:Int):=by simp only[x0];omega
 have bh:(1:Int)<((c1::u9::r2).length:Int):=by simp only[x0];omega
 generalize(c1::u9::r2).length=bs at*;have HO:=JO (rI K rows (ps.set t (p+1)) regs vars JT t u9 W ae.o ht q1 hn);have HV:=JO (rP (regs:=regs.getD t []) (nB q1));have HE:JP (D=⟨p+1+if cJ (regs.getD t []) (aO u9.toList).1==0 then iD 1 (b.drop (p+1))else 0,regs.getD t [],vars,JT.getD t Y⟩):=aA.o.symm;have am:=JO SR;have I:=JO ST;have aF:=JO aV;have aB:=JO aQ;have aj:=JO aT;have az:=JO fun(i:Nat) (x:ByteArray) (hx:(rows.getD t [])[i]?=O x) (w2:World)=>BT x w2 (aH.o x (xi hx));generalize cJ (regs.getD t []) (aO u9.toList).1=yv at HV HE
 cases hv0:yv==0
 ·have HF:JP (∀V,Below (L (F W)) W V->MK V K rows (ps.set t D.p) (regs.set t D.rg) D.vr (JT.set t D.wt)):=fun V hb=>by
   rw[HE.o,hv0];simp only[Bool.false_eq_true,if_false,Nat.add_zero];rw[am.o,I.o];exact ae.o.xf hb
  go_upto_region 12 with(first
   |(go_at_call 22;refine(HO.o).mono ?_;rintro e V ⟨rfl,ai⟩;rw[HV.o];have B3:=JO ai))
  have ad:=JO (HF.o V B3.o);have X3:=JO (X2.o.X B3.o);go_loopw[6] (fun dv wr=>dv=G E 1/\wr=V) fun _ _=>0
  case atStart=>exact⟨Z,Z⟩
  case round =>
   obtain⟨rfl,rfl⟩:=hrel;go_wp2_with fail;go_end0;exact⟨Z,ad.o,X3.o⟩
 ·have HF:JP (∀V,MK V K rows (ps.set t (p+1+iD 1 (b.drop (p+1)))) regs vars JT->MK V K rows (ps.set t D.p) (regs.set t D.rg) D.vr (JT.set t D.wt)):=fun V hm=>by
   rw[HE.o,hv0];simp only[if_true];rw[am.o,I.o];exact hm
  go_upto_region 12 with(first
   |(go_at_call 22;refine(HO.o).mono ?_;rintro e V ⟨rfl,ai⟩;rw[HV.o];have B3:=JO ai))
  have aD:=JO (ae.o.xf B3.o);have X3:=JO (X2.o.X B3.o);go_loopw[6] (fun dv wr=>∃d j:Nat,dv=G E (d:Int)/\d<=j+1/\j<=(b.drop (p+1)).length/\JP (MK wr K rows (ps.set t (p+1+j)) regs vars JT)/\JP (XF K.W w wr)/\JP (iD 1 (b.drop (p+1))=j+iD d ((b.drop (p+1)).drop j))/\JP (lI d ((b.drop (p+1)).drop j)=U)) fun _ wr=>200000-wW K t wr
  case atStart=>exact⟨1,0,Z,by omega,by omega,aD,X3,by unfold JP;simp,aF⟩
  case round =>
   obtain⟨d,j,rfl,aJ,hj,S,Xr,HN,HK⟩:=hrel;have av:t<M ps:=by rw[aE.o];exact ht
   have bb:=aj.o;have bi:=HL.o;rw[xb]at hj
   cases d with
   |zero =>
    have ad:JP (MK wr K rows (ps.set t D.p) (regs.set t D.rg) D.vr (JT.set t D.wt)):=HF.o wr (by
     have:=HN.o;rw[iD,Nat.add_zero]at this;rw[this];exact S.o)
    go_wp2_with fail;go_end0;exact⟨Z,ad.o,Xr.o⟩
   |succ d =>
    obtain⟨k,r,T⟩:∃k r,(b.drop (p+1)).drop j=k::r:=by
     cases hq:(b.drop (p+1)).drop j with
     |nil=>have:=HK.o;rw[hq]at this;simp[lI]at this
     |cons k r=>exact⟨k,r,Z⟩
    have aP:p+1+j<lr:=by
     have h1:=congrArg xj T;simp only[xb,x0]at h1;omega
    have ar:(b.drop (p+1)).drop (j+1)=r:=by
     have h1:=congrArg List.tail T;rw[List.tail_drop]at h1;exact h1
    have aS:b.getD (p+1+j) 0=k:=by
     have h1:b[p+1+j]?=O k:=by
      have h2:=congrArg List.head? T;rw[List.drop_drop,List.head?_drop]at h2;simpa using h2
     rw[xR,h1];rfl
    obtain⟨x,hx⟩:∃x,(rows.getD t [])[p+1+j]?=O x:=⟨_,x7 (by rw[ak.o];exact aP)⟩;obtain⟨sx,aZ,aw⟩:=aB.o _ x hx;rw[aS]at aw;have HC:=JO (az.o _ x hx);obtain⟨f0,f1,f2,f3,f4,f5⟩:=S.o.MF;obtain⟨a1,a2,a3⟩:=S.o.jX ht;have a1:H wr ⟨K.ga,t,C⟩=O (G E ((p+1+j:Nat):Int)):=by
     rw[a1,xR,xk av];rfl
    obtain⟨gz,oz,cz,x1,x2,x3,x4,x5,x6⟩:=S.o.mG ht hx;rw[ak.o]at x1;have aW:((p+1+j:Nat):Int)<(lr:Int):=by omega
    have aY:p+1+j<200000:=by omega
    have aL:=fun(J:World) (hb:Below (L (F wr)) wr J)=>(S.o.xf hb).fM ht (p+1+j+1)
    have I:=JO aL;rw[show(ps.set t (p+1+j)).set t (p+1+j+1)=ps.set t (p+1+(j+1))by rw[List.set_set];congr 1]at I;have ap:JP (∀J,Below (L (F wr)) wr J->XF K.W w (J.setCell ⟨K.ga,t,C⟩ (G E ((p+1+j+1:Nat):Int)))):=fun J hb=>(Xr.o.X hb).trans (XF.aR J K.ga t _) fun k _ e=>xW e
    have ah:JP (wW K t wr=p+1+j):=by unfold JP wW;rw[a1];simp[intOf];omega
    have m:JP (iD 1 (b.drop (p+1))=j+1+iD (if k=10 then d+2 else if k=11 then d else d+1) ((b.drop (p+1)).drop (j+1))):=by
     unfold JP;rw[ar,HN.o,T,iD];omega
    have l:JP (lI (if k=10 then d+2 else if k=11 then d else d+1) ((b.drop (p+1)).drop (j+1))=U):=by
     unfold JP;rw[ar];have:=HK.o;rw[T,lI]at this;exact this
    have aN:j+1<=(b.drop (p+1)).length:=by rw[xb];omega
    have an:=JO aZ;have al:=JO aw;have aa:=JO aJ;have ab:=JO aN;have z:=JO aY;have bc:=JO av;generalize p+1+j=pj at*;go_upto_region 13 with fail
    clear hv0;go_region_held3 (fun B=>H B ⟨K.gm,0,C⟩=O (JQ K.gl K.n K.cl)/\H B ⟨K.gm,1,C⟩=O (JQ K.ga K.n K.ca)/\H B ⟨K.gl,t,C⟩=O (.slice (O ⟨gz,oz,C⟩) lr cz)/\H B ⟨K.ga,t,C⟩=O (G E (pj:Int))/\H B ⟨gz,oz+pj,C⟩=O (N x)) (first|exact⟨f0,f1,x1,a1,x2⟩|exact⟨p0,p1,p2,p3,p4⟩) (first
     |(go_at_call 21;refine(HC.o _).mono ?_;rintro e J ⟨v,wz,rfl,ac,ay,A,y⟩;have f:JP (Below (L (F wr)) wr J):=((x8 (L (F wr)) wr).drew).trans (y.mono (by simp));have p0:=(f.o.cell f5).trans f0;have p1:=(f.o.cell f5).trans f1;have p2:=(f.o.cell x3).trans x1;have p3:=(f.o.cell a3).trans a1;have p4:=(f.o.cell x4).trans x2))
    have pf:=(f.o.frozen (p:=⟨K.ga,t,C⟩) a3).trans a2;have pl:=xo a3 f.o.size;have pm:=xo f5 f.o.size;obtain⟨c,r9,e9,b1,b2⟩:=U1 an.o;rw[<- ac]at e9;obtain⟨c2,rz,rfl,rfl, -⟩:=List.map_eq_cons_iff.1 e9;obtain⟨gq,cq,rfl,y1,y2,y3⟩:=GQ A (by simp);have bl:=y3 0 c2 Z;have bj:(0:Int)<((c2::rz).length:Int):=by simp only[x0];omega
    have ag:JP (∀x:Int,0<=x->wW K t (J.setCell ⟨K.ga,t,C⟩ (G E x))=x.toNat):=fun x _=>by unfold wW;rw[World.cell?_setCell_same _ _ _ p3];rfl
    have af:JP (MK (J.setCell ⟨K.ga,t,C⟩ (G E ((pj:Int)+1))) K rows (ps.set t (p+1+(j+1))) regs vars JT):=by
     unfold JP;rw[show (pj:Int)+1=((pj+1:Nat):Int)by omega];exact I.o J f.o
    have X5:JP (XF K.W w (J.setCell ⟨K.ga,t,C⟩ (G E ((pj:Int)+1)))):=by
     unfold JP;rw[show (pj:Int)+1=((pj+1:Nat):Int)by omega];exact ap.o J f.o
    rw[al.o]at b1 b2;generalize(c2::rz).length=lq at*;clear ac A y ay p0 p2 p4 f0 f1 x1 a1 x2 y1 y2 y3 e9 I ap an al x3 x4 x5 x6 a2;have bf:d+2<200010:=by have:=aa.o;have:=ab.o;rw[xb,aj.o]at this;have:=HL.o;omega
    have bd:(pj:Int)<200000:=by have:=z.o;omega
    have be:(d:Int)<200010:=by omega
    by_cases k10:k=10
    ·rw[if_pos k10]at m l;have y:(c2.toList==[105,102])=U:=by rw[b1,k10];rfl
     have aq:(c2.toList==[101,110,100])=Y:=by rw[b2,k10];rfl
     clear b1 b2 k10;go_wp2_with fail;go_roundw
     case rel=>exact⟨d+2,j+1,by go_num,by have:=aa.o;omega,ab.o,af,X5,m,l⟩
     case measure=>rw[ag.o _ (by omega),ah.o];have:=z.o;omega
    ·rw[if_neg k10]at m l;by_cases k11:k=11
     ·rw[if_pos k11]at m l;have y:(c2.toList==[105,102])=Y:=by rw[b1,k11];rfl
      have aq:(c2.toList==[101,110,100])=U:=by rw[b2,k11];rfl
      clear b1 b2 k10 k11;go_wp2_with fail;go_roundw
      case rel=>exact⟨d,j+1,by go_num,by have:=aa.o;omega,ab.o,af,X5,m,l⟩
      case measure=>rw[ag.o _ (by omega),ah.o];have:=z.o;omega
     ·rw[if_neg k11]at m l;have y:(c2.toList==[105,102])=Y:=by rw[b1];simpa using k10
      have aq:(c2.toList==[101,110,100])=Y:=by rw[b2];simpa using k11
      clear b1 b2 k10 k11;go_wp2_with fail;go_roundw
      case rel=>exact⟨d+1,j+1,by go_num,by have:=aa.o;omega,ab.o,af,X5,m,l⟩
      case measure=>rw[ag.o _ (by omega),ah.o];have:=z.o;omega
namespace Q
structure Lk(ts us:List JV)(di:Int->Bool)(ps:List Nat)(regs:List (List Int))(vars:List Int)(JT:List Bool):Prop where
 sim:∃S,SimB ts us di S (OC vars)/\∀k,k<M ts->(S k).g=regs.getD k []/\(S k).dep=0/\(S k).rest=(ts.getD k JZ).S.drop (ps.getD k 0)
 np:M ps=M ts
 nr:M regs=M ts
 nw:JT.length=M ts
 nv:M vars=3
 le:∀k,k<M ts->ps.getD k 0<=(ts.getD k JZ).S.length
 rl:∀k,k<M ts->(regs.getD k []).length=4
 wt:∀k,k<M ts->JT.getD k Y=U->((ts.getD k JZ).S.getD (ps.getD k 0) JR.zero).k=5/\ps.getD k 0<(ts.getD k JZ).S.length
theorem U9:OC [0,0,0]=fun _=>0:=by
 funext v
 unfold OC
 split
 ·rfl
 ·have:v.toNat=0\/v.toNat=1\/v.toNat=2\/3<=v.toNat:=by omega
  rcases this with e|e|e|e
  ·rw[e];rfl
  ·rw[e];rfl
  ·rw[e];rfl
  ·rw[xR,List.getElem?_eq_none (by simpa using e)];rfl
theorem Vd{v:Int}(a:0<=v)(h:v.toNat<M vars)(x:Int):kY (OC vars) v x=OC (vars.set v.toNat x):=by
 funext y
 unfold kY OC;by_cases c:v=y
 ·subst c;rw[if_pos rfl,if_neg (by omega),xR,xk h];rfl
 ·rw[if_neg c];by_cases hy:y<0
  ·rw[if_pos hy,if_pos hy]
  ·rw[if_neg hy,if_neg hy,xR,xR,xp (by omega)]
theorem lG{l:List α}(h:t<M l)(x d:α):(l.set t x).getD t d=x:=by
 rw[xR,xk h];rfl
theorem mA{l:List α}(h:k≠t)(x d:α):(l.set t x).getD k d=l.getD k d:=by
 rw[xR,xR,xp fun e=>h e.symm]
theorem AD(r:List Int)(d x:Int):(iM r d x).length=M r:=by unfold iM;split<;>simp
theorem Ve(more:List Int)(p:Nat)(c b:List Int)(f:Bool)(l:st.k≠10)(n:st.k≠5)(o:0<=st.k/\st.k<=11)(m:st.k=0\/st.k=1\/st.k=2\/st.k=3->0<=st.z/\st.z<3)(g:M b=3):
  (dJ st more p c b f).p=p+1/\(dJ st more p c b f).wt=f/\eZ st c (OC b) 0=((dJ st more p c b f).rg,OC (dJ st more p c b f).vr,0)/\(dJ st more p c b f).vr.length=3/\(dJ st more p c b f).rg.length=M c:=by
 have j:st.k=0\/st.k=1\/st.k=2\/st.k=3\/st.k=4\/st.k=6\/st.k=7\/st.k=8\/st.k=9\/st.k=11:=by omega
 have d:st.k=0\/st.k=1\/st.k=2\/st.k=3->∀x,kY (OC b) st.z x=OC (b.set st.z.toNat x):=fun e x=>by
  have:=m e;exact Vd this.1 (by omega) x
 rcases j with e|e|e|e|e|e|e|e|e|e
 ·unfold dJ eZ fC;rw[e];exact⟨Z,Z,Z,g,AD _ _ _⟩
 ·have i:=d (by omega);unfold dJ eZ;rw[e];refine⟨Z,Z,?_,by simpa using g,Z⟩;show(c,kY (OC b) st.z (cJ c st.a),0)=_;rw[i];rfl
 ·have i:=d (by omega);unfold dJ eZ fC;rw[e];refine⟨Z,Z,?_,by show(b.set _ _).length=3;simpa using g,AD _ _ _⟩;show(iM c st.dest (OC b st.z),kY (OC b) st.z _,0)=_;rw[i];rfl
 ·have i:=d (by omega);unfold dJ eZ fC;rw[e];refine⟨Z,Z,?_,by show(b.set _ _).length=3;simpa using g,AD _ _ _⟩;show(iM c st.dest (OC b st.z),kY (OC b) st.z _,0)=_;rw[i];rfl
 all_goals(unfold dJ eZ fC;rw[e];exact⟨Z,Z,Z,g,by first|rfl|exact AD _ _ _⟩)
section
variable {ts us:List P.JV}{di:Int->Bool}{ps:List Nat}{regs:List (List Int)}{vars:List Int}{JT:List Bool}
theorem tD{l:List JR}(h:p<M l):l.drop p=l.getD p JR.zero::l.drop (p+1):=by
 rw[List.drop_eq_getElem_cons h,xR,x7 h];rfl
theorem Lk.step(h:Lk ts us di ps regs vars JT)(m:Both ts us di)(d:t<M ts)(B:ps.getD t 0<(ts.getD t JZ).S.length)(i:(ts.getD t JZ).S.getD (ps.getD t 0) JR.zero=st)(a:0<=st.k/\st.k<=11)(y:st.k≠5)(n:st.k≠10)(X:JT.getD t Y=Y)(more:List Int){D:DoS}(V:dJ st more (ps.getD t 0) (regs.getD t []) vars (JT.getD t Y)=D):
  Lk ts us di (ps.set t D.p) (regs.set t D.rg) D.vr (JT.set t D.wt)/\D.p=ps.getD t 0+1:=by
 obtain⟨S,W,A⟩:=h.sim;obtain⟨o,r,s⟩:=A t d;rw[tD B,i]at s;have f:st∈(ts.getD t JZ).S:=by
  rw[<- i];exact QA _ _ _ B
 obtain⟨j,u,l,v,x⟩:=Ve (st:=st) more (ps.getD t 0) (regs.getD t []) vars (JT.getD t Y) n y a ((m.wf t d).z st f) h.nv;rw[V]at j u l v x;have I:=W.step m.like m.wf m.uf d s fun e=>y e.2;rw[o,r,l]at I;have J:t<M ps:=by rw[h.np];exact d
 have T:t<M regs:=by rw[h.nr];exact d
 have tw:t<JT.length:=by rw[h.nw];exact d
 refine⟨⟨⟨_,I,fun k a=>?_⟩,by simpa using h.np,by simpa using h.nr,by simpa using h.nw,v,fun k a=>?_,fun k a=>?_,fun k a b=>?_⟩,j⟩
 ·by_cases c:k=t
  ·subst c;simp only[if_true];rw[lG T,lG J];refine⟨by show(eZ st (S k).g _ (S k).dep).1=_;rw[o,r,l],by show(eZ st (S k).g _ (S k).dep).2.2=_;rw[o,r,l],?_⟩;show(S k).rest.tail=_;rw[s,j];rfl
  ·simp only[c,if_false];rw[mA c,mA c];exact A k a
 ·by_cases c:k=t
  ·subst c;rw[lG J,j];omega
  ·rw[mA c];exact h.le k a
 ·by_cases c:k=t
  ·subst c;rw[lG T,x];exact h.rl k a
  ·rw[mA c];exact h.rl k a
 ·by_cases c:k=t
  ·subst c;rw[lG tw,u,X]at b;cases b
  ·rw[mA c]at b⊢;exact h.wt k a b
theorem Lk.bar(h:Lk ts us di ps regs vars JT)(j:t<M ts)(i:ps.getD t 0<(ts.getD t JZ).S.length)(b:(ts.getD t JZ).S.getD (ps.getD t 0) JR.zero=st)(d:st.k=5)(more:List Int){D:DoS}(f:dJ st more (ps.getD t 0) (regs.getD t []) vars (JT.getD t Y)=D):
  Lk ts us di (ps.set t D.p) (regs.set t D.rg) D.vr (JT.set t D.wt)/\D.p=ps.getD t 0/\D.wt=U:=by
 have e:D=⟨ps.getD t 0,regs.getD t [],vars,U⟩:=by rw[<- f];unfold dJ;rw[d];rfl
 rw[e];simp only;have l:t<JT.length:=by rw[h.nw];exact j
 rw[pA,pA];refine⟨⟨h.sim,h.np,h.nr,by simpa using h.nw,h.nv,h.le,h.rl,fun k g a=>?_⟩,trivial,trivial⟩;by_cases c:k=t
 ·subst c;rw[b];exact⟨d,i⟩
 ·rw[mA c]at a;exact h.wt k g a
theorem xS:∀(l:List JR) (d:Nat),(d:Int)<=JU iE l-JU iB l->lI d (l.map fun s=>s.k)=U
 |_,0,_=>by simp[lI]
 |[],d+1,h=>by simp only[JU]at h;omega
 |s::l,d+1,h=>by
  rw[xl,lI];have a:(if iB s then(1:Int)else 0)=if s.k=10 then 1 else 0:=by unfold iB;by_cases c:s.k=10<;>simp[c]
  have b:(if iE s then(1:Int)else 0)=if s.k=11 then 1 else 0:=by unfold iE;by_cases c:s.k=11<;>simp[c]
  simp only[JU,a,b]at h;by_cases h10:s.k=10
  ·rw[if_pos h10];rw[if_pos h10,if_neg (by omega)]at h;exact xS l (d+2) (by omega)
  ·rw[if_neg h10];rw[if_neg h10]at h;by_cases h11:s.k=11
   ·rw[if_pos h11];rw[if_pos h11]at h;exact xS l d (by omega)
   ·rw[if_neg h11];rw[if_neg h11]at h;exact xS l (d+1) (by omega)
theorem Gq{t:JV}(c:WF t)(i:JU iB t.S=JU iE t.S)(b:p<M t.S)(a:(t.S.getD p JR.zero).k=10):lI 1 ((t.S.map fun s=>s.k).drop (p+1))=U:=by
 rw[<- xm];have e:t.S=t.S.take p++t.S.getD p JR.zero::t.S.drop (p+1):=by rw[<- tD b,List.take_append_drop]
 have d:=c.ends _ _ e;have f:JU iB t.S=JU iB (t.S.take p)+(1+JU iB (t.S.drop (p+1))):=by
  conv=>lhs;rw[e]
  rw[mK];simp only[JU,iB,a];rfl
 have g:JU iE t.S=JU iE (t.S.take p)+(0+JU iE (t.S.drop (p+1))):=by
  conv=>lhs;rw[e]
  rw[mK];simp only[JU,iE,a];rfl
 exact xS _ 1 (by omega)
theorem Gr{S0:Nat->SS}{mem:Int->Int}(c:Both ts us di){t:Nat}(j:t<M ts):∀(l:List JR) (d:Nat) (S:Nat->SS),SimB ts us di S mem->(S t).dep=d->(S t).rest=l->lI d (l.map fun s=>s.k)=U->(S t).g=(S0 t).g->(∀k,k≠t->S k=S0 k) ->
  ∃a,SimB ts us di a mem/\(a t).g=(S0 t).g/\(a t).dep=0/\(a t).rest=l.drop (iD d (l.map fun s=>s.k))/\∀k,k≠t->a k=S0 k
 |l,0,S,h,hd,hr,_,h1,h2=>⟨S,h,h1,hd,by rw[hr,iD];rfl,h2⟩
 |[],d+1,S,_,_,_,b,_,_=>by simp[lI]at b
 |s::l,d+1,S,h,hd,hr,b,h1,h2=>by
  rw[xl,lI]at b;have i:=h.step c.like c.wf c.uf j hr (fun e=>by omega);have f:eZ s (S t).g mem (S t).dep=((S t).g,mem,if s.k=10 then d+2 else if s.k=11 then d else d+1):=by
   unfold eZ;rw[hd];rw[if_neg (by simp)];by_cases h10:s.k=10
   ·rw[h10];rfl
   ·rw[if_neg (by simpa using h10),if_neg h10];by_cases h11:s.k=11
    ·rw[h11];rfl
    ·rw[if_neg (by simpa using h11),if_neg h11]
  rw[f]at i;obtain⟨a,m,o,r,u,v⟩:=Gr (S0:=S0) c j l (if s.k=10 then d+2 else if s.k=11 then d else d+1) _ i (by simp only[if_true];unfold SS.bQ;rw[f]) (by simp only[if_true];unfold SS.bQ;rw[hr];rfl) b (by simp only[if_true];unfold SS.bQ;rw[f];exact h1) (fun k b=>by simp only[b,if_false];exact h2 k b);refine⟨a,m,o,r,?_,v⟩;rw[u,xl,iD];generalize iD _ _=n;rw[Nat.add_comm];rfl
theorem Gs:∀(l:List Int) (d:Nat),iD d l<=M l
 |_,0=>by simp[iD]
 |[],d+1=>by simp[iD]
 |k::l,d+1=>by have:=Gs l (if k=10 then d+2 else if k=11 then d else d+1);rw[iD,x0];omega
theorem Lk.I(h:Lk ts us di ps regs vars JT)(j:Both ts us di)(l:t<M ts)(V:ps.getD t 0<(ts.getD t JZ).S.length)(r:(ts.getD t JZ).S.getD (ps.getD t 0) JR.zero=st)(f:st.k=10)(hw:JT.getD t Y=Y){D:DoS}(hD:dJ st (((ts.getD t JZ).S.map fun s=>s.k).drop (ps.getD t 0+1)) (ps.getD t 0) (regs.getD t []) vars (JT.getD t Y)=D):
  Lk ts us di (ps.set t D.p) (regs.set t D.rg) D.vr (JT.set t D.wt)/\ps.getD t 0<D.p:=by
 obtain⟨S,hS,T⟩:=h.sim;obtain⟨J,l2,u⟩:=T t l;rw[tD V,r]at u;have B:=Gq (j.wf t l) (j.bal t l) V (by rw[r];exact f);have I:=hS.step j.like j.wf j.uf l u (fun e=>by omega);have m:eZ st (S t).g (OC vars) (S t).dep=((S t).g,OC vars,if cJ (S t).g st.a==0 then 1 else 0):=by
  unfold eZ;rw[l2,f];rfl
 rw[m]at I;have e:D=⟨ps.getD t 0+1+if cJ (regs.getD t []) st.a==0 then iD 1 (((ts.getD t JZ).S.map fun s=>s.k).drop (ps.getD t 0+1))else 0,regs.getD t [],vars,JT.getD t Y⟩:=by
  rw[<- hD];unfold dJ;rw[f];rfl
 have o:∃b,SimB ts us di b (OC vars)/\(b t).g=(S t).g/\(b t).dep=0/\(b t).rest=(ts.getD t JZ).S.drop D.p/\∀k,k≠t->b k=S k:=by
  cases hv:cJ (regs.getD t []) st.a==0
  ·refine⟨_,I,by simp only[if_true];unfold SS.bQ;rw[m],by simp only[if_true];unfold SS.bQ;rw[m,J,hv];rfl,?_,fun k d=>by simp only[d,if_false]⟩;simp only[if_true];show(S t).rest.tail=_;rw[u,e,hv];rfl
  ·obtain⟨b,v,x,y,z,A⟩:=Gr (S0:=S) j l ((ts.getD t JZ).S.drop (ps.getD t 0+1)) 1 _ I (by simp only[if_true];unfold SS.bQ;rw[m,J,hv];rfl) (by simp only[if_true];unfold SS.bQ;rw[u];rfl) (by rw[xm];exact B) (by simp only[if_true];unfold SS.bQ;rw[m]) (fun k d=>by simp only[d,if_false]);refine⟨b,v,x,y,?_,A⟩;rw[z,e,hv,List.drop_drop,xm];rfl
 obtain⟨b,v,x,y,z,A⟩:=o;have W:t<M ps:=by rw[h.np];exact l
 have n:D.p<=(ts.getD t JZ).S.length/\ps.getD t 0<D.p:=by
  rw[e];simp only;have:=Gs (((ts.getD t JZ).S.map fun s=>s.k).drop (ps.getD t 0+1)) 1;rw[xb,xc]at this
  split<;>omega
 have X:D.rg=regs.getD t []:=by rw[e]
 have ev:D.vr=vars:=by rw[e]
 have ew:D.wt=JT.getD t Y:=by rw[e]
 rw[X,ev,ew,pA,pA];refine⟨⟨⟨b,v,fun k d=>?_⟩,by simpa using h.np,h.nr,h.nw,h.nv,fun k d=>?_,h.rl,fun k d i=>?_⟩,n.2⟩
 ·by_cases c:k=t
  ·subst c;rw[lG W];exact⟨x.trans J,y,z⟩
  ·rw[mA c,A k c];exact T k d
 ·by_cases c:k=t
  ·subst c;rw[lG W];exact n.1
  ·rw[mA c];exact h.le k d
 ·by_cases c:k=t
  ·subst c;rw[hw]at i;cases i
  ·rw[mA c];exact h.wt k d i
def nD(ts:List JV)(b:Int)(ps:List Nat):List Nat:=(xd (M ts)).map fun k=>if(ts.getD k JZ).block=b then ps.getD k 0+1 else ps.getD k 0
def nV(ts:List JV)(b:Int)(JT:List Bool):List Bool:=(xd (M ts)).map fun k=>if(ts.getD k JZ).block=b then Y else JT.getD k Y
theorem pE(f:Nat->α){n:Nat}(h:k<n)(d:α):((xd n).map f).getD k d=f k:=by
 rw[xR];simp[h]
theorem Lk.rel(h:Lk ts us di ps regs vars JT)(f:Both ts us di)(b:Int)(g:∀k,k<M ts->(ts.getD k JZ).block=b->JT.getD k Y=U):Lk ts us di (nD ts b ps) regs vars (nV ts b JT):=by
 obtain⟨S,o,j⟩:=h.sim;have r:=o.rel f.like f.wf f.uf b fun k a e=>by
  obtain⟨s,i⟩:=h.wt k a (g k a e);exact⟨_,_,(j k a).2.2.trans (tD i),s⟩
 refine⟨⟨_,r,fun k a=>?_⟩,by simp[nD],h.nr,by simp[nV],h.nv,fun k a=>?_,h.rl,fun k a d=>?_⟩
 ·obtain⟨l,m,n⟩:=j k a;unfold nD;rw[pE _ a];by_cases c:(ts.getD k JZ).block=b
  ·simp only[c,if_true];obtain⟨_,i⟩:=h.wt k a (g k a c);refine⟨l,m,?_⟩;show(S k).rest.tail=_;rw[n,tD i];rfl
  ·simp only[c,if_false];exact⟨l,m,n⟩
 ·unfold nD;rw[pE _ a];by_cases c:(ts.getD k JZ).block=b
  ·rw[if_pos c];exact(h.wt k a (g k a c)).2
  ·rw[if_neg c];exact h.le k a
 ·unfold nV at d;rw[pE _ a]at d;unfold nD;rw[pE _ a];by_cases c:(ts.getD k JZ).block=b
  ·rw[if_pos c]at d;cases d
  ·rw[if_neg c]at d⊢;exact h.wt k a d
theorem Lk.stuck(h:Lk ts us di ps regs vars JT)(B:Both ts us di)(n:∀k k',k<M ts->k'<M ts->(ts.getD k JZ).block=(ts.getD k' JZ).block->LF (ts.getD k JZ).S=LF (ts.getD k' JZ).S)(o:∀k,k<M ts->JT.getD k Y=U\/ps.getD k 0=(ts.getD k JZ).S.length){b:Nat}(a:b<M ts)(g:JT.getD b Y=U):∀k,k<M ts->(ts.getD k JZ).block=(ts.getD b JZ).block->JT.getD k Y=U:=fun k d e=>by
 obtain⟨S,f,j⟩:=h.sim
 rcases o k d with c|c
 ·exact c
 ·exfalso;obtain⟨A,v,x,_⟩:=f.one.left d;obtain⟨m,y,z,_⟩:=f.one.left a;have i:=n k b d a e;obtain⟨r,s⟩:=h.wt b a g;rw[<- v,<- y,sL,sL,x,z,f.one.u d a e,(j k d).2.2,(j b a).2.2,c,xr,tD s]at i;have l:=Df (rs:=(ts.getD b JZ).S.drop (ps.getD b 0+1)) r;simp only[LF]at i l;omega
theorem Vf(c:Both ts us di):Lk ts us di (xe (M ts) 0) (xe (M ts) [0,0,0,0]) [0,0,0] (xe (M ts) Y):=by
 have r:∀{α:Type} (x d:α) {k:Nat},k<M ts->(xe (M ts) x).getD k d=x:=fun{α} x d {k} a=>by
  rw[xR,List.getElem?_replicate];simp[a]
 refine⟨⟨s0 ts,by rw[U9];exact Uc c.like,fun k a=>?_⟩,by simp,by simp,by simp,Z,fun k a=>?_,fun k a=>?_,fun k a b=>?_⟩
 ·rw[r _ _ a,r _ _ a];exact⟨Z,Z,Z⟩
 ·rw[r _ _ a];exact Nat.zero_le _
 ·rw[r _ _ a];rfl
 ·rw[r _ _ a]at b;cases b
theorem Lk.o(h:Lk ts us di ps regs vars JT)(d:Both ts us di)(r:∀k,k<M ts->ps.getD k 0=(ts.getD k JZ).S.length):regs.flatten++vars∈(OB ts).y/\regs.flatten++vars∈(MI us).y:=by
 obtain⟨S,n,f⟩:=h.sim;have:=n.o d.like d.uf d.vt d.vu d.nt d.nu (fun k e=>by rw[(f k e).2.2,r k e,xr]);have i:((xd (M ts)).map fun k=>(S k).g)=regs:=by
  refine List.ext_getElem (by simp[h.nr]) fun k l m=>?_
  simp only[List.getElem_map,List.getElem_range];rw[(f k (by simpa using l)).1,xR,x7 m];rfl
 have j:[OC vars 0,OC vars 1,OC vars 2]=vars:=by
  have s:=h.nv
  match vars,s with
  |[a,b,c],_=>rfl
 rw[i,j]at this;exact this
end
end Q
end Go.Proofs.YtlikcongbhhpfaaGreatDoor
