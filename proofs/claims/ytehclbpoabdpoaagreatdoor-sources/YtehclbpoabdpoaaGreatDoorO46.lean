import Derived.Test.YtehclbpoabdpoaaGreatDoorO45
set_option linter.all false
set_option maxHeartbeats 0
namespace Go.Proofs.YtehclbpoabdpoaaGreatDoor
open Go Go.RowKit Go.Proofs.Tryz P Q R
open scoped Classical
set_option maxRecDepth 1000000
variable {w w':World}{bt ct g gr hi i j k lo m nt t z:Nat}{pv u v ve:Value}{tg:Bool}{b:Int}{Is:List (Nat × Nat × Nat)}{p:J.Pth}{a:Act}{es l:List J.E}{ons:List Value}{ts:List R.Th}{e:J.E}
open List renaming length->M
open _root_.Array renaming size->H
open Go.World renaming heap->L,cell?->T
open Option renaming none->Y,some->C
open Go.Value renaming int->O
open Go.IntKind renaming i64->I
open Bool renaming false->G,true->U
open Nat renaming lt_of_lt_of_le->xF,le_refl->x4,zero_le->xc
open List renaming range->xR,map_cons->xW,map_nil->x1,getElem_mem->x5,mem_singleton->x6,mem_cons->x9,mem_nil_iff->xa,getElem?_append_left->xd,getElem?_append_right->xe,length_map->xg,getD_eq_getElem?_getD->xh,mem_of_getElem?->xj,getElem?_set_self->xk
open Or renaming inl->x2
open Prod renaming fst->x7
open Go.RowKit.Below renaming refl->x8,heap_setCell->xb
open _root_.Array renaming getElem?_modify->xi
open Int renaming toNat_natCast->xl
def uF(d:Func):List Code:=dR (d.body.getD .skip)
def uL(d:Func):List Code:=dR (oP (bC ((uF d).getD 3 .skip)))
def uB(d:Func):List Code:=dR (bC ((uL d).getD 2 .skip))
def uM(d:Func):List Code:=dR (oP (bC ((uB d).getD 2 .skip)))
def uC(d:Func):List Code:=dR (bC ((uM d).getD 2 .skip))
def uN(d:Func):List Code:=dR (oP (bC ((uC d).getD 1 .skip)))
def uD(d:Func):List Code:=dR (bC ((uN d).getD 2 .skip))
def uP(d:Func):List Code:=dR (oP (bC ((uF d).getD 5 .skip)))
def uE(d:Func):List Code:=dR (bC ((uP d).getD 2 .skip))
def SH:(uF f22).length=9:=by kernel_rfl
def xT:(uL f22).length=4:=by kernel_rfl
def AL:(uB f22).length=5:=by kernel_rfl
def xE:(uM f22).length=4:=by kernel_rfl
def Dq:(uC f22).length=2:=by kernel_rfl
def vQ:(uN f22).length=4:=by kernel_rfl
def Dr:(uD f22).length=2:=by kernel_rfl
def SS:(uP f22).length=4:=by kernel_rfl
def Vj:(uE f22).length=1:=by kernel_rfl
def uF3:(uF f22).getD 3 .skip=.block 0 (.loop (oP (bC ((uF f22).getD 3 .skip)))):=by kernel_rfl
def uL2:(uL f22).getD 2 .skip=.block 1 (bC ((uL f22).getD 2 .skip)):=by kernel_rfl
def uB2:(uB f22).getD 2 .skip=.block 2 (.loop (oP (bC ((uB f22).getD 2 .skip)))):=by kernel_rfl
def uM2:(uM f22).getD 2 .skip=.block 3 (bC ((uM f22).getD 2 .skip)):=by kernel_rfl
def uC1:(uC f22).getD 1 .skip=.block 4 (.loop (oP (bC ((uC f22).getD 1 .skip)))):=by kernel_rfl
def uN2:(uN f22).getD 2 .skip=.block 5 (bC ((uN f22).getD 2 .skip)):=by kernel_rfl
def uF5:(uF f22).getD 5 .skip=.block 6 (.loop (oP (bC ((uF f22).getD 5 .skip)))):=by kernel_rfl
def uP2:(uP f22).getD 2 .skip=.block 7 (bC ((uP f22).getD 2 .skip)):=by kernel_rfl
def Vk(h:j≠i):(w.setCell ⟨g,i,Y⟩ u).cell? ⟨g,j,Y⟩=T w ⟨g,j,Y⟩:=by
 cases e:w.heap[g]? with
 |none=>simp[World.cell?,World.setCell,xi,e]
 |some ob=>cases ob<;>simp[World.cell?,World.setCell,xi,e,Array.getElem?_setIfInBounds,h.symm]
structure O1(a:Act)(tv:Value)(tg:Bool)(g t:Nat):Prop where
 sz:a.tmps.size=106
 df:a.defers=[]
 s0:gA a 0=tv
 s1:gA a 1=.bool tg
 s6:gA a 6=.pointer (C ⟨g,0,Y⟩)
 s7:gA a 7=O I (t:Int)
structure O2(a:Act)(tv:Value)(tg:Bool)(g t:Nat)(lv:Value)(k:Nat):Prop where
 o1:O1 a tv tg g t
 s8:gA a 8=lv
 s9:gA a 9=O I (k:Int)
structure O3(a:Act)(tv:Value)(tg:Bool)(g t:Nat)(lv:Value)(k i:Nat):Prop where
 o2:O2 a tv tg g t lv k
 s10:gA a 10=O I (i:Int)
def sJ(bl k z bt t:Nat)(ve:Value)(b:Int)(w:World):Prop:=T w ⟨bl,k,Y⟩=C (.pointer (C ⟨z,0,Y⟩))/\T w ⟨z,0,Y⟩=C ve/\T w ⟨bt,t*3,Y⟩=C (O I b)
def Vl{bl cl:Nat}{ps:List J.Pth}{q:Nat×Nat×Nat}{N:Act->World->Prop}{Q:Exit->Act->World->Prop}(hQ:lG Q)(hp:PL w Is ps)(E:Is[k]?=C q)(h2:ps[k]?=C p)(hi:i<M p.e)(hn:M p.e<1000)(hk:k<m)(ht:t<nt)(c1:T w ⟨bl,k,Y⟩=C (gC q))(c2:T w ⟨bt,t*3,Y⟩=C (O I b))(n1:¬iA bl Is)(n2:¬iA bt Is)(l1:bl<H (L w))(l2:bt<H (L w))(hf:O3 a (MU bt nt ct) tg g t (MU bl m cl) k i)(hN:∀a' w',O3 a' (MU bt nt ct) tg g t (MU bl m cl) k i->PL w' Is (ps.set k ((p.bF i t).bM i b))->JX (fun x=>iA x Is) w w'->N a' w'):
  NG prog ((uD f22).drop 0) (Exit.then N Q) a w:=by
 obtain⟨ve,gr,ons,F⟩:=hp.get k q p E h2;obtain⟨c,ce,rfl,g1,g2,c3,y,A⟩:=F.row (by omega);have d:iA c Is:=⟨q,xj E,g1,g2⟩;obtain⟨zb,ae,ao,_⟩:=F.zt;have lz:=ae.lt;obtain⟨u1,d1⟩:=y (i*10) (by omega);obtain⟨u2,d2⟩:=y (i*10+1) (by omega);have f1:=A (i*10);have f2:=A (i*10+1);have ac:c<H (L w):=hp.lt d;have nz:=(F.ne (ge:=c) Z).1;have al:bl≠c:=fun e=>n1 (by rw[e];exact d)
 have am:bt≠c:=fun e=>n2 (by rw[e];exact d)
 have r:MT (PL (w.setCell ⟨c,i*10,Y⟩ (O I (t:Int))) Is (ps.set k (p.bF i t))):=PL.set (ge:=c) (by simp) (fun x hx=>xb _ _ _ _ hx) hp k q _ E g1 g2 ⟨_,_,_,F.put (j:=i*10) (u:=O I (t:Int)) (p':=p.bF i t) (by simp[J.Pth.bF]) Z (Dm _ F.ol hi) fun j=>Dp Z⟩;have ab:k<M ps:=by have:=List.getElem?_eq_some_iff.1 h2;exact this.1
 have e2:(ps.set k (p.bF i t))[k]?=C (p.bF i t):=by rw[xk ab]
 obtain⟨an,ay,av,n⟩:=r.get k q _ E e2;have D:(p.bF i t).e.length=M p.e:=by simp[J.Pth.bF]
 have s:(w.setCell ⟨c,i*10,Y⟩ (O I (t:Int))).cell? ⟨q.2.2,0,Y⟩=C (MU c (M p.e) ce):=(cY fun e=>nz e.symm).trans c3;have ak:an=MU c (p.bF i t).e.length ce:=by
  obtain⟨zc,ap,aq,_⟩:=n.zt;have:=ap.cell aq;rw[s]at this;rw[D];exact(Option.some.inj this).symm
 subst ak;have ag:MT (PL ((w.setCell ⟨c,i*10,Y⟩ (O I (t:Int))).setCell ⟨c,i*10+1,Y⟩ (O I b)) Is (ps.set k ((p.bF i t).bM i b))):=by
  have:=PL.set (ge:=c) (w:=w.setCell ⟨c,i*10,Y⟩ (O I (t:Int))) (w':=(w.setCell ⟨c,i*10,Y⟩ (O I (t:Int))).setCell ⟨c,i*10+1,Y⟩ (O I b)) (by simp) (fun x hx=>xb _ _ _ _ hx) r.o k q _ E g1 g2 ⟨_,_,_,n.put (j:=i*10+1) (u:=O I b) (p':=(p.bF i t).bM i b) (by simp[J.Pth.bM]) Z (Dn _ n.ol (by rw[D];exact hi)) fun j=>Dp Z⟩;rw[List.set_set]at this;exact this
 have HX:MT (JX (fun x=>iA x Is) w ((w.setCell ⟨c,i*10,Y⟩ (O I (t:Int))).setCell ⟨c,i*10+1,Y⟩ (O I b))):=((JX.refl _ _).set (x2 d) _ _).set (x2 d) _ _;have V:=(cY (u:=O I (t:Int)) (i:=i*10) al).trans c1;have aa:=(cY (u:=O I (t:Int)) (i:=i*10) am).trans c2;have ah:MT (sJ bl k q.2.2 bt t (MU c (M p.e) ce) b (w.setCell ⟨c,i*10,Y⟩ (O I (t:Int)))):=⟨V,s,aa⟩;have aw:(w.setCell ⟨c,i*10,Y⟩ (O I (t:Int))).cell? ⟨c,i*10+1,Y⟩=C u2:=(Vk (by omega)).trans d2;have ax:(w.setCell ⟨c,i*10,Y⟩ (O I (t:Int))).frozen? ⟨c,i*10+1,Y⟩=G:=n.eo.frozenAt _;have HN:=MS hN;obtain⟨⟨⟨sz,df,s0,s1,s6,s7⟩,s8,s9⟩,ad⟩:=hf;have aA:(k:Int)<(m:Int):=by omega
 have aB:(t:Int)<(nt:Int):=by omega
 have az:(i:Int)<(M p.e:Int):=by omega
 generalize aj:M p.e=el at*;unfold gC at c1;have ar:q.2.2<H (L w):=lz;clear hN hp F n E h2 y A ae ao V aa s e2 D r hi n1 n2 g1 g2 d ab nz aj;generalize q.2.2=z at*;rw[OQ sz df];simp only[xR,List.range.loop,xW,x1,s0,s1,s6,s7,s8,s9,ad];generalize gA a=f;clear s0 s1 s6 s7 s8 s9 ad sz df;refine MX 0 Dr Z fun K HK=>?_
 conv=>arg 2;whnf
 go_wp2_with fail;refine HK.o _ _ ?_;clear HK;have au:c<(w.setCell ⟨c,i*10,Y⟩ (O I (t:Int))).heap.size:=by simpa using ac
 clear c1 c2 c3 d1 d2 f1 f2 l1 l2 lz ar ac;generalize w.setCell ⟨c,i*10,Y⟩ (O I (t:Int))=W at*;refine MX 1 Dr Z fun K1 af=>?_
 conv=>arg 2;whnf
 refine Pop.aQ (S:=sJ bl k z bt t (MU c el ce) b) (by kernel_rfl) _ Z (by kernel_rfl) ah.o fun B=>?_;simp only[List.dropLast_cons_cons,List.dropLast_singleton,List.length_cons,List.length_nil,Nat.reduceAdd,Pop.qU]
 iterate 15
  refine Pop.tk Z (by kernel_rfl) (fun _ _ _ h=>hQ _ _ _ _ _ h) Z fun w ai=>by dsimp only[sJ]at ai;go_simp;with_reducible rfl B ?_;simp only[Act.put,List.setIfInBounds_toArray,List.set_cons_zero,List.set_cons_succ,Nat.reduceAdd]
 refine Pop.fin (by kernel_rfl) Z ?_;go_simp;refine af.o _ _ ?_;show N _ _;exact HN.o _ _ ⟨⟨⟨Z,Z,Z,Z,Z,Z⟩,Z,Z⟩,Z⟩ (ag.keep (fun _ _=>Z) (x4 _)) (HX.X ((x8 _ _).drew))
def Vm{P:Program}{l:List Code}{Q:Exit->Act->World->Prop}(h:NG P l (Exit.then (Q .normal) Q) a w):NG P l Q a w:=AR l (fun e _ _ c=>by cases e<;>exact c) h
def PQ.len(h:PQ w lo hi z p ve gr ons):∃c d,T w ⟨z,0,Y⟩=C (.slice c (M p.e) d):=by
 obtain⟨o,f,n,_⟩:=h.zt;obtain⟨c,d,rfl⟩:=RL h.eo;exact⟨c,d,f.cell n⟩
def Vn{bl cl:Nat}{ps:List J.Pth}{q:Nat×Nat×Nat}{Q:Exit->Act->World->Prop}(hQ:lG Q)(hp:PL w Is ps)(h1:Is[k]?=C q)(h2:ps[k]?=C p)(hn:M p.e<1000)(hk:k<m)(ht:t<nt)(c1:T w ⟨bl,k,Y⟩=C (gC q))(c2:T w ⟨bt,t*3,Y⟩=C (O I b))(n1:¬iA bl Is)(n2:¬iA bt Is)(l1:bl<H (L w))(l2:bt<H (L w))(hf:O2 a (MU bt nt ct) tg g t (MU bl m cl) k)(hN:∀a' w',O2 a' (MU bt nt ct) tg g t (MU bl m cl) k->PL w' Is (ps.set k (p.tag t b))->JX (fun x=>iA x Is) w w'->Q .normal a' w'):
  NG prog ((uC f22).drop 0) Q a w:=by
 have ab:k<M ps:=(List.getElem?_eq_some_iff.1 h2).1;have H0:MT (PL w Is (ps.set k (p.eM t b 0))):=by
  rw[J.Pth.nY];have:ps.set k p=ps:=by rw[(List.getElem?_eq_some_iff.1 h2).2.symm];exact List.set_getElem_self ab
  unfold MT;rw[this];exact hp
 have HN:=MS hN;have ar:(k:Int)<(m:Int):=by omega
 clear hN hp h2;obtain⟨⟨S,y,A,B,D,E⟩,F,N⟩:=hf;rw[OQ S y];simp only[xR,List.range.loop,xW,x1,A,B,D,E,F,N];generalize gA a=f;clear A B D E F N S y;refine MX 0 Dq Z fun K n=>?_
 conv=>arg 2;whnf
 go_wp2_with fail;refine n.o _ _ ?_;clear n;refine MX 1 Dq Z fun K8 ak=>?_;rw[uC1];refine wp_block (wp_loop (fun a w'=>∃i,i<=M p.e/\O3 a (MU bt nt ct) tg g t (MU bl m cl) k i/\PL w' Is (ps.set k (p.eM t b i))/\JX (fun x=>iA x Is) w w') (fun a _=>M p.e-(intOf (gA a 10)).toNat) ⟨0,xc _,⟨⟨⟨Z,Z,Z,Z,Z,Z⟩,Z,Z⟩,Z⟩,H0.o,JX.refl _ _⟩ fun a w1 hL=>?_);obtain⟨i,hi,hf,V,r⟩:=hL;refine PW _ _ _ _ ?_;show NG prog ((uN f22).drop 0) _ a w1;have ad:M p.e-(intOf (gA a 10)).toNat=M p.e-i:=by rw[hf.s10];simp[intOf]
 rw[ad];clear ad;have e2:(ps.set k (p.eM t b i))[k]?=C (p.eM t b i):=xk ab;obtain⟨ve,gr,ons,hq⟩:=V.get k q _ h1 e2;have ac:=hq.len;rw[J.Pth.iR]at ac;obtain⟨ea,ec,c3⟩:=ac;obtain⟨zb,ae,_⟩:=hq.zt;have lz:=ae.lt;have d1:=(gD (i:=k) (r.block bl l1 n1)).trans c1;have d2:=(gD (i:=t*3) (r.block bt l2 n2)).trans c2;have an:=xF l1 r.size;have ao:=xF l2 r.size;have W:=MS V;have X:=MS r;have af:=MS d1;have ag:=MS d2;have ap:=MS c1;have aq:=MS c2;unfold gC at d1;have ah:=MS e2;have ai:=MS h1;clear V r hq ae c1 c2 H0 h1 e2;obtain⟨⟨⟨S,y,A,B,D,E⟩,F,N⟩,s⟩:=hf;rw[OQ S y];simp only[xR,List.range.loop,xW,x1,A,B,D,E,F,N,s];generalize gA a=f2;clear A B D E F N s S y;by_cases hlt:i<M p.e
 ·have am:(i:Int)<(M p.e:Int):=by omega
  refine MX 0 vQ Z fun K n=>?_
  conv=>arg 2;whnf
  go_wp2_with fail;refine n.o _ _ ?_;clear n;refine MX 1 vQ Z fun K n=>?_
  conv=>arg 2;whnf
  go_wp2_with fail;refine n.o _ _ ?_;clear n;refine MX 2 vQ Z fun K2 aj=>?_;rw[uN2];refine wp_block (PW _ _ _ _ (Vm ?_));show NG prog ((uD f22).drop 0) _ _ w1;refine Vl (fun c a d v w h=>hQ c a d v w h) W.o ai.o ah.o (by rw[J.Pth.iR];exact hlt) (by rw[J.Pth.iR];exact hn) hk ht af.o ag.o n1 n2 an ao ⟨⟨⟨Z,Z,Z,Z,Z,Z⟩,Z,Z⟩,Z⟩ fun a3 w3 f3 h3 x3=>?_;refine aj.o _ _ ?_;rw[List.set_set,J.Pth.nN _ _ _ _ hlt]at h3;have H3:=MS h3;have al:=MS (X.trans x3 fun _ _ e=>e);clear h3 x3;obtain⟨⟨⟨S,y,A,B,D,E⟩,F,N⟩,s⟩:=f3;rw[OQ S y];simp only[xR,List.range.loop,xW,x1,A,B,D,E,F,N,s];generalize gA a3=f3;clear A B D E F N s S y;refine MX 3 vQ Z fun K n=>?_
  conv=>arg 2;whnf
  go_wp2_with fail;refine n.o _ _ ?_;clear n;refine⟨⟨i+1,hlt,⟨⟨⟨Z,Z,Z,Z,Z,Z⟩,Z,Z⟩,Z⟩,H3.o,al.o⟩,?_⟩;show M p.e-((i:Int)+1).toNat<M p.e-i;omega
 ·have aa:i=M p.e:=by omega
  have am:¬(i:Int)<(M p.e:Int):=by omega
  have HE:MT (p.eM t b i=p.tag t b):=by unfold MT;rw[aa,J.Pth.oX]
  clear aa;refine MX 0 vQ Z fun K n=>?_
  conv=>arg 2;whnf
  go_wp2_with fail;refine n.o _ _ ?_;clear n;refine MX 1 vQ Z fun K _=>?_
  conv=>arg 2;whnf
  go_wp2_with fail;refine ak.o _ _ ?_;refine HN.o _ _ ⟨⟨Z,Z,Z,Z,Z,Z⟩,Z,Z⟩ (by rw[<- HE.o];exact W.o) X.o
def Vo{bl cl:Nat}{ps:List J.Pth}{Q:Exit->Act->World->Prop}(hQ:lG Q)(hp:PL w Is ps)(hn:∀p∈ps,M p.e<1000)(hm:M ps<100000)(ht:t<nt)(c1:∀(k:Nat) (q:Nat×Nat×Nat),Is[k]?=C q->T w ⟨bl,k,Y⟩=C (gC q))(c2:T w ⟨bt,t*3,Y⟩=C (O I b))(n1:¬iA bl Is)(n2:¬iA bt Is)(l1:bl<H (L w))(l2:bt<H (L w))(hf:O1 a (MU bt nt ct) tg g t)(E:gA a 8=MU bl (M ps) cl)(hN:∀a' w',O1 a' (MU bt nt ct) tg g t->gA a' 8=MU bl (M ps) cl->PL w' Is (ps.map fun p=>p.tag t b)->JX (fun x=>iA x Is) w w'->NG prog ((uB f22).drop 3) Q a' w'):
  NG prog ((uB f22).drop 1) Q a w:=by
 have ag:=hp.len;have H0:MT (PL w Is (J.gJ ps t b 0)):=by unfold MT;rw[J.nK];exact hp
 have HN:=MS hN;clear hN hp;obtain⟨F,s,y,A,B,D⟩:=hf;rw[OQ F s];simp only[xR,List.range.loop,xW,x1,y,A,B,D,E];generalize gA a=f;clear y A B D E F s;refine MX 1 AL Z (fun K n=>?_)
 conv=>arg 2;whnf
 go_wp2_with fail;refine n.o _ _ ?_;clear n;refine MX 2 AL Z (fun K8 ad=>?_);rw[uB2];refine wp_block (wp_loop (fun a w'=>∃k,k<=M ps/\O2 a (MU bt nt ct) tg g t (MU bl (M ps) cl) k/\PL w' Is (J.gJ ps t b k)/\JX (fun x=>iA x Is) w w') (fun a _=>M ps-(intOf (gA a 9)).toNat) ⟨0,xc _,⟨⟨Z,Z,Z,Z,Z,Z⟩,Z,Z⟩,H0.o,JX.refl _ _⟩ (fun a w1 hL=>?_));obtain⟨k,hk,hf,aa,ab⟩:=hL;refine PW _ _ _ _ ?_;show NG prog ((uM f22).drop 0) _ a w1;have X:M ps-(intOf (gA a 9)).toNat=M ps-k:=by rw[hf.s9];simp[intOf]
 rw[X];clear X H0;have S:=MS aa;have r:=MS ab;clear aa ab;obtain⟨⟨F,s,y,A,B,D⟩,E,N⟩:=hf;rw[OQ F s];simp only[xR,List.range.loop,xW,x1,y,A,B,D,E,N];generalize gA a=f2;clear y A B D E N F s;by_cases hlt:k<M ps
 ·have af:(k:Int)<(M ps:Int):=by omega
  have W:k<M Is:=by omega
  refine MX 0 xE Z (fun K n=>?_)
  conv=>arg 2;whnf
  go_wp2_with fail;refine n.o _ _ ?_;clear n;refine MX 1 xE Z (fun K n=>?_)
  conv=>arg 2;whnf
  go_wp2_with fail;refine n.o _ _ ?_;clear n;refine MX 2 xE Z (fun K2 ac=>?_);rw[uM2];refine wp_block (PW _ _ _ _ ?_);show NG prog ((uC f22).drop 0) _ _ w1;refine Vn (q:=Is[k]) (fun c a d v w h=>hQ c a d v w h) S.o (by simp[W]) (J.pQ ps t b k hlt) (hn _ (x5 hlt)) hlt ht ((gD (i:=k) (r.block bl l1 n1)).trans (c1 k _ (by simp[W]))) ((gD (i:=t*3) (r.block bt l2 n2)).trans c2) n1 n2 (xF l1 r.size) (xF l2 r.size) ⟨⟨Z,Z,Z,Z,Z,Z⟩,Z,Z⟩ (fun a3 w3 f3 h3 x3=>?_);refine ac.o _ _ ?_;rw[J.nR ps t b k hlt]at h3;have H3:=MS h3;have ae:=MS (r.trans x3 (fun _ _ e=>e));clear h3 x3;obtain⟨⟨F,s,y,A,B,D⟩,E,N⟩:=f3;rw[OQ F s];simp only[xR,List.range.loop,xW,x1,y,A,B,D,E,N];generalize gA a3=f3;clear y A B D E N F s;refine MX 3 xE Z (fun K n=>?_)
  conv=>arg 2;whnf
  go_wp2_with fail;refine n.o _ _ ?_;clear n;refine⟨⟨k+1,hlt,⟨⟨Z,Z,Z,Z,Z,Z⟩,Z,Z⟩,H3.o,ae.o⟩,?_⟩;show M ps-((k:Int)+1).toNat<M ps-k;omega
 ·have V:k=M ps:=by omega
  have af:¬(k:Int)<(M ps:Int):=by omega
  have HE:MT (J.gJ ps t b k=ps.map fun p=>p.tag t b):=by unfold MT;rw[V,J.pV]
  clear V;refine MX 0 xE Z (fun K n=>?_)
  conv=>arg 2;whnf
  go_wp2_with fail;refine n.o _ _ ?_;clear n;refine MX 1 xE Z (fun K _=>?_)
  conv=>arg 2;whnf
  go_wp2_with fail;refine ad.o _ _ ?_;exact HN.o _ _ ⟨Z,Z,Z,Z,Z,Z⟩ Z (by rw[<- HE.o];exact S.o) r.o
abbrev Str:=List (Nat×Nat×Nat)
def TL(w:World):List (Value×Str)->List (List J.Pth)->Prop
 |[],[]=>True
 |x::r,ps::pss=>(∃B,w.ownsRow B 114 1 x.1 (M ps) (x.2.map gC))/\PL w x.2 ps/\TL w r pss
 |_,_=>False
def InT(k:Nat)(Us:List (Value×Str)):Prop:=∃x∈Us,x.1.ownBlock=C k\/iA k x.2
def TL.len{w:World}:∀{c:List (Value×Str)} {pss:List (List J.Pth)},TL w c pss->M c=M pss
 |[],[],_=>Z
 |_::_,_::_,h=>by simp[TL.len h.2.2]
 |[],_::_,h=>h.elim
 |_::_,[],h=>h.elim
def TL.lt{w:World}{k:Nat}:∀{f:List (Value×Str)} {pss:List (List J.Pth)},TL w f pss->InT k f->k<H (L w)
 |[],[],_,⟨x,d,_⟩=>by simp at d
 |a::r,_::_,h,⟨x,d,c⟩=>by
  rcases List.mem_cons.1 d with rfl|d
  ·obtain⟨B,n⟩:=h.1
   rcases c with c|c
   ·exact(n.lt k c).2
   ·exact h.2.1.lt c
  ·exact TL.lt h.2.2 ⟨x,d,c⟩
 |[],_::_,h,_=>h.elim
 |_::_,[],h,_=>h.elim
def TL.keep{w w':World}(hs:H (L w)<=H (L w')):∀{c:List (Value×Str)} {pss:List (List J.Pth)},TL w c pss->(∀k,InT k c->w'.heap[k]?=w.heap[k]?)->TL w' c pss
 |[],[],_,_=>trivial
 |a::r,_::_,h,hk=>by
  obtain⟨⟨B,n⟩,d,f⟩:=h;exact⟨⟨B,bE n fun k e=>hk k ⟨a,by simp,x2 e⟩⟩,d.keep (fun k e=>hk k ⟨a,by simp,Or.inr e⟩) hs,TL.keep hs f fun k ⟨x,o,e⟩=>hk k ⟨x,List.mem_cons_of_mem _ o,e⟩⟩
 |[],_::_,h,_=>h.elim
 |_::_,[],h,_=>h.elim
def TL.aY{w:World}{u:Value}{Is:Str}{ps:List J.Pth}{B:Nat}(f:w.ownsRow B 114 1 u (M ps) (Is.map gC))(d:PL w Is ps):∀{c:List (Value×Str)} {pss:List (List J.Pth)},TL w c pss->TL w (c++[(u,Is)]) (pss++[ps])
 |[],[],_=>⟨⟨B,f⟩,d,trivial⟩
 |a::r,_::_,h=>⟨h.1,h.2.1,TL.aY f d h.2.2⟩
 |[],_::_,h=>h.elim
 |_::_,[],h=>h.elim
def TL.get{w:World}:∀{c:List (Value×Str)} {pss:List (List J.Pth)},TL w c pss->∀(t:Nat) (x:Value×Str) (ps:List J.Pth),c[t]?=C x->pss[t]?=C ps->(∃B,w.ownsRow B 114 1 x.1 (M ps) (x.2.map gC))/\PL w x.2 ps
 |[],[],_,t,x,ps,h,_=>by simp at h
 |a::r,b::_,h,t,x,ps,h1,h2=>by
  cases t with
  |zero=>simp at h1 h2;subst h1 h2;exact⟨h.1,h.2.1⟩
  |succ t=>exact TL.get h.2.2 t x ps (by simpa using h1) (by simpa using h2)
 |[],_::_,h,_,_,_,_,_=>h.elim
 |_::_,[],h,_,_,_,_,_=>h.elim
def OM:Value:=.slice Y 0 0
structure OI(w:World)(g:Nat)(tg:Bool)(pss:List (List J.Pth))(pv:Value)(Us:List (Value×Str))(w':World):Prop where
 g0:H (L w)<=g
 blk:Blk w' g (jw tg pv OM OM OM OM OM OM G) 109
 row:w'.ownsRow (g+1) 110 1 pv (M pss) (Us.map x7)
 tl:TL w' Us pss
 up:∀k,InT k Us->g<k
 no:∀b,pv.ownBlock=C b->¬InT b Us
 be:Below (H (L w)) w w'
def OI.next{o A wc w5:World}{g5 c5:Nat}{pss:List (List J.Pth)}{V:List (Value×Str)}{Is:Str}{ps:List J.Pth}(h:OI w g tg pss pv V o)(D:Below (H (L o)) o A)(hr:A.ownsRow (H (L o)) 114 1 v (M ps) (Is.map gC))(aa:∀q∈Is,H (L o)<=q.1)(ab:∀b,v.ownBlock=C b->¬iA b Is)(d:JX (fun x=>iA x Is) A wc)(hp:PL wc Is ps)(r:w5.ownsRow (g+1) 110 1 (MU g5 (M pss+1) c5) (M pss+1) (V.map x7++[v]))(y:(wc.alloc (.cells #[v] 110)).grownBy w5 pv.ownBlock)(F:pv.ownBlock=C g5\/g5=H (L wc)+1):
  OI w g tg (pss++[ps]) (MU g5 (M pss+1) c5) (V++[(v,Is)]) (w5.setCell ⟨g,1,Y⟩ (MU g5 (M pss+1) c5)):=by
 have s1:=D.size;have s2:=d.size;have E:Below (H (L wc)) wc (wc.alloc (.cells #[v] 110)):=(x8 _ _).alloc (x4 _) _;have sa:(wc.alloc (.cells #[v] 110)).heap.size=H (L wc)+1:=by simp
 have s3:=y.size;rw[sa]at s3;have lg:g<H (L o):=h.blk.lt;have N:∀b,pv.ownBlock=C b->g<b/\b<H (L o):=fun b K=>by have:=h.row.lt b K;omega
 have n:∀k,iA k Is->H (L o)<=k:=fun k ⟨q,q1,q2,_⟩=>Nat.le_trans (aa q q1) q2
 have S:∀b,v.ownBlock=C b->H (L o)<=b/\b<H (L A):=fun b K=>hr.lt b K
 have kb:∀k,k<H (L A)->¬iA k Is->pv.ownBlock≠C k->w5.heap[k]?=A.heap[k]?:=fun k s k2 k3 =>
  (y.block k (by omega) fun e=>k3 e.symm).trans ((E.block k (by omega)).trans (d.block k s k2))
 have kc:∀k,k<H (L wc)->pv.ownBlock≠C k->w5.heap[k]?=wc.heap[k]?:=fun k s k3=>(y.block k (by omega) fun e=>k3 e.symm).trans (E.block k s)
 have s:∀k,k<H (L o)->pv.ownBlock≠C k->w5.heap[k]?=o.heap[k]?:=fun k W X=>(kb k (by omega) fun e=>by have:=n k e;omega X).trans (D.block k W)
 have f:∀k,k≠g->(w5.setCell ⟨g,1,Y⟩ (MU g5 (M pss+1) c5)).heap[k]?=w5.heap[k]?:=fun k c=>xb _ _ _ _ c
 refine⟨h.g0,?_,?_,?_,?_,?_,?_⟩
 ·have:=(h.blk.keep (s g lg fun e=>by have:=N g e;omega)).set 1 (MU g5 (M pss+1) c5);exact this
 ·rw[List.length_append,List.map_append];exact ownsRow_setCell_other r fun e=>by have:=(r.lt g e).1;omega _
 ·refine TL.aY (B:=H (L o)) ?_ ?_ (TL.keep (by simp;omega) h.tl fun k c=>?_)
  ·refine bE hr fun k e=>?_;have:=S k e;rw[f k (by omega),kb k this.2 (ab k e) fun e=>by have:=N k e;omega]
  ·refine hp.keep (fun k e=>?_) (by simp;omega);have:=n k e;rw[f k (by omega),kc k (hp.lt e) fun e=>by have:=N k e;omega]
  ·have a1:=h.up k c;have a2:=h.tl.lt c;rw[f k (by omega),s k a2 fun e=>h.no k e c]
 ·rintro k ⟨x,d,c⟩
  rcases List.mem_append.1 d with d|d
  ·exact h.up k ⟨x,d,c⟩
  ·simp at d;subst d
   rcases c with c|c
   ·have:=S k c;omega
   ·have:=n k c;omega
 ·intro b K;have e0:g5=b:=Option.some.inj K;subst e0;rintro⟨x,d,c⟩
  rcases List.mem_append.1 d with d|d
  ·rcases F with e|e
   ·exact h.no _ e ⟨x,d,c⟩
   ·have:=h.tl.lt ⟨x,d,c⟩;omega
  ·simp at d;subst d
   rcases F with e|e
   ·have:=N _ e
    rcases c with c|c
    ·have:=S _ c;omega
    ·have:=n _ c;omega
   ·rcases c with c|c
    ·have:=S _ c;omega
    ·have:=hp.lt c;omega
 ·have s0:=h.be.size;have g0:=h.g0;refine⟨?_,?_,?_,by simp;omega,fun k c=>?_⟩
  ·exact(y.os.trans (E.os.trans (d.os.trans D.os))).trans h.be.os
  ·exact(y.tape.trans (E.tape.trans (d.tape.trans D.tape))).trans h.be.tape
  ·exact(y.output.trans (E.output.trans (d.output.trans D.output))).trans h.be.output
  ·rw[f k (by omega),s k (by omega) fun e=>by have:=N k e;omega];exact h.be.block k c
namespace J
def pths(th:R.Th)(j:Nat):List Pth:=(paths th.body 4 []).map fun p=>p.tag (j:Int) th.block
def pss(ts:List R.Th):List (List Pth):=ts.mapIdx fun j th=>pths th j
def pss_len(ts:List R.Th):(pss ts).length=M ts:=by simp[pss]
def pM(ts:List R.Th)(t:Nat)(h:t<M ts):(pss ts).take (t+1)=(pss ts).take t++[pths ts[t] t]:=by
 rw[List.take_succ_eq_append_getElem (by rw[pss_len];exact h)];simp[pss]
def paths_len(l:List Tree)(d:fitL l)(hs:(OA l).toNat<30):∀(n:Nat) (r:List Int),(∀v∈r,0<=v/\v<4)->n+M r<1000->∀p∈paths l n r,M p.e<=58/\M p.g=4
 |0,r,hr,hn,p,c=>by
  simp[paths]at c;subst c;have:=eV l _ 0 (dN hr (by omega)) d;exact⟨by have:=this.e;simp only[PS.jB];omega,this.rl⟩
 |n+1,r,hr,hn,p,c=>by
  unfold paths at c
  split at c
  ·obtain⟨v,f,c⟩:=List.mem_flatMap.1 c;have o:=List.mem_range.1 f;exact paths_len l d hs n (r++[(v:Int)]) (fun x q=>(List.mem_append.1 q).elim (hr x) fun e=>by simp at e;omega) (by simp;omega) p c
  ·simp at c;subst c;have:=eV l _ 0 (dN hr (by omega)) d;exact⟨by have:=this.e;simp only[PS.jB];omega,this.rl⟩
structure ThOk(th:R.Th):Prop where
 fit:fitL th.body
 sz:(OA th.body).toNat<30
 rd:NL isRd th.body<=4
 s8:(OA th.body).toNat<=8
end J
structure ThW(w:World)(B0 bt:Nat)(ts:List R.Th):Prop where
 lt:bt<H (L w)
 n:M ts<=4
 at_:∀(t:Nat) (h:t<M ts),J.ThOk ts[t]/\∃u F,T w ⟨bt,t*3,Y⟩=C (O I ts[t].block)/\T w ⟨bt,t*3+1,Y⟩=C u/\NZ w B0 u ts[t].body F
def Tryz.infoPs:(prog.info? 110).map (fun i=>(i.zero,i.size,i.bytes))=C (C (.slice Y 0 0),1,24):=by kernel_rfl
def Vp{w0:World}{B0:Nat}{R0:Ending->World->Prop}(hT:ThW w B0 bt ts)(hO:OI w g tg [] OM [] w0)(hf:O1 a (MU bt (M ts) ct) tg g 0)(hN:∀a' w' pv W,O1 a' (MU bt (M ts) ct) tg g (M ts)->OI w g tg (J.pss ts) pv W w'->NG prog ((uF f22).drop 4) (bodyPost prog f22 R0) a' w'):
  NG prog ((uF f22).drop 3) (bodyPost prog f22 R0) a w0:=by
 obtain⟨i0,hi,aE,aF,aG⟩:=RW Tryz.infoPs;have HN:=MS hN;have aL:=hT.n;have HT:=MS hT;clear hN hT;refine MX 3 SH Z fun K8 au=>?_;rw[uF3];refine wp_block (wp_loop (fun a w'=>∃t pv W,t<=M ts/\O1 a (MU bt (M ts) ct) tg g t/\OI w g tg ((J.pss ts).take t) pv W w') (fun a _=>M ts-(intOf (gA a 7)).toNat) ⟨0,OM,[],xc _,hf,by simpa using hO⟩ fun a w1 hL=>?_);clear hf hO;obtain⟨t,pv,W,ht,hf,hO⟩:=hL;refine PW _ _ _ _ ?_;show NG prog ((uL f22).drop 0) _ a w1;have an:M ts-(intOf (gA a 7)).toNat=M ts-t:=by rw[hf.s7];simp[intOf]
 rw[an];clear an;have HO:=MS hO;clear hO;obtain⟨sz,df,s0,s1,s6,s7⟩:=hf;rw[OQ sz df];simp only[xR,List.range.loop,xW,x1,s0,s1,s6,s7];generalize gA a=f;clear s0 s1 s6 s7 sz df;by_cases hlt:t<M ts
 ·have aC:(t:Int)<(M ts:Int):=by omega
  obtain⟨x,u,F,D,q2,q3⟩:=HT.at_ t hlt;have S:=HT.lt;have A:=HO.be;have aA:=MS (J.pM ts t hlt);have ao:((J.pss ts).take t).length=t:=by rw[List.length_take,J.pss_len];omega
  have az:=MS ((A.cell (p:=⟨bt,t*3,Y⟩) S).trans D);have aq:=MS (Vi q3 x.fit x.sz bt (t*3) 4 [] w1 (.slice Y 0 0) (fun k hk=>A.block k (q3.fV k hk).2) ((A.cell (p:=⟨bt,t*3+1,Y⟩) S).trans q2) (xF S A.size) (x2 ⟨Z,_,_,Z⟩) (OP.nil _ _) (by simp) (by have:=x.rd;simp;omega) (by simp));have ay:MT (∀p∈J.paths ts[t].body 4 [],M p.e<1000):=fun p hp=>by have:=(J.paths_len _ x.fit x.sz 4 [] (by simp) (by simp) p hp).1;omega
  have ae:MT (0<(J.paths ts[t].body 4 []).length/\(J.paths ts[t].body 4 []).length<100000):=⟨J.paths_pos _ _ _,by have:=J.paths_le ts[t].body 4 [];omega⟩;have ad:MT (J.pths ts[t] t=(J.paths ts[t].body 4 []).map fun p=>p.tag (t:Int) ts[t].block):=Z;clear D q2 q3 x;generalize J.paths ts[t].body 4 []=ps at*;generalize ts[t].block=bk at*;generalize J.pths ts[t] t=aH at*;have ap:bt<H (L w1):=xF S A.size;refine MX 0 xT Z fun K r=>?_
  conv=>arg 2;whnf
  go_wp2_with fail;refine r.o _ _ ?_;clear r;refine MX 1 xT Z fun K r=>?_
  conv=>arg 2;whnf
  go_wp2_with fail;refine r.o _ _ ?_;clear r;refine MX 2 xT Z fun K2 ar=>?_;rw[uL2];refine wp_block (PW _ _ _ _ ?_);show NG prog ((uB f22).drop 0) _ _ w1;refine MX 0 AL Z fun K r=>?_
  conv=>arg 2;whnf
  go_wp2_with(first|(go_at_call 39;refine aq.mono ?_;rintro e wb ⟨v,Is,rfl,p1,p2,p3,p4,p5⟩;have ac:=MS p1;have ax:=MS p2;have N:=MS p3;have aj:=MS p4;have s:=MS p5;clear p1 p2 p3 p4 p5));refine r.o _ _ ?_;clear r;obtain⟨bl,cl,rfl,ak⟩:∃bl cl,v=MU bl (M ps) cl/\∀j u,(Is.map gC)[j]?=C u->T wb ⟨bl,j,Y⟩=C u:=by
   rcases SlC.own ac.o ae.1 with⟨_,e2,_⟩|⟨b,aB,e1,e2,_⟩
   ·have:=ae.1;omega
   ·exact⟨b,aB,e1,e2⟩
  have n2:¬iA bt Is:=fun⟨q,D,q2,_⟩=>by have:=N.o q D;omega
  refine Vo (b:=bk) (Is:=Is) (fun _ _ d _ _ h=>by cases d<;>exact h) ax.o ay.o ae.2 hlt (fun k q hq=>ak k _ (by simp[hq])) ((s.cell (p:=⟨bt,t*3,Y⟩) ap).trans az.o) (aj.o bl Z) n2 (ac.lt bl Z).2 (xF ap s.size) ⟨Z,Z,Z,Z,Z,Z⟩ Z fun a3 y f3 g3 h3 x3=>?_;rw[<- ad.o]at h3;have al:M aH=M ps:=by rw[ad.o];simp
  have aw:MT (∀(E c5:Nat) (V:World),V.ownsRow (g+1) 110 1 (MU E (t+1) c5) (t+1) (W.map x7++[MU bl (M ps) cl])->(y.alloc (.cells #[MU bl (M ps) cl] 110)).grownBy V pv.ownBlock->pv.ownBlock=C E\/E=H (L y)+1->OI w g tg ((J.pss ts).take (t+1)) (MU E (t+1) c5) (W++[(MU bl (M ps) cl,Is)]) (V.setCell ⟨g,1,Y⟩ (MU E (t+1) c5))):=fun E c5 V D q2 q3=>by
   have hr:=ac.o;rw[<- al]at hr D q2⊢;have:=OI.next (g5:=E) (c5:=c5) (w5:=V) HO.o s.o hr N.o aj.o x3 h3;rw[ao,<- aA.o]at this;exact this D q2 q3
  have af:MT ((y.alloc (.cells #[MU bl (M ps) cl] 110)).ownsRow (g+1) 110 1 pv t (W.map x7)):=by
   have hr:=HO.row;rw[ao]at hr;refine RO (w:=y) (bE (w:=wb) (RO hr s.o) fun k e=>?_) ((x8 _ _).alloc (x4 _) _);have kl:=hr.lt k e;exact x3.block k (xF kl.2 s.size) fun⟨q,D,q2,_⟩=>by have:=N.o q D;omega
  have lg:=HO.blk.lt;have ab:MT (Blk y g (jw tg pv OM OM OM OM OM OM G) 109):=(HO.blk.X s.o).keep (x3.block g (xF lg s.size) fun⟨q,D,q2,_⟩=>by have:=N.o q D;omega);have cg:=ab.cell (i:=1) (v:=pv) Z;have fg:=ab.free 1;have ag:=ab.lt;have aK:g+1<=H (L y)+1:=by omega
  obtain⟨oa,oc,rfl⟩:=RL af.o;have ai:MT (∀b,Value.ownBlock (.slice oa t oc)=C b->b≠g):=fun b hb e=>by have:=(af.lt b hb).1;omega
  have ah:MT (Below (H (L y)) y (y.alloc (.cells #[MU bl (M ps) cl] 110))):=(x8 _ _).alloc (x4 _) _;obtain⟨sz,df,s0,s1,s6,s7⟩:=f3;clear ak n2 h3 x3 al ad;rw[OQ sz df];simp only[xR,List.range.loop,xW,x1,s0,s1,s6,s7,g3];generalize gA a3=f3;clear s0 s1 s6 s7 sz df g3;refine MX 3 AL Z fun K r=>?_
  conv=>arg 2;whnf
  go_wp2_with(first|(at_builtin;refine wpList_append_lies _ Z (.tmp 73) (.tmp 75) 106 Z (g+1) 110 i0 (.slice Y 0 0) 1 24 underlying106 hi aE aF aG Z (by decide) _ t (W.map x7) Z af.o ⟨H (L y),0,Y⟩ 1 1 [MU bl (M ps) cl] Z Z (fun j u hu=>by rw[RK,Nat.zero_add];exact(Blk.new y [MU bl (M ps) cl] 110).cell hu) (by simp;rfl) (by decide) (by unfold maxLen;omega) (by omega) (by simp;omega) (H (L y)+1) (by simp) ?_;intro E c5 V B c aa am;have av:=MS (aw.o E c5 V B c aa);have aI:=(c.cell_far ⟨g,1,Y⟩ (by simp;omega) fun e=>ai.o g e.symm Z).trans ((ah.cell (p:=⟨g,1,Y⟩) ag).trans cg);have aJ:=(c.frozen_far ⟨g,1,Y⟩ (by simp;omega) fun e=>ai.o g e.symm Z).trans ((ah.frozen (p:=⟨g,1,Y⟩) ag).trans fg);have aM:g<H (L V):=(by have:=c.size;simp at this;omega);clear B c aa am));refine r.o _ _ ?_;clear r;clear cg fg ag;refine MX 4 AL Z fun K r=>?_
  conv=>arg 2;whnf
  go_wp2_with fail;refine r.o _ _ ?_;clear r;refine ar.o _ _ ?_;refine MX 3 xT Z fun K r=>?_
  conv=>arg 2;whnf
  go_wp2_with fail;refine r.o _ _ ?_;clear r;refine⟨⟨t+1,_,_,hlt,⟨Z,Z,Z,Z,Z,Z⟩,av.o⟩,?_⟩;show M ts-((t:Int)+1).toNat<M ts-t;omega
 ·have aD:t=M ts:=by omega
  have aC:¬(t:Int)<(M ts:Int):=by omega
  have HE:MT ((J.pss ts).take t=J.pss ts):=by unfold MT;rw[List.take_of_length_le (by rw[J.pss_len];omega)]
  rw[HE.o]at HO;subst aD;refine MX 0 xT Z fun K r=>?_
  conv=>arg 2;whnf
  go_wp2_with fail;refine r.o _ _ ?_;clear r;refine MX 1 xT Z fun K _=>?_
  conv=>arg 2;whnf
  go_wp2_with fail;refine au.o _ _ ?_;exact HN.o _ _ _ _ ⟨Z,Z,Z,Z,Z,Z⟩ HO.o
def PQ.pat(h:PQ w lo hi z p ve gr ons)(o:g<lo):PAt w g z p:=by
 obtain⟨s,c,d,f⟩:=h.zt;have z0:=h.z0;have r:=h.r0;refine⟨c.lt,by omega,⟨ve,ons,c.cell d,⟨?_,h.ol,fun i hi=>(h.on i hi).of (fun x _ e=>by rw[e];exact x2 o)⟩,fun e=>by have:=(h.eo.lt g e).1;omega⟩,⟨_,c.cell f,?_,fun e=>by have n:gr=g:=Option.some.inj e;omega⟩⟩
 ·rcases Nat.eq_zero_or_pos (M p.e)with e|e
  ·refine x2 ⟨h.e0 e,e,?_⟩;have:=h.eo.1;rw[e,Nat.zero_mul]at this;exact List.eq_nil_of_length_eq_zero this
  ·exact SlC.own h.eo e
 ·rw[h.rl];exact Or.inr ⟨gr,4,Z,fun j u q=>h.rb.cell q,h.rb.lt,x4 _,by simp[NT,h.rl],by omega⟩
def OI.ps{pss:List (List J.Pth)}{c:List (Value×Str)}(h:OI w g tg pss pv c w')(S:0<M pss)(q:∀ps∈pss,0<M ps):SN w' g pv pss:=by
 rcases SlC.own h.row S with⟨_,e,_⟩|⟨b,s,e1,e2,e3,_⟩
 ·omega
 have W:=(h.row.lt b (by rw[e1];rfl)).1;refine⟨b,s,e1,e3,by omega,fun t ps y=>?_⟩;have n:t<M c:=by rw[h.tl.len];exact(List.getElem?_eq_some_iff.1 y).1
 have N:c[t]?=C c[t]:=by simp[n]
 obtain⟨⟨B,V⟩,E⟩:=h.tl.get t c[t] ps N y;refine⟨c[t].1,e2 t _ (by simp[n]),?_⟩;have x:=q ps (xj y)
 rcases SlC.own V x with⟨_,e,_⟩|⟨A,o,D,K,f3,_⟩
 ·omega
 have f:∀k,c[t].1.ownBlock=C k\/iA k c[t].2->g<k:=fun k r=>h.up k ⟨c[t],x5 n,r⟩
 refine⟨A,o,D,f3,by have:=f A (x2 (by rw[D];rfl));omega,fun k p r=>?_⟩;have d:k<c[t].2.length:=by rw[E.len];exact(List.getElem?_eq_some_iff.1 r).1
 obtain⟨ve,gr,ons,q⟩:=E.get k c[t].2[k] p (by simp[d]) r;refine⟨c[t].2[k].2.2,K k _ (by simp[d,gC]),q.pat ?_⟩;have z0:=q.z0;have F:=q.z1;have X:=f c[t].2[k].2.2 (Or.inr ⟨_,x5 d,z0,F⟩)
 rcases Nat.lt_or_ge g c[t].2[k].1 with e|e
 ·exact e
 ·have:=f g (Or.inr ⟨_,x5 d,e,by omega⟩);omega
namespace J
def fw(v:Int):E:=⟨-1, -1,⟨#[119]⟩,v,0,⟨#[119,101,97,107]⟩,⟨#[]⟩,G,0,[]⟩
def fws(n:Nat):List E:=(xR n).map fun(v:Nat)=>fw (v:Int)
def fws_snoc(n:Nat):fws (n+1)=fws n++[fw (n:Int)]:=by simp[fws,List.range_succ]
def fws_len(n:Nat):(fws n).length=n:=by simp[fws]
def W0:Wd:=⟨fws 3,[],[]⟩
end J
def SN.x{pss:List (List J.Pth)}(h:SN w g v pss)(c:JX (fun k=>k=g) w w'):SN w' g v pss:=by
 have cl:∀b i,b<H (L w)->b≠g->T w' ⟨b,i,Y⟩=T w ⟨b,i,Y⟩:=fun b i n o=>gD (c.block b n o)
 obtain⟨b,f,e1,e2,e3,n⟩:=h;refine⟨b,f,e1,xF e2 c.size,e3,fun t ps K=>?_⟩;obtain⟨u,X,y,d,E,A,f3,o⟩:=n t ps K;refine⟨u,(cl b t e2 e3).trans X,y,d,E,xF A c.size,f3,fun k p F=>?_⟩;obtain⟨z,z1,⟨r,s,⟨ve,ons,N,S,B⟩,⟨vr,V,W,D⟩⟩⟩:=o k p F;refine⟨z,(cl y k A f3).trans z1,⟨xF r c.size,s,⟨ve,ons,(cl z 0 r s).trans N,S.x c (fun b q e=>B (by rw[<- e];exact q)) fun _ _ e=>e,B⟩,⟨vr,(cl z 1 r s).trans V,W.x c fun b q e=>D (by rw[<- e];exact q),D⟩⟩⟩
namespace J
structure Evs(n:Nat)(s:PS):Prop where
 val:∀e∈s.e,0<=e.val/\e.val<4
 on:∀e∈s.e,M e.on<=2^n+1/\∀x∈e.on,0<=x/\x<(M s.e:Int)
 hg:∀i,∀x∈s.hang.getD i [],0<=x/\x<(M s.e:Int)
 wy:∀x∈s.way,0<=x/\x<(M s.e:Int)
 st:∀i,i<M s.e->isStep (ev s.e i)=U->i+1<M s.e/\(ev s.e (i+1)).loc=(ev s.e i).loc
section
variable {n:Nat}{s:PS}{x:R.Lh}
def Evs.up(h:Evs n s):Evs (n+1) s:=by
 have:=wX n;have:=KX n;exact⟨h.val,fun e c=>⟨by have:=(h.on e c).1;omega,(h.on e c).2⟩,h.hg,h.wy,h.st⟩
def Evs.aH(h:Evs n s)(a:Int):∀x∈s.aH a,0<=x/\x<(M s.e:Int):=by
 unfold PS.aH
 split
 ·exact h.hg _
 ·simp
def Evs.put(h:Evs n s)(D:∀e∈l,0<=e.val/\e.val<4)(B:∀e∈l,M e.on<=2^(n+1)+1/\∀x∈e.on,0<=x/\x<((M s.e+M l:Nat):Int))(hs:∀i,i<M l->isStep (ev l i)=U->i+1<M l/\(ev l (i+1)).loc=(ev l i).loc):Evs (n+1) (s.put l):=by
 have A:=h.up;have lt:∀{x:Int},0<=x/\x<(M s.e:Int)->0<=x/\x<((M s.e+M l:Nat):Int):=fun k=>⟨k.1,by omega⟩
 have y:(s.put l).e.length=M s.e+M l:=by simp[PS.put]
 refine⟨fun e f=>(List.mem_append.1 f).elim (h.val e) (D e),fun e f=>?_,fun i x r=>by rw[y];exact lt (h.hg i x r),fun x r=>by rw[y];exact lt (h.wy x r),fun i hi d=>?_⟩
 ·rw[y]
  rcases List.mem_append.1 f with f|f
  ·exact⟨(A.on e f).1,fun x r=>lt ((A.on e f).2 x r)⟩
  ·exact B e f
 ·rw[y]at hi⊢;simp only[PS.put]at d⊢;have o:∀{j:Nat},j<M s.e->ev (s.e++l) j=ev s.e j:=fun c=>by unfold ev;simp[xd c]
  have q:∀{j:Nat},M s.e<=j->ev (s.e++l) j=ev l (j-M s.e):=fun c=>by unfold ev;simp[xe c]
  by_cases c:i<M s.e
  ·rw[o c]at d⊢;have:=h.st i c d;rw[o this.1];exact⟨by omega,this.2⟩
  ·rw[q (by omega)]at d⊢;have:=hs _ (by omega) d;rw[q (by omega),show i+1-M s.e=i-M s.e+1 by omega];exact⟨by omega,this.2⟩
def Evs.aJ(h:Evs n s){r v:Int}{l:List Int}(c:∀x∈l,0<=x/\x<(M s.e:Int)):Evs n (s.aJ r v l):=by
 refine⟨h.val,h.on,fun i=>?_,h.wy,h.st⟩;simp only[PS.aJ];rw[DQ];split
 ·exact c
 ·exact h.hg i
def Evs.take(h:Evs n s):Evs n s.take:=⟨h.val,h.on,h.hg,h.wy,h.st⟩
def Evs.bY(h:Evs n s):Evs (n+1) (s.bY x):=
 have c:=h.up
 ⟨c.val,c.on,c.hg,fun y d=>(List.mem_append.1 d).elim (c.wy y) (c.aH x.a y),c.st⟩
def KV(h:isStep e=G):∀i,i<[e].length->isStep (ev [e] i)=U->i+1<[e].length/\(ev [e] (i+1)).loc=(ev [e] i).loc:=fun i hi hs=>by
 have:i=0:=by simp at hi;omega
 subst this;rw[show ev [e] 0=e from rfl,h]at hs;cases hs
def LY{f:E}(h:isStep f=G)(c:f.loc=e.loc):∀i,i<[e,f].length->isStep (ev [e,f] i)=U->i+1<[e,f].length/\(ev [e,f] (i+1)).loc=(ev [e,f] i).loc:=fun i hi hs=>by
 have:i=0\/i=1:=by simp at hi;omega
 rcases this with rfl|rfl
 ·exact⟨by simp,c⟩
 ·rw[show ev [e,f] 1=f from rfl,h]at hs;cases hs
def Evs.step(h:Evs n s)(r:Bnd n s)(K:Fit x):Evs (n+1) (s.step x):=by
 have p:=wX n;have F:=r.head;have W:=r.aH x.a;have X:=r.wy;have N:=r.val K.a0 K.a1;have o1:=KX n;have B:=h.aH x.a;have E:=h.aH x.b;have d:∀{m:Nat} {y:Int},0<=y/\y<(M s.e:Int)->0<=y/\y<((M s.e+m:Nat):Int):=fun k=>⟨k.1,by omega⟩
 have J:M s.way<=2^(n+1)+1:=by omega
 have q:∀{m:Nat},0<m->0<=(M s.e:Int)/\(M s.e:Int)<((M s.e+m:Nat):Int):=fun V=>by omega
 have o:∀y∈s.aH x.a++s.way,0<=y/\y<(M s.e:Int):=fun y c=>(List.mem_append.1 c).elim (B y) (h.wy y)
 unfold PS.step
 split
 ·refine(h.take.put (l:=[rE x (s.D.headD 0) G s.way]) ?_ ?_ ?_).aJ ?_
  ·simp only[x6];rintro e rfl;exact F
  ·simp only[x6];rintro e rfl;exact⟨J,fun y c=>d (h.wy y c)⟩
  ·exact KV (by simp[isStep,rE])
  ·simp only[x6];rintro y rfl;simp[PS.put,PS.take];omega
 split
 ·refine(h.take.put (l:=[rE x (s.D.headD 0) U s.way,wE x ((s.val x.a+s.D.headD 0)%4) U (s.aH x.a++s.way++[(M s.e:Int)])]) ?_ ?_ ?_).aJ ?_
  ·simp only[x9,xa,or_false];rintro e (rfl|rfl)
   ·exact F
   ·exact⟨Int.emod_nonneg _ (by decide),Int.emod_lt_of_pos _ (by decide)⟩
  ·simp only[x9,xa,or_false];rintro e (rfl|rfl)
   ·exact⟨J,fun y c=>d (h.wy y c)⟩
   ·refine⟨by simp[wE];omega,fun y c=>?_⟩
    rcases List.mem_append.1 c with c|c
    ·exact d (o y c)
    ·simp at c;subst c;exact q (by simp)
  ·exact LY (by simp[isStep,wE,kR]) Z
  ·simp only[x6];rintro y rfl;simp[PS.put,PS.take];omega
 split
 ·refine(h.take.put (l:=[rE x (s.D.headD 0) U s.way,wE x (s.val x.a) U (s.aH x.a++s.way)]) ?_ ?_ ?_).aJ ?_
  ·simp only[x9,xa,or_false];rintro e (rfl|rfl)
   ·exact F
   ·exact N
  ·simp only[x9,xa,or_false];rintro e (rfl|rfl)
   ·exact⟨J,fun y c=>d (h.wy y c)⟩
   ·exact⟨by simp[wE];omega,fun y c=>d (o y c)⟩
  ·exact LY (by simp[isStep,wE,kR]) Z
  ·simp only[x6];rintro y rfl;simp[PS.put,PS.take];omega
 split
 ·refine h.put ?_ ?_ (KV (by simp[isStep,wE]))
  ·simp[wE];exact N
  ·simp only[x6];rintro e rfl;exact⟨by simp[wE];omega,fun y c=>d (o y c)⟩
 split
 ·refine h.put ?_ ?_ (KV (by simp[isStep,fE]))
  ·simp[fE]
  ·simp[fE]
 split
 ·have:=h.put (l:=[aE s.round,lE s.round]) (by simp[aE,lE]) (by simp[aE,lE]) (LY (by simp[isStep,lE]) Z);exact⟨this.val,this.on,this.hg,this.wy,this.st⟩
 split
 ·have f:∀v l,(∀y∈l,0<=y/\y<(M s.e:Int))->Evs (n+1) (s.aJ x.MW v l):=fun v l S=>h.up.aJ S
  have A:∀y∈s.aH x.a++s.aH x.b,0<=y/\y<(M s.e:Int):=fun y c=>(List.mem_append.1 c).elim (B y) (E y)
  unfold PS.set
  split
  ·exact f _ _ A
  split
  ·exact f _ _ A
  split
  ·exact f _ _ A
  split
  ·exact f _ _ B
  ·exact f _ _ A
 ·exact h.up
def Evs.mono(h:Evs n s)(c:n<=m):Evs m s:=by
 induction c with
 |refl=>exact h
 |step _ ih=>exact ih.up
end
def Vq(l:List Tree):∀(s:PS) (n:Nat),Evs n s->Bnd n s->fitL l->Evs (n+(OA l).toNat) (doL s l):=by
 induction l using NL.induct with
 |case1=>intro s n h _ _;rw[bH];exact h.mono (by omega)
 |case2 x b r h1 h2 =>
  intro s n h d c;have o:=c;rw[tU]at c;have A:=(gK (fun _=>U) b).1;have B:=(gK (fun _=>U) r).1;have e:OA (⟨x,b⟩::r)=1+OA b+OA r:=by unfold OA;rw[jA];simp[iM]
  rw[lL,e];have f:Evs (n+(1+(OA b).toNat)) (dX s ⟨x,b⟩)/\Bnd (n+(1+(OA b).toNat)) (dX s ⟨x,b⟩):=by
   unfold dX
   split
   ·split
    ·exact⟨h.bY.mono (by omega),d.bY.mono (by omega)⟩
    ·have q:=h1 (s.bY x) (n+1) h.bY d.bY c.1.2;have y:=eV b (s.bY x) (n+1) d.bY c.1.2;exact⟨q.mono (by omega),y.mono (by omega)⟩
   ·exact⟨(h.step d c.1.1).mono (by omega),(d.step c.1.1).mono (by omega)⟩
  refine(h2 _ _ f.1 f.2 c.2).mono ?_;unfold OA at*;omega
def Vr(r:List Int):Evs 0 (PS.aL r):=by
 refine⟨by simp[PS.aL],by simp[PS.aL],fun i=>?_,by simp[PS.aL],by simp[PS.aL]⟩
 match i with
 |0=>simp[PS.aL]
 |1=>simp[PS.aL]
 |2=>simp[PS.aL]
 |3=>simp[PS.aL]
 |i+4=>simp[PS.aL]
def Ds(l:List Tree):∀(n:Nat) (r:List Int),(∀v∈r,0<=v/\v<4)->∀p∈paths l n r,∃d,(∀v∈d,0<=v/\v<4)/\M d<=n+M r/\p=(doL (PS.aL d) l).jB
 |0,r,hr,p,c=>by
  simp[paths]at c;exact⟨r,hr,by omega,c⟩
 |n+1,r,hr,p,c=>by
  unfold paths at c
  split at c
  ·obtain⟨v,s,c⟩:=List.mem_flatMap.1 c;have y:=List.mem_range.1 s;obtain⟨d,f,o,q⟩:=Ds l n (r++[(v:Int)]) (fun x A=>(List.mem_append.1 A).elim (hr x) fun e=>by simp at e;omega) p c;exact⟨d,f,by simp at o;omega,q⟩
  ·simp at c;exact⟨r,hr,by omega,c⟩
end J
namespace J
structure WI(j:Nat)(W:Wd):Prop where
 e3:3<=M W.es
 en:M W.es<=3+16*j
 bl:M W.base=j
 rn:M W.g=4*j
 rng:∀x∈W.g,0<=x/\x<4
 vals:∀e∈W.es,0<=e.val/\e.val<4
 half:∀i,i<M W.es->isStep (ev W.es i)=U->i+1<M W.es/\(ev W.es (i+1)).loc=(ev W.es i).loc/\(ev W.es (i+1)).t=(ev W.es i).t
 onk:∀i,3<=i->i<M W.es->OnOk W.es W.base i
structure PI(j:Nat)(p:Pth):Prop where
 e:M p.e<=16
 r:M p.g=4
 rng:∀x∈p.g,0<=x/\x<4
 vals:∀e∈p.e,0<=e.val/\e.val<4
 half:∀i,i<M p.e->isStep (ev p.e i)=U->i+1<M p.e/\(ev p.e (i+1)).loc=(ev p.e i).loc
 t:∀e∈p.e,e.t=(j:Int)
 on:∀e∈p.e,M e.on<1000/\∀x∈e.on,0<=x/\x<(M p.e:Int)
def Dt{th:R.Th}(h:ThOk th){p:Pth}(F:p∈pths th j):PI j p:=by
 obtain⟨q,K,rfl⟩:=List.mem_map.1 F;obtain⟨B,D,E,rfl⟩:=Ds th.body 4 [] (by simp) q K;have n:M B<1000:=by simp at E;omega
 have y:=eV th.body _ 0 (dN D n) h.fit;have A:=Vq th.body _ 0 (Vr B) (dN D n) h.fit;have hs:=h.s8;have J:2^(0+(OA th.body).toNat)<=2^8:=Nat.pow_le_pow_right (by omega) (by omega);generalize doL (PS.aL B) th.body=s at*;refine⟨?_,y.rl,fun x c=>?_,fun e c=>?_,fun i hi d=>?_,fun e c=>?_,fun e c=>?_⟩
 ·have:=y.e;simp only[Pth.tag,PS.jB,xg];omega
 ·obtain⟨i,hi,rfl⟩:=List.mem_iff_getElem.1 c;have:=y.rg i;simp only[Pth.tag,PS.jB]at hi⊢;rw[xh,List.getElem?_eq_getElem hi]at this;exact this
 ·obtain⟨f,o,rfl⟩:=List.mem_map.1 c;exact A.val f o
 ·simp only[Pth.tag,PS.jB,xg]at hi d⊢;have e1:∀{i:Nat},i<M s.e->ev (s.e.map fun e=>(e.bF (j:Int)).bM th.block) i=((ev s.e i).bF (j:Int)).bM th.block:=fun hi=>by
   unfold ev;simp[hi]
  rw[e1 hi]at d⊢;have:=A.st i hi d;rw[e1 this.1];exact this
 ·obtain⟨f,o,rfl⟩:=List.mem_map.1 c;rfl
 ·obtain⟨f,o,rfl⟩:=List.mem_map.1 c;have:=A.on f o;refine⟨by show M f.on<1000;omega,fun x c=>?_⟩;simp only[Pth.tag,PS.jB,xg];exact this.2 x c
def tM(h:i<M es):ev es i∈es:=by rw[J.eJ h];exact x5 h
def vX(h:i<M es):ev (es++l) i=ev es i:=by unfold ev;simp[xd h]
def vT(h:M es<=i):ev (es++l) i=ev l (i-M es):=by unfold ev;simp[xe h]
def WI.add{W:Wd}{p:Pth}(h:WI j W)(f:PI j p):WI (j+1) (W.add p):=by
 have q:(W.add p).es.length=M W.es+M p.e:=by simp[Wd.add]
 have e3:=h.e3;have F:=f.e;refine⟨by rw[q];omega,by rw[q];have:=h.en;omega,by simp[Wd.add,h.bl],by simp[Wd.add,h.rn,f.r];omega,fun x n=>(List.mem_append.1 n).elim (h.rng x) (f.rng x),fun e E=>(List.mem_append.1 E).elim (h.vals e) (f.vals e),fun i hi d=>?_,fun i D hi=>?_⟩
 ·rw[q]at hi⊢;simp only[Wd.add]at d⊢;by_cases c:i<M W.es
  ·rw[vX c]at d⊢;have:=h.half i c d;rw[vX this.1];exact⟨by omega,this.2⟩
  ·rw[vT (by omega)]at d⊢;have:=f.half _ (by omega) d;rw[vT (by omega),show i+1-M W.es=i-M W.es+1 by omega];exact⟨by omega,this.2,by rw[f.t _ (tM this.1),f.t _ (tM (show i-M W.es<M p.e by omega))]⟩
 ·have s:=q;rw[q]at hi;by_cases c:i<M W.es
  ·have o:=h.onk i D c;have e1:ev (W.add p).es i=ev W.es i:=by simp only[Wd.add];exact vX c
   have e2:(W.add p).base.getD (ev W.es i).t.toNat 0=W.base.getD (ev W.es i).t.toNat 0:=by
    simp only[Wd.add,xh];rw[xd o.tl]
   refine⟨by rw[e1];exact o.t0,by rw[e1];have:=o.tl;simp[Wd.add];omega,by rw[e1,e2];exact o.b0,by rw[e1];exact o.len,fun x n=>?_⟩;rw[e1]at n⊢;rw[e2,s];have:=o.on x n;omega
  ·have y:i-M W.es<M p.e:=by omega
   have e1:ev (W.add p).es i=ev p.e (i-M W.es):=by simp only[Wd.add];exact vT (by omega)
   have A:=f.t _ (tM y);have B:=f.on _ (tM y);have e2:(W.add p).base.getD j 0=(M W.es:Int):=by
    simp only[Wd.add,xh];rw[xe (by rw[h.bl];exact x4 _)];simp[h.bl]
   refine⟨by rw[e1,A];omega,by rw[e1,A];simp[Wd.add,h.bl],by rw[e1,A];simp only[xl];rw[e2];omega,by rw[e1];exact B.1,fun x n=>?_⟩;rw[e1]at n⊢;rw[A];simp only[xl];rw[e2,s];have:=B.2 x n;omega
def FU:WI 0 W0:=by
 refine⟨by simp[W0,fws_len],by simp[W0,fws_len],Z,Z,by simp[W0],fun e f=>?_,fun i hi d=>?_,fun i n hi=>?_⟩
 ·simp only[W0,fws,List.mem_map]at f;obtain⟨v,_,rfl⟩:=f;simp[fw]
 ·have c:i<3:=by simpa[W0,fws_len]using hi
  have:i=0\/i=1\/i=2:=by omega
  rcases this with rfl|rfl|rfl<;>simp[W0,fws,ev,isStep,fw,xR,List.range.loop]at d
 ·have c:i<3:=by simpa[W0,fws_len]using hi
  omega
def FE{ts:List R.Th}(n:∀t∈ts,ThOk t):∀(d j:Nat) (W f:Wd),j+d=M ts->WI j W->Reach ((pss ts).drop j) W f->WI (M ts) f
 |0,j,W,f,hj,h,c=>by
  rw[List.drop_eq_nil_of_le (by rw[pss_len];omega)]at c;rw[show f=W from c,<- show j=M ts by omega];exact h
 |d+1,j,W,f,hj,h,c=>by
  have o:j<M ts:=by omega
  rw[List.drop_eq_getElem_cons (by rw[pss_len];exact o)]at c;obtain⟨p,q,c⟩:=c;have e:(pss ts)[j]'(by rw[pss_len];exact o)=pths ts[j] j:=by simp[pss]
  rw[e]at q;exact FE n d (j+1) (W.add p) f (by omega) (h.add (Dt (n _ (x5 o)) q)) c
def fin_ok(d:∀t∈ts,ThOk t)(o:0<M ts)(q:M ts<=4):∀c,Reach (pss ts) W0 c->FinOk (4*M ts+3) c:=fun c n=>by
 have h:=FE d (M ts) 0 W0 c (by omega) FU (by simpa using n);have f:=h.en;refine⟨by omega,h.e3,by rw[h.rn],by omega,by rw[h.rn];omega,h.rng,fun i hi=>h.vals _ (tM hi),fun i hi hs=>(h.half i hi hs).1,h.onk⟩
end J
