import Derived.Test.YtlikcongbhhpfaaGreatDoorM27
import Derived.Test.YtlikcongbhhpfaaGreatDoorM26
set_option linter.unusedVariables false
set_option linter.unusedSimpArgs false
set_option maxHeartbeats 12800000
namespace Go.Proofs.YtlikcongbhhpfaaGreatDoor
open Go Go.RowKit Go.Proofs.Tryz P Q
set_option maxRecDepth 1000000
variable {t:TypeId}{w:World}{g:Nat}
open List renaming length->N
open _root_.Array renaming size->M
open Go.World renaming heap->H
open Go.Obj renaming cells->Y
open Go.IntKind renaming i64->C
open Option renaming none->O,some->E
open Go.Value renaming slice->I,int->G
open Bool renaming false->U
open Nat renaming le_refl->xF,zero_le->xc
open Go.Value renaming int->xR,ownBlock->xe,oneCell'->xk
open List renaming range->xW,map_append->xd,length_filter_le->xg,length_set->xi,length_append->xm
open Go.RowKit.Below renaming refl->xa,heap_setCell->xb
open Go.Instr renaming makeSlice->xh
open Go.World renaming news_of_block->xj
theorem vC{a:World}{b:Nat}{j l m n s0 s1 s2 s3:Value}(h:a.heap[b]?=E (Y #[j,l,m,n] t (0,0))):
  ((((a.setCell ⟨b,0,O⟩ s0).setCell ⟨b,1,O⟩ s1).setCell ⟨b,2,O⟩ s2).setCell ⟨b,3,O⟩ s3).heap[b]?=E (Y #[s0,s1,s2,s3] t (0,0))/\(∀k,k≠b->((((a.setCell ⟨b,0,O⟩ s0).setCell ⟨b,1,O⟩ s1).setCell ⟨b,2,O⟩ s2).setCell ⟨b,3,O⟩ s3).heap[k]?=a.heap[k]?)/\
   ∀(w:World) (B:Nat),B<=b->Below B w a->Below B w ((((a.setCell ⟨b,0,O⟩ s0).setCell ⟨b,1,O⟩ s1).setCell ⟨b,2,O⟩ s2).setCell ⟨b,3,O⟩ s3):=by
 refine⟨?_,fun k d=>?_,fun w B c i=>?_⟩
 ·have e:=bC h 0 s0;have f:=bC e 1 s1;rw[bC (bC f 2 s2) 3 s3];rfl
 ·rw[xb _ _ _ _ d,xb _ _ _ _ d,xb _ _ _ _ d,xb _ _ _ _ d]
 ·exact(((i.setCell (p:=⟨b,0,O⟩) c _).setCell (p:=⟨b,1,O⟩) c _).setCell (p:=⟨b,2,O⟩) c _).setCell (p:=⟨b,3,O⟩) c _
theorem uD{a b c d:Value}(h:w.heap[g]?=E (Y #[a,b,c,d] t (0,0))):w.cell? ⟨g,0,O⟩=E a/\w.cell? ⟨g,1,O⟩=E b/\w.cell? ⟨g,2,O⟩=E c/\w.cell? ⟨g,3,O⟩=E d/\(∀j,w.frozen? ⟨g,j,O⟩=U)/\g<M (H w):=by
 refine⟨?_,?_,?_,?_,fun j=>?_,(Array.getElem?_eq_some_iff.1 h).1⟩<;>simp[World.cell?,World.frozen?,h]
def IF(w w':World)(rs bs:List Int)(e:Ending):Prop:=∃gr gb gd,e=.returned (.agg #[JQ gr (N rs) (N rs),JQ gb (N bs) (N bs),JQ gd (N bs) (N bs),.bool U])/\LE w' gr rs/\LE w' gb bs/\LE w' gd (eN (N bs))/\M (H w)<=gr/\M (H w)<=gb/\M (H w)<=gd/\gr≠gd/\gb≠gd/\Below (M (H w)) w w'
namespace Q
def jP(es:List Ev)(rs:List Int)(i q:Nat):Int:=1+(((xW q).filter (iY es rs i)).length:Nat)
theorem Of(es:List Ev)(a:List Int)(i q:Nat):jP es a i (q+1)=jP es a i q+if iY es a i q then 1 else 0:=by
 unfold jP;have:=YZ (iY es a i) q;omega
theorem Og(es:List Ev)(a:List Int)(i q:Nat):0<=jP es a i q/\jP es a i q<=q+1:=by
 unfold jP;have:=xg (iY es a i) (xW q);simp at this;omega
end Q
theorem ZE(ev rg v:Value)(es:List Ev)(b:List Int)(w:World)(he:NC w ev es)(aC:∃a n c,rg=I a n c)(hv:ME w v b)(hl:N b=N es)(hn:N b<=64):
  Calls prog 116 #[.agg #[ev,rg],v] w fun e w'=>IF w w' b (KY es b) e:=by
 have aQ:∀w,(xh 31 (G C (N b:Int)) (G C (N b:Int))).run prog w=.ok (JQ (M (H w)) (N b) (N b)) (w.alloc (Y (madeCells #[G C 0] (N b)) 3)):=
  fun w=>run_make_row' 31 3 (G C 0) 8 underlying31 Tryz.MZ Z C C (N b) (by omega) (by omega) w
 obtain⟨ea,ec,rfl,D⟩:=he.form;obtain⟨va,vc,rfl,ac⟩:=hv.form;obtain⟨ra,rn,rc,rfl⟩:=aC;rw[<- hl]at D;have aG:N b<=N es:=by omega
 have aH:N es<=N b:=by omega
 clear hl;have y:JP ((KY es b).length=N b):=by simp[JP,KY]
 obtain⟨k0,k1,aE,aa⟩:=hJ w #[I ea (N es) ec,I ra rn rc] #[I O 0 0,I O 0 0,I O 0 0,.bool U] 73 132;have ad:=JO he;have al:=JO (hv.X aa);have u:=JO aa;go_enter func116,ntmps116;go_upto_region 1 with fail
 generalize hE:(w.alloc (Y #[I ea (N es) ec,I ra rn rc] 73)).alloc (Y #[I O 0 0,I O 0 0,I O 0 0,.bool U] 132)=d at*;have an:=aB k0 0 _ Z;have l0:M (H w)<M (H d):=by omega
 have l1:M (H w)+1<M (H d):=by omega
 have K1:=JO k1;have ae:JP (LE (d.alloc (Y (madeCells #[G C 0] (N b)) 3)) (M (H d)) (dU (jT es b) (N b) 0)):=by
  unfold JP LE;rw[yM,<- rE];exact heap_alloc_new d _
 clear hE k0 k1 aE;go_wp2;go_loopw[14] (fun j wr=>∃(k:Nat),k<=N b/\j=G C k/\JP (LE wr (M (H d)) (dU (jT es b) (N b) k))/\JP (Below (M (H d)) d wr)) fun j _=>N b-(intOf j).toNat
 case atStart=>exact⟨0,xc _,Z,ae,(xa _ _).alloc (xF _) _⟩
 case round =>
  obtain⟨k,hk,rfl,K,f⟩:=hrel;by_cases hlt:k<N b
  ·have aP:(k:Int)<(N b:Int):=by omega
   obtain⟨be,rfl,ao⟩:=D (by omega);obtain⟨B,rfl,aq,ap⟩:=ac (by omega);have W:be<M (H d):=by omega
   have r:B<M (H d):=by omega
   have J:JP (∀q (hq:q<N b),d.cell? ⟨B,q,O⟩=E (G C (b.getD q (-1)))):=fun q hq=>by rw[eI b q hq];exact(u.o.cell (p:=⟨B,q,O⟩) aq).trans (ap q hq)
   have ck:wr.cell? ⟨B,k,O⟩=E (G C (b.getD k (-1))):=(f.o.cell (p:=⟨B,k,O⟩) r).trans (J.o k hlt);have cp:=K.o.cQ k (by rw[uL];exact hlt);have fp:=K.o.free k;have s:k<(dU (jT es b) (N b) k).length:=by rw[uL];exact hlt
   have L:=JO (K.o.set k 1);have af:=JO (AL (jT es b) (N b) k hlt);have ah:JP (jT es b k=jP es b k k):=Z;have aj:JP (jP es b k 0=1):=Z;have ai:JP (∀q,iY es b k q=(b.getD k (-1) != -1&&b.getD q (-1)==b.getD k (-1)&&(Q.ev es q).j != -1)):=fun q=>Z
   have F:JP (Below (M (H d)) d (wr.setCell ⟨M (H d),k,O⟩ (G C 1))):=f.o.setCell (p:=⟨M (H d),k,O⟩) (xF _) _;generalize aI:b.getD k (-1)=row at*;generalize aS:(dU (jT es b) (N b) k).getD k 0=aX at*;generalize aK:dU (jT es b) (N b) k=MM at*;go_wp2;go_loopw[8] (fun j wq=>∃(q:Nat),q<=k/\j=G C q/\JP (LE wq (M (H d)) (MM.set k (jP es b k q)))/\JP (Below (M (H d)) d wq)) fun j _=>k-(intOf j).toNat
   case atStart=>exact⟨0,xc _,Z,by rw[aj.o];exact L,F⟩
   case round =>
    clear ck cp fp L F;obtain⟨q,hq,rfl,z,i⟩:=hrel;have aJ:=JS i.o l0 an;by_cases hql:q<k
    ·have aU:(q:Int)<(k:Int):=by omega
     have aT:(q:Int)<(N es:Int):=by omega
     have aV:(q:Int)<(N b:Int):=by omega
     have az:q<N b:=by omega
     have cq:wr.cell? ⟨B,q,O⟩=E (G C (b.getD q (-1))):=(i.o.cell (p:=⟨B,q,O⟩) r).trans (J.o q az);have ak:JP (wr.rangeAt be (q*10) (aD (Q.ev es q)).toList):=eH (ad.o.bV Z q (by omega)) ((i.o.block be W).trans (u.o.block be ao));have ct:=ak.o 1 (G C (Q.ev es q).j) Z;have aw:k<(MM.set k (jP es b k q)).length:=by rw[xi];exact s
     have ck:=z.o.cQ k aw;rw[N6 _ _ _ s]at ck;have fk:=z.o.free k;have HS:=JO (Of es b k q);have l:=JO (ai.o q);have aL:=Og es b k q;have S:=JO (z.o.set k (jP es b k q+1));rw[List.set_set]at S;generalize b.getD q (-1)=x at*;generalize(Q.ev es q).j=th at*;generalize aR:jP es b k q=oo at*
     cases z1:row != -1
     ·have A:JP (jP es b k (q+1)=oo):=by unfold JP;rw[HS.o,l.o,z1];simp
      go_wp2;go_roundw
      case rel=>exact⟨q+1,by omega,by go_num,by rw[A.o];exact z,i⟩
      case measure=>simp[intOf];omega
     cases z2:x==row
     ·have A:JP (jP es b k (q+1)=oo):=by unfold JP;rw[HS.o,l.o,z1,z2];simp
      go_wp2;go_roundw
      case rel=>exact⟨q+1,by omega,by go_num,by rw[A.o];exact z,i⟩
      case measure=>simp[intOf];omega
     cases z3:th != -1
     ·have A:JP (jP es b k (q+1)=oo):=by unfold JP;rw[HS.o,l.o,z1,z2,z3];simp
      go_wp2;go_roundw
      case rel=>exact⟨q+1,by omega,by go_num,by rw[A.o];exact z,i⟩
      case measure=>simp[intOf];omega
     ·have A:JP (jP es b k (q+1)=oo+1):=by unfold JP;rw[HS.o,l.o,z1,z2,z3];simp
      go_wp2;go_roundw
      case rel=>exact⟨q+1,by omega,by go_num,by rw[A.o];exact S,i.o.setCell (p:=⟨M (H d),k,O⟩) (xF _) _⟩
      case measure=>simp[intOf];omega
    ·have ay:q=k:=by omega
     have ag:JP (LE wr (M (H d)) (dU (jT es b) (N b) (k+1))):=by
      have m:=z.o;rw[ay,<- ah.o]at m;unfold JP;rw[<- af.o];exact m
     go_wp2;go_roundw
     case rel=>exact⟨k+1,by omega,by go_num,ag,i⟩
     case measure=>simp[intOf];omega
  ·have av:k=N b:=by omega
   have HF:JP (LE wr (M (H d)) (KY es b)):=by
    have m:=K.o;rw[av,yS]at m;exact m
   have am:=JO (al.o.X f.o);clear K D ac;go_wp2_with(first
    |(go_at_call 103;refine(DU _ (KY es b) _ (by have m:=(HF.o.X T).gN (N b) (by rw[y.o];exact xF _);rw[y.o]at m;exact m) (by rw[y.o];omega)).mono ?_;rintro e w2 ⟨v1,v2,v3,rfl,⟨gb,gd,rfl,rfl,rfl,ar,au,aN,aO,ax⟩,V⟩;have B2:JP (Below (M (H d)) d w2):=JW (JW f.o (xF _) T) (xF _) V;have K2:=JO ((B2.o.block _ l1).trans K1.o);obtain⟨t0,t1,t2,t3,tf,tl⟩:=uD K2.o;have IB:=JO ar;have ID:=JO au;have IR:=JO (ab.X V))
    |(go_at_call 123;refine(AE _ b _ am.o (by omega)).mono ?_;rintro e w1 ⟨g1,rfl,ab,aF,T⟩))
   obtain⟨s0,s1,s2⟩:=vC (s0:=JQ g1 (N b) (N b)) (s1:=JQ gb (KY es b).length (KY es b).length) (s2:=JQ gd (KY es b).length (KY es b).length) (s3:=.bool U) K2.o;have aW:=f.o.size;have aM:=ab.lt;refine gF (p:=4) (M (H w)+1) _ (by kernel_rfl) underlying132 Z (by kernel_rfl) Z (by exact s0) Z ⟨g1,gb,gd,Z,IR.o.aA (s1 _ (by omega)),IB.o.aA (s1 _ (by omega)),ID.o.aA (s1 _ (by omega)),by omega,by omega,by omega,by omega,ax,s2 _ _ (by omega) (JW u.o (xF _) B2.o)⟩
namespace Q
def bU(es:List Ev)(i k:Nat):List Int:=((xW k).filter (pW es i)).map fun k:Nat=>(k:Int)
theorem Oh(es:List Ev)(i k:Nat):bU es i (k+1)=bU es i k++if pW es i k then[(k:Int)]else[]:=by
 unfold bU;rw[List.range_succ,List.filter_append,xd]
 congr 1
 cases h:pW es i k<;>simp[List.filter,h]
theorem ZF(es:List Ev)(i k:Nat):(bU es i k).length<=k:=by
 unfold bU;rw[List.length_map];have:=xg (pW es i) (xW k);simpa using this
end Q
theorem KO.bN{c:World}{e:Ev}{u:Value}{B n m:Nat}{o:List Value}(h:KO w g e)(k:w.ownsRow B t m u n o)(l:t≠166)(j:w.grownBy c u.ownBlock):KO c g e:=by
 have i:=h.lt;unfold KO at*;rw[j.block g i fun e=>by
  rcases k.2 with⟨a,_⟩|⟨p,d,f,a,_,b,_⟩
  ·rw[a]at e;simp[xe]at e
  ·rw[a]at e;simp[xe]at e;subst e;rw[h]at b;simp at b;exact l b.2.symm]
 exact h
theorem Oi(ev rg:Value)(es:List Ev)(i:Nat)(w:World)(he:NC w ev es)(aG:∃a n c,rg=I a n c)(hi:i<N es)(hn:N es<=64):
  Calls prog 158 #[.agg #[ev,rg],G C (i:Int)] w fun e w'=>∃v,e=.returned v/\ME w' v (kR es i)/\(∀k,v.ownBlock=E k->M (H w)<=k)/\Below (M (H w)) w w':=by
 obtain⟨i0,ao,au,av,aw⟩:=info_parts Tryz.NS;obtain⟨ea,ec,rfl,an⟩:=he.form;obtain⟨ra,rn,rc,rfl⟩:=aG;obtain⟨B,rfl,aC⟩:=an (by omega);obtain⟨k0,aH,am⟩:=gU w #[JQ B (N es) ec,I ra rn rc] 73;have ay:=JO he;have L:=JO am;have aj:JP (∀W:World,Below (M (H w)) w W->∀k,k<N es->W.rangeAt B (k*10) (aD (Q.ev es k)).toList):=fun W hb k hk=>eH (ay.o.bV Z k hk) (hb.block B aC)
 have aN:(i:Int)<(N es:Int):=by omega
 have ai:JP (kR es i=if(Q.ev es i).k==0 then bU es i (N es)else[-1]):=Z;have az:JP (∀k,pW es i k=((Q.ev es k).k==1&&(Q.ev es k).z==(Q.ev es i).z&&(Q.ev es k).value==(Q.ev es i).value&&!((Q.ev es i).step&&k==i+1))):=fun _=>Z
 clear am he an;go_enter func158,ntmps158;go_upto_region 1 with fail
 generalize hE:w.alloc (Y #[JQ B (N es) ec,I ra rn rc] 73)=l at*;have aJ:=aB k0 0 _ Z;have l0:M (H w)<M (H l):=by omega
 have ak:=JO (aj.o l L.o i hi);have ck:=ak.o 0 (G C (Q.ev es i).k) Z;have aL:decide ((i:Int)<0)=U:=decide_eq_false (by omega);clear hE k0 aH;have ax:((Q.ev es i).k != 0)=!((Q.ev es i).k==0):=Z;generalize aM:Q.ev es i=J at*;simp only[Nat.add_zero]at ck
 cases z0:J.k==0
 ·rw[z0]at ax;have HV:JP (kR es i=[-1]):=by unfold JP;rw[ai.o,z0];rfl
  go_wp2;go_ret;refine⟨_,Z,?_,fun k hk=>by simp[xe]at hk;omega,L.o.alloc (by have:=L.o.size;omega) _⟩;rw[HV.o];refine Or.inr ⟨M (H l),1,Z,fun j hj=>?_,by simp⟩;have aE:j=0:=by simp at hj;omega
  subst aE;have h1:=heap_alloc_new l (Y #[G C (-1)] 3);simp only[World.cell?,h1];rfl
 ·rw[z0]at ax;have HV:JP (kR es i=bU es i (N es)):=by unfold JP;rw[ai.o,z0];rfl
  have ag:JP (KO (l.alloc (Y (aD J) 166)) (M (H l)) J):=KO.bA l J;have ah:JP (Below (M (H l)) l (l.alloc (Y (aD J) 166))):=(xa _ _).alloc (xF _) _;go_wp2_with(first|(refine cA (.tmp 32) Z Z B (i*10) J Z ak.o ?_));go_loopw[6,37] (fun a j wr=>∃(k:Nat) (v:Value),k<=N es/\j=G C k/\a=v/\JP (wr.ownsRow (M (H l)) 3 1 v (bU es i k).length ((bU es i k).map (xR C)))/\JP (Below (M (H l)) l wr)/\JP (KO wr (M (H l)) J)) fun _ j _=>N es-(intOf j).toNat
  case atStart=>exact⟨0,_,xc _,Z,Z,by simpa[JP,bU]using World.ownsRow_nil _ _ _ _,ah,ag⟩
  case round =>
   clear ag ah;obtain⟨k,v,hk,rfl,ae,HO,HB,HA⟩:=hrel;have ae:=ae.symm;subst ae;have af:∃a c,v=I a (bU es i k).length c:=by
    rcases HO.o.2 with⟨e,h0⟩|⟨g',c,aK,e,_⟩
    ·exact⟨O,0,by rw[e,h0]⟩
    ·exact⟨_,c,e⟩
   obtain⟨va,vc,rfl⟩:=af;by_cases hlt:k<N es
   ·have aO:(k:Int)<(N es:Int):=by omega
    have r:=JO (aj.o wr (JW L.o (xF _) HB.o) k hlt);have K:=JO (Oh es i k);have aA:=JO (az.o k);rw[aA.o]at K;have aP:=ZF es i k;generalize Q.ev es k=f at*;have q:JP (Below (M (H l)) l (wr.alloc (Y (aD f) 166))):=HB.o.alloc HB.o.size _;have p:=JO (HA.o.alloc (Y (aD f) 166));have m:JP ((wr.alloc (Y (aD f) 166)).ownsRow (M (H l)) 3 1 (I va (bU es i k).length vc) (bU es i k).length ((bU es i k).map (xR C))):=aU HO.o fun y e=>Below.heap_alloc _ _ _ (HO.o.lt y e).2;obtain⟨x0,x1,x2,x3,x4,x5,x6,x7,x8,x9,xf,xl⟩:=p.o.F;clear x0 x1 x2 x5 x6 x7 x9;simp only[aD]at x3 x4 x8 xf xl;have ap:((k:Int)==(i:Int)+1)=(k==i+1):=by
     by_cases h:k=i+1
     ·have h':(k:Int)=(i:Int)+1:=by omega
      rw[beq_iff_eq.2 h',beq_iff_eq.2 h]
     ·have h':¬(k:Int)=(i:Int)+1:=by omega
      rw[beq_eq_false_iff_ne.2 h',beq_eq_false_iff_ne.2 h]
    have A:JP (∀b:Bool,b=U->bU es i (k+1)=bU es i k++(if b then[(k:Int)]else[])->bU es i (k+1)=bU es i k):=fun b hb h=>by rw[h,hb];simp
    generalize ar:J.step=sp at*;clear ar;cases sp
    ·skip
     cases z1:f.k==1
     ·have s:JP (bU es i (k+1)=bU es i k):=A.o _ (by simp[z1]) K.o;go_wp2_with(first|(refine cA (.tmp 40) Z Z B (k*10) f Z r.o ?_));go_roundw
      case rel=>exact⟨k+1,_,by omega,by go_num,Z,by rw[s.o];exact m,q,p⟩
      case measure=>simp[intOf];omega
     cases z2:f.z==J.z
     ·have s:JP (bU es i (k+1)=bU es i k):=A.o _ (by simp[z1,z2]) K.o;go_wp2_with(first|(refine cA (.tmp 40) Z Z B (k*10) f Z r.o ?_));go_roundw
      case rel=>exact⟨k+1,_,by omega,by go_num,Z,by rw[s.o];exact m,q,p⟩
      case measure=>simp[intOf];omega
     cases z3:f.value==J.value
     ·have s:JP (bU es i (k+1)=bU es i k):=A.o _ (by simp[z1,z2,z3]) K.o;go_wp2_with(first|(refine cA (.tmp 40) Z Z B (k*10) f Z r.o ?_));go_roundw
      case rel=>exact⟨k+1,_,by omega,by go_num,Z,by rw[s.o];exact m,q,p⟩
      case measure=>simp[intOf];omega
     ·have s:JP (bU es i (k+1)=bU es i k++[(k:Int)]):=by unfold JP;rw[K.o];simp[z1,z2,z3]
      have aI:M (H l)<=M (H wr):=HB.o.size;have S:Below (wr.alloc (Y (aD f) 166)).heap.size (wr.alloc (Y (aD f) 166)) ((wr.alloc (Y (aD f) 166)).alloc (Y #[G C (k:Int)] 3)):=(xa _ _).alloc (xF _) _;have D:JP (((wr.alloc (Y (aD f) 166)).alloc (Y #[G C (k:Int)] 3)).ownsRow (M (H l)) 3 1 (I va (bU es i k).length vc) (bU es i k).length ((bU es i k).map (xR C))):=aU m.o fun y e=>S.block y (m.o.lt y e).2;have ac:JP (∀j u,[xR C (k:Int)][j]?=E u->((wr.alloc (Y (aD f) 166)).alloc (Y #[G C (k:Int)] 3)).cell? ((⟨M (H wr)+1,0,O⟩:Addr).add j)=E u):=xj (cs:=#[G C (k:Int)]) (t:=3) (fr:=(0,0)) (by have:=heap_alloc_new (wr.alloc (Y (aD f) 166)) (Y #[G C (k:Int)] 3);simpa using this);have aa:JP (Below (M (H l)) l ((wr.alloc (Y (aD f) 166)).alloc (Y #[G C (k:Int)] 3))):=q.o.alloc (by simp;omega) _;have T:=JO (p.o.X S);clear S;go_wp2_with(first|(refine cA (.tmp 40) Z Z B (k*10) f Z r.o ?_)|(at_builtin;refine wpList_append_lies _ Z (.tmp 71) (.tmp 73) 31 Z (M (H l)) 3 i0 (G C 0) 1 8 underlying31 ao au av aw Z (by decide) _ (bU es i k).length ((bU es i k).map (xR C)) Z (by exact D.o) ⟨M (H wr)+1,0,O⟩ 1 1 [G C (k:Int)] Z Z (by exact ac.o) (by simp[xk]) (by decide) (by unfold maxLen;omega) (by omega) (by simp;omega) _ Z ?_;intro gn cn w5 x d al aq));have ab:JP (Below (M (H l)) l w5):=aa.o.trans ⟨d.os,d.tape,d.output,d.size,fun y hy=>d.block y (by simp;omega) fun e=>by have:=(D.o.lt y e.symm).1;omega⟩;have V:=JO (T.o.bN D.o (by decide) d);have ad:JP (w5.ownsRow (M (H l)) 3 1 (JQ gn ((bU es i k).length+1) cn) (bU es i (k+1)).length ((bU es i (k+1)).map (xR C))):=by
       unfold JP;rw[s.o,xd,xm];exact x
      clear x d;go_roundw
      case rel=>exact⟨k+1,_,by omega,by go_num,Z,ad,ab,V⟩
      case measure=>simp[intOf];omega
    cases z5:k==i+1
    ·rw[z5]at ap
     cases z1:f.k==1
     ·have s:JP (bU es i (k+1)=bU es i k):=A.o _ (by simp[z1,z5]) K.o;go_wp2_with(first|(refine cA (.tmp 40) Z Z B (k*10) f Z r.o ?_));go_roundw
      case rel=>exact⟨k+1,_,by omega,by go_num,Z,by rw[s.o];exact m,q,p⟩
      case measure=>simp[intOf];omega
     cases z2:f.z==J.z
     ·have s:JP (bU es i (k+1)=bU es i k):=A.o _ (by simp[z1,z2,z5]) K.o;go_wp2_with(first|(refine cA (.tmp 40) Z Z B (k*10) f Z r.o ?_));go_roundw
      case rel=>exact⟨k+1,_,by omega,by go_num,Z,by rw[s.o];exact m,q,p⟩
      case measure=>simp[intOf];omega
     cases z3:f.value==J.value
     ·have s:JP (bU es i (k+1)=bU es i k):=A.o _ (by simp[z1,z2,z3,z5]) K.o;go_wp2_with(first|(refine cA (.tmp 40) Z Z B (k*10) f Z r.o ?_));go_roundw
      case rel=>exact⟨k+1,_,by omega,by go_num,Z,by rw[s.o];exact m,q,p⟩
      case measure=>simp[intOf];omega
     ·have s:JP (bU es i (k+1)=bU es i k++[(k:Int)]):=by unfold JP;rw[K.o];simp[z1,z2,z3,z5]
      have aI:M (H l)<=M (H wr):=HB.o.size;have S:Below (wr.alloc (Y (aD f) 166)).heap.size (wr.alloc (Y (aD f) 166)) ((wr.alloc (Y (aD f) 166)).alloc (Y #[G C (k:Int)] 3)):=(xa _ _).alloc (xF _) _;have D:JP (((wr.alloc (Y (aD f) 166)).alloc (Y #[G C (k:Int)] 3)).ownsRow (M (H l)) 3 1 (I va (bU es i k).length vc) (bU es i k).length ((bU es i k).map (xR C))):=aU m.o fun y e=>S.block y (m.o.lt y e).2;have ac:JP (∀j u,[xR C (k:Int)][j]?=E u->((wr.alloc (Y (aD f) 166)).alloc (Y #[G C (k:Int)] 3)).cell? ((⟨M (H wr)+1,0,O⟩:Addr).add j)=E u):=xj (cs:=#[G C (k:Int)]) (t:=3) (fr:=(0,0)) (by have:=heap_alloc_new (wr.alloc (Y (aD f) 166)) (Y #[G C (k:Int)] 3);simpa using this);have aa:JP (Below (M (H l)) l ((wr.alloc (Y (aD f) 166)).alloc (Y #[G C (k:Int)] 3))):=q.o.alloc (by simp;omega) _;have T:=JO (p.o.X S);clear S;go_wp2_with(first|(refine cA (.tmp 40) Z Z B (k*10) f Z r.o ?_)|(at_builtin;refine wpList_append_lies _ Z (.tmp 71) (.tmp 73) 31 Z (M (H l)) 3 i0 (G C 0) 1 8 underlying31 ao au av aw Z (by decide) _ (bU es i k).length ((bU es i k).map (xR C)) Z (by exact D.o) ⟨M (H wr)+1,0,O⟩ 1 1 [G C (k:Int)] Z Z (by exact ac.o) (by simp[xk]) (by decide) (by unfold maxLen;omega) (by omega) (by simp;omega) _ Z ?_;intro gn cn w5 x d al aq));have ab:JP (Below (M (H l)) l w5):=aa.o.trans ⟨d.os,d.tape,d.output,d.size,fun y hy=>d.block y (by simp;omega) fun e=>by have:=(D.o.lt y e.symm).1;omega⟩;have V:=JO (T.o.bN D.o (by decide) d);have ad:JP (w5.ownsRow (M (H l)) 3 1 (JQ gn ((bU es i k).length+1) cn) (bU es i (k+1)).length ((bU es i (k+1)).map (xR C))):=by
       unfold JP;rw[s.o,xd,xm];exact x
      clear x d;go_roundw
      case rel=>exact⟨k+1,_,by omega,by go_num,Z,ad,ab,V⟩
      case measure=>simp[intOf];omega
    ·rw[z5]at ap
     cases z1:f.k==1
     ·have s:JP (bU es i (k+1)=bU es i k):=A.o _ (by simp[z1,z5]) K.o;go_wp2_with(first|(refine cA (.tmp 40) Z Z B (k*10) f Z r.o ?_));go_roundw
      case rel=>exact⟨k+1,_,by omega,by go_num,Z,by rw[s.o];exact m,q,p⟩
      case measure=>simp[intOf];omega
     cases z2:f.z==J.z
     ·have s:JP (bU es i (k+1)=bU es i k):=A.o _ (by simp[z1,z2,z5]) K.o;go_wp2_with(first|(refine cA (.tmp 40) Z Z B (k*10) f Z r.o ?_));go_roundw
      case rel=>exact⟨k+1,_,by omega,by go_num,Z,by rw[s.o];exact m,q,p⟩
      case measure=>simp[intOf];omega
     cases z3:f.value==J.value
     ·have s:JP (bU es i (k+1)=bU es i k):=A.o _ (by simp[z1,z2,z3,z5]) K.o;go_wp2_with(first|(refine cA (.tmp 40) Z Z B (k*10) f Z r.o ?_));go_roundw
      case rel=>exact⟨k+1,_,by omega,by go_num,Z,by rw[s.o];exact m,q,p⟩
      case measure=>simp[intOf];omega
     ·have s:JP (bU es i (k+1)=bU es i k):=A.o _ (by simp[z1,z2,z3,z5]) K.o;go_wp2_with(first|(refine cA (.tmp 40) Z Z B (k*10) f Z r.o ?_));go_roundw
      case rel=>exact⟨k+1,_,by omega,by go_num,Z,by rw[s.o];exact m,q,p⟩
      case measure=>simp[intOf];omega
   ·have aF:k=N es:=by omega
    go_wp2;go_ret;refine⟨_,Z,?_,fun y hy=>by have:=(HO.o.lt y hy).1;omega,JW L.o (xF _) HB.o⟩;rw[HV.o,<- aF];exact QP HO.o Z
namespace Q
def lN(es:List Ev)(k:Nat):Int:=if MQ (ev es k)then 0 else -1
theorem Oj(es:List Ev):LC es=(xW (N es)).map (lN es):=by
 unfold LC;apply List.ext_getElem
 ·simp
 ·intro i a b;simp at a;simp[lN,ev,a]
end Q
theorem Ol(ev rg:Value)(es:List Ev)(w:World)(he:NC w ev es)(am:∃a n c,rg=I a n c)(hn:N es<=64):
  Calls prog 90 #[.agg #[ev,rg]] w fun e w'=>IF w w' (LC es) (KY es (LC es)) e:=by
 have aw:∀w,(xh 31 (G C (N es:Int)) (G C (N es:Int))).run prog w=.ok (JQ (M (H w)) (N es) (N es)) (w.alloc (Y (madeCells #[G C 0] (N es)) 3)):=
  fun w=>run_make_row' 31 3 (G C 0) 8 underlying31 Tryz.MZ Z C C (N es) (by omega) (by omega) w
 obtain⟨ea,ec,rfl,J⟩:=he.form;obtain⟨ra,rn,rc,rfl⟩:=am;obtain⟨k0,k1,an,ag⟩:=hJ w #[I ea (N es) ec,I ra rn rc] #[I O 0 0,I O 0 0,I O 0 0,.bool U] 73 132;have v:=JO he;have r:=JO ag;have ab:JP (LC es=(xW (N es)).map (lN es)):=Oj es;have m:JP ((LC es).length=N es):=by simp[JP,LC]
 go_enter func90,ntmps90;go_upto_region 1 with fail
 generalize hE:(w.alloc (Y #[I ea (N es) ec,I ra rn rc] 73)).alloc (Y #[I O 0 0,I O 0 0,I O 0 0,.bool U] 132)=d at*;have ac:=aB k0 0 _ Z;have ad:=aB k0 1 _ Z;have l0:M (H w)<M (H d):=by omega
 have l1:M (H w)+1<M (H d):=by omega
 have K1:=JO k1;have aa:JP (LE (d.alloc (Y (madeCells #[G C 0] (N es)) 3)) (M (H d)) (dU (lN es) (N es) 0)):=by
  unfold JP LE;rw[yM,<- rE];exact heap_alloc_new d _
 clear hE k0 k1 an;go_wp2;go_loopw[13] (fun j wr=>∃(k:Nat),k<=N es/\j=G C k/\JP (LE wr (M (H d)) (dU (lN es) (N es) k))/\JP (Below (M (H d)) d wr)) fun j _=>N es-(intOf j).toNat
 case atStart=>exact⟨0,xc _,Z,aa,(xa _ _).alloc (xF _) _⟩
 case round =>
  obtain⟨k,hk,rfl,S,b⟩:=hrel;by_cases hlt:k<N es
  ·have av:(k:Int)<(N es:Int):=by omega
   obtain⟨s,rfl,af⟩:=J (by omega);have D:s<M (H d):=by omega
   have z:JP (wr.rangeAt s (k*10) (aD (Q.ev es k)).toList):=eH (v.o.bV Z k (by omega)) ((b.o.block s D).trans (r.o.block s af));have x:=JO (AL (lN es) (N es) k hlt);have y:JP (lN es k=if MQ (Q.ev es k)then 0 else -1):=Z;generalize Q.ev es k=f at*;have l:=JO (S.o.X ((xa _ _).alloc (xF _) (Y (aD f) 166)));have u:JP (Below (M (H d)) d (wr.alloc (Y (aD f) 166))):=b.o.alloc b.o.size _;have K:k<(dU (lN es) (N es) k).length:=by rw[uL];exact hlt
   have t0:=l.o.cQ k K;have ff:=l.o.free k;have tl:=l.o.lt;have JX:=JO (l.o.set k (-1));have BX:JP (Below (M (H d)) d ((wr.alloc (Y (aD f) 166)).setCell ⟨M (H d),k,O⟩ (G C (-1)))):=u.o.setCell (p:=⟨M (H d),k,O⟩) (xF _) _;have EA:JP (KO ((wr.alloc (Y (aD f) 166)).setCell ⟨M (H d),k,O⟩ (G C (-1))) (M (H wr)) f):=by
    have h2:=S.o.lt;unfold JP KO at*;rw[xb _ _ _ _ (by simp;omega)];exact KO.bA wr f
   obtain⟨x0,x1,x2,x3,x4,x5,x6,x7,x8,x9,xf,xl⟩:=EA.o.F;simp only[aD]at t0 ff tl x0 x1 x2 x3 x4 x5 x6 x7 x8 x9 xf xl;generalize ar:(dU (lN es) (N es) k).getD k 0=gm at*
   cases z1:MQ f
   ·have HN:JP ((dU (lN es) (N es) k).set k (-1)=dU (lN es) (N es) (k+1)):=by unfold JP;rw[<- x.o,y.o,z1];rfl
    skip
    go_wp2_with(first|(refine cA (.tmp 16) Z Z s (k*10) f Z z.o ?_)|(go_at_call 142;refine(yY f _).mono ?_;rintro e w5 ⟨rfl,i⟩;rw[z1];have A:=JO (JX.o.X i);have V:=JO (JW BX.o (xF _) i)));go_roundw
    case rel=>exact⟨k+1,by omega,by go_num,by rw[<- HN.o];exact A.o,V⟩
    case measure=>simp[intOf];omega
   ·have HN:JP (((dU (lN es) (N es) k).set k (-1)).set k (0)=dU (lN es) (N es) (k+1)):=by unfold JP;rw[List.set_set,<- x.o,y.o,z1];rfl
    skip
    go_wp2_with(first|(refine cA (.tmp 16) Z Z s (k*10) f Z z.o ?_)|(go_at_call 142;refine(yY f _).mono ?_;rintro e w5 ⟨rfl,i⟩;rw[z1];have A:=JO (JX.o.X i);have V:=JO (JW BX.o (xF _) i);have t5:=A.o.cQ k (by rw[xi];exact K);have ao:=A.o.free k));go_roundw
    case rel=>exact⟨k+1,by omega,by go_num,by rw[<- HN.o];exact A.o.set k 0,V.o.setCell (p:=⟨M (H d),k,O⟩) (xF _) _⟩
    case measure=>simp[intOf];omega
  ·have ak:k=N es:=by omega
   have HF:JP (LE wr (M (H d)) (LC es)):=by
    have B:=S.o;rw[ak,yS,<- ab.o]at B;exact B
   have W:JP (NC wr (I ea (N es) ec) es):=v.o.keep fun q hq=>(b.o.block q (by omega)).trans (r.o.block q hq)
   have d0:=JS b.o l0 ac;have d1:=JS b.o l0 ad;have ay:=Nat.lt_of_lt_of_le l0 b.o.size;clear S J;go_wp2_with(first|(go_at_call 116;refine(ZE _ _ _ es (LC es) _ W.o ⟨_,_,_,Z⟩ (by have B:=HF.o.gN (N es) (by rw[m.o];exact xF _);rw[m.o]at B;exact B) (by rw[m.o]) (by rw[m.o];exact hn)).mono ?_;rintro e w2 ⟨gr,gb,gd,rfl,aj,ah,ai,au,ap,aq,al,L,ae⟩;have B2:JP (Below (M (H d)) d w2):=JW b.o (xF _) ae;have K2:=JO ((B2.o.block _ l1).trans K1.o);obtain⟨t0,t1,t2,t3,tf,tl⟩:=uD K2.o;have IB:=JO ah;have ID:=JO ai;have IR:=JO aj));obtain⟨s0,T,s2⟩:=vC (s0:=JQ gr (LC es).length (LC es).length) (s1:=JQ gb (KY es (LC es)).length (KY es (LC es)).length) (s2:=JQ gd (KY es (LC es)).length (KY es (LC es)).length) (s3:=.bool U) K2.o;have ax:=b.o.size;refine gF (p:=2) (M (H w)+1) _ (by kernel_rfl) underlying132 Z (by kernel_rfl) Z (by exact s0) Z ⟨gr,gb,gd,Z,IR.o.aA (T _ (by omega)),IB.o.aA (T _ (by omega)),ID.o.aA (T _ (by omega)),by omega,by omega,by omega,al,L,s2 _ _ (by omega) (JW r.o (xF _) B2.o)⟩
end Go.Proofs.YtlikcongbhhpfaaGreatDoor
