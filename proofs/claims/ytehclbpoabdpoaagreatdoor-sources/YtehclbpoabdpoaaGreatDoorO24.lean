import Derived.Test.YtehclbpoabdpoaaGreatDoorO23
set_option linter.all false
set_option maxHeartbeats 0
namespace Go.Proofs.YtehclbpoabdpoaaGreatDoor
open Go Go.RowKit Go.Proofs.Tryz P Q
open scoped Classical
set_option maxRecDepth 1000000
variable {t:TypeId}{w w' w1:World}{B g n o sz:Nat}{u v:Value}{vs xs:List Value}{l:List Int}{rs:List (List Int)}
open List renaming length->L
open _root_.Array renaming size->D
open Go.World renaming heap->S,cell?->A
open Go.Value renaming slice->Y,int->E,bool->M
open Option renaming none->C,some->O
open Go.Obj renaming cells->I
open Go.IntKind renaming i64->G
open Bool renaming false->U
open Go.Ending renaming returned->N
open Nat renaming le_refl->xF,zero_le->xd
open Go.Value renaming ownBlock->xR,int->xW,slice->xb,oneCell'->xm
open Go.RowKit.Below renaming refl->xa,heap_setCell->xg,heap_alloc->xj
open List renaming range->xc,mem_of_getElem?->xe,map_append->xh,length_filter_le->xn,range_succ->xp
open Go.World renaming ownsRow_nil->xi,news_of_block->xk
open Go.Instr renaming makeSlice->xo
def DI{a:World}{b:Nat}{i j m q s0 s1 s2 s3:Value}(h:a.heap[b]?=O (I #[i,j,m,q] t (0,0))):
  ((((a.setCell ⟨b,0,C⟩ s0).setCell ⟨b,1,C⟩ s1).setCell ⟨b,2,C⟩ s2).setCell ⟨b,3,C⟩ s3).heap[b]?=O (I #[s0,s1,s2,s3] t (0,0))/\(∀k,k≠b->((((a.setCell ⟨b,0,C⟩ s0).setCell ⟨b,1,C⟩ s1).setCell ⟨b,2,C⟩ s2).setCell ⟨b,3,C⟩ s3).heap[k]?=a.heap[k]?)/\
   ∀(w:World) (B:Nat),B<=b->Below B w a->Below B w ((((a.setCell ⟨b,0,C⟩ s0).setCell ⟨b,1,C⟩ s1).setCell ⟨b,2,C⟩ s2).setCell ⟨b,3,C⟩ s3):=by
 refine⟨?_,fun k d=>?_,fun w B c f=>?_⟩
 ·have e:=bX h 0 s0;have e1:=bX e 1 s1;rw[bX (bX e1 2 s2) 3 s3];rfl
 ·rw[xg _ _ _ _ d,xg _ _ _ _ d,xg _ _ _ _ d,xg _ _ _ _ d]
 ·exact(((f.setCell (p:=⟨b,0,C⟩) c _).setCell (p:=⟨b,1,C⟩) c _).setCell (p:=⟨b,2,C⟩) c _).setCell (p:=⟨b,3,C⟩) c _
def yI{a b c d:Value}(h:w.heap[g]?=O (I #[a,b,c,d] t (0,0))):A w ⟨g,0,C⟩=O a/\A w ⟨g,1,C⟩=O b/\A w ⟨g,2,C⟩=O c/\A w ⟨g,3,C⟩=O d/\(∀j,w.frozen? ⟨g,j,C⟩=U)/\g<D (S w):=by
 refine⟨?_,?_,?_,?_,fun j=>?_,(Array.getElem?_eq_some_iff.1 h).1⟩<;>simp[World.cell?,World.frozen?,h]
def ZE(w w':World)(rs bs:List Int)(e:Ending):Prop:=∃gr gb gd,e=N (.agg #[MU gr (L rs) (L rs),MU gb (L bs) (L bs),MU gd (L bs) (L bs),M U])/\NM w' gr rs/\NM w' gb bs/\NM w' gd (fJ (L bs))/\D (S w)<=gr/\D (S w)<=gb/\D (S w)<=gd/\gr≠gd/\gb≠gd/\Below (D (S w)) w w'
namespace Q
def lR(es:List Ev)(rs:List Int)(i q:Nat):Int:=1+(((xc q).filter (jL es rs i)).length:Nat)
def Od(a:List Ev)(rs:List Int)(i q:Nat):lR a rs i (q+1)=lR a rs i q+if jL a rs i q then 1 else 0:=by
 unfold lR;have:=YW (jL a rs i) q;omega
def Oe(a:List Ev)(rs:List Int)(i q:Nat):0<=lR a rs i q/\lR a rs i q<=q+1:=by
 unfold lR;have:=xn (jL a rs i) (xc q);simp at this;omega
end Q
def Of(ev rg v:Value)(b:List Ev)(rs:List Int)(w:World)(he:PH w ev b)(aH:∃a n c,rg=Y a n c)(hv:PC w v rs)(hl:L rs=L b)(hn:L rs<=64):
  Calls prog 106 #[.agg #[ev,rg],v] w fun e w'=>ZE w w' rs (OR b rs) e:=by
 have aU:∀w,(xo 37 (E G (L rs:Int)) (E G (L rs:Int))).run prog w=.ok (MU (D (S w)) (L rs) (L rs)) (w.alloc (I (madeCells #[E G 0] (L rs)) 3)):=
  fun w=>run_make_row' 37 3 (E G 0) 8 underlying37 Tryz.OC Z G G (L rs) (by omega) (by omega) w
 obtain⟨ea,ec,rfl,K⟩:=he.form;obtain⟨va,vc,rfl,ah⟩:=hv.form;obtain⟨ra,rn,rc,rfl⟩:=aH;rw[<- hl]at K;have aK:L rs<=L b:=by omega
 have aL:L b<=L rs:=by omega
 clear hl;have z:MT ((OR b rs).length=L rs):=by simp[MT,OR]
 obtain⟨k0,k1,aI,af⟩:=mZ w #[Y ea (L b) ec,Y ra rn rc] #[Y C 0 0,Y C 0 0,Y C 0 0,M U] 80 146;have ai:=MS he;have aq:=MS (hv.X af);have y:=MS af;go_enter func106,ntmps106;go_upto_region 1 with fail
 generalize hE:(w.alloc (I #[Y ea (L b) ec,Y ra rn rc] 80)).alloc (I #[Y C 0 0,Y C 0 0,Y C 0 0,M U] 146)=W0 at*;have au:=jP k0 0 _ Z;have l0:D (S w)<D (S W0):=by omega
 have l1:D (S w)+1<D (S W0):=by omega
 have K1:=MS k1;have aj:MT (NM (W0.alloc (I (madeCells #[E G 0] (L rs)) 3)) (D (S W0)) (gW (lX b rs) (L rs) 0)):=by
  unfold MT NM;rw[LK,<- xN];exact heap_alloc_new W0 _
 clear hE k0 k1 aI;go_wp2;go_loopw[14] (fun j wr=>∃(k:Nat),k<=L rs/\j=E G k/\MT (NM wr (D (S W0)) (gW (lX b rs) (L rs) k))/\MT (Below (D (S W0)) W0 wr)) fun j _=>L rs-(intOf j).toNat
 case atStart=>exact⟨0,xd _,Z,aj,(xa _ _).alloc (xF _) _⟩
 case round =>
  obtain⟨k,hk,rfl,W,d⟩:=hrel;by_cases hlt:k<L rs
  ·have aT:(k:Int)<(L rs:Int):=by omega
   obtain⟨be,rfl,av⟩:=K (by omega);obtain⟨J,rfl,ax,aw⟩:=ah (by omega);have ae:be<D (S W0):=by omega
   have r:J<D (S W0):=by omega
   have V:MT (∀q (hq:q<L rs),A W0 ⟨J,q,C⟩=O (E G (rs.getD q (-1)))):=fun q hq=>by rw[gS rs q hq];exact(y.cell (p:=⟨J,q,C⟩) ax).trans (aw q hq)
   have ck:A wr ⟨J,k,C⟩=O (E G (rs.getD k (-1))):=(d.cell (p:=⟨J,k,C⟩) r).trans (V.o k hlt);have cp:=W.eC k (by rw[CL];exact hlt);have fp:=W.free k;have s:k<(gW (lX b rs) (L rs) k).length:=by rw[CL];exact hlt
   have aa:=MS (W.set k 1);have ak:=MS (GT (lX b rs) (L rs) k hlt);have am:MT (lX b rs k=lR b rs k k):=Z;have ao:MT (lR b rs k 0=1):=Z;have an:MT (∀q,Q.jL b rs k q=(rs.getD k (-1) != -1&&rs.getD q (-1)==rs.getD k (-1)&&(Q.ev b q).j != -1)):=fun q=>Z
   have T:MT (Below (D (S W0)) W0 (wr.setCell ⟨D (S W0),k,C⟩ (E G 1))):=d.setCell (p:=⟨D (S W0),k,C⟩) (xF _) _;generalize aM:rs.getD k (-1)=row at*;generalize aW:(gW (lX b rs) (L rs) k).getD k 0=bb at*;generalize aO:gW (lX b rs) (L rs) k=MM at*;go_wp2;go_loopw[8] (fun j wq=>∃(q:Nat),q<=k/\j=E G q/\MT (NM wq (D (S W0)) (MM.set k (lR b rs k q)))/\MT (Below (D (S W0)) W0 wq)) fun j _=>k-(intOf j).toNat
   case atStart=>exact⟨0,xd _,Z,by rw[ao.o];exact aa,T⟩
   case round =>
    clear ck cp fp aa T;obtain⟨q,hq,rfl,F,f⟩:=hrel;have aN:=MZ f.o l0 au;by_cases hql:q<k
    ·have aY:(q:Int)<(k:Int):=by omega
     have aX:(q:Int)<(L b:Int):=by omega
     have aZ:(q:Int)<(L rs:Int):=by omega
     have aF:q<L rs:=by omega
     have cq:A wr ⟨J,q,C⟩=O (E G (rs.getD q (-1))):=(f.cell (p:=⟨J,q,C⟩) r).trans (V.o q aF);have ap:MT (wr.rangeAt be (q*10) (aG (Q.ev b q)).toList):=jM (ai.cN Z q (by omega)) ((f.block be ae).trans (y.block be av));have ct:=ap.o 1 (E G (Q.ev b q).j) Z;have aB:k<(MM.set k (lR b rs k q)).length:=by rw[List.length_set];exact s
     have ck:=F.eC k aB;rw[Nv _ _ _ s]at ck;have fk:=F.free k;have HS:=MS (Od b rs k q);have i:=MS (an.o q);have aP:=Oe b rs k q;have ab:=MS (F.set k (lR b rs k q+1));rw[List.set_set]at ab;generalize rs.getD q (-1)=x at*;generalize(Q.ev b q).j=th at*;generalize aV:lR b rs k q=oo at*
     cases z1:row != -1
     ·have H:MT (lR b rs k (q+1)=oo):=by unfold MT;rw[HS.o,i.o,z1];simp
      go_wp2;go_roundw
      case rel=>exact⟨q+1,by omega,by go_num,by rw[H.o];exact F,f⟩
      case measure=>simp[intOf];omega
     cases z2:x==row
     ·have H:MT (lR b rs k (q+1)=oo):=by unfold MT;rw[HS.o,i.o,z1,z2];simp
      go_wp2;go_roundw
      case rel=>exact⟨q+1,by omega,by go_num,by rw[H.o];exact F,f⟩
      case measure=>simp[intOf];omega
     cases z3:th != -1
     ·have H:MT (lR b rs k (q+1)=oo):=by unfold MT;rw[HS.o,i.o,z1,z2,z3];simp
      go_wp2;go_roundw
      case rel=>exact⟨q+1,by omega,by go_num,by rw[H.o];exact F,f⟩
      case measure=>simp[intOf];omega
     ·have H:MT (lR b rs k (q+1)=oo+1):=by unfold MT;rw[HS.o,i.o,z1,z2,z3];simp
      go_wp2;go_roundw
      case rel=>exact⟨q+1,by omega,by go_num,by rw[H.o];exact ab,f.setCell (p:=⟨D (S W0),k,C⟩) (xF _) _⟩
      case measure=>simp[intOf];omega
    ·have aE:q=k:=by omega
     have al:MT (NM wr (D (S W0)) (gW (lX b rs) (L rs) (k+1))):=by
      have m:=F.o;rw[aE,<- am.o]at m;unfold MT;rw[<- ak.o];exact m
     go_wp2;go_roundw
     case rel=>exact⟨k+1,by omega,by go_num,al,f⟩
     case measure=>simp[intOf];omega
  ·have aA:k=L rs:=by omega
   have HF:MT (NM wr (D (S W0)) (OR b rs)):=by
    have m:=W.o;rw[aA,LZ]at m;exact m
   have ar:=MS (aq.X d.o);clear W K ah;go_wp2_with(first
    |(go_at_call 92;refine(LM _ (OR b rs) _ (by have m:=(HF.X ac).qB (L rs) (by rw[z.o];exact xF _);rw[z.o]at m;exact m) (by rw[z.o];omega)).mono ?_;rintro e w2 ⟨v1,v2,v3,rfl,⟨gb,gd,rfl,rfl,rfl,ay,az,aR,aS,aD⟩,ad⟩;have B2:MT (Below (D (S W0)) W0 w2):=NE (NE d.o (xF _) ac) (xF _) ad;have K2:=MS ((B2.block _ l1).trans K1.o);obtain⟨t0,t1,t2,t3,tf,tl⟩:=yI K2.o;have IB:=MS ay;have ID:=MS az;have IR:=MS (ag.X ad))
    |(go_at_call 115;refine(CD _ rs _ ar.o (by omega)).mono ?_;rintro e w1 ⟨g1,rfl,ag,aJ,ac⟩))
   obtain⟨s0,s1,s2⟩:=DI (s0:=MU g1 (L rs) (L rs)) (s1:=MU gb (OR b rs).length (OR b rs).length) (s2:=MU gd (OR b rs).length (OR b rs).length) (s3:=M U) K2.o;have ba:=d.size;have aQ:=ag.lt;refine qW (p:=4) (D (S w)+1) _ (by kernel_rfl) underlying146 Z (by kernel_rfl) Z (by exact s0) Z ⟨g1,gb,gd,Z,IR.aC (s1 _ (by omega)),IB.aC (s1 _ (by omega)),ID.aC (s1 _ (by omega)),by omega,by omega,by omega,by omega,aD,s2 _ _ (by omega) (NE y.o (xF _) B2.o)⟩
namespace Q
def fG(es:List Ev)(i k:Nat):List Int:=((xc k).filter (cT es i)).map fun k:Nat=>(k:Int)
def Og(a:List Ev)(i k:Nat):fG a i (k+1)=fG a i k++if cT a i k then[(k:Int)]else[]:=by
 unfold fG;rw[xp,List.filter_append,xh]
 congr 1
 cases h:cT a i k<;>simp[List.filter,h]
def ZF(a:List Ev)(i k:Nat):(fG a i k).length<=k:=by
 unfold fG;rw[List.length_map];have:=xn (cT a i) (xc k);simpa using this
end Q
def NK.cK{e:Ev}(h:NK w g e)(i:w.ownsRow B t sz u n xs)(j:t≠180)(f:w.grownBy w' u.ownBlock):NK w' g e:=by
 have d:=h.lt;unfold NK at*;rw[f.block g d fun e=>by
  rcases i.2 with⟨e1,_⟩|⟨k,b,c,e1,_,a,_⟩
  ·rw[e1]at e;simp[xR]at e
  ·rw[e1]at e;simp[xR]at e;subst e;rw[h]at a;simp at a;exact j a.2.symm]
 exact h
def Oh(ev rg:Value)(d:List Ev)(i:Nat)(w:World)(he:PH w ev d)(aA:∃a n c,rg=Y a n c)(hi:i<L d)(hn:L d<=64):
  Calls prog 138 #[.agg #[ev,rg],E G (i:Int)] w fun e w'=>∃v,e=N v/\PC w' v (mA d i)/\(∀k,v.ownBlock=O k->D (S w)<=k)/\Below (D (S w)) w w':=by
 obtain⟨i0,ax,aC,aD,aE⟩:=info_parts Tryz.PX;obtain⟨ea,ec,rfl,ah⟩:=he.form;obtain⟨ra,rn,rc,rfl⟩:=aA;obtain⟨J,rfl,aw⟩:=ah (by omega);obtain⟨k0,aB,ag⟩:=lW w #[MU J (L d) ec,Y ra rn rc] 80;have ap:=MS he;have p:=MS ag;have ad:MT (∀W:World,Below (D (S w)) w W->∀k,k<L d->W.rangeAt J (k*10) (aG (Q.ev d k)).toList):=fun W q k hk=>jM (ap.cN Z k hk) (q.block J aw)
 have aN:(i:Int)<(L d:Int):=by omega
 have ac:MT (mA d i=if(Q.ev d i).B==0 then fG d i (L d)else[-1]):=Z;have aq:MT (∀k,Q.cT d i k=((Q.ev d k).B==1&&(Q.ev d k).z==(Q.ev d i).z&&(Q.ev d k).value==(Q.ev d i).value&&!((Q.ev d i).step&&k==i+1))):=fun _=>Z
 clear ag he ah;go_enter func138,ntmps138;go_upto_region 1 with fail
 generalize hE:w.alloc (I #[MU J (L d) ec,Y ra rn rc] 80)=W0 at*;have aJ:=jP k0 0 _ Z;have l0:D (S w)<D (S W0):=by omega
 have ae:=MS (ad.o W0 p.o i hi);have ck:=ae.o 0 (E G (Q.ev d i).B) Z;have aL:decide ((i:Int)<0)=U:=decide_eq_false (by omega);clear hE k0 aB;have ak:((Q.ev d i).B != 0)=!((Q.ev d i).B==0):=Z;generalize aM:Q.ev d i=m at*;simp only[Nat.add_zero]at ck
 cases z0:m.B==0
 ·rw[z0]at ak;have HV:MT (mA d i=[-1]):=by unfold MT;rw[ac.o,z0];rfl
  go_wp2;go_ret;refine⟨_,Z,?_,fun k hk=>by simp[xR]at hk;omega,p.alloc (by have:=p.size;omega) _⟩;rw[HV.o];refine Or.inr ⟨D (S W0),1,Z,fun j hj=>?_,by simp⟩;have ay:j=0:=by simp at hj;omega
  subst ay;have h1:=heap_alloc_new W0 (I #[E G (-1)] 3);simp only[World.cell?,h1];rfl
 ·rw[z0]at ak;have HV:MT (mA d i=fG d i (L d)):=by unfold MT;rw[ac.o,z0];rfl
  have V:MT (NK (W0.alloc (I (aG m) 180)) (D (S W0)) m):=NK.new W0 m;have aa:MT (Below (D (S W0)) W0 (W0.alloc (I (aG m) 180))):=(xa _ _).alloc (xF _) _;go_wp2_with(first|(refine fY (.tmp 32) Z Z J (i*10) m Z ae.o ?_));go_loopw[6,37] (fun a j wr=>∃(k:Nat) (v:Value),k<=L d/\j=E G k/\a=v/\MT (wr.ownsRow (D (S W0)) 3 1 v (fG d i k).length ((fG d i k).map (xW G)))/\MT (Below (D (S W0)) W0 wr)/\MT (NK wr (D (S W0)) m)) fun _ j _=>L d-(intOf j).toNat
  case atStart=>exact⟨0,_,xd _,Z,Z,by simpa[MT,fG]using xi _ _ _ _,aa,V⟩
  case round =>
   clear V aa;obtain⟨k,v,hk,rfl,K,HO,HB,HA⟩:=hrel;have K:=K.symm;subst K;have T:∃a c,v=Y a (fG d i k).length c:=by
    rcases HO.2 with⟨e,h0⟩|⟨g',c,aK,e,_⟩
    ·exact⟨C,0,by rw[e,h0]⟩
    ·exact⟨_,c,e⟩
   obtain⟨va,vc,rfl⟩:=T;by_cases hlt:k<L d
   ·have aO:(k:Int)<(L d:Int):=by omega
    have af:=MS (ad.o wr (NE p.o (xF _) HB.o) k hlt);have HS:=MS (Og d i k);have ar:=MS (aq.o k);rw[ar.o]at HS;have aP:=ZF d i k;generalize Q.ev d k=e1 at*;have ab:MT (Below (D (S W0)) W0 (wr.alloc (I (aG e1) 180))):=HB.alloc HB.size _;have s:=MS (HA.alloc (I (aG e1) 180));have x:MT ((wr.alloc (I (aG e1) 180)).ownsRow (D (S W0)) 3 1 (Y va (fG d i k).length vc) (fG d i k).length ((fG d i k).map (xW G))):=bE HO.o fun y e=>xj _ _ _ (HO.lt y e).2;obtain⟨x0,x1,x2,x3,x4,x5,x6,x7,x8,x9,xf,xl⟩:=s.F;clear x0 x1 x2 x5 x6 x7 x9;simp only[aG]at x3 x4 x8 xf xl;have ai:((k:Int)==(i:Int)+1)=(k==i+1):=by
     by_cases h:k=i+1
     ·have h':(k:Int)=(i:Int)+1:=by omega
      rw[beq_iff_eq.2 h',beq_iff_eq.2 h]
     ·have h':¬(k:Int)=(i:Int)+1:=by omega
      rw[beq_eq_false_iff_ne.2 h',beq_eq_false_iff_ne.2 h]
    have aI:MT (∀b:Bool,b=U->fG d i (k+1)=fG d i k++(if b then[(k:Int)]else[])->fG d i (k+1)=fG d i k):=fun b q h=>by rw[h,q];simp
    generalize aj:m.step=sp at*;clear aj
    cases q:e1.B==1&&e1.z==m.z&&e1.value==m.value&&!(sp&&k==i+1)
    ·rw[q]at HS;have HN:MT (fG d i (k+1)=fG d i k):=HS.trans (by simp);cases sp
     case' true =>
      cases z5:k==i+1
      all_goals rw[z5]at ai
     all_goals
      cases z1:e1.B==1
      case' true =>
       cases z2:e1.z==m.z
       case' true=>cases z3:e1.value==m.value
     all_goals
      first
       |(exfalso;simp[z1,z2,z3,z5]at q;done)
       |(exfalso;simp[z1,z2,z3]at q;done)
       |(clear q
         go_wp2_with(first|(refine fY (.tmp 40) Z Z J (k*10) e1 Z af.o ?_));go_roundw
         case rel=>exact⟨k+1,_,by omega,by go_num,Z,by rw[HN.o];exact x,ab,s⟩
         case measure=>simp[intOf];omega)
    ·rw[q]at HS;have HN:MT (fG d i (k+1)=fG d i k++[(k:Int)]):=HS.trans (by simp);simp only[Bool.and_eq_true]at q;obtain⟨⟨⟨z1,z2⟩,z3⟩,z5⟩:=q;cases sp
     case' true=>rw[show(k==i+1)=U by simpa using z5]at ai
     all_goals
      have aQ:D (S W0)<=D (S wr):=HB.size;have BA:Below (wr.alloc (I (aG e1) 180)).heap.size (wr.alloc (I (aG e1) 180)) ((wr.alloc (I (aG e1) 180)).alloc (I #[E G (k:Int)] 3)):=(xa _ _).alloc (xF _) _;have H:MT (((wr.alloc (I (aG e1) 180)).alloc (I #[E G (k:Int)] 3)).ownsRow (D (S W0)) 3 1 (Y va (fG d i k).length vc) (fG d i k).length ((fG d i k).map (xW G))):=bE x.o fun y e=>BA.block y (x.lt y e).2;have au:MT (∀j u,[xW G (k:Int)][j]?=O u->((wr.alloc (I (aG e1) 180)).alloc (I #[E G (k:Int)] 3)).cell? ((⟨D (S wr)+1,0,C⟩:Addr).add j)=O u):=xk (cs:=#[E G (k:Int)]) (t:=3) (fr:=(0,0)) (by have:=heap_alloc_new (wr.alloc (I (aG e1) 180)) (I #[E G (k:Int)] 3);simpa using this);have an:MT (Below (D (S W0)) W0 ((wr.alloc (I (aG e1) 180)).alloc (I #[E G (k:Int)] 3))):=ab.alloc (by simp;omega) _;have al:=MS (s.X BA);clear BA;go_wp2_with(first|(refine fY (.tmp 40) Z Z J (k*10) e1 Z af.o ?_)|(at_builtin;refine wpList_append_lies _ Z (.tmp 71) (.tmp 73) 37 Z (D (S W0)) 3 i0 (E G 0) 1 8 underlying37 ax aC aD aE Z (by decide) _ (fG d i k).length ((fG d i k).map (xW G)) Z (by exact H.o) ⟨D (S wr)+1,0,C⟩ 1 1 [E G (k:Int)] Z Z (by exact au.o) (by simp[xm]) (by decide) (by unfold maxLen;omega) (by omega) (by simp;omega) _ Z ?_;intro gn cn w5 r f aF aH));have ao:MT (Below (D (S W0)) W0 w5):=an.trans ⟨f.os,f.tape,f.output,f.size,fun y hy=>f.block y (by simp;omega) fun e=>by have:=(H.lt y e.symm).1;omega⟩;have am:=MS (al.cK H.o (by decide) f);have av:MT (w5.ownsRow (D (S W0)) 3 1 (MU gn ((fG d i k).length+1) cn) (fG d i (k+1)).length ((fG d i (k+1)).map (xW G))):=by
       unfold MT;rw[HN.o,xh,List.length_append];exact r
      clear r f;go_roundw
      case rel=>exact⟨k+1,_,by omega,by go_num,Z,av,ao,am⟩
      case measure=>simp[intOf];omega
   ·have az:k=L d:=by omega
    go_wp2;go_ret;refine⟨_,Z,?_,fun y hy=>by have:=(HO.lt y hy).1;omega,NE p.o (xF _) HB.o⟩;rw[HV.o,<- az];exact zS HO.o Z
def PC.cK{row:Option Nat}(h:PC w v l)(b:w.grownBy w' row)(a:∀k,v.ownBlock=O k->O k≠row):PC w' v l:=by
 refine h.own w' (fun k e=>b.block k ?_ (a k e)) b.size
 rcases h with⟨e1,_⟩|⟨f,c,e1,_,d,_⟩
 ·rw[e1]at e;simp[xR]at e
 ·rw[e1]at e;simp[xR]at e;omega
def Oi(w w':World)(cs:List (List Int))(e:Ending):Prop:=∃cv vs gb gd,e=N (.agg #[cv,MU gb (L cs) (L cs),MU gd (L cs) (L cs),M U])/\NX w' (D (S w)) cv cs vs/\NM w' gb (PN cs)/\NM w' gd (fJ (L cs))/\D (S w)<=gb/\D (S w)<=gd/\gb≠gd/\cv.ownBlock≠O gd/\(∀u∈vs,∀k,u.ownBlock=O k->D (S w)<=k/\k≠gd)/\Below (D (S w)) w w'
namespace Q
def kT(es:List Ev)(k:Nat):List (List Int):=(xc k).map (mA es)
def Oj(a:List Ev)(k:Nat):kT a (k+1)=kT a k++[mA a k]:=by unfold kT;rw[xp,xh];rfl
def Ol(a:List Ev)(k:Nat):(kT a k).length=k:=by simp[kT]
def ZG(a:List Ev):kT a (L a)=NC a:=rfl
def Om(cs:List (List Int))(c:List Int):PN (cs++[c])=PN cs++[(L c:Int)]:=by simp[PN]
def vH(cs:List (List Int)):(PN cs).length=L cs:=by simp[PN]
end Q
def tY{p x c:Nat}{m:TypeId}{d:List Value}(h:w.ownsRow B t sz v n xs)(r:w.ownsRow p m c u x d)(s:t≠m)(q:w.grownBy w' u.ownBlock):w'.ownsRow B t sz v n xs/\∀k,v.ownBlock=O k->u.ownBlock≠O k:=by
 have a:∀k,v.ownBlock=O k->u.ownBlock≠O k:=fun k e e2=>by
  rcases h.2 with⟨e1,_⟩|⟨F,y,f,e1,_,j,_⟩
  ·rw[e1]at e;simp[xR]at e
  ·rcases r.2 with⟨e3,_⟩|⟨H,z,i,e3,_,b,_⟩
   ·rw[e3]at e2;simp[xR]at e2
   ·rw[e1]at e;rw[e3]at e2;simp[xR]at e e2;rw[e]at j;rw[e2,j]at b;simp at b;exact s b.2
 exact⟨bE h fun k e=>q.block k (h.lt k e).2 fun e2=>a k e e2.symm,a⟩
def NX.aY{m:Value}{r:List Int}(h:NX w B v rs vs)(q:PC w u r)(b:w1.ownsRow B 37 1 m (L rs+1) (vs++[u]))(j:w.grownBy w1 v.ownBlock)(f:∀x∈vs++[u],∀k,x.ownBlock=O k->v.ownBlock≠O k):NX w1 B m (rs++[r]) (vs++[u]):=by
 refine⟨by simpa using b,by simp[h.len],fun i p x a=>?_⟩;have c:=f x (xe a);by_cases hlt:i<L rs
 ·rw[List.getElem?_append_left (by rw[h.len];exact hlt)]at a;rw[List.getElem_append_left hlt];exact(h.y i hlt x a).cK j fun k e=>fun e2=>c k e e2.symm
 ·simp at p;have d:i=L rs:=by omega
  subst d;rw[List.getElem?_append_right (by rw[h.len];exact xF _),h.len]at a;simp at a;subst a;simp;exact q.cK j fun k e=>fun e2=>c k e e2.symm
def NX.grown{row:Option Nat}(h:NX w B v rs vs)(b:w.grownBy w1 row)(f:∀k,v.ownBlock=O k->row≠O k)(a:∀x∈vs,∀k,x.ownBlock=O k->row≠O k):NX w1 B v rs vs :=
 ⟨bE h.own fun k e=>b.block k (h.own.lt k e).2 fun e2=>f k e e2.symm,h.len,fun i d x c=>(h.y i d x c).cK b fun k e=>fun e2=>a x (xe c) k e e2.symm⟩
def PC.fU(h:PC w v l)(k:Nat)(e:v.ownBlock=O k):k<D (S w):=by
 rcases h with⟨e1,_⟩|⟨c,a,e1,_,b,_⟩
 ·rw[e1]at e;simp[xR]at e
 ·rw[e1]at e;simp[xR]at e;omega
def ZH(ev rg:Value)(m:List Ev)(w:World)(he:PH w ev m)(aT:∃a n c,rg=Y a n c)(hn:L m<=64):
  Calls prog 97 #[.agg #[ev,rg]] w fun e w'=>Oi w w' (NC m) e:=by
 obtain⟨i0,aL,aX,aZ,bb⟩:=info_parts Tryz.PX;obtain⟨j0,aO,aU,aV,aW⟩:=info_parts Tryz.infoRow;obtain⟨ea,ec,rfl,bk⟩:=he.form;obtain⟨ra,rn,rc,rfl⟩:=aT;obtain⟨k0,k1,br,ar⟩:=mZ w #[Y ea (L m) ec,Y ra rn rc] #[Y C 0 0,Y C 0 0,Y C 0 0,M U] 80 92;have aE:=MS (he.X ar);have az:=MS ar;go_enter func97,ntmps97;go_upto_region 1 with fail
 generalize hE:(w.alloc (I #[Y ea (L m) ec,Y ra rn rc] 80)).alloc (I #[Y C 0 0,Y C 0 0,Y C 0 0,M U] 92)=W0 at*;have aI:=cA k0;have l0:D (S w)<D (S W0):=by omega
 have l1:D (S w)+1<D (S W0):=by omega
 have K1:=MS k1;go_wp2;go_loopw[3,4,10] (fun a b j wr=>∃(k:Nat) (cv J:Value) (vs:List Value),k<=L m/\j=E G k/\a=cv/\b=J/\MT (NX wr (D (S W0)) cv (kT m k) vs)/\MT (wr.ownsRow (D (S W0)) 3 1 J k ((PN (kT m k)).map (xW G)))/\MT (∀u∈vs,∀y,u.ownBlock=O y->D (S W0)<=y/\y<D (S wr)/\J.ownBlock≠O y/\cv.ownBlock≠O y)/\MT (Below (D (S W0)) W0 wr)) fun _ _ j _=>L m-(intOf j).toNat
 case atStart=>exact⟨0,_,_,[],xd _,Z,Z,Z,⟨by simpa[kT]using xi _ _ _ _,Z,fun i h=>by simp[kT]at h⟩,by simpa[MT,kT,PN]using xi _ _ _ _,by simp[MT],xa _ _⟩
 case round =>
  obtain⟨k,cv,J,vs,hk,rfl,af,ae,HC,HO,HD,HB⟩:=hrel;have af:=af.symm;subst af;have ae:=ae.symm;subst ae;by_cases hlt:k<L m
  ·have bo:(k:Int)<(L m:Int):=by omega
   have d0:=fL HB.o l0 aI;have aF:=MS (aE.X HB.o);have HS:=MS (Oj m k);have bp:(mA m k).length<=64:=by
    unfold mA
    split
    ·have:=ZF m k (L m);unfold fG at this;omega
    ·simp
   have F:=Ol m k;obtain⟨ca,cc,aa,_⟩:=HC.form;rw[F]at aa;go_upto_region 7 with(first|(go_at_call 138;refine(Oh _ _ m k _ aF.o ⟨_,_,_,Z⟩ hlt hn).mono ?_;rintro e w1 ⟨mv,rfl,ax,aP,W⟩))
   obtain⟨K,T,aQ,_⟩:=ax.form;generalize bq:mA m k=s at*;subst aQ;have B1:MT (Below (D (S W0)) W0 w1):=NE HB.o (xF _) W;have C1:=MS (HC.X W);have O1:MT (w1.ownsRow (D (S W0)) 3 1 J k ((PN (kT m k)).map (xW G))):=bE HO.o fun y e=>W.block y (HO.lt y e).2;have M1:=MS ax;have bg:=W.size;have aK:D (S W0)<=D (S w1):=B1.size;have aB:MT ((kT m k).length=k):=F;have ac:MT ((w1.alloc (I #[Y K (L s) T] 37)).ownsRow (D (S W0)) 37 1 cv k vs):=by
    have r:=C1.own;rw[F]at r;exact bE r fun y e=>xj _ _ _ (r.lt y e).2
   have aG:MT (∀j u,[xb K (L s) T][j]?=O u->(w1.alloc (I #[Y K (L s) T] 37)).cell? ((⟨D (S w1),0,C⟩:Addr).add j)=O u):=xk (cs:=#[Y K (L s) T]) (t:=37) (fr:=(0,0)) (heap_alloc_new w1 _);subst aa;go_upto_region 8 with(first|(at_builtin;refine wpList_append_lies _ Z (.tmp 16) (.tmp 18) 23 Z (D (S W0)) 37 j0 (Y C 0 0) 1 24 underlying23 aO aU aV aW Z (by decide) (Y ca k cc) k vs Z (by exact ac.o) ⟨D (S w1),0,C⟩ 1 1 [Y K (L s) T] Z Z (by exact aG.o) (by simp[xm]) (by decide) (by unfold maxLen;omega) (by omega) (by simp;omega) _ Z ?_;intro gn cn z ag d ao be))
   have au:∀y,(xb ca k cc).ownBlock=O y->y<D (S wr):=fun y e=>(HC.own.lt y e).2
   have ab:∀y,J.ownBlock=O y->y<D (S wr):=fun y e=>(HO.lt y e).2
   have BA:Below (D (S w1)) w1 (w1.alloc (I #[Y K (L s) T] 37)):=(xa _ _).alloc (xF _) _;have av:∀x∈vs++[xb K (L s) T],∀y,x.ownBlock=O y->(xb ca k cc).ownBlock≠O y/\J.ownBlock≠O y/\D (S W0)<=y/\y<D (S w1):=fun x H y e=>by
    rcases List.mem_append.1 H with H|H
    ·obtain⟨q1,q2,q3,q4⟩:=HD.o x H y e;exact⟨q4,q3,q1,by omega⟩
    ·simp at H;subst H;have q1:=aP y e;exact⟨fun e2=>by have:=au y e2;omega,fun e2=>by have:=ab y e2;omega,by have:=HB.size;omega,M1.fU y e⟩
   have C2:MT (NX z (D (S W0)) (MU gn (k+1) cn) (kT m (k+1)) (vs++[Y K (L s) T])):=by
    unfold MT;rw[HS.o];exact(C1.X BA).aY (M1.X BA) (by rw[aB.o];exact ag) d fun x H y e=>(av x H y e).1
   have O2:=tY (bE O1.o fun y e=>BA.block y (O1.lt y e).2) ac.o (by decide) d;have bh:=MS O2.1;have bi:D (S w1)+1<=D (S z):=by have:=d.size;simp at this;omega
   have B2:MT (Below (D (S W0)) W0 z):=(B1.alloc aK _).trans ⟨d.os,d.tape,d.output,d.size,fun y hy=>d.block y (by simp;omega) fun e=>by have:=(ac.lt y e.symm).1;omega⟩;have ai:MT ((xb ca k cc).ownBlock=O gn\/D (S w1)<=gn):=by
    rcases ao with r|r
    ·exact Or.inl r
    ·exact Or.inr (by simp at r;omega)
   have aj:=MS av;have aA:MT (∀y,J.ownBlock=O y->(xb ca k cc).ownBlock≠O y/\y<D (S wr)):=fun y e=>⟨O2.2 y e,ab y e⟩
   have al:MT ((z.alloc (I #[E G (L s:Int)] 3)).ownsRow (D (S W0)) 3 1 J k ((PN (kT m k)).map (xW G))):=bE O2.1 fun y e=>xj _ _ _ (O2.1.lt y e).2;have aH:MT (∀j u,[xW G (L s:Int)][j]?=O u->(z.alloc (I #[E G (L s:Int)] 3)).cell? ((⟨D (S z),0,C⟩:Addr).add j)=O u):=xk (cs:=#[E G (L s:Int)]) (t:=3) (fr:=(0,0)) (heap_alloc_new z _);obtain⟨ba,bc,ad⟩:∃a c,J=Y a k c:=by
    rcases HO.2 with⟨e,h0⟩|⟨g',c,am,e,_⟩
    ·exact⟨C,0,by rw[e,h0]⟩
    ·exact⟨_,c,e⟩
   subst ad;go_wp2_with(first|(at_builtin;refine wpList_append_lies _ Z (.tmp 20) (.tmp 23) 37 Z (D (S W0)) 3 i0 (E G 0) 1 8 underlying37 aL aX aZ bb Z (by decide) (Y ba k bc) k ((PN (kT m k)).map (xW G)) Z (by exact al.o) ⟨D (S z),0,C⟩ 1 1 [E G (L s:Int)] Z Z (by exact aH.o) (by simp[xm]) (by decide) (by unfold maxLen;omega) (by omega) (by simp;omega) _ Z ?_;intro g3 c3 w3 ah f ap bf));have ay:Below (D (S z)) z (z.alloc (I #[E G (L s:Int)] 3)):=(xa _ _).alloc (xF _) _;have C3:MT (NX w3 (D (S W0)) (MU gn (k+1) cn) (kT m (k+1)) (vs++[Y K (L s) T])):=(C2.X ay).grown f fun y e e2=>by
    simp[xR]at e;obtain⟨q1,q2⟩:=aA.o y e2
    rcases ai.o with V|V
    ·exact q1 (by rw[V,e])
    ·omega fun x H y e=>(aj.o x H y e).2.1
   have O3:MT (w3.ownsRow (D (S W0)) 3 1 (MU g3 (k+1) c3) (k+1) ((PN (kT m (k+1))).map (xW G))):=by
    unfold MT;rw[HS.o,Om,xh];exact ah
   have B3:MT (Below (D (S W0)) W0 w3):=(B2.alloc (by omega) _).trans ⟨f.os,f.tape,f.output,f.size,fun y hy=>f.block y (by simp;omega) fun e=>by have:=(al.lt y e.symm).1;omega⟩;have bj:D (S z)+1<=D (S w3):=by have:=f.size;simp at this;omega
   have D3:MT (∀u∈vs++[xb K (L s) T],∀y,u.ownBlock=O y->D (S W0)<=y/\y<D (S w3)/\(MU g3 (k+1) c3).ownBlock≠O y/\(MU gn (k+1) cn).ownBlock≠O y):=fun u hu y e=>by
    obtain⟨q1,q2,q3,q4⟩:=aj.o u hu y e;refine⟨q3,by omega,fun e2=>?_,fun e2=>?_⟩
    ·simp[xR]at e2
     rcases ap with V|V
     ·exact q2 (by rw[V,e2])
     ·simp at V;omega
    ·simp[xR]at e2
     rcases ai.o with V|V
     ·exact q1 (by rw[V,e2])
     ·omega
   go_roundw
   case rel=>exact⟨k+1,_,_,_,by omega,by go_num,Z,Z,C3,O3,D3,B3⟩
   case measure=>simp[intOf];omega
  ·have aw:k=L m:=by omega
   have HL:MT ((PN (NC m)).length=(NC m).length):=vH _;have ak:MT ((NC m).length=L m):=by simp[MT,NC]
   have C0:MT (NX wr (D (S W0)) cv (NC m) vs):=by have r:=HC.o;rw[aw,ZG]at r;exact r
   have O0:MT (PC wr J (PN (NC m))):=by
    have r:=HO.o;rw[aw,ZG]at r;exact zS r (by rw[HL.o,ak.o])
   have aD:=MS (fun y e=>(HC.own.lt y e).2:∀y,cv.ownBlock=O y->y<D (S wr));obtain⟨ca,cc,aa,_⟩:=C0.form;obtain⟨ba,bc,ad,_⟩:=O0.form;subst aa ad;go_wp2_with(first|(go_at_call 92;refine(LM _ (PN (NC m)) _ O0.o (by rw[HL.o,ak.o];omega)).mono ?_;rintro e z ⟨v1,v2,v3,rfl,⟨gb,gd,rfl,rfl,rfl,aM,aN,bl,bm,aR⟩,aq⟩;have B2:MT (Below (D (S W0)) W0 z):=NE HB.o (xF _) aq;have K2:=MS ((B2.block _ l1).trans K1.o);obtain⟨t0,t1,t2,t3,tf,tl⟩:=yI K2.o;have IB:=MS aM;have ID:=MS aN;have C2:=MS (C0.X aq);rw[HL.o]));obtain⟨s0,s1,s2⟩:=DI (s0:=Y ca (NC m).length cc) (s1:=MU gb (NC m).length (NC m).length) (s2:=MU gd (NC m).length (NC m).length) (s3:=M U) K2.o;have bs:=HB.size;have an:=ID.o;rw[HL.o]at an;have aS:∀{B n sz:Nat} {t:TypeId} {v:Value} {xs:List Value},z.ownsRow B t sz v n xs->t≠92->∀k,v.ownBlock=O k->k≠D (S w)+1:=fun h ht k e e2=>by
    rcases h.2 with⟨e1,_⟩|⟨g1,c1,bd,e1,_,r,_⟩
    ·rw[e1]at e;simp[xR]at e
    ·rw[e1]at e;simp[xR]at e;rw[e,e2,K2.o]at r;simp at r;exact ht r.2.symm
   refine qW (p:=2) (D (S w)+1) _ (by kernel_rfl) underlying92 Z (by kernel_rfl) Z (by exact s0) Z ⟨_,vs,gb,gd,Z,⟨?_,C2.len,fun i hi x H=>?_⟩,IB.aC (s1 _ (by omega)),an.aC (s1 _ (by omega)),by omega,by omega,aR,fun e=>by have:=aD.o gd e;omega,fun u hu y e=>⟨by have:=(HD.o u hu y e).1;omega,by have:=(HD.o u hu y e).2.1;omega⟩,s2 _ _ (by omega) (NE az.o (xF _) B2.o)⟩
   ·have r:=bE C2.own fun k e=>s1 k (aS C2.own (by decide) k e);refine⟨r.1,?_⟩
    rcases r.2 with h0|⟨g',aJ,am,e,bn,q⟩
    ·exact Or.inl h0
    ·exact Or.inr ⟨g',aJ,am,e,by omega,q⟩
   ·have hr:=C2.y i hi x H;refine hr.own _ (fun k e=>s1 k (by have:=(HD.o x (xe H) k e).1;omega)) ?_;have:=(s2 z 0 (xd _) (xa _ _)).size;exact this
structure RdOn(w:World)(g o:Nat)(cv:Value)(vs:List Value)(gb gd:Nat)(cs:List (List Int))(ds:List Int)(rest:List (List Int)):Prop where
 c0:A w ⟨g,o,C⟩=O cv
 y:NX w 0 cv cs vs
 OS:RT w g (o+1) gb gd (PN cs) ds rest
 nc:cv.ownBlock≠O gd/\cv.ownBlock≠O g
 ne:∀u∈vs,∀k,u.ownBlock=O k->k≠gd/\k≠g
def RdOn.X{c:Value}{e gd:Nat}{cs:List (List Int)}{d:List Int}{rest:List (List Int)}(h:RdOn w g o c vs e gd cs d rest)(a:Below (D (S w)) w w'):RdOn w' g o c vs e gd cs d rest:=by
 obtain⟨b,f⟩:=h.OS.OS;exact⟨(a.cell f.lt).trans h.c0,h.y.X a,h.OS.X a,h.nc,h.ne⟩
def NX.cL{gd:Nat}(h:NX w B v rs vs)(b:En w w' g o gd)(d:v.ownBlock≠O gd/\v.ownBlock≠O g)(a:∀u∈vs,∀k,u.ownBlock=O k->k≠gd/\k≠g):NX w' B v rs vs :=
 ⟨bE h.own fun k e=>b.block k (fun e2=>d.2 (by rw[e,e2])) fun e2=>d.1 (by rw[e,e2]),h.len,fun i f x c=>(h.y i f x c).own w' (fun k e=>b.block k (a x (xe c) k e).2 (a x (xe c) k e).1) (by rw[b.size];exact xF _)⟩
def On(g o:Nat)(f:Value)(vs:List Value)(a gd:Nat)(cs:List (List Int))(i:List Int)(rest:List (List Int))(w:World)(h:RdOn w g o f vs a gd cs i rest)(x:L cs<10000)(p:∀b∈PN cs,b<1000000000):
  Calls prog 93 #[.pointer (O ⟨g,o,C⟩)] w fun e w'=>(rest=[]/\e=N (M U)\/∃r q,rest=r::q/\e=N (M true)/\RdOn w' g o f vs a gd cs r q/\PE (PN cs) r)/\En w w' g (o+1) gd:=by
 have H:=MS h;obtain⟨b,j⟩:=h.OS.OS;go_enter func93,ntmps93;go_wp2_with(first|(go_at_call 107;refine(IQ g (o+1) a gd (PN cs) i rest _ H.OS (by rw[vH];exact x) p).mono ?_;rintro e w' ⟨k,m⟩;have d:=MS m;rcases k with⟨c,rfl⟩|⟨r,q,c,rfl,j,s⟩))
 ·go_ret;exact⟨Or.inl ⟨c,Z⟩,d.o⟩
 ·go_ret;have T:=d.o;exact⟨Or.inr ⟨r,q,c,Z,⟨(T.cell o (by omega)).trans H.c0,H.y.cL T H.nc H.ne,j,H.nc,H.ne⟩,s⟩,T⟩
namespace Q
def uZ(cs:List (List Int))(ds:List Int)(i:Nat):Int:=(cs.getD i []).getD (ds.getD i 0).toNat (-1)
def Oo(cs:List (List Int))(a:List Int):eW cs a=(xc (L cs)).map (uZ cs a):=rfl
def Oq(cs:List (List Int))(i:Nat)(h:i<L cs):(PN cs).getD i 0=(cs[i].length:Int):=by
 rw[gS _ _ (by rw[vH];exact h)];simp[PN]
end Q
def Ot(g o:Nat)(cv:Value)(vs:List Value)(gb gd:Nat)(cs:List (List Int))(a:List Int)(rest:List (List Int))(w:World)(h:RdOn w g o cv vs gb gd cs a rest)(hd:PE (PN cs) a)(hn:L cs<1000)(hb:∀c∈cs,L c<1000):
  Calls prog 57 #[.pointer (O ⟨g,o,C⟩)] w fun e w'=>∃gr,e=N (MU gr (L cs) (L cs))/\NM w' gr (eW cs a)/\D (S w)<=gr/\Below (D (S w)) w w':=by
 have au:∀w,(xo 37 (E G (L cs:Int)) (E G (L cs:Int))).run prog w=.ok (MU (D (S w)) (L cs) (L cs)) (w.alloc (I (madeCells #[E G 0] (L cs)) 3)):=
  fun w=>run_make_row' 37 3 (E G 0) 8 underlying37 Tryz.OC Z G G (L cs) (by omega) (by omega) w
 obtain⟨bg,z⟩:=h.OS.OS;have ak:L a=L cs:=by rw[z.len,vH]
 obtain⟨ca,cc,rfl,ai⟩:=h.y.form;have c0:=h.c0;have c2:=z.c1;rw[ak]at c2;have am:=z.lt;have ac:=MS z.digits;have al:=z.digits.lt;have s:=MS h.y;have ab:MT (∀i (hi:i<L cs),0<=a.getD i 0/\a.getD i 0<(cs[i].length:Int)):=fun i hi=>by
  have x:=hd.rng i (by omega);rw[Oq cs i hi]at x;rw[gS a i (by omega)];exact x
 have ae:=MS (Oo cs a);have aa:=MS hb;have ad:MT (NM (w.alloc (I (madeCells #[E G 0] (L cs)) 3)) (D (S w)) (gW (uZ cs a) (L cs) 0)):=by
  unfold MT NM;rw[LK,<- xN];exact heap_alloc_new w _
 have ag:A w ⟨g,o+2,C⟩=O (MU gd (L cs) (L cs)):=c2;go_enter func57,ntmps57;go_wp2;go_loopw[17] (fun j wr=>∃(k:Nat),k<=L cs/\j=E G k/\MT (NM wr (D (S w)) (gW (uZ cs a) (L cs) k))/\MT (Below (D (S w)) w wr)) fun j _=>L cs-(intOf j).toNat
 case atStart=>exact⟨0,xd _,Z,ad,(xa _ _).alloc (xF _) _⟩
 case round =>
  obtain⟨k,hk,rfl,X,HB⟩:=hrel;by_cases hlt:k<L cs
  ·have ar:(k:Int)<(L cs:Int):=by omega
   obtain⟨bc,rfl,_,ah,H⟩:=ai (by omega);have T:k<L vs:=by rw[s.len];exact hlt
   have r:=s.y k hlt vs[k] (List.getElem?_eq_getElem T);obtain⟨ma,mc,W,V⟩:=r.form;have aj:=ab.o k hlt;obtain⟨d,f⟩:∃d:Nat,a.getD k 0=(d:Int):=⟨(a.getD k 0).toNat,by omega⟩;have b:d<cs[k].length:=by omega
   obtain⟨gm,J,K,F⟩:=V (by omega);have e1:=(HB.cell (p:=⟨bc,k,C⟩) ah).trans (H k T);rw[W,J]at e1;have d2:=(HB.cell (p:=⟨g,o+2,C⟩) am).trans ag;have dg:A wr ⟨gd,k,C⟩=O (E G (d:Int)):=by rw[<- f];exact(HB.cell (p:=⟨gd,k,C⟩) al).trans (ac.eC k (by omega))
   have dm:A wr ⟨gm,d,C⟩=O (E G (cs[k].getD d (-1))):=by rw[gS _ _ b];exact(HB.cell (p:=⟨gm,d,C⟩) K).trans (F d b)
   have cp:=X.eC k (by rw[CL];exact hlt);have fp:=X.free k;have m:=MS ((X.set k (-1)).set k (cs[k].getD d (-1)));have q:=MS (GT (uZ cs a) (L cs) k hlt);have af:MT (uZ cs a k=cs[k].getD d (-1)):=by
    unfold MT uZ;have e2:cs.getD k []=cs[k]:=by simp[hlt]
    rw[e2,f];rfl
   rw[af.o]at q;rw[List.set_set,q.o]at m;have aq:(d:Int)<(cs[k].length:Int):=by omega
   have ao:=aa.o cs[k] (List.getElem_mem hlt);clear f W V F r H aj J;generalize cs[k].getD d (-1)=val at*;generalize ap:cs[k].length=cl at*;generalize(gW (uZ cs a) (L cs) k).getD k 0=av at*;go_wp2;go_roundw
   case rel=>exact⟨k+1,by omega,by go_num,m,(HB.setCell (p:=⟨D (S w),k,C⟩) (xF _) _).setCell (p:=⟨D (S w),k,C⟩) (xF _) _⟩
   case measure=>simp[intOf];omega
  ·have an:k=L cs:=by omega
   go_wp2;go_ret;refine⟨D (S w),Z,?_,xF _,HB.o⟩;have x:=X.o;rw[an,LZ,<- ae.o]at x;exact x
