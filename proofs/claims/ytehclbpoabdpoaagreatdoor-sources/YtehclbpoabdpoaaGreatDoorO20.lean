import Derived.Test.YtehclbpoabdpoaaGreatDoorO17
set_option linter.all false
set_option maxHeartbeats 0
namespace Go.Proofs.YtehclbpoabdpoaaGreatDoor
open Go Go.RowKit Go.Proofs.Tryz P Q
open scoped Classical
set_option maxRecDepth 1000000
variable {W w w':World}{o:Obj}{t:TypeId}{g n:Nat}{l:List Nat}
open _root_.Array renaming size->D
open Go.World renaming heap->S,cell?->T
open Option renaming none->Y,some->U
open Go.Obj renaming cells->O
open Go.Value renaming slice->I,int->M,agg->L
open Bool renaming false->N
open Go.IntKind renaming i64->H
open Nat renaming le_refl->xF,lt_of_lt_of_le->xa,zero_le->xb
open List renaming range->xR
open Go.RowKit.Below renaming refl->xW,heap_setCell->xc
def mP{p:Addr}(h:p.block<D (S w)):(w.alloc o).cell? p=T w p:=by simp only[World.cell?,Below.heap_alloc _ _ _ h]
def sQ(a:Below (w.alloc (O #[I Y 0 0] t)).heap.size (w.alloc (O #[I Y 0 0] t)) w'):T w' ⟨D (S w),0,Y⟩=U (I Y 0 0)/\w'.frozen? ⟨D (S w),0,Y⟩=N/\w'.heap[D (S w)]?=U (O #[I Y 0 0] t (0,0)):=by
 have h:=heap_alloc_new w (O #[I Y 0 0] t);obtain⟨c,f,l⟩:=cQ h;exact⟨(a.cell (p:=⟨D (S w),0,Y⟩) l).trans c,(a.frozen (p:=⟨D (S w),0,Y⟩) l).trans f,(a.block _ l).trans h⟩
def YR(a:Below (D (S w)) w w')(h:T w ⟨g,0,Y⟩=U (I Y 0 0)/\w.frozen? ⟨g,0,Y⟩=N/\w.heap[g]?=U (O #[I Y 0 0] t (0,0))):T w' ⟨g,0,Y⟩=U (I Y 0 0)/\w'.frozen? ⟨g,0,Y⟩=N/\w'.heap[g]?=U (O #[I Y 0 0] t (0,0)):=by
 have l:=World.block_lt_of_cell? w _ h.1;exact⟨(a.cell (p:=⟨g,0,Y⟩) l).trans h.1,(a.frozen (p:=⟨g,0,Y⟩) l).trans h.2.1,(a.block g l).trans h.2.2⟩
def YS{q:Nat}(a:Below (D (S W)) W w)(b:Eb w q n l):∃gx qx,Value.pointer (U ⟨D (S w),0,Y⟩)=.pointer (U ⟨gx,0,Y⟩)/\(w.alloc (O #[MU q n n] 83)).heap[gx]?=U (O #[MU qx n n] 83 (0,0))/\Eb (w.alloc (O #[MU q n n] 83)) qx n l/\Below (D (S W)) W (w.alloc (O #[MU q n n] 83))/\D (S W)<=gx :=
 ⟨D (S w),q,Z,heap_alloc_new w _,b.X ((xW _ _).alloc (xF _) _),a.alloc a.size _,a.size⟩
def DM{q:Nat}(f:Below (D (S W)) W w)(a:D (S W)<=g)(b:Eb w q n l)(d:w.heap[g]?=U (O #[I Y 0 0] 83 (0,0))):∃gx qx,Value.pointer (U ⟨g,0,Y⟩)=.pointer (U ⟨gx,0,Y⟩)/\(w.setCell ⟨g,0,Y⟩ (MU q n n)).heap[gx]?=U (O #[MU qx n n] 83 (0,0))/\Eb (w.setCell ⟨g,0,Y⟩ (MU q n n)) qx n l/\Below (D (S W)) W (w.setCell ⟨g,0,Y⟩ (MU q n n))/\D (S W)<=gx:=by
 have c:q≠g:=fun e=>by
  have:=b.at_;unfold OB at this;rw[e,d]at this;simp at this
 refine⟨g,q,Z,?_,⟨b.at_.aC (xc _ _ _ _ c),b.len,b.fits⟩,f.setCell (p:=⟨g,0,Y⟩) a _,a⟩;rw[bX d];rfl
def qO{P:Program}{c:Code}{Q:Exit->Act->World->Prop}{a:Act}(R:World->Prop)(h:R w)(k:∀w,R w->Code.wp P c Q a w):Code.wp P c Q a w:=k w h
def oI:Below (D (S w)) w (w.alloc o):=(xW _ _).alloc (xF _) _
def CC{v:Value}(h:Below (w.alloc (O #[v] t)).heap.size (w.alloc (O #[v] t)) w'):Below (D (S w)) w w'/\T w' ⟨D (S w),0,Y⟩=U v/\D (S w)<D (S w'):=by
 have a:=h.size;simp at a;exact⟨oI.trans (h.mono (by simp)),(h.cell (p:=⟨D (S w),0,Y⟩) (by simp)).trans (cA (heap_alloc_new w _) 0),by omega⟩
def xX(w:World)(g:Nat):Prop:=T w ⟨g,0,Y⟩=U (I Y 0 0)/\w.frozen? ⟨g,0,Y⟩=N/\w.heap[g]?=U (O #[I Y 0 0] 83 (0,0))
def AO{b q:Nat}{u:Value}(k:w'.heap[b]?=U (O #[I Y 0 0] 83 (0,0)))(h:Eb w' q n l)(B:Below (D (S w)) w w')(a:D (S w)<=b):Eb (w'.setCell ⟨b,0,Y⟩ u) q n l/\Below (D (S w)) w (w'.setCell ⟨b,0,Y⟩ u):=
 ⟨⟨h.at_.aC (xc _ _ _ _ (by have:=h.at_;unfold OB at this;intro e;rw[e]at this;rw[k]at this;simp at this)),h.len,h.fits⟩,B.setCell (p:=⟨b,0,Y⟩) a _⟩
def kM{c:Array Value}(h:w.heap[g]?=U (O c t (0,0))):(∀i,T w ⟨g,i,Y⟩=c[i]?)/\(∀j,w.frozen? ⟨g,j,Y⟩=N)/\g<D (S w):=
 ⟨cA h,fun j=>by simp[World.frozen?,h],(Array.getElem?_eq_some_iff.1 h).1⟩
def NK.fs{e:Ev}(h:NK w g e):(∀i,T w ⟨g,i,Y⟩=#[Value.int H e.B,M H e.j,M H e.block,M H e.z,M H e.value,M H e.q,M H e.scope,M H e.u,.bool e.step,M .u64 (e.h:Nat)][i]?)/\(∀j,w.frozen? ⟨g,j,Y⟩=N)/\g<D (S w):=
 ⟨cA h,fun i=>by unfold NK at h;simp[World.frozen?,h],(Array.getElem?_eq_some_iff.1 h).1⟩
def LP(i k:Nat):((i:Int)==(k:Int))=!(i != k):=by
 by_cases h:i=k
 ·subst h;simp
 ·have a:¬(i:Int)=(k:Int):=by omega
  rw[beq_eq_false_iff_ne.2 a,show(i != k)=true by simpa using h];rfl
def Na(a:FA)(f:Eu)(i k:Nat)(e1 e2:Ev)(w:World)(y:Ed w a f):
  Calls prog 125 #[L (OK a),M H (i:Int),L (aG e1),M H (k:Int),L (aG e2)] w fun e w'=>e=.returned (.bool (f.bV i e1 k e2))/\Below (D (S w)) w w':=by
 have m:MT (f.bV i e1 k e2=(e1.B==1&&i != k&&!Q.cC f.G i k&&e1.z==e2.z&&QH e2)):=Z;obtain⟨x,c,q,hx⟩:=y.form;have s:=y.n64;have K:=y.len;obtain⟨n,ev,g1,v,g3,g4,g5,g6,g7,g8,g9⟩:=a;simp only at q s K hx;subst q;simp only[OK];obtain⟨k0,k1,k2,aa,p⟩:=xH w #[I x n c,MU g1 n n,MU v n n,MU g3 n n,MU g4 n n,MU g5 n n,MU g6 n n,MU g7 n n,MU g8 n n,MU g9 n n] (aG e1) (aG e2) 85 180 180;have E:=MS (y.r2.X p);have d:=MS p;have V:MT (NK _ _ e1):=k1;have E2:MT (NK _ _ e2):=k2;simp only[aG]at *;have u:(e1.B != 1)=!(e1.B==1):=Z;have r:=LP i k
 cases z1:e1.B==1
 ·rw[z1]at u;have j:MT (f.bV i e1 k e2=N):=by unfold MT;rw[m.o,z1];rfl
  go_enter func125,ntmps125;go_wp2;go_ret;rw[j.o];exact⟨Z,d.o⟩
 rw[z1]at u
 cases z2:i != k
 ·rw[z2]at r;have j:MT (f.bV i e1 k e2=N):=by unfold MT;rw[m.o,z1,z2];rfl
  go_enter func125,ntmps125;go_wp2;go_ret;rw[j.o];exact⟨Z,d.o⟩
 rw[z2]at r
 cases z3:cC f.G (i:Int) (k:Int)
 rotate_left
 ·have j:MT (f.bV i e1 k e2=N):=by unfold MT;rw[m.o,z1,z2,z3];rfl
  go_enter func125,ntmps125;go_wp2_with(first|(go_at_call 103;refine(xI v n f.G (i:Int) (k:Int) _ E.o).mono ?_;rintro e w1 ⟨rfl,b⟩;rw[z3]));go_ret;rw[j.o];exact⟨Z,NE d.o (xF _) b⟩
 cases z4:e1.z==e2.z
 ·have j:MT (f.bV i e1 k e2=N):=by unfold MT;rw[m.o,z1,z2,z3,z4];rfl
  go_enter func125,ntmps125;go_wp2_with(first|(go_at_call 103;refine(xI v n f.G (i:Int) (k:Int) _ E.o).mono ?_;rintro e w1 ⟨rfl,b⟩;rw[z3];have A:=MS (V.X b);obtain⟨x0,x1,x2,x3,x4,x5,x6,x7,x8,x9,xf,xl⟩:=A.F;have C:=MS (E2.X b);obtain⟨y0,y1,y2,y3,y4,y5,y6,y7,y8,y9,yf,yl⟩:=C.F));go_ret;rw[j.o];exact⟨Z,NE d.o (xF _) b⟩
 ·have j:MT (f.bV i e1 k e2=QH e2):=by unfold MT;rw[m.o,z1,z2,z3,z4];rfl
  go_enter func125,ntmps125;go_wp2_with(first|(go_at_call 103;refine(xI v n f.G (i:Int) (k:Int) _ E.o).mono ?_;rintro e w1 ⟨rfl,b⟩;rw[z3];have A:=MS (V.X b);obtain⟨x0,x1,x2,x3,x4,x5,x6,x7,x8,x9,xf,xl⟩:=A.F;have C:=MS (E2.X b);obtain⟨y0,y1,y2,y3,y4,y5,y6,y7,y8,y9,yf,yl⟩:=C.F)|(go_at_call 151;refine(GE e2 _).mono ?_;rintro e w2 ⟨rfl,J⟩));go_ret;rw[j.o];exact⟨Z,NE (NE d.o (xF _) b) (xF _) J⟩
def Nb(a:FA)(f:Eu)(d:Nat)(rd:List Nat)(i:Nat)(m:List Nat)(w:World)(V:Ed w a f)(q:Eb w d a.n rd)(b:Eb w i a.n m):
  Calls prog 70 #[L (OK a),L #[MU d a.n a.n],L #[MU i a.n a.n]] w fun e w'=>mN w w' a.n (dZ rd m) e:=by
 obtain⟨x,c,j,_⟩:=V.form;obtain⟨n,ev,s,u,v,A,E,F,G,J,K⟩:=a;simp only at j q b;subst j;have HR:=MS q;have HB:=MS b;simp only[OK];go_enter func70,ntmps70;go_upto_region 1 with fail
 refine qO (fun W=>(∀w',Below (D (S W)) W w'->(T w' ⟨D (S w)+1,0,Y⟩=U (MU d n n)/\T w' ⟨D (S w)+2,0,Y⟩=U (MU i n n))/\w'.heap[D (S w)+3]?=U (O #[I Y 0 0] 83 (0,0)))/\Below (D (S w)) w W/\D (S w)+3<D (S W)) ?_ ?_
 ·have h:=YI w (OK (FA.mk n (I x n c) s u v A E F G J K)) #[MU d n n] #[MU i n n] #[I Y 0 0] 85 83 83 83;exact⟨fun w' b=>⟨⟨(fL b (by simp) (cA h.2.1)) 0,(fL b (by simp) (cA h.2.2.1)) 0⟩,(b.block _ (by simp)).trans h.2.2.2.1⟩,h.2.2.2.2.2,by simp⟩
 rintro W ⟨C,b,l⟩;have C:=MS C;have B:=MS b;obtain⟨c1,c2⟩:=(C.o W (xW _ _)).1;go_wp2_with(first
  |(go_at_call_of 102 (MU d n n);refine(oE d i n _ _ _ (HR.X B.o) (HB.X B.o)).mono ?_;rintro e w1 ⟨q1,rfl,hq,b⟩;have k:=MS b;have z:=(cQ (C.o _ k.o).2).2.1;have y:=(cQ (C.o _ k.o).2).1;have Q1:=MS hq))
 all_goals
  (try go_wp2)
  have r:=(C.o _ k.o).2;exact nL (p:=6) (D (S w)+3) _ (by kernel_rfl) Z (by exact bX r 0 _) Z ⟨q1,Z,AO r Q1.o (NE B.o (xF _) k.o) (by omega)⟩
def Nc(a:FA)(f:Eu)(i:Nat)(y:List Nat)(d:Nat)(s:List Nat)(w:World)(u:Ed w a f)(v:Eb w i a.n y)(b:Eb w d a.n s):
  Calls prog 113 #[L (OK a),L #[MU i a.n a.n],L #[MU d a.n a.n]] w fun e w'=>e=.returned (.bool (f.kB y s))/\Below (D (S w)) w w':=by
 obtain⟨x,c,k,_⟩:=u.form;obtain⟨n,ev,K,V,g3,g4,g5,g6,j,g8,g9⟩:=a;simp only at k v b;subst k;have E:=MS u;have F:=MS v;have HB:=MS b;simp only[OK];go_enter func113,ntmps113;go_upto_region 1 with fail
 refine qO (fun W=>(∀w',Below (D (S W)) W w'->T w' ⟨D (S w),7,Y⟩=U (MU j n n)/\T w' ⟨D (S w)+1,0,Y⟩=U (MU i n n)/\T w' ⟨D (S w)+2,0,Y⟩=U (MU d n n))/\Below (D (S w)) w W) ?_ ?_
 ·have h:=xH w (OK (FA.mk n (I x n c) K V g3 g4 g5 g6 j g8 g9)) #[MU i n n] #[MU d n n] 85 83 83;exact⟨fun w' b=>⟨(fL b (by simp;omega) (cA h.1)) 7,(fL b (by simp) (cA h.2.1)) 0,(fL b (by simp) (cA h.2.2.1)) 0⟩,h.2.2.2.2⟩
 rintro W ⟨C,b⟩;have C:=MS C;have B:=MS b;have J:=C.o W (xW _ _);go_region_held3 (fun w'=>T w' ⟨D (S w),7,Y⟩=U (MU j n n)/\T w' ⟨D (S w)+1,0,Y⟩=U (MU i n n)/\T w' ⟨D (S w)+2,0,Y⟩=U (MU d n n)) (first|exact J|exact C.o _ m.o|exact C.o _ q.o|exact C.o _ r.o) (first
  |(go_at_call_of 111 (MU A n n);refine(IK A n _ _ Q1.o).mono ?_;rintro e w2 ⟨rfl,b⟩;have r:=MS (NE q.o (xF _) b))
  |(go_at_call_of 102 (MU z n n);refine(oE z d n _ _ _ G.o (HB.X (NE B.o (xF _) m.o))).mono ?_;rintro e w1 ⟨A,rfl,p,b⟩;have q:=MS (NE m.o (xF _) b);have Q1:=MS p)
  |(go_at_call_of 102 (MU j n n);refine(oE j i n _ _ _ (E.r7.X B.drew) (F.X B.drew)).mono ?_;rintro e w0 ⟨z,rfl,p,b⟩;have m:MT (Below (D (S W)) W w0):=((xW (D (S W)) W).drew).trans (b.mono (by simp));have G:=MS p))
 all_goals
  go_wp2;go_ret;exact⟨Z,NE B.o (xF _) r.o⟩
def Nd(a:FA)(f:Eu)(C:Nat)(bf:List Nat)(w:World)(F:Ed w a f)(hb:Eb w C a.n bf):
  Calls prog 83 #[L (OK a),L #[MU C a.n a.n]] w fun e w'=>e=.returned (.bool (f.bU bf))/\Below (D (S w)) w w':=by
 have v:MT (f.bU bf=(xR a.n).any fun i=>(xR a.n).any fun k=>f.cP bf i k):=by unfold MT Eu.bU;rw[F.len]
 obtain⟨x,c,ae,hx⟩:=F.form;have ag:=F.n64;have A:=F.len;obtain⟨n,ev,g1,g2,g3,g4,g5,g6,g7,g8,g9⟩:=a;simp only at ae ag A hx;subst ae;simp only[OK];simp only at v hb;have V:=MS F.ev;obtain⟨k0,k1,ay,z⟩:=mZ w #[I x n c,MU g1 n n,MU g2 n n,MU g3 n n,MU g4 n n,MU g5 n n,MU g6 n n,MU g7 n n,MU g8 n n,MU g9 n n] #[MU C n n] 85 83;have HF:=MS (F.X z);have RB:=MS (hb.X z);have p:=MS z;go_enter func83,ntmps83;go_upto_region 1 with fail
 generalize hE:(w.alloc (O #[I x n c,MU g1 n n,MU g2 n n,MU g3 n n,MU g4 n n,MU g5 n n,MU g6 n n,MU g7 n n,MU g8 n n,MU g9 n n] 85)).alloc (O #[MU C n n] 83)=W0 at*;have aq:=jP k0 0 _ Z;obtain⟨c1,f1,l1⟩:=cQ k1;have l0:D (S w)<D (S W0):=by omega
 have K0:=MS k0;go_wp2;go_loopw[12] (fun i wr=>∃(k:Nat),k<=n/\i=M H k/\MT ((xR k).any (fun i=>(xR n).any fun k=>f.cP bf i k)=N)/\MT (Below (D (S W0)) W0 wr)) fun i _=>n-(intOf i).toNat
 case atStart=>exact⟨0,xb _,Z,by simp[MT],xW _ _⟩
 case round =>
  obtain⟨k,hk,rfl,HT,B⟩:=hrel;have av:=MZ B.o l0 aq;have az:=xa l0 B.size;by_cases hlt:k<n
  ·have aw:(k:Int)<(n:Int):=by omega
   obtain⟨m,rfl,ad⟩:=hx (by omega);have u:m<D (S W0):=by omega
   have ao:MT (wr.rangeAt m (k*10) (aG (Q.ev f.E k)).toList):=jM (V.cN A.symm k (by omega)) ((B.block m u).trans (p.block m ad));have ab:=MS (LC (fun i=>(xR n).any fun k=>f.cP bf i k) k);have ak:MT (∀q,f.cP bf k q=(f.bV k (Q.ev f.E k) q (Q.ev f.E q)&&!Q.cC bf k q&&!Q.cC bf q k)):=fun q=>Z
   generalize Q.ev f.E k=e1 at*;have ah:MT (NK (wr.alloc (O (aG e1) 180)) (D (S wr)) e1):=NK.new wr e1;have al:MT (Below (D (S W0)) W0 (wr.alloc (O (aG e1) 180))):=B.alloc B.size _;go_wp2_with(first|(refine fY (.tmp 15) Z Z m (k*10) e1 Z ao.o ?_));go_loopw[20] (fun j wq=>∃(q:Nat),q<=n/\j=M H q/\MT ((xR q).any (fun j=>f.cP bf k j)=N)/\MT (Below (D (S W0)) W0 wq)/\MT (NK wq (D (S wr)) e1)) fun j _=>n-(intOf j).toNat
   case atStart=>exact⟨0,xb _,Z,by simp[MT],al,ah⟩
   case round =>
    obtain⟨q,hq,rfl,HU,HJ,HA⟩:=hrel;by_cases hql:q<n
    ·have ax:(q:Int)<(n:Int):=by omega
     have ap:MT (wr.rangeAt m (q*10) (aG (Q.ev f.E q)).toList):=jM (V.cN A.symm q (by omega)) ((HJ.block m u).trans (p.block m ad));have r:=MS (LC (fun j=>f.cP bf k j) q);have b:=MS (ak.o q);generalize Q.ev f.E q=e2 at*;have d:MT (Below (D (S W0)) W0 (wr.alloc (O (aG e2) 180))):=HJ.alloc HJ.size _;have G:=MS (HA.alloc (O (aG e2) 180));have ai:=MS (NK.new wr e2);have aa:=MS (RB.X d.o);have am:=MS (HF.X d.o);have d0:=cA ((d.block _ l0).trans K0.o);have ar:=xa l0 d.size;have au:=xa l1 d.size;have d1:=MZ d.o l1 c1;obtain⟨x0,xf,xl⟩:=G.fs;obtain⟨y0,yf,yl⟩:=ai.fs;simp only[aG]at x0 xf xl y0 yf yl d0 d1 ar au
     cases z1:f.bV k e1 q e2
     case' true =>
      cases z2:cC bf (k:Int) (q:Int)
      case' false=>cases z3:cC bf (q:Int) (k:Int)
     all_goals
      first|rw[z1,z2,z3]at b|rw[z1,z2]at b|rw[z1]at b
      go_wp2_with(first|(refine fY (.tmp 23) Z Z m (q*10) e2 Z ap.o ?_)|(go_at_call 125;refine(Na (FA.mk n (MU m n c) g1 g2 g3 g4 g5 g6 g7 g8 g9) f k q e1 e2 _ am.o).mono ?_;rintro e v1 ⟨rfl,s⟩;rw[z1];have B1:MT (Below (D (S W0)) W0 v1):=NE d.o (xF _) s;have J:=MS (G.X s);have p1:=MZ B1.o l1 c1)|(go_at_call 103;refine(xI C n bf (q:Int) (k:Int) _ ((aa.X s).X y)).mono ?_;rintro e v3 ⟨rfl,ac⟩;rw[z3];have B3:MT (Below (D (S W0)) W0 v3):=NE B2.o (xF _) ac;have aj:=MS (K.X ac))|(go_at_call_of 103 (Value.int IntKind.i64 (k:Int));refine(xI C n bf (k:Int) (q:Int) _ (aa.X s)).mono ?_;rintro e v2 ⟨rfl,y⟩;rw[z2];have B2:MT (Below (D (S W0)) W0 v2):=NE B1.o (xF _) y;have K:=MS (J.X y);have p2:=MZ B2.o l1 c1))
      first
       |(go_roundw
         case rel=>first|exact⟨q+1,by omega,by go_num,r.trans (by rw[HU.o,b.o];rfl),B3,aj⟩|exact⟨q+1,by omega,by go_num,r.trans (by rw[HU.o,b.o];rfl),B2,K⟩|exact⟨q+1,by omega,by go_num,r.trans (by rw[HU.o,b.o];rfl),B1,J⟩
         case measure=>simp[intOf];omega)
       |(go_ret
         have HV:f.bU bf=true:=by
          rw[v.o];refine JU _ (k+1) n hlt ?_;rw[ab.o,JU (fun j=>f.cP bf k j) (q+1) n hql (by rw[r.o,b.o];simp)];simp
         rw[HV];exact⟨Z,NE p.o (xF _) B3.o⟩)
    ·have an:MT ((xR (k+1)).any (fun i=>(xR n).any fun k=>f.cP bf i k)=N):=by
      have h1:=HU.o;rw[show q=n by omega]at h1;unfold MT;rw[ab.o,HT.o,h1];rfl
     go_wp2;go_roundw
     case rel=>exact⟨k+1,by omega,by go_num,an,HJ⟩
     case measure=>simp[intOf];omega
  ·have af:k=n:=by omega
   have HV:MT (f.bU bf=N):=by unfold MT;rw[v.o,<- af];have h1:=HT.o;rw[<- af]at h1;exact h1
   go_wp2;go_ret;rw[HV.o];exact⟨Z,NE p.o (xF _) B.o⟩
def Nf(a:FA)(f:Eu)(gs:Nat)(aP:List Nat)(w:World)(hf:Ed w a f)(hs:Eb w gs a.n aP):
  Calls prog 60 #[L (OK a),L #[MU gs a.n a.n]] w fun e w'=>mN w w' a.n (f.bS aP) e:=by
 have ae:MT (Q.eB f.E aP=(xR a.n).foldl (sR f.E aP) (NU a.n)):=by unfold MT Q.eB;rw[hf.len]
 obtain⟨x,c,ah,hx⟩:=hf.form;have G:=hf.n64;have B:=hf.len;obtain⟨n,ev,g1,g2,g3,g4,g5,g6,g7,g8,g9⟩:=a;simp only at ah G B hx;subst ah;simp only[OK];simp only at ae hs;have ac:=MS hf.ev;obtain⟨k0,k2,k1,bm,ab⟩:=xH w #[I x n c,MU g1 n n,MU g2 n n,MU g3 n n,MU g4 n n,MU g5 n n,MU g6 n n,MU g7 n n,MU g8 n n,MU g9 n n] #[MU gs n n] #[I Y 0 0] 85 83 83;have HF:=MS (hf.X ab);have RS:=MS (hs.X ab);have J:=MS ab;go_enter func60,ntmps60;go_upto_region 1 with fail
 generalize hE:((w.alloc (O #[I x n c,MU g1 n n,MU g2 n n,MU g3 n n,MU g4 n n,MU g5 n n,MU g6 n n,MU g7 n n,MU g8 n n,MU g9 n n] 85)).alloc (O #[MU gs n n] 83)).alloc (O #[I Y 0 0] 83)=W0 at*;have af:=jP k0 0 _ Z;have aK:=jP k0 2 _ Z;have aL:=jP k0 8 _ Z;have aM:=jP k0 9 _ Z;obtain⟨c1,f1,l1⟩:=cQ k1;obtain⟨c2,f2,l2⟩:=cQ k2;have l0:D (S w)<D (S W0):=by omega
 have K1:=MS k1;go_wp2_with(first|(go_at_call 98;refine(lS n _ G).mono ?_;rintro e w1 ⟨gn,rfl,aY,aR,aW,aQ,A⟩;have HS:=MS (Fill.start ⟨aY,aW,aQ⟩ aR A);have bn:=A.size;have bi:=HS.cell (p:=⟨D (S w),0,Y⟩) l0 af));have aw:=MS aK;have ax:=MS aL;have ay:=MS aM;have av:=MS c1;have aB:=MS f1;go_loopw[17] (fun i wr=>∃(k:Nat) (t:List Nat),k<=n/\i=M H k/\MT (t=(xR k).foldl (sR f.E aP) (NU n))/\MT (Fill W0 wr (D (S w1)) gn n t)) fun i _=>n-(intOf i).toNat
 case atStart=>exact⟨0,_,xb _,Z,Z,HS⟩
 case round =>
  obtain⟨k,t,hk,rfl,HT,m⟩:=hrel;obtain⟨b0,b1,b2⟩:=cQ m.box;have bj:=m.cell (p:=⟨D (S w),0,Y⟩) l0 af;have b:=xa l0 m.bel.size;by_cases hlt:k<n
  ·have bk:(k:Int)<(n:Int):=by omega
   obtain⟨z,rfl,ag⟩:=hx (by omega);have F:z<D (S W0):=by omega
   have aE:MT (wr.rangeAt z (k*10) (aG (Q.ev f.E k)).toList):=jM (ac.cN B.symm k (by omega)) ((m.bel.block z F).trans (J.block z ag));have aJ:MT ((xR (k+1)).foldl (sR f.E aP) (NU n)=(xR n).foldl (yJ f.E aP k) t):=by unfold MT;rw[jJ,<- HT.o];unfold sR;rw[B]
   have au:MT (∀q u,yJ f.E aP k u q=if cC aP k q&&(Q.ev f.E k).q != 0&&(Q.ev f.E q).q != 0 then dE u q k else u):=fun q u=>Z
   generalize Q.ev f.E k=e1 at*;have an:MT (NK (wr.alloc (O (aG e1) 180)) (D (S wr)) e1):=NK.new wr e1;have aA:=MS (m.alloc (O (aG e1) 180));go_wp2_with(first|(refine fY (.tmp 20) Z Z z (k*10) e1 Z aE.o ?_));go_loopw[25] (fun j wq=>∃(q:Nat) (u:List Nat),q<=n/\j=M H q/\MT (u=(xR q).foldl (yJ f.E aP k) t)/\MT (Fill W0 wq (D (S w1)) gn n u)/\MT (NK wq (D (S wr)) e1)) fun j _=>n-(intOf j).toNat
   case atStart=>exact⟨0,t,xb _,Z,Z,aA,an⟩
   case round =>
    obtain⟨q,u,hq,rfl,HU,HJ,HA⟩:=hrel;by_cases hql:q<n
    ·have bl:(q:Int)<(n:Int):=by omega
     have aF:MT (wr.rangeAt z (q*10) (aG (Q.ev f.E q)).toList):=jM (ac.cN B.symm q (by omega)) ((HJ.bel.block z F).trans (J.block z ag));have y:MT ((xR (q+1)).foldl (yJ f.E aP k) t=if cC aP k q&&e1.q != 0&&(Q.ev f.E q).q != 0 then dE u q k else u):=by unfold MT;rw[jJ,<- HU.o];exact au.o q u
     generalize Q.ev f.E q=e2 at*;have ad:=MS (HJ.alloc (O (aG e2) 180));have ao:=MS (HA.alloc (O (aG e2) 180));have ap:=MS (NK.new wr e2);have aI:=MS (RS.X ad.bel);have C:=xa l2 HJ.bel.size;have d2:=HJ.cell (p:=⟨D (S w)+1,0,Y⟩) l2 c2
     cases z1:cC aP (k:Int) (q:Int)
     case' true =>
      cases z2:e1.q != 0
      case' true=>cases z3:e2.q != 0
     all_goals
      first|rw[z1,z2,z3]at y|rw[z1,z2]at y|rw[z1]at y
      go_wp2_with(first|(refine fY (.tmp 28) Z Z z (q*10) e2 Z aF.o ?_)|(go_at_call 103;refine(xI gs n aP (k:Int) (q:Int) _ aI.o).mono ?_;rintro e wb ⟨rfl,aa⟩;rw[z1];have v:=MS (ad.keep aa);have K:=MS (ao.X aa);obtain⟨x5,xf,xl⟩:=K.fs;have aq:=MS (ap.X aa);obtain⟨y5,yf,yl⟩:=aq.fs)|(go_at_call 99;refine(nU (D (S w1)) 0 gn n u (q:Int) (k:Int) _ v.oV v.rel.fits).mono ?_;rintro e wc ⟨rfl,aX,ai⟩;have aC:=MS (v.grown ai aX);have ar:=MS (NK.grown K.o v.rel.at_ ai)));go_roundw
      case rel=>first|exact⟨q+1,dE u q k,by omega,by go_num,y.symm,aC,ar⟩|exact⟨q+1,u,by omega,by go_num,y.symm,v,K⟩
      case measure=>simp[intOf];omega
    ·have aD:MT (u=(xR (k+1)).foldl (sR f.E aP) (NU n)):=by unfold MT;rw[aJ.o,HU.o,show q=n by omega]
     go_wp2;go_roundw
     case rel=>exact⟨k+1,u,by omega,by go_num,aD,HJ⟩
     case measure=>simp[intOf];omega
  ·have aV:k=n:=by omega
   have az:MT (t=Q.eB f.E aP):=by unfold MT;rw[ae.o,HT.o,aV]
   rw[az.o]at m;go_upto_region 12 with fail
   have m2:=m.cell (p:=⟨D (S w),2,Y⟩) l0 aw.o;have m8:=m.cell (p:=⟨D (S w),8,Y⟩) l0 ax.o;have m9:=m.cell (p:=⟨D (S w),9,Y⟩) l0 ay.o;have C:=xa l1 m.bel.size;have V:=MS (HF.X m.bel);have HB:=MS m.bel;have aH:=MS m.rel;go_region_held3 (fun w'=>T w' ⟨D (S w),2,Y⟩=U (MU g2 n n)/\T w' ⟨D (S w),8,Y⟩=U (MU g8 n n)/\T w' ⟨D (S w),9,Y⟩=U (MU g9 n n)/\T w' ⟨D (S w1),0,Y⟩=U (MU gn n n)) (first|exact⟨m2,m8,m9,b0⟩|exact⟨aZ,bb,bd,bg⟩|exact⟨ba,bc,bf,bh⟩|exact⟨aj,ak,al,am⟩|exact⟨(cY (by omega)).trans aj,(cY (by omega)).trans ak,(cY (by omega)).trans al,(cY (by omega)).trans am⟩) (first
    |(go_at_call 101;refine(zH j1 g2 n _ _ _ J1.o (V.r2.X s.o)).mono ?_;rintro e v2 ⟨j2,rfl,aU,aO⟩;have d:MT (Below (D (S wr)) wr v2):=NE s.o (xF _) aO;have aj:=MZ d.o b m2;have ak:=MZ d.o b m8;have al:=MZ d.o b m9;have am:=MZ d.o b2 b0;have bo:=(d.cell (p:=⟨D (S w)+2,0,Y⟩) C).trans (m.cell (p:=⟨D (S w)+2,0,Y⟩) l1 av.o);have bp:=(d.frozen (p:=⟨D (S w)+2,0,Y⟩) C).trans ((m.bel.frozen (p:=⟨D (S w)+2,0,Y⟩) l1).trans aB.o);have J2:=MS aU)
    |(go_at_call_of 102 (MU j0 n n);refine(oE j0 g9 n _ _ _ J0.o (V.r9.X r.o)).mono ?_;rintro e v1 ⟨j1,rfl,aT,A⟩;have s:MT (Below (D (S wr)) wr v1):=NE r.o (xF _) A;have ba:=MZ s.o b m2;have bc:=MZ s.o b m8;have bf:=MZ s.o b m9;have bh:=MZ s.o b2 b0;have J1:=MS aT)
    |(go_at_call_of 102 (MU g8 n n);refine(oE g8 gn n _ _ _ (V.r8.X (xW _ _).drew) (aH.X (xW _ _).drew)).mono ?_;rintro e v0 ⟨j0,rfl,aS,aN⟩;have r:MT (Below (D (S wr)) wr v0):=((xW (D (S wr)) wr).drew).trans (aN.mono (by simp));have aZ:=MZ r.o b m2;have bb:=MZ r.o b m8;have bd:=MZ r.o b m9;have bg:=MZ r.o b2 b0;have J0:=MS aS))
   all_goals
    (try go_wp2)
    have kc:=(d.block _ C).trans ((HB.block _ l1).trans K1.o);exact nL (p:=4) (D (S w)+2) _ (by kernel_rfl) Z (by exact bX kc 0 _) Z ⟨j2,Z,AO kc J2.o (NE J.o (xF _) (NE HB.o (xF _) d.o)) (by omega)⟩
