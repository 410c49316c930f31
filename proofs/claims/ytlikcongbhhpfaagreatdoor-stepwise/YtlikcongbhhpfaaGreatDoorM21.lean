import Derived.Test.YtlikcongbhhpfaaGreatDoorM17
set_option linter.unusedVariables false
set_option linter.unusedSimpArgs false
set_option maxHeartbeats 12800000
namespace Go.Proofs.YtlikcongbhhpfaaGreatDoor
open Go Go.RowKit Go.Proofs.Tryz P Q
set_option maxRecDepth 1000000
variable {w w' wx wy:World}{B b1 b2 fb g j:Nat}{a:FA}{f:Ey}{l:List Nat}{e1 e2:Ev}
open _root_.Array renaming size->A
open Go.World renaming heap->W
open Go.Value renaming int->Y,bool->H
open Go.IntKind renaming i64->O
open Go.Obj renaming cells->I
open Option renaming some->U,none->T
open Bool renaming false->D
open Nat renaming le_refl->xF,lt_of_lt_of_le->xb
open Go.World renaming cell?->xR
open List renaming range->xW
open Go.Value renaming agg->xa,int->xc,ownBlock->xe
open Go.IntKind renaming i64->xd
structure Ee(w:World)(fb:Nat)(a:FA)(f:Ey):Prop where
 box:w.heap[fb]?=U (I (LY a) 78 (0,0))
 fin:Ef w a f
 dis:[a.g1,a.g2,a.g3,a.g4,a.g5,a.g6,a.g7,a.g8,a.g9].Nodup
theorem Ee.X(h:Ee w fb a f)(b:Below (A (W w)) w w'):Ee w' fb a f :=
 ⟨(b.block fb (Array.getElem?_eq_some_iff.1 h.box).1).trans h.box,h.fin.X b,h.dis⟩
theorem xU{c:Array Value}{t:TypeId}(h:LJ w g l)(k:w.heap[fb]?=U (I c t (0,0)))(b:t≠164):fb≠g:=fun e=>by
 unfold LJ at h;rw[<- e,k]at h;simp at h;exact b h.2
theorem NC.grown{v:Value}{es:List Ev}(h:NC w v es)(d:LJ w g l)(n:w.grownBy w' (U g)):NC w' v es:=by
 refine aU h fun k e=>n.block k (h.lt k e).2 ?_;intro c;simp at c;subst c
 rcases h.2 with⟨e1,_⟩|⟨o,i,m,e1,_,b,_⟩
 ·rw[e1]at e;simp[xe]at e
 ·rw[e1]at e;simp[xe]at e;subst e;unfold LJ at d;rw[d]at b;simp at b
theorem Ed.grown{h n:Nat}(b:Ed w g n l)(c:g≠h)(d:w.grownBy w' (U h)):Ed w' g n l :=
 ⟨b.at_.aA (d.block g b.lt (by simpa using c)),b.len,b.fits⟩
theorem Mu(b:w.grownBy w' (U g))(c:B<=A (W w))(h:B<=g):Below B w w':=⟨b.os,b.tape,b.output,b.size,fun i d=>b.block i (by omega) (by simp;omega)⟩
theorem Ee.zP(h:Ee w fb a f)(d:LJ w g l)(c:w.grownBy w' (U g)):w'.heap[fb]?=U (I (LY a) 78 (0,0))/\NC w' a.ev f.E/\∀{b:Nat} {i:List Nat},Ed w b a.n i->b≠g->Ed w' b a.n i :=
 ⟨(c.block fb (Array.getElem?_eq_some_iff.1 h.box).1 (by have:=xU d h.box (by decide);simpa using this)).trans h.box,h.fin.ev.grown d c,fun r e=>r.grown e c⟩
theorem Ee.rel(h:Ee w fb a f)(r:Ed w g a.n l)(b:(LY a)[j]?=U (JQ g a.n a.n)):vH w fb j g a.n l :=
 ⟨by simp only[xR,h.box];simpa using b,r.at_,r.len,(Array.getElem?_eq_some_iff.1 h.box).1,xU r.at_ h.box (by decide)⟩
def FA.gj(a:FA):Nat->Nat
 |1=>a.g1|2=>a.g2|3=>a.g3|4=>a.g4|5=>a.g5|6=>a.g6|7=>a.g7|8=>a.g8|_=>a.g9
def Q.Ey.rj(f:Ey):Nat->List Nat
 |1=>f.C|2=>f.G|3=>f.J|4=>f.N|5=>f.y|6=>f.h|7=>f.L|8=>f.sends|_=>f.M
def Q.Ey.pj(f:Ey)(l:List Nat):Nat->Ey
 |1=>{f with C:=l}|2=>{f with G:=l}|3=>{f with J:=l}|4=>{f with N:=l}|5=>{f with y:=l}|6=>{f with h:=l}|7=>{f with L:=l}|8=>{f with sends:=l}|_=>{f with M:=l}
theorem DP(h:1<=j/\j<=9):j=1\/j=2\/j=3\/j=4\/j=5\/j=6\/j=7\/j=8\/j=9:=by omega
theorem Ef.rj(h:Ef w a f)(b:1<=j/\j<=9):Ed w (a.gj j) a.n (f.rj j):=by
 obtain⟨_,_,_,c,d,e,i,k,m,o,p,q⟩:=h
 rcases DP b with rfl|rfl|rfl|rfl|rfl|rfl|rfl|rfl|rfl<;>assumption
theorem Ee.fW(h:Ee w fb a f)(d:1<=j/\j<=9)(i k:Int)(n:LJ w' (a.gj j) (cL (f.rj j) i k))(m:w.grownBy w' (U (a.gj j))):Ee w' fb a (f.pj (cL (f.rj j) i k) j):=by
 have c:=h.dis;have q:=h.fin.rj d;obtain⟨b,v,R⟩:=h.zP q.at_ m;obtain⟨_,o,p,r,s,t,u,x,y,z,C,E⟩:=h.fin
 rcases DP d with rfl|rfl|rfl|rfl|rfl|rfl|rfl|rfl|rfl<;>refine⟨b,⟨v,o,p,?_,?_,?_,?_,?_,?_,?_,?_,?_⟩,c⟩<;>first|exact R ‹_› (by intro e;simp only[FA.gj]at e;rw[e]at c;simp at c)|exact⟨n,(rW _ _ _).trans q.len,yX q.fits _ _⟩
theorem Ee.iH(h:Ee w fb a f)(b:1<=j/\j<=9):vH w fb j (a.gj j) a.n (f.rj j):=h.rel (h.fin.rj b) (by rcases DP b with rfl|rfl|rfl|rfl|rfl|rfl|rfl|rfl|rfl<;>rfl)
structure PS(B:Nat)(w wx:World)(fb:Nat)(a:FA)(f:Ey)(b1 b2:Nat)(e1 e2:Ev):Prop where
 mem:Ee wx fb a f
 bel:Below B w wx
 v1:KO wx b1 e1
 v2:KO wx b2 e2
 K:∀g e,KO w g e->KO wx g e
theorem PS.X(h:PS B w wx fb a f b1 b2 e1 e2)(b:Below (A (W wx)) wx wy)(c:B<=A (W w)):PS B w wy fb a f b1 b2 e1 e2 :=
 ⟨h.mem.X b,h.bel.trans (b.mono (Nat.le_trans c h.bel.size)),h.v1.X b,h.v2.X b,fun g e d=>(h.K g e d).X b⟩
theorem PS.fW(h:PS B w wx fb a f b1 b2 e1 e2)(d:1<=j/\j<=9)(m:B<=A (W w))(c:B<=a.gj j)(i k:Int)(o:LJ wy (a.gj j) (cL (f.rj j) i k))(b:wx.grownBy wy (U (a.gj j))):PS B w wy fb a (f.pj (cL (f.rj j) i k) j) b1 b2 e1 e2 :=
 have q:=(h.mem.fin.rj d).at_
 ⟨h.mem.fW d i k o b,h.bel.trans (Mu b (Nat.le_trans m h.bel.size) c),h.v1.grown q b,h.v2.grown q b,fun g e n=>(h.K g e n).grown q b⟩
theorem FJ(i k:Nat):((i:Int)==(k:Int))=!(i != k):=by
 by_cases h:i=k
 ·subst h;simp
 ·have b:¬(i:Int)=(k:Int):=by omega
  rw[beq_eq_false_iff_ne.2 b,show(i != k)=true by simpa using h];rfl
theorem yE(a:FA)(f:Ey)(i k:Nat)(e1 e2:Ev)(w:World)(y:Ef w a f):
  Calls prog 127 #[.agg (LY a),Y O (i:Int),.agg (aD e1),Y O (k:Int),.agg (aD e2)] w fun e w'=>e=.returned (H (f.bI i e1 k e2))/\Below (A (W w)) w w':=by
 have p:JP (f.bI i e1 k e2=(e1.k==1&&i != k&&!Q.bB f.G i k&&e1.z==e2.z&&OP e2)):=Z;obtain⟨x,c,r,hx⟩:=y.form;have t:=y.n64;have L:=y.len;obtain⟨n,ev,V,v,g3,g4,g5,g6,g7,g8,g9⟩:=a;simp only at r t L hx;subst r;simp only[LY];obtain⟨k0,k1,k2,aa,q⟩:=lP w #[.slice x n c,JQ V n n,JQ v n n,JQ g3 n n,JQ g4 n n,JQ g5 n n,JQ g6 n n,JQ g7 n n,JQ g8 n n,JQ g9 n n] (aD e1) (aD e2) 78 166 166;have J:=JO (y.r2.X q);have d:=JO q;have M:JP (KO _ _ e1):=k1;have N:JP (KO _ _ e2):=k2;simp only[aD]at *;have u:(e1.k != 1)=!(e1.k==1):=Z;have s:=FJ i k
 cases z1:e1.k==1
 ·rw[z1]at u;have m:JP (f.bI i e1 k e2=D):=by unfold JP;rw[p.o,z1];rfl
  go_enter func127,ntmps127;go_wp2;go_ret;rw[m.o];exact⟨Z,d.o⟩
 rw[z1]at u
 cases z2:i != k
 ·rw[z2]at s;have m:JP (f.bI i e1 k e2=D):=by unfold JP;rw[p.o,z1,z2];rfl
  go_enter func127,ntmps127;go_wp2;go_ret;rw[m.o];exact⟨Z,d.o⟩
 rw[z2]at s
 cases z3:bB f.G (i:Int) (k:Int)
 rotate_left
 ·have m:JP (f.bI i e1 k e2=D):=by unfold JP;rw[p.o,z1,z2,z3];rfl
  go_enter func127,ntmps127;go_wp2_with(first|(go_at_call 112;refine(jY v n f.G (i:Int) (k:Int) _ J.o).mono ?_;rintro e S ⟨rfl,b⟩;rw[z3]));go_ret;rw[m.o];exact⟨Z,JW d.o (xF _) b⟩
 cases z4:e1.z==e2.z
 ·have m:JP (f.bI i e1 k e2=D):=by unfold JP;rw[p.o,z1,z2,z3,z4];rfl
  go_enter func127,ntmps127;go_wp2_with(first|(go_at_call 112;refine(jY v n f.G (i:Int) (k:Int) _ J.o).mono ?_;rintro e S ⟨rfl,b⟩;rw[z3];have C:=JO (M.o.X b);obtain⟨x0,x1,x2,x3,x4,x5,x6,x7,x8,x9,xf,xl⟩:=C.o.F;have E:=JO (N.o.X b);obtain⟨y0,y1,y2,y3,y4,y5,y6,y7,y8,y9,yf,yl⟩:=E.o.F));go_ret;rw[m.o];exact⟨Z,JW d.o (xF _) b⟩
 ·have m:JP (f.bI i e1 k e2=OP e2):=by unfold JP;rw[p.o,z1,z2,z3,z4];rfl
  go_enter func127,ntmps127;go_wp2_with(first|(go_at_call 112;refine(jY v n f.G (i:Int) (k:Int) _ J.o).mono ?_;rintro e S ⟨rfl,b⟩;rw[z3];have C:=JO (M.o.X b);obtain⟨x0,x1,x2,x3,x4,x5,x6,x7,x8,x9,xf,xl⟩:=C.o.F;have E:=JO (N.o.X b);obtain⟨y0,y1,y2,y3,y4,y5,y6,y7,y8,y9,yf,yl⟩:=E.o.F)|(go_at_call 162;refine(FC e2 _).mono ?_;rintro e w2 ⟨rfl,K⟩));go_ret;rw[m.o];exact⟨Z,JW (JW d.o (xF _) b) (xF _) K⟩
theorem Mv(i k:Nat):((k:Int)==(i:Int)-1)=(k+1==i):=by
 by_cases h:k+1=i
 ·have b:(k:Int)=(i:Int)-1:=by omega
  rw[beq_iff_eq.2 b,beq_iff_eq.2 h]
 ·have b:¬(k:Int)=(i:Int)-1:=by omega
  rw[beq_eq_false_iff_ne.2 b,beq_eq_false_iff_ne.2 h]
theorem Mw(i k:Nat):((i:Int) != (k:Int))=(i != k):=by
 have:=FJ i k;unfold bne at*;rw[this];simp
theorem XM(i k:Nat):((i:Int)==(k:Int))=(i==k):=by
 have:=FJ i k;rw[this];unfold bne;simp
def rH(f:Ey)(i:Nat)(e1:Ev)(k:Nat)(e2:Ev):Ey:={f with C:=cM (ON i e1 k e2) f.C i k}
def rS(f:Ey)(i:Nat)(e1:Ev)(k:Nat)(e2:Ev):Ey:=let f:=rH f i e1 k e2;{f with y:=cM (isRow i e1 k e2) f.y i k}
def mN(f:Ey)(i:Nat)(e1:Ev)(k:Nat)(e2:Ev):Ey:=let f:=rS f i e1 k e2;{f with G:=cM (QJ i e1 k e2) f.G i k,N:=cM (PN i e1 k e2) f.N i k}
def qM(f:Ey)(i:Nat)(e1:Ev)(k:Nat)(e2:Ev):Ey:=let f:=mN f i e1 k e2;{f with J:=cM (PT e1 e2) f.J i k}
def rU(f:Ey)(i:Nat)(e1:Ev)(k:Nat)(e2:Ev):Ey:=let f:=qM f i e1 k e2;{f with h:=cM (OG e1.h (k:Nat)) f.h i k}
def rR(f:Ey)(i:Nat)(e1:Ev)(k:Nat)(e2:Ev):Ey:=let f:=rU f i e1 k e2;{f with L:=cM (QC i e1 k) f.L i k}
def qK(f:Ey)(i:Nat)(e1:Ev)(k:Nat)(e2:Ev):Ey:=let f:=rR f i e1 k e2;{f with sends:=cM (QD i e1 k e2) f.sends i k}
def xK(f:Ey)(i:Nat)(e1:Ev)(k:Nat)(e2:Ev):Ey:=let f:=qK f i e1 k e2;{f with M:=cM (QE i e1 k e2) f.M i k}
theorem Mx(B fb:Nat)(a:FA)(f:Ey)(i k:Nat)(e1 e2:Ev)(w:World)(hm:Ee w fb a f)(M:B<=A (W w))(ad:∀g∈[a.g1,a.g2,a.g3,a.g4,a.g5,a.g6,a.g7,a.g8,a.g9],B<=g)(hh:e1.h<MU)(hi:i<1000)(hk:k<1000):
  Calls prog 157 #[.pointer (U ⟨fb,0,T⟩),Y O (i:Int),.agg (aD e1),Y O (k:Int),.agg (aD e2)] w fun e w'=>e=.returned (.tuple #[])/\Ee w' fb a (f.gG i e1 k e2)/\Below B w w'/\∀g e,KO w g e->KO w' g e:=by
 obtain⟨x,c,ag,hx⟩:=hm.fin.form;obtain⟨n,ev,g1,g2,g3,g4,g5,g6,g7,g8,g9⟩:=a;simp only at ag ad;subst ag;simp only[List.mem_cons,List.mem_nil_iff,or_false,forall_eq_or_imp,forall_eq]at ad;obtain⟨ah,ai,aj,ak,al,am,an,ao,ap⟩:=ad;obtain⟨k0,k1,ay,ae⟩:=hJ w (aD e1) (aD e2) 166 166;have aa:fb<A (W w):=(Array.getElem?_eq_some_iff.1 hm.box).1;obtain⟨S,hS⟩:∃S:Ey->World->Prop,S=fun F X=>PS B w X fb (FA.mk n (.slice x n c) g1 g2 g3 g4 g5 g6 g7 g8 g9) F (A (W w)) (A (W w)+1) e1 e2:=⟨_,Z⟩
 have b:∀{F X},S F X->PS B w X fb (FA.mk n (.slice x n c) g1 g2 g3 g4 g5 g6 g7 g8 g9) F (A (W w)) (A (W w)+1) e1 e2:=fun h=>by rw[hS]at h;exact h
 have N:∀{F X},PS B w X fb (FA.mk n (.slice x n c) g1 g2 g3 g4 g5 g6 g7 g8 g9) F (A (W w)) (A (W w)+1) e1 e2->S F X:=fun h=>by rw[hS];exact h
 have P0:S f _:=N ⟨hm.X ae,ae.mono M,k0,k1,fun g e he=>he.X ae⟩;simp only[aD]at *;go_enter func157,ntmps157;go_upto_region 1 with fail
 generalize hE:(w.alloc (I #[Y O e1.k,Y O e1.j,Y O e1.block,Y O e1.z,Y O e1.value,Y O e1.q,Y O e1.scope,Y O e1.u,H e1.step,Y .u64 (e1.h:Nat)] 166)).alloc (I #[Y O e2.k,Y O e2.j,Y O e2.block,Y O e2.z,Y O e2.value,Y O e2.q,Y O e2.scope,Y O e2.u,H e2.step,Y .u64 (e2.h:Nat)] 166)=W0 at*;obtain⟨x0,x1,x2,x3,x4,x5,x6,x7,x8,x9,xf,xl⟩:=(b P0).v1.F;obtain⟨y0,y1,y2,y3,y4,y5,y6,y7,y8,y9,yf,yl⟩:=(b P0).v2.F;go_cut[10]from 11 to 15 fun s wx=>∃ba,s=H ba/\JP (ba=ON i e1 k e2)/\S f wx
 case first =>
  go_wp2_with(first|(go_at_call 179;refine(Lf (i:Int) (k:Int) e1 e2 _).mono ?_;rintro e J ⟨rfl,L⟩;have G:=N ((b P0).X L M);obtain⟨x0,x1,x2,x3,x4,x5,x6,x7,x8,x9,xf,xl⟩:=(b G).v1.F;obtain⟨y0,y1,y2,y3,y4,y5,y6,y7,y8,y9,yf,yl⟩:=(b G).v2.F));go_meet
  case rel=>exact⟨_,Z,Z,G⟩
 case rest =>
 obtain⟨ba,rfl,ac,d⟩:=hcut;go_upto_if 16 with fail
 go_cut[]from 17 to 22 fun wx=>S (rH f i e1 k e2) wx
 case first =>
  have C:=(b d).mem.box;have aa:=(Array.getElem?_eq_some_iff.1 C).1;have p:=ac;cases ba
  ·have t:=p.o.symm;have r:S (rH f i e1 k e2) wc:=by simpa[rH,cM,t,Ey.pj,Ey.rj]using d
   go_wp2;go_meet
   case rel=>exact r
  ·have t:=p.o.symm;go_wp2_with(first|(go_at_call 110;refine(jM fb 1 g1 n _ (i:Int) (k:Int) _ ((b d).mem.iH (j:=1) (by decide)) (b d).mem.fin.r1.fits).mono ?_;rintro e v9 ⟨rfl,E,y⟩;have P9:=N ((b d).fW (j:=1) (by decide) M ah i k E y)));have r:S (rH f i e1 k e2) v9:=by simpa[rH,cM,t,Ey.pj,Ey.rj]using P9
   go_meet
   case rel=>exact r
 case rest =>
 have m:=hcut;have d:=m;go_upto_region 4 with fail
 go_cut[38]from 23 to 37 fun s wx=>∃v,s=H v/\JP (v=isRow i e1 k e2)/\S (rH f i e1 k e2) wx
 case first =>
  have HQ:=d;obtain⟨x0,x1,x2,x3,x4,x5,x6,x7,x8,x9,xf,xl⟩:=(b d).v1.F;obtain⟨y0,y1,y2,y3,y4,y5,y6,y7,y8,y9,yf,yl⟩:=(b d).v2.F;have HC:JP (isRow i e1 k e2=(ON i e1 k e2&&OP e1&&OP e2&&e1.z==e2.z)):=Z
  cases ba<;>cases zb:OP e1<;>cases zc:OP e2<;>cases zd:e1.z==e2.z
  all_goals
   go_wp2_with(first|(go_at_call_of 162 (xa #[Y O e1.k,Y O e1.j,Y O e1.block,Y O e1.z,Y O e1.value,Y O e1.q,Y O e1.scope,Y O e1.u,H e1.step,Y .u64 (e1.h:Nat)]);refine(FC e1 _).mono ?_;rintro e J ⟨rfl,L⟩;rw[zb];have G:=N ((b HQ).X L M);obtain⟨x0,x1,x2,x3,x4,x5,x6,x7,x8,x9,xf,xl⟩:=(b G).v1.F;obtain⟨y0,y1,y2,y3,y4,y5,y6,y7,y8,y9,yf,yl⟩:=(b G).v2.F)|(go_at_call_of 162 (xa #[Y O e2.k,Y O e2.j,Y O e2.block,Y O e2.z,Y O e2.value,Y O e2.q,Y O e2.scope,Y O e2.u,H e2.step,Y .u64 (e2.h:Nat)]);refine(FC e2 _).mono ?_;rintro e V ⟨rfl,aq⟩;rw[zc];have P2:=N ((b G).X aq M);obtain⟨x0,x1,x2,x3,x4,x5,x6,x7,x8,x9,xf,xl⟩:=(b P2).v1.F;obtain⟨y0,y1,y2,y3,y4,y5,y6,y7,y8,y9,yf,yl⟩:=(b P2).v2.F));go_meet
   case rel=>refine⟨_,Z,by unfold JP;rw[HC.o,<- ac.o,zb,zc,zd];rfl,?_⟩;first|exact P2|exact G|exact HQ
 case rest =>
 obtain⟨v,rfl,p,m⟩:=hcut;have d:=m;go_upto_if 38 with fail
 go_cut[]from 39 to 44 fun wx=>S (rS f i e1 k e2) wx
 case first =>
  have C:=(b d).mem.box;have aa:=(Array.getElem?_eq_some_iff.1 C).1;cases v
  ·have t:=p.o.symm;have r:S (rS f i e1 k e2) wc:=by simpa[rS,cM,t,Ey.pj,Ey.rj]using d
   go_wp2;go_meet
   case rel=>exact r
  ·have t:=p.o.symm;go_wp2_with(first|(go_at_call 110;refine(jM fb 5 g5 n _ (i:Int) (k:Int) _ ((b d).mem.iH (j:=5) (by decide)) (b d).mem.fin.r5.fits).mono ?_;rintro e v9 ⟨rfl,E,y⟩;have P9:=N ((b d).fW (j:=5) (by decide) M al i k E y)));have r:S (rS f i e1 k e2) v9:=by simpa[rS,cM,t,Ey.pj,Ey.rj]using P9
   go_meet
   case rel=>exact r
 case rest =>
 have m:=hcut;have d:=m;go_upto_region 6 with fail
 go_cut[52]from 45 to 51 fun s wx=>∃v,s=H v/\JP (v=QJ i e1 k e2)/\S (rS f i e1 k e2) wx
 case first =>
  have HQ:=d;obtain⟨x0,x1,x2,x3,x4,x5,x6,x7,x8,x9,xf,xl⟩:=(b d).v1.F;obtain⟨y0,y1,y2,y3,y4,y5,y6,y7,y8,y9,yf,yl⟩:=(b d).v2.F;have HC:JP (QJ i e1 k e2=(i != k&&OZ e1 e2)):=Z;have zz:=Mw i k
  cases za:i != k<;>cases zb:OZ e1 e2
  all_goals
   rw[za]at zz;go_wp2_with(first|(go_at_call 180;refine(Ll e1 e2 _).mono ?_;rintro e J ⟨rfl,L⟩;rw[zb];have G:=N ((b HQ).X L M);obtain⟨x0,x1,x2,x3,x4,x5,x6,x7,x8,x9,xf,xl⟩:=(b G).v1.F;obtain⟨y0,y1,y2,y3,y4,y5,y6,y7,y8,y9,yf,yl⟩:=(b G).v2.F));go_meet
   case rel=>refine⟨_,Z,by unfold JP;rw[HC.o,za,zb];rfl,?_⟩;first|exact P2|exact G|exact HQ
 case rest =>
 obtain⟨v,rfl,p,m⟩:=hcut;have d:=m;go_upto_if 52 with fail
 go_cut[]from 53 to 70 fun wx=>S (mN f i e1 k e2) wx
 case first =>
  have C:=(b d).mem.box;have aa:=(Array.getElem?_eq_some_iff.1 C).1;cases v
  ·have t:=p.o.symm;have ab:JP (PN i e1 k e2=D):=by unfold JP PN;have h1:(i != k&&OZ e1 e2)=D:=t;rw[h1];rfl
   have r:S (mN f i e1 k e2) wc:=by simpa[mN,cM,t,ab.o,Ey.pj,Ey.rj]using d
   go_wp2;go_meet
   case rel=>exact r
  ·have t:=p.o.symm;have ab:JP (PN i e1 k e2=(MQ e1&&MQ e2)):=by unfold JP PN;have h1:(i != k&&OZ e1 e2)=true:=t;rw[h1];rfl
   cases zf:MQ e1<;>cases zg:MQ e2
   all_goals
    go_wp2_with(first|(go_at_call_of 110 (Value.pointer (U ⟨fb,2,T⟩));refine(jM fb 2 g2 n _ (i:Int) (k:Int) _ ((b d).mem.iH (j:=2) (by decide)) (b d).mem.fin.r2.fits).mono ?_;rintro e v9 ⟨rfl,E,y⟩;have P9:=N ((b d).fW (j:=2) (by decide) M ai i k E y);obtain⟨x0,x1,x2,x3,x4,x5,x6,x7,x8,x9,xf,xl⟩:=(b P9).v1.F;obtain⟨y0,y1,y2,y3,y4,y5,y6,y7,y8,y9,yf,yl⟩:=(b P9).v2.F)|(go_at_call_of 142 (xa #[Y O e1.k,Y O e1.j,Y O e1.block,Y O e1.z,Y O e1.value,Y O e1.q,Y O e1.scope,Y O e1.u,H e1.step,Y .u64 (e1.h:Nat)]);refine(yY e1 _).mono ?_;rintro e v7 ⟨rfl,ar⟩;rw[zf];have P7:=N ((b P9).X ar M);obtain⟨x0,x1,x2,x3,x4,x5,x6,x7,x8,x9,xf,xl⟩:=(b P7).v1.F;obtain⟨y0,y1,y2,y3,y4,y5,y6,y7,y8,y9,yf,yl⟩:=(b P7).v2.F)|(go_at_call_of 142 (xa #[Y O e2.k,Y O e2.j,Y O e2.block,Y O e2.z,Y O e2.value,Y O e2.q,Y O e2.scope,Y O e2.u,H e2.step,Y .u64 (e2.h:Nat)]);refine(yY e2 _).mono ?_;rintro e v8 ⟨rfl,au⟩;rw[zg];have P8:=N ((b P7).X au M);obtain⟨x0,x1,x2,x3,x4,x5,x6,x7,x8,x9,xf,xl⟩:=(b P8).v1.F;obtain⟨y0,y1,y2,y3,y4,y5,y6,y7,y8,y9,yf,yl⟩:=(b P8).v2.F)|(go_at_call_of 110 (Value.pointer (U ⟨fb,4,T⟩));refine(jM fb 4 g4 n _ (i:Int) (k:Int) _ ((b P8).mem.iH (j:=4) (by decide)) (b P8).mem.fin.r4.fits).mono ?_;rintro e v6 ⟨rfl,aw,av⟩;have P6:=N ((b P8).fW (j:=4) (by decide) M ak i k aw av)))
    first
     |(have r:S (mN f i e1 k e2) v6:=(by simpa[mN,cM,t,ab.o,zf,zg,Ey.pj,Ey.rj]using P6);go_meet;case rel=>exact r)
     |(have r:S (mN f i e1 k e2) v8:=(by simpa[mN,cM,t,ab.o,zf,zg,Ey.pj,Ey.rj]using P8);go_meet;case rel=>exact r)
     |(have r:S (mN f i e1 k e2) v7:=(by simpa[mN,cM,t,ab.o,zf,zg,Ey.pj,Ey.rj]using P7);go_meet;case rel=>exact r)
 case rest =>
 have m:=hcut;have d:=m;go_upto_region 10 with fail
 go_cut[73]from 71 to 72 fun s wx=>∃v,s=H v/\JP (v=PT e1 e2)/\S (mN f i e1 k e2) wx
 case first =>
  have HQ:=d;obtain⟨x0,x1,x2,x3,x4,x5,x6,x7,x8,x9,xf,xl⟩:=(b d).v1.F;obtain⟨y0,y1,y2,y3,y4,y5,y6,y7,y8,y9,yf,yl⟩:=(b d).v2.F;go_wp2_with(first|(go_at_call 181;refine(Lj e1 e2 _).mono ?_;rintro e J ⟨rfl,L⟩;have G:=N ((b HQ).X L M);obtain⟨x0,x1,x2,x3,x4,x5,x6,x7,x8,x9,xf,xl⟩:=(b G).v1.F;obtain⟨y0,y1,y2,y3,y4,y5,y6,y7,y8,y9,yf,yl⟩:=(b G).v2.F));go_meet
  case rel=>exact⟨_,Z,Z,G⟩
 case rest =>
 obtain⟨v,rfl,p,m⟩:=hcut;have d:=m;go_upto_if 73 with fail
 go_cut[]from 74 to 79 fun wx=>S (qM f i e1 k e2) wx
 case first =>
  have C:=(b d).mem.box;have aa:=(Array.getElem?_eq_some_iff.1 C).1;cases v
  ·have t:=p.o.symm;have r:S (qM f i e1 k e2) wc:=by simpa[qM,cM,t,Ey.pj,Ey.rj]using d
   go_wp2;go_meet
   case rel=>exact r
  ·have t:=p.o.symm;go_wp2_with(first|(go_at_call 110;refine(jM fb 3 g3 n _ (i:Int) (k:Int) _ ((b d).mem.iH (j:=3) (by decide)) (b d).mem.fin.r3.fits).mono ?_;rintro e v9 ⟨rfl,E,y⟩;have P9:=N ((b d).fW (j:=3) (by decide) M aj i k E y)));have r:S (qM f i e1 k e2) v9:=by simpa[qM,cM,t,Ey.pj,Ey.rj]using P9
   go_meet
   case rel=>exact r
 case rest =>
 have m:=hcut;have d:=m;go_upto_region 12 with fail
 go_cut[83]from 80 to 82 fun s wx=>∃v,s=H v/\JP (v=OG e1.h (k:Nat))/\S (qM f i e1 k e2) wx
 case first =>
  have HQ:=d;obtain⟨x0,x1,x2,x3,x4,x5,x6,x7,x8,x9,xf,xl⟩:=(b d).v1.F;obtain⟨y0,y1,y2,y3,y4,y5,y6,y7,y8,y9,yf,yl⟩:=(b d).v2.F;go_wp2_with(first|(go_at_call 160;refine(TQ e1.h (k:Int) _ hh).mono ?_;rintro e J ⟨rfl,af⟩;have af:=af.symm;subst af));go_meet
  case rel=>exact⟨_,Z,Z,HQ⟩
 case rest =>
 obtain⟨v,rfl,p,m⟩:=hcut;have d:=m;go_upto_if 83 with fail
 go_cut[]from 84 to 89 fun wx=>S (rU f i e1 k e2) wx
 case first =>
  have C:=(b d).mem.box;have aa:=(Array.getElem?_eq_some_iff.1 C).1;cases v
  ·have t:=p.o.symm;have r:S (rU f i e1 k e2) wc:=by simpa[rU,cM,t,Ey.pj,Ey.rj]using d
   go_wp2;go_meet
   case rel=>exact r
  ·have t:=p.o.symm;go_wp2_with(first|(go_at_call 110;refine(jM fb 6 g6 n _ (i:Int) (k:Int) _ ((b d).mem.iH (j:=6) (by decide)) (b d).mem.fin.r6.fits).mono ?_;rintro e v9 ⟨rfl,E,y⟩;have P9:=N ((b d).fW (j:=6) (by decide) M am i k E y)));have r:S (rU f i e1 k e2) v9:=by simpa[rU,cM,t,Ey.pj,Ey.rj]using P9
   go_meet
   case rel=>exact r
 case rest =>
 have m:=hcut;have d:=m;go_upto_region 14 with fail
 go_cut[102]from 90 to 101 fun s wx=>∃v,s=H v/\JP (v=QC i e1 k)/\S (rU f i e1 k e2) wx
 case first =>
  have HQ:=d;obtain⟨x0,x1,x2,x3,x4,x5,x6,x7,x8,x9,xf,xl⟩:=(b d).v1.F;obtain⟨y0,y1,y2,y3,y4,y5,y6,y7,y8,y9,yf,yl⟩:=(b d).v2.F;have HC:JP (QC i e1 k=(e1.k==1&&e1.step&&k+1==i)):=Z;have zz:=Mv i k;generalize ax:e1.step=sp at*
  cases za:e1.k==1<;>cases sp<;>cases zc:k+1==i
  all_goals
   rw[zc]at zz;go_wp2;go_meet
   case rel=>refine⟨_,Z,by unfold JP;rw[HC.o,za,zc];rfl,?_⟩;first|exact P2|exact G|exact HQ
 case rest =>
 obtain⟨v,rfl,p,m⟩:=hcut;have d:=m;go_upto_if 102 with fail
 go_cut[]from 103 to 108 fun wx=>S (rR f i e1 k e2) wx
 case first =>
  have C:=(b d).mem.box;have aa:=(Array.getElem?_eq_some_iff.1 C).1;cases v
  ·have t:=p.o.symm;have r:S (rR f i e1 k e2) wc:=by simpa[rR,cM,t,Ey.pj,Ey.rj]using d
   go_wp2;go_meet
   case rel=>exact r
  ·have t:=p.o.symm;go_wp2_with(first|(go_at_call 110;refine(jM fb 7 g7 n _ (i:Int) (k:Int) _ ((b d).mem.iH (j:=7) (by decide)) (b d).mem.fin.r7.fits).mono ?_;rintro e v9 ⟨rfl,E,y⟩;have P9:=N ((b d).fW (j:=7) (by decide) M an i k E y)));have r:S (rR f i e1 k e2) v9:=by simpa[rR,cM,t,Ey.pj,Ey.rj]using P9
   go_meet
   case rel=>exact r
 case rest =>
 have m:=hcut;have d:=m;go_upto_region 16 with fail
 go_cut[128]from 109 to 127 fun s wx=>∃v,s=H v/\JP (v=QD i e1 k e2)/\S (rR f i e1 k e2) wx
 case first =>
  have HQ:=d;obtain⟨x0,x1,x2,x3,x4,x5,x6,x7,x8,x9,xf,xl⟩:=(b d).v1.F;obtain⟨y0,y1,y2,y3,y4,y5,y6,y7,y8,y9,yf,yl⟩:=(b d).v2.F;have HC:JP (QD i e1 k e2=(i==k&&(e1.k==1&&P.rel e1.q)||ON i e1 k e2&&e1.k==2&&e2.k==1)):=Z;have zz:=XM i k
  cases za:i==k<;>cases zb:e1.k==1&&P.rel e1.q<;>cases ba<;>cases zd:e1.k==2<;>cases ze:e2.k==1
  all_goals
   rw[za]at zz;go_wp2_with(first|(go_at_call 182;refine(Lm e1 _).mono ?_;rintro e J ⟨rfl,L⟩;rw[zb];have G:=N ((b HQ).X L M);obtain⟨x0,x1,x2,x3,x4,x5,x6,x7,x8,x9,xf,xl⟩:=(b G).v1.F;obtain⟨y0,y1,y2,y3,y4,y5,y6,y7,y8,y9,yf,yl⟩:=(b G).v2.F));go_meet
   case rel=>refine⟨_,Z,by unfold JP;rw[HC.o,za,zb,<- ac.o,zd,ze];rfl,?_⟩;first|exact P2|exact G|exact HQ
 case rest =>
 obtain⟨v,rfl,p,m⟩:=hcut;have d:=m;go_upto_if 128 with fail
 go_cut[]from 129 to 134 fun wx=>S (qK f i e1 k e2) wx
 case first =>
  have C:=(b d).mem.box;have aa:=(Array.getElem?_eq_some_iff.1 C).1;cases v
  ·have t:=p.o.symm;have r:S (qK f i e1 k e2) wc:=by simpa[qK,cM,t,Ey.pj,Ey.rj]using d
   go_wp2;go_meet
   case rel=>exact r
  ·have t:=p.o.symm;go_wp2_with(first|(go_at_call 110;refine(jM fb 8 g8 n _ (i:Int) (k:Int) _ ((b d).mem.iH (j:=8) (by decide)) (b d).mem.fin.r8.fits).mono ?_;rintro e v9 ⟨rfl,E,y⟩;have P9:=N ((b d).fW (j:=8) (by decide) M ao i k E y)));have r:S (qK f i e1 k e2) v9:=by simpa[qK,cM,t,Ey.pj,Ey.rj]using P9
   go_meet
   case rel=>exact r
 case rest =>
 have m:=hcut;have d:=m;go_upto_region 18 with fail
 go_cut[154]from 135 to 153 fun s wx=>∃v,s=H v/\JP (v=QE i e1 k e2)/\S (qK f i e1 k e2) wx
 case first =>
  have HQ:=d;obtain⟨x0,x1,x2,x3,x4,x5,x6,x7,x8,x9,xf,xl⟩:=(b d).v1.F;obtain⟨y0,y1,y2,y3,y4,y5,y6,y7,y8,y9,yf,yl⟩:=(b d).v2.F;have HC:JP (QE i e1 k e2=(i==k&&(e1.k==0&&acq e1.q)||ON i e1 k e2&&e1.k==0&&e2.k==2)):=Z;have zz:=XM i k
  cases za:i==k<;>cases zb:e1.k==0&&acq e1.q<;>cases ba<;>cases zd:e1.k==0<;>cases ze:e2.k==2
  all_goals
   rw[za]at zz;go_wp2_with(first|(go_at_call 183;refine(Ln e1 _).mono ?_;rintro e J ⟨rfl,L⟩;rw[zb];have G:=N ((b HQ).X L M);obtain⟨x0,x1,x2,x3,x4,x5,x6,x7,x8,x9,xf,xl⟩:=(b G).v1.F;obtain⟨y0,y1,y2,y3,y4,y5,y6,y7,y8,y9,yf,yl⟩:=(b G).v2.F));go_meet
   case rel=>refine⟨_,Z,by unfold JP;rw[HC.o,za,zb,<- ac.o,zd,ze];rfl,?_⟩;first|exact P2|exact G|exact HQ
 case rest =>
 obtain⟨v,rfl,p,m⟩:=hcut;have d:=m;go_upto_if 154 with fail
 have C:=(b d).mem.box;have aa:=(Array.getElem?_eq_some_iff.1 C).1;cases v
 ·have t:=p.o.symm;have r:S (xK f i e1 k e2) wc:=by simpa[xK,cM,t,Ey.pj,Ey.rj]using d
  go_wp2;go_end0;exact⟨Z,(b r).mem,(b r).bel,(b r).K⟩
 ·have t:=p.o.symm;go_wp2_with(first|(go_at_call 110;refine(jM fb 9 g9 n _ (i:Int) (k:Int) _ ((b d).mem.iH (j:=9) (by decide)) (b d).mem.fin.r9.fits).mono ?_;rintro e v9 ⟨rfl,E,y⟩;have P9:=N ((b d).fW (j:=9) (by decide) M ap i k E y)));have r:S (xK f i e1 k e2) v9:=by simpa[xK,cM,t,Ey.pj,Ey.rj]using P9
  go_end0;exact⟨Z,(b r).mem,(b r).bel,(b r).K⟩
theorem XN(a:FA)(f:Ey)(N:Nat)(m:List Nat)(w:World)(hf:Ef w a f)(hb:Ed w N a.n m):
  Calls prog 75 #[.agg (LY a),.agg #[JQ N a.n a.n]] w fun e w'=>e=.returned (H (f.bE m))/\Below (A (W w)) w w':=by
 have ab:JP (f.bE m=(xW a.n).any fun i=>(xW a.n).any fun k=>f.bL m i k):=by unfold JP Ey.bE;rw[hf.len]
 obtain⟨x,c,ah,hx⟩:=hf.form;have aj:=hf.n64;have ad:=hf.len;obtain⟨n,ev,g1,g2,g3,g4,g5,g6,g7,g8,g9⟩:=a;simp only at ah aj ad hx;subst ah;simp only[LY];simp only at ab hb;have ae:=JO hf.ev;obtain⟨k0,k1,aL,ac⟩:=hJ w #[.slice x n c,JQ g1 n n,JQ g2 n n,JQ g3 n n,JQ g4 n n,JQ g5 n n,JQ g6 n n,JQ g7 n n,JQ g8 n n,JQ g9 n n] #[JQ N n n] 78 76;have HF:=JO (hf.X ac);have RB:=JO (hb.X ac);have C:=JO ac;go_enter func75,ntmps75;go_upto_region 1 with fail
 generalize hE:(w.alloc (I #[.slice x n c,JQ g1 n n,JQ g2 n n,JQ g3 n n,JQ g4 n n,JQ g5 n n,JQ g6 n n,JQ g7 n n,JQ g8 n n,JQ g9 n n] 78)).alloc (I #[JQ N n n] 76)=d at*;have ar:=aB k0 0 _ Z;obtain⟨c1,f1,l1⟩:=bF k1;have l0:A (W w)<A (W d):=by omega
 have K0:=JO k0;go_wp2;go_loopw[12] (fun i wr=>∃(k:Nat),k<=n/\i=Y O k/\JP ((xW k).any (fun i=>(xW n).any fun k=>f.bL m i k)=D)/\JP (Below (A (W d)) d wr)) fun i _=>n-(intOf i).toNat
 case atStart=>exact⟨0,Nat.zero_le _,Z,by simp[JP],Below.refl _ _⟩
 case round =>
  obtain⟨k,hk,rfl,HT,HI⟩:=hrel;have aI:=JS HI.o l0 ar;have aM:=xb l0 HI.o.size;by_cases hlt:k<n
  ·have aJ:(k:Int)<(n:Int):=by omega
   obtain⟨t,rfl,ag⟩:=hx (by omega);have V:t<A (W d):=by omega
   have aq:JP (wr.rangeAt t (k*10) (aD (Q.ev f.E k)).toList):=eH (ae.o.bV ad.symm k (by omega)) ((HI.o.block t V).trans (C.o.block t ag));have af:=JO (CM (fun i=>(xW n).any fun k=>f.bL m i k) k);have an:JP (∀q,f.bL m k q=(f.bI k (Q.ev f.E k) q (Q.ev f.E q)&&!Q.bB m k q&&!Q.bB m q k)):=fun q=>Z
   generalize Q.ev f.E k=e1 at*;have ak:JP (KO (wr.alloc (I (aD e1) 166)) (A (W wr)) e1):=KO.bA wr e1;have ao:JP (Below (A (W d)) d (wr.alloc (I (aD e1) 166))):=HI.o.alloc HI.o.size _;go_wp2_with(first|(refine cA (.tmp 15) Z Z t (k*10) e1 Z aq.o ?_));go_loopw[20] (fun j wq=>∃(q:Nat),q<=n/\j=Y O q/\JP ((xW q).any (fun j=>f.bL m k j)=D)/\JP (Below (A (W d)) d wq)/\JP (KO wq (A (W wr)) e1)) fun j _=>n-(intOf j).toNat
   case atStart=>exact⟨0,Nat.zero_le _,Z,by simp[JP],ao,ak⟩
   case round =>
    obtain⟨q,hq,rfl,HU,HJ,HA⟩:=hrel;by_cases hql:q<n
    ·have aK:(q:Int)<(n:Int):=by omega
     have L:JP (wr.rangeAt t (q*10) (aD (Q.ev f.E q)).toList):=eH (ae.o.bV ad.symm q (by omega)) ((HJ.o.block t V).trans (C.o.block t ag));have M:=JO (CM (fun j=>f.bL m k j) q);have J:=JO (an.o q);generalize Q.ev f.E q=e2 at*;have p:JP (Below (A (W d)) d (wr.alloc (I (aD e2) 166))):=HJ.o.alloc HJ.o.size _;have G:=JO (HA.o.alloc (I (aD e2) 166));have al:=JO (KO.bA wr e2);have v:=JO (RB.o.X p.o);have K:=JO (HF.o.X p.o);have r:=(p.o.block _ l0).trans K0.o;have aG:=xb l0 p.o.size;have aH:=xb l1 p.o.size;have d1:=JS p.o l1 c1;have au:(wr.alloc (I (aD e2) 166)).cell? ⟨A (W w),0,T⟩=U (JQ t n c):=by simp only[xR,r];rfl
     have av:(wr.alloc (I (aD e2) 166)).cell? ⟨A (W w),1,T⟩=U (JQ g1 n n):=by simp only[xR,r];rfl
     have aw:(wr.alloc (I (aD e2) 166)).cell? ⟨A (W w),2,T⟩=U (JQ g2 n n):=by simp only[xR,r];rfl
     have ax:(wr.alloc (I (aD e2) 166)).cell? ⟨A (W w),3,T⟩=U (JQ g3 n n):=by simp only[xR,r];rfl
     have ay:(wr.alloc (I (aD e2) 166)).cell? ⟨A (W w),4,T⟩=U (JQ g4 n n):=by simp only[xR,r];rfl
     have az:(wr.alloc (I (aD e2) 166)).cell? ⟨A (W w),5,T⟩=U (JQ g5 n n):=by simp only[xR,r];rfl
     have aA:(wr.alloc (I (aD e2) 166)).cell? ⟨A (W w),6,T⟩=U (JQ g6 n n):=by simp only[xR,r];rfl
     have aC:(wr.alloc (I (aD e2) 166)).cell? ⟨A (W w),7,T⟩=U (JQ g7 n n):=by simp only[xR,r];rfl
     have aE:(wr.alloc (I (aD e2) 166)).cell? ⟨A (W w),8,T⟩=U (JQ g8 n n):=by simp only[xR,r];rfl
     have aF:(wr.alloc (I (aD e2) 166)).cell? ⟨A (W w),9,T⟩=U (JQ g9 n n):=by simp only[xR,r];rfl
     obtain⟨x0,x1,x2,x3,x4,x5,x6,x7,x8,x9,xf,xl⟩:=G.o.F;obtain⟨y0,y1,y2,y3,y4,y5,y6,y7,y8,y9,yf,yl⟩:=al.o.F;simp only[aD]at x0 x1 x2 x3 x4 x5 x6 x7 x8 x9 xf xl y0 y1 y2 y3 y4 y5 y6 y7 y8 y9 yf yl d1 aG aH au av aw ax ay az aA aC aE aF
     cases z1:f.bI k e1 q e2
     ·have y:JP ((xW (q+1)).any (fun j=>f.bL m k j)=D):=by unfold JP;rw[M.o,HU.o,J.o,z1];rfl
      go_wp2_with(first|(refine cA (.tmp 23) Z Z t (q*10) e2 Z L.o ?_)|(go_at_call 127;refine(yE (FA.mk n (JQ t n c) g1 g2 g3 g4 g5 g6 g7 g8 g9) f k q e1 e2 _ K.o).mono ?_;rintro e v1 ⟨rfl,b⟩;rw[z1];have z:JP (Below (A (W d)) d v1):=JW p.o (xF _) b;have u:=JO (G.o.X b)));go_roundw
      case rel=>exact⟨q+1,by omega,by go_num,y,z,u⟩
      case measure=>simp[intOf];omega
     cases z2:bB m (k:Int) (q:Int)
     rotate_left
     ·have y:JP ((xW (q+1)).any (fun j=>f.bL m k j)=D):=by unfold JP;rw[M.o,HU.o,J.o,z1,z2];rfl
      go_wp2_with(first|(refine cA (.tmp 23) Z Z t (q*10) e2 Z L.o ?_)|(go_at_call 127;refine(yE (FA.mk n (JQ t n c) g1 g2 g3 g4 g5 g6 g7 g8 g9) f k q e1 e2 _ K.o).mono ?_;rintro e v1 ⟨rfl,b⟩;rw[z1];have z:JP (Below (A (W d)) d v1):=JW p.o (xF _) b;have u:=JO (G.o.X b);have p1:=JS z.o l1 c1)|(go_at_call_of 112 (xc xd (k:Int));refine(jY N n m (k:Int) (q:Int) _ (v.o.X b)).mono ?_;rintro e v2 ⟨rfl,s⟩;rw[z2];have B2:JP (Below (A (W d)) d v2):=JW z.o (xF _) s;have aa:=JO (u.o.X s)));go_roundw
      case rel=>exact⟨q+1,by omega,by go_num,y,B2,aa⟩
      case measure=>simp[intOf];omega
     cases z3:bB m (q:Int) (k:Int)
     rotate_left
     ·have y:JP ((xW (q+1)).any (fun j=>f.bL m k j)=D):=by unfold JP;rw[M.o,HU.o,J.o,z1,z2,z3];rfl
      go_wp2_with(first|(refine cA (.tmp 23) Z Z t (q*10) e2 Z L.o ?_)|(go_at_call 127;refine(yE (FA.mk n (JQ t n c) g1 g2 g3 g4 g5 g6 g7 g8 g9) f k q e1 e2 _ K.o).mono ?_;rintro e v1 ⟨rfl,b⟩;rw[z1];have z:JP (Below (A (W d)) d v1):=JW p.o (xF _) b;have u:=JO (G.o.X b);have p1:=JS z.o l1 c1)|(go_at_call 112;refine(jY N n m (q:Int) (k:Int) _ ((v.o.X b).X s)).mono ?_;rintro e v3 ⟨rfl,S⟩;rw[z3];have B3:JP (Below (A (W d)) d v3):=JW B2.o (xF _) S;have am:=JO (aa.o.X S))|(go_at_call_of 112 (xc xd (k:Int));refine(jY N n m (k:Int) (q:Int) _ (v.o.X b)).mono ?_;rintro e v2 ⟨rfl,s⟩;rw[z2];have B2:JP (Below (A (W d)) d v2):=JW z.o (xF _) s;have aa:=JO (u.o.X s);have p2:=JS B2.o l1 c1));go_roundw
      case rel=>exact⟨q+1,by omega,by go_num,y,B3,am⟩
      case measure=>simp[intOf];omega
     ·have HV:JP (f.bE m=true):=by
       unfold JP;rw[ab.o];refine CI _ (k+1) n hlt ?_;rw[af.o,CI (fun j=>f.bL m k j) (q+1) n hql (by rw[M.o,J.o,z1,z2,z3];simp)];simp
      go_wp2_with(first|(refine cA (.tmp 23) Z Z t (q*10) e2 Z L.o ?_)|(go_at_call 127;refine(yE (FA.mk n (JQ t n c) g1 g2 g3 g4 g5 g6 g7 g8 g9) f k q e1 e2 _ K.o).mono ?_;rintro e v1 ⟨rfl,b⟩;rw[z1];have z:JP (Below (A (W d)) d v1):=JW p.o (xF _) b;have p1:=JS z.o l1 c1)|(go_at_call 112;refine(jY N n m (q:Int) (k:Int) _ ((v.o.X b).X s)).mono ?_;rintro e v3 ⟨rfl,S⟩;rw[z3];have B3:JP (Below (A (W d)) d v3):=JW B2.o (xF _) S)|(go_at_call_of 112 (xc xd (k:Int));refine(jY N n m (k:Int) (q:Int) _ (v.o.X b)).mono ?_;rintro e v2 ⟨rfl,s⟩;rw[z2];have B2:JP (Below (A (W d)) d v2):=JW z.o (xF _) s;have p2:=JS B2.o l1 c1));go_ret;rw[HV.o];exact⟨Z,JW C.o (xF _) B3.o⟩
    ·have ap:JP ((xW (k+1)).any (fun i=>(xW n).any fun k=>f.bL m i k)=D):=by
      have h1:=HU.o;rw[show q=n by omega]at h1;unfold JP;rw[af.o,HT.o,h1];rfl
     go_wp2;go_roundw
     case rel=>exact⟨k+1,by omega,by go_num,ap,HJ⟩
     case measure=>simp[intOf];omega
  ·have ai:k=n:=by omega
   have HV:JP (f.bE m=D):=by unfold JP;rw[ab.o,<- ai];have h1:=HT.o;rw[<- ai]at h1;exact h1
   go_wp2;go_ret;rw[HV.o];exact⟨Z,JW C.o (xF _) HI.o⟩
end Go.Proofs.YtlikcongbhhpfaaGreatDoor
