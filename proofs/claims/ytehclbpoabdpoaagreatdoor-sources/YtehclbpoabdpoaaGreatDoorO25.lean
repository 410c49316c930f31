import Derived.Test.YtehclbpoabdpoaaGreatDoorO22
set_option linter.all false
set_option maxHeartbeats 0
namespace Go.Proofs.YtehclbpoabdpoaaGreatDoor
open Go Go.RowKit Go.Proofs.Tryz P Q
open scoped Classical
set_option maxRecDepth 1000000
variable {w w' wx:World}{t:TypeId}{B b1 b2 fb g ge j n:Nat}{a:FA}{f:Eu}{gs l:List Nat}{es:List Ev}
open _root_.Array renaming size->A
open Go.World renaming heap->W,cell?->V
open Go.Value renaming int->Y,slice->D,bool->T
open Go.Obj renaming cells->O
open Go.IntKind renaming i64->I
open Option renaming none->U,some->H
open List renaming range->xF,toList_toArray->xg
open Nat renaming le_refl->xR,zero_le->xd
open Go.Value renaming ownBlock->xW,agg->xa
open Go.World renaming cell?->xb
open Go.RowKit.Below renaming heap_alloc->xc,refl->xe,heap_setCell->xh
def DA{b:Nat}{c:Array Value}(new:List Value)(h:wx.heap[b]?=H (O c t (0,0)))(hs:c.size=new.length):(wx.setCells b 0 new).heap[b]?=H (O new.toArray t (0,0))/\(∀k,k≠b->(wx.setCells b 0 new).heap[k]?=wx.heap[k]?)/\∀(w:World) (B:Nat),B<=b->Below B w wx->Below B w (wx.setCells b 0 new):=by
 refine⟨?_,fun k m=>yW _ _ _ _ _ m,fun w B e i=>Below.setCells e _ _ _ i⟩;have d:=TX c new.toArray (by simpa using hs);rw[yM new 0 wx c h];simp only[xg]at d;rw[d]
def MH{b c d e i k m o p q:Value}(h:w.heap[g]?=H (O #[b,c,d,e,i,k,m,o,p,q] t (0,0))):
  V w ⟨g,0,U⟩=H b/\V w ⟨g,1,U⟩=H c/\V w ⟨g,2,U⟩=H d/\V w ⟨g,3,U⟩=H e/\V w ⟨g,4,U⟩=H i/\V w ⟨g,5,U⟩=H k/\V w ⟨g,6,U⟩=H m/\V w ⟨g,7,U⟩=H o/\V w ⟨g,8,U⟩=H p/\V w ⟨g,9,U⟩=H q/\(∀j,w.frozen? ⟨g,j,U⟩=false)/\g<A (W w):=by
 refine⟨?_,?_,?_,?_,?_,?_,?_,?_,?_,?_,fun j=>?_,(Array.getElem?_eq_some_iff.1 h).1⟩<;>simp[xb,World.frozen?,h]
structure Ec(w:World)(fb:Nat)(a:FA)(f:Eu):Prop where
 box:w.heap[fb]?=H (O (OK a) 85 (0,0))
 fin:Ed w a f
 dis:[a.g1,a.g2,a.g3,a.g4,a.g5,a.g6,a.g7,a.g8,a.g9].Nodup
def Ec.X(h:Ec w fb a f)(b:Below (A (W w)) w w'):Ec w' fb a f :=
 ⟨(b.block fb (Array.getElem?_eq_some_iff.1 h.box).1).trans h.box,h.fin.X b,h.dis⟩
def DV{c:Array Value}(h:OB w g l)(k:w.heap[fb]?=H (O c t (0,0)))(b:t≠178):fb≠g:=fun e=>by
 unfold OB at h;rw[<- e,k]at h;simp at h;exact b h.2
def PH.grown{v:Value}(h:PH w v es)(hs:OB w g l)(m:w.grownBy w' (H g)):PH w' v es:=by
 refine bE h fun k e=>m.block k (h.lt k e).2 ?_;intro c;simp at c;subst c
 rcases h.2 with⟨e1,_⟩|⟨o,d,i,e1,_,b,_⟩
 ·rw[e1]at e;simp[xW]at e
 ·rw[e1]at e;simp[xW]at e;subst e;unfold OB at hs;rw[hs]at b;simp at b
def Eb.grown{h:Nat}(b:Eb w g n l)(c:g≠h)(d:w.grownBy w' (H h)):Eb w' g n l :=
 ⟨b.at_.aC (d.block g b.lt (by simpa using c)),b.len,b.fits⟩
def Ou(b:w.grownBy w' (H g))(c:B<=A (W w))(h:B<=g):Below B w w':=⟨b.os,b.tape,b.output,b.size,fun i d=>b.block i (by omega) (by simp;omega)⟩
def Ec.old(h:Ec w fb a f)(hs:OB w g l)(c:w.grownBy w' (H g)):w'.heap[fb]?=H (O (OK a) 85 (0,0))/\PH w' a.ev f.E/\∀{b:Nat} {d:List Nat},Eb w b a.n d->b≠g->Eb w' b a.n d :=
 ⟨(c.block fb (Array.getElem?_eq_some_iff.1 h.box).1 (by have:=DV hs h.box (by decide);simpa using this)).trans h.box,h.fin.ev.grown hs c,fun r e=>r.grown e c⟩
def Ec.rel(h:Ec w fb a f)(r:Eb w g a.n l)(b:(OK a)[j]?=H (MU g a.n a.n)):yY w fb j g a.n l :=
 ⟨by simp only[xb,h.box];simpa using b,r.at_,r.len,(Array.getElem?_eq_some_iff.1 h.box).1,DV r.at_ h.box (by decide)⟩
def FA.gj(a:FA):Nat->Nat
 |1=>a.g1|2=>a.g2|3=>a.g3|4=>a.g4|5=>a.g5|6=>a.g6|7=>a.g7|8=>a.g8|_=>a.g9
def Q.Eu.rj(f:Eu):Nat->List Nat
 |1=>f.C|2=>f.G|3=>f.J|4=>f.N|5=>f.y|6=>f.h|7=>f.L|8=>f.sends|_=>f.M
def Q.Eu.pj(f:Eu)(l:List Nat):Nat->Eu
 |1=>{f with C:=l}|2=>{f with G:=l}|3=>{f with J:=l}|4=>{f with N:=l}|5=>{f with y:=l}|6=>{f with h:=l}|7=>{f with L:=l}|8=>{f with sends:=l}|_=>{f with M:=l}
def FZ(h:1<=j/\j<=9):j=1\/j=2\/j=3\/j=4\/j=5\/j=6\/j=7\/j=8\/j=9:=by omega
def Ed.rj(h:Ed w a f)(b:1<=j/\j<=9):Eb w (a.gj j) a.n (f.rj j):=by
 obtain⟨_,_,_,c,d,e,i,k,m,o,p,q⟩:=h
 rcases FZ b with rfl|rfl|rfl|rfl|rfl|rfl|rfl|rfl|rfl<;>assumption
def Ec.iZ(h:Ec w fb a f)(d:1<=j/\j<=9)(i k:Int)(hs:OB w' (a.gj j) (dE (f.rj j) i k))(m:w.grownBy w' (H (a.gj j))):Ec w' fb a (f.pj (dE (f.rj j) i k) j):=by
 have c:=h.dis;have q:=h.fin.rj d;obtain⟨b,v,R⟩:=h.old q.at_ m;obtain⟨_,o,p,r,s,u,x,y,z,C,E,F⟩:=h.fin
 rcases FZ d with rfl|rfl|rfl|rfl|rfl|rfl|rfl|rfl|rfl<;>refine⟨b,⟨v,o,p,?_,?_,?_,?_,?_,?_,?_,?_,?_⟩,c⟩<;>first|exact R ‹_› (by intro e;simp only[FA.gj]at e;rw[e]at c;simp at c)|exact⟨hs,(wA _ _ _).trans q.len,CU q.fits _ _⟩
def Ec.kD(h:Ec w fb a f)(b:1<=j/\j<=9):yY w fb j (a.gj j) a.n (f.rj j):=h.rel (h.fin.rj b) (by rcases FZ b with rfl|rfl|rfl|rfl|rfl|rfl|rfl|rfl|rfl<;>rfl)
structure PS(B:Nat)(w wx:World)(fb:Nat)(a:FA)(f:Eu)(b1 b2:Nat)(e1 e2:Ev):Prop where
 mem:Ec wx fb a f
 bel:Below B w wx
 v1:NK wx b1 e1
 v2:NK wx b2 e2
 K:∀g e,NK w g e->NK wx g e
def PS.X{wy:World}{e1 e2:Ev}(h:PS B w wx fb a f b1 b2 e1 e2)(b:Below (A (W wx)) wx wy)(c:B<=A (W w)):PS B w wy fb a f b1 b2 e1 e2 :=
 ⟨h.mem.X b,h.bel.trans (b.mono (Nat.le_trans c h.bel.size)),h.v1.X b,h.v2.X b,fun g e d=>(h.K g e d).X b⟩
def PS.iZ{wy:World}{e1 e2:Ev}(h:PS B w wx fb a f b1 b2 e1 e2)(d:1<=j/\j<=9)(m:B<=A (W w))(c:B<=a.gj j)(i k:Int)(hs:OB wy (a.gj j) (dE (f.rj j) i k))(b:wx.grownBy wy (H (a.gj j))):PS B w wy fb a (f.pj (dE (f.rj j) i k) j) b1 b2 e1 e2 :=
 have q:=(h.mem.fin.rj d).at_
 ⟨h.mem.iZ d i k hs b,h.bel.trans (Ou b (Nat.le_trans m h.bel.size) c),h.v1.grown q b,h.v2.grown q b,fun g e o=>(h.K g e o).grown q b⟩
def Ov(i k:Nat):((k:Int)==(i:Int)-1)=(k+1==i):=by
 by_cases h:k+1=i
 ·have b:(k:Int)=(i:Int)-1:=by omega
  rw[beq_iff_eq.2 b,beq_iff_eq.2 h]
 ·have b:¬(k:Int)=(i:Int)-1:=by omega
  rw[beq_eq_false_iff_ne.2 b,beq_eq_false_iff_ne.2 h]
def Ow(i k:Nat):((i:Int) != (k:Int))=(i != k):=by
 have:=LP i k;unfold bne at*;rw[this];simp
def ZI(i k:Nat):((i:Int)==(k:Int))=(i==k):=by
 have:=LP i k;rw[this];unfold bne;simp
def uI(f:Eu)(i:Nat)(e1:Ev)(k:Nat)(e2:Ev):Eu:={f with C:=dJ (QI i e1 k e2) f.C i k}
def tQ(f:Eu)(i:Nat)(e1:Ev)(k:Nat)(e2:Ev):Eu:=let f:=uI f i e1 k e2;{f with y:=dJ (isRow i e1 k e2) f.y i k}
def pO(f:Eu)(i:Nat)(e1:Ev)(k:Nat)(e2:Ev):Eu:=let f:=tQ f i e1 k e2;{f with G:=dJ (SB i e1 k e2) f.G i k,N:=dJ (RQ i e1 k e2) f.N i k}
def uQ(f:Eu)(i:Nat)(e1:Ev)(k:Nat)(e2:Ev):Eu:=let f:=pO f i e1 k e2;{f with J:=dJ (RX e1 e2) f.J i k}
def vL(f:Eu)(i:Nat)(e1:Ev)(k:Nat)(e2:Ev):Eu:=let f:=uQ f i e1 k e2;{f with h:=dJ (PD e1.h (k:Nat)) f.h i k}
def uS(f:Eu)(i:Nat)(e1:Ev)(k:Nat)(e2:Ev):Eu:=let f:=vL f i e1 k e2;{f with L:=dJ (SD i e1 k) f.L i k}
def vC(f:Eu)(i:Nat)(e1:Ev)(k:Nat)(e2:Ev):Eu:=let f:=uS f i e1 k e2;{f with sends:=dJ (SE i e1 k e2) f.sends i k}
def CS(f:Eu)(i:Nat)(e1:Ev)(k:Nat)(e2:Ev):Eu:=let f:=vC f i e1 k e2;{f with M:=dJ (SF i e1 k e2) f.M i k}
def Ox(B fb:Nat)(a:FA)(f:Eu)(i k:Nat)(e1 e2:Ev)(w:World)(hm:Ec w fb a f)(M:B<=A (W w))(ac:∀g∈[a.g1,a.g2,a.g3,a.g4,a.g5,a.g6,a.g7,a.g8,a.g9],B<=g)(hh:e1.h<OW)(hi:i<1000)(hk:k<1000):
  Calls prog 137 #[.pointer (H ⟨fb,0,U⟩),Y I (i:Int),.agg (aG e1),Y I (k:Int),.agg (aG e2)] w fun e w'=>e=.returned (.tuple #[])/\Ec w' fb a (f.jK i e1 k e2)/\Below B w w'/\∀g e,NK w g e->NK w' g e:=by
 obtain⟨x,c,af,hx⟩:=hm.fin.form;obtain⟨n,ev,g1,g2,g3,g4,g5,g6,g7,g8,g9⟩:=a;simp only at af ac;subst af;simp only[List.mem_cons,List.mem_nil_iff,or_false,forall_eq_or_imp,forall_eq]at ac;obtain⟨ag,ah,ai,aj,ak,al,am,an,ao⟩:=ac;obtain⟨k0,k1,ax,ad⟩:=mZ w (aG e1) (aG e2) 180 180;obtain⟨S,hS⟩:∃S:Eu->World->Prop,S=fun F X=>PS B w X fb (FA.mk n (D x n c) g1 g2 g3 g4 g5 g6 g7 g8 g9) F (A (W w)) (A (W w)+1) e1 e2:=⟨_,Z⟩
 have b:∀{F X},S F X->PS B w X fb (FA.mk n (D x n c) g1 g2 g3 g4 g5 g6 g7 g8 g9) F (A (W w)) (A (W w)+1) e1 e2:=fun h=>by rw[hS]at h;exact h
 have N:∀{F X},PS B w X fb (FA.mk n (D x n c) g1 g2 g3 g4 g5 g6 g7 g8 g9) F (A (W w)) (A (W w)+1) e1 e2->S F X:=fun h=>by rw[hS];exact h
 have P0:S f _:=N ⟨hm.X ad,ad.mono M,k0,k1,fun g e he=>he.X ad⟩;simp only[aG]at *;go_enter func137,ntmps137;go_upto_region 1 with fail
 generalize hE:(w.alloc (O #[Y I e1.B,Y I e1.j,Y I e1.block,Y I e1.z,Y I e1.value,Y I e1.q,Y I e1.scope,Y I e1.u,T e1.step,Y .u64 (e1.h:Nat)] 180)).alloc (O #[Y I e2.B,Y I e2.j,Y I e2.block,Y I e2.z,Y I e2.value,Y I e2.q,Y I e2.scope,Y I e2.u,T e2.step,Y .u64 (e2.h:Nat)] 180)=W0 at*;obtain⟨x0,x1,x2,x3,x4,x5,x6,x7,x8,x9,xf,xl⟩:=(b P0).v1.F;obtain⟨y0,y1,y2,y3,y4,y5,y6,y7,y8,y9,yf,yl⟩:=(b P0).v2.F;go_cut[10]from 11 to 15 fun s wx=>∃ba,s=T ba/\MT (ba=QI i e1 k e2)/\S f wx
 case first =>
  go_wp2_with(first|(go_at_call 161;refine(Hm (i:Int) (k:Int) e1 e2 _).mono ?_;rintro e J ⟨rfl,L⟩;have G:=N ((b P0).X L M);obtain⟨x0,x1,x2,x3,x4,x5,x6,x7,x8,x9,xf,xl⟩:=(b G).v1.F;obtain⟨y0,y1,y2,y3,y4,y5,y6,y7,y8,y9,yf,yl⟩:=(b G).v2.F));go_meet
  case rel=>exact⟨_,Z,Z,G⟩
 case rest =>
 obtain⟨ba,rfl,ab,d⟩:=hcut;go_upto_if 16 with fail
 go_cut[]from 17 to 22 fun wx=>S (uI f i e1 k e2) wx
 case first =>
  have p:=ab;cases ba
  ·have v:=p.symm;have r:S (uI f i e1 k e2) wc:=by simpa[uI,dJ,v,Eu.pj,Eu.rj]using d
   go_wp2;go_meet
   case rel=>exact r
  ·have v:=p.symm;go_wp2_with(first|(go_at_call 99;refine(nU fb 1 g1 n _ (i:Int) (k:Int) _ ((b d).mem.kD (j:=1) (by decide)) (b d).mem.fin.r1.fits).mono ?_;rintro e v9 ⟨rfl,E,C⟩;have P9:=N ((b d).iZ (j:=1) (by decide) M ag i k E C)));have r:S (uI f i e1 k e2) v9:=by simpa[uI,dJ,v,Eu.pj,Eu.rj]using P9
   go_meet
   case rel=>exact r
 case rest =>
 have m:=hcut;have d:=m;go_upto_region 4 with fail
 go_cut[38]from 23 to 37 fun s wx=>∃y,s=T y/\MT (y=isRow i e1 k e2)/\S (uI f i e1 k e2) wx
 case first =>
  have HQ:=d;obtain⟨x0,x1,x2,x3,x4,x5,x6,x7,x8,x9,xf,xl⟩:=(b d).v1.F;obtain⟨y0,y1,y2,y3,y4,y5,y6,y7,y8,y9,yf,yl⟩:=(b d).v2.F;have HC:MT (isRow i e1 k e2=(QI i e1 k e2&&QH e1&&QH e2&&e1.z==e2.z)):=Z
  cases ba<;>cases zb:QH e1<;>cases zc:QH e2<;>cases zd:e1.z==e2.z
  all_goals
   go_wp2_with(first|(go_at_call_of 151 (xa #[Y I e1.B,Y I e1.j,Y I e1.block,Y I e1.z,Y I e1.value,Y I e1.q,Y I e1.scope,Y I e1.u,T e1.step,Y .u64 (e1.h:Nat)]);refine(GE e1 _).mono ?_;rintro e J ⟨rfl,L⟩;rw[zb];have G:=N ((b HQ).X L M);obtain⟨x0,x1,x2,x3,x4,x5,x6,x7,x8,x9,xf,xl⟩:=(b G).v1.F;obtain⟨y0,y1,y2,y3,y4,y5,y6,y7,y8,y9,yf,yl⟩:=(b G).v2.F)|(go_at_call_of 151 (xa #[Y I e2.B,Y I e2.j,Y I e2.block,Y I e2.z,Y I e2.value,Y I e2.q,Y I e2.scope,Y I e2.u,T e2.step,Y .u64 (e2.h:Nat)]);refine(GE e2 _).mono ?_;rintro e v2 ⟨rfl,ap⟩;rw[zc];have P2:=N ((b G).X ap M);obtain⟨x0,x1,x2,x3,x4,x5,x6,x7,x8,x9,xf,xl⟩:=(b P2).v1.F;obtain⟨y0,y1,y2,y3,y4,y5,y6,y7,y8,y9,yf,yl⟩:=(b P2).v2.F));go_meet
   case rel=>refine⟨_,Z,by unfold MT;rw[HC.o,<- ab.o,zb,zc,zd];rfl,?_⟩;first|exact P2|exact G|exact HQ
 case rest =>
 obtain⟨y,rfl,p,m⟩:=hcut;have d:=m;go_upto_if 38 with fail
 go_cut[]from 39 to 44 fun wx=>S (tQ f i e1 k e2) wx
 case first =>
  cases y
  ·have v:=p.symm;have r:S (tQ f i e1 k e2) wc:=by simpa[tQ,dJ,v,Eu.pj,Eu.rj]using d
   go_wp2;go_meet
   case rel=>exact r
  ·have v:=p.symm;go_wp2_with(first|(go_at_call 99;refine(nU fb 5 g5 n _ (i:Int) (k:Int) _ ((b d).mem.kD (j:=5) (by decide)) (b d).mem.fin.r5.fits).mono ?_;rintro e v9 ⟨rfl,E,C⟩;have P9:=N ((b d).iZ (j:=5) (by decide) M ak i k E C)));have r:S (tQ f i e1 k e2) v9:=by simpa[tQ,dJ,v,Eu.pj,Eu.rj]using P9
   go_meet
   case rel=>exact r
 case rest =>
 have m:=hcut;have d:=m;go_upto_region 6 with fail
 go_cut[52]from 45 to 51 fun s wx=>∃y,s=T y/\MT (y=SB i e1 k e2)/\S (tQ f i e1 k e2) wx
 case first =>
  have HQ:=d;obtain⟨x0,x1,x2,x3,x4,x5,x6,x7,x8,x9,xf,xl⟩:=(b d).v1.F;obtain⟨y0,y1,y2,y3,y4,y5,y6,y7,y8,y9,yf,yl⟩:=(b d).v2.F;have HC:MT (SB i e1 k e2=(i != k&&Q.aD e1 e2)):=Z;have zz:=Ow i k
  cases za:i != k<;>cases zb:Q.aD e1 e2
  all_goals
   rw[za]at zz;go_wp2_with(first|(go_at_call 162;refine(Ju e1 e2 _).mono ?_;rintro e J ⟨rfl,L⟩;rw[zb];have G:=N ((b HQ).X L M);obtain⟨x0,x1,x2,x3,x4,x5,x6,x7,x8,x9,xf,xl⟩:=(b G).v1.F;obtain⟨y0,y1,y2,y3,y4,y5,y6,y7,y8,y9,yf,yl⟩:=(b G).v2.F));go_meet
   case rel=>refine⟨_,Z,by unfold MT;rw[HC.o,za,zb];rfl,?_⟩;first|exact P2|exact G|exact HQ
 case rest =>
 obtain⟨y,rfl,p,m⟩:=hcut;have d:=m;go_upto_if 52 with fail
 go_cut[]from 53 to 70 fun wx=>S (pO f i e1 k e2) wx
 case first =>
  cases y
  ·have v:=p.symm;have aa:MT (RQ i e1 k e2=false):=by unfold MT RQ;have h1:(i != k&&Q.aD e1 e2)=false:=v;rw[h1];rfl
   have r:S (pO f i e1 k e2) wc:=by simpa[pO,dJ,v,aa.o,Eu.pj,Eu.rj]using d
   go_wp2;go_meet
   case rel=>exact r
  ·have v:=p.symm;have aa:MT (RQ i e1 k e2=(OY e1&&OY e2)):=by unfold MT RQ;have h1:(i != k&&Q.aD e1 e2)=true:=v;rw[h1];rfl
   cases zf:OY e1<;>cases zg:OY e2
   all_goals
    go_wp2_with(first|(go_at_call_of 99 (Value.pointer (H ⟨fb,2,U⟩));refine(nU fb 2 g2 n _ (i:Int) (k:Int) _ ((b d).mem.kD (j:=2) (by decide)) (b d).mem.fin.r2.fits).mono ?_;rintro e v9 ⟨rfl,E,C⟩;have P9:=N ((b d).iZ (j:=2) (by decide) M ah i k E C);obtain⟨x0,x1,x2,x3,x4,x5,x6,x7,x8,x9,xf,xl⟩:=(b P9).v1.F;obtain⟨y0,y1,y2,y3,y4,y5,y6,y7,y8,y9,yf,yl⟩:=(b P9).v2.F)|(go_at_call_of 105 (xa #[Y I e1.B,Y I e1.j,Y I e1.block,Y I e1.z,Y I e1.value,Y I e1.q,Y I e1.scope,Y I e1.u,T e1.step,Y .u64 (e1.h:Nat)]);refine(UP e1 _).mono ?_;rintro e v7 ⟨rfl,aq⟩;rw[zf];have P7:=N ((b P9).X aq M);obtain⟨x0,x1,x2,x3,x4,x5,x6,x7,x8,x9,xf,xl⟩:=(b P7).v1.F;obtain⟨y0,y1,y2,y3,y4,y5,y6,y7,y8,y9,yf,yl⟩:=(b P7).v2.F)|(go_at_call_of 105 (xa #[Y I e2.B,Y I e2.j,Y I e2.block,Y I e2.z,Y I e2.value,Y I e2.q,Y I e2.scope,Y I e2.u,T e2.step,Y .u64 (e2.h:Nat)]);refine(UP e2 _).mono ?_;rintro e v8 ⟨rfl,ar⟩;rw[zg];have P8:=N ((b P7).X ar M);obtain⟨x0,x1,x2,x3,x4,x5,x6,x7,x8,x9,xf,xl⟩:=(b P8).v1.F;obtain⟨y0,y1,y2,y3,y4,y5,y6,y7,y8,y9,yf,yl⟩:=(b P8).v2.F)|(go_at_call_of 99 (Value.pointer (H ⟨fb,4,U⟩));refine(nU fb 4 g4 n _ (i:Int) (k:Int) _ ((b P8).mem.kD (j:=4) (by decide)) (b P8).mem.fin.r4.fits).mono ?_;rintro e v6 ⟨rfl,av,au⟩;have P6:=N ((b P8).iZ (j:=4) (by decide) M aj i k av au)))
    first
     |(have r:S (pO f i e1 k e2) v6:=(by simpa[pO,dJ,v,aa.o,zf,zg,Eu.pj,Eu.rj]using P6);go_meet;case rel=>exact r)
     |(have r:S (pO f i e1 k e2) v8:=(by simpa[pO,dJ,v,aa.o,zf,zg,Eu.pj,Eu.rj]using P8);go_meet;case rel=>exact r)
     |(have r:S (pO f i e1 k e2) v7:=(by simpa[pO,dJ,v,aa.o,zf,zg,Eu.pj,Eu.rj]using P7);go_meet;case rel=>exact r)
 case rest =>
 have m:=hcut;have d:=m;go_upto_region 10 with fail
 go_cut[73]from 71 to 72 fun s wx=>∃y,s=T y/\MT (y=RX e1 e2)/\S (pO f i e1 k e2) wx
 case first =>
  have HQ:=d;obtain⟨x0,x1,x2,x3,x4,x5,x6,x7,x8,x9,xf,xl⟩:=(b d).v1.F;obtain⟨y0,y1,y2,y3,y4,y5,y6,y7,y8,y9,yf,yl⟩:=(b d).v2.F;go_wp2_with(first|(go_at_call 163;refine(Hq e1 e2 _).mono ?_;rintro e J ⟨rfl,L⟩;have G:=N ((b HQ).X L M);obtain⟨x0,x1,x2,x3,x4,x5,x6,x7,x8,x9,xf,xl⟩:=(b G).v1.F;obtain⟨y0,y1,y2,y3,y4,y5,y6,y7,y8,y9,yf,yl⟩:=(b G).v2.F));go_meet
  case rel=>exact⟨_,Z,Z,G⟩
 case rest =>
 obtain⟨y,rfl,p,m⟩:=hcut;have d:=m;go_upto_if 73 with fail
 go_cut[]from 74 to 79 fun wx=>S (uQ f i e1 k e2) wx
 case first =>
  cases y
  ·have v:=p.symm;have r:S (uQ f i e1 k e2) wc:=by simpa[uQ,dJ,v,Eu.pj,Eu.rj]using d
   go_wp2;go_meet
   case rel=>exact r
  ·have v:=p.symm;go_wp2_with(first|(go_at_call 99;refine(nU fb 3 g3 n _ (i:Int) (k:Int) _ ((b d).mem.kD (j:=3) (by decide)) (b d).mem.fin.r3.fits).mono ?_;rintro e v9 ⟨rfl,E,C⟩;have P9:=N ((b d).iZ (j:=3) (by decide) M ai i k E C)));have r:S (uQ f i e1 k e2) v9:=by simpa[uQ,dJ,v,Eu.pj,Eu.rj]using P9
   go_meet
   case rel=>exact r
 case rest =>
 have m:=hcut;have d:=m;go_upto_region 12 with fail
 go_cut[83]from 80 to 82 fun s wx=>∃y,s=T y/\MT (y=PD e1.h (k:Nat))/\S (uQ f i e1 k e2) wx
 case first =>
  have HQ:=d;obtain⟨x0,x1,x2,x3,x4,x5,x6,x7,x8,x9,xf,xl⟩:=(b d).v1.F;obtain⟨y0,y1,y2,y3,y4,y5,y6,y7,y8,y9,yf,yl⟩:=(b d).v2.F;go_wp2_with(first|(go_at_call 140;refine(UH e1.h (k:Int) _ hh).mono ?_;rintro e J ⟨rfl,ae⟩;have ae:=ae.symm;subst ae));go_meet
  case rel=>exact⟨_,Z,Z,HQ⟩
 case rest =>
 obtain⟨y,rfl,p,m⟩:=hcut;have d:=m;go_upto_if 83 with fail
 go_cut[]from 84 to 89 fun wx=>S (vL f i e1 k e2) wx
 case first =>
  cases y
  ·have v:=p.symm;have r:S (vL f i e1 k e2) wc:=by simpa[vL,dJ,v,Eu.pj,Eu.rj]using d
   go_wp2;go_meet
   case rel=>exact r
  ·have v:=p.symm;go_wp2_with(first|(go_at_call 99;refine(nU fb 6 g6 n _ (i:Int) (k:Int) _ ((b d).mem.kD (j:=6) (by decide)) (b d).mem.fin.r6.fits).mono ?_;rintro e v9 ⟨rfl,E,C⟩;have P9:=N ((b d).iZ (j:=6) (by decide) M al i k E C)));have r:S (vL f i e1 k e2) v9:=by simpa[vL,dJ,v,Eu.pj,Eu.rj]using P9
   go_meet
   case rel=>exact r
 case rest =>
 have m:=hcut;have d:=m;go_upto_region 14 with fail
 go_cut[102]from 90 to 101 fun s wx=>∃y,s=T y/\MT (y=SD i e1 k)/\S (vL f i e1 k e2) wx
 case first =>
  have HQ:=d;obtain⟨x0,x1,x2,x3,x4,x5,x6,x7,x8,x9,xf,xl⟩:=(b d).v1.F;obtain⟨y0,y1,y2,y3,y4,y5,y6,y7,y8,y9,yf,yl⟩:=(b d).v2.F;have HC:MT (SD i e1 k=(e1.B==1&&e1.step&&k+1==i)):=Z;have zz:=Ov i k;generalize aw:e1.step=sp at*
  cases za:e1.B==1<;>cases sp<;>cases zc:k+1==i
  all_goals
   rw[zc]at zz;go_wp2;go_meet
   case rel=>refine⟨_,Z,by unfold MT;rw[HC.o,za,zc];rfl,?_⟩;first|exact P2|exact G|exact HQ
 case rest =>
 obtain⟨y,rfl,p,m⟩:=hcut;have d:=m;go_upto_if 102 with fail
 go_cut[]from 103 to 108 fun wx=>S (uS f i e1 k e2) wx
 case first =>
  cases y
  ·have v:=p.symm;have r:S (uS f i e1 k e2) wc:=by simpa[uS,dJ,v,Eu.pj,Eu.rj]using d
   go_wp2;go_meet
   case rel=>exact r
  ·have v:=p.symm;go_wp2_with(first|(go_at_call 99;refine(nU fb 7 g7 n _ (i:Int) (k:Int) _ ((b d).mem.kD (j:=7) (by decide)) (b d).mem.fin.r7.fits).mono ?_;rintro e v9 ⟨rfl,E,C⟩;have P9:=N ((b d).iZ (j:=7) (by decide) M am i k E C)));have r:S (uS f i e1 k e2) v9:=by simpa[uS,dJ,v,Eu.pj,Eu.rj]using P9
   go_meet
   case rel=>exact r
 case rest =>
 have m:=hcut;have d:=m;go_upto_region 16 with fail
 go_cut[128]from 109 to 127 fun s wx=>∃y,s=T y/\MT (y=SE i e1 k e2)/\S (uS f i e1 k e2) wx
 case first =>
  have HQ:=d;obtain⟨x0,x1,x2,x3,x4,x5,x6,x7,x8,x9,xf,xl⟩:=(b d).v1.F;obtain⟨y0,y1,y2,y3,y4,y5,y6,y7,y8,y9,yf,yl⟩:=(b d).v2.F;have HC:MT (SE i e1 k e2=(i==k&&(e1.B==1&&P.rel e1.q)||QI i e1 k e2&&e1.B==2&&e2.B==1)):=Z;have zz:=ZI i k
  cases za:i==k<;>cases zb:e1.B==1&&P.rel e1.q<;>cases ba<;>cases zd:e1.B==2<;>cases ze:e2.B==1
  all_goals
   rw[za]at zz;go_wp2_with(first|(go_at_call 164;refine(Jv e1 _).mono ?_;rintro e J ⟨rfl,L⟩;rw[zb];have G:=N ((b HQ).X L M);obtain⟨x0,x1,x2,x3,x4,x5,x6,x7,x8,x9,xf,xl⟩:=(b G).v1.F;obtain⟨y0,y1,y2,y3,y4,y5,y6,y7,y8,y9,yf,yl⟩:=(b G).v2.F));go_meet
   case rel=>refine⟨_,Z,by unfold MT;rw[HC.o,za,zb,<- ab.o,zd,ze];rfl,?_⟩;first|exact P2|exact G|exact HQ
 case rest =>
 obtain⟨y,rfl,p,m⟩:=hcut;have d:=m;go_upto_if 128 with fail
 go_cut[]from 129 to 134 fun wx=>S (vC f i e1 k e2) wx
 case first =>
  cases y
  ·have v:=p.symm;have r:S (vC f i e1 k e2) wc:=by simpa[vC,dJ,v,Eu.pj,Eu.rj]using d
   go_wp2;go_meet
   case rel=>exact r
  ·have v:=p.symm;go_wp2_with(first|(go_at_call 99;refine(nU fb 8 g8 n _ (i:Int) (k:Int) _ ((b d).mem.kD (j:=8) (by decide)) (b d).mem.fin.r8.fits).mono ?_;rintro e v9 ⟨rfl,E,C⟩;have P9:=N ((b d).iZ (j:=8) (by decide) M an i k E C)));have r:S (vC f i e1 k e2) v9:=by simpa[vC,dJ,v,Eu.pj,Eu.rj]using P9
   go_meet
   case rel=>exact r
 case rest =>
 have m:=hcut;have d:=m;go_upto_region 18 with fail
 go_cut[154]from 135 to 153 fun s wx=>∃y,s=T y/\MT (y=SF i e1 k e2)/\S (vC f i e1 k e2) wx
 case first =>
  have HQ:=d;obtain⟨x0,x1,x2,x3,x4,x5,x6,x7,x8,x9,xf,xl⟩:=(b d).v1.F;obtain⟨y0,y1,y2,y3,y4,y5,y6,y7,y8,y9,yf,yl⟩:=(b d).v2.F;have HC:MT (SF i e1 k e2=(i==k&&(e1.B==0&&acq e1.q)||QI i e1 k e2&&e1.B==0&&e2.B==2)):=Z;have zz:=ZI i k
  cases za:i==k<;>cases zb:e1.B==0&&acq e1.q<;>cases ba<;>cases zd:e1.B==0<;>cases ze:e2.B==2
  all_goals
   rw[za]at zz;go_wp2_with(first|(go_at_call 165;refine(Jw e1 _).mono ?_;rintro e J ⟨rfl,L⟩;rw[zb];have G:=N ((b HQ).X L M);obtain⟨x0,x1,x2,x3,x4,x5,x6,x7,x8,x9,xf,xl⟩:=(b G).v1.F;obtain⟨y0,y1,y2,y3,y4,y5,y6,y7,y8,y9,yf,yl⟩:=(b G).v2.F));go_meet
   case rel=>refine⟨_,Z,by unfold MT;rw[HC.o,za,zb,<- ab.o,zd,ze];rfl,?_⟩;first|exact P2|exact G|exact HQ
 case rest =>
 obtain⟨y,rfl,p,m⟩:=hcut;have d:=m;go_upto_if 154 with fail
 cases y
 ·have v:=p.symm;have r:S (CS f i e1 k e2) wc:=by simpa[CS,dJ,v,Eu.pj,Eu.rj]using d
  go_wp2;go_end0;exact⟨Z,(b r).mem,(b r).bel,(b r).K⟩
 ·have v:=p.symm;go_wp2_with(first|(go_at_call 99;refine(nU fb 9 g9 n _ (i:Int) (k:Int) _ ((b d).mem.kD (j:=9) (by decide)) (b d).mem.fin.r9.fits).mono ?_;rintro e v9 ⟨rfl,E,C⟩;have P9:=N ((b d).iZ (j:=9) (by decide) M ao i k E C)));have r:S (CS f i e1 k e2) v9:=by simpa[CS,dJ,v,Eu.pj,Eu.rj]using P9
  go_end0;exact⟨Z,(b r).mem,(b r).bel,(b r).K⟩
def Tryz.infoEv:(prog.info? 180).map (fun i=>(i.zero,i.size,i.bytes))=H (H (.agg (aG Ev.zero)),10,80):=by kernel_rfl
def ZJ(n:Nat):(madeCells (aG Ev.zero) (n*10)).size=n*10:=by simp[madeCells]
def PH.lQ{c:Nat}(h:PH w (MU g n c) es)(e:w'.heap[g]?=w.heap[g]?)(_:True=True):PH w' (MU g n c) es:=bE h fun k b=>by simp[xW]at b;subst b;exact e
namespace Q
def SY(es:List Ev):Prop:=∀e∈es,e.h<OW
def SY.ev(h:SY es)(k:Nat)(b:k<es.length):(Q.ev es k).h<OW:=by rw[eJ es k b];exact h _ (List.getElem_mem b)
end Q
def Ed.frame{r:Nat}{c:Array Value}(h:Ed w a f)(o:w.heap[r]?=H (O c 85 (0,0)))(m:∀k,k≠r->w'.heap[k]?=w.heap[k]?):Ed w' a f:=by
 have R:∀{g:Nat} {l:List Nat},Eb w g a.n l->Eb w' g a.n l:=fun b=>⟨b.at_.aC (m _ fun e=>by have:=DV b.at_ o (by decide);exact this e.symm),b.len,b.fits⟩
 refine⟨bE h.ev fun k e=>m k ?_,h.len,h.n64,R h.r1,R h.r2,R h.r3,R h.r4,R h.r5,R h.r6,R h.r7,R h.r8,R h.r9⟩;intro d;subst d
 rcases h.ev.2 with⟨e1,_⟩|⟨s,p,q,e1,_,i,_⟩
 ·rw[e1]at e;simp[xW]at e
 ·rw[e1]at e;simp[xW]at e;subst e;rw[o]at i;simp at i
structure FN(B:Nat)(W0 w:World)(fb ge n:Nat)(es:List Ev)(c:Nat->Value)(gs:List Nat):Prop where
 box:w.heap[fb]?=H (O #[MU ge n n,c 1,c 2,c 3,c 4,c 5,c 6,c 7,c 8,c 9] 85 (0,0))
 ev:PH w (MU ge n n) es
 rel:∀g∈gs,Eb w g n (NU n)
 nd:gs.Nodup
 gt:∀g∈gs,B<=g
 be:Below B W0 w
 sb:B<=A (W W0)/\B<=fb/\ge<fb
def FN.X{W0:World}{c:Nat->Value}(h:FN B W0 w fb ge n es c gs)(b:Below (A (W w)) w w'):FN B W0 w' fb ge n es c gs :=
 ⟨(b.block _ (Array.getElem?_eq_some_iff.1 h.box).1).trans h.box,h.ev.X b,fun g d=>(h.rel g d).X b,h.nd,h.gt,NE h.be h.sb.1 b,h.sb⟩
def FN.step{W0:World}{c:Nat->Value}(h:FN B W0 w fb ge n es c gs)(m:Below (A (W w)) w w')(u:A (W w)<=g)(q:Eb w' g n (NU n))(k:Nat)(v:1<=k/\k<=9):FN B W0 (w'.setCell ⟨fb,k,U⟩ (MU g n n)) fb ge n es (fun i=>if i=k then MU g n n else c i) (gs++[g]):=by
 have f:=h.X m;have R:∀{x:Nat},Eb w' x n (NU n)->Eb (w'.setCell ⟨fb,k,U⟩ (MU g n n)) x n (NU n):=fun d=>⟨d.at_.aC (xh _ _ _ _ fun e=>DV d.at_ f.box (by decide) e.symm),d.len,d.fits⟩
 have o:=h.be.size;have r:=h.sb;refine⟨?_,f.ev.lQ (xh _ _ _ _ (by simp;omega)) Z,fun x b=>?_,List.nodup_append.2 ⟨h.nd,by simp,fun x b y s e=>?_⟩,fun x b=>?_,f.be.setCell (p:=⟨fb,k,U⟩) h.sb.2.1 _,h.sb⟩
 ·rw[bX f.box]
  rcases(by omega:k=1\/k=2\/k=3\/k=4\/k=5\/k=6\/k=7\/k=8\/k=9)with e|e|e|e|e|e|e|e|e<;>subst e<;>rfl
 ·rcases List.mem_append.1 b with e|e
  ·exact R (f.rel x e)
  ·rw[List.mem_singleton.1 e];exact R q
 ·have:=(h.rel x b).lt;rw[List.mem_singleton.1 s]at e;omega
 ·rcases List.mem_append.1 b with e|e
  ·exact h.gt x e
  ·rw[List.mem_singleton.1 e];omega
abbrev qL(v:Value):Array Value:=#[v,D U 0 0,D U 0 0,D U 0 0,D U 0 0,D U 0 0,D U 0 0,D U 0 0,D U 0 0,D U 0 0]
def ZK(v:Value)(es:List Ev)(w:World)(he:PH w v es)(aC:0<es.length)(hn:es.length<=64)(aB:SY es):
  Calls prog 96 #[v] w fun e w'=>∃a,e=.returned (.agg (OK a))/\a.n=es.length/\Ed w' a (NH es)/\Below (A (W w)) w w':=by
 obtain⟨ea,n,ec,hl,rfl,ax⟩:∃ea n ec,es.length=n/\v=D ea n ec/\(0<n->∃b,ea=H ⟨b,0,U⟩/\b<A (W w)):=by
  obtain⟨a,c,h1,h2⟩:=he.form;exact⟨a,_,c,Z,h1,h2⟩
 obtain⟨J,rfl,av⟩:=ax (by omega);obtain⟨iz,hi,aE,ai,aF⟩:=info_parts Tryz.infoEv;have bd:∀w,(Instr.makeSlice 78 (Y I (n:Int)) (Y I (n:Int))).run prog w=.ok (MU (A (W w)) n n) (w.alloc (O (madeCells (aG Ev.zero) (n*10)) 180)):=fun w=>by
  have h:=run_makeSlice (P:=prog) w 78 180 iz (.agg (aG Ev.zero)) underlying78 hi aE I I (n:Int) (n:Int) (by omega) (Int.le_refl _) (by rw[ai];simp;omega) (by rw[aF];omega) (by omega);rw[ai]at h;have e:(xa (aG Ev.zero)).cells=aG Ev.zero:=Z;rw[e]at h;simpa using h
 have aP:MT (NH es=(xF n).foldl (rB es) (Eu.new es)):=by unfold MT NH;rw[hl]
 have aQ:MT (∀f k,rB es f k=(xF n).foldl (fun f q=>f.jK k (Q.ev es k) q (Q.ev es q)) f):=fun f k=>by unfold rB;rw[hl]
 obtain⟨k0,bi,ag⟩:=lW w (qL (D U 0 0)) 85;have ad:=MS ag;have aN:=MS (he.X ag);have ab:J<(w.alloc (O (qL (D U 0 0)) 85)).heap.size:=by omega
 have K:=MS hl;have aq:=MS he;have aU:=MS aB;have G:n<=64:=by omega
 have bf:0<n:=by omega
 clear ag he hl hn aC aB;go_enter func96,ntmps96;go_upto_region 2 with fail
 generalize hE:w.alloc (O (qL (D U 0 0)) 85)=W0 at*;have l0:A (W w)<A (W W0):=by omega
 have aD:A (W w)+1<=A (W W0):=by omega
 have K0:=MS k0;clear hE bi k0;have ah:(Builtin.copy_ #[78,78] 3 #[MU (A (W W0)) n n,MU J n ec]).run prog ((W0.alloc (O (madeCells (aG Ev.zero) (n*10)) 180)).alloc (O (qL (MU (A (W W0)) n n)) 85))=.ok (goInt (Nat.min n n)) (((W0.alloc (O (madeCells (aG Ev.zero) (n*10)) 180)).alloc (O (qL (MU (A (W W0)) n n)) 85)).setCells (A (W W0)) 0 (PB es)):=by
  have L:((W0.alloc (O (madeCells (aG Ev.zero) (n*10)) 180)).alloc (O (qL (MU (A (W W0)) n n)) 85)).heap[A (W W0)]?=H (O (madeCells (aG Ev.zero) (n*10)) 180 (0,0)):=by
   rw[xc _ _ _ (by simp)];exact heap_alloc_new W0 _
  refine Mn _ _ _ _ 180 _ _ _ _ _ _ _ 10 _ underlying78 (by kernel_rfl) (by rw[nW,K.o];simp) ?_ ?_ ?_ (Mm es)
  ·intro j u hu;have hj:j<n*10:=by have h1:=(List.getElem?_eq_some_iff.1 hu).1;rw[nW,K.o]at h1;exact h1
   have ea:(⟨J,0,U⟩:Addr).add j=⟨J,j,U⟩:=by unfold Addr.add;split<;>simp_all
   have h2:V W0 ⟨J,j,U⟩=(PB es)[j]?:=by
    have h3:=aN.o;unfold PH at h3;rw[K.o]at h3;exact h3.cellAt j hj
   rw[ea,<- hu,<- h2];simp only[xb];rw[xc _ _ _ (by simp;omega),xc _ _ _ ab]
  ·intro j hj;rw[nW,K.o]at hj;have h1:j<(madeCells (aG Ev.zero) (n*10)).size:=by rw[ZJ];exact hj
   simp only[xb,L,Nat.zero_add];simp[h1]
  ·intro j hj;simp only[World.frozen?,L];simp
 have aA:Nat.min n n=n:=Nat.min_self n;rw[aA]at ah;have H1:MT (∃W1:World,W1=((W0.alloc (O (madeCells (aG Ev.zero) (n*10)) 180)).alloc (O (qL (MU (A (W W0)) n n)) 85)).setCells (A (W W0)) 0 (PB es)/\W1.heap[A (W W0)+1]?=H (O (qL (MU (A (W W0)) n n)) 85 (0,0))/\PH W1 (MU (A (W W0)) n n) es/\Below (A (W W0)) W0 W1/\A (W W0)+2<=A (W W1)):=by
  refine⟨_,Z,?_,?_,?_,?_⟩
  ·rw[yW _ _ _ _ _ (by omega)];have:=heap_alloc_new (W0.alloc (O (madeCells (aG Ev.zero) (n*10)) 180)) (O (qL (MU (A (W W0)) n n)) 85);simpa using this
  ·have L:((W0.alloc (O (madeCells (aG Ev.zero) (n*10)) 180)).alloc (O (qL (MU (A (W W0)) n n)) 85)).heap[A (W W0)]?=H (O ((madeCells (aG Ev.zero) (n*10)).toList.toArray) 180 (0,0)):=by
    rw[xc _ _ _ (by simp)];simpa using heap_alloc_new W0 (O (madeCells (aG Ev.zero) (n*10)) 180)
   have h1:=wP (A (W W0)) 180 (0,0) (PB es) _ 0 _ L;have h2:=FQ (PB es) [] (madeCells (aG Ev.zero) (n*10)).toList (by rw[nW,K.o,Array.length_toList,ZJ]);simp only[List.nil_append,List.length_nil]at h2;rw[h2]at h1;refine⟨by rw[nW],Or.inr ⟨A (W W0),n,(PB es).toArray,by rw[K.o],xd _,h1,by rw[K.o];exact xR _,by unfold maxLen;omega,by simp[nW,K.o],by simp only[xg];exact List.take_of_length_le (by rw[nW];exact xR _)⟩⟩
  ·exact Below.setCells (xR _) _ _ _ (((xe _ _).alloc (xR _) _).alloc (by simp) _)
  ·rw[rD];simp
 obtain⟨W1,ae,kb,ac,af,bh⟩:=H1.o;clear H1;rw[<- ae]at ah;go_upto_region 4 with fail
 (try rw[<- ae])
 have aj:MT (Below (A (W w)+1) W0 W1):=af.mono aD;generalize bl:A (W W0)=ge at*;generalize ba:ge+1=fb at*;have bb:ge<fb:=by omega
 have am:=MS ac;have au:=MS kb;have bk:=MS af;clear kb ac af bh ah ae bd hi aE ai aF ab ba;have s:MT (FN (A (W w)+1) W0 W1 fb ge n es (fun _=>D U 0 0) []):=⟨au.o,am.o,fun g hg=>(by cases hg),List.nodup_nil,fun g hg=>(by cases hg),aj.o,by omega,by omega,bb⟩;clear au am aj;obtain⟨x,y,z⟩:=kM s.box;go_upto_region 5 with(first|(go_at_call 98;refine(lS n _ G).mono ?_;rintro e w1 ⟨S,rfl,r,i,m,d,C⟩;have E:=MS (s.X C);have F:=MS (s.step C i (Eb.mk r m d) 1 (by omega));clear r i m d C x y z s;obtain⟨x,y,z⟩:=kM E.box))
 clear x y z E;generalize w1.setCell ⟨fb,1,U⟩ (MU S n n)=V1 at*;have s:=F;clear F;obtain⟨x,y,z⟩:=kM s.box;go_upto_region 6 with(first|(go_at_call 98;refine(lS n _ G).mono ?_;rintro e w2 ⟨g2,rfl,r,i,m,d,C⟩;have E:=MS (s.X C);have F:=MS (s.step C i (Eb.mk r m d) 2 (by omega));clear r i m d C x y z s;obtain⟨x,y,z⟩:=kM E.box))
 clear x y z E;generalize w2.setCell ⟨fb,2,U⟩ (MU g2 n n)=V2 at*;have s:=F;clear F;obtain⟨x,y,z⟩:=kM s.box;go_upto_region 7 with(first|(go_at_call 98;refine(lS n _ G).mono ?_;rintro e w3 ⟨g3,rfl,r,i,m,d,C⟩;have E:=MS (s.X C);have F:=MS (s.step C i (Eb.mk r m d) 3 (by omega));clear r i m d C x y z s;obtain⟨x,y,z⟩:=kM E.box))
 clear x y z E;generalize w3.setCell ⟨fb,3,U⟩ (MU g3 n n)=V3 at*;have s:=F;clear F;obtain⟨x,y,z⟩:=kM s.box;go_upto_region 8 with(first|(go_at_call 98;refine(lS n _ G).mono ?_;rintro e w4 ⟨g4,rfl,r,i,m,d,C⟩;have E:=MS (s.X C);have F:=MS (s.step C i (Eb.mk r m d) 4 (by omega));clear r i m d C x y z s;obtain⟨x,y,z⟩:=kM E.box))
 clear x y z E;generalize w4.setCell ⟨fb,4,U⟩ (MU g4 n n)=V4 at*;have s:=F;clear F;obtain⟨x,y,z⟩:=kM s.box;go_upto_region 9 with(first|(go_at_call 98;refine(lS n _ G).mono ?_;rintro e w5 ⟨g5,rfl,r,i,m,d,C⟩;have E:=MS (s.X C);have F:=MS (s.step C i (Eb.mk r m d) 5 (by omega));clear r i m d C x y z s;obtain⟨x,y,z⟩:=kM E.box))
 clear x y z E;generalize w5.setCell ⟨fb,5,U⟩ (MU g5 n n)=V5 at*;have s:=F;clear F;obtain⟨x,y,z⟩:=kM s.box;go_upto_region 10 with(first|(go_at_call 98;refine(lS n _ G).mono ?_;rintro e w6 ⟨g6,rfl,r,i,m,d,C⟩;have E:=MS (s.X C);have F:=MS (s.step C i (Eb.mk r m d) 6 (by omega));clear r i m d C x y z s;obtain⟨x,y,z⟩:=kM E.box))
 clear x y z E;generalize w6.setCell ⟨fb,6,U⟩ (MU g6 n n)=V6 at*;have s:=F;clear F;obtain⟨x,y,z⟩:=kM s.box;go_upto_region 11 with(first|(go_at_call 98;refine(lS n _ G).mono ?_;rintro e w7 ⟨g7,rfl,r,i,m,d,C⟩;have E:=MS (s.X C);have F:=MS (s.step C i (Eb.mk r m d) 7 (by omega));clear r i m d C x y z s;obtain⟨x,y,z⟩:=kM E.box))
 clear x y z E;generalize w7.setCell ⟨fb,7,U⟩ (MU g7 n n)=V7 at*;have s:=F;clear F;obtain⟨x,y,z⟩:=kM s.box;go_upto_region 12 with(first|(go_at_call 98;refine(lS n _ G).mono ?_;rintro e w8 ⟨g8,rfl,r,i,m,d,C⟩;have E:=MS (s.X C);have F:=MS (s.step C i (Eb.mk r m d) 8 (by omega));clear r i m d C x y z s;obtain⟨x,y,z⟩:=kM E.box))
 clear x y z E;generalize w8.setCell ⟨fb,8,U⟩ (MU g8 n n)=V8 at*;have s:=F;clear F;obtain⟨x,y,z⟩:=kM s.box;go_upto_region 13 with(first|(go_at_call 98;refine(lS n _ G).mono ?_;rintro e w9 ⟨g9,rfl,r,i,m,d,C⟩;have E:=MS (s.X C);have F:=MS (s.step C i (Eb.mk r m d) 9 (by omega));clear r i m d C x y z s;obtain⟨x,y,z⟩:=kM E.box))
 clear x y z E;generalize w9.setCell ⟨fb,9,U⟩ (MU g9 n n)=V9 at*;have s:=F;clear F;have aI:=MS s.be;have FM:MT (Ec V9 fb (FA.mk n (MU ge n n) S g2 g3 g4 g5 g6 g7 g8 g9) (Eu.new es)):=by
  have hl:=K.o;have R:∀g∈[S,g2,g3,g4,g5,g6,g7,g8,g9],Eb V9 g n (NU es.length):=by rw[hl];exact s.rel
  exact⟨s.box,⟨s.ev,hl,G,R S (by simp),R g2 (by simp),R g3 (by simp),R g4 (by simp),R g5 (by simp),R g6 (by simp),R g7 (by simp),R g8 (by simp),R g9 (by simp)⟩,s.nd⟩
 have aY:∀g∈[S,g2,g3,g4,g5,g6,g7,g8,g9],A (W w)+1<=g:=s.gt;clear s ax;go_wp2;go_loopw[47] (fun j wr=>∃(k:Nat) (f:Eu),k<=n/\j=Y I k/\MT (f=(xF k).foldl (rB es) (Eu.new es))/\MT (Ec wr fb (FA.mk n (MU ge n n) S g2 g3 g4 g5 g6 g7 g8 g9) f)/\MT (Below (A (W w)+1) W0 wr)) fun j _=>n-(intOf j).toNat
 case atStart=>exact⟨0,_,xd _,Z,Z,FM,aI⟩
 case round =>
  obtain⟨k,f,hk,rfl,HT,HI,M⟩:=hrel;by_cases hlt:k<n
  ·have bm:(k:Int)<(n:Int):=by omega
   have az:k<es.length:=by rw[K.o];exact hlt
   have ar:MT (wr.rangeAt J (k*10) (aG (Q.ev es k)).toList):=jM (aq.cN K.symm k az) ((M.block J (by omega)).trans (ad.block J av));have aR:=aU.ev k az;have aW:MT ((xF (k+1)).foldl (rB es) (Eu.new es)=(xF n).foldl (fun f q=>f.jK k (Q.ev es k) q (Q.ev es q)) f):=by unfold MT;rw[jJ,<- HT.o];exact aQ.o f k
   have aH:J<A (W wr):=by have:=M.size;omega
   generalize Q.ev es k=e1 at*;have ao:MT (NK (wr.alloc (O (aG e1) 180)) (A (W wr)) e1):=NK.new wr e1;have an:=MS (HI.X ((xe _ _).alloc (xR _) (O (aG e1) 180)));have ak:MT (Below (A (W w)+1) W0 (wr.alloc (O (aG e1) 180))):=M.alloc (by have:=M.size;omega) _;go_wp2_with(first|(refine fY (.tmp 50) Z Z J (k*10) e1 Z ar.o ?_));go_loopw[54] (fun j wq=>∃(q:Nat) (u:Eu),q<=n/\j=Y I q/\MT (u=(xF q).foldl (fun f q=>f.jK k e1 q (Q.ev es q)) f)/\MT (Ec wq fb (FA.mk n (MU ge n n) S g2 g3 g4 g5 g6 g7 g8 g9) u)/\MT (Below (A (W w)+1) W0 wq)/\MT (NK wq (A (W wr)) e1)) fun j _=>n-(intOf j).toNat
   case atStart=>exact⟨0,f,xd _,Z,Z,an,ak,ao⟩
   case round =>
    clear ao an ak ar aH;obtain⟨q,u,hq,rfl,HU,HJ,N,HA⟩:=hrel;by_cases hql:q<n
    ·have bn:(q:Int)<(n:Int):=by omega
     have bg:q<es.length:=by rw[K.o];exact hql
     have aV:MT (wr.rangeAt J (q*10) (aG (Q.ev es q)).toList):=jM (aq.cN K.symm q bg) ((N.block J (by omega)).trans (ad.block J av));have aX:MT ((xF (q+1)).foldl (fun f q=>f.jK k e1 q (Q.ev es q)) f=u.jK k e1 q (Q.ev es q)):=by unfold MT;rw[jJ,<- HU.o]
     have aH:J<A (W wr):=by have:=N.size;omega
     generalize Q.ev es q=e2 at*;have aK:=MS (HJ.X ((xe _ _).alloc (xR _) (O (aG e2) 180)));have ap:=MS (HA.alloc (O (aG e2) 180));have aL:=MS (NK.new wr e2);have al:MT (Below (A (W w)+1) W0 (wr.alloc (O (aG e2) 180))):=N.alloc (by have:=N.size;omega) _;have aZ:A (W w)+1<=(wr.alloc (O (aG e2) 180)).heap.size:=by have:=al.size;omega
     obtain⟨x0,xf,xl⟩:=ap.fs;obtain⟨x,y,z⟩:=aL.fs;simp only[aG]at x0 xf xl x y z;go_wp2_with(first|(refine fY (.tmp 57) Z Z J (q*10) e2 Z aV.o ?_)|(go_at_call 137;refine(Ox (A (W w)+1) fb (FA.mk n (MU ge n n) S g2 g3 g4 g5 g6 g7 g8 g9) u k q e1 e2 _ aK.o aZ aY aR (by omega) (by omega)).mono ?_;rintro e wc ⟨rfl,hm,aw,ay⟩;have aS:=MS hm;have aJ:=MS (al.trans aw);have aM:=MS (ay _ _ ap.o);clear hm aw ay));go_roundw
     case rel=>exact⟨q+1,_,by omega,by go_num,aX.symm,aS,aJ,aM⟩
     case measure=>simp[intOf];omega
    ·have aT:MT (u=(xF (k+1)).foldl (rB es) (Eu.new es)):=by unfold MT;rw[aW.o,HU.o,show q=n by omega]
     go_wp2;go_roundw
     case rel=>exact⟨k+1,u,by omega,by go_num,aT,HJ,N⟩
     case measure=>simp[intOf];omega
  ·have bc:k=n:=by omega
   have aO:MT (f=NH es):=by unfold MT;rw[aP.o,HT.o,bc]
   have aa:=HI.box;simp only[OK]at aa;obtain⟨x,y1,y2,y3,y4,y5,y6,y7,y8,y9,y,z⟩:=MH aa;have KR:=MS ((M.block _ (by omega)).trans K0.o);obtain⟨z0,z1,z2,z3,z4,z5,z6,z7,z8,z9,zf,zl⟩:=MH KR.o;have bj:=MS aa;clear aa;go_wp2;obtain⟨t0,t1,t2⟩:=DA [MU ge n n,MU S n n,MU g2 n n,MU g3 n n,MU g4 n n,MU g5 n n,MU g6 n n,MU g7 n n,MU g8 n n,MU g9 n n] KR.o Z;refine qW (p:=2) (A (W w)) _ (by kernel_rfl) underlying85 Z (by kernel_rfl) Z (by exact t0) Z ⟨FA.mk n (MU ge n n) S g2 g3 g4 g5 g6 g7 g8 g9,Z,K.symm,?_,?_⟩
   ·rw[<- aO.o];exact HI.fin.frame KR.o t1
   ·exact t2 _ _ (xR _) (ad.trans (M.mono (by omega)))
