import Derived.Deep.CutRange
import Derived.Test.YtehclbpoabdpoaaGreatDoorO09
set_option linter.all false
set_option maxHeartbeats 0
namespace Go.Proofs.YtehclbpoabdpoaaGreatDoor
open Go Go.RowKit Go.Proofs.Tryz P Q
open scoped Classical
set_option maxRecDepth 1000000
variable {w w':World}{g:Nat}{p:Prop}
open List renaming length->L
open Go.World renaming cell?->D,heap->S
open _root_.Array renaming size->F
open Bool renaming false->Y,true->C
open Go.Value renaming int->O,bool->M
open Go.IntKind renaming i64->I
open Go.Ending renaming returned->G
open Option renaming none->U,some->N
open Nat renaming le_refl->xF,lt_of_lt_of_le->xW
open Go.RowKit.Below renaming refl->xR
open Bool renaming true_and->x1,false_and->x2,or_true->x4,true_or->x5,or_false->x6,false_or->x7,and_true->x8,and_false->x9,eq_iff_iff->xa
open List renaming range->x3
def PZ(B:Nat)(w:World)(n:Nat):Below B w (w.drewN n):=by
 induction n with
 |zero=>exact xR _ _
 |succ n ih=>exact⟨ih.os,ih.tape,ih.output,ih.size,ih.block⟩
def dA{a b:World}{B:Nat}(h:Below B w a)(c:B<=F (S w))(k:Below (F (S a)) a b):Below B w b:=h.trans (k.mono (Nat.le_trans c h.size))
namespace J
structure E where
 t:Int
 b:Int
 B:ByteArray
 loc:Int
 val:Int
 ord:ByteArray
 scope:ByteArray
 half:Bool
 round:Int
 on:List Int
def E.zero:E:=⟨0,0,⟨#[]⟩,0,0,⟨#[]⟩,⟨#[]⟩,Y,0,[]⟩
def ev(es:List E)(i:Nat):E:=es.getD i E.zero
def cD(es:List E)(a b:Nat):Bool:=if a<3 then decide (3<=b)else decide (3<=b)&&((ev es a).t==(ev es b).t&&decide (a<b))
def kW:List UInt8:=[119]
def kR:List UInt8:=[114]
def bT:List UInt8:=[119,101,97,107]
def sDev:List UInt8:=[100,101,118,105,99,101]
def plain(x y:E):Bool:=x.ord.toList==bT||(y.ord.toList==bT||(x.ord.toList.isEmpty||y.ord.toList.isEmpty))
def nG(x y:E):Bool:=x.b==y.b||x.scope.toList==sDev&&y.scope.toList==sDev
def aD(es:List E)(a b:Nat):Bool:=if a<3\/b<3 then Y else if(ev es a).t==(ev es b).t then C else !plain (ev es a) (ev es b)&&nG (ev es a) (ev es b)
def order(es:List E)(ats:List Int)(a b:Nat):Bool:=(a:Int) != (b:Int)&&((ev es a).B.toList==kW&&((ev es b).B.toList==kW&&((ev es a).loc==(ev es b).loc&&decide (ats.getD a 0<ats.getD b 0))))
def aX(es:List E)(fr:List Int)(a b:Nat):Bool:=fr.getD b 0==(a:Int)&&(ev es b).B.toList==kR
def misses(es:List E)(fr ats:List Int)(a b:Nat):Bool:=(ev es a).B.toList==kR&&order es ats (fr.getD a 0).toNat b
def cU(es:List E)(fr ats:List Int)(a b:Nat):Bool:=aX es fr a b||(order es ats a b||misses es fr ats a b)
def kA:List UInt8:=[97]
def kL:List UInt8:=[108]
def kF:List UInt8:=[102]
def sI:List UInt8:=[115,99]
def dY(x y:E):Bool:=x.B.toList==kA&&(y.B.toList==kL&&(x.b==y.b&&x.round==y.round))
def sc(es:List E)(a b:Nat):Bool:=(a:Int) != (b:Int)&&(aD es a b&&((ev es a).B.toList==kF&&((ev es b).B.toList==kF&&((ev es a).ord.toList==sI&&(ev es b).ord.toList==sI))))
def bI(es:List E)(fr:List Int)(a:Nat):Nat->Nat->Bool
 |0,_=>Y
 |n+1,b=>if decide (0<=fr.getD b 0)&&aD es (fr.getD b 0).toNat b then(if fr.getD b 0==(a:Int)then C else if(ev es (fr.getD b 0).toNat).half then bI es fr a n ((fr.getD b 0).toNat-1)else Y)else Y
def aP(es:List E)(fr:List Int)(a b:Nat):Bool:=bI es fr a (L es+1) b
def Full(es:List E)(fr:List Int):Prop:=∀i,i<L es->((ev es i).B.toList==kR)=C->0<=fr.getD i 0/\fr.getD i 0<(L es:Int)
end J
structure SM(w:World)(g o:Nat)(e:J.E):Prop where
 t:D w ⟨g,o,U⟩=N (O I e.t)
 b:D w ⟨g,o+1,U⟩=N (O I e.b)
 k:D w ⟨g,o+2,U⟩=N (.string e.B)
 l:D w ⟨g,o+3,U⟩=N (O I e.loc)
 v:D w ⟨g,o+4,U⟩=N (O I e.val)
 r:D w ⟨g,o+5,U⟩=N (.string e.ord)
 s:D w ⟨g,o+6,U⟩=N (.string e.scope)
 h:D w ⟨g,o+7,U⟩=N (M e.half)
 n:D w ⟨g,o+8,U⟩=N (O I e.round)
structure QG(w:World)(g ge ce gf cf ga ca:Nat)(es:List J.E)(fr ats:List Int):Prop where
 e:D w ⟨g,2,U⟩=N (MU ge (L es) ce)
 f:D w ⟨g,5,U⟩=N (MU gf (L es) cf)
 a:D w ⟨g,6,U⟩=N (MU ga (L es) ca)
 ev:∀i,i<L es->SM w ge (i*10) (J.ev es i)
 fr:∀i,i<L es->D w ⟨gf,i,U⟩=N (O I (fr.getD i 0))
 at_:∀i,i<L es->D w ⟨ga,i,U⟩=N (O I (ats.getD i 0))
 lg:g<F (S w)
 le:ge<F (S w)
 lf:gf<F (S w)
 la:ga<F (S w)
 n:L es<1000
def SM.X{o:Nat}{e:J.E}(h:SM w g o e)(c:g<F (S w))(a:Below (F (S w)) w w'):SM w' g o e :=
 ⟨(a.cell c).trans h.t,(a.cell c).trans h.b,(a.cell c).trans h.k,(a.cell c).trans h.l,(a.cell c).trans h.v,(a.cell c).trans h.r,(a.cell c).trans h.s,(a.cell c).trans h.h,(a.cell c).trans h.n⟩
def QG.X{r l s m q k:Nat}{o:List J.E}{j c:List Int}(h:QG w g r l s m q k o j c)(b:Below (F (S w)) w w'):QG w' g r l s m q k o j c :=
 have hs:=b.size
 ⟨(b.cell h.lg).trans h.e,(b.cell h.lg).trans h.f,(b.cell h.lg).trans h.a,fun i d=>(h.ev i d).X h.le b,fun i d=>(b.cell h.lf).trans (h.fr i d),fun i d=>(b.cell h.la).trans (h.at_ i d),xW h.lg hs,xW h.le hs,xW h.lf hs,xW h.la hs,h.n⟩
def EY(g v q x r u o:Nat)(c:List J.E)(s i:List Int)(w:World)(h:QG w g v q x r u o c s i)(a b:Nat)(y:a<L c)(A:b<L c):
  Calls prog 211 #[.pointer (N ⟨g,0,U⟩),O I (a:Int),O I (b:Int)] w fun e w'=>e=G (M (J.cD c a b))/\Below (F (S w)) w w':=by
 have H:=h.e;have l:=(h.ev a y).t;have m:=(h.ev b A).t;have V:=h.n;have T:=h.lg;have K:=h.le;have z:(a:Int)<(L c:Int):=by omega
 have B:(b:Int)<(L c:Int):=by omega
 by_cases h3:a<3
 ·have j:(a:Int)<3:=by omega
  have f:J.cD c a b=decide ((3:Int)<=(b:Int)):=by unfold J.cD;rw[if_pos h3,xa];simp;omega
  clear H l m h;go_enter func211,ntmps211;go_wp2;go_ret;exact⟨by rw[f];first|rfl|simp,xR _ _⟩
 ·have j:¬(a:Int)<3:=by omega
  by_cases h4:3<=b
  ·have d:(3:Int)<=(b:Int):=by omega
   have k:decide ((3:Int)<=(b:Int))=C:=by simpa using d
   have f:J.cD c a b=((J.ev c a).t==(J.ev c b).t&&decide ((a:Int)<(b:Int))):=by
    unfold J.cD;rw[if_neg h3,decide_eq_true h4,x1,xa];simp
   cases hz:(J.ev c a).t==(J.ev c b).t
   all_goals
    rw[hz]at f;clear h;go_enter func211,ntmps211;go_wp2;go_quiet (fail);go_wp2;go_ret;exact⟨by rw[f];first|rfl|simp,PZ _ _ _⟩
  ·have d:¬(3:Int)<=(b:Int):=by omega
   have k:decide ((3:Int)<=(b:Int))=Y:=by simpa using d
   have f:J.cD c a b=Y:=by
    unfold J.cD;rw[if_neg h3,decide_eq_false h4,x2]
   clear h;go_enter func211,ntmps211;go_wp2;go_quiet (fail);go_wp2;go_ret;exact⟨by rw[f];first|rfl|simp,PZ _ _ _⟩
structure TabAt(w:World)(g n:Nat)(gs:Nat->Nat)(R:Nat->Nat->Bool):Prop where
 row:∀i,i<n->D w ⟨g,i,U⟩=N (MU (gs i) n n)
 bit:∀i k,i<n->k<n->D w ⟨gs i,k,U⟩=N (M (R i k))
 lg:g<F (S w)
 lr:∀i,i<n->gs i<F (S w)
 n:n<1000
def TabAt.X{n:Nat}{c:Nat->Nat}{R:Nat->Nat->Bool}(h:TabAt w g n c R)(b:Below (F (S w)) w w'):TabAt w' g n c R :=
 ⟨fun i a=>(b.cell h.lg).trans (h.row i a),fun i k a d=>(b.cell (h.lr i a)).trans (h.bit i k a d),xW h.lg b.size,fun i a=>xW (h.lr i a) b.size,h.n⟩
def J.rnd(n:Nat)(R:Nat->Nat->Bool):Bool:=(x3 n).any fun i=>R i i
def JZ(g n:Nat)(q:Nat->Nat)(R:Nat->Nat->Bool)(w:World)(h:TabAt w g n q R):
  Calls prog 144 #[MU g n n] w fun e w'=>e=G (M (J.rnd n R))/\w'=w:=by
 have H:=MS h;have u:=h.n;have r:=h.lg;clear h;go_enter func144,ntmps144;go_wp2;go_loopw[3] (fun i wr=>∃k:Nat,k<=n/\i=O I k/\MT (∀j,j<k->R j j=Y)/\wr=w) fun i _=>n-(intOf i).toNat
 case atStart=>exact⟨0,Nat.zero_le _,Z,fun j a=>absurd a (Nat.not_lt_zero _),Z⟩
 case round =>
  obtain⟨k,t,rfl,f,rfl⟩:=hrel;by_cases hlt:k<n
  ·have d:(k:Int)<(n:Int):=by omega
   have v:=H.row k hlt;have l:=H.bit k k hlt hlt;have s:=H.lr k hlt
   cases z:R k k
   ·rw[z]at l;have m:MT (∀j,j<k+1->R j j=Y):=fun j a=>by
     by_cases c:j=k
     ·rw[c];exact z
     ·exact f.o j (by omega)
    go_wp2;go_roundw
    case rel=>exact⟨k+1,by omega,by go_num,m,by trivial⟩
    case measure=>simp[intOf];omega
   ·rw[z]at l;have b:MT (J.rnd n R=C):=by unfold MT J.rnd;rw[List.any_eq_true];exact⟨k,List.mem_range.2 hlt,z⟩
    go_wp2;go_ret;exact⟨by rw[b.o];first|rfl|simp,Z⟩
  ·have d:¬(k:Int)<(n:Int):=by omega
   have b:MT (J.rnd n R=Y):=by
    unfold MT J.rnd;rw[List.any_eq_false];intro j a;rw[f.o j (by have:=List.mem_range.1 a;omega)];decide
   go_wp2;go_ret;exact⟨by rw[b.o];first|rfl|simp,Z⟩
def L4(p q r s:Bool):p=C\/p=Y/\q=C\/p=Y/\q=Y/\r=C\/p=Y/\q=Y/\r=Y/\s=C\/p=Y/\q=Y/\r=Y/\s=Y:=by
 cases p<;>cases q<;>cases r<;>cases s<;>simp
def L5(p q r:Bool):p=C\/p=Y/\q=Y\/p=Y/\q=C/\r=C\/p=Y/\q=C/\r=Y:=by
 cases p<;>cases q<;>cases r<;>simp
def sB(g V B W H T A:Nat)(c:List J.E)(K j:List Int)(w:World)(h:QG w g V B W H T A c K j)(a b:Nat)(X:a<L c)(hb:b<L c):
  Calls prog 217 #[.pointer (N ⟨g,0,U⟩),O I (a:Int),O I (b:Int)] w fun e w'=>e=G (M (J.aD c a b))/\Below (F (S w)) w w':=by
 have he:=h.e;obtain⟨at_,ab,_,_,_,ao,z,_,_⟩:=h.ev a X;obtain⟨bt,bb,_,_,_,bo,bs,_,_⟩:=h.ev b hb;have hn:=h.n;have lg:=h.lg;have le:=h.le;have aa:(a:Int)<(L c:Int):=by omega
 have ac:(b:Int)<(L c:Int):=by omega
 clear h;have d:MT (J.aD c a b=if a<3\/b<3 then Y else if(J.ev c a).t==(J.ev c b).t then C else !J.plain (J.ev c a) (J.ev c b)&&J.nG (J.ev c a) (J.ev c b)):=Z;generalize J.ev c a=x at*;generalize J.ev c b=y at*;by_cases h1:a<3
 ·have k:(a:Int)<3:=by omega
  go_enter func217,ntmps217;go_wp2;go_ret;exact⟨by rw[d.o,if_pos (Or.inl h1)];rfl,xR _ _⟩
 have k:¬(a:Int)<3:=by omega
 by_cases h2:b<3
 ·have l:(b:Int)<3:=by omega
  go_enter func217,ntmps217;go_wp2;go_ret;exact⟨by rw[d.o,if_pos (Or.inr h2)];rfl,xR _ _⟩
 have l:¬(b:Int)<3:=by omega
 cases z0:x.t==y.t
 ·rcases L4 (x.ord.toList==J.bT) (y.ord.toList==J.bT) x.ord.toList.isEmpty y.ord.toList.isEmpty with f|⟨f,q⟩|⟨f,q,s⟩|⟨f,q,s,p4⟩|⟨f,q,s,p4⟩ <;>
   rcases L5 (x.b==y.b) (x.scope.toList==J.sDev) (y.scope.toList==J.sDev)with m|⟨m,r⟩|⟨m,r,n3⟩|⟨m,r,n3⟩
  all_goals
   have i:MT (J.aD c a b=(!J.plain x y&&J.nG x y)):=by unfold MT;rw[d.o,if_neg (by omega),z0];rfl
   have u:MT (∃v,J.aD c a b=v/\(!J.plain x y&&J.nG x y)=v):=⟨_,i.o,Z⟩;simp only[J.plain,J.nG, *,x4,x5,x6,x7,x8,x1,x9,x2,Bool.not_true,Bool.not_false]at i;simp only[J.bT,J.sDev]at *;go_enter func217,ntmps217;go_wp2;go_quiet (fail);go_wp2;go_quiet (fail);go_wp2;go_ret;exact⟨by rw[i.o];first|rfl|simp,PZ _ _ _⟩
 ·go_enter func217,ntmps217;go_wp2;go_quiet (fail);go_wp2;go_ret;exact⟨by rw[d.o,if_neg (by omega),z0];rfl,PZ _ _ _⟩
namespace J
def gP(x y:E):Bool:=x.B.toList==kW&&(y.B.toList==kW||y.B.toList==kR)||x.B.toList==kR&&y.B.toList==kW
def GX(es:List E)(R:Nat->Nat->Bool)(i k:Nat):Bool:=!gP (ev es i) (ev es k)||(!((ev es i).loc==(ev es k).loc)||((ev es i).t==(ev es k).t||(R i k||R k i)))
def dC(es:List E)(R:Nat->Nat->Bool)(i k:Nat):Bool:=!GX es R i k&&!aD es i k
def cG(es:List E)(R:Nat->Nat->Bool):Prop:=∃i k,3<=i/\i<k/\k<L es/\dC es R i k=C
def yes [D:∀p,Decidable p](p:Prop):Bool:=@decide p (D p)
def bJ:yes p=C↔p:=by unfold yes;exact @decide_eq_true_iff p (Classical.propDecidable p)
def fS(h:p):yes p=C:=bJ.2 h
def iQ(h:¬p):yes p=Y:=by
 cases c:yes p
 ·rfl
 ·exact absurd (bJ.1 c) h
end J
def L6(p q r s:Bool):p=Y/\s=Y\/p=Y/\s=C/\q=Y\/p=Y/\s=C/\q=C\/p=C/\q=C\/p=C/\q=Y/\r=C\/p=C/\q=Y/\r=Y/\s=Y\/p=C/\q=Y/\r=Y/\s=C:=by
 cases p<;>cases q<;>cases r<;>cases s<;>simp
def L7(p q r s t:Bool):p=Y\/p=C/\q=Y\/p=C/\q=C/\r=C\/p=C/\q=C/\r=Y/\s=C\/p=C/\q=C/\r=Y/\s=Y/\t=C\/p=C/\q=C/\r=Y/\s=Y/\t=Y:=by
 cases p<;>cases q<;>cases r<;>cases s<;>cases t<;>simp
def L8{x y:Int}{b:Bool}(h:(x==y)=b):(x != y)=!b:=by unfold bne;rw[h]
def L9(g ge ce gf cf ga ca:Nat)(a:List J.E)(fr T:List Int)(w:World)(h:QG w g ge ce gf cf ga ca a fr T)(gt:Nat)(gs:Nat->Nat)(R:Nat->Nat->Bool)(ht:TabAt w gt (L a) gs R)(h3:3<=L a):
  Calls prog 219 #[.pointer (N ⟨g,0,U⟩),MU gt (L a) (L a)] w fun e w'=>e=G (M (J.yes (J.cG a R)))/\Below (F (S w)) w w':=by
 have H:=MS h;have HT:=MS ht;have hn:=h.n;clear h ht;go_enter func219,ntmps219;go_wp2;go_loopw[5] (fun i wr=>∃k:Nat,3<=k/\k<=L a/\i=O I k/\MT (∀i j,3<=i->i<k->i<j->j<L a->J.dC a R i j=Y)/\MT (Below (F (S w)) w wr)) fun i _=>L a-(intOf i).toNat
 case atStart=>exact⟨3,xF _,h3,Z,fun i j l m=>absurd m (by omega),xR _ _⟩
 case round =>
  obtain⟨i,aa,hi,rfl,HI,HB⟩:=hrel;have K:=H.X HB.o;have he:=K.e;have lg:=K.lg;have le:=K.le;clear K;by_cases hlt:i<L a
  ·have ab:(i:Int)<(L a:Int):=by omega
   go_wp2;go_loopw[6] (fun q wr=>∃k:Nat,i+1<=k/\k<=L a/\q=O I k/\MT (∀j,i<j->j<k->J.dC a R i j=Y)/\MT (Below (F (S w)) w wr)) fun q _=>L a-(intOf q).toNat
   case atStart=>exact⟨i+1,xF _,by omega,by go_num,fun j l m=>absurd m (by omega),HB⟩
   case round =>
    obtain⟨k,ai,hk,rfl,HJ,HB⟩:=hrel;have K:=H.X HB.o;have f:=HT.X HB.o;have he:=K.e;have lg:=K.lg;have le:=K.le;by_cases hkt:k<L a
    ·have ac:(k:Int)<(L a:Int):=by omega
     obtain⟨it,_,ik,il,_,_,_,_,_⟩:=K.ev i hlt;obtain⟨kt,_,kk,kl,_,_,_,_,_⟩:=K.ev k hkt;have r1:=f.row i hlt;have r2:=f.row k hkt;have b1:=f.bit i k hlt hkt;have b2:=f.bit k i hkt hlt;have ad:=f.lg;have ae:=f.lr i hlt;have af:=f.lr k hkt;have HK:=MS K;have W:MT (J.dC a R i k=(!(!J.gP (J.ev a i) (J.ev a k)||(!((J.ev a i).loc==(J.ev a k).loc)||((J.ev a i).t==(J.ev a k).t||(R i k||R k i))))&&!J.aD a i k)):=Z;clear K f;generalize J.ev a i=x at*;generalize J.ev a k=y at*;go_upto_region 9 with fail
     go_cut[9]from 22 to 123 fun c wx=>∃bq,c=M bq/\MT (J.gP x y=bq)/\wx=wr
     case first =>
      have HV:MT (J.gP x y=(x.B.toList==J.kW&&(y.B.toList==J.kW||y.B.toList==J.kR)||x.B.toList==J.kR&&y.B.toList==J.kW)):=Z;clear W it kt il kl r1 r2 b1 b2 ad ae af
      rcases L6 (x.B.toList==J.kW) (y.B.toList==J.kW) (y.B.toList==J.kR) (x.B.toList==J.kR)with⟨V,b⟩|⟨V,b,r⟩|⟨V,b,r⟩|⟨V,b⟩|⟨V,b,r⟩|⟨V,b,r,p4⟩|⟨V,b,r,p4⟩
      all_goals
       have v:=HV.o;simp only[*,x8,x1,x9,x2,x4,x5,x6,x7]at v;have A:=MS v;clear v HV;simp only[J.kW,J.kR]at *;go_wp2;go_meet
       case rel=>exact⟨_,Z,A.o,Z⟩
     obtain⟨bq,rfl,s,rfl⟩:=hcut;rw[s.o]at W;go_upto_region 10 with fail
     go_cut[117]from 22 to 123 fun c wx=>∃bs,c=M bs/\MT (J.dC a R i k=(!bs&&!J.aD a i k))/\MT (Below (F (S w)) w wx)
     case first =>
      clear ik kk;generalize R i k=ag at*;generalize R k i=ah at*
      rcases L7 bq (x.loc==y.loc) (x.t==y.t) ag ah with rfl|⟨rfl,b⟩|⟨rfl,b,r⟩|⟨rfl,b,r,rfl⟩|⟨rfl,b,r,rfl,rfl⟩|⟨rfl,b,r,rfl,rfl⟩
      all_goals
       have v:=W.o;simp only[*,x8,x1,x9,x2,x4,x5,x6,x7,Bool.not_true,Bool.not_false]at v;have A:=MS v;clear v W s
       try have q2:=L8 b
       go_quiet (fail);go_wp2;go_meet
       case rel=>exact⟨_,Z,A.o,dA HB.o (xF _) (PZ _ _ _)⟩
     obtain⟨bs,rfl,u,HB⟩:=hcut;have K:=MS (H.X HB.o);clear W s;cases bs
     ·cases z:J.aD a i k
      ·go_wp2_with(first|(go_at_call 217;refine(sB g ge ce gf cf ga ca a fr T _ K.o i k hlt hkt).mono ?_;rintro e w3 ⟨rfl,d⟩;rw[z];have B3:=MS (dA HB.o (xF _) d);clear d));go_ret;exact⟨by rw[J.fS ⟨i,k,aa,by omega,hkt,by rw[u.o,z];rfl⟩];first|rfl|simp,B3.o⟩
      ·have HN:MT (∀j,i<j->j<k+1->J.dC a R i j=Y):=fun j l m=>by
        by_cases c:j=k
        ·rw[c,u.o,z];rfl
        ·exact HJ.o j l (by omega)
       go_wp2_with(first|(go_at_call 217;refine(sB g ge ce gf cf ga ca a fr T _ K.o i k hlt hkt).mono ?_;rintro e w3 ⟨rfl,d⟩;rw[z];have B3:=MS (dA HB.o (xF _) d);clear d));go_roundw
       case rel=>exact⟨k+1,by omega,by omega,by go_num,HN,B3⟩
       case measure=>simp[intOf];omega
     ·have HN:MT (∀j,i<j->j<k+1->J.dC a R i j=Y):=fun j l m=>by
       by_cases c:j=k
       ·rw[c,u.o];rfl
       ·exact HJ.o j l (by omega)
      go_wp2;go_roundw
      case rel=>exact⟨k+1,by omega,by omega,by go_num,HN,HB⟩
      case measure=>simp[intOf];omega
    ·have ac:¬(k:Int)<(L a:Int):=by omega
     clear K f;have HN:MT (∀p j,3<=p->p<i+1->p<j->j<L a->J.dC a R p j=Y):=fun p j l m h4 h5=>by
      by_cases c:p=i
      ·rw[c];exact HJ.o j (by omega) (by omega)
      ·exact HI.o p j l (by omega) h4 h5
     go_wp2;go_roundw
     case rel=>exact⟨i+1,by omega,by omega,by go_num,HN,HB⟩
     case measure=>simp[intOf];omega
  ·have ab:¬(i:Int)<(L a:Int):=by omega
   go_wp2;go_ret;exact⟨by rw[J.iQ fun⟨p,k,l,m,h4,h5⟩=>by rw[HI.o p k l (by omega) m h4]at h5;cases h5];first|rfl|simp,HB.o⟩
def JP(g r k s l q j:Nat)(c:List J.E)(m d:List Int)(w:World)(h:QG w g r k s l q j c m d)(a b:Nat)(f:a<L c)(i:b<L c):
  Calls prog 214 #[.pointer (N ⟨g,0,U⟩),O I (a:Int),O I (b:Int)] w fun e w'=>e=G (M (J.order c d a b))/\Below (F (S w)) w w':=by
 have X:=h.e;have u:=h.a;obtain⟨_,_,T,V,_,_,_,_,_⟩:=h.ev a f;obtain⟨_,_,W,bl,_,_,_,_,_⟩:=h.ev b i;have H:=h.at_ a f;have K:=h.at_ b i;have hn:=h.n;have A:=h.lg;have z:=h.le;have y:=h.la;have t:(a:Int)<(L c:Int):=by omega
 have v:(b:Int)<(L c:Int):=by omega
 have x:MT (J.order c d a b=((a:Int) != (b:Int)&&((J.ev c a).B.toList==J.kW&&((J.ev c b).B.toList==J.kW&&((J.ev c a).loc==(J.ev c b).loc&&decide (d.getD a 0<d.getD b 0)))))):=Z;clear h
 cases z1:(a:Int) != (b:Int)<;>cases z2:(J.ev c a).B.toList==J.kW<;>cases z3:(J.ev c b).B.toList==J.kW<;>cases z4:(J.ev c a).loc==(J.ev c b).loc
 all_goals
  unfold J.kW at z2 z3;go_enter func214,ntmps214;go_wp2;go_quiet (fail);go_wp2;go_ret;exact⟨by rw[x.o,z1,z4];unfold J.kW;rw[z2,z3];first|rfl|simp,PZ _ _ _⟩
def Ma(g s m t q r l:Nat)(c:List J.E)(d i:List Int)(w:World)(h:QG w g s m t q r l c d i)(a b:Nat)(T:a<L c)(j:b<L c):
  Calls prog 215 #[.pointer (N ⟨g,0,U⟩),O I (a:Int),O I (b:Int)] w fun e w'=>e=G (M (J.aX c d a b))/\Below (F (S w)) w w':=by
 have V:=h.e;have W:=h.f;have v:=h.fr b j;have K:=(h.ev b j).k;have X:=h.n;have H:=h.lg;have z:=h.le;have A:=h.lf;have u:(b:Int)<(L c:Int):=by omega
 have y:MT (J.aX c d a b=(d.getD b 0==(a:Int)&&(J.ev c b).B.toList==J.kR)):=Z;clear h;generalize d.getD b 0=x at*
 cases z1:x==(a:Int)<;>cases z2:(J.ev c b).B.toList==J.kR
 all_goals
  unfold J.kR at z2;go_enter func215,ntmps215;go_wp2;go_ret;exact⟨by rw[y.o,z1];unfold J.kR;rw[z2];first|rfl|simp,xR _ _⟩
def MG(g z v A x y u:Nat)(d:List J.E)(i c:List Int)(w:World)(h:QG w g z v A x y u d i c)(a b:Nat)(j:a<L d)(hb:b<L d)(V:J.Full d i):
  Calls prog 216 #[.pointer (N ⟨g,0,U⟩),O I (a:Int),O I (b:Int)] w fun e w'=>e=G (M (J.misses d i c a b))/\Below (F (S w)) w w':=by
 have he:=h.e;have hf:=h.f;have m:=h.fr a j;have ak:=(h.ev a j).k;have hn:=h.n;have lg:=h.lg;have le:=h.le;have lf:=h.lf;have W:(a:Int)<(L d:Int):=by omega
 have s:MT (J.misses d i c a b=((J.ev d a).B.toList==J.kR&&J.order d c (i.getD a 0).toNat b)):=Z;have H:=MS h;clear h
 cases z1:(J.ev d a).B.toList==J.kR
 ·unfold J.kR at z1;go_enter func216,ntmps216;go_wp2;go_ret;exact⟨by rw[s.o];unfold J.kR;rw[z1];first|rfl|simp,xR _ _⟩
 ·obtain⟨K,T⟩:=V a j z1;obtain⟨k,q⟩:∃k:Nat,i.getD a 0=(k:Int):=⟨(i.getD a 0).toNat,by omega⟩;unfold J.kR at z1;have r:k<L d:=by omega
  have t:MT (J.misses d i c a b=J.order d c k b):=by unfold MT;rw[s.o,q];unfold J.kR;rw[z1];rfl
  rw[q]at m;clear K T q s;go_enter func216,ntmps216;go_wp2_with(first|(go_at_call 214;refine(JP g z v A x y u d i c _ (by first|exact H.o|exact H.X (PZ _ _ _)) k b r hb).mono ?_;rintro e w1 ⟨rfl,l⟩));go_ret;exact⟨by rw[t.o];first|rfl|simp,l⟩
def Mb(g r m s n q l:Nat)(d:List J.E)(f c:List Int)(w:World)(h:QG w g r m s n q l d f c)(a b:Nat)(t:a<L d)(u:b<L d)(B:J.Full d f):
  Calls prog 218 #[.pointer (N ⟨g,0,U⟩),O I (a:Int),O I (b:Int)] w fun e w'=>e=G (M (J.cU d f c a b))/\Below (F (S w)) w w':=by
 have K:MT (J.cU d f c a b=(J.aX d f a b||(J.order d c a b||J.misses d f c a b))):=Z;have H:=MS h;clear h
 cases z1:J.aX d f a b<;>cases z2:J.order d c a b
 all_goals
  go_enter func218,ntmps218;go_wp2_with(first
   |(go_at_call 215;refine(Ma g r m s n q l d f c _ H.o a b t u).mono ?_;rintro e T ⟨rfl,i⟩;rw[z1];have x:=MS i;have v:=MS (H.X i);clear i)
   |(go_at_call 214;refine(JP g r m s n q l d f c _ v.o a b t u).mono ?_;rintro e V ⟨rfl,j⟩;rw[z2];have y:=MS (dA x.o (xF _) j);have A:=MS (v.X j);clear j)
   |(go_at_call 216;refine(MG g r m s n q l d f c _ A.o a b t u B).mono ?_;rintro e W ⟨rfl,k⟩;have z:=MS (dA y.o (xF _) k);clear k))
  go_ret;exact⟨by rw[K.o,z1,z2];first|rfl|simp,z.o⟩
namespace J
def isStep(x:E):Bool:=x.B.toList==kR&&x.half
def iW(es:List E)(fr ats:List Int)(i k:Nat):Bool:=misses es fr ats i k&&order es ats k (i+1)
def Whole(es:List E)(fr ats:List Int):Prop:=∀i,3<=i->i<L es->isStep (ev es i)=C->∀k,k<L es->iW es fr ats i k=Y
def wholeB(es:List E)(fr ats:List Int):Bool:=(x3 (L es)).all fun i=>!(decide (3<=i)&&isStep (ev es i))||(x3 (L es)).all fun k=>!iW es fr ats i k
def gI(b:List E)(f a:List Int):wholeB b f a=C↔Whole b f a:=by
 unfold wholeB Whole;simp only[List.all_eq_true,List.mem_range,Bool.or_eq_true,Bool.not_eq_true',Bool.and_eq_false_iff,decide_eq_false_iff_not];constructor
 ·intro h i j e hs k l
  rcases h i e with(c|c)|c
  ·exact absurd j c
  ·rw[hs]at c;cases c
  ·exact c k l
 ·intro h i e;by_cases c:3<=i
  ·cases d:isStep (ev b i)
   ·exact Or.inl (Or.inr Z)
   ·exact Or.inr (h i c e d)
  ·exact Or.inl (Or.inl c)
end J
def WU(g m i n j l f:Nat)(d:List J.E)(k c:List Int)(w:World)(h:QG w g m i n j l f d k c)(a b:Nat)(o:a<L d)(q:b<L d)(y:Int)(r:y=(b:Int)):
  Calls prog 214 #[.pointer (N ⟨g,0,U⟩),O I (a:Int),O I y] w fun e w'=>e=G (M (J.order d c a b))/\Below (F (S w)) w w':=by
 subst r;exact JP g m i n j l f d k c w h a b o q
def Mc(g ge ce gf cf ga ca:Nat)(a:List J.E)(d b:List Int)(w:World)(h:QG w g ge ce gf cf ga ca a d b)(hF:J.Full a d)(hH:∀i,i<L a->J.isStep (J.ev a i)=C->i+1<L a)(h3:3<=L a):
  Calls prog 213 #[.pointer (N ⟨g,0,U⟩)] w fun e w'=>e=G (M (J.wholeB a d b))/\Below (F (S w)) w w':=by
 have H:=MS h;have hn:=h.n;clear h;go_enter func213,ntmps213;go_wp2;go_loopw[3] (fun i wr=>∃k:Nat,3<=k/\k<=L a/\i=O I k/\MT (∀j,3<=j->j<k->J.isStep (J.ev a j)=C->∀q,q<L a->J.iW a d b j q=Y)/\MT (Below (F (S w)) w wr)) fun i _=>L a-(intOf i).toNat
 case atStart=>exact⟨3,xF _,h3,Z,fun j T h2=>absurd h2 (by omega),xR _ _⟩
 case round =>
  obtain⟨k,ad,hk,rfl,HI,HB⟩:=hrel;have K:=H.X HB.o;have he:=K.e;have lg:=K.lg;have le:=K.le;by_cases hlt:k<L a
  ·have ac:(k:Int)<(L a:Int):=by omega
   have ag:=(K.ev k hlt).k;have u:=(K.ev k hlt).h;have HK:=MS K;clear K;have ae:=hH k hlt;have HS:MT (J.isStep (J.ev a k)=((J.ev a k).B.toList==J.kR&&(J.ev a k).half)):=Z
   cases z:J.isStep (J.ev a k)
   ·have x:MT (∀j,3<=j->j<k+1->J.isStep (J.ev a j)=C->∀q,q<L a->J.iW a d b j q=Y):=fun j T h2 y=>by
     by_cases c:j=k
     ·rw[c,z]at y;cases y
     ·exact HI.o j T (by omega) y
    cases l:(J.ev a k).B.toList==J.kR<;>cases V:(J.ev a k).half
    ·have A:((J.ev a k).B.toList != [114])=C:=by unfold J.kR at l;unfold bne;rw[l];rfl
     unfold J.kR at l;rw[V]at u;go_wp2;go_roundw
     case rel=>exact⟨k+1,by omega,by omega,by go_num,x,HB⟩
     case measure=>simp[intOf];omega
    ·have A:((J.ev a k).B.toList != [114])=C:=by unfold J.kR at l;unfold bne;rw[l];rfl
     unfold J.kR at l;rw[V]at u;go_wp2;go_roundw
     case rel=>exact⟨k+1,by omega,by omega,by go_num,x,HB⟩
     case measure=>simp[intOf];omega
    ·have A:((J.ev a k).B.toList != [114])=Y:=by unfold J.kR at l;unfold bne;rw[l];rfl
     unfold J.kR at l;rw[V]at u;go_wp2;go_roundw
     case rel=>exact⟨k+1,by omega,by omega,by go_num,x,HB⟩
     case measure=>simp[intOf];omega
    ·exfalso;have:=HS.o;rw[z,l,V]at this;cases this
   ·have aa:k+1<L a:=ae z;have m:=HS.o;rw[z]at m;have l:((J.ev a k).B.toList==J.kR)=C:=by cases c:(J.ev a k).B.toList==J.kR<;>rw[c]at m<;>first|rfl|cases m
    have V:(J.ev a k).half=C:=by rw[l]at m;exact m.symm
    have A:((J.ev a k).B.toList != [114])=Y:=by unfold J.kR at l;unfold bne;rw[l];rfl
    unfold J.kR at l;rw[V]at u;clear m;go_wp2;go_loopw[4] (fun i w2=>∃q:Nat,q<=L a/\i=O I q/\MT (∀j,j<q->J.iW a d b k j=Y)/\MT (Below (F (S w)) w w2)) fun i _=>L a-(intOf i).toNat
    case atStart=>exact⟨0,Nat.zero_le _,Z,fun j hj=>absurd hj (Nat.not_lt_zero _),HB⟩
    case round =>
     obtain⟨q,hq,rfl,HJ,s⟩:=hrel;have W:=H.X s.o;have af:=W.e;have ai:=W.lg;have ah:=W.le;have t:=MS W;clear W;by_cases hql:q<L a
     ·have ab:(q:Int)<(L a:Int):=by omega
      have HT:MT (J.iW a d b k q=(J.misses a d b k q&&J.order a b q (k+1))):=Z
      cases y1:J.misses a d b k q<;>cases y2:J.order a b q (k+1)
      case true.true =>
       have HV:MT (J.wholeB a d b=Y):=by
        unfold MT
        cases c:J.wholeB a d b
        ·rfl
        ·have:=(J.gI _ _ _).1 c k ad hlt z q hql;rw[HT.o,y1,y2]at this;cases this
       go_wp2_with(first
        |(go_at_call 216;refine(MG g ge ce gf cf ga ca a d b _ t.o k q hlt hql hF).mono ?_;rintro e w3 ⟨rfl,f⟩;rw[y1];have B3:=MS (dA s.o (xF _) f);have v:=MS (t.X f);clear f)
        |(go_at_call 214;refine(WU g ge ce gf cf ga ca a d b _ v.o q (k+1) hql aa _ (by omega)).mono ?_;rintro e w4 ⟨rfl,r⟩;rw[y2];have B4:=MS (dA B3.o (xF _) r);clear r))
       go_ret;exact⟨by rw[HV.o];first|rfl|simp,B4.o⟩
      all_goals
       have x:MT (∀j,j<q+1->J.iW a d b k j=Y):=fun j hj=>by
        by_cases c:j=q
        ·rw[c,HT.o,y1,y2];rfl
        ·exact HJ.o j (by omega)
       go_wp2_with(first
        |(go_at_call 216;refine(MG g ge ce gf cf ga ca a d b _ t.o k q hlt hql hF).mono ?_;rintro e w3 ⟨rfl,f⟩;rw[y1];have B3:=MS (dA s.o (xF _) f);have v:=MS (t.X f);clear f)
        |(go_at_call 214;refine(WU g ge ce gf cf ga ca a d b _ v.o q (k+1) hql aa _ (by omega)).mono ?_;rintro e w4 ⟨rfl,r⟩;rw[y2];have B4:=MS (dA B3.o (xF _) r);clear r))
       go_roundw
       case rel=>exact⟨q+1,by omega,by go_num,x,B4⟩
       case measure=>simp[intOf];omega
     ·have ab:¬(q:Int)<(L a:Int):=by omega
      have x:MT (∀j,3<=j->j<k+1->J.isStep (J.ev a j)=C->∀q,q<L a->J.iW a d b j q=Y):=fun j T h2 y p hp=>by
       by_cases c:j=k
       ·rw[c];exact HJ.o p (by omega)
       ·exact HI.o j T (by omega) y p hp
      go_wp2;go_roundw
      case rel=>exact⟨k+1,by omega,by omega,by go_num,x,s⟩
      case measure=>simp[intOf];omega
  ·have ac:¬(k:Int)<(L a:Int):=by omega
   have HV:MT (J.Whole a d b):=fun j T h2 y=>HI.o j T (by omega) y
   clear K;go_wp2;go_ret;exact⟨by rw[(J.gI _ _ _).2 HV.o];first|rfl|simp,HB.o⟩
