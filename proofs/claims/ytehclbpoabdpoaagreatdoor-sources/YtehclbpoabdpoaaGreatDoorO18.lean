import Derived.Test.YtehclbpoabdpoaaGreatDoorO16
import Derived.Test.YtehclbpoabdpoaaGreatDoorO14
import Derived.Test.YtehclbpoabdpoaaGreatDoorO17
set_option linter.all false
set_option maxHeartbeats 0
namespace Go.Proofs.YtehclbpoabdpoaaGreatDoor
open Go Go.RowKit Go.Proofs.Tryz P Q
open scoped Classical
set_option maxRecDepth 1000000
variable {b ca ce cf g ga gb ge gf gt i k n:Nat}{es:List J.E}{ats fr o r:List Int}{w w':World}{a:Act}{gsb gst:Nat->Nat}{B T:Nat->Nat->Bool}{R0:Ending->World->Prop}{p:Prop}{ov v:Value}{us:List Value}{A rs:List (List Int)}{D':Nat->Prop}
open List renaming length->L
open _root_.Array renaming size->S
open Go.World renaming heap->W
open Bool renaming true->Y,false->O
open Option renaming none->C,some->U
open Go.Value renaming bool->I,int->N
open Go.Ending renaming returned->G
open Go.IntKind renaming i64->M
open Or renaming inr->xF,inl->xR
open Nat renaming le_refl->xW,zero_le->x1,lt_of_lt_of_le->x2,not_lt_zero->x6
open List renaming range->x3,map_cons->x4,map_nil->x5,mem_cons_of_mem->x9,getElem?_append_left->xa,getElem?_append_right->xb
open Go.RowKit.Below renaming heap_setCell->x7,refl->x8
namespace J
def cl [D:∀p,Decidable p](n:Nat) (R:Nat->Nat->Bool) (i k:Nat):Bool:=@yes D (Q.TC (Rn n R) i k)
def fQ(es:List E)(fr:List Int)(i k:Nat):Bool:=cD es i k||(bS es fr i k||dY (ev es i) (ev es k))
def bef [D:∀p,Decidable p](es:List E) (fr:List Int):Nat->Nat->Bool:=@cl D (L es) (fQ es fr)
def talk [D:∀p,Decidable p](es:List E) (fr ats:List Int):Nat->Nat->Bool:=@cl D (L es) (cU es fr ats)
def zL(n:Nat)(B T:Nat->Nat->Bool)(i k:Nat):Prop:=B i k=Y\/∃a b,a<n/\b<n/\B i a=Y/\T a b=Y/\B b k=Y
def fen [D:∀p,Decidable p](es:List E) (B T:Nat->Nat->Bool) (i k:Nat):Bool:=sc es i k&&@yes D (zL (L es) B T i k)
structure May(es:List E)(fr ats:List Int):Prop where
 bef:rnd (L es) (bef es fr)=O
 whole:wholeB es fr ats=Y
 link:∀i k,i<L es->k<L es->¬(J.bef es fr i k=Y/\talk es fr ats k i=Y)
 fence:rnd (L es) (cl (L es) (fen es (J.bef es fr) (talk es fr ats)))=O
end J
def jF(d:Func):List Code:=dR (d.body.getD .skip)
def fO:(jF f193).length=25:=by kernel_rfl
structure JFr(a:Act)(g n:Nat)(gb gt gF:Nat):Prop where
 sz:a.tmps.size=224
 df:a.defers=[]
 s0:gA a 0=.pointer (U ⟨g,0,C⟩)
 s3:gA a 3=N M (n:Int)
 s4:gA a 4=MU gb n n
 s5:gA a 5=MU gt n n
 s15:gA a 15=MU gF n n
def Mv(w:World)(g n:Nat)(es:List J.E)(B F:Nat->Nat->Bool)(c:Bool)(R0:Ending->World->Prop):Prop :=
 ∀w1,Below (S (W w)) w w1->(J.rnd n (J.cl n F)=Y->R0 (G (I O)) w1)/\(J.rnd n (J.cl n F)=O->R0 (G (I Y)) (w1.setCell ⟨g,8,C⟩ (I (c||J.yes (J.cG es B)))))
def Mw{D:Nat}{j:Nat->Nat}{F:Nat->Nat->Bool}{c:Bool}(h:QG w g ge ce gf cf ga ca es fr ats)(h3:3<=L es)(hf:JFr a g (L es) gb gt D)(hb:TabAt w gb (L es) gsb B)(hF:TabAt w D (L es) j F)(hc:w.cell? ⟨g,8,C⟩=U (I c))(q:w.frozen? ⟨g,8,C⟩=O)(hR:Mv w g (L es) es B F c R0):
  NG prog ((jF f193).drop 17) (bodyPost prog f193 R0) a w:=by
 obtain⟨sz,df,s0,s3,s4,s5,t⟩:=hf;have y:=h.lg;have H:=MS h;have HB:=MS hb;have HF:=MS hF;have HC:=MS hc;have HZ:=MS q;have HR:=MS hR;have HN:=MS h3;clear h hb hF hc q hR h3;rw[OQ sz df];simp only[x3,List.range.loop,x4,x5,s0,s3,s4,s5,t];generalize gA a=f;clear s0 s3 s4 s5 t sz df;refine MX 17 fO Z fun K d=>?_
 conv=>arg 2;whnf
 go_wp2_with(first|(go_at_call 143;refine(CI D (L es) j F _ HF.o).mono ?_;rintro e w1 ⟨gc,E,rfl,⟨s,_,_⟩,l⟩;have z:=MS s;have u:=MS l;clear s l));refine d.o _ _ ?_;clear d;refine MX 18 fO Z fun K d=>?_
 conv=>arg 2;whnf
 go_wp2_with(first|(go_at_call 144;refine(JZ gc (L es) E _ _ z.at_).mono ?_;rintro e w2 ⟨rfl,rfl⟩));refine d.o _ _ ?_;clear d;have V:MT (J.rnd (L es) (J.cl (L es) F)=J.rnd (L es) fun i k=>J.yes (TC (J.Rn (L es) F) i k)):=Z;generalize J.rnd (L es) (fun i k=>J.yes (TC (J.Rn (L es) F) i k))=rd at*;refine MX 19 fO Z fun K d=>?_
 conv=>arg 2;whnf
 go_wp2_with fail;refine d.o _ _ ?_;clear d;cases rd
 ·refine MX 20 fO Z fun K d=>?_
  conv=>arg 2;whnf
  go_wp2_with fail;refine d.o _ _ ?_;clear d;refine MX 21 fO Z fun K d=>?_
  conv=>arg 2;whnf
  go_wp2_with(first|(go_at_call 219;refine(L9 g ge ce gf cf ga ca es fr ats _ (H.X u.o) gb gsb B (HB.X u.o) HN.o).mono ?_;rintro e w3 ⟨rfl,m⟩;have x:=MS (dA u.o (xW _) m);clear m));refine d.o _ _ ?_;clear d;have aa:=(x.cell (p:=⟨g,8,C⟩) y).trans HC.o;have ab:=(x.frozen (p:=⟨g,8,C⟩) y).trans HZ.o;have ac:=x2 y x.size;have HE:=MS ((HR.o _ x.o).2 V.o);generalize J.yes (J.cG es B)=cb at*;cases c
  all_goals
   refine MX 22 fO Z fun K d=>?_
   conv=>arg 2;whnf
   go_wp2_with fail;refine d.o _ _ ?_;clear d;refine MX 23 fO Z fun K d=>?_
   conv=>arg 2;whnf
   go_wp2_with fail;refine d.o _ _ ?_;clear d;refine MX 24 fO Z fun K _=>?_
   conv=>arg 2;whnf
   go_wp2_with fail;exact HE.o
 ·refine MX 20 fO Z fun K _=>?_
  conv=>arg 2;whnf
  go_wp2_with fail;exact(HR.o _ u.o).1 V.o
namespace J
def iF(B T:Nat->Nat->Bool)(i k n a b:Nat):Prop:=B i k=Y\/(∃x y,x<a/\y<n/\B i x=Y/\T x y=Y/\B y k=Y)\/∃y,y<b/\B i a=Y/\T a y=Y/\B y k=Y
def nV(B T:Nat->Nat->Bool)(i k n:Nat):iF B T i k n 0 0↔B i k=Y :=
 ⟨fun h=>by rcases h with h|⟨x,y,h,_⟩|⟨y,h,_⟩;exact h;omega;omega,xR⟩
def jZ{a:Nat}(m:b<=n)(h:b=n\/B i a=O):iF B T i k n a b↔iF B T i k n (a+1) 0:=by
 constructor
 ·rintro(c|⟨x,y,j,d⟩|⟨y,j,d⟩)
  ·exact xR c
  ·exact xF (xR ⟨x,y,by omega,d⟩)
  ·exact xF (xR ⟨a,y,by omega,by omega,d⟩)
 ·rintro(c|⟨x,y,j,d,f,l⟩|⟨y,j,d⟩)
  ·exact xR c
  ·by_cases e:x=a
   ·subst e
    rcases h with h|h
    ·exact xF (xF ⟨y,by omega,f,l⟩)
    ·rw[h]at f;cases f
   ·exact xF (xR ⟨x,y,by omega,d,f,l⟩)
  ·omega
def nS{a:Nat}(h:B i a=Y):iF B T i k n a (b+1)↔iF B T i k n a b\/T a b=Y/\B b k=Y:=by
 constructor
 ·rintro(c|c|⟨y,j,d,f⟩)
  ·exact xR (xR c)
  ·exact xR (xF (xR c))
  ·by_cases e:y=b
   ·subst e;exact xF f
   ·exact xR (xF (xF ⟨y,by omega,d,f⟩))
 ·rintro((c|c|⟨y,j,d,f⟩)|⟨j,d⟩)
  ·exact xR c
  ·exact xF (xR c)
  ·exact xF (xF ⟨y,by omega,d,f⟩)
  ·exact xF (xF ⟨b,by omega,h,j,d⟩)
def sE{a e:Nat}(j:b<=n)(h:a<e)(u:iF B T i k n a b):iF B T i k n e 0:=by
 rcases u with c|⟨x,y,f,d⟩|⟨y,f,d⟩
 ·exact xR c
 ·exact xF (xR ⟨x,y,by omega,d⟩)
 ·exact xF (xR ⟨a,y,h,by omega,d⟩)
def iO:iF B T i k n n 0↔zL n B T i k :=
 ⟨fun h=>by rcases h with h|⟨x,y,c,d,e,f,j⟩|⟨y,h,_⟩;exact xR h;exact xF ⟨x,y,c,d,e,f,j⟩;omega,fun h=>h.imp id fun⟨x,y,c,d,e⟩=>xR ⟨x,y,c,d,e⟩⟩
def tR{b:Bool}:(yes p||b)=yes (p\/b=Y):=by
 cases b
 ·by_cases h:p
  ·rw[fS h,fS (xR h)];rfl
  ·rw[iQ h,iQ (by simpa using h)];rfl
 ·rw[fS (xF rfl),Bool.or_true]
def dM{q:Prop}(h:p↔q):yes p=yes q:=by rw[propext h]
end J
def Mx(T:Nat->Nat->Bool)(i k:Nat)(x y:Bool):dH (dH T i k x) i k y=dH T i k y:=by
 funext a b
 unfold dH
 split<;>rfl
def Mz(h:QG w g ge ce gf cf ga ca es fr ats)(sz:a.tmps.size=224)(df:a.defers=[])(s0:gA a 0=.pointer (U ⟨g,0,C⟩))(s3:gA a 3=N M (L es:Int))(s4:gA a 4=MU gb (L es) (L es))(s5:gA a 5=MU gt (L es) (L es))(hb:TabAt w gb (L es) gsb B)(ht:TabAt w gt (L es) gst T)(hR:∀(a:Act) (w1:World) (gF:Nat) (j:Nat->Nat),JFr a g (L es) gb gt gF->TabAt w1 gF (L es) j (J.fen es B T)->Below (S (W w)) w w1->NG prog ((jF f193).drop 17) (bodyPost prog f193 R0) a w1):
  NG prog ((jF f193).drop 14) (bodyPost prog f193 R0) a w:=by
 have hn:=h.n;have H:=MS h;have HB:=MS hb;have HT:=MS ht;have HR:=MS hR;clear h hb ht hR;generalize aw:L es=n at*;have aa:=MS aw;clear aw;rw[OQ sz df];simp only[x3,List.range.loop,x4,x5,s0,s3,s4,s5];generalize gA a=f;clear s0 s3 s4 s5 sz df;refine MX 14 fO Z fun K HK=>?_
 conv=>arg 2;whnf
 go_wp2_with(first|(go_at_call 142;refine(yV n _ hn).mono ?_;rintro e w1 ⟨gF,j,rfl,⟨ax,av,ae⟩,au⟩;have HF:=MS ax;have HG:=MS av;have ao:=MS ae;have B1:=MS au;clear ax av ae au));refine HK.o _ _ ?_;clear HK;refine MX 15 fO Z fun K HK=>?_
 conv=>arg 2;whnf
 go_wp2_with fail;refine HK.o _ _ ?_;clear HK;refine MX 16 fO Z fun K HK=>?_
 conv=>arg 2;whnf
 go_wp2_with fail;go_loopw[16] (fun q wr=>∃(i:Nat) (F:Nat->Nat->Bool),i<=n/\q=N M i/\MT (JTab wr gF n j F)/\MT (∀x y,x<n->y<n->F x y=if x<i then J.fen es B T x y else O)/\MT (Below (S (W w)) w wr)) fun q _=>n-(intOf q).toNat
 case atStart=>exact⟨0,_,x1 _,Z,HF,fun x y _ _=>Z,B1⟩
 case round =>
  obtain⟨i,F,hi,rfl,al,HS,ak⟩:=hrel;by_cases hlt:i<n
  ·have aB:(i:Int)<(n:Int):=by omega
   go_wp2_with fail;go_loopw[17] (fun q wr=>∃(k:Nat) (F:Nat->Nat->Bool),k<=n/\q=N M k/\MT (JTab wr gF n j F)/\MT (∀x y,x<n->y<n->F x y=if x<i\/x=i/\y<k then J.fen es B T x y else O)/\MT (Below (S (W w)) w wr)) fun q _=>n-(intOf q).toNat
   case atStart=>exact⟨0,F,x1 _,Z,al,fun x y hx hy=>by rw[HS.o x y hx hy];simp,ak⟩
   case round =>
    obtain⟨k,F,hk,rfl,ag,ah,ab⟩:=hrel;by_cases hkt:k<n
    ·have aC:(k:Int)<(n:Int):=by omega
     have ap:=MS (H.X ab.o);have an:MT (J.fen es B T i k=(J.sc es i k&&J.yes (J.zL n B T i k))):=by unfold MT;rw[<- aa.o];rfl
     cases z:J.sc es i k
     ·go_wp2_with(first|(go_at_call 210;refine(WX g ge ce gf cf ga ca es fr ats _ ap.o i k (by rw[aa.o];exact hlt) (by rw[aa.o];exact hkt)).mono ?_;rintro e w3 ⟨rfl,s⟩;rw[z];have B3:=MS (dA ab.o (xW _) s);have E:=MS (ag.X s);clear s));go_roundw
      case rel =>
       refine⟨k+1,F,by omega,by go_num,E,fun x y hx hy=>?_,B3⟩;rw[ah.o x y hx hy];by_cases c:x=i/\y=k
       ·obtain⟨rfl,rfl⟩:=c;rw[if_neg (by omega),if_pos (by omega),an.o,z];rfl
       ·have:x<i\/x=i/\y<k↔x<i\/x=i/\y<k+1:=by omega
        simp only[this]
      case measure=>simp[intOf];omega
     ·go_wp2_with(first|(go_at_call 210;refine(WX g ge ce gf cf ga ca es fr ats _ ap.o i k (by rw[aa.o];exact hlt) (by rw[aa.o];exact hkt)).mono ?_;rintro e w3 ⟨rfl,s⟩;rw[z];have B3:=MS (dA ab.o (xW _) s);have E:=MS (ag.X s);clear s));have m:=HB.X B3.o;have r1:=m.row i hlt;have b1:=m.bit i k hlt hkt;have l1:=m.lg;have l2:=m.lr i hlt;have l:=E.at_;have r2:=l.row i hlt;have b2:=l.bit i k hlt hkt;have l3:=l.lg;have l4:=l.lr i hlt;have f2:=(E.row i hlt).free k;clear m l;have am:=MS (E.set i k hlt (B i k));have B4:=MS (B3.setCell (p:=⟨j i,k,C⟩) (ao.o i hlt) (I (B i k)));generalize ad:B i k=ar at*;have ay:=MS ad;clear ad;go_region;go_wp2_with fail;clear r1 b1 l1 l2 r2 b2 l3 l4 f2;go_loopw[19] (fun q wr=>∃(p:Nat) (v:Bool),p<=n/\q=N M p/\MT (JTab wr gF n j (dH F i k v))/\MT (v=J.yes (J.iF B T i k n p 0))/\MT (Below (S (W w)) w wr)) fun q _=>n-(intOf q).toNat
      case atStart =>
       refine⟨0,ar,x1 _,Z,by first|exact am.o|exact am.X (PZ _ _ _),?_,by first|exact B4.o|exact dA B4.o (xW _) (PZ _ _ _)⟩;unfold MT;rw[J.dM (J.nV B T i k n),ay.o];cases ar
       ·rw[J.iQ (by simp)]
       ·rw[J.fS rfl]
      case round =>
       obtain⟨p,v,hp,rfl,ac,HV,af⟩:=hrel;have l:=ac.at_;have r2:=l.row i hlt;have b2:=l.bit i k hlt hkt;have e2:dH F i k v i k=v:=by simp[dH]
       rw[e2]at b2;have l3:=l.lg;have l4:=l.lr i hlt;clear l e2;have HX:MT (v=Y\/p=n->v=J.yes (J.zL n B T i k)):=fun c=>by
        rcases c with c|c
        ·have u:=J.bJ.1 (HV.symm.trans c);have:J.zL n B T i k:=by
          by_cases d:p=n
          ·rw[d]at u;exact J.iO.1 u
          ·exact J.iO.1 (J.sE (x1 _) (by omega) u)
         rw[J.fS this,c]
        ·rw[HV.o,c];exact J.dM J.iO
       have aj:MT (v=Y\/p=n->∀x y,x<n->y<n->dH F i k v x y=if x<i\/x=i/\y<k+1 then J.fen es B T x y else O):=fun c x y hx hy=>by
        by_cases d:x=i/\y=k
        ·obtain⟨rfl,rfl⟩:=d;rw[if_pos (by omega),an.o,z,<- HX.o c];simp[dH]
        ·have:x<i\/x=i/\y<k↔x<i\/x=i/\y<k+1:=by omega
         have e:dH F i k v x y=F x y:=by unfold dH;rw[if_neg d]
         rw[e,ah.o x y hx hy];simp only[this]
       by_cases hpt:p<n
       ·have aD:(p:Int)<(n:Int):=by omega
        cases v
        ·go_wp2_with fail;clear r2 b2 l3 l4;go_loopw[20] (fun q wr=>∃(b:Nat) (v:Bool),b<=n/\q=N M b/\MT (JTab wr gF n j (dH F i k v))/\MT (v=J.yes (J.iF B T i k n p b))/\MT (Below (S (W w)) w wr)) fun q _=>n-(intOf q).toNat
         case atStart=>exact⟨0,O,x1 _,Z,ac,HV,af⟩
         case round =>
          obtain⟨b,v,hb,rfl,V,ai,D⟩:=hrel;have m:=HB.X D.o;have r1:=m.row i hlt;have b1:=m.bit i p hlt hpt;have l1:=m.lg;have l2:=m.lr i hlt;by_cases hbt:b<n
          ·have aA:(b:Int)<(n:Int):=by omega
           cases zb:B i p
           ·rw[zb]at b1;clear m;go_wp2_with fail;go_roundw
            case rel=>exact⟨p+1,v,by omega,by go_num,V,by unfold MT;rw[ai.o];exact J.dM (J.jZ hb (xF zb)),D⟩
            case measure=>simp[intOf];omega
           ·rw[zb]at b1;have r3:=m.row b hbt;have b3:=m.bit b k hbt hkt;have l5:=m.lr b hbt;have KT:=HT.X D.o;have r4:=KT.row p hpt;have b4:=KT.bit p b hpt hbt;have l6:=KT.lg;have l7:=KT.lr p hpt;have l:=V.at_;have r2:=l.row i hlt;have b2:=l.bit i k hlt hkt;have e2:dH F i k v i k=v:=by simp[dH]
            rw[e2]at b2;have l3:=l.lg;have l4:=l.lr i hlt;have f2:=(V.row i hlt).free k;clear l KT m e2;have aq:MT (∀u,u=(v||T p b&&B b k)->JTab (wr.setCell ⟨j i,k,C⟩ (I u)) gF n j (dH F i k u)/\u=J.yes (J.iF B T i k n p (b+1))/\Below (S (W w)) w (wr.setCell ⟨j i,k,C⟩ (I u))):=fun u hu=>by
             have t:=V.set i k hlt u;rw[Mx]at t;refine⟨t,?_,D.setCell (p:=⟨j i,k,C⟩) (ao.o i hlt) _⟩;rw[J.dM (J.nS zb),hu,ai.o,J.tR,Bool.and_eq_true]
            clear HX aj;generalize T p b=aE at*;generalize B b k=az at*;go_wp2_with fail
            rcases KQ v aE az with rfl|⟨rfl,rfl⟩|⟨rfl,rfl,rfl⟩|⟨rfl,rfl,rfl⟩
            all_goals
             obtain⟨n1,n2,n3⟩:=aq.o _ Z;simp only[Bool.true_or,Bool.false_or,Bool.and_true,Bool.and_false,Bool.false_and,Bool.true_and]at n1 n2 n3;have N1:=MS n1;have N2:=MS n2;have N3:=MS n3;clear n1 n2 n3 aq;go_region;go_wp2_with fail;go_roundw
             case rel=>exact⟨b+1,_,by omega,by go_num,by first|exact N1.o|exact N1.X (PZ _ _ _),N2,by first|exact N3.o|exact dA N3.o (xW _) (PZ _ _ _)⟩
             case measure=>simp[intOf];omega
          ·have aA:¬(b:Int)<(n:Int):=by omega
           clear m;go_wp2_with fail;go_roundw
           case rel=>exact⟨p+1,v,by omega,by go_num,V,by unfold MT;rw[ai.o];exact J.dM (J.jZ hb (xR (by omega))),D⟩
           case measure=>simp[intOf];omega
        ·go_wp2_with fail;go_roundw
         case rel=>exact⟨k+1,_,by omega,by go_num,ac,aj.o (xR Z),af⟩
         case measure=>simp[intOf];omega
       ·have aD:¬(p:Int)<(n:Int):=by omega
        go_wp2_with fail;go_roundw
        case rel=>exact⟨k+1,_,by omega,by go_num,ac,aj.o (xF (by omega)),af⟩
        case measure=>simp[intOf];omega
    ·have aC:¬(k:Int)<(n:Int):=by omega
     go_wp2_with fail;go_roundw
     case rel =>
      refine⟨i+1,F,by omega,by go_num,ag,fun x y hx hy=>?_,ab⟩;rw[ah.o x y hx hy];have:x<i\/x=i/\y<k↔x<i+1:=by omega
      simp only[this]
     case measure=>simp[intOf];omega
  ·have aB:¬(i:Int)<(n:Int):=by omega
   go_wp2_with fail;refine HK.o _ _ ?_;refine HR.o _ _ gF j ⟨Z,Z,Z,Z,Z,Z,Z⟩ ?_ ak.o;exact(al.to fun x y hx hy=>by rw[HS.o x y hx hy,if_pos (by omega)]).at_
def M2(p q r:Bool):p=Y\/p=O/\q=Y\/p=O/\q=O/\r=Y\/p=O/\q=O/\r=O:=by
 cases p<;>cases q<;>cases r<;>simp
structure JFc(a:Act)(g n gb gt:Nat):Prop where
 sz:a.tmps.size=224
 df:a.defers=[]
 s0:gA a 0=.pointer (U ⟨g,0,C⟩)
 s3:gA a 3=N M (n:Int)
 s4:gA a 4=MU gb n n
 s5:gA a 5=MU gt n n
def M4(hf:JFc a g n gb gt)(j:TabAt w gb n gsb B)(t:TabAt w gt n gst T)(V:(∀i k,i<n->k<n->¬(B i k=Y/\T k i=Y))->∀a:Act,JFc a g n gb gt->NG prog ((jF f193).drop 14) (bodyPost prog f193 R0) a w)(J:¬(∀i k,i<n->k<n->¬(B i k=Y/\T k i=Y))->R0 (G (I O)) w):
  NG prog ((jF f193).drop 12) (bodyPost prog f193 R0) a w:=by
 obtain⟨sz,H,s0,s3,s4,s5⟩:=hf;have hn:=j.n;have l1:=j.lg;have l2:=t.lg;have HB:=MS j;have l:=MS t;have HR:=MS V;have HN:=MS J;clear j t V J;rw[OQ sz H];simp only[x3,List.range.loop,x4,x5,s0,s3,s4,s5];generalize gA a=f;clear s0 s3 s4 s5 sz H;refine MX 12 fO Z fun K d=>?_
 conv=>arg 2;whnf
 go_wp2_with fail;refine d.o _ _ ?_;clear d;refine MX 13 fO Z fun K d=>?_
 conv=>arg 2;whnf
 go_wp2_with fail;go_loopw[13] (fun q wr=>∃i:Nat,i<=n/\q=N M i/\wr=w/\MT (∀x k,x<i->k<n->¬(B x k=Y/\T k x=Y))) fun q _=>n-(intOf q).toNat
 case atStart=>exact⟨0,x1 _,Z,Z,fun x k h=>absurd h (x6 _)⟩
 case round =>
  obtain⟨i,hi,rfl,rfl,u⟩:=hrel;by_cases hlt:i<n
  ·have m:(i:Int)<(n:Int):=by omega
   have r1:=HB.row i hlt;have l3:=HB.lr i hlt;go_wp2_with fail;go_loopw[14] (fun q w2=>∃k:Nat,k<=n/\q=N M k/\w2=wr/\MT (∀x,x<k->¬(B i x=Y/\T x i=Y))) fun q _=>n-(intOf q).toNat
   case atStart=>exact⟨0,x1 _,Z,Z,fun x h=>absurd h (x6 _)⟩
   case round =>
    obtain⟨k,X,rfl,rfl,z⟩:=hrel;by_cases hkt:k<n
    ·have s:(k:Int)<(n:Int):=by omega
     have E:=HB.bit i k hlt hkt;have r2:=l.row k hkt;have l4:=l.lr k hkt;have F:=l.bit k i hkt hlt;have D:MT (¬(B i k=Y/\T k i=Y)->∀x,x<k+1->¬(B i x=Y/\T x i=Y)):=fun c x hx=>by
      by_cases e:x=k
      ·rw[e];exact c
      ·exact z.o x (by omega)
     cases z1:B i k
     ·rw[z1]at E;go_wp2_with fail;go_roundw
      case rel=>exact⟨k+1,by omega,by go_num,by trivial,D.o fun c=>by rw[z1]at c;cases c.1⟩
      case measure=>simp[intOf];omega
     ·rw[z1]at E
      cases z2:T k i
      ·rw[z2]at F;go_wp2_with fail;go_roundw
       case rel=>exact⟨k+1,by omega,by go_num,by trivial,D.o fun c=>by rw[z2]at c;cases c.2⟩
       case measure=>simp[intOf];omega
      ·rw[z2]at F;go_wp2_with fail;exact HN.o fun c=>c i k hlt hkt ⟨z1,z2⟩
    ·have s:¬(k:Int)<(n:Int):=by omega
     go_wp2_with fail;go_roundw
     case rel =>
      refine⟨i+1,by omega,by go_num,by trivial,fun x y hx hy=>?_⟩;by_cases e:x=i
      ·rw[e];exact z.o y (by omega)
      ·exact u.o x y (by omega) hy
     case measure=>simp[intOf];omega
  ·have m:¬(i:Int)<(n:Int):=by omega
   go_wp2_with fail;refine d.o _ _ ?_;exact HR.o (fun x k hx X=>u.o x k (by omega) X) _ ⟨Z,Z,Z,Z,Z,Z⟩
def M5(h:QG w g ge ce gf cf ga ca es fr ats)(u:J.Full es fr)(hH:∀i,i<L es->J.isStep (J.ev es i)=Y->i+1<L es)(h3:3<=L es)(hf:JFc a g (L es) gb gt)(hb:TabAt w gb (L es) gsb B)(ht:TabAt w gt (L es) gst T)(hR:∀(m:World) (gb gt:Nat) (gsb gst:Nat->Nat),Below (S (W w)) w m->TabAt m gb (L es) gsb (J.cl (L es) B)->TabAt m gt (L es) gst (J.cl (L es) T)->(J.rnd (L es) (J.cl (L es) B)=O/\J.wholeB es fr ats=Y->∀a:Act,JFc a g (L es) gb gt->NG prog ((jF f193).drop 12) (bodyPost prog f193 R0) a m)/\(¬(J.rnd (L es) (J.cl (L es) B)=O/\J.wholeB es fr ats=Y)->R0 (G (I O)) m)):
  NG prog ((jF f193).drop 6) (bodyPost prog f193 R0) a w:=by
 obtain⟨sz,df,s0,s3,s4,s5⟩:=hf;have H:=MS h;have HB:=MS hb;have HT:=MS ht;have HR:=MS hR;have D:=MS u;have HH:=MS hH;have H3:=MS h3;clear h hb ht hR u hH h3;rw[OQ sz df];simp only[x3,List.range.loop,x4,x5,s0,s3,s4,s5];generalize gA a=f;clear s0 s3 s4 s5 sz df;refine MX 6 fO Z fun K d=>?_
 conv=>arg 2;whnf
 go_wp2_with(first|(go_at_call 143;refine(CI gb (L es) gsb B _ HB.o).mono ?_;rintro e m ⟨gc,t,rfl,⟨y,_,_⟩,x⟩;have E:=MS y;have B1:=MS x;clear y x));refine d.o _ _ ?_;clear d;refine MX 7 fO Z fun K d=>?_
 conv=>arg 2;whnf
 go_wp2_with(first|(go_at_call 143;refine(CI gt (L es) gst T _ (HT.X B1.o)).mono ?_;rintro e w2 ⟨gd,aa,rfl,⟨z,_,_⟩,l⟩;have F:=MS z;have q:=MS (E.X l);have B2:=MS (dA B1.o (xW _) l);clear z l));refine d.o _ _ ?_;clear d;refine MX 8 fO Z fun K d=>?_
 conv=>arg 2;whnf
 go_wp2_with(first|(go_at_call 213;refine(Mc g ge ce gf cf ga ca es fr ats _ (H.X B2.o) D.o HH.o H3.o).mono ?_;rintro e w3 ⟨rfl,j⟩;have s:=MS (q.X j);have V:=MS (F.X j);have B3:=MS (dA B2.o (xW _) j);clear j));refine d.o _ _ ?_;clear d;refine MX 9 fO Z fun K d=>?_
 conv=>arg 2;whnf
 go_wp2_with(first|(go_at_call 144;refine(JZ gc (L es) t _ _ s.at_).mono ?_;rintro e w4 ⟨rfl,rfl⟩));refine d.o _ _ ?_;clear d;obtain⟨hy,hz⟩:=HR.o w4 gc gd t aa B3.o s.at_ V.at_;have HY:=MS hy;have HZ:=MS hz;clear hy hz HR;have HV:MT (J.rnd (L es) (J.cl (L es) B)=J.rnd (L es) fun i k=>J.yes (TC (J.Rn (L es) B) i k)):=Z;generalize J.rnd (L es) (fun i k=>J.yes (TC (J.Rn (L es) B) i k))=rd at*;have HW:MT (J.wholeB es fr ats=J.wholeB es fr ats):=Z;generalize hw:J.wholeB es fr ats=wb at*;clear hw;cases rd
 ·cases wb
  ·refine MX 10 fO Z fun K d=>?_
   conv=>arg 2;whnf
   go_wp2_with fail;refine d.o _ _ ?_;clear d;refine MX 11 fO Z fun K _=>?_
   conv=>arg 2;whnf
   go_wp2_with fail;exact HZ.o fun c=>by cases c.2
  ·refine MX 10 fO Z fun K d=>?_
   conv=>arg 2;whnf
   go_wp2_with fail;refine d.o _ _ ?_;clear d;refine MX 11 fO Z fun K d=>?_
   conv=>arg 2;whnf
   go_wp2_with fail;refine d.o _ _ ?_;clear d;exact HY.o ⟨HV.o,by trivial⟩ _ ⟨Z,Z,Z,Z,Z,Z⟩
 ·refine MX 10 fO Z fun K d=>?_
  conv=>arg 2;whnf
  go_wp2_with fail;refine d.o _ _ ?_;clear d;refine MX 11 fO Z fun K _=>?_
  conv=>arg 2;whnf
  go_wp2_with fail;exact HZ.o fun c=>by rw[HV.o]at c;cases c.1
def M6(h:QG w g ge ce gf cf ga ca es fr ats)(ao:J.Full es fr)(aq:∀i,i<L es->fr.getD i 0<(L es:Int))(h3:3<=L es)(sz:a.tmps.size=224)(df:a.defers=[])(s0:gA a 0=.pointer (U ⟨g,0,C⟩))(hR:∀(a:Act) (w1:World) (gb gt:Nat) (gsb gst:Nat->Nat),Below (S (W w)) w w1->TabAt w1 gb (L es) gsb (J.fQ es fr)->TabAt w1 gt (L es) gst (J.cU es fr ats)->JFc a g (L es) gb gt->NG prog ((jF f193).drop 6) (bodyPost prog f193 R0) a w1):
  NG prog ((jF f193).drop 0) (bodyPost prog f193 R0) a w:=by
 have hn:=h.n;have he:=h.e;have lg:=h.lg;have le:=h.le;have H:=MS h;have HR:=MS hR;have az:=MS ao;have aA:=MS aq;have H3:=MS h3;clear h hR ao aq h3;rw[OQ sz df];simp only[x3,List.range.loop,x4,x5,s0];generalize gA a=f;clear s0 sz df;refine MX 0 fO Z fun K d=>?_
 conv=>arg 2;whnf
 go_wp2_with fail;refine d.o _ _ ?_;clear d;refine MX 1 fO Z fun K d=>?_
 conv=>arg 2;whnf
 go_wp2_with fail;refine d.o _ _ ?_;clear d;clear he le lg;refine MX 2 fO Z fun K d=>?_
 conv=>arg 2;whnf
 go_wp2_with(first|(go_at_call 142;refine(yV (L es) _ hn).mono ?_;rintro e w1 ⟨gb,gsb,rfl,⟨av,ar,aa⟩,ap⟩;have s:=MS av;have aB:=MS ar;have aE:=MS aa;have B1:=MS ap;clear av ap ar aa));refine d.o _ _ ?_;clear d;refine MX 3 fO Z fun K d=>?_
 conv=>arg 2;whnf
 go_wp2_with(first|(go_at_call 142;refine(yV (L es) _ hn).mono ?_;rintro e w2 ⟨gt,gst,rfl,⟨aw,au,m⟩,ac⟩;have aF:=MS aw;have aC:=MS au;have ak:=MS m;have aG:=MS (s.X ac);have B2:=MS (dA B1.o (xW _) ac);have ax:MT (∀k,(k=gb\/∃i,i<L es/\k=gsb i)->∀j,j<L es->k≠gst j):=(fun k hk j hj e=>by have:=m j hj;rcases hk with rfl|⟨i,hi,rfl⟩;have:=s.top.lt;omega;have:=(s.row i hi).lt;omega);have ay:MT (∀k,(k=gt\/∃i,i<L es/\k=gst i)->∀j,j<L es->k≠gsb j):=(fun k hk j hj e=>by have:=(s.row j hj).lt;rcases hk with rfl|⟨i,hi,rfl⟩;omega;have:=m i hi;omega);clear aw ac au m));refine d.o _ _ ?_;clear d;refine MX 4 fO Z fun K d=>?_
 conv=>arg 2;whnf
 go_wp2_with fail;refine d.o _ _ ?_;clear d;have al:MT (∀i,i<L es->S (W w)<=gst i):=fun i hi=>Nat.le_trans B1.size (ak.o i hi)
 clear ak s aB aC;refine MX 5 fO Z fun K d=>?_
 conv=>arg 2;whnf
 go_wp2_with fail;go_loopw[6] (fun q wr=>∃(i:Nat) (B T:Nat->Nat->Bool),i<=L es/\q=N M i/\MT (JTab wr gb (L es) gsb B)/\MT (JTab wr gt (L es) gst T)/\MT (∀x y,y<L es->x<i->B x y=J.fQ es fr x y/\T x y=J.cU es fr ats x y)/\MT (Below (S (W w)) w wr)) fun q _=>L es-(intOf q).toNat
 case atStart=>exact⟨0,_,_,x1 _,Z,aG,aF,fun x k _ h=>absurd h (x6 _),B2⟩
 case round =>
  obtain⟨i,B,T,hi,rfl,t,z,HI,HB⟩:=hrel;by_cases hlt:i<L es
  ·have aH:(i:Int)<(L es:Int):=by omega
   go_wp2_with fail;go_loopw[7] (fun q wr=>∃(k:Nat) (B T:Nat->Nat->Bool),k<=L es/\q=N M k/\MT (JTab wr gb (L es) gsb B)/\MT (JTab wr gt (L es) gst T)/\MT (∀x y,y<L es->x<i\/x=i/\y<k->B x y=J.fQ es fr x y/\T x y=J.cU es fr ats x y)/\MT (Below (S (W w)) w wr)) fun q _=>L es-(intOf q).toNat
   case atStart=>exact⟨0,B,T,x1 _,Z,t,z,fun x y E h=>HI.o x y E (by omega),HB⟩
   case round =>
    obtain⟨k,B,T,hk,rfl,t,z,aj,HB⟩:=hrel;by_cases hkt:k<L es
    ·have aI:(k:Int)<(L es:Int):=by omega
     go_upto_region 13 with(first
      |(go_at_call 211;refine(EY g ge ce gf cf ga ca es fr ats _ (H.X HB.o) i k hlt hkt).mono ?_;rintro e w3 ⟨rfl,ad⟩;have B3:=MS (dA HB.o (xW _) ad);have D3:=MS ad;clear ad)
      |(go_at_call 208;refine(Me g ge ce gf cf ga ca es fr ats _ (H.X B3.o) i k hlt hkt aA.o H3.o).mono ?_;rintro e w4 ⟨rfl,ae⟩;have B4:=MS (dA B3.o (xW _) ae);have D4:=MS (dA D3.o (xW _) ae);clear ae)
      |(go_at_call 209;refine(Md g ge ce gf cf ga ca es fr ats _ (H.X B4.o) i k hlt hkt).mono ?_;rintro e w5 ⟨rfl,af⟩;have B5:=MS (dA B4.o (xW _) af);have D5:=MS (dA D4.o (xW _) af);clear af))
     have l:=MS (t.X D5.o);have V:=MS (z.X D5.o);clear B3 B4 D3 D4;have KB:=l.at_;have r1:=KB.row i hlt;have b1:=KB.bit i k hlt hkt;have l1:=KB.lg;have l2:=KB.lr i hlt;have f1:=(l.row i hlt).free k;clear KB;have HE:MT (J.fQ es fr i k=(J.cD es i k||(J.bS es fr i k||J.dY (J.ev es i) (J.ev es k)))):=Z;go_cut[]from 36 to 75 fun wx=>MT (JTab wx gb (L es) gsb (dH B i k (J.fQ es fr i k)))/\MT (JTab wx gt (L es) gst T)/\MT (Below (S (W w)) w wx)
     case first =>
      have aD:MT (∀u,u=J.fQ es fr i k->JTab (w5.setCell ⟨gsb i,k,C⟩ (I u)) gb (L es) gsb (dH B i k (J.fQ es fr i k))/\JTab (w5.setCell ⟨gsb i,k,C⟩ (I u)) gt (L es) gst T/\Below (S (W w)) w (w5.setCell ⟨gsb i,k,C⟩ (I u))):=fun u hu=>by
       subst hu;exact⟨l.set i k hlt _,V.keep fun x hx=>x7 _ _ _ _ (ay.o x hx i hlt),B5.setCell (p:=⟨gsb i,k,C⟩) (aE.o i hlt) _⟩
      generalize J.cD es i k=p1 at*;generalize J.bS es fr i k=p2 at*;generalize J.dY (J.ev es i) (J.ev es k)=p3 at*
      rcases M2 p1 p2 p3 with rfl|⟨rfl,rfl⟩|⟨rfl,rfl,rfl⟩|⟨rfl,rfl,rfl⟩
      all_goals
       go_wp2_with fail;go_meet
       case rel=>exact aD.o _ (by rw[HE.o];rfl)
     obtain⟨an,D,ab⟩:=hcut;clear r1 b1 l1 l2 f1 l V;have KT:=D.at_;have r1:=KT.row i hlt;have b1:=KT.bit i k hlt hkt;have l1:=KT.lg;have l2:=KT.lr i hlt;have f1:=(D.row i hlt).free k;clear KT;go_wp2_with fail;go_region_with(go_at_call 218;refine(Mb g ge ce gf cf ga ca es fr ats _ (H.X (by first|exact ab.o|exact ab.drew)) i k hlt hkt az.o).mono ?_;rintro e w7 ⟨rfl,ag⟩;have F:MT (Below (S (W wc)) wc w7):=(by first|exact ag|exact((x8 (S (W wc)) wc).drew).trans (ag.mono (by simp)));have q1:=MZ F.o l1 r1;have q2:=MZ F.o l2 b1;have q3:=(F.frozen (p:=⟨gst i,k,C⟩) l2).trans f1;have q4:=x2 l1 F.size;have q5:=x2 l2 F.size;clear ag)
     all_goals
      have am:=MS ((D.X F.o).set i k hlt (J.cU es fr ats i k));have ah:MT (JTab (w7.setCell ⟨gst i,k,C⟩ (I (J.cU es fr ats i k))) gb (L es) gsb (dH B i k (J.fQ es fr i k))):=(an.X F.o).keep fun x hx=>x7 _ _ _ _ (ax.o x hx i hlt)
      have ai:MT (Below (S (W w)) w (w7.setCell ⟨gst i,k,C⟩ (I (J.cU es fr ats i k)))):=(dA ab.o (xW _) F.o).setCell (p:=⟨gst i,k,C⟩) (al.o i hlt) _;clear r1 b1 l1 l2 f1 q1 q2 q3 q4 q5;go_wp2_with fail;go_roundw
      case rel =>
       refine⟨k+1,dH B i k (J.fQ es fr i k),dH T i k (J.cU es fr ats i k),by omega,by go_num,by first|exact ah|exact ah.X ((x8 _ _).drew),by first|exact am|exact am.X ((x8 _ _).drew),fun x y E hx=>?_,by first|exact ai|exact ai.drew⟩;by_cases c:x=i/\y=k
       ·obtain⟨rfl,rfl⟩:=c;simp[dH]
       ·have:=aj.o x y E (by omega);unfold dH;rw[if_neg c,if_neg c];exact this
      case measure=>simp[intOf];omega
    ·have aI:¬(k:Int)<(L es:Int):=by omega
     go_wp2_with fail;go_roundw
     case rel=>exact⟨i+1,B,T,by omega,by go_num,t,z,fun x y E hx=>aj.o x y E (by omega),HB⟩
     case measure=>simp[intOf];omega
  ·have aH:¬(i:Int)<(L es:Int):=by omega
   go_wp2_with fail;refine d.o _ _ ?_;refine HR.o _ _ gb gt gsb gst HB.o ?_ ?_ ⟨Z,Z,Z,Z,Z,Z⟩
   ·exact(t.to fun x y hx E=>(HI.o x y E (by omega)).1).at_
   ·exact(z.to fun x y hx E=>(HI.o x y E (by omega)).2).at_
def M7(w w':World)(g:Nat)(es:List J.E)(fr ats:List Int)(c:Bool)(e:Ending):Prop :=
 ∃w1,Below (S (W w)) w w1/\(J.May es fr ats/\e=G (I Y)/\w'=w1.setCell ⟨g,8,C⟩ (I (c||J.yes (J.cG es (J.bef es fr))))\/¬J.May es fr ats/\e=G (I O)/\w'=w1)
def YO(g ge ce gf cf ga ca:Nat)(es:List J.E)(fr ats:List Int)(w:World)(c:Bool)(h:QG w g ge ce gf cf ga ca es fr ats)(q:J.Full es fr)(D:∀i,i<L es->fr.getD i 0<(L es:Int))(hH:∀i,i<L es->J.isStep (J.ev es i)=Y->i+1<L es)(u:3<=L es)(hc:w.cell? ⟨g,8,C⟩=U (I c))(F:w.frozen? ⟨g,8,C⟩=O):
  Calls prog 193 #[.pointer (U ⟨g,0,C⟩)] w fun e w'=>M7 w w' g es fr ats c e:=by
 go_enter func193,ntmps193;refine PW _ _ _ _ ?_;show NG prog ((jF f193).drop 0) _ _ w;refine M6 h q D u Z Z Z fun a w1 gb gt gsb gst t hb ht hf=>?_;refine M5 (h.X t) q hH u hf hb ht fun w2 ac ae aa ab V l s=>⟨fun hy a2 y=>?_,fun hn=>?_⟩
 ·have j:=dA t (xW _) V;refine M4 y l s (fun H a3 d=>?_) fun H=>?_
  ·refine Mz (h.X j) d.sz d.df d.s0 d.s3 d.s4 d.s5 l s fun a4 w4 gF ad z x B4=>?_;have f:=dA j (xW _) B4;refine Mw (c:=c) (h.X f) u z (l.X B4) x ((f.cell (p:=⟨g,8,C⟩) h.lg).trans hc) ((f.frozen (p:=⟨g,8,C⟩) h.lg).trans F) fun w5 B5=>⟨fun K=>?_,fun K=>?_⟩
   ·exact⟨w5,dA f (xW _) B5,xF ⟨fun m=>Bool.noConfusion (m.fence.symm.trans K),Z,Z⟩⟩
   ·exact⟨w5,dA f (xW _) B5,xR ⟨⟨hy.1,hy.2,H,K⟩,Z,Z⟩⟩
  ·exact⟨w2,j,xF ⟨fun m=>H m.link,Z,Z⟩⟩
 ·exact⟨w2,dA t (xW _) V,xF ⟨fun m=>hn ⟨m.bef,m.whole⟩,Z,Z⟩⟩
structure JX(P:Nat->Prop)(w w':World):Prop where
 os:w'.os=w.os
 tape:w'.tape=w.tape
 output:w'.output=w.output
 size:S (W w)<=S (W w')
 block:∀k,k<S (W w)->¬P k->w'.heap[k]?=w.heap[k]?
section
variable {P P':Nat->Prop}{w w1 w2:World}
def JX.refl(P:Nat->Prop)(w:World):JX P w w:=⟨Z,Z,Z,xW _,fun _ _ _=>Z⟩
def JX.of(h:Below (S (W w)) w w1):JX P w w1:=⟨h.os,h.tape,h.output,h.size,fun k c _=>h.block k c⟩
def JX.trans(h:JX P w w1)(k:JX P' w1 w2)(f:∀x,x<S (W w)->P' x->P x):JX P w w2 :=
 ⟨k.os.trans h.os,k.tape.trans h.tape,k.output.trans h.output,Nat.le_trans h.size k.size,fun x d e=>(k.block x (x2 d h.size) fun c=>e (f x d c)).trans (h.block x d e)⟩
def JX.X(h:JX P w w1)(k:Below (S (W w1)) w1 w2):JX P w w2:=h.trans (JX.of (P:=fun _=>False) k) fun _ _ e=>e.elim
def JX.set(h:JX P w w1)(j:P g\/S (W w)<=g)(i:Nat)(u:Value):JX P w (w1.setCell ⟨g,i,C⟩ u):=
 ⟨h.os,h.tape,h.output,by simpa using h.size,fun x f d=>(x7 _ _ _ _ fun e=>by
  subst e
  rcases j with c|c
  ·exact d c
  ·exact absurd f (Nat.not_lt.2 c)).trans (h.block x f d)⟩
def JX.mono(h:JX P w w1)(f:∀x,x<S (W w)->P x->P' x):JX P' w w1:=⟨h.os,h.tape,h.output,h.size,fun x d e=>h.block x d fun c=>e (f x d c)⟩
def Blk.x{l:List Value}{t:TypeId}(h:Blk w g l t)(d:JX P w w1)(c:¬P g):Blk w1 g l t:=h.keep (d.block g h.lt c)
end
def QQ(w:World)(D:Nat->Prop)(v:Value)(r:List Int):Prop:=∃b cap,v=MU b (L r) cap/\(∀i (h:i<L r),w.cell? ⟨b,i,C⟩=U (N M r[i]))/\b<S (W w)/\¬D b
def gD(h:w'.heap[b]?=w.heap[b]?):w'.cell? ⟨b,i,C⟩=w.cell? ⟨b,i,C⟩:=World.cell?_of_block (a:=⟨b,i,C⟩) h
def QQ.x{D P:Nat->Prop}(h:QQ w D v r)(j:JX P w w')(q:∀x,x<S (W w)->P x->D x):QQ w' D v r:=by
 obtain⟨b,d,rfl,l,e,f⟩:=h;exact⟨b,d,Z,fun i m=>(gD (j.block b e fun c=>f (q b e c))).trans (l i m),x2 e j.size,f⟩
def qT(w:World)(D:Nat->Prop)(us:List Value)(A:List (List Int)):Prop:=L us=L A/\∀(i:Nat) u a,us[i]?=U u->A[i]?=U a->QQ w D u a
def QP(w:World)(D:Nat->Prop)(ov:Value)(rs:List (List Int)):Prop :=
 ∃us,qT w D us rs/\(ov=.slice C 0 0/\rs=[]\/∃b cap,ov=MU b (L rs) cap/\(∀(i:Nat) u,us[i]?=U u->w.cell? ⟨b,i,C⟩=U u)/\b<S (W w)/\¬D b/\L rs<=cap)
section
variable {D P:Nat->Prop}{w w':World}
def qT.x(h:qT w D us A)(f:JX P w w')(e:∀x,x<S (W w)->P x->D x):qT w' D us A:=⟨h.1,fun i u a c d=>(h.2 i u a c d).x f e⟩
def qT.aY{u:Value}{a:List Int}(h:qT w D us A)(k:QQ w D u a):qT w D (us++[u]) (A++[a]):=by
 refine⟨by simp[h.1],fun i x y f j=>?_⟩;by_cases c:i<L us
 ·rw[xa c]at f;rw[xa (by rw[<- h.1];exact c)]at j;exact h.2 i x y f j
 ·rw[xb (by omega)]at f;rw[xb (by rw[<- h.1];omega)]at j;have e:i-L us=0:=by
   by_cases d:i-L us=0
   ·exact d
   ·rw[List.getElem?_eq_none (by simp;omega)]at f;cases f
  rw[e]at f;rw[<- h.1,e]at j;simp at f j;subst f j;exact k
def QP.x(h:QP w D ov rs)(j:JX P w w')(m:∀x,x<S (W w)->P x->D x):QP w' D ov rs:=by
 obtain⟨us,q,s⟩:=h;refine⟨us,q.x j m,s.imp id fun⟨b,d,e,t,f,l,y⟩=>⟨b,d,e,fun i u z=>(gD (j.block b f fun c=>l (m b f c))).trans (t i u z),x2 f j.size,l,y⟩⟩
def QQ.of(h:QQ w D v r)(l:∀x,x<S (W w)->D' x->D x):QQ w D' v r:=by
 obtain⟨b,d,rfl,f,e,j⟩:=h;exact⟨b,d,Z,f,e,fun c=>j (l b e c)⟩
def QP.of(h:QP w D ov rs)(l:∀x,x<S (W w)->D' x->D x):QP w D' ov rs:=by
 obtain⟨us,f,m⟩:=h;exact⟨us,⟨f.1,fun i u a e1 e2=>(f.2 i u a e1 e2).of l⟩,m.imp id fun⟨b,d,e,q,j,s,t⟩=>⟨b,d,e,q,j,fun c=>s (l b j c),t⟩⟩
def QP.own{B:Nat}(j:w.ownsRow B 37 1 ov (L us) us)(h:qT w D us rs)(y:∀x,D x->x<B):QP w D ov rs:=by
 refine⟨us,h,?_⟩;obtain⟨_,j⟩:=j
 rcases j with⟨f,l⟩|⟨g,e,d,f,l,m,s,z,E,t⟩
 ·have:L rs=0:=by rw[<- h.1];exact l
  exact xR ⟨f,List.eq_nil_of_length_eq_zero this⟩
 ·refine xF ⟨g,e,by rw[<- h.1];exact f,fun i u q=>?_,(Array.getElem?_eq_some_iff.1 m).1,fun c=>absurd (y g c) (by omega),by rw[<- h.1];exact s⟩;have F:=(List.getElem?_eq_some_iff.1 q).1;have e2:(d.toList.take (L us*1))[i]?=d.toList[i]?:=by rw[List.getElem?_take,if_pos (by omega)]
  rw[t,q]at e2;have e3:d[i]?=U u:=by rw[<- Array.getElem?_toList,<- e2]
  simp[World.cell?,m,e3]
end
def jw(tg:Bool)(pv ev rv bv fv av ov:Value)(c:Bool):List Value:=[I tg,pv,ev,rv,bv,fv,av,ov,I c]
namespace Q
def M8:∀{x:List Int} (k:Nat),L x=L o->(∀j,j<k->x.getD j 0=o.getD j 0)->k<L o->x.getD k 0≠o.getD k 0->cmp x o=x.getD k 0-o.getD k 0:=by
 induction o with
 |nil=>intro x k _ _ h;simp at h
 |cons b y ih =>
  intro x k e d m c
  cases x with
  |nil=>simp at e
  |cons a x =>
   cases k with
   |zero =>
    simp at c⊢;unfold cmp;simp[c]
   |succ k =>
    have f:a=b:=by simpa using d 0 (by omega)
    have:=ih k (by simpa using e) (fun j l=>by simpa using d (j+1) (by omega)) (by simpa using m) (by simpa using c);unfold cmp;simp[f,this]
def M9{x:List Int}(e:L x=L o)(h:∀j,j<L o->x.getD j 0=o.getD j 0):x=o:=by
 apply List.ext_getElem e;intro i d c;have:=h i c;simpa[d,c]using this
def FC{y:List Int}{l:List (List Int)}:y∈eY l r↔y=r\/y∈l:=by
 refine⟨ED,fun h=>?_⟩
 induction l with
 |nil=>rcases h with rfl|h;simp[eY];simp at h
 |cons x xs ih =>
  unfold eY
  split
  ·rcases h with h|h
   ·exact x9 _ (ih (xR h))
   ·rcases List.mem_cons.1 h with h|h
    ·rw[h];simp
    ·exact x9 _ (ih (xF h))
  ·split
   ·rename_i c
    rcases h with rfl|h
    ·have:cmp x y=0:=by simpa using c
     rw[GC this];simp
    ·exact h
   ·rcases h with rfl|h
    ·simp
    ·exact x9 _ h
end Q
