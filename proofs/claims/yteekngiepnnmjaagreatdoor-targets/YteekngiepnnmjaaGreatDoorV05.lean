import Derived.Test.YteekngiepnnmjaaGreatDoorV04
set_option linter.all false
set_option maxHeartbeats 0
namespace Go.Proofs.YteekngiepnnmjaaGreatDoor
open Go Go.RowKit Go.Proofs.Tryz P Q
open scoped Classical
set_option maxRecDepth 1000000
open Go.RowKit renaming Below->σ,intOf->ν
open Go renaming bodyPost->ι,World->ρ
open _root_ renaming Nat->ω,Bool->ξ,decide_eq_decide->φ,Int->τ
open Go.Proofs.Tryz renaming prog->ψ
variable {ca ce cf g ga gc ge gf:ω}{es:List J.E}{ats fr:List τ}{w:ρ}{a:Act}{R0:Ending->ρ->Prop}{gsc:ω->ω}{C:ω->ω->ξ}
open List renaming length->M
open _root_.Array renaming size->L
open Go.World renaming heap->D
open Bool renaming false->Y,true->O
open Go.Value renaming bool->I
open Option renaming none->U
open Go.Ending renaming returned->N
open Nat renaming zero_le->xF
open List renaming range->xR,map_cons->xW,map_nil->x3
theorem R8(p q r:ξ)(s:Prop):p=O\/p=Y/\q=O\/p=Y/\q=Y/\r=O/\s\/p=Y/\q=Y/\r=O/\¬s\/p=Y/\q=Y/\r=Y:=by
 grind
theorem R9(h:YZ w g ge ce gf cf ga ca es fr ats)(ai:∀i,i<M es->fr.getD i 0<(M es:τ))(h3:3<=M es)(sz:a.tmps.size=392)(df:a.defers=[])(s0:gA a 0=.pointer (some ⟨g,0,U⟩))(hR:∀(a:Act) (w1:ρ) (r:ω) (d:ω->ω),σ (L (D w)) w w1->TabAt w1 r (M es) d (λx y=>J.yes (J.IA es fr ats x y))->TFa a g (M es) r->bC ψ ((tF f192).drop 5) (ι ψ f192 R0) a w1):
  bC ψ ((tF f192).drop 0) (ι ψ f192 R0) a w:=by
 have hn:=h.n;have he:=h.e;have lg:=h.lg;have le:=h.le;have H:=aD h;have HR:=aD hR;have am:=aD ai;have H3:=aD h3;clear h hR ai h3;rw[eH sz df];simp only[xR,List.range.loop,xW,x3,s0];generalize gA a=f;clear s0 sz df;refine aH Z λT j=>?_;go_wp2;apply j.o;refine aH Z λT j=>?_;go_wp2;apply j.o;clear he le lg;refine aH Z λT j=>?_;go_wp2_with(first|(go_at_call 142;refine(GH (M es) _ hn).mono ?_;rintro e w1 ⟨r,d,rfl,⟨(ap:aC _),au,(ao:aC _)⟩,(B1:aC _)⟩;clear au));apply j.o;refine aH Z λT j=>?_;go_wp2;apply j.o;refine aH Z λK HK=>?_;go_wp2_with fail;go_loopw[5] (λq wr=>∃(i:ω) (B:ω->ω->ξ),i<=M es/\q=.int .i64 i/\aC (JTab wr r (M es) d B)/\aC (∀x y,x<M es->y<M es->B x y=J.yes (J.wX es fr ats i 0 x y))/\aC (σ (L (D w)) w wr)) λq _=>M es-(ν q).toNat
 case atStart=>exact⟨0,_,xF _,Z,ap,λx y _ _=>(J.kC J.tH).symm,B1⟩
 case round =>
  obtain⟨i,B,hi,rfl,HT,HI,HB⟩:=hrel;by_cases hlt:i<M es
  ·have aw:=lI hlt;go_wp2_with fail;go_loopw[6] (λq wr=>∃(k:ω) (B:ω->ω->ξ),k<=M es/\q=.int .i64 k/\aC (JTab wr r (M es) d B)/\aC (∀x y,x<M es->y<M es->B x y=J.yes (J.wX es fr ats i k x y))/\aC (σ (L (D w)) w wr)) λq _=>M es-(ν q).toNat
   case atStart=>exact⟨0,B,xF _,Z,HT,HI,HB⟩
   case round =>
    obtain⟨k,B,hk,rfl,HT,HI,HB⟩:=hrel;by_cases hkt:k<M es
    ·have ax:=lI hkt;go_upto_region 12 with(first
      |(go_at_call 208;refine(Q7 g ge ce gf cf ga ca es fr ats _ (H.X HB) i k hlt hkt am H3).mono ?_;rintro e w3 ⟨rfl,V⟩;have B3:=aD (bT HB V);have D3:=aD V;clear V)
      |(go_at_call 209;refine(Qz g ge ce gf cf ga ca es fr ats _ (H.X B3) i k hlt hkt).mono ?_;rintro e w4 ⟨rfl,W⟩;have B4:=aD (bT B3 W);have D4:=aD (bT D3 W);clear W)
      |(go_at_call 210;refine(Q6 g ge ce gf cf ga ca es fr ats _ (H.X B4) i k hlt hkt).mono ?_;rintro e w5 ⟨rfl,aa⟩;have B5:=aD (bT B4 aa);have D5:=aD (bT D4 aa);clear aa))
     go_cut[90]from 47 to 137 λv wx=>∃b:ξ,v=I b/\aC (b=!J.rZ es fr ats i k)/\aC (JTab wx r (M es) d B)/\aC (σ (L (D w)) w wx)
     case first =>
      have aq:=aD (HT.X D5);clear B3 B4 D3 D4;have KI:=H.X B5;have ha:=KI.a;have a1:=KI.at_ i hlt;have a2:=KI.at_ k hkt;have lg:=KI.lg;have la:=KI.la;clear KI;have HE:aC (J.rZ es fr ats i k=(J.bZ es fr i k||(J.eP (J.ev es i) (J.ev es k)||J.sc es i k&&decide (ats.getD i 0<ats.getD k 0)))):=Z;generalize J.bZ es fr i k=p1 at*;generalize J.eP (J.ev es i) (J.ev es k)=p2 at*;generalize J.sc es i k=p3 at*;generalize ats.getD i 0=x1 at*;generalize ats.getD k 0=x2 at*
      rcases R8 p1 p2 p3 (x1<x2)with rfl|⟨rfl,rfl⟩|⟨rfl,rfl,rfl,l⟩|⟨rfl,rfl,rfl,l⟩|⟨rfl,rfl,rfl⟩
      all_goals
       go_quiet (fail);go_wp2_with fail;go_meet;exact⟨_,Z,by unfold aC;rw[HE.o];simp[*],aq.X (eD _ _ _),bT B5 (eD _ _ _)⟩
     obtain⟨b,rfl,HL,ae,ad⟩:=hcut;cases b
     ·have hL:J.rZ es fr ats i k=O:=by simpa using HL.symm
      have HO:aC (∀x y,J.FU es fr ats i k x y↔(J.xK es i x&&J.vE es k y)=O):=λx y=>by simp_all [J.FU]
      clear hL HL;go_wp2_with fail;go_loopw[10] (λq wr=>∃(p:ω) (F:ω->ω->ξ),p<=M es/\q=.int .i64 p/\aC (JTab wr r (M es) d F)/\aC (∀x y,x<M es->y<M es->F x y=(B x y||decide (x<p)&&(J.xK es i x&&J.vE es k y)))/\aC (σ (L (D w)) w wr)) λq _=>M es-(ν q).toNat
      case atStart=>exact⟨0,B,xF _,Z,ae,λx y _ _=>by simp,ad⟩
      case round =>
       obtain⟨p,F,hp,rfl,af,HF,s⟩:=hrel;by_cases hpt:p<M es
       ·have ay:=lI hpt;go_wp2_with(first|(go_at_call 211;refine(DX g ge ce gf cf ga ca es fr ats _ (H.X s) p i hpt hlt).mono ?_;rintro e w6 ⟨rfl,ab⟩;have B6:=aD (bT s ab);have ag:=aD (af.X ab);clear ab));have A:aC (J.xK es i p=(J.aQ es p i||(p:τ)==(i:τ))):=Z;generalize J.aQ es p i=pa at*
        rcases LI pa ((p:τ)==(i:τ))with rfl|⟨rfl,aj⟩|⟨rfl,aj⟩
        case inr.inr =>
         go_loopw[12] (λq wr=>q=.int .i64 0/\wr=w6) λ_ _=>0
         case atStart=>exact⟨Z,Z⟩
         case round =>
          obtain⟨rfl,rfl⟩:=hrel;go_wp2_with fail;go_roundw
          ·refine⟨p+1,F,by omega,by go_num,ag,λx y l m=>?_,B6⟩;rw[HF.o x y l m];by_cases c:x=p
           ·rw[c,A.o,aj];simp
           ·rw[show decide (x<p+1)=decide (x<p)by rw[φ];omega]
          simp[ν];omega
        all_goals
         have al:aC (J.xK es i p=O):=by unfold aC;rw[A.o];simp[*]
         clear A;go_loopw[12] (λq wr=>∃(y:ω) (G:ω->ω->ξ),y<=M es/\q=.int .i64 y/\aC (JTab wr r (M es) d G)/\aC (∀x z,x<M es->z<M es->G x z=(F x z||decide (x=p/\z<y)&&J.vE es k z))/\aC (σ (L (D w)) w wr)) λq _=>M es-(ν q).toNat
         case atStart=>exact⟨0,F,xF _,Z,ag,λx y _ _=>by simp,B6⟩
         case round =>
          obtain⟨y,G,m,rfl,ah,HG,t⟩:=hrel;by_cases hyt:y<M es
          ·have az:=lI hyt;go_upto_region 21 with(first|(go_at_call 211;refine(DX g ge ce gf cf ga ca es fr ats _ (H.X t) k y hkt hyt).mono ?_;rintro e w8 ⟨rfl,ac⟩;have B8:=aD (bT t ac);have S:=aD (ah.X ac);clear ac))
           have KB:=S.at_;have r1:=KB.row p hpt;have b1:=KB.bit p y hpt hyt;have l1:=KB.lg;have l2:=KB.lr p hpt;have f1:=(S.row p hpt).free y;clear KB;have an:aC (∀u,u=(G p y||J.vE es k y)->JTab (w8.setCell ⟨d p,y,U⟩ (I u)) r (M es) d (eX G p y u)/\(∀x z,x<M es->z<M es->eX G p y u x z=(F x z||decide (x=p/\z<y+1)&&J.vE es k z))/\σ (L (D w)) w (w8.setCell ⟨d p,y,U⟩ (I u))):=λu hu=>by
            refine⟨S.set p y hpt _,λx z l hz=>?_,B8.setCell (p:=⟨d p,y,U⟩) (ao p hpt) _⟩;unfold eX;by_cases c:x=p/\z=y
            ·rw[if_pos c,c.1,c.2,hu,HG.o p y hpt hyt];simp
            ·rw[if_neg c,HG.o x z l hz,show decide (x=p/\z<y+1)=decide (x=p/\z<y)by rw[φ];omega]
           have ar:aC (J.vE es k y=(J.aQ es k y||(y:τ)==(k:τ))):=Z;generalize J.aQ es k y=ta at*;generalize av:G p y=gv at*;clear av
           rcases Re gv ta ((y:τ)==(k:τ))with rfl|⟨rfl,rfl⟩|⟨rfl,rfl,ak⟩|⟨rfl,rfl,ak⟩
           all_goals
            go_region;go_wp2_with fail;have E:=aD (an.o _ Z);rw[ar.o]at E
            try rw[ak]at E
            go_roundw;exact⟨y+1,_,by omega,by go_num,by first|exact E.1|exact E.1.X (eD _ _ _),E.2.1,by first|exact E.2.2|exact bT E.2.2 (eD _ _ _)⟩;simp[ν];omega
          ·have az:=lN hyt;go_wp2_with fail;go_roundw
           ·refine⟨p+1,G,by omega,by go_num,ah,λx z l hz=>?_,t⟩;rw[HG.o x z l hz,HF.o x z l hz];by_cases c:x=p
            ·rw[c,al.o,decide_eq_true (show p=p/\z<y by omega)];simp
            ·rw[show decide (x<p+1)=decide (x<p)by rw[φ];omega,decide_eq_false (show ¬(x=p/\z<y)by omega)];simp
           simp[ν];omega
       ·have ay:¬(p:τ)<M es:=by omega
        go_wp2_with fail;go_roundw
        ·refine⟨k+1,F,by omega,by go_num,af,λx y l m=>?_,s⟩;rw[HF.o x y l m,HI.o x y l m,decide_eq_true (by omega),Bool.true_and,J.yW,J.dA (J.jL hkt),HO.o]
        simp[ν];omega
     ·go_wp2_with fail;go_roundw
      ·refine⟨k+1,B,by omega,by go_num,ae,λx y l m=>?_,ad⟩;rw[HI.o x y l m];exact J.dA ⟨λc=>(J.jL hkt).2 (Or.inl c),λc=>((J.jL hkt).1 c).resolve_right λo=>by have:=HL.o;rw[o.1]at this;cases this⟩
      simp[ν];omega
    ·have ax:¬(k:τ)<M es:=by omega
     go_wp2_with fail;go_roundw;exact⟨i+1,B,by omega,by go_num,HT,λx y l m=>by rw[HI.o x y l m];exact J.dA (J.wI hkt),HB⟩;simp[ν];omega
  ·have aw:¬(i:τ)<M es:=by omega
   go_wp2_with fail;apply HK;refine HR _ _ r d HB ?_ ⟨Z,Z,Z,Z,Z⟩;exact(HT.to λx y l m=>by rw[HI.o x y l m];exact J.dA (J.wA (by omega))).at_
structure TFd(a:Act)(g n gc gl:ω):Prop where
 sz:a.tmps.size=392
 df:a.defers=[]
 s0:gA a 0=.pointer (some ⟨g,0,U⟩)
 s3:gA a 3=.int .i64 (n:τ)
 s14:gA a 14=VV gc n n
 s21:gA a 21=VV gl n n
theorem Sa(p q r s:ξ):p=O\/p=Y/\q=O\/p=Y/\q=Y/\r=O\/p=Y/\q=Y/\r=Y/\s=O\/p=Y/\q=Y/\r=Y/\s=Y:=by
 grind
theorem Sb(p:ξ)(r:Prop):p=Y\/p=O/\r\/p=O/\¬r:=by grind
theorem Sc(s t a m l:ξ):s=O/\t=O\/(s=Y\/s=O/\t=Y)/\(a=Y\/a=O/\m=Y\/a=O/\m=O/\l=O\/a=O/\m=O/\l=Y):=by
 grind
def Sd(h:YZ w g ge ce gf cf ga ca es fr ats)(ai:J.Full es fr)(hf:TFb a g (M es) gc)(hb:TabAt w gc (M es) gsc C)(hR:(∀i k,i<M es->k<M es->¬(C i k=O/\J.bad es fr ats i k=O))->∀(a:Act) (w1:ρ) (E:ω) (j:ω->ω),σ (L (D w)) w w1->TabAt w1 E (M es) j (J.locB es fr ats)->TFd a g (M es) gc E->bC ψ ((tF f192).drop 16) (ι ψ f192 R0) a w1)(hN:¬(∀i k,i<M es->k<M es->¬(C i k=O/\J.bad es fr ats i k=O))->∀w1,σ (L (D w)) w w1->R0 (N (I Y)) w1):
  bC ψ ((tF f192).drop 13) (ι ψ f192 R0) a w:=by
 obtain⟨sz,df,s0,s3,ak⟩:=hf;have hn:=h.n;have H:=aD h;have HB:=aD hb;have HR:=aD hR;have HN:=aD hN;have ad:=aD ai;clear h hR hN ai hb;rw[eH sz df];simp only[xR,List.range.loop,xW,x3,s0,s3,ak];generalize gA a=f;clear s0 s3 ak sz df;refine aH Z λap z=>?_;go_wp2_with(first|(go_at_call 142;refine(GH (M es) _ hn).mono ?_;rintro e w1 ⟨E,j,rfl,⟨(am:aC _),_,(HS:aC _)⟩,(B1:aC _)⟩));apply z.o;refine aH Z λap z=>?_;go_wp2;apply z.o;refine aH Z λK HK=>?_;go_wp2_with fail;go_loopw[22] (λq wr=>∃(i:ω) (F:ω->ω->ξ),i<=M es/\q=.int .i64 i/\aC (JTab wr E (M es) j F)/\aC (∀x y,x<M es->y<M es->x<i->F x y=J.locB es fr ats x y/\¬(C x y=O/\J.bad es fr ats x y=O))/\aC (σ (L (D w)) w wr)) λq _=>M es-(ν q).toNat
 case atStart=>exact⟨0,_,xF _,Z,am,λx y _ _ h=>absurd h (Nat.not_lt_zero _),B1⟩
 case round =>
  obtain⟨i,F,hi,rfl,HT,HI,l⟩:=hrel;by_cases hlt:i<M es
  ·have aq:=lI hlt;go_wp2_with fail;go_loopw[23] (λq wr=>∃(k:ω) (F:ω->ω->ξ),k<=M es/\q=.int .i64 k/\aC (JTab wr E (M es) j F)/\aC (∀x y,x<M es->y<M es->x<i\/x=i/\y<k->F x y=J.locB es fr ats x y/\¬(C x y=O/\J.bad es fr ats x y=O))/\aC (σ (L (D w)) w wr)) λq _=>M es-(ν q).toNat
   case atStart=>exact⟨0,F,xF _,Z,HT,λx y A G h=>HI x y A G (by omega),l⟩
   case round =>
    obtain⟨k,F,hk,rfl,HT,HI,l⟩:=hrel;by_cases hkt:k<M es
    ·have ar:=lI hkt;have m:=H.X l;have he:=m.e;have lg:=m.lg;have le:=m.le;have KC:=HB.X l;have r1:=KC.row i hlt;have l1:=KC.lg;have l2:=KC.lr i hlt;have b1:=KC.bit i k hlt hkt;clear m KC;go_upto_if 265 with fail
     go_cut[]from 242 to 373 λwx=>aC (¬(C i k=O/\J.bad es fr ats i k=O))/\aC (JTab wx E (M es) j F)/\aC (σ (L (D w)) w wx)
     case first =>
      clear he le r1 l1 l2 b1 lg
      cases hc:C i k
      ·go_wp2_with fail;go_meet;exact⟨(λc=>by rw[hc]at c;cases c.1),HT,l⟩
      ·as_aux_lemma =>
        go_upto_region 52 with(first|(go_at_call 214;refine(LO g ge ce gf cf ga ca es fr ats _ (H.X l) k i hkt hlt).mono ?_;rintro e w3 ⟨rfl,t⟩;have S:=aD (bT l t);have B:=aD (HT.X t);clear t))
        go_cut[27]from 242 to 373 λv wx=>∃b:ξ,v=I b/\aC (b=(J.sc es i k&&decide (ats.getD k 0<ats.getD i 0)))/\aC (JTab wx E (M es) j F)/\aC (σ (L (D w)) w wx)
        case first =>
         have m:=H.X S;have ha:=m.a;have a1:=m.at_ i hlt;have a2:=m.at_ k hkt;have lg:=m.lg;have la:=m.la;clear m;generalize aj:J.sc es i k=p3 at*;have HZ:=aD aj;clear aj;generalize ats.getD i 0=x1 at*;generalize ats.getD k 0=x2 at*
         rcases Sb p3 (x2<x1)with rfl|⟨rfl,A⟩|⟨rfl,A⟩
         all_goals
          go_quiet (first|(go_at_call 210;exact Calls.quiet_of (v:=I Y) (Calls.mono (OP g ge ce gf cf ga ca es fr ats _ (H.X (bT S (eD _ _ _))) i k hlt hkt) λe w' hq=>by rw[HZ.o]at hq;exact hq))|(go_at_call 210;exact Calls.quiet_of (v:=I O) (Calls.mono (OP g ge ce gf cf ga ca es fr ats _ (H.X (bT S (eD _ _ _))) i k hlt hkt) λe w' hq=>by rw[HZ.o]at hq;exact hq)));go_wp2_with fail;go_meet;exact⟨_,Z,by unfold aC;simp[*],B.X (eD _ _ _),bT S (eD _ _ _)⟩
        obtain⟨pb,rfl,af,s,ac⟩:=hcut;have HE:aC (J.bad es fr ats i k=(J.order es ats k i||(pb||(J.aZ es fr k i||J.misses es fr ats k i)))):=by unfold aC;rw[af.o];rfl
        clear af;go_upto_region 55 with(first
         |(go_at_call 215;refine(Da g ge ce gf cf ga ca es fr ats _ (H.X ac) k i hkt hlt).mono ?_;rintro e w6 ⟨rfl,aa⟩;have B6:=aD (bT ac aa);have an:=aD (s.X aa);clear aa)
         |(go_at_call 216;refine(NC g ge ce gf cf ga ca es fr ats _ (H.X B6) k i hkt hlt ad).mono ?_;rintro e w7 ⟨rfl,ab⟩;have B7:=aD (bT B6 ab);have ao:=aD (an.X ab);clear ab))
        generalize J.order es ats k i=o1 at*;generalize J.aZ es fr k i=o3 at*;generalize J.misses es fr ats k i=o4 at*
        rcases Sa o1 pb o3 o4 with rfl|⟨rfl,rfl⟩|⟨rfl,rfl,rfl⟩|⟨rfl,rfl,rfl,rfl⟩|⟨rfl,rfl,rfl,rfl⟩
        case inr.inr.inr.inr =>
         go_wp2_with fail;go_meet;exact⟨(λc=>by rw[HE.o]at c;cases c.2),ao,B7⟩
        all_goals
         go_wp2_with fail;exact HN (λc=>c i k hlt hkt ⟨hc,by rw[HE.o];simp⟩) _ B7
     obtain⟨HL,ag,T⟩:=hcut;clear he le r1 l1 l2 b1 lg;go_upto_region 60 with(first
      |(go_at_call 217;refine(wN g ge ce gf cf ga ca es fr ats _ (H.X T) i k hlt hkt).mono ?_;rintro e w3 ⟨rfl,t⟩;have S:=aD (bT T t);have B:=aD (ag.X t);clear t)
      |(go_at_call 218;refine(Q8 g ge ce gf cf ga ca es fr ats _ (H.X S) i k hlt hkt ad).mono ?_;rintro e w4 ⟨rfl,V⟩;have B4:=aD (bT S V);have ah:=aD (B.X V);clear V)
      |(go_at_call 211;refine(DX g ge ce gf cf ga ca es fr ats _ (H.X B4) i k hlt hkt).mono ?_;rintro e w5 ⟨rfl,W⟩;have B5:=aD (bT B4 W);have s:=aD (ah.X W);clear W))
     clear S B4 B ah T ag;have m:=H.X B5;have le:=m.le;obtain⟨_,_,k1,v1,_,_,_,_,_⟩:=m.ev i hlt;obtain⟨_,_,k2,v2,_,_,_,_,_⟩:=m.ev k hkt;clear m;go_cut[33]from 242 to 373 λv wx=>∃b:ξ,v=I b/\aC (b=(J.mM (J.ev es i)&&J.mM (J.ev es k)))/\wx=w5
     case first =>
      clear v1 v2 s B5 HL;have HX:aC ((J.mM (J.ev es i)&&J.mM (J.ev es k))=(((J.ev es i).kind.toList==[119]||(J.ev es i).kind.toList==[114])&&((J.ev es k).kind.toList==[119]||(J.ev es k).kind.toList==[114]))):=Z;generalize J.ev es i=x at*;generalize J.ev es k=y at*
      rcases LI (x.kind.toList==[119]) (x.kind.toList==[114])with p1|⟨p1,p2⟩|⟨p1,p2⟩<;>rcases LI (y.kind.toList==[119]) (y.kind.toList==[114])with n1|⟨n1,n2⟩|⟨n1,n2⟩
      all_goals
       as_aux_lemma =>
        go_wp2_with fail;go_meet;exact⟨_,Z,by unfold aC;rw[HX.o];simp[*],Z⟩
     obtain⟨mb,rfl,ae,rfl⟩:=hcut;clear k1 k2;go_upto_region 61 with fail
     have KB:=s.at_;have r1:=KB.row i hlt;have b1:=KB.bit i k hlt hkt;have l1:=KB.lg;have l2:=KB.lr i hlt;have f1:=(s.row i hlt).free k;clear KB;have HE:aC (J.locB es fr ats i k=(J.aJ es i k&&J.gN es fr ats i k||J.aQ es i k&&(mb&&(J.ev es i).loc==(J.ev es k).loc))):=by unfold aC;rw[ae.o];rfl
     have al:aC (∀u,u=J.locB es fr ats i k->JTab (wc.setCell ⟨j i,k,U⟩ (I u)) E (M es) j (eX F i k u)/\(∀x y,x<M es->y<M es->x<i\/x=i/\y<k+1->eX F i k u x y=J.locB es fr ats x y/\¬(C x y=O/\J.bad es fr ats x y=O))/\σ (L (D w)) w (wc.setCell ⟨j i,k,U⟩ (I u))):=λu hu=>by
      refine⟨s.set i k hlt _,λx y A G hc=>?_,B5.setCell (p:=⟨j i,k,U⟩) (HS i hlt) _⟩;unfold eX;by_cases d:x=i/\y=k
      ·rw[if_pos d,d.1,d.2];exact⟨hu,HL⟩
      ·rw[if_neg d];exact HI x y A G (by omega)
     clear ae s B5 HL;generalize J.aJ es i k=c1 at*;generalize J.gN es fr ats i k=c2 at*;generalize J.aQ es i k=c3 at*;generalize(J.ev es i).loc=z1 at*;generalize(J.ev es k).loc=z2 at*
     rcases Sc c1 c2 c3 mb (z1==z2)with⟨rfl,rfl⟩|⟨rfl|⟨rfl,rfl⟩,rfl|⟨rfl,rfl⟩|⟨rfl,rfl,hz⟩|⟨rfl,rfl,hz⟩⟩
     all_goals
      as_aux_lemma =>
       go_region;go_wp2_with fail;have r:=aD (al.o _ Z);rw[HE.o]at r
       try rw[hz]at r
       go_roundw;exact⟨k+1,_,by omega,by go_num,by first|exact r.1|exact r.1.X (eD _ _ _),r.2.1,by first|exact r.2.2|exact bT r.2.2 (eD _ _ _)⟩;simp[ν];omega
    ·have ar:¬(k:τ)<M es:=by omega
     go_wp2_with fail;go_roundw;exact⟨i+1,F,by omega,by go_num,HT,λx y A G h=>HI x y A G (by omega),l⟩;simp[ν];omega
  ·have aq:¬(i:τ)<M es:=by omega
   go_wp2_with fail;apply HK;refine HR (λx y A G=>(HI x y A G (by omega)).2) _ _ E j l ?_ ⟨Z,Z,Z,Z,Z,Z⟩;exact(HT.to λx y A G=>(HI x y A G (by omega)).1).at_
def Se(h:YZ w g ge ce gf cf ga ca es fr ats)(k:J.Full es fr)(s:∀i,i<M es->J.isStep (J.ev es i)=O->i+1<M es)(r:3<=M es)(E:TFb a g (M es) gc)(v:TabAt w gc (M es) gsc C)(u:J.rnd (M es) C=Y/\J.wholeB es fr ats=O->∀(a:Act) (j:ρ),σ (L (D w)) w j->TFb a g (M es) gc->bC ψ ((tF f192).drop 13) (ι ψ f192 R0) a j)(t:¬(J.rnd (M es) C=Y/\J.wholeB es fr ats=O)->∀j,σ (L (D w)) w j->R0 (N (I Y)) j):
  bC ψ ((tF f192).drop 9) (ι ψ f192 R0) a w:=by
 obtain⟨z,q,x,y,l⟩:=E;have H:=aD h;have HB:=aD v;have HR:=aD u;have p:=aD t;have n:=aD k;have B:=aD s;have A:=aD r;clear h v u t k s r;rw[eH z q];simp only[xR,List.range.loop,xW,x3,x,y,l];generalize gA a=f;clear x y l z q;refine aH Z λd b=>?_;go_wp2_with(first|(go_at_call 144;refine(PN gc (M es) gsc C _ HB).mono ?_;rintro e j ⟨rfl,rfl⟩));apply b.o;refine aH Z λd b=>?_;go_wp2_with(first|(go_at_call 213;refine(Q9 g ge ce gf cf ga ca es fr ats _ H n B A).mono ?_;rintro e G ⟨rfl,(m:aC _)⟩));apply b.o;generalize J.rnd (M es) C=rd at*;generalize J.wholeB es fr ats=F at*;cases rd
 ·cases F
  ·refine aH Z λd b=>?_;go_wp2;apply b.o;refine aH Z λd _=>?_;go_wp2;exact p (λc=>by cases c.2) _ m
  ·refine aH Z λd b=>?_;go_wp2;apply b.o;refine aH Z λd b=>?_;go_wp2;apply b.o;exact HR (by simp) _ _ m ⟨Z,Z,Z,Z,Z⟩
 ·refine aH Z λd b=>?_;go_wp2;apply b.o;refine aH Z λd _=>?_;go_wp2;exact p (λc=>by cases c.1) _ m
def Sf{v:ω}{j:ω->ω}{F:ω->ω->ξ}{c:ξ}(h:YZ w g ge ce gf cf ga ca es fr ats)(A:3<=M es)(hf:TFd a g (M es) gc v)(G:TabAt w gc (M es) gsc C)(B:TabAt w v (M es) j F)(K:w.cell? ⟨g,8,U⟩=some (I c))(m:w.frozen? ⟨g,8,U⟩=Y)(E:∀t,σ (L (D w)) w t->(J.rnd (M es) (J.cl (M es) F)=O->R0 (N (I Y)) t)/\(J.rnd (M es) (J.cl (M es) F)=Y->R0 (N (I O)) (t.setCell ⟨g,8,U⟩ (I (c||J.yes (J.cS es C)))))):
  bC ψ ((tF f192).drop 16) (ι ψ f192 R0) a w:=by
 obtain⟨V,z,S,T,n,p⟩:=hf;have s:=h.lg;have H:=aD h;have HB:=aD G;have HF:=aD B;have W:=aD K;have HZ:=aD m;have HR:=aD E;have HN:=aD A;clear h G B K m E A;rw[eH V z];simp only[xR,List.range.loop,xW,x3,S,T,n,p];generalize gA a=f;clear S T n p V z;refine aH Z λd b=>?_;go_wp2_with(first|(go_at_call 143;refine(QV v (M es) j F _ HF).mono ?_;rintro e t ⟨gd,x,rfl,⟨(u:aC _),_,_⟩,(q:aC _)⟩));apply b.o;refine aH Z λd b=>?_;go_wp2_with(first|(go_at_call 144;refine(PN gd (M es) x _ _ u.at_).mono ?_;rintro e w2 ⟨rfl,rfl⟩));apply b.o;have y:aC (J.rnd (M es) (J.cl (M es) F)=J.rnd (M es) λi k=>J.yes (TC (J.Rn (M es) F) i k)):=Z;generalize J.rnd (M es) (λi k=>J.yes (TC (J.Rn (M es) F) i k))=rd at*;refine aH Z λd b=>?_;go_wp2;apply b.o;cases rd
 ·refine aH Z λd b=>?_;go_wp2;apply b.o;refine aH Z λd b=>?_;go_wp2_with(first|(go_at_call 219;refine(Qv g ge ce gf cf ga ca es fr ats _ (H.X q) gc gsc C (HB.X q) HN).mono ?_;rintro e w3 ⟨rfl,l⟩;have r:=aD (bT q l);clear l));apply b.o;have aa:=cK r s W;have ab:=fK r s HZ;have ac:=Nat.lt_of_lt_of_le s r.size;have HE:=aD ((HR _ r).2 y);generalize J.yes (J.cS es C)=cb at*;cases c
  all_goals
   refine aH Z λd b=>?_;go_wp2;apply b.o;refine aH Z λd b=>?_;go_wp2;apply b.o;refine aH Z λd _=>?_;go_wp2;exact HE
 ·refine aH Z λd _=>?_;go_wp2;exact(HR _ q).1 y
def Sg(w w':ρ)(g:ω)(es:List J.E)(fr ats:List τ)(c:ξ)(e:Ending):Prop :=
 ∃w1,σ (L (D w)) w w1/\(J.MayT es fr ats/\e=N (I O)/\w'=w1.setCell ⟨g,8,U⟩ (I (c||J.yes (J.cS es (J.cse es fr ats))))\/¬J.MayT es fr ats/\e=N (I Y)/\w'=w1)
def Dm(g ge ce gf cf ga ca:ω)(es:List J.E)(fr ats:List τ)(w:ρ)(c:ξ)(h:YZ w g ge ce gf cf ga ca es fr ats)(l:J.Full es fr)(n:∀i,i<M es->fr.getD i 0<(M es:τ))(T:∀i,i<M es->J.isStep (J.ev es i)=O->i+1<M es)(p:3<=M es)(W:w.cell? ⟨g,8,U⟩=some (I c))(t:w.frozen? ⟨g,8,U⟩=Y):
  Calls ψ 192 #[.pointer (some ⟨g,0,U⟩)] w λe w'=>Sg w w' g es fr ats c e:=by
 go_in;refine fU _ _ _ _ ?_;show bC ψ ((tF f192).drop 0) _ _ w;refine R9 h n p Z Z Z λa w1 gb K y V hf=>?_;refine R7 (h.X y) n p hf V λa2 w2 gc gsc H j q=>?_;have d:=bT y H;refine Se (h.X d) l T p q j (λA a3 B k r=>?_) λv B k=>⟨B,bT d k,Or.inr ⟨λm=>v ⟨m.cse,m.whole⟩,Z,Z⟩⟩;have f:=bT d k;refine Sd (h.X f) l r (j.X k) (λhl a4 F gl S o u s=>?_) λv F o=>⟨F,bT f o,Or.inr ⟨λm=>v m.link,Z,Z⟩⟩;have b:=bT f o;refine Sf (c:=c) (h.X b) p s ((j.X k).X o) u (cK b h.lg W) (fK b h.lg t) λG z=>⟨λx=>?_,λx=>?_⟩
 ·exact⟨G,bT b z,Or.inr ⟨λm=>Bool.noConfusion (m.loc.symm.trans x),Z,Z⟩⟩
 ·exact⟨G,bT b z,Or.inl ⟨⟨A.1,A.2,hl,x⟩,Z,Z⟩⟩
