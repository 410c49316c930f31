import Derived.Test.YteekngiepnnmjaaGreatDoorV18
import Derived.Test.YteekngiepnnmjaaGreatDoorV05
set_option linter.all false
set_option maxHeartbeats 0
namespace Go.Proofs.YteekngiepnnmjaaGreatDoor
open Go Go.RowKit Go.Proofs.Tryz P Q
open scoped Classical
set_option maxRecDepth 1000000
open _root_ renaming List->t,List->σ,Int->s,Int->ν,Nat->u,Nat->ι,Bool->m,Bool->ψ,absurd->τ
open Go renaming Value->d,Value->ω,World->φ,results_none->π,bodyPost_ret->η,wpList_append_lies->δ
open Go.RowKit renaming intOf->ξ,Below->ρ
open Go.Proofs.Tryz renaming prog->ζ
variable {bv ov pv rv v:ω}{b ca ce cf g ga ge gf i:ι}{w w':φ}{ats fr l:σ ν}{D:ι->Prop}{rs:σ (σ ν)}{es:σ J.E}
open List renaming length->V
open Go.Value renaming bool->Y,int->U,slice->A
open Bool renaming true->O,false->N
open Option renaming none->I,some->z
open Go.IntKind renaming i64->G
open Go.Obj renaming cells->M
open Go.Ending renaming returned->F
open Or renaming inl->xF,inr->xR
open List renaming range->xW
open Nat renaming lt_of_lt_of_le->x3,le_refl->x5,zero_mul->x6,not_lt_zero->x7
open Go.Value renaming bool->x4
open Go.Instr renaming makeSlice->x8
open Int renaming toNat_natCast->x9
theorem zPp(p q:m)(r:Prop):p=N\/p=O/\q=N\/p=O/\q=O/\¬r\/p=O/\q=O/\r:=by
 grind
def WU(l:t s):t d:=l.map (Value.int G)
def J.mL(es:t J.E)(ats:t s)(k:u):t s:=(xW k).map λv=>(J.ev es (J.lastTo es ats v (V es))).val
section
variable {w w':φ}{D:ι->Prop}{g ge ce gf cf ga ca:ι}{es:σ J.E}{fr ats regs:σ ν}{pv rv bv ov ov':ω}{L:ι}{rs rs':σ (σ ν)}{c c':ψ}
def YZ.off(h:YZ w g ge ce gf cf ga ca es fr ats)(c:3<=V es){v:ω}(a:w.cell? ⟨g,0,I⟩=z (Y O)):ge≠g/\gf≠g/\ga≠g:=by
 refine⟨λe=>?_,λe=>?_,λe=>?_⟩
 ·subst e;have:=(h.ev 0 (by omega)).t;simp only[x6]at this;rw[a]at this;cases this
 ·subst e;have:=h.fr 0 (by omega);rw[a]at this;cases this
 ·subst e;have:=h.at_ 0 (by omega);rw[a]at this;cases this
theorem ZH.off{b:ψ}(h:ZH w D rv regs)(k:0<V regs)(j:w.cell? ⟨g,0,I⟩=z (Y b)):∀a,rv.ownBlock=z a->a≠g:=by
 obtain⟨b,c,rfl,d,e,f⟩:=h;intro a e1 e2;cases e1
 grind
def JJ.eW(h:JJ w D g ge ce gf cf ga ca es fr ats regs pv rv bv ov L rs c)(a:JX (λk=>k=g) w w')(f:Blk w' g (jw O pv (VV ge (V es) ce) rv bv (VV gf (V es) cf) (VV ga (V es) ca) ov' c') 109)(K:ZE w' D ov' rs')(C:YX rs')(B:∀r∈rs',J.Ok L r):JJ w' D g ge ce gf cf ga ca es fr ats regs pv rv bv ov' L rs' c':=by
 have p:=h.blk.cell (i:=0) (v:=Y O) Z;obtain⟨S,T,W⟩:=h.jin.off h.three (v:=ov) p;have E:Blk w' g _ _:=f;refine⟨f,⟨f.cell Z,f.cell Z,f.cell Z,λi d=>?_,λi d=>?_,λi d=>?_,f.lt,x3 h.jin.le a.size,x3 h.jin.lf a.size,x3 h.jin.la a.size,h.jin.n⟩,?_,K,C,B,h.len,h.small,h.pos,h.rng,h.vals,h.full,h.frl,h.half,h.three,λx o=>x3 (h.low x o) a.size,h.dg⟩
 ·have e:∀j,w'.cell? ⟨ge,j,I⟩=w.cell? ⟨ge,j,I⟩:=λj=>iF (a.block ge h.jin.le S)
  have k:=h.jin.ev i d;exact⟨(e _).trans k.t,(e _).trans k.b,(e _).trans k.k,(e _).trans k.l,(e _).trans k.v,(e _).trans k.r,(e _).trans k.s,(e _).trans k.h,(e _).trans k.n⟩
 ·exact(iF (a.block gf h.jin.lf T)).trans (h.jin.fr i d)
 ·exact(iF (a.block ga h.jin.la W)).trans (h.jin.at_ i d)
 ·have H:=ZH.off h.rg h.pos p;obtain⟨b,m,rfl,u,q,y⟩:=h.rg;exact⟨b,m,Z,λi d=>(iF (a.block b q (H b Z))).trans (u i d),x3 q a.size,y⟩
def JJ.X(h:JJ w D g ge ce gf cf ga ca es fr ats regs pv rv bv ov L rs c)(a:ρ w.heap.size w w'):JJ w' D g ge ce gf cf ga ca es fr ats regs pv rv bv ov L rs c :=
 h.eW (JX.of a) (h.blk.X a) (h.y.x (JX.of (P:=λ_=>False) a) λ_ _ e=>e.elim) h.rise h.ok
def JJ.clash(h:JJ w D g ge ce gf cf ga ca es fr ats regs pv rv bv ov L rs c)(a:ρ w.heap.size w w'):JJ (w'.setCell ⟨g,8,I⟩ (Y c')) D g ge ce gf cf ga ca es fr ats regs pv rv bv ov L rs c' :=
 have d:JX (λk=>k=g) w (w'.setCell ⟨g,8,I⟩ (Y c')):=JX.set (P:=λk=>k=g) (JX.of a) (xF Z) _ _
 h.eW d ((h.blk.X a).set 8 _) (h.y.x d λx _ e=>by rw[e];exact h.dg) h.rise h.ok
end
theorem KK(h:∀i (d:i<V l),w.cell? ⟨b,i,I⟩=z (U G l[i])):∀j u,(WU l)[j]?=z u->w.cell? ((⟨b,0,I⟩:Addr).add j)=z u:=λj u a=>by
 unfold WU at a;rw[List.getElem?_map]at a;obtain⟨x,c,rfl⟩:=Option.map_eq_some_iff.1 a;obtain⟨e,rfl⟩:=List.getElem?_eq_some_iff.1 c
 simp_all [tK]
def DT(l:t s):∀u∈WU l,u.oneCell'=O:=λu a=>by
 obtain⟨x,_,rfl⟩:=List.mem_map.1 a;rfl
theorem J.rA(es:t J.E)(ats:t s)(k:u):J.mL es ats (k+1)=J.mL es ats k++[(J.ev es (J.lastTo es ats k (V es))).val]:=by
 grind [J.mL,List.range_succ]
theorem Jx{B:u}(h:w.ownsRow B 3 1 v (V l) (WU l))(r:0<V l)(m:∀x,D x->x<B):ZH w D v l:=by
 rcases h.2 with⟨_,j⟩|⟨g,d,a,f,j,e,n,o,p,k⟩
 ·omega
 ·refine⟨g,d,f,λi q=>?_,dC e,λc=>τ (m g c) (by omega)⟩;have e2:(a.toList.take (V l*1))[i]?=a.toList[i]?:=by grind
  rw[k]at e2;have e3:a[i]?=z (U G l[i]):=by grind [WU]
  simp[World.cell?,e,e3]
def zOy{L:u}(c:YX rs)(h:∀r∈rs,J.Ok L r)(a:L<=19):V rs<1000000000000 :=
 Nat.lt_of_le_of_lt (Nat.le_trans (J.few c h) (Nat.pow_le_pow_right (by omega) a)) (by decide)
theorem zHX(g ge ce gf cf ga ca:ι)(es:σ J.E)(fr ats regs:σ ν)(pv rv bv ov:ω)(L:ι)(rs:σ (σ ν))(c:ψ)(D:ι->Prop)(w:φ)(h:JJ w D g ge ce gf cf ga ca es fr ats regs pv rv bv ov L rs c):
  Calls ζ 166 #[.pointer (z ⟨g,0,I⟩)] w λe w'=>e=F (.tuple #[])/\zPl w w' (λk=>k=g) D g pv (VV ge (V es) ce) rv bv (VV gf (V es) cf) (VV ga (V es) ca) L rs c (λo=>J.MayT es fr ats/\o=J.jB es ats regs) (J.MayT es fr ats/\J.cS es (J.cse es fr ats)):=by
 have H:=aD h;have c0:=h.blk.cell (i:=0) (v:=Y O) Z;have c8:=h.blk.cell (i:=8) (v:=Y c) Z;have f8:=h.blk.free 8;have lg:=h.blk.lt;clear h;have ah:=aD c8;have ai:=aD f8;clear c8 f8;by_cases hm:J.MayT es fr ats
 ·have aT:=H.rg;obtain⟨br,cr,rfl,_,_,_⟩:=aT;obtain⟨i0,hi,ad,ae,af⟩:∃i0,prog.info? 3=z i0/\i0.zero=z (U G 0)/\i0.size=1/\i0.bytes=8:=uV Tryz.XE;have aE:=H.pos;have av:=H.len;have aF:=H.small;have h3:=H.three;have hn:=H.jin.n;go_in;go_wp2_with(first
   |(go_at_call 192;refine(Dm g ge ce gf cf ga ca es fr ats _ c H.jin H.full H.frl H.half H.three ah ai).mono ?_;rintro e w1 ⟨w2,t,f⟩;have f:=f.resolve_right λh=>h.1 hm;obtain⟨_,rfl,rfl⟩:=f;have s:=aD (H.clash t (c':=c||J.yes (J.cS es (J.cse es fr ats))));have HX:=aD (JX.set (P:=λk=>k=g) (JX.of t) (xF Z) 8 (Y (c||J.yes (J.cS es (J.cse es fr ats)))));clear t;generalize w2.setCell ⟨g,8,I⟩ (Y (c||J.yes (J.cS es (J.cse es fr ats))))=W at*;have c3:=s.blk.cell (i:=3) (v:=VV br (V regs) cr) Z;have aX:=s.blk.lt;have aN:aC (∀i (hi:i<V regs),W.cell? ⟨br,i,I⟩=z (U G regs[i])):=by obtain⟨b,ba,e1,h1,_⟩:=s.rg;cases e1;exact h1)
   |(at_builtin;refine δ _ Z (.const (A I 0 0)) (.tmp 20) 37 Z W.heap.size 3 i0 (U G 0) 1 8 underlying37 hi ad ae af Z (by decide) _ _ _ Z (World.ownsRow_nil _ _ _ _) ⟨br,0,I⟩ (V regs) cr (WU regs) Z (by simp[WU]) (KK aN) (DT regs) aE (by unfold maxLen;omega) (by omega) (x5 _) _ Z ?_;intro g5 c5 w5 ab p ar ax;have aG:aC (ρ W.heap.size W w5):=rV (Below.refl _ _) p (λk e=>by cases e);have an:aC (w5.ownsRow W.heap.size 3 1 (A (z ⟨g5,0,I⟩) (V regs) c5) (V regs) (WU (regs++J.mL es ats 0))):=(by simp_all [aC,J.mL]);clear ab p ar ax))
  generalize aq:(c||J.yes (J.cS es (J.cse es fr ats)))=c2 at*;go_loopw[3,4] (λu3 u4 wr=>∃(v m:ι) (oa:Option Addr) (oc:ι),v<=3/\u4=U G v/\u3=A oa m oc/\aC (m=V regs+v)/\aC (wr.ownsRow W.heap.size 3 1 (A oa m oc) m (WU (regs++J.mL es ats v)))/\aC (ρ W.heap.size W wr)) λ_ u4 _=>3-(ξ u4).toNat
  case atStart=>exact⟨0,V regs,z ⟨g5,0,I⟩,c5,by omega,Z,by simp,Z,an,aG⟩
  case round =>
   obtain⟨v,m,oa,oc,hv,rfl,rfl,HM,T,HB⟩:=hrel;have d:=aD (s.X HB);by_cases hvt:v<3
   ·have aV:(v:ν)<3:=by omega
    go_wp2;go_loopw[5,6] (λu5 u6 wx=>∃i:ι,3<=i/\i<=V es/\u6=U G i/\u5=U G (J.lastTo es ats v i:ι)/\aC (ρ W.heap.size W wx)/\aC (ρ wr.heap.size wr wx)) λ_ u6 _=>V es-(ξ u6).toNat
    case atStart=>exact⟨3,x5 _,h3,Z,by simp_all [J.gL],HB,Below.refl _ _⟩
    case round =>
     obtain⟨i,bb,bc,rfl,rfl,B,ag⟩:=hrel;have K:=(s.X B).jin;have he:=K.e;have aP:=K.a;have bf:=K.lg;have be:=K.le;have aW:=K.la;have C:J.lastTo es ats v i<V es:=by have:=J.mH es ats v hvt i;omega
     by_cases hit:i<V es
     ·have aR:=lI hit;have aw:((J.lastTo es ats v i:ι):ν)<(V es:ν):=by omega
      obtain⟨_,_,ik,il,_,_,_,_,_⟩:=K.ev i hit;have a1:=K.at_ i hit;have a2:=K.at_ _ C;clear K;have HL:aC (J.lastTo es ats v (i+1)=if (J.ev es i).kind.toList==J.kW&&(J.ev es i).loc==(v:ν)&&decide (ats.getD (J.lastTo es ats v i) 0<ats.getD i 0)then i else J.lastTo es ats v i):=by
       simp_all [aC,J.lastTo,J.XI]
      generalize J.lastTo es ats v i=la at*;generalize ats.getD la 0=x1 at*;generalize ats.getD i 0=x2 at*;generalize J.ev es i=ee at*
      rcases zPp (ee.kind.toList==J.kW) (ee.loc==(v:ν)) (x1<x2)with p1|⟨p1,p2⟩|⟨p1,p2,p3⟩|⟨p1,p2,p3⟩
      all_goals
       simp only[J.kW]at p1 HL;go_wp2;go_quiet (fail);go_wp2;go_roundw;exact⟨i+1,by omega,by omega,by go_num,by rw[HL.o];simp[*];try(split<;>omega),bT B (eD _ _ _),bT ag (eD _ _ _)⟩;simp[ξ];omega
     ·have aR:=lN hit;have aQ:i=V es:=by omega
      subst aQ;have aw:((J.lastTo es ats v (V es):ι):ν)<(V es:ν):=by omega
      have bd:=(K.ev _ C).v;clear K aP aW;have aa:=aD (qO T ag);have HO:=aD (J.rA es ats v);generalize(J.ev es (J.lastTo es ats v (V es))).val=x at*;go_wp2_with(first
       |(at_builtin;refine δ _ Z (.tmp 75) (.tmp 84) 37 Z W.heap.size 3 i0 (U G 0) 1 8 underlying37 hi ad ae af Z (by decide) _ _ _ Z (aa.alloc _) ⟨wr.heap.size,0,I⟩ 1 1 [U G x] Z Z ?q1 ?q2 (by decide) ?q3 ?q4 ?q5 _ Z ?_))
      try(case q1=>exact λj u hu=>by cases j with|zero=>(simp at hu;subst hu;(try rw[tK]);exact(Blk.new wr [U G x] 3).cell Z)|succ j=>simp at hu)
      try(case q2=>simp[Value.oneCell'])
      case q3=>have:=HM.o;unfold maxLen;omega
      case q4=>have:=HM.o;omega
      case q5=>exact Nat.le_trans B.size (by simp)
      intro g6 c6 w6 ac q au ay;have aH:aC (ρ W.heap.size W w6):=rV (B.alloc B.size _) q (DK aa);have ao:aC (w6.ownsRow W.heap.size 3 1 (VV g6 (m+1) c6) (m+1) (WU (regs++J.mL es ats (v+1)))):=by
       simp_all [aC,WU]
      clear ac q au ay;go_wp2;go_roundw;exact⟨v+1,m+1,z ⟨g6,0,I⟩,c6,by omega,by go_num,Z,by unfold aC;have:=HM.o;omega,ao,aH⟩;simp[ξ];omega
   ·have aV:¬(v:ν)<3:=by omega
    have aU:v=3:=by omega
    subst aU;have e3:regs++J.mL es ats 3=J.jB es ats regs:=by simp[J.mL,J.jB,xW,List.range.loop]
    rw[e3]at T;have S:(J.jB es ats regs).length=L:=by grind [J.jB]
    have aA:J.Ok L (J.jB es ats regs):=by
     refine⟨S,λx hx=>?_⟩;have hv:=H.vals;unfold J.jB at hx
     rcases List.mem_append.1 hx with k|k
     ·exact H.rng x k
     ·simp only[List.mem_cons,List.mem_nil_iff,or_false]at k;have:=λu hu=>J.mH es ats u hu (V es)
      rcases k with rfl|rfl|rfl
      ·grind
      ·grind
      grind
    have aL:=aD aA;have az:m=(J.jB es ats regs).length:=by rw[S,HM.o,<- av]
    rw[az]at T⊢;have ap:=aD (Jx T (by omega) λx hx=>s.low x hx);clear aA e3;generalize aB:J.jB es ats regs=o at*;have am:=aD aB;clear aB;have aS:V o<1000:=by omega
    have ak:=aD λx hx=>d.low x hx;have aK:aC (∀r∈rs,V r=V o):=λr hr=>by rw[(d.ok r hr).1,S]
    have aj:=aD (zOy d.rise d.ok aF);have aZ:=aD S;have aJ:=aD aq;have al:=aD hm;clear az S av aF aE h3 hn aq hm lg c0 aX c3 ad ae af hi;go_wp2_with(first
     |(go_at_call 194;refine(zMG g pv (VV ge (V es) ce) (VV br (V regs) cr) bv (VV gf (V es) cf) (VV ga (V es) ca) ov c2 rs (A oa (V o) oc) o D _ d.blk ak d.dg d.y ap d.rise aK aj aS).mono ?_;rintro e w7 ⟨rfl,aY,(aI:aC _),(aM:aC _),(aO:aC _)⟩))
    go_end0;refine⟨Z,aY,eI rs o,c2,aI,aM,(HX.X HB).trans aO λ_ _ e=>e,NI d.rise,λr hr=>?_,λr=>?_,?_⟩
    ·rcases Gj.1 hr with k|k
     ·rw[k];exact aL
     ·exact d.ok r k
    ·rw[Gj];exact⟨λk=>k.elim (λe=>xR ⟨al,e.trans am.symm⟩) xF,λk=>k.elim xR λe=>xF (e.2.trans am)⟩
    ·rw[<- aJ.o,Bool.or_eq_true,J.cG];exact⟨λk=>k.imp id λe=>⟨al,e⟩,λk=>k.imp id λe=>e.2⟩
 ·go_in;go_wp2_with(first
   |(go_at_call 192;refine(Dm g ge ce gf cf ga ca es fr ats _ c H.jin H.full H.frl H.half H.three ah ai).mono ?_;rintro e w1 ⟨w2,t,f⟩;have f:=f.resolve_left λh=>hm h.1;obtain⟨_,rfl,rfl⟩:=f;have B2:=aD t;clear t))
  refine η (π Z _ _ _) Z ?_;refine⟨Z,ov,rs,c,H.blk.X B2,H.y.x (JX.of (P:=λ_=>False) B2) λ_ _ e=>e.elim,JX.of B2,H.rise,H.ok,λr=>?_,?_⟩
  ·grind
  grind
def ZZ(n:u)(p:u->m):t d:=(xW n).map λi=>Y (p i)
def tA(h:i<V l):(WU l)[i]?=z (U G (l.getD i 0)):=by simp[WU,h]
section
variable {w w':φ}{D S:ι->Prop}{g ge ce gf cf ga ca gd:ι}{es:σ J.E}{fr ats ats' regs:σ ν}{pv rv bv ov ov':ω}{L:ι}{rs rs':σ (σ ν)}{c c':ψ}{seq:σ ι}
def JJ.move(h:JJ w D g ge ce gf cf ga ca es fr ats regs pv rv bv ov L rs c)(a:JX S w w')(o:∀k,S k->D k)(C:ZH w D rv regs)(B:¬S g)(q:¬S ge)(u:¬S gf)(p:Blk w' ga (WU ats') 3)(E:V ats'=V es):JJ w' D g ge ce gf cf ga ca es fr ats' regs pv rv bv ov L rs c:=by
 have d:=h.blk.x a B;refine⟨d,⟨d.cell Z,d.cell Z,d.cell Z,λi f=>?_,λi f=>?_,λi f=>p.cell (tA (by omega)),d.lt,x3 h.jin.le a.size,x3 h.jin.lf a.size,p.lt,h.jin.n⟩,?_,h.y.x a λx _ k=>o x k,h.rise,h.ok,h.len,h.small,h.pos,h.rng,h.vals,h.full,h.frl,h.half,h.three,λx m=>x3 (h.low x m) a.size,h.dg⟩
 ·have e:∀j,w'.cell? ⟨ge,j,I⟩=w.cell? ⟨ge,j,I⟩:=λj=>iF (a.block ge h.jin.le q)
  have k:=h.jin.ev i f;exact⟨(e _).trans k.t,(e _).trans k.b,(e _).trans k.k,(e _).trans k.l,(e _).trans k.v,(e _).trans k.r,(e _).trans k.s,(e _).trans k.h,(e _).trans k.n⟩
 ·exact(iF (a.block gf h.jin.lf u)).trans (h.jin.fr i f)
 ·exact(C.x a λx _ k=>o x k).of λ_ _ e=>e.elim
end
structure JO(w:φ)(D:ι->Prop)(g ge ce gf cf ga ca gd:ι)(es:σ J.E)(fr regs:σ ν)(pv rv bv ov:ω)(L:ι)(rs:σ (σ ν))(c:ψ)(seq:σ ι)(ats:σ ν):Prop where
 jj:JJ w D g ge ce gf cf ga ca es fr ats regs pv rv bv ov L rs c
 ab:Blk w ga (WU ats) 3
 len:V ats=V es
 db:Blk w gd (ZZ (V es) λi=>decide (i∈seq)) 4
 rg:ZH w D rv regs
 ne:ga≠gf
 da:D ga
 dd:D gd
section
variable {w w':φ}{D:ι->Prop}{g ge ce gf cf ga ca gd:ι}{es:σ J.E}{fr ats regs:σ ν}{pv rv bv ov ov':ω}{L:ι}{rs rs':σ (σ ν)}{c c':ψ}{seq:σ ι}
theorem Blk.CO{l:σ ω}{t:TypeId}{u:ω}(h:Blk w g l t)(c:l[i]?=z u)(a:w.cell? ⟨b,i,I⟩=z v)(d:u≠v):b≠g:=λe=>by
 grind [Blk.cell]
theorem JO.gD(h:JO w D g ge ce gf cf ga ca gd es fr regs pv rv bv ov L rs c seq ats):g≠ga/\g≠gd/\ge≠ga/\ge≠gd/\gf≠gd/\ga≠gd:=by
 have f:=h.jj.three;have k:=h.jj.jin.ev 0 (by omega);have a:=k.k;have d:=k.t;have e:=h.jj.jin.fr 0 (by omega);simp only[x6,Nat.zero_add]at a d;have j:=h.len;refine⟨h.jj.blk.ne h.ab (by decide),h.jj.blk.ne h.db (by decide),h.ab.CO (i:=2) (tA (by omega)) a (by simp),h.db.CO (i:=0) (u:=Y (decide (0∈seq))) (by grind [ZZ]) d (by simp),h.db.CO (i:=0) (u:=Y (decide (0∈seq))) (by grind [ZZ]) e (by simp),h.ab.ne h.db (by decide)⟩
def JO.eW(h:JO w D g ge ce gf cf ga ca gd es fr regs pv rv bv ov L rs c seq ats)(a:JX (λk=>k=g) w w')(j:Blk w' g (jw O pv (VV ge (V es) ce) rv bv (VV gf (V es) cf) (VV ga (V es) ca) ov' c') 109)(m:ZE w' D ov' rs')(f:YX rs')(d:∀r∈rs',J.Ok L r):JO w' D g ge ce gf cf ga ca gd es fr regs pv rv bv ov' L rs' c' seq ats:=by
 obtain⟨n,o,_⟩:=h.gD;exact⟨h.jj.eW a j m f d,h.ab.x a λe=>n e.symm,h.len,h.db.x a λe=>o e.symm,h.rg.x a λx _ e=>by rw[e];exact h.jj.dg,h.ne,h.da,h.dd⟩
def JO.X(h:JO w D g ge ce gf cf ga ca gd es fr regs pv rv bv ov L rs c seq ats)(a:ρ w.heap.size w w'):JO w' D g ge ce gf cf ga ca gd es fr regs pv rv bv ov L rs c seq ats :=
 h.eW (JX.of a) (h.jj.blk.X a) (h.jj.y.x (JX.of (P:=λ_=>False) a) λ_ _ e=>e.elim) h.jj.rise h.jj.ok
theorem Jy(n:u)(p:u->m)(i:u)(b:m):(ZZ n p).set i (Y b)=ZZ n λj=>if j=i then b else p j:=by
 grind [ZZ,UU,List.map_congr_left]
theorem JO.mark(v:ν)(h:JO w D g ge ce gf cf ga ca gd es fr regs pv rv bv ov L rs c seq ats)(i:ι):JO ((w.setCell ⟨gd,i,I⟩ (Y O)).setCell ⟨ga,i,I⟩ (U G v)) D g ge ce gf cf ga ca gd es fr regs pv rv bv ov L rs c (seq++[i]) (ats.set i v):=by
 obtain⟨m,n,o,p,q,j⟩:=h.gD;have f:JX (λk=>k=ga\/k=gd) w ((w.setCell ⟨gd,i,I⟩ (Y O)).setCell ⟨ga,i,I⟩ (U G v)):=JX.set (P:=λk=>k=ga\/k=gd) (JX.set (P:=λk=>k=ga\/k=gd) (JX.refl _ _) (xF (xR Z)) _ _) (xF (xF Z)) _ _;have a:∀k,k=ga\/k=gd->D k:=λk e=>by grind [JO.da,JO.dd]
 have d:Blk ((w.setCell ⟨gd,i,I⟩ (Y O)).setCell ⟨ga,i,I⟩ (U G v)) ga (WU (ats.set i v)) 3:=by
  have:=(h.ab.cC i (Y O) j).set i (U G v)
  grind [WU,List.map_set]
 refine⟨h.jj.move f a h.rg (by omega) (by omega) (by grind [JO.ne]) d (by simp[h.len]),d,by simp[h.len],?_,h.rg.x f λx _ k=>a x k,h.ne,h.da,h.dd⟩;have:=(h.db.set i (Y O)).cC (k:=ga) i (U G v) λe=>j e.symm
 grind [Jy]
theorem JO.rW(h:JO w D g ge ce gf cf ga ca gd es fr regs pv rv bv ov L rs c (seq++[i]) ats)(p:i∉seq):JO (w.setCell ⟨gd,i,I⟩ (Y N)) D g ge ce gf cf ga ca gd es fr regs pv rv bv ov L rs c seq ats:=by
 obtain⟨q,j,r,m,n,o⟩:=h.gD;have f:JX (λk=>k=gd) w (w.setCell ⟨gd,i,I⟩ (Y N)):=JX.set (P:=λk=>k=gd) (JX.refl _ _) (xF Z) _ _;have a:∀k,k=gd->D k:=λk e=>by rw[e];exact h.dd
 have d:=h.ab.cC (k:=gd) i (Y N) o;refine⟨h.jj.move f a h.rg j m n d h.len,d,h.len,?_,h.rg.x f λx _ k=>a x k,h.ne,h.da,h.dd⟩;have:=h.db.set i (Y N)
 grind [Jy]
end
def FOP(w w':φ)(D:u->Prop)(g ge ce gf cf ga ca gd:u)(es:t J.E)(fr regs:t s)(pv rv bv:d)(L:u)(rs:t (t s))(c:m)(seq fs:t u)(P:t s->Prop)(C:Prop):Prop :=
 ∃ov' rs' c' ats',JO w' D g ge ce gf cf ga ca gd es fr regs pv rv bv ov' L rs' c' fs ats'/\(J.AtOk es seq ats'/\J.AtF es fs ats')/\JX (λk=>k=g\/k=ga\/k=gd) w w'/\J.Grew L rs rs' c c' P C
def Jz(g ge ce gf cf ga ca gd:u)(es:t J.E)(fr regs:t s)(pv rv bv:d)(L:u)(D:u->Prop)(seq fs:t u):Prop :=
 ∀(w:φ) (ov:d) (rs:t (t s)) (c:m) (ats:t s),JO w D g ge ce gf cf ga ca gd es fr regs pv rv bv ov L rs c fs ats->J.AtOk es seq ats/\J.AtF es fs ats ->
  Calls ζ 145 #[.pointer (z ⟨g,0,I⟩),U G (V fs:s),VV gd (V es) (V es)] w λe w'=>e=F (.tuple #[])/\FOP w w' D g ge ce gf cf ga ca gd es fr regs pv rv bv L rs c seq fs (J.vX es fr regs seq fs) (J.vI es fr seq fs)
def zHY{gd:ι}{regs:σ ν}{L:ι}{seq:σ ι}(hd:J.lL es seq)(hs:∀j,j∈seq->J.wr es j):∀(m:ι) (fs:σ ι),J.lO es fs=m->V fs+m<=V es->Jz g ge ce gf cf ga ca gd es fr regs pv rv bv L D seq fs:=by
 intro m
 induction m with
 |zero=>?_
 |succ m ih=>?_
 all_goals
  intro fs hm hl w ov rs c ats h ap;have aw:aC (∀i,J.dU es fs i->Jz g ge ce gf cf ga ca gd es fr regs pv rv bv L D seq (fs++[i])):=λi y=>by
   have hu:=J.gJ y.1 y.2
   first
    |(exfalso;omega)
    |exact ih _ (by omega) (by simp;omega)
  try clear ih
  have HL:aC (V fs<1000):=by unfold aC;have:=h.jj.jin.n;omega
  have aO:(V fs:ν)<1000:=by have:=HL.o;omega
  have H:=aD h;have aA:=aD ap;have HD:=aD hd;have HS:=aD hs;have hn:=h.jj.jin.n;clear h ap hd hs hm hl;go_in;go_wp2;go_loopw[6,7] (λl q wr=>∃(i:ι) (lb:ψ) (aa:ω) (K:σ (σ ν)) (C:ψ) (r:σ ν),i<=V es/\q=U G i/\l=Y lb/\aC (lb=O↔∃x,x<i/\J.dU es fs x)/\aC (JO wr D g ge ce gf cf ga ca gd es fr regs pv rv bv aa L K C fs r)/\aC (J.AtOk es seq r/\J.AtF es fs r)/\aC (JX (λk=>k=g\/k=ga\/k=gd) w wr)/\aC (J.Grew L rs K c C (λo=>∃x,x<i/\J.dU es fs x/\J.vX es fr regs seq (fs++[x]) o) (∃x,x<i/\J.dU es fs x/\J.vI es fr seq (fs++[x])))) λ_ q _=>V es-(ξ q).toNat
  case atStart =>
   refine⟨0,N,ov,rs,c,ats,Nat.zero_le _,Z,Z,⟨λe=>(by cases e),λ⟨x,B,_⟩=>τ B (x7 _)⟩,H,aA,JX.refl _ _,(J.Grew.refl H.jj.rise H.jj.ok).to (λo=>?_) ?_⟩
   ·exact⟨False.elim,λ⟨x,B,_⟩=>τ B (x7 _)⟩
   ·exact⟨False.elim,λ⟨x,B,_⟩=>τ B (x7 _)⟩
  case round =>
   obtain⟨i,lb,aa,K,C,r,aN,rfl,rfl,ak,a,s,HX,ad⟩:=hrel;have c0:=a.jj.blk.cell (i:=0) (v:=Y O) Z;have c2:=a.jj.blk.cell (i:=2) (v:=VV ge (V es) ce) Z;have lg:=a.jj.blk.lt;by_cases hit:i<V es
   ·have aG:=lI hit;have le:=a.jj.jin.le;obtain⟨_,_,ik,_,_,ir,_,_,_⟩:=a.jj.jin.ev i hit;have dc:=a.db.cell (i:=i) (v:=Y (decide (i∈fs))) (by unfold ZZ;rw[AA _ hit]);have ld:=a.db.lt;have fd:=a.db.free i;have W:aC (∀{P:ι->Prop},¬J.dU es fs i->((∃x,x<i/\J.dU es fs x/\P x)↔∃x,x<i+1/\J.dU es fs x/\P x)):=λ{P} y=>by
     refine⟨λ⟨x,h1,S⟩=>⟨x,by omega,S⟩,λ⟨x,h1,S,h3⟩=>⟨x,?_,S,h3⟩⟩;by_cases e:x=i
     ·subst e;exact τ S y
     ·omega
    have af:aC (J.dU es fs i↔((J.ev es i).kind.toList==J.kF)=O/\((J.ev es i).ord.toList==J.mI)=O/\decide (i∈fs)=N):=
     ⟨λp=>⟨p.1.2.1,p.1.2.2,by simpa using p.2⟩,λ⟨h1,S,h3⟩=>⟨⟨hit,h1,S⟩,by simpa using h3⟩⟩
    rcases QU ((J.ev es i).kind.toList==J.kF) ((J.ev es i).ord.toList==J.mI) (decide (i∈fs))with p1|⟨p1,p2⟩|⟨p1,p2,p3⟩|⟨p1,p2,p3⟩
    case inr.inr.inr =>
     have HP:=aD (af.2 ⟨p1,p2,p3⟩);rw[p3]at dc;obtain⟨n1,n2,n3,n4,n5,n6⟩:=a.gD;have ac:=(a.ab.cC (k:=gd) i (Y O) n6).cell (i:=i) (tA (by rw[a.len];exact hit));have la:=a.ab.lt;have aL:=(a.jj.blk.cC (k:=gd) i (Y O) n2).cell (i:=6) (v:=VV ga (V es) ca) Z;have aM:=(a.ab.cC (k:=gd) i (Y O) n6).free i;have HM:=aD (a.mark (V fs:ν) i);have aE:aC (JX (λk=>k=g\/k=ga\/k=gd) w ((wr.setCell ⟨gd,i,I⟩ (Y O)).setCell ⟨ga,i,I⟩ (U G (V fs:ν)))):=JX.set (P:=λk=>k=g\/k=ga\/k=gd) (JX.set (P:=λk=>k=g\/k=ga\/k=gd) HX (xF (xR (xR Z))) _ _) (xF (xR (xF Z))) _ _;have u:=aw.o i HP _ _ _ _ _ HM ⟨s.1.TM HS HP.1 _,s.2.bD s.1.len HP.1 HP.2⟩;rw[show((fs++[i]).length:ν)=(V fs:ν)+1 by simp]at u;have aj:=aD u;clear u W af n1 n2 n3 n4 n5 n6;simp only[J.kF]at p1;simp only[J.mI]at p2;go_wp2_with(first
      |(go_at_call 145;refine aj.mono ?_;rintro e w5 ⟨rfl,aI,aK,aF,ao,t,ai,aq,ah⟩;have ax:=aD t;have an:=aD ai;have aB:=aD aq;have au:=aD ah;have d5:=t.db.cell (i:=i) (v:=Y (decide (i∈fs++[i]))) (by unfold ZZ;rw[AA _ hit]);have l5:=t.db.lt;have f5:=t.db.free i;clear t ai aq ah))
     go_roundw
     ·have ar:∀{P:ι->Prop},(∃x,x<i/\J.dU es fs x/\P x)\/P i↔∃x,x<i+1/\J.dU es fs x/\P x:=λ{P}=>by
       constructor
       ·rintro(⟨x,h1,S⟩|h1)
        ·exact⟨x,by omega,S⟩
        ·exact⟨i,by omega,HP,h1⟩
       ·rintro⟨x,h1,S,h3⟩;by_cases e:x=i
        ·subst e;exact xR h3
        ·exact xF ⟨x,by omega,S,h3⟩
      exact⟨i+1,O,aI,aK,aF,ao,by omega,by go_num,Z,⟨λ_=>⟨i,by omega,HP⟩,λ_=>Z⟩,ax.rW HP.2,⟨an.1,an.2.drop⟩,JX.set (P:=λk=>k=g\/k=ga\/k=gd) (aE.trans aB λ_ _ e=>e) (xF (xR (xR Z))) _ _,(ad.trans au).to (λo=>ar) ar⟩
     simp[ξ];omega
    all_goals
     have ag:¬J.dU es fs i:=λk=>by have:=af.1 k;simp[p1, *]at this
     have az:=aD (ad.to (λo=>W ag) (W ag));have ay:aC (lb=O↔∃x,x<i+1/\J.dU es fs x):=ak.trans (by simpa using W.o (P:=λ_=>True) ag);clear W af ag
     try(rw[p3]at dc)
     simp only[J.kF]at p1
     try simp only[J.mI]at p2
     go_wp2_with fail;go_roundw;exact⟨i+1,lb,aa,K,C,r,by omega,by go_num,Z,ay,a,s,HX,az⟩;simp[ξ];omega
   ·have aG:¬(i:ν)<V es:=by omega
    cases lb
    ·have al:aC (∀x,¬J.dU es fs x):=λx B=>by
      have:=ak.2 ⟨x,by have:=B.1.1;omega,B⟩;cases this
     have T:aC (J.iP es fs):=λx B=>by
      by_cases d:x∈fs
      ·exact d
      ·exact τ ⟨B,d⟩ (al x)
     have HE:=aD (s.1.full HD s.2 T);go_wp2_with(first
      |(go_at_call 166;refine(zHX g ge ce gf cf ga ca es fr r regs pv rv bv aa L K C D _ a.jj).mono ?_;rintro e w7 ⟨rfl,(av:aC _)⟩))
     go_end0;obtain⟨aH,aJ,c',h1,S,h3,h4⟩:=av.o;refine⟨Z,aH,aJ,c',r,a.eW h3 h1 S h4.rise h4.ok,s,HX.trans h3 λ_ _ e=>xF e,(ad.trans h4).to (λo=>?_) ?_⟩
     ·unfold J.vX J.yE;rw[HE.o];exact⟨λk=>k.elim (λ⟨x,_,B,_⟩=>τ B (al x)) λk=>⟨fs,(J.dP T).2 Z,k⟩,λ⟨f,X,E⟩=>xR (by rw[(J.dP T.o).1 X]at E;exact E)⟩
     ·unfold J.vI J.yI;rw[HE.o];exact⟨λk=>k.elim (λ⟨x,_,B,_⟩=>τ B (al x)) λk=>⟨fs,(J.dP T).2 Z,k⟩,λ⟨f,X,E⟩=>xR (by rw[(J.dP T.o).1 X]at E;exact E)⟩
    ·obtain⟨x0,_,am⟩:=ak.1 Z;have ae:aC (¬J.iP es fs):=λd=>am.2 (d x0 am.1)
     clear am;go_wp2_with fail;go_end0;refine⟨Z,aa,K,C,r,a,s,HX,ad.to (λo=>?_) ?_⟩
     ·exact⟨λ⟨x,_,y,f,X,E⟩=>⟨f,(J.eC ae).2 ⟨x,y,X⟩,E⟩,λ⟨f,X,E⟩=>by obtain⟨x,y,k3⟩:=(J.eC ae).1 X;exact⟨x,by have:=y.1.1;omega,y,f,k3,E⟩⟩
     ·exact⟨λ⟨x,_,y,f,X,E⟩=>⟨f,(J.eC ae).2 ⟨x,y,X⟩,E⟩,λ⟨f,X,E⟩=>by obtain⟨x,y,k3⟩:=(J.eC ae).1 X;exact⟨x,by have:=y.1.1;omega,y,f,k3,E⟩⟩
def oF(d:Func):t Code:=eA (d.body.getD .skip)
def PT(w w':φ)(D:u->Prop)(g ge ce gf cf ga ca gd:u)(es:t J.E)(fr regs:t s)(pv rv bv:d)(L:u)(rs:t (t s))(c:m)(seq:t u)(P:t s->Prop)(C:Prop):Prop :=
 ∃ov' rs' c' ats',JO w' D g ge ce gf cf ga ca gd es fr regs pv rv bv ov' L rs' c' seq ats'/\J.AtOk es seq ats'/\JX (λk=>k=g\/k=ga\/k=gd) w w'/\J.Grew L rs rs' c c' P C
def UE(g ge ce gf cf ga ca gd:u)(es:t J.E)(fr regs:t s)(pv rv bv:d)(L:u)(D:u->Prop)(seq:t u):Prop :=
 ∀(w:φ) (ov:d) (rs:t (t s)) (c:m) (ats:t s),JO w D g ge ce gf cf ga ca gd es fr regs pv rv bv ov L rs c seq ats->J.AtOk es seq ats->(∀j,j∈seq->J.wr es j) ->
  Calls ζ 119 #[.pointer (z ⟨g,0,I⟩),U G (V seq:s),VV gd (V es) (V es)] w λe w'=>e=F (.tuple #[])/\PT w w' D g ge ce gf cf ga ca gd es fr regs pv rv bv L rs c seq (J.OrdP es fr regs seq) (J.oJ es fr seq)
structure OFr(a:Act)(g gd n k:ι)(nx:ν):Prop where
 sz:a.tmps.size=114
 df:a.defers=[]
 s0:gA a 0=.pointer (z ⟨g,0,I⟩)
 s1:gA a 1=U G (k:ν)
 s2:gA a 2=VV gd n n
 s6:gA a 6=U G nx
theorem JO.TM{gd:ι}{regs:σ ν}{L:ι}{c:ψ}{seq:σ ι}(h:JO w D g ge ce gf cf ga ca gd es fr regs pv rv bv ov L rs c seq ats):JO (w.alloc (M ((xW (V es)).map λ_=>x4 N).toArray 4)) (λk=>D k\/k=w.heap.size) g ge ce gf cf ga ca w.heap.size es fr regs pv rv bv ov L rs c [] ats:=by
 have d:ρ w.heap.size w (w.alloc (M ((xW (V es)).map λ_=>x4 N).toArray 4)):=bB;have k:=h.X d;have lt:∀x,x<w.heap.size->D x\/x=w.heap.size->D x:=λx j e=>e.elim id λe=>by omega
 have f:ZE (w.alloc (M ((xW (V es)).map λ_=>x4 N).toArray 4)) (λk=>D k\/k=w.heap.size) ov rs:=(h.jj.y.of lt).x (JX.of (P:=λ_=>False) d) λ_ _ e=>e.elim;have a:ZH (w.alloc (M ((xW (V es)).map λ_=>x4 N).toArray 4)) (λk=>D k\/k=w.heap.size) rv regs:=(h.rg.of lt).x (JX.of (P:=λ_=>False) d) λ_ _ e=>e.elim;refine⟨⟨k.jj.blk,k.jj.jin,a.of λ_ _ e=>e.elim,f,h.jj.rise,h.jj.ok,h.jj.len,h.jj.small,h.jj.pos,h.jj.rng,h.jj.vals,h.jj.full,h.jj.frl,h.jj.half,h.jj.three,λx e=>?_,xF h.jj.dg⟩,k.ab,h.len,?_,a,h.ne,xF h.da,xR Z⟩
 ·rcases e with e|e
  ·exact k.jj.low x e
  ·rw[e];simp
 grind [Blk.new,ZZ]
def JO.back{j:ι->Prop}{gd p:ι}{a regs:σ ν}{e:ω}{L:ι}{f:σ (σ ν)}{c m:ψ}{seq fs:σ ι}(h:JO w D g ge ce gf cf ga ca gd es fr regs pv rv bv ov L rs c seq ats)(k:JO w' j g ge ce gf cf ga ca p es fr regs pv rv bv e L f m fs a)(n:∀x,D x->j x)(o:JX (λk=>k=g\/k=ga\/k=w.heap.size) w w'):JO w' D g ge ce gf cf ga ca gd es fr regs pv rv bv e L f m seq a:=by
 obtain⟨_,q,_,_,_,r⟩:=h.gD;exact⟨⟨k.jj.blk,k.jj.jin,k.jj.rg,k.jj.y.of λx _ d=>n x d,k.jj.rise,k.jj.ok,k.jj.len,k.jj.small,k.jj.pos,k.jj.rng,k.jj.vals,k.jj.full,k.jj.frl,k.jj.half,k.jj.three,λx d=>x3 (h.jj.low x d) o.size,h.jj.dg⟩,k.ab,k.len,h.db.x o (by have:=h.db.lt;omega),k.rg.of λx _ d=>n x d,h.ne,h.da,h.dd⟩
section
variable {g ge ce gf cf ga ca gd:ι}{es:σ J.E}{fr regs:σ ν}{pv rv bv ov:ω}{L:ι}{rs:σ (σ ν)}{c:ψ}{D:ι->Prop}{seq:σ ι}{ats:σ ν}{w:φ}{a:Act}
def zPT(h:JO w D g ge ce gf cf ga ca gd es fr regs pv rv bv ov L rs c seq ats)(r:J.AtOk es seq ats)(hs:∀j,j∈seq->J.wr es j)(X:J.lL es seq)(hf:OFr a g gd (V es) (V seq) (-1)):
  bC ζ ((oF f119).drop 3) (bodyPost ζ f119 λe w'=>e=F (.tuple #[])/\PT w w' D g ge ce gf cf ga ca gd es fr regs pv rv bv L rs c seq (J.OrdP es fr regs seq) (J.oJ es fr seq)) a w:=by
 obtain⟨sz,W,s0,s1,s2,s6⟩:=hf;have H:=aD h;have m:=aD X;have y:=aD r;have HS:=aD hs;have c2:=h.jj.blk.cell (i:=2) (v:=VV ge (V es) ce) Z;have lg:=h.jj.blk.lt;have hn:=h.jj.jin.n;have aa:∀w,(x8 189 (U G (V es:ν)) (U G (V es:ν))).run ζ w=.ok (VV w.heap.size (V es) (V es)) (w.alloc (M ((xW (V es)).map λ_=>x4 N).toArray 4)):=λw=>by
  rw[<- GU];exact run_make_row' 189 4 (Y N) 1 underlying189 Tryz.infoB Z G G (V es) (by omega) (by omega) w
 clear h X r hs;rw[eH sz W];simp only[xW,List.range.loop,List.map_cons,List.map_nil,s0,s1,s2,s6];generalize gA a=f;clear s0 s1 s2 s6 sz W;refine aH Z λB p=>?_;go_wp2;apply p.o;refine aH Z λB _=>?_;go_wp2_with(first|(go_at_call 145;refine(zHY m HS _ [] Z (by simpa[J.lO]using List.length_filter_le _ (xW (V es))) _ ov rs c ats H.TM ⟨y,⟨λi C=>by simp at C,λi C=>by simp at C⟩⟩).mono ?_;rintro e w7 ⟨rfl,(u:aC _)⟩));refine η (π Z _ _ _) Z ?_;refine⟨Z,?_⟩;obtain⟨S,T,c',q,h1,h2,h3,h4⟩:=u.o;have hb:ρ w.heap.size w (w.alloc (M ((xW (V es)).map λ_=>x4 N).toArray 4)):=bB;have E:JX (λk=>k=g\/k=ga\/k=w.heap.size) w w7:=(JX.of hb).trans h3 λ_ _ e=>e;refine⟨S,T,c',q,H.back h1 (λ_ d=>xF d) E,h2.1,E.mono λx E e=>by omega,h4.to (λo=>?_) ?_⟩
 ·exact⟨λk=>⟨seq,(J.eE m).2 Z,k⟩,λ⟨s,K,t⟩=>by rw[(J.eE m.o).1 K]at t;exact t⟩
 ·exact⟨λk=>⟨seq,(J.eE m).2 Z,k⟩,λ⟨s,K,t⟩=>by rw[(J.eE m.o).1 K]at t;exact t⟩
theorem lY(IH:∀i,J.Pick es seq i->UE g ge ce gf cf ga ca gd es fr regs pv rv bv L D (seq++[i]))(h:JO w D g ge ce gf cf ga ca gd es fr regs pv rv bv ov L rs c seq ats)(am:J.AtOk es seq ats)(hs:∀j,j∈seq->J.wr es j)(hk:V seq<1000){j:ι}(hj:J.Nxt es seq j)(hf:OFr a g gd (V es) (V seq) (j:ν)):
  bC ζ ((oF f119).drop 3) (bodyPost ζ f119 λe w'=>e=F (.tuple #[])/\PT w w' D g ge ce gf cf ga ca gd es fr regs pv rv bv L rs c seq (J.OrdP es fr regs seq) (J.oJ es fr seq)) a w:=by
 obtain⟨sz,df,s0,s1,s2,s6⟩:=hf;have H:=aD h;have ap:=aD IH;have av:=aD am;have HS:=aD hs;have HJ:=aD hj;have c2:=h.jj.blk.cell (i:=2) (v:=VV ge (V es) ce) Z;have lg:=h.jj.blk.lt;have hn:=h.jj.jin.n;have h3:=h.jj.three;have aB:=hj.w.2.1;have aG:(j:ν)<V es:=by omega
 have lj:=(h.jj.jin.ev j aB).l;have le:=h.jj.jin.le;have W:aC (¬J.lL es seq):=λd=>hj.new (d j hj.w)
 clear h IH hj am hs;rw[eH sz df];simp only[xW,List.range.loop,List.map_cons,List.map_nil,s0,s1,s2,s6];generalize gA a=f;clear s0 s1 s2 s6 sz df;refine aH Z λaj r=>?_;go_wp2;apply r.o;refine aH Z λaj r=>?_;go_wp2;apply r.o;refine aH Z λaj r=>?_;go_wp2;apply r.o;refine aH Z λaj r=>?_;go_wp2;apply r.o;clear c2 lj le lg;refine aH Z λK HK=>?_;go_wp2_with fail;go_loopw[9] (λq wr=>∃(i:ι) (aa:ω) (S:σ (σ ν)) (C:ψ) (t:σ ν),3<=i/\i<=V es/\q=U G i/\aC (JO wr D g ge ce gf cf ga ca gd es fr regs pv rv bv aa L S C seq t)/\aC (J.AtOk es seq t)/\aC (JX (λk=>k=g\/k=ga\/k=gd) w wr)/\aC (J.Grew L rs S c C (λo=>∃x,x<i/\J.Pick es seq x/\J.OrdP es fr regs (seq++[x]) o) (∃x,x<i/\J.Pick es seq x/\J.oJ es fr (seq++[x])))) λq _=>V es-(ξ q).toNat
 case atStart =>
  refine⟨3,ov,rs,c,ats,x5 _,h3,Z,H,av,JX.refl _ _,(J.Grew.refl H.jj.rise H.jj.ok).to (λo=>?_) ?_⟩
  ·exact⟨False.elim,λ⟨x,hx,B,_⟩=>by have:=B.w.1;omega⟩
  ·exact⟨False.elim,λ⟨x,hx,B,_⟩=>by have:=B.w.1;omega⟩
 case round =>
  obtain⟨i,aa,S,C,t,az,aL,rfl,m,ai,HX,ag⟩:=hrel;have c2:=m.jj.blk.cell (i:=2) (v:=VV ge (V es) ce) Z;have lg:=m.jj.blk.lt;by_cases hit:i<V es
  ·have aA:=lI hit;have le:=m.jj.jin.le;obtain⟨_,_,ik,il,_,_,_,_,_⟩:=m.jj.jin.ev i hit;have dc:=m.db.cell (i:=i) (v:=Y (decide (i∈seq))) (by grind [ZZ]);have ld:=m.db.lt;have fd:=m.db.free i;have ah:aC (¬J.Pick es seq i->J.Grew L rs S c C (λo=>∃x,x<i+1/\J.Pick es seq x/\J.OrdP es fr regs (seq++[x]) o) (∃x,x<i+1/\J.Pick es seq x/\J.oJ es fr (seq++[x]))):=λB=>by
    refine ag.to (λo=>⟨λ⟨x,T,E⟩=>⟨x,by omega,E⟩,λ⟨x,T,E,h3⟩=>⟨x,?_,E,h3⟩⟩) ⟨λ⟨x,T,E⟩=>⟨x,by omega,E⟩,λ⟨x,T,E,h3⟩=>⟨x,?_,E,h3⟩⟩
    ·grind
    grind
   have X:aC (J.Pick es seq i↔((J.ev es i).kind.toList==J.kW)=O/\((J.ev es i).loc==(J.ev es j).loc)=O/\decide (i∈seq)=N):=by
    constructor
    ·intro p;obtain⟨j2,ak,hl⟩:=p.loc;have:j2=j:=by
      rcases Nat.lt_trichotomy j2 j with k|k|k
      ·exact τ (HJ.first j2 k ak.w) ak.new
      ·exact k
      ·exact τ (ak.first j k HJ.w) HJ.new
     rw[this]at hl;exact⟨p.w.2.2,by simp[hl],by simpa using p.new⟩
    ·rintro⟨T,E,h3⟩;exact⟨⟨az,hit,T⟩,by simpa using h3,j,HJ,by simpa using E⟩
   have aI:aC (J.ev es i=J.ev es i):=Z
   rcases QU ((J.ev es i).kind.toList==J.kW) ((J.ev es i).loc==(J.ev es j).loc) (decide (i∈seq))with p1|⟨p1,p2⟩|⟨p1,p2,p3⟩|⟨p1,p2,p3⟩
   case inr.inr.inr =>
    have HP:=aD (X.2 ⟨p1,p2,p3⟩);rw[p3]at dc;have c6:=m.jj.blk.cell (i:=6) (v:=VV ga (V es) ca) Z;obtain⟨n1,n2,n3,n4,n5,n6⟩:=m.gD;have ac:=(m.ab.cC (k:=gd) i (Y O) n6).cell (i:=i) (tA (by rw[m.len];exact hit));have la:=m.ab.lt;have fa:=m.ab.free i;have aJ:=(m.jj.blk.cC (k:=gd) i (Y O) n2).cell (i:=6) (v:=VV ga (V es) ca) Z;have aK:=(m.ab.cC (k:=gd) i (Y O) n6).free i;have HM:=aD (m.mark ((V seq:ν)+1) i);have ax:aC (JX (λk=>k=g\/k=ga\/k=gd) w ((wr.setCell ⟨gd,i,I⟩ (Y O)).setCell ⟨ga,i,I⟩ (U G ((V seq:ν)+1)))):=JX.set (P:=λk=>k=g\/k=ga\/k=gd) (JX.set (P:=λk=>k=g\/k=ga\/k=gd) HX (xF (xR (xR Z))) _ _) (xF (xR (xF Z))) _ _;have y:=ap.o i HP _ _ _ _ _ HM (ai.bD HP.w HP.new) (λj hj=>by rcases List.mem_append.1 hj with k|k;exact HS j k;rw[List.mem_singleton.1 k];exact HP.w);rw[show((seq++[i]).length:ν)=(V seq:ν)+1 by simp]at y;have af:=aD y;clear y ah X n1 n2 n3 n4 n5 n6 fa;simp only[J.kW]at p1;go_wp2_with(first
     |(go_at_call 119;refine af.mono ?_;rintro e w5 ⟨rfl,aE,aF,ay,al,u,ae,an,ad⟩;have aq:=aD u;have au:=aD ae;have aw:=aD an;have ao:=aD ad;have d5:=u.db.cell (i:=i) (v:=Y (decide (i∈seq++[i]))) (by unfold ZZ;rw[AA _ hit]);have l5:=u.db.lt;have f5:=u.db.free i;clear u ae an ad))
    go_roundw
    ·refine⟨i+1,aE,aF,ay,al,by omega,by omega,by go_num,aq.rW HP.new,au.drop,JX.set (P:=λk=>k=g\/k=ga\/k=gd) (ax.trans aw λ_ _ e=>e) (xF (xR (xR Z))) _ _,(ag.trans ao).to (λo=>?_) ?_⟩
     ·constructor
      ·rintro(⟨x,T,E⟩|T)
       ·exact⟨x,by omega,E⟩
       ·exact⟨i,by omega,HP,T⟩
      grind
     ·constructor
      ·rintro(⟨x,T,E⟩|T)
       ·exact⟨x,by omega,E⟩
       ·exact⟨i,by omega,HP,T⟩
      grind
    simp[ξ];omega
   all_goals
    have ar:=aD (ah.o λk=>by have:=X.1 k;simp[p1, *]at this);clear ah X
    try(rw[p3]at dc)
    simp only[J.kW]at p1;go_wp2_with fail;go_roundw;exact⟨i+1,aa,S,C,t,by omega,by omega,by go_num,m,ai,HX,ar⟩;simp[ξ];omega
  ·have aA:¬(i:ν)<V es:=by omega
   go_wp2_with fail;apply HK;show bodyPost _ _ _ _ _ _;go_end0;refine⟨Z,aa,S,C,t,m,ai,HX,ag.to (λo=>?_) ?_⟩
   ·unfold J.OrdP;constructor
    ·rintro⟨x,_,B,s,k1,k2⟩;exact⟨s,(J.fL W).2 ⟨x,B,k1⟩,k2⟩
    ·rintro⟨s,k1,k2⟩;obtain⟨x,B,k3⟩:=(J.fL W).1 k1;exact⟨x,by have:=B.w.2.1;omega,B,s,k3,k2⟩
   ·unfold J.oJ;constructor
    ·rintro⟨x,_,B,s,k1,k2⟩;exact⟨s,(J.fL W).2 ⟨x,B,k1⟩,k2⟩
    ·rintro⟨s,k1,k2⟩;obtain⟨x,B,k3⟩:=(J.fL W).1 k1;exact⟨x,by have:=B.w.2.1;omega,B,s,k3,k2⟩
end
theorem zPU(p q:m):p=N\/p=O/\q=N\/p=O/\q=O:=by grind
def zGh{gd:ι}{regs:σ ν}{L:ι}:∀(m:ι) (seq:σ ι),J.eO es seq=m->V seq+m<=V es->UE g ge ce gf cf ga ca gd es fr regs pv rv bv L D seq:=by
 intro m
 induction m with
 |zero=>?_
 |succ m ih=>?_
 all_goals
  intro seq hm hl w ov rs c ats h S hs;have u:aC (∀i,J.Pick es seq i->UE g ge ce gf cf ga ca gd es fr regs pv rv bv L D (seq++[i])):=λi hp=>by
   have hu:=J.fM hp.w hp.new
   first
    |(exfalso;omega)
    |exact ih _ (by omega) (by simp;omega)
  try clear ih
  have HL:aC (V seq<1000):=by unfold aC;have:=h.jj.jin.n;omega
  have H:=aD h;have j:=aD S;have s:=aD hs;have c2:=h.jj.blk.cell (i:=2) (v:=VV ge (V es) ce) Z;have lg:=h.jj.blk.lt;have hn:=h.jj.jin.n;have h3:=h.jj.three;have le:=h.jj.jin.le;have ld:=h.db.lt;clear h hm hl S hs;go_in;refine fU _ _ _ _ ?_;show bC ζ ((oF f119).drop 0) _ _ w;refine aH Z λaa a=>?_;go_wp2;apply a.o;refine aH Z λaa a=>?_;go_wp2;apply a.o;refine aH Z λK X=>?_;go_wp2_with fail;go_loopw[6,7] (λnx q wr=>∃(k:ι) (x:ν),3<=k/\k<=V es/\q=U G k/\nx=U G x/\wr=w/\aC ((x=-1/\∀i,i<k->J.wr es i->i∈seq)\/0<=x/\J.Nxt es seq x.toNat)) λ_ q _=>V es-(ξ q).toNat
  case atStart=>exact⟨3, -1,x5 _,h3,Z,Z,Z,xF ⟨Z,λi hi d=>τ d.1 (by omega)⟩⟩
  case round =>
   obtain⟨k,x,ab,ac,rfl,rfl,rfl,HX⟩:=hrel
   rcases HX.o with⟨rfl,f⟩|⟨ad,E⟩
   ·have W:=aD f;clear f HX;by_cases hkt:k<V es
    ·have p:=lI hkt;have ik:=(H.jj.jin.ev k hkt).k;have dc:=H.db.cell (i:=k) (v:=Y (decide (k∈seq))) (by unfold ZZ;rw[AA _ hkt]);have s:aC (((J.ev es k).kind.toList==J.kW)=N\/decide (k∈seq)=O->∀i,i<k+1->J.wr es i->i∈seq):=λt i hi d=>by
      by_cases e:i=k
      ·subst e
       rcases t with t|t
       ·rw[d.2.2]at t;cases t
       ·simpa using t
      ·exact W i (by omega) d
     rcases zPU ((J.ev es k).kind.toList==J.kW) (decide (k∈seq))with r|⟨r,T⟩|⟨r,T⟩
     ·have y:=aD (s.o (xF r));simp only[J.kW]at r;go_wp2_with fail;go_roundw;exact⟨k+1, -1,by omega,by omega,by go_num,Z,by trivial,xF ⟨Z,y⟩⟩;simp[ξ];omega
     ·have y:aC (J.Nxt es seq k):=⟨⟨ab,hkt,r⟩,by simpa using T,λi hi d=>W i hi d⟩;rw[T]at dc;simp only[J.kW]at r;go_wp2_with fail;go_roundw;exact⟨k+1,(k:ν),by omega,by omega,by go_num,Z,by trivial,xR ⟨by omega,by simpa using y.o⟩⟩;simp[ξ];omega
     ·have y:=aD (s.o (xR T));rw[T]at dc;simp only[J.kW]at r;go_wp2_with fail;go_roundw;exact⟨k+1, -1,by omega,by omega,by go_num,Z,by trivial,xF ⟨Z,y⟩⟩;simp[ξ];omega
    ·have p:=lN hkt;go_wp2_with fail;apply X;exact zPT H j s (λi d=>W i (by have:=d.2.1;omega) d) ⟨Z,Z,Z,Z,Z,Z⟩
   ·have B:=aD E;clear E HX;have ae:¬x<0:=by omega
    have C:aC (((x.toNat:ι):ν)=x):=by unfold aC;omega
    by_cases hkt:k<V es
    ·have p:=lI hkt;go_wp2_with fail;apply X;exact lY u H j s HL B ⟨Z,Z,Z,Z,Z,by rw[C.o];rfl⟩
    ·have p:=lN hkt;go_wp2_with fail;apply X;exact lY u H j s HL B ⟨Z,Z,Z,Z,Z,by rw[C.o];rfl⟩
def XT(w:φ)(D:u->Prop)(v:d)(r:t s):Prop:=v=A I 0 0/\r=[]\/0<V r/\ZH w D v r
theorem XT.x{P:ι->Prop}{r:σ ν}(h:XT w D v r)(c:JX P w w')(a:∀x,x<w.heap.size->P x->D x):XT w' D v r:=h.imp id λk=>⟨k.1,k.2.x c a⟩
namespace J
def zO(es:t E)(base:t s)(fr:t s)(a b:u):Prop:=3<=b/\((∃x∈(ev es b).on,(a:s)=base.getD (ev es b).t.toNat 0+x)\/(a:s)=fr.getD b 0)
def Hang(es:t E)(base fr:t s):Prop:=∃i,i<V es/\TC (λa b=>a<V es/\b<V es/\zO es base fr a b) i i
structure OnOk(es:σ E)(base:σ ν)(b:ι):Prop where
 t0:0<=(ev es b).t
 tl:(ev es b).t.toNat<V base
 b0:0<=base.getD (ev es b).t.toNat 0
 len:(ev es b).on.length<10000000000000
 on:∀x∈(ev es b).on,0<=x/\base.getD (ev es b).t.toNat 0+x<(V es:ν)
end J
structure JH(w:φ)(D:ι->Prop)(g ge ce gf cf ga ca:ι)(es:σ J.E)(fr ats base:σ ν)(bv:ω):Prop where
 jin:YZ w g ge ce gf cf ga ca es fr ats
 on:∀i,i<V es->∃v,w.cell? ⟨ge,i*10+9,I⟩=z v/\XT w D v (J.ev es i).on
 bc:w.cell? ⟨g,4,I⟩=z bv
 bs:ZH w (λ_=>False) bv base
 ok:∀i,3<=i->i<V es->J.OnOk es base i
def JH.X{base:σ ν}(h:JH w D g ge ce gf cf ga ca es fr ats base bv)(a:ρ w.heap.size w w'):JH w' D g ge ce gf cf ga ca es fr ats base bv :=
 ⟨h.jin.X a,λi f=>by
  obtain⟨v,c,d⟩:=h.on i f;exact⟨v,(a.cell h.jin.le).trans c,d.x (JX.of (P:=λ_=>False) a) λ_ _ e=>e.elim⟩,(a.cell h.jin.lg).trans h.bc,h.bs.x (JX.of (P:=λ_=>False) a) λ_ _ e=>e.elim,h.ok⟩
theorem J3(g ge ce gf cf ga ca:ι)(es:t J.E)(fr ats base:t ν)(bv:ω)(D:ι->Prop)(w:φ)(h:JH w D g ge ce gf cf ga ca es fr ats base bv)(au:∀i,i<V es->fr.getD i 0<(V es:ν))(h3:3<=V es):
  Calls ζ 118 #[.pointer (z ⟨g,0,I⟩)] w λe w'=>e=F (Y (J.yes (J.Hang es base fr)))/\ρ w.heap.size w w':=by
 have H:=aD h;have hn:=h.jin.n;have he:=h.jin.e;have lg:=h.jin.lg;have aB:=aD au;clear h au;go_in;go_wp2_with(first|(go_at_call 142;refine(GH (V es) _ hn).mono ?_;rintro e w1 ⟨gt,W,rfl,⟨(aF:aC _),(aS:aC _),(an:aC _)⟩,(B1:aC _)⟩));clear he lg;go_loopw[4] (λq wr=>∃(i:ι) (T:ι->ι->ψ),3<=i/\i<=V es/\q=U G i/\aC (JTab wr gt (V es) W T)/\aC (∀a b,T a b=O↔b<i/\J.zO es base fr a b)/\aC (ρ w.heap.size w wr)) λq _=>V es-(ξ q).toNat
 case atStart=>exact⟨3,_,x5 _,h3,Z,aF,λa b=>⟨λk=>(by cases k),λk=>by have:=k.2.1;omega⟩,B1⟩
 case round =>
  obtain⟨i,T,av,ba,rfl,HT,HI,HB⟩:=hrel;have K:=H.X HB;have he:=K.jin.e;have lg:=K.jin.lg;have le:=K.jin.le;by_cases hit:i<V es
  ·have aK:=lI hit;obtain⟨ov,aM,ai⟩:=K.on i hit;have ax:=K.ok i av hit;have ay:∃(oa:Option Addr) (oc:ι),ov=A oa (J.ev es i).on.length oc:=by
    rcases ai with⟨rfl,e⟩|⟨_,b,aI,rfl,_⟩
    ·grind
    ·exact⟨_,aI,Z⟩
   obtain⟨oa,oc,rfl⟩:=ay;have u:=aD ax;have aT:=aD ai;clear K ax ai;go_wp2;generalize ao:(J.ev es i).on=on at*;have af:=aD ao;clear ao;go_loopw[6] (λq wx=>∃(k:ι) (T2:ι->ι->ψ),k<=V on/\q=U G k/\aC (JTab wx gt (V es) W T2)/\aC (∀a b,T2 a b=O↔T a b=O\/b=i/\∃x∈on.take k,(a:ν)=base.getD (J.ev es i).t.toNat 0+x)/\aC (ρ w.heap.size w wx)) λq _=>V on-(ξ q).toNat
   case atStart=>exact⟨0,T,Nat.zero_le _,Z,HT,λa b=>by simp,HB⟩
   case round =>
    obtain⟨k,T2,hk,rfl,s,aE,L⟩:=hrel;have K:=H.X L;have aV:=K.jin.e;have bj:=K.jin.lg;have bi:=K.jin.le;obtain⟨bk,aa,ab⟩:=K.on i hit;have ah:wr.cell? ⟨ge,i*10+9,I⟩=z (A oa (V on) oc):=by
     have:=cK L H.jin.le ((HB.cell (p:=⟨ge,i*10+9,I⟩) H.jin.le).symm.trans aM);exact this
    have ae:XT wr D (A oa (V on) oc) on:=by
     rw[ah]at aa;cases aa;rw[af.o]at ab;exact ab
    clear aa ab;have aP:V on<10000000000000:=by have:=u.len;rw[af.o]at this;exact this
    by_cases hkt:k<V on
    ·have aL:=lI hkt
     rcases ae with⟨_,e⟩|⟨_,bo,co,e,aw,bh,_⟩
     ·rw[e]at hkt;simp at hkt
     cases e;have be:=aw k hkt
     obtain⟨x0,xl⟩:=u.on on[k] (by rw[af.o];exact List.getElem_mem hkt);obtain⟨bb,aO,rfl,aq,bg,_⟩:=K.bs;have aU:=K.bc;have ag:=aq _ u.tl;have aN:=(K.jin.ev i hit).t;obtain⟨tt,ak⟩:∃tt:ι,(J.ev es i).t=(tt:ν):=⟨(J.ev es i).t.toNat,by have:=u.t0;omega⟩;have aj:=u.tl;have b0:=u.b0;have aH:aC (∀a:ι,(∃x∈on.take (k+1),(a:ν)=base.getD (J.ev es i).t.toNat 0+x)↔(∃x∈on.take k,(a:ν)=base.getD (J.ev es i).t.toNat 0+x)\/(a:ν)=base.getD (J.ev es i).t.toNat 0+on[k]):=λa=>by
      rw[List.take_succ_eq_append_getElem hkt];simp only[List.mem_append,List.mem_singleton];constructor
      ·rintro⟨x,m|m,r⟩
       ·exact xF ⟨x,m,r⟩
       omega
      ·rintro(⟨x,m,r⟩|m)
       ·exact⟨x,xF m,r⟩
       ·exact⟨_,xR Z,m⟩
     have ar:base.getD (J.ev es i).t.toNat 0=base[(J.ev es i).t.toNat]:=by simp[aj]
     rw[<- ar]at ag;rw[ak]at aN aj ag;simp only[x9]at aj ag;have aA:aC (base.getD (J.ev es i).t.toNat 0=base.getD tt 0):=by simp_all [aC]
     rw[ak]at xl b0;simp only[x9]at xl b0;clear ar ak;generalize base.getD tt 0=bt at*;generalize on[k]=xx at*;obtain⟨p,rfl⟩:∃p:ι,bt=(p:ν):=⟨bt.toNat,by omega⟩;obtain⟨q,rfl⟩:∃q:ι,xx=(q:ν):=⟨xx.toNat,by omega⟩;have B:p+q<V es:=by omega
     have aQ:(p:ν)+(q:ν)<V es:=by omega
     have aR:(tt:ν)<V base:=by omega
     have S:=s.at_;have r2:=S.row (p+q) B;have b2:=S.bit (p+q) i B hit;have l3:=S.lg;have l4:=S.lr (p+q) B;have f2:=(s.row (p+q) B).free i;have ad:=aD (s.set (p+q) i B O);have ac:=aD (L.setCell (p:=⟨W (p+q),i,I⟩) (an _ B) (Y O));clear K S aw aq;go_wp2;go_region;go_wp2;go_roundw
     ·refine⟨k+1,eX T2 (p+q) i O,by omega,by go_num,by first|exact ad|exact ad.X (eD _ _ _),λa b=>?_,by first|exact ac|exact bT ac (eD _ _ _)⟩;have r:=aE.o a b;have h3:=aH.o a;have e4:=aA.o;unfold eX;by_cases d:a=p+q/\b=i
      ·rw[if_pos d];exact⟨λ_=>xR ⟨d.2,h3.2 (xR (by omega))⟩,λ_=>Z⟩
      ·rw[if_neg d,r];constructor
       ·rintro(j|⟨j,C⟩)
        ·exact xF j
        ·exact xR ⟨j,h3.2 (xF C)⟩
       ·rintro(j|⟨j,C⟩)
        ·exact xF j
        ·rcases h3.1 C with k3|k3
         ·exact xR ⟨j,k3⟩
         omega
     simp[ξ];omega
    ·have aL:¬(k:ν)<V on:=by omega
     have bd:k=V on:=by omega
     have al:aC (∀a b,T2 a b=O↔T a b=O\/b=i/\∃x∈(J.ev es i).on,(a:ν)=base.getD (J.ev es i).t.toNat 0+x):=by
      simp_all [aC]
     have aY:=K.jin.f;have aX:=K.jin.fr i hit;have lf:=K.jin.lf;have aZ:=aB.o i hit;have am:aC (∀a b:ι,b<i+1/\J.zO es base fr a b↔b<i/\J.zO es base fr a b\/b=i/\((∃x∈(J.ev es i).on,(a:ν)=base.getD (J.ev es i).t.toNat 0+x)\/(a:ν)=fr.getD i 0)):=λa b=>by
      constructor
      ·rintro⟨m,r⟩;by_cases e:b=i
       ·subst e;exact xR ⟨Z,r.2⟩
       ·exact xF ⟨by omega,r⟩
      ·rintro(⟨m,r⟩|⟨rfl,r⟩)
       ·exact⟨by omega,r⟩
       ·exact⟨by omega,av,r⟩
     clear K ae;generalize fr.getD i 0=fi at*;by_cases hf0:0<=fi
     ·obtain⟨p,rfl⟩:∃p:ι,fi=(p:ν):=⟨fi.toNat,by omega⟩;have y:p<V es:=by omega
      have S:=s.at_;have r2:=S.row p y;have b2:=S.bit p i y hit;have l3:=S.lg;have l4:=S.lr p y;have f2:=(s.row p y).free i;have ad:=aD (s.set p i y O);have ac:=aD (L.setCell (p:=⟨W p,i,I⟩) (an _ y) (Y O));clear S;go_wp2;go_roundw
      ·refine⟨i+1,eX T2 p i O,by omega,by omega,by go_num,ad,λa b=>?_,ac⟩;rw[am.o a b,<- HI.o a b];unfold eX;by_cases d:a=p/\b=i
       ·rw[if_pos d];exact⟨λ_=>xR ⟨d.2,xR (by rw[d.1])⟩,λ_=>Z⟩
       ·rw[if_neg d,al.o a b];constructor
        ·rintro(j|⟨j,C⟩)
         ·exact xF j
         ·exact xR ⟨j,xF C⟩
        ·rintro(j|⟨j,C|C⟩)
         ·exact xF j
         ·exact xR ⟨j,C⟩
         omega
      simp[ξ];omega
     ·have aW:fi<0:=by omega
      go_wp2;go_roundw
      ·refine⟨i+1,T2,by omega,by omega,by go_num,s,λa b=>?_,L⟩;rw[am.o a b,<- HI.o a b,al.o a b];constructor
       ·rintro(j|⟨j,C⟩)
        ·exact xF j
        ·exact xR ⟨j,xF C⟩
       ·rintro(j|⟨j,C|C⟩)
        ·exact xF j
        ·exact xR ⟨j,C⟩
        ·omega
      simp[ξ];omega
  ·have aK:¬(i:ν)<V es:=by omega
   clear K;go_wp2_with(first
    |(go_at_call 143;refine(QV gt (V es) W T _ HT.at_).mono ?_;rintro e w4 ⟨gc,aJ,rfl,⟨az,_,_⟩,ap⟩;have aG:=aD az;have B4:=aD (bT HB ap);clear az ap)
    |(go_at_call 144;refine(PN gc (V es) aJ _ _ aG.at_).mono ?_;rintro e w5 ⟨rfl,rfl⟩))
   go_ret;refine⟨?_,B4⟩
   congr 2
   have bf:J.rnd (V es) (λi k=>J.yes (TC (J.Rn (V es) T) i k))=O↔J.Hang es base fr:=by
    unfold J.rnd J.Hang;rw[List.any_eq_true];have e:J.Rn (V es) T=λa b=>a<V es/\b<V es/\J.zO es base fr a b:=by
     funext a b
     unfold J.Rn;apply propext;constructor
     ·rintro⟨m,r,h3⟩;exact⟨m,r,((HI a b).1 h3).2⟩
     ·rintro⟨m,r,h3⟩;exact⟨m,r,(HI a b).2 ⟨by omega,h3⟩⟩
    rw[e];constructor
    ·rintro⟨x,hx,m⟩;exact⟨x,List.mem_range.1 hx,J.cG.1 m⟩
    ·rintro⟨x,hx,m⟩;exact⟨x,List.mem_range.2 hx,J.cG.2 m⟩
   cases c:J.rnd (V es) λi k=>J.yes (TC (J.Rn (V es) T) i k)
   ·simp_all [J.kC]
   simp_all [J.gB]
namespace J
def dX(es:t E)(j k:u):m:=(ev es k).kind.toList==kW&&((ev es k).loc==(ev es j).loc&&((ev es k).val==(ev es j).val&&!((ev es j).half&&(k:s)==(j:s)+1)))
def Legal(es:t E)(j:u)(x:s):Prop:=if((ev es j).kind.toList==kR)=O then ∃k,k<V es/\x=(k:s)/\dX es j k=O else x=-1
structure RdX(es:σ E)(base:σ ν)(i:ι)(fr f:σ ν):Prop where
 len:V f=V es
 old:∀j,j<i->f.getD j 0=fr.getD j 0
 leg:∀j,i<=j->j<V es->Legal es j (f.getD j 0)
 no:¬Hang es base f
def sM(es:t E)(base regs:t s)(i:u)(fr o:t s):Prop:=∃f,RdX es base i fr f/\OrdP es f regs [] o
def tD(es:t E)(base:t s)(i:u)(fr:t s):Prop:=∃f,RdX es base i fr f/\oJ es f []
theorem fI{x:s}(h:i<V l):(l.set i x).getD i 0=x:=by simp[h]
section
variable {es:σ E}{base fr fr' f:σ ν}{i:ι}
def J4(h:∀j,j<i->fr'.getD j 0=fr.getD j 0):RdX es base i fr f↔RdX es base i fr' f :=
 ⟨λk=>⟨k.len,λj a=>(k.old j a).trans (h j a).symm,k.leg,k.no⟩,λk=>⟨k.len,λj a=>(k.old j a).trans (h j a),k.leg,k.no⟩⟩
theorem J6(c:i<V es)(n:V fr=V es):RdX es base i fr f↔∃x,Legal es i x/\RdX es base (i+1) (fr.set i x) f:=by
 constructor
 ·intro k;refine⟨f.getD i 0,k.leg i (x5 _) c,k.len,λj a=>?_,λj a=>k.leg j (by omega),k.no⟩
  grind [cL,RdX.old]
 ·rintro⟨x,o,k⟩;have e:f.getD i 0=x:=by grind [RdX.old,fI]
  refine⟨k.len,λj a=>?_,λj d m=>?_,k.no⟩
  ·rw[k.old j (by omega),cL _ (by omega)]
  grind [RdX.leg]
theorem fN(a:V fr=V es):RdX es base (V es) fr f↔f=fr/\¬Hang es base fr:=by
 constructor
 ·intro k;have e:f=fr:=by
   apply List.ext_getElem (by rw[k.len,a]);intro j c d;have:=k.old j (by omega)
   grind
  grind [RdX.no]
 ·rintro⟨rfl,h⟩;exact⟨a,λ_ _=>Z,λj c d=>by omega,h⟩
def iA(regs o:t s)(h:∀j,j<i->fr'.getD j 0=fr.getD j 0):sM es base regs i fr o↔sM es base regs i fr' o:=by
 unfold sM;exact exists_congr λf=>and_congr_left λ_=>J4 h
def iI(h:∀j,j<i->fr'.getD j 0=fr.getD j 0):tD es base i fr↔tD es base i fr':=by
 unfold tD;exact exists_congr λf=>and_congr_left λ_=>J4 h
theorem nI(regs o:t s)(a:i<V es)(c:V fr=V es):sM es base regs i fr o↔∃x,Legal es i x/\sM es base regs (i+1) (fr.set i x) o:=by
 grind [sM,J6]
theorem nS(a:i<V es)(c:V fr=V es):tD es base i fr↔∃x,Legal es i x/\tD es base (i+1) (fr.set i x):=by
 grind [tD,J6]
end
end J
structure JR(w:φ)(D:ι->Prop)(g ge ce gf cf ga ca:ι)(es:σ J.E)(fr ats base regs:σ ν)(pv rv bv ov:ω)(L:ι)(rs:σ (σ ν))(c:ψ):Prop where
 blk:Blk w g (jw O pv (VV ge (V es) ce) rv bv (VV gf (V es) cf) (VV ga (V es) ca) ov c) 109
 ev:∀i,i<V es->As w ge (i*10) (J.ev es i)
 le:ge<w.heap.size
 n:V es<1000
 on:∀i,i<V es->∃v,w.cell? ⟨ge,i*10+9,I⟩=z v/\XT w D v (J.ev es i).on
 fb:Blk w gf (WU fr) 3
 fl:V fr=V es
 ab:Blk w ga (WU ats) 3
 aok:J.AtOk es [] ats
 rg:ZH w D rv regs
 bs:ZH w (λk=>k=g\/k=gf\/k=ga) bv base
 y:ZE w D ov rs
 rise:YX rs
 ok:∀r∈rs,J.Ok L r
 len:V regs+3=L
 small:L<=19
 pos:0<V regs
 rng:∀x∈regs,0<=x/\x<4
 vals:∀i,i<V es->0<=(J.ev es i).val/\(J.ev es i).val<4
 half:∀i,i<V es->J.isStep (J.ev es i)=O->i+1<V es
 three:3<=V es
 low:∀x,D x->x<w.heap.size
 dg:D g
 df:D gf
 da:D ga
 ne:ga≠gf
 onk:∀i,3<=i->i<V es->J.OnOk es base i
section
variable {w w':φ}{D:ι->Prop}{g ge ce gf cf ga ca:ι}{es:σ J.E}{fr fr' ats ats' base regs:σ ν}{pv rv bv ov ov':ω}{L:ι}{rs rs':σ (σ ν)}{c c':ψ}
theorem JR.jin(h:JR w D g ge ce gf cf ga ca es fr ats base regs pv rv bv ov L rs c):YZ w g ge ce gf cf ga ca es fr ats :=
 ⟨h.blk.cell Z,h.blk.cell Z,h.blk.cell Z,h.ev,λi a=>h.fb.cell (tA (by grind [JR.fl])),λi a=>h.ab.cell (tA (by rw[h.aok.len];exact a)),h.blk.lt,h.le,h.fb.lt,h.ab.lt,h.n⟩
def JR.jh(h:JR w D g ge ce gf cf ga ca es fr ats base regs pv rv bv ov L rs c):JH w D g ge ce gf cf ga ca es fr ats base bv :=
 ⟨h.jin,h.on,h.blk.cell Z,h.bs.of λ_ _ e=>e.elim,h.onk⟩
def JR.gD(h:JR w D g ge ce gf cf ga ca es fr ats base regs pv rv bv ov L rs c):g≠gf/\g≠ga/\ge≠g/\ge≠gf/\ge≠ga:=by
 have e:=h.three;have k:=h.ev 0 (by omega);have a:=k.k;have d:=k.t;simp only[x6,Nat.zero_add]at a d;exact⟨h.blk.ne h.fb (by decide),h.blk.ne h.ab (by decide),h.blk.CO (i:=0) (u:=Y O) Z d (by simp),h.fb.CO (i:=2) (tA (by rw[h.fl];omega)) a (by simp),h.ab.CO (i:=2) (tA (by rw[h.aok.len];omega)) a (by simp)⟩
theorem JR.eW(h:JR w D g ge ce gf cf ga ca es fr ats base regs pv rv bv ov L rs c)(a:JX (λk=>k=g\/k=gf\/k=ga) w w')(B:Blk w' g (jw O pv (VV ge (V es) ce) rv bv (VV gf (V es) cf) (VV ga (V es) ca) ov' c') 109)(C:Blk w' gf (WU fr') 3)(m:V fr'=V es)(y:Blk w' ga (WU ats') 3)(f:J.AtOk es [] ats')(E:ZE w' D ov' rs')(u:YX rs')(q:∀r∈rs',J.Ok L r):JR w' D g ge ce gf cf ga ca es fr' ats' base regs pv rv bv ov' L rs' c':=by
 obtain⟨S,T,W,X,n5⟩:=h.gD;have o:w'.heap[ge]?=w.heap[ge]?:=a.block ge h.le (by omega);have d:∀x,x<w.heap.size->x=g\/x=gf\/x=ga->D x:=λx _ e=>by grind [JR.dg,JR.df,JR.da]
 refine⟨B,λi p=>?_,x3 h.le a.size,h.n,λi p=>?_,C,m,y,f,h.rg.x a d,h.bs.x a λ_ _ e=>e,E,u,q,h.len,h.small,h.pos,h.rng,h.vals,h.half,h.three,λx k=>x3 (h.low x k) a.size,h.dg,h.df,h.da,h.ne,h.onk⟩
 ·have e:∀j,w'.cell? ⟨ge,j,I⟩=w.cell? ⟨ge,j,I⟩:=λj=>iF o
  have k:=h.ev i p;exact⟨(e _).trans k.t,(e _).trans k.b,(e _).trans k.k,(e _).trans k.l,(e _).trans k.v,(e _).trans k.r,(e _).trans k.s,(e _).trans k.h,(e _).trans k.n⟩
 ·obtain⟨v,H,K⟩:=h.on i p
  grind [iF,XT.x]
def JR.X(h:JR w D g ge ce gf cf ga ca es fr ats base regs pv rv bv ov L rs c)(a:ρ w.heap.size w w'):JR w' D g ge ce gf cf ga ca es fr ats base regs pv rv bv ov L rs c :=
 h.eW (JX.of a) (h.blk.X a) (h.fb.X a) h.fl (h.ab.X a) h.aok (h.y.x (JX.of (P:=λ_=>False) a) λ_ _ e=>e.elim) h.rise h.ok
theorem JR.set(h:JR w D g ge ce gf cf ga ca es fr ats base regs pv rv bv ov L rs c)(i:ι)(x:ν):JR (w.setCell ⟨gf,i,I⟩ (U G x)) D g ge ce gf cf ga ca es (fr.set i x) ats base regs pv rv bv ov L rs c:=by
 obtain⟨a,d,f,j,m⟩:=h.gD;refine h.eW (JX.set (P:=λk=>k=g\/k=gf\/k=ga) (JX.refl _ _) (xF (xR (xF Z))) _ _) (h.blk.cC _ _ a) ?_ (by simp[h.fl]) (h.ab.cC _ _ h.ne) h.aok (h.y.x (JX.set (P:=λk=>k=gf) (JX.refl _ _) (xF Z) _ _) λy _ e=>by rw[e];exact h.df) h.rise h.ok;have:=h.fb.set i (U G x)
 grind [WU,List.map_set]
theorem JR.jo(h:JR w D g ge ce gf cf ga ca es fr ats base regs pv rv bv ov L rs c)(m:J.Full es fr)(f:∀i,i<V es->fr.getD i 0<(V es:ν)):JO (w.alloc (M ((xW (V es)).map λ_=>x4 N).toArray 4)) (λk=>D k\/k=w.heap.size) g ge ce gf cf ga ca w.heap.size es fr regs pv rv bv ov L rs c [] ats:=by
 have d:ρ w.heap.size w (w.alloc (M ((xW (V es)).map λ_=>x4 N).toArray 4)):=bB;have k:=h.X d;have lt:∀x,x<w.heap.size->D x\/x=w.heap.size->D x:=λx n e=>e.elim id λe=>by omega
 have j:ZE (w.alloc (M ((xW (V es)).map λ_=>x4 N).toArray 4)) (λk=>D k\/k=w.heap.size) ov rs:=(h.y.of lt).x (JX.of (P:=λ_=>False) d) λ_ _ e=>e.elim;have a:ZH (w.alloc (M ((xW (V es)).map λ_=>x4 N).toArray 4)) (λk=>D k\/k=w.heap.size) rv regs:=(h.rg.of lt).x (JX.of (P:=λ_=>False) d) λ_ _ e=>e.elim;refine⟨⟨k.blk,k.jin,a.of λ_ _ e=>e.elim,j,h.rise,h.ok,h.len,h.small,h.pos,h.rng,h.vals,m,f,h.half,h.three,λx e=>?_,xF h.dg⟩,k.ab,h.aok.len,?_,a,h.ne,xF h.da,xR Z⟩
 ·rcases e with e|e
  ·exact k.low x e
  ·rw[e];simp
 grind [Blk.new,ZZ]
end
def zOz(w w':φ)(D:u->Prop)(g ge ce gf cf ga ca:u)(es:t J.E)(fr base regs:t s)(pv rv bv:d)(L:u)(rs:t (t s))(c:m)(i:u)(P:t s->Prop)(C:Prop):Prop :=
 ∃ov' rs' c' fr' ats',JR w' D g ge ce gf cf ga ca es fr' ats' base regs pv rv bv ov' L rs' c'/\(∀j,j<i->fr'.getD j 0=fr.getD j 0)/\JX (λk=>k=g\/k=gf\/k=ga) w w'/\J.Grew L rs rs' c c' P C
def KQ(g ge ce gf cf ga ca:u)(es:t J.E)(base regs:t s)(pv rv bv:d)(L:u)(D:u->Prop)(i:u):Prop :=
 ∀(w:φ) (ov:d) (rs:t (t s)) (c:m) (fr ats:t s),JR w D g ge ce gf cf ga ca es fr ats base regs pv rv bv ov L rs c->(∀j,j<i->J.Legal es j (fr.getD j 0)) ->
  Calls ζ 77 #[.pointer (z ⟨g,0,I⟩),U G (i:s)] w λe w'=>e=F (.tuple #[])/\zOz w w' D g ge ce gf cf ga ca es fr base regs pv rv bv L rs c i (J.sM es base regs i fr) (J.tD es base i fr)
section
variable {g ge ce gf cf ga ca:ι}{es:σ J.E}{base regs:σ ν}{pv rv bv:ω}{L:ι}{D:ι->Prop}
theorem zLs(es:t J.E):J.eO es []<=V es:=by
 grind [J.eO]
theorem zGX:KQ g ge ce gf cf ga ca es base regs pv rv bv L D (V es):=by
 intro w ov rs c fr ats h m;have hF:J.Full es fr:=λi hi hk=>by
  have:=m i hi;unfold J.Legal at this
  grind
 have C:∀i,i<V es->fr.getD i 0<(V es:ν):=λi hi=>by
  grind [J.Legal]
 have H:=aD h;have HF:=aD hF;have q:=aD C;have c2:=h.blk.cell (i:=2) (v:=VV ge (V es) ce) Z;have lg:=h.blk.lt;have hn:=h.n;clear h m hF C;by_cases hh:J.Hang es base fr
 ·have T:=aD (J.gB hh);go_in;go_wp2_with(first
   |(go_at_call 118;refine(J3 g ge ce gf cf ga ca es fr ats base bv D _ H.jh q H.three).mono ?_;rintro e w1 ⟨rfl,(p:aC _)⟩;rw[T.o]))
  refine η (π Z _ _ _) Z ?_;refine⟨Z,ov,rs,c,fr,ats,H.X p,λ_ _=>Z,JX.of p,(J.Grew.refl H.rise H.ok).to (λo=>?_) ?_⟩
  ·exact⟨False.elim,λ⟨f,r,_⟩=>((J.fN H.fl).1 r).2 hh⟩
  ·exact⟨False.elim,λ⟨f,r,_⟩=>((J.fN H.fl).1 r).2 hh⟩
 ·have T:=aD (J.kC hh);have ae:∀w,(x8 189 (U G (V es:ν)) (U G (V es:ν))).run ζ w=.ok (VV w.heap.size (V es) (V es)) (w.alloc (M ((xW (V es)).map λ_=>x4 N).toArray 4)):=λw=>by
   rw[<- GU];exact run_make_row' 189 4 (Y N) 1 underlying189 Tryz.infoB Z G G (V es) (by omega) (by omega) w
  go_in;go_wp2_with(first
   |(go_at_call 118;refine(J3 g ge ce gf cf ga ca es fr ats base bv D _ H.jh q H.three).mono ?_;rintro e w1 ⟨rfl,d⟩;rw[T.o];have p:=aD d;have q2:=cK d lg c2;have af:=x3 lg d.size;have HC:=aD (zGh (J.eO es []) [] Z (by have:=zLs es;simpa using this) _ _ _ _ _ ((H.X d).jo HF q) H.aok λj hj=>by simp at hj);clear d)
   |(go_at_call 119;refine Calls.mono (HC) ?_;rintro e w5 ⟨rfl,ac,ad,W,t,(a:aC _),(S:aC _),(s:aC _),(K:aC _)⟩))
  refine η (π Z _ _ _) Z ?_;have B:ρ w.heap.size w (w1.alloc (M ((xW (V es)).map λ_=>x4 N).toArray 4)):=p.alloc p.size _;have E:JX (λk=>k=g\/k=gf\/k=ga) w w5:=(JX.of B).trans s λx hx e=>by
   rcases e with e|e|e
   ·exact xF e
   ·exact xR (xR e)
   ·have:=p.size;omega
  have aa:¬(gf=g\/gf=ga\/gf=w1.heap.size):=by
   rintro(e|e|e)
   ·exact H.gD.1 e.symm
   ·exact H.ne e.symm
   ·have:=H.fb.lt;have:=p.size;omega
  refine⟨Z,ac,ad,W,fr,t,H.eW E a.jj.blk ((H.fb.X B).x s aa) H.fl a.ab S (a.jj.y.of λx _ e=>xF e) a.jj.rise a.jj.ok,λ_ _=>Z,E,K.to (λo=>?_) ?_⟩
  ·constructor
   ·intro k;exact⟨fr,(J.fN H.fl).2 ⟨Z,hh⟩,k⟩
   ·rintro⟨f,r,u⟩;rw[((J.fN H.fl).1 r).1]at u;exact u
  ·constructor
   ·intro k;exact⟨fr,(J.fN H.fl).2 ⟨Z,hh⟩,k⟩
   ·rintro⟨f,r,u⟩;rw[((J.fN H.fl).1 r).1]at u;exact u
end
