import Derived.Deep.Upon
import Derived.Test.YteekngiepnnmjaaGreatDoorV20
import Derived.Test.YteekngiepnnmjaaGreatDoorV11
set_option linter.all false
set_option maxHeartbeats 0
namespace Go.Proofs.YteekngiepnnmjaaGreatDoor
open Go Go.RowKit Go.Proofs.Tryz P Q R
open scoped Classical
set_option maxRecDepth 1000000
open _root_ renaming List->H,List->σ,Nat->p,Nat->ι,Int->u,Int->ω,Option->φ,Array->τ,Bool->ζ,UInt8->ς,absurd->ο
open Go renaming Value->d,Value->ν,World->ξ,wpList_append_own_none->ρ,wpList_append_lies->η,Addr->δ,Oper->γ,maxLen->θ,execOp->κ,bodyPost_ret->υ,wpAnyH->χ,TypeId->Γ
open Go.Proofs.Tryz renaming underlying37->ψ,prog->π
open Go.RowKit renaming Below->ε
variable {B b f g gh gr i ii k m n s sz z:ι}{w w' w0:ξ}{a:Act}{cs' hvs ons os:σ ν}{ops:τ γ}{o oi:γ}{K:Act->ξ->Prop}{D D':ι->Prop}{dv pv v wv:ν}{es:σ J.E}{l r:σ ω}{t:Γ}{A:τ Edge}{S:ξ->Prop}
open Go.Value renaming slice->O,int->F,bool->T
open Option renaming some->I,none->G
open Bool renaming false->U,true->N
open Go.IntKind renaming i64->M
open Go.Obj renaming cells->V
open Or renaming inl->xF,inr->xR
open Go.Value renaming ownBlock->xW,oneCell'->xx
open List renaming replicate->x5,length_append->xc,append_nil->xd,getElem?_eq_getElem->xm,mem_of_getElem?->xn,drop_length->xp,cons_append->xu,length_cons->xv,getElem?_append_left->xw
open Nat renaming lt_of_lt_of_le->x6,le_refl->x8,not_lt_zero->xi,ne_of_lt->xj,zero_add->xk,le_trans->xl,lt_trichotomy->xt
open Go.RowKit.Below renaming refl->x7,heap_setCell->xq
open Go.World renaming ownsRow_nil->x9
open Go.Act renaming put->xa,eval->xg
open Bool renaming and_eq_true->xb
open Go.Instr renaming slice->xe
open _root_.Array renaming replicate->xh,getElem?_push->xo
open Option renaming map_some->xr,getD_some->xz
open Go.Result renaming andThen_ok->xy
theorem zPq(p q r s t:ζ):p=U\/p=N/\q=U\/p=N/\q=N/\r=U\/p=N/\q=N/\r=N/\s=U\/p=N/\q=N/\r=N/\s=N/\t=U\/p=N/\q=N/\r=N/\s=N/\t=N:=by
 grind
section
variable {g ge ce gf cf ga ca:ι}{es:σ J.E}{base regs:σ ω}{pv rv bv:ν}{L:ι}{D:ι->Prop}
theorem zGi(hi:i<es.length)(IH:KQ g ge ce gf cf ga ca es base regs pv rv bv L D (i+1)):KQ g ge ce gf cf ga ca es base regs pv rv bv L D i:=by
 intro w ov rs c fr aH h ah;have H:=aD h;have HL:=aD ah;have av:=aD IH;have hn:=h.n;have aK:=lI hi;have aL:((i:ω)==(es.length:ω))=U:=by simp;omega
 have c2:=h.blk.cell (i:=2) (v:=VV ge es.length ce) Z;have c5:=h.blk.cell (i:=5) (v:=VV gf es.length cf) Z;have lg:=h.blk.lt;have le:=h.le;have lf:=h.fb.lt;have ff:=h.fb.free i;have aA:=h.fb.cell (tA (l:=fr) (i:=i) (by rw[h.fl];exact hi));have HS:=aD (h.set i (-1));obtain⟨_,_,ik,_,_,_,_,_,_⟩:=(h.set i (-1)).ev i hi;have ay:aC (JX (λk=>k=g\/k=gf\/k=ga) w (w.setCell ⟨gf,i,G⟩ (F M (-1)))):=JX.set (P:=λk=>k=g\/k=gf\/k=ga) (JX.refl _ _) (xF (xR (xF Z))) _ _;have aw:aC (∀j,j<i->(fr.set i (-1)).getD j 0=fr.getD j 0):=λj hj=>J.cL _ (by omega)
 have aa:aC (fr.length=es.length):=h.fl;clear h ah IH
 cases z:(J.ev es i).kind.toList==J.kR
 ·have p:aC (∀x,J.Legal es i x↔x=-1):=λx=>by unfold J.Legal;rw[z];simp
  have ae:∀j,j<i+1->J.Legal es j ((fr.set i (-1)).getD j 0):=λj hj=>by
   by_cases e:j=i
   ·subst e;rw[J.fI (by rw[aa.o];exact hi)];exact(p _).2 Z
   ·rw[J.cL _ λk=>e k.symm];exact HL j (by omega)
  have d:=av.o _ _ _ _ _ _ HS ae;rw[show(((i+1:ι):ι):ω)=(i:ω)+1 by omega]at d;have HC:=aD d;have q1:=LW z;simp only[J.kR]at z q1;clear d ae;go_in;go_wp2_with(first
   |(go_at_call 77;refine HC.mono ?_;rintro e w5 ⟨rfl,ar,au,ao,ap,ad,(ak:aC _),(am:aC _),(an:aC _),(aj:aC _)⟩))
  refine υ (results_none Z _ _ _) Z ?_;refine⟨Z,ar,au,ao,ap,ad,ak,λj hj=>(am j (by omega)).trans (aw j hj),ay.trans an λ_ _ e=>e,aj.to (λo=>?_) ?_⟩
  ·rw[J.nI regs o hi aa.o];exact⟨λk=>⟨-1,(p _).2 Z,k⟩,λ⟨x,hx,k⟩=>by rw[(p.o x).1 hx]at k;exact k⟩
  ·rw[J.nS hi aa.o];exact⟨λk=>⟨-1,(p _).2 Z,k⟩,λ⟨x,hx,k⟩=>by rw[(p.o x).1 hx]at k;exact k⟩
 ·have p:aC (∀x,J.Legal es i x↔∃k,k<es.length/\x=(k:ω)/\J.dX es i k=N):=λx=>by unfold J.Legal;rw[z];simp
  have q1:=LW z;simp only[J.kR]at z q1;go_in;go_wp2;generalize w.setCell ⟨gf,i,G⟩ (F M (-1))=W at*;clear c2 c5 lg le lf ff aA ik;go_loopw[6] (λq wr=>∃(k:ι) (ag:ν) (ac:σ (σ ω)) (ab:ζ) (E Y:σ ω),k<=es.length/\q=F M k/\aC (JR wr D g ge ce gf cf ga ca es E Y base regs pv rv bv ag L ac ab)/\aC (∀j,j<i->E.getD j 0=fr.getD j 0)/\aC (JX (λk=>k=g\/k=gf\/k=ga) w wr)/\aC (J.Grew L rs ac c ab (λo=>∃x:ι,x<k/\J.dX es i x=N/\J.sM es base regs (i+1) (fr.set i (x:ω)) o) (∃x:ι,x<k/\J.dX es i x=N/\J.tD es base (i+1) (fr.set i (x:ω))))) λq _=>es.length-(intOf q).toNat
  case atStart =>
   refine⟨0,ov,rs,c,fr.set i (-1),aH,Nat.zero_le _,Z,HS,aw,ay,(J.Grew.refl H.rise H.ok).to (λo=>?_) ?_⟩
   ·grind
   grind
  case round =>
   obtain⟨k,ag,ac,ab,E,Y,hk,rfl,HJ,HO,HX,HG⟩:=hrel;have c2:=HJ.blk.cell (i:=2) (v:=VV ge es.length ce) Z;have lg:=HJ.blk.lt;have le:=HJ.le;by_cases hkt:k<es.length
   ·have aI:=lI hkt;obtain⟨_,_,_,il,iv,_,_,ih,_⟩:=HJ.ev i hi;obtain⟨_,_,kk,kl,kv,_,_,_,_⟩:=HJ.ev k hkt;have HM:aC (J.dX es i k=((J.ev es k).kind.toList==J.kW&&((J.ev es k).loc==(J.ev es i).loc&&((J.ev es k).val==(J.ev es i).val&&!((J.ev es i).half&&(k:ω)==(i:ω)+1))))):=Z;have al:aC (J.dX es i k=U->J.Grew L rs ac c ab (λo=>∃x:ι,x<k+1/\J.dX es i x=N/\J.sM es base regs (i+1) (fr.set i (x:ω)) o) (∃x:ι,x<k+1/\J.dX es i x=N/\J.tD es base (i+1) (fr.set i (x:ω)))):=λhp=>by
     refine HG.to (λo=>⟨λ⟨x,h1,C⟩=>⟨x,by omega,C⟩,λ⟨x,h1,C,h3⟩=>⟨x,?_,C,h3⟩⟩) ⟨λ⟨x,h1,C⟩=>⟨x,by omega,C⟩,λ⟨x,h1,C,h3⟩=>⟨x,?_,C,h3⟩⟩
     ·grind
     grind
    have aM:(i:ω)+1<2000:=by omega
    go_upto_region 12 with fail
    go_cut[8]from 49 to 115 λs wx=>∃b,s=T b/\aC (b=((J.ev es i).half&&(k:ω)==(i:ω)+1))/\wx=wr
    case first =>
     cases y1:(J.ev es i).half<;>cases y2:(k:ω)==(i:ω)+1
     all_goals
      rw[y1]at ih;go_wp2;go_meet;exact⟨_,Z,by unfold aC;rw[y1,y2];rfl,Z⟩
    obtain⟨ow,rfl,ax,rfl⟩:=hcut;rw[<- ax.o]at HM;clear ih;go_upto_region 13 with fail
    go_cut[104]from 49 to 115 λs wx=>∃b,s=T b/\aC (J.dX es i k=b)/\∃nq,wx=wc.drewN nq
    case first =>
     clear al
     cases ow<;>rcases zPq ((J.ev es k).kind.toList==J.kW) ((J.ev es k).loc==(J.ev es i).loc) ((J.ev es k).val==(J.ev es i).val) N N with p1|⟨p1,p2⟩|⟨p1,p2,p3⟩|⟨p1,p2,p3,p4⟩|⟨p1,p2,p3,p4,p5⟩|⟨p1,p2,p3,p4,p5⟩
     all_goals(first|(exfalso;cases p4;done)|(exfalso;cases p5;done)|skip)
     all_goals
      have HW:=HM.o;simp only[*,Bool.and_true,Bool.true_and,Bool.and_false,Bool.false_and,Bool.not_true,Bool.not_false]at HW;have aF:=aD HW;clear HW HM;simp only[J.kW]at p1;go_quiet (fail);go_wp2;go_meet;exact⟨_,Z,aF,nq,Z⟩
    obtain⟨mb,rfl,af,aq,rfl⟩:=hcut;clear HM ax c2 lg le il iv kk kl kv;have u:=aD (HJ.X (eD _ _ aq));have az:=aD (HX.X (eD _ _ aq));generalize wc.drewN aq=W2 at*;cases mb
    ·have HN:=aD (al.o af);clear al;go_wp2;go_roundw;exact⟨k+1,ag,ac,ab,E,Y,by omega,by go_num,u,HO,az,HN⟩;simp[intOf];omega
    ·have c5:=u.blk.cell (i:=5) (v:=VV gf es.length cf) Z;have lg:=u.blk.lt;have lf:=u.fb.lt;have ff:=u.fb.free i;have aA:=u.fb.cell (tA (l:=E) (i:=i) (by rw[u.fl];exact hi));have aE:=aD (u.set i (k:ω));have aG:aC (JX (λk=>k=g\/k=gf\/k=ga) w (W2.setCell ⟨gf,i,G⟩ (F M (k:ω)))):=JX.set (P:=λk=>k=g\/k=gf\/k=ga) az (xF (xR (xF Z))) _ _;have aB:∀j,j<i+1->(E.set i (k:ω)).getD j 0=(fr.set i (k:ω)).getD j 0:=λj hj=>by
      by_cases e:j=i
      ·subst e;rw[J.fI (by rw[u.fl];exact hi),J.fI (by rw[aa.o];exact hi)]
      ·rw[J.cL _ λk=>e k.symm,J.cL _ λk=>e k.symm];exact HO j (by omega)
     have ae:∀j,j<i+1->J.Legal es j ((E.set i (k:ω)).getD j 0):=λj hj=>by
      by_cases e:j=i
      ·subst e;rw[J.fI (by rw[u.fl];exact hi)];exact(p _).2 ⟨k,hkt,Z,af⟩
      ·rw[J.cL _ λk=>e k.symm,HO.o j (by omega)];exact HL j (by omega)
     have d:=av.o _ _ _ _ _ _ aE ae;rw[show(((i+1:ι):ι):ω)=(i:ω)+1 by omega]at d;have HC:=aD d;have ai:=aD aB;clear d ae aB;go_wp2_with(first
      |(go_at_call 77;refine HC.mono ?_;rintro e w5 ⟨rfl,ar,au,ao,ap,ad,(ak:aC _),(am:aC _),(an:aC _),(aj:aC _)⟩))
     go_roundw
     ·refine⟨k+1,ar,au,ao,ap,ad,by omega,by go_num,ak,λj hj=>?_,aG.trans an λ_ _ e=>e,(HG.trans aj).to (λo=>?_) ?_⟩
      ·rw[am.o j (by omega),ai.o j (by omega),J.cL _ (by omega)]
      ·rw[J.iA regs o λj hj=>(ai.o j hj).symm];constructor
       ·rintro(⟨x,h1,C⟩|h1)
        ·exact⟨x,by omega,C⟩
        ·exact⟨k,by omega,af,h1⟩
       grind
      ·rw[J.iI λj hj=>(ai.o j hj).symm];constructor
       ·rintro(⟨x,h1,C⟩|h1)
        ·exact⟨x,by omega,C⟩
        ·exact⟨k,by omega,af,h1⟩
       grind
     simp[intOf];omega
   ·have aI:¬(k:ω)<es.length:=by omega
    go_wp2;go_end0;refine⟨Z,ag,ac,ab,E,Y,HJ,HO,HX,HG.to (λo=>?_) ?_⟩
    ·rw[J.nI regs o hi aa.o];constructor
     ·rintro⟨x,aJ,C,h3⟩;exact⟨x,(p _).2 ⟨x,by omega,Z,C⟩,h3⟩
     ·rintro⟨x,hx,h3⟩;obtain⟨y,h1,rfl,C⟩:=(p x).1 hx;exact⟨y,by omega,C,h3⟩
    ·rw[J.nS hi aa.o];constructor
     ·rintro⟨x,aJ,C,h3⟩;exact⟨x,(p _).2 ⟨x,by omega,Z,C⟩,h3⟩
     ·rintro⟨x,hx,h3⟩;obtain⟨y,h1,rfl,C⟩:=(p x).1 hx;exact⟨y,by omega,C,h3⟩
theorem Lp:∀(m i:p),i+m=es.length->KQ g ge ce gf cf ga ca es base regs pv rv bv L D i
 |0,i,h=>by
  grind [zGX]
 |m+1,i,h=>zGi (by omega) (Lp m (i+1) (by omega))
end
def SlC(w:ξ)(v:d)(k:p)(cs:H d)(sz:p):Prop :=
 v=O G 0 0/\k=0/\cs=[]\/∃b cap,v=VV b k cap/\(∀j u,cs[j]?=I u->w.cell? ⟨b,j,G⟩=I u)/\b<w.heap.size/\k<=cap/\cs.length=k*sz/\0<k
section
variable {w w':ξ}{v:ν}{k sz:ι}{cs:σ ν}
def SlC.keep(h:SlC w v k cs sz)(e:∀b,v.ownBlock=I b->w'.heap[b]?=w.heap[b]?)(x:w.heap.size<=w'.heap.size):SlC w' v k cs sz:=by
 rcases h with h|⟨b,c,rfl,d,p,q⟩
 ·exact xF h
 ·exact xR ⟨b,c,Z,λj u y=>(iF (e b Z)).trans (d j u y),x6 p x,q⟩
def SlC.lt(h:SlC w v k cs sz):∀b,v.ownBlock=I b->b<w.heap.size:=λb c=>by
 rcases h with⟨rfl,_⟩|⟨j,d,rfl,p,e,q⟩
 ·cases c
 ·cases c;exact e
theorem SlC.form(h:SlC w v k cs sz):∃a c,v=O a k c/\k<=c:=by
 rcases h with⟨rfl,rfl,_⟩|⟨b,d,rfl,_,_,e,_⟩
 ·grind
 grind
theorem SlC.own{e:Γ}(h:w.ownsRow B e sz v k cs)(J:0<k):SlC w v k cs sz:=by
 obtain⟨x,h⟩:=h
 rcases h with⟨_,C⟩|⟨g,d,c,y,C,p,E,L,W,H⟩
 ·omega
 ·refine xR ⟨g,d,y,λj u q=>?_,dC p,E,x,J⟩;have X:=(List.getElem?_eq_some_iff.1 q).1;have e2:(c.toList.take (k*sz))[j]?=c.toList[j]?:=by grind
  rw[H,q]at e2;have e3:c[j]?=I u:=by grind
  simp[World.cell?,p,e3]
end
def tR(w:ξ)(a:φ δ)(k:p)(cs:H d)(sz:p):Prop:=a=G/\k=0/\cs=[]\/∃b,a=I ⟨b,0,G⟩/\(∀j u,cs[j]?=I u->w.cell? ⟨b,j,G⟩=I u)/\b<w.heap.size/\cs.length=k*sz
theorem SlC.pre{a:φ δ}{c:ι}{cs:σ ν}(h:SlC w (O a m c) m (cs++cs') sz)(x:cs.length=k*sz)(H:k<=m):tR w a k cs sz:=by
 rcases h with⟨e,p,d⟩|⟨b,q,e,p,d,y,C,E⟩
 ·cases e;exact xF ⟨Z,by omega,(List.append_eq_nil_iff.1 d).1⟩
 ·cases e;exact xR ⟨b,Z,λj u J=>p j u (by grind),d,x⟩
def SlQ(w:ξ)(v:d)(k:p)(cs:H d)(sz:p):Prop:=∃a c,v=O a k c/\k<=c/\tR w a k cs sz
section
variable {w w':ξ}{v:ν}{k sz:ι}{cs:σ ν}
def SlQ.lt(h:SlQ w v k cs sz):∀b,v.ownBlock=I b->b<w.heap.size:=λb d=>by
 obtain⟨a,c,rfl,_,h⟩:=h
 rcases h with⟨rfl,_⟩|⟨j,rfl,_,e,_⟩
 ·cases d
 ·cases d;exact e
def SlQ.keep(h:SlQ w v k cs sz)(e:∀b,v.ownBlock=I b->w'.heap[b]?=w.heap[b]?)(y:w.heap.size<=w'.heap.size):SlQ w' v k cs sz:=by
 obtain⟨a,c,rfl,x,h⟩:=h;refine⟨a,c,Z,x,h.imp id λ⟨b,e1,d,p,q⟩=>?_⟩;subst e1;exact⟨b,Z,λj u C=>(iF (e b Z)).trans (d j u C),x6 p y,q⟩
def SlC.q(h:SlC w v k cs sz):SlQ w v k cs sz:=by
 rcases h with⟨rfl,rfl,rfl⟩|⟨b,c,rfl,d,e,j,p,_⟩
 ·exact⟨G,0,Z,x8 _,xF ⟨Z,Z,Z⟩⟩
 ·exact⟨_,c,Z,j,xR ⟨b,Z,d,e,p⟩⟩
def SlQ.c(h:SlQ w v k cs sz)(u:0<k):SlC w v k cs sz:=by
 obtain⟨a,c,rfl,q,h⟩:=h
 rcases h with⟨_,e,_⟩|⟨b,rfl,d,j,p⟩
 ·omega
 ·exact xR ⟨b,c,Z,d,j,q,p,u⟩
theorem tR.head{a:φ δ}(h:tR w a m (cs++cs') sz)(e:cs.length=k*sz)(q:k<=m):tR w a k cs sz:=by
 rcases h with⟨rfl,d,c⟩|⟨b,rfl,d,c,p⟩
 ·exact xF ⟨Z,by omega,(List.append_eq_nil_iff.1 c).1⟩
 ·exact xR ⟨b,Z,λj u x=>d j u (by grind),c,e⟩
end
theorem zFf(w:ξ)(t ty e:Γ)(i:TypeInfo)(z:ν)(size d:ι)(h1:prog.underlying t=I (.slice e))(h2:prog.info? e=I i)(h3:i.zero=I z)(h4:i.size=size)(h5:i.bytes=d)(h6:z.cells.size=size)(h7:0<size)(a:φ δ)(n m:ι)(x:ν)(q p:σ ν)(hs:tR w a n q size)(hx:SlC w x m p size)(aa:∀u∈p,u.oneCell'=N)(h0:0<n+m)(hn:n+m<100000)(ab:d<=1000):
  ∃y C w',(Builtin.append_ #[t,t] ty #[O a n n,x]).run π w=.ok (O y (n+m) C) w'/\SlC w' (O y (n+m) C) (n+m) (q++p) size/\ε w.heap.size w w'/\∀b,xW (O y (n+m) C)=I b->xW (O a n n)=I b\/w.heap.size<=b:=by
 have E:(n+m)*d<=140737488355328:=by
  have:(n+m)*d<=100000*1000:=Nat.mul_le_mul (by omega) ab;omega
 have fin:∀H w',w'.ownsRow w.heap.size e size H (n+m) (q++p)->w.grownBy w' G->0<n+m->∃y C,H=O y (n+m) C/\SlC w' (O y (n+m) C) (n+m) (q++p) size/\ε w.heap.size w w'/\∀b,xW (O y (n+m) C)=I b->xW (O a n n)=I b\/w.heap.size<=b:=λH w' X hg hk=>by
  obtain⟨y,C,rfl⟩:=nP X;exact⟨y,C,Z,SlC.own X hk,N7 hg,λb E=>xR (X.lt b E).1⟩
 rcases hx with⟨rfl,rfl,rfl⟩|⟨Y,cx,rfl,hc,lx,ad,W,hm⟩
 ·refine⟨a,n,w,?_,?_,x7 _ _,λb E=>xF (by simpa using E)⟩
  rotate_left
  ·rcases hs with⟨_,k1,_⟩|⟨b,rfl,k1,k2,k3⟩
   ·omega
   ·exact xR ⟨b,n,by simp,by simpa using k1,k2,by simp,by simpa using k3,by omega⟩
  simp_all [run_append_nothing,x8,Src.ofNil]
 ·have J:∀j u,p[j]?=I u->w.cell? ((⟨Y,0,G⟩:δ).add j)=I u:=λj u hu=>by rw[tK,xk];exact hc j u hu
  rcases hs with⟨rfl,rfl,rfl⟩|⟨bs,rfl,X,ls,ac⟩
  ·skip
   obtain⟨H,w',L,r1,r2,_⟩:=run_append_own (P:=π) w w.heap.size t ty e i z size d h1 h2 h3 h4 h5 h6 h7 (O G 0 0) 0 [] (x9 w _ e size) ⟨Y,0,G⟩ m cx p W J aa (by unfold θ;omega) (by simpa using E) (x8 _);obtain⟨y,C,rfl,k1,k2,k3⟩:=fin H w' r1 r2 (by omega)
   grind
  ·obtain⟨H,w',L,r1,r2⟩:=run_append_arg_grows (P:=π) w t ty e i z size d h1 h2 h3 h4 h5 h6 h7 ⟨bs,0,G⟩ n n q ac λj u hu=>by simp_all [tK,xk] ⟨Y,0,G⟩ m cx p W J (by omega) (by unfold θ;omega) E
   grind
def Lq{q:Act}{Q:Exit->Act->ξ->Prop}{E:Prop}(X:o.guard=G)(s y:Operand)(t:Γ)(ho:o.op=.call {callee:=.builtin .append,args:=#[s,y],argTypes:=#[t,t]})(e:Γ)(i:TypeInfo)(z:ν)(size d:ι)(h1:prog.underlying t=I (.slice e))(h2:prog.info? e=I i)(h3:i.zero=I z)(h4:i.size=size)(h5:i.bytes=d)(h6:z.cells.size=size)(h7:0<size)(a:φ δ)(n m:ι)(x:ν)(p j:σ ν)(Y:q.eval s=O a n n)(hs:tR w a n p size)(aa:q.eval y=x)(hx:SlC w x m j size)(L:∀u∈j,u.oneCell'=N)(h0:0<n+m)(hn:n+m<100000)(W:d<=1000)(hK:∀C H w',SlC w' (O C (n+m) H) (n+m) (p++j) size->ε w.heap.size w w'->(∀b,xW (O C (n+m) H)=I b->xW (O a n n)=I b\/w.heap.size<=b)->K (q.put o.dst (O C (n+m) H)) w'):
  if Region.wanted o (yielded ops q.tmps)=N then Oper.wp π o q w K Q else E:=by
 have hw:Region.wanted o (yielded ops q.tmps)=N:=by simp[Region.wanted,X]
 rw[if_pos hw];obtain⟨C,H,w',J,k1,k2,k3⟩:=zFf w t o.type e i z size d h1 h2 h3 h4 h5 h6 h7 a n m x p j hs hx L h0 hn W;unfold Oper.wp;simp[κ,ho,resolve,invoke,builtin,Y,aa,J,Result.andThen];exact hK C H w' k1 k2 k3
namespace J
structure Pth where
 e:σ E
 g:σ ω
structure Wd where
 es:σ E
 base:σ ω
 g:σ ω
def Wd.add(W:Wd)(p:Pth):Wd:=⟨W.es++p.e,W.base++[(W.es.length:ω)],W.g++p.g⟩
def Reach:H (H Pth)->Wd->Wd->Prop
 |[],W,W'=>W'=W
 |ps::r,W,W'=>∃p∈ps,Reach r (W.add p) W'
def sZ(l:H (H Pth))(W:Wd)(o:H u):Prop:=∃W',Reach l W W'/\sM W'.es W'.base W'.g 0 [] o
def sQ(l:H (H Pth))(W:Wd):Prop:=∃W',Reach l W W'/\tD W'.es W'.base 0 []
def tP{ps:H Pth}{r:H (H Pth)}{W:Wd}{o:H u}:sZ (ps::r) W o↔∃p∈ps,sZ r (W.add p) o:=by
 unfold sZ;constructor
 ·rintro⟨c,⟨p,j,d⟩,e⟩;exact⟨p,j,c,d,e⟩
 ·rintro⟨p,j,c,d,e⟩;exact⟨c,⟨p,j,d⟩,e⟩
def tI{ps:H Pth}{r:H (H Pth)}{W:Wd}:sQ (ps::r) W↔∃p∈ps,sQ r (W.add p):=by
 unfold sQ;constructor
 ·rintro⟨c,⟨p,j,d⟩,e⟩;exact⟨p,j,c,d,e⟩
 ·rintro⟨p,j,c,d,e⟩;exact⟨c,⟨p,j,d⟩,e⟩
structure FinOk(L:ι)(W:Wd):Prop where
 n:W.es.length<1000
 three:3<=W.es.length
 len:W.g.length+3=L
 small:L<=19
 pos:0<W.g.length
 rng:∀x∈W.g,0<=x/\x<4
 vals:∀i,i<W.es.length->0<=(ev W.es i).val/\(ev W.es i).val<4
 half:∀i,i<W.es.length->isStep (ev W.es i)=N->i+1<W.es.length
 onk:∀i,3<=i->i<W.es.length->OnOk W.es W.base i
end J
def iM(e:J.E)(on:d):H d:=[F M e.t,F M e.b,.string e.kind,F M e.loc,F M e.val,.string e.ord,.string e.scope,T e.half,F M e.round,on]
def XS:H J.E->H d->H d
 |e::es,o::os=>iM e o++XS es os
 |_,_=>[]
theorem FV:∀{es c:H J.E} {os d:H ν},os.length=es.length->XS (es++c) (os++d)=XS es os++XS c d
 |[],_,[],_,_=>Z
 |e::es,c,o::os,d,h=>by
  simp only[xu,XS];rw[FV (es:=es) (os:=os) (by simpa using h),List.append_assoc]
 |[],_,_::_,_,h=>by simp at h
 |_::_,_,[],_,h=>by simp at h
def SN:∀{es:H J.E} {os:H d},os.length=es.length->(XS es os).length=es.length*10
 |[],[],_=>Z
 |e::es,o::os,h=>by
  simp only[XS,xc,xv];rw[SN (es:=es) (os:=os) (by simpa using h)];simp[iM];omega
 |[],_::_,h=>by simp at h
 |_::_,[],h=>by simp at h
theorem Lr:∀{es:H J.E} {os:H d} {i f:p},os.length=es.length->i<es.length->f<10->(XS es os)[i*10+f]?=(iM (J.ev es i) (os.getD i (T U)))[f]?
 |e::es,o::os,0,f,h,_,hf=>by
  simp only[XS,Nat.zero_mul,xk];rw[xw (by simp[iM];omega)];rfl
 |e::es,o::os,i+1,f,h,hi,hf=>by
  simp only[XS];rw[List.getElem?_append_right (by simp[iM];omega)];have e1:(i+1)*10+f-(iM e o).length=i*10+f:=by simp[iM];omega
  rw[e1,Lr (es:=es) (os:=os) (by simpa using h) (by simpa using hi) hf];rfl
 |[],_,_,_,_,hi,_=>by simp at hi
 |_::_,[],_,_,h,_,_=>by simp at h
structure EvC(w:ξ)(D:ι->Prop)(v:ν)(es:σ J.E)(ons:σ ν):Prop where
 sl:SlC w v es.length (XS es ons) 10
 len:ons.length=es.length
 on:∀i,i<es.length->XT w D (ons.getD i (T U)) (J.ev es i).on
theorem EvC.sW{p q:ν}{d:σ J.E}{e:σ ν}(h:EvC w D p es os)(k:EvC w D q d e)(x:SlC w v (es.length+d.length) (XS es os++XS d e) 10):EvC w D v (es++d) (os++e):=by
 refine⟨by grind [FV,EvC.len],by simp[h.len,k.len],λi j=>?_⟩;by_cases c:i<es.length
 ·have e1:(os++e).getD i (T U)=os.getD i (T U):=by simp[xw (show i<os.length by rw[h.len];exact c)]
  have e2:J.ev (es++d) i=J.ev es i:=by grind [J.ev]
  grind [EvC.on]
 ·have u:i-es.length<d.length:=by rw[xc]at j;omega
  have e1:(os++e).getD i (T U)=e.getD (i-es.length) (T U):=by
   grind [EvC.len]
  have e2:J.ev (es++d) i=J.ev d (i-es.length):=by grind [J.ev]
  grind [EvC.on]
theorem EvC.jev{c:ι}(h:EvC w D (VV b n c) es os)(x:i<es.length):As w b (i*10) (J.ev es i)/\w.cell? ⟨b,i*10+9,G⟩=I (os.getD i (T U)):=by
 rcases h.sl with⟨e,_⟩|⟨p,d,e,j,_⟩
 ·cases e
 ·cases e;have k:∀f u,f<10->(iM (J.ev es i) (os.getD i (T U)))[f]?=I u->w.cell? ⟨b,i*10+f,G⟩=I u:=λf u q y=>j _ u (by grind [Lr,EvC.len])
  exact⟨⟨k 0 _ (by omega) Z,k 1 _ (by omega) Z,k 2 _ (by omega) Z,k 3 _ (by omega) Z,k 4 _ (by omega) Z,k 5 _ (by omega) Z,k 6 _ (by omega) Z,k 7 _ (by omega) Z,k 8 _ (by omega) Z⟩,k 9 _ (by omega) Z⟩
theorem PU(es:H J.E)(os:H d)(h:∀o∈os,o.oneCell'=N):∀u∈XS es os,u.oneCell'=N:=by
 induction es generalizing os with
 |nil=>intro u c;simp[XS]at c
 |cons e es ih =>
  cases os with
  |nil=>intro u c;simp[XS]at c
  |cons o os =>
   intro u c;simp only[XS,List.mem_append]at c
   rcases c with c|c
   ·simp only[iM,List.mem_cons,List.mem_nil_iff,or_false]at c
    rcases c with rfl|rfl|rfl|rfl|rfl|rfl|rfl|rfl|rfl|rfl
    all_goals first|rfl|exact h _ (by simp)
   grind
theorem XT.cT(h:XT w D v r):v.oneCell'=N:=by
 rcases h with⟨rfl,_⟩|⟨_,b,c,rfl,_⟩<;>rfl
structure PAt(w:ξ)(g z:ι)(p:J.Pth):Prop where
 zl:z<w.heap.size
 zn:z≠g
 e:∃ve ons,w.cell? ⟨z,0,G⟩=I ve/\EvC w (λk=>k=g) ve p.e ons/\ve.ownBlock≠I g
 r:∃vr,w.cell? ⟨z,1,G⟩=I vr/\SlC w vr p.g.length (WU p.g) 1/\vr.ownBlock≠I g
def zPr(w:ξ)(g:ι)(v:d)(ps:H J.Pth):Prop:=∃b cap,v=VV b ps.length cap/\b<w.heap.size/\b≠g/\∀k p,ps[k]?=I p->∃z,w.cell? ⟨b,k,G⟩=I (.pointer (I ⟨z,0,G⟩))/\PAt w g z p
def Au(w:ξ)(g:p)(v:d)(pss:H (H J.Pth)):Prop:=∃b cap,v=VV b pss.length cap/\b<w.heap.size/\b≠g/\∀t ps,pss[t]?=I ps->∃u,w.cell? ⟨b,t,G⟩=I u/\zPr w g u ps
structure BsAt(w:ξ)(B:ι)(v:ν)(l:σ ω):Prop where
 at_:v=O G 0 0/\l=[]\/∃b cap cur,v=VV b l.length cap/\Blk w b cur 3/\B<=b/\l.length<=cap/\cap<=cur.length/\∀j (h:j<l.length),cur[j]?=I (F M l[j])
section
variable {w w':ξ}{B:ι}{v:ν}{l:σ ω}
theorem BsAt.form(h:BsAt w B v l):∃a c,v=O a l.length c/\l.length<=c:=by
 grind [BsAt.at_]
def BsAt.keep(h:BsAt w B v l)(e:∀b,v.ownBlock=I b->w'.heap[b]?=w.heap[b]?):BsAt w' B v l:=by
 rcases h.at_ with k|⟨b,c,d,rfl,j,p⟩
 ·exact⟨xF k⟩
 ·exact⟨xR ⟨b,c,d,Z,j.keep (e b Z),p⟩⟩
def BsAt.lt(h:BsAt w B v l):∀b,v.ownBlock=I b->B<=b/\b<w.heap.size:=λb c=>by
 rcases h.at_ with⟨rfl,_⟩|⟨q,d,e,rfl,j,p,_⟩
 ·cases c
 ·cases c;exact⟨p,j.lt⟩
def BsAt.X(h:BsAt w B v l)(c:ε w.heap.size w w'):BsAt w' B v l:=h.keep λb e=>c.block b (h.lt b e).2
theorem BsAt.cut{a:φ δ}{c:ι}(h:BsAt w B (O a l.length c) l)(t:ι)(J:t<=l.length):BsAt w B (O a t c) (l.take t):=by
 have y:(l.take t).length=t:=by simp;omega
 rcases h.at_ with⟨e,rfl⟩|⟨b,p,d,e,q,u,C,x,E⟩
 ·grind
 ·cases e;exact⟨xR ⟨b,c,d,by rw[y],q,u,by omega,x,λj H=>by grind⟩⟩
end
theorem zEs(w:ξ){rest:σ γ}{Q:Exit->Act->ξ->Prop}(hg:o.guard=G)(s x:Operand)(aa:o.op=Op.call {callee:=Callee.builtin Builtin.append,args:=#[s,x],argTypes:=#[37,37]})(B:ι)(v:ν)(l:σ ω)(hs:a.eval s=v)(h:BsAt w B v l)(hB:B<=w.heap.size)(ad:δ)(c:ι)(u:ω)(hx:a.eval x=O (I ad) 1 c)(hu:w.cell? ad=I (F M u))(hn:l.length<100000)(hK:∀J E w',BsAt w' B (O J (l.length+1) E) (l++[u])->w.grownBy w' v.ownBlock->(∀b,xW (O J (l.length+1) E)=I b->v.ownBlock=I b\/w.heap.size<=b)->wpList π ops Q rest (a.put o.dst (O J (l.length+1) E)) w'):
  wpList π ops Q (o::rest) a w:=by
 obtain⟨q,hi,ab,ac,ae⟩:∃q,prog.info? 3=I q/\q.zero=I (F M 0)/\q.size=1/\q.bytes=8:=uV Tryz.XE;have Y:∀j u',([F M u]:σ ν)[j]?=I u'->w.cell? (ad.add j)=I u':=λj u' p=>by
  grind [Addr.add]
 have fin:∀C w',w'.ownsRow w.heap.size 3 1 C (l.length+1) (WU l++[F M u])->w.grownBy w' G->wpList π ops Q rest (a.put o.dst C) w':=λC w' H d=>by
  obtain⟨J,E,rfl⟩:=nP H;refine hK J E w' ⟨xR ?_⟩ ⟨d.os,d.tape,d.output,d.size,λk hk _=>d.block k hk (by simp)⟩ λb hb=>xR (H.lt b hb).1;have hl:(l++[u]).length=l.length+1:=by simp
  obtain⟨_,h⟩:=H
  rcases h with⟨_,h⟩|⟨g,c2,cu,e,ag,ai,aj,ak,al,am⟩
  ·omega
  ·refine⟨g,E,cu.toList,by grind,by simp_all [Blk],xl hB ag,by grind,by grind,λj p=>?_⟩;rw[hl]at p;have e2:(cu.toList.take ((l.length+1)*1))[j]?=cu.toList[j]?:=by grind
   have e3:WU l++[F M u]=WU (l++[u]):=by simp[WU]
   grind [WU]
 have W:(l.length+1)*8<=140737488355328:=by omega
 have X:l.length+1<=θ:=by unfold θ;omega
 rcases h.at_ with⟨rfl,rfl⟩|⟨b,L,af,rfl,h1,h2,h3,h4,h5⟩
 ·refine wpList_append_grows w hg s x 37 aa 3 q (F M 0) 1 8 ψ hi ab ac ae Z (by decide) G 0 0 [] hs (λ_=>⟨Z,Z⟩) Z (λb e=>by cases e) ad 1 c [F M u] hx Z Y (by simp[xx]) (by omega) X W λC w' H d=>?_;exact fin C w' (by grind [WU]) d
 ·refine wpList_append_arg w hg s x 37 aa 3 q (F M 0) 1 8 ψ hi ab ac ae Z (by decide) b 0 l.length L (WU l) hs (by simp[WU]) (λj u' p=>?_) ad 1 c [F M u] hx Z Y (by simp[xx]) (λhr j p=>?_) X W (λhr=>?_) λhr C w' H d=>fin C w' H d
  ·unfold WU at p;rw[List.getElem?_map]at p;obtain⟨y,hy,rfl⟩:=Option.map_eq_some_iff.1 p;obtain⟨ah,rfl⟩:=List.getElem?_eq_some_iff.1 hy;rw[xk];exact h1.cell (h5 j ah)
  ·grind [Blk.free,Blk.cell]
  ·have e1:w.setCells b (0+l.length*1) [F M u]=w.setCell ⟨b,l.length,G⟩ (F M u):=by simp[World.setCells]
   rw[e1];refine hK _ _ _ ⟨xR ⟨b,L,af.set l.length (F M u),by simp,h1.set _ _,h2,by simpa using hr,by simpa using h4,λj p=>?_⟩⟩ (kZ (nJ _ _) _ _) λb' hb=>xF hb
   grind
structure YW(w0 w:ξ)(D:ι->Prop)(g:ι)(pv ev rv bv fv av ov:ν)(pss:σ (σ J.Pth))(W:J.Wd)(X:σ J.E)(Y:σ ω)(ons:σ ν)(L:ι)(rs:σ (σ ω))(c:ζ)(bl:σ ω):Prop where
 old:JX (λk=>k=g) w0 w
 ps:Au w0 g pv pss
 gl:g<w0.heap.size
 blk:Blk w g (jw N pv ev rv bv fv av ov c) 109
 K:EvC w D ev (W.es++X) ons
 evo:∀b,ev.ownBlock=I b->¬D b
 rg:SlQ w rv (W.g++Y).length (WU (W.g++Y)) 1
 rgo:∀b,rv.ownBlock=I b->¬D b
 bs:BsAt w w0.heap.size bv bl
 bll:W.base.length<=bl.length
 bp:bl.take W.base.length=W.base
 bd:∀b,bv.ownBlock=I b->D b
 y:ZE w D ov rs
 rise:YX rs
 ok:∀r∈rs,J.Ok L r
 low:∀x,D x->x<w.heap.size
 dg:D g
 dlow:∀x,D x->x=g\/w0.heap.size<=x
 e3:3<=W.es.length
 en:W.es.length<=3+100*W.base.length
 rn:W.g.length=4*W.base.length
 pk:∀ps∈pss,∀p∈ps,p.e.length<=100/\p.g.length=4
 pl:∀ps∈pss,ps.length<=1000
def SlC.x{P:ι->Prop}{cs:σ ν}(h:SlC w v k cs sz)(c:JX P w w')(d:∀b,v.ownBlock=I b->¬P b):SlC w' v k cs sz:=h.keep (λb e=>c.block b (h.lt b e) (d b e)) c.size
def XT.of(h:XT w D v r)(c:∀x,x<w.heap.size->D' x->D x):XT w D' v r:=h.imp id λk=>⟨k.1,k.2.of c⟩
def SlQ.x{P:ι->Prop}{cs:σ ν}(h:SlQ w v k cs sz)(c:JX P w w')(d:∀b,v.ownBlock=I b->¬P b):SlQ w' v k cs sz:=h.keep (λb e=>c.block b (h.lt b e) (d b e)) c.size
def EvC.x{P:ι->Prop}(h:EvC w D v es os)(c:JX P w w')(j:∀b,v.ownBlock=I b->¬P b)(d:∀x,x<w.heap.size->P x->D x):EvC w' D v es os:=⟨h.sl.x c j,h.len,λi e=>(h.on i e).x c d⟩
def EvC.of(h:EvC w D v es os)(d:∀x,x<w.heap.size->D' x->D x):EvC w D' v es os:=⟨h.sl,h.len,λi c=>(h.on i c).of d⟩
def zOA(w0 w w':ξ)(D:p->Prop)(g:p)(pv:d)(pss:H (H J.Pth))(W:J.Wd)(L:p)(rs:H (H u))(c:ζ)(P:H u->Prop)(C:Prop):Prop :=
 ∃D' ev' rv' bv' fv' av' ov' rs' c' ons' bl',YW w0 w' D' g pv ev' rv' bv' fv' av' ov' pss W [] [] ons' L rs' c' bl'/\(∀x,D x->D' x)/\(∀x,D' x->D x\/w.heap.size<=x)/\JX D w w'/\J.Grew L rs rs' c c' P C
def MS(w0:ξ)(g:p)(pv:d)(pss:H (H J.Pth))(L:p)(t:p):Prop :=
 ∀(w:ξ) (D:p->Prop) (ev rv bv fv av ov:d) (W:J.Wd) (ons:H d) (rs:H (H u)) (c:ζ),YW w0 w D g pv ev rv bv fv av ov pss W [] [] ons L rs c W.base->W.base.length=t->(∀W',J.Reach (pss.drop t) W W'->J.FinOk L W') ->
  Calls π 40 #[.pointer (I ⟨g,0,G⟩),F M (t:u)] w λe w'=>e=.returned (.tuple #[])/\zOA w0 w w' D g pv pss W L rs c (J.sZ (pss.drop t) W) (J.sQ (pss.drop t) W)
theorem zJW(n:p)(c:n<1000):∀w,(Instr.makeSlice 37 (F M (n:u)) (F M (n:u))).run π w=.ok (VV w.heap.size n n) (w.alloc (V (WU (x5 n 0)).toArray 3)):=λw=>by
 have e:(WU (x5 n 0)).toArray=madeCells #[F M 0] n:=by grind [GU,WU]
 rw[e];exact run_make_row' 37 3 (F M 0) 8 ψ Tryz.XE rfl M M n (by omega) (by omega) w
theorem YW.jr{w2:ξ}{H ce:ι}{rv Y fv av ov:ν}{pss:σ (σ J.Pth)}{W:J.Wd}{L:ι}{rs:σ (σ ω)}{c:ζ}(h:YW w0 w D g pv (VV H W.es.length ce) rv Y fv av ov pss W [] [] ons L rs c W.base)(j:J.FinOk L W)(ad:0<W.base.length)(E:JX (λk=>k=g) w w2)(p:Blk w2 g (jw N pv (VV H W.es.length ce) rv Y (VV w.heap.size W.es.length W.es.length) (VV (w.heap.size+1) W.es.length W.es.length) ov c) 109)(hf:Blk w2 w.heap.size (WU (x5 W.es.length 0)) 3)(ha:Blk w2 (w.heap.size+1) (WU (x5 W.es.length 0)) 3):
  JR w2 (λk=>D k\/k=w.heap.size\/k=w.heap.size+1) g H ce w.heap.size W.es.length (w.heap.size+1) W.es.length W.es (x5 W.es.length 0) (x5 W.es.length 0) W.base W.g pv rv Y ov L rs c:=by
 have lt:∀x,x<w.heap.size->D x\/x=w.heap.size\/x=w.heap.size+1->D x:=λx E e=>e.elim id λe=>by omega
 have X:=h.K;rw[xd]at X;have d:EvC w2 (λk=>D k\/k=w.heap.size\/k=w.heap.size+1) (VV H W.es.length ce) W.es ons:=(X.of lt).x E (λb p e=>h.evo b p (by rw[e];exact h.dg)) λx _ e=>xF (by rw[e];exact h.dg);have C:=h.rg;rw[xd]at C;have ab:ZH w2 (λk=>D k\/k=w.heap.size\/k=w.heap.size+1) rv W.g:=by
  have k:=(C.x E λb p e=>h.rgo b p (by rw[e];exact h.dg)).c j.pos;have ll:=C.lt;have ro:=h.rgo;have hp:=j.pos
  rcases k with⟨_,k2,_⟩|⟨b,u,rfl,k1,k2,_⟩
  ·omega
  ·refine⟨b,u,Z,λi q=>k1 i _ (by simp[WU,q]),k2,?_⟩;rintro(e|e)
   ·exact ro b Z e
   ·have:=ll b Z;omega
 have aa:BsAt w2 w0.heap.size Y W.base:=h.bs.keep (λb p=>E.block b (h.bs.lt b p).2 λe=>by have:=(h.bs.lt b p).1;have:=h.gl;omega);refine⟨p,λi q=>(d.jev q).1,?_,j.n,λi q=>⟨_,(d.jev q).2,d.on i q⟩,hf,by simp,ha,J.AtOk.start _,ab,?_,?_,h.rise,h.ok,j.len,j.small,j.pos,j.rng,j.vals,j.half,j.three,?_,xF h.dg,xR (xF Z),xR (xR Z),by omega,j.onk⟩
 ·exact d.sl.lt H Z
 ·have l1:=h.bs.lt;have l2:=h.gl
  rcases aa.at_ with⟨_,e⟩|⟨b,u,ac,rfl,k1,k2,k3,k4,k5⟩
  ·grind
  ·have:=l1 b Z;exact⟨b,u,Z,λi q=>k1.cell (k5 i q),k1.lt,by omega⟩
 ·exact(h.y.of lt).x E λx _ e=>xF (by rw[e];exact h.dg)
 ·rintro x (e|rfl|rfl)
  ·exact x6 (h.low x e) E.size
  ·exact hf.lt
  ·exact ha.lt
theorem zGZ{pss:σ (σ J.Pth)}{L:ι}(hp:0<pss.length):MS w0 g pv pss L pss.length:=by
 intro w D ev rv bv fv av ov W ons rs c h ht hF;have C:J.FinOk L W:=hF W (by rw[xp];rfl);have hn:=C.n;have h3:=C.three;have az:=zJW W.es.length hn;have ap:∃ge ce,ev=VV ge W.es.length ce:=by
  have k:=h.K.sl;rw[xd]at k
  rcases k with⟨_,k,_⟩|⟨b,ac,e,_⟩
  ·omega
  ·exact⟨b,ac,e⟩
 obtain⟨ge,ce,rfl⟩:=ap;have aq:∃gp cp,pv=VV gp pss.length cp:=by
  obtain⟨b,ac,e,_⟩:=h.ps;exact⟨b,ac,e⟩
 obtain⟨gp,cp,rfl⟩:=aq;have c1:=h.blk.cell (i:=1) (v:=VV gp pss.length cp) Z;have c2:=h.blk.cell (i:=2) (v:=VV ge W.es.length ce) Z;have c5:=h.blk.cell (i:=5) (v:=fv) Z;have c6:=h.blk.cell (i:=6) (v:=av) Z;have f5:=h.blk.free 5;have f6:=h.blk.free 6;have lg:=h.blk.lt;have H:=aD h;have ak:=aD C;have an:=aD ht;have am:=aD hp;clear h hF C ht hp;have d:=λx1 x2 x3 x4=>Lp (pv:=VV gp pss.length cp) (rv:=rv) (bv:=bv) (L:=L) W.es.length 0 (by omega) _ ov rs c _ _ (H.jr (w2:=(((w.setCell ⟨g,5,G⟩ (VV w.heap.size W.es.length W.es.length)).setCell ⟨g,6,G⟩ (VV (w.heap.size+1) W.es.length W.es.length)).alloc (V (WU (x5 W.es.length 0)).toArray 3)).alloc (V (WU (x5 W.es.length 0)).toArray 3)) ak (by rw[an.o];exact am) x1 x2 x3 x4) λj E=>ο E (xi _)
 generalize ad:(w.setCell ⟨g,5,G⟩ (VV w.heap.size W.es.length W.es.length)).setCell ⟨g,6,G⟩ (VV (w.heap.size+1) W.es.length W.es.length)=u at d;have ag:u.heap.size=w.heap.size:=by rw[<- ad];simp
 have aj:JX (λk=>k=g) w u:=by grind [JX.set,JX.refl]
 have ai:Blk u g (jw N (VV gp pss.length cp) (VV ge W.es.length ce) rv bv (VV w.heap.size W.es.length W.es.length) (VV (w.heap.size+1) W.es.length W.es.length) ov c) 109:=by rw[<- ad];exact(H.blk.set 5 _).set 6 _
 have n1:=Blk.new u (WU (x5 W.es.length 0)) 3;have n2:=Blk.new (u.alloc (V (WU (x5 W.es.length 0)).toArray 3)) (WU (x5 W.es.length 0)) 3;rw[ag]at n1;rw[show(u.alloc (V (WU (x5 W.es.length 0)).toArray 3)).heap.size=w.heap.size+1 by simp[ag]]at n2;have ae:ε u.heap.size u ((u.alloc (V (WU (x5 W.es.length 0)).toArray 3)).alloc (V (WU (x5 W.es.length 0)).toArray 3)):=(bB).alloc (by simp) _;have ab:aC (JX (λk=>k=g) w ((u.alloc (V (WU (x5 W.es.length 0)).toArray 3)).alloc (V (WU (x5 W.es.length 0)).toArray 3))):=aj.X ae;have aa:=aD (d ab (ai.X ae) (n1.alloc _) n2);subst ad;clear d ag aj ai n1 n2 ae;have aA:((pss.length:ω)==(pss.length:ω))=N:=by simp
 go_in;go_wp2_with(first
  |(go_at_call 77;refine Calls.mono aa ?_;rintro e w5 ⟨rfl,au,aw,ao,ay,ax,(q:aC _),af,(ah:aC _),(al:aC _)⟩;clear af))
 refine υ (results_none Z _ _ _) Z ?_;have ar:JX D w w5:=(ab.mono (P':=D) λx _ e=>by rw[e];exact H.dg).trans ah λx hx e=>by
  rcases e with e|e|e
  ·rw[e];exact H.dg
  ·omega
  ·omega
 have Y:JX (λk=>k=g) w w5:=ab.trans ah λx hx e=>by
  omega
 have lt:∀x,x<w.heap.size->D x\/x=w.heap.size\/x=w.heap.size+1->D x:=λx hx e=>e.elim id λe=>by omega
 refine⟨Z,λk=>D k\/k=w.heap.size\/k=w.heap.size+1,_,_,_,_,_,au,aw,ao,ons,W.base,⟨?_,H.ps,H.gl,q.blk,?_,?_,?_,?_,?_,x8 _,by simp,λb p=>xF (H.bd b p),q.y,q.rise,q.ok,q.low,xF H.dg,?_,H.e3,H.en,H.rn,H.pk,H.pl⟩,λx e=>xF e,?_,ar,al.to (λo=>?_) ?_⟩
 ·exact H.old.trans Y λ_ _ e=>e
 ·exact(H.K.of lt).x Y (λb p e=>H.evo b p (by rw[e];exact H.dg)) λx _ e=>xF (by rw[e];exact H.dg)
 ·rintro b p (e|e)
  ·exact H.evo b p e
  ·have:=H.K.sl.lt b p;omega
 ·exact H.rg.x Y λb p e=>H.rgo b p (by rw[e];exact H.dg)
 ·rintro b p (e|e)
  ·exact H.rgo b p e
  ·have:=H.rg.lt b p;omega
 ·exact H.bs.keep λb p=>Y.block b (H.bs.lt b p).2 λe=>by have:=(H.bs.lt b p).1;have:=H.gl;omega
 ·have:=H.old.size;rintro x (e|e|e)
  ·exact H.dlow x e
  ·omega
  ·omega
 ·grind
 ·unfold J.sZ;rw[xp];constructor
  ·intro k;exact⟨W,Z,(J.iA _ _ λj E=>ο E (xi _)).1 k⟩
  ·rintro⟨W',rfl,k⟩;exact(J.iA _ _ λj E=>ο E (xi _)).1 k
 ·unfold J.sQ;rw[xp];constructor
  ·intro k;exact⟨W,Z,(J.iI λj E=>ο E (xi _)).1 k⟩
  ·rintro⟨W',rfl,k⟩;exact(J.iI λj E=>ο E (xi _)).1 k
section
variable {w0 w w':ξ}{D:ι->Prop}{g:ι}{pv ev rv bv fv av ov:ν}{pss:σ (σ J.Pth)}{W:J.Wd}{X0:σ J.E}{Y:σ ω}{ons:σ ν}{L:ι}{rs:σ (σ ω)}{c:ζ}{bl:σ ω}
def YW.QW(h:YW w0 w D g pv ev rv bv fv av ov pss W X0 Y ons L rs c bl):∀b,bv.ownBlock=I b->b≠g:=λb d e=>by have:=(h.bs.lt b d).1;have:=h.gl;omega
def YW.eW(h:YW w0 w D g pv ev rv bv fv av ov pss W X0 Y ons L rs c bl){d j:ν}{X':σ J.E}{C:σ ω}{p:σ ν}(u:JX (λk=>k=g) w w')(q:Blk w' g (jw N pv d j bv fv av ov c) 109)(he:EvC w' D d (W.es++X') p)(H:∀b,d.ownBlock=I b->¬D b)(hr:SlQ w' j (W.g++C).length (WU (W.g++C)) 1)(aa:∀b,j.ownBlock=I b->¬D b):YW w0 w' D g pv d j bv fv av ov pss W X' C p L rs c bl :=
 ⟨h.old.trans u λ_ _ e=>e,h.ps,h.gl,q,he,H,hr,aa,h.bs.keep λb q=>u.block b (h.bs.lt b q).2 (h.QW b q),h.bll,h.bp,h.bd,h.y.x u λx _ e=>by rw[e];exact h.dg,h.rise,h.ok,λx e=>x6 (h.low x e) u.size,h.dg,h.dlow,h.e3,h.en,h.rn,h.pk,h.pl⟩
def YW.evx(h:YW w0 w D g pv ev rv bv fv av ov pss W X0 Y ons L rs c bl)(j:JX (λk=>k=g) w w'):EvC w' D ev (W.es++X0) ons:=h.K.x j (λb d e=>h.evo b d (by rw[e];exact h.dg)) λx _ e=>by rw[e];exact h.dg
def YW.rgx(h:YW w0 w D g pv ev rv bv fv av ov pss W X0 Y ons L rs c bl)(j:JX (λk=>k=g) w w'):SlQ w' rv (W.g++Y).length (WU (W.g++Y)) 1:=h.rg.x j λb d e=>h.rgo b d (by rw[e];exact h.dg)
def YW.X(h:YW w0 w D g pv ev rv bv fv av ov pss W X0 Y ons L rs c bl)(d:ε w.heap.size w w'):YW w0 w' D g pv ev rv bv fv av ov pss W X0 Y ons L rs c bl :=
 h.eW (JX.of d) (h.blk.X d) (h.evx (JX.of d)) h.evo (h.rgx (JX.of d)) h.rgo
def YW.base{q:φ δ}{C:ι}{j:ξ}{u:ω}(h:YW w0 w D g pv ev rv bv fv av ov pss W X0 Y ons L rs c bl)(H:BsAt j w0.heap.size (O q (W.base.length+1) C) (W.base++[u]))(hg:∀k,k<w.heap.size->bv.ownBlock≠I k->j.heap[k]?=w.heap[k]?)(p:j.os=w.os/\j.tape=w.tape/\j.output=w.output/\w.heap.size<=j.heap.size)(hn:∀b,xW (O q (W.base.length+1) C)=I b->bv.ownBlock=I b\/w.heap.size<=b):
  YW w0 (j.setCell ⟨g,4,G⟩ (O q (W.base.length+1) C)) (λk=>D k\/xW (O q (W.base.length+1) C)=I k) g pv ev rv (O q (W.base.length+1) C) fv av ov pss W X0 Y ons L rs c (W.base++[u]):=by
 have aa:JX D w j:=⟨p.1,p.2.1,p.2.2.1,p.2.2.2,λk hk hd=>hg k hk λe=>hd (h.bd k e)⟩;have E:JX D w (j.setCell ⟨g,4,G⟩ (O q (W.base.length+1) C)):=JX.set aa (xF h.dg) _ _;have J:j.heap[g]?=w.heap[g]?:=hg g h.blk.lt λe=>h.QW g e Z;have lt:∀x,x<w.heap.size->D x\/xW (O q (W.base.length+1) C)=I x->D x:=λx E e=>e.elim id λe=>(hn x e).elim (h.bd x) λk=>by omega
 refine⟨?_,h.ps,h.gl,(h.blk.keep J).set 4 _,?_,?_,?_,?_,?_,by simp,by simp,λb e=>xR e,?_,h.rise,h.ok,?_,xF h.dg,?_,h.e3,h.en,h.rn,h.pk,h.pl⟩
 ·refine h.old.trans E λx ab e=>?_
  rcases h.dlow x e with k|k
  ·exact k
  ·omega
 ·exact(h.K.of lt).x (P:=D) E (λb d e=>h.evo b d e) λx _ e=>xF e
 ·rintro b d (e|e)
  ·exact h.evo b d e
  ·exact h.evo b d (lt b (h.K.sl.lt b d) (xR e))
 ·exact h.rg.x E λb d e=>h.rgo b d e
 ·rintro b d (e|e)
  ·exact h.rgo b d e
  ·exact h.rgo b d (lt b (h.rg.lt b d) (xR e))
 ·exact H.keep λb d=>xq _ _ _ _ λe=>by have:=(H.lt b d).1;have:=h.gl;simp only at e;omega
 ·exact(h.y.of lt).x (P:=D) E λx _ e=>xF e
 ·rintro x (e|e)
  ·exact x6 (h.low x e) E.size
  ·have:=(H.lt x e).2;simpa using this
 ·rintro x (e|e)
  ·exact h.dlow x e
  ·exact xR (H.lt x e).1
theorem YW.up{p:J.Pth}(h:YW w0 w D g pv ev rv bv fv av ov pss W p.e p.g ons L rs c (W.base++[(W.es.length:ω)]))(d:p.e.length<=100/\p.g.length=4):YW w0 w D g pv ev rv bv fv av ov pss (W.add p) [] [] ons L rs c (W.add p).base :=
 ⟨h.old,h.ps,h.gl,h.blk,by simpa[J.Wd.add]using h.K,h.evo,by simpa[J.Wd.add]using h.rg,h.rgo,h.bs,x8 _,by simp,h.bd,h.y,h.rise,h.ok,h.low,h.dg,h.dlow,by grind [YW.e3,J.Wd.add],by grind [YW.en,J.Wd.add],by grind [YW.rn,J.Wd.add],h.pk,h.pl⟩
theorem YW.iY{p:J.Pth}(h:YW w0 w D g pv ev rv bv fv av ov pss (W.add p) [] [] ons L rs c bl)(q:3<=W.es.length)(u:W.es.length<=3+100*W.base.length)(x:W.g.length=4*W.base.length):YW w0 w D g pv ev rv bv fv av ov pss W p.e p.g ons L rs c bl:=by
 have j:=h.bll;have d:=h.bp;simp only[J.Wd.add,xc,xv,List.length_nil]at j d;refine⟨h.old,h.ps,h.gl,h.blk,by simpa[J.Wd.add]using h.K,h.evo,by simpa[J.Wd.add]using h.rg,h.rgo,h.bs,by omega,?_,h.bd,h.y,h.rise,h.ok,h.low,h.dg,h.dlow,q,u,x,h.pk,h.pl⟩;have:=congrArg (List.take W.base.length) d
 grind
end
def Ls(a:φ δ)(s:p):a.map (·.add (0*s))=a:=by
 cases a with
 |none=>rfl
 |some x=>simp only[Nat.zero_mul,xr];congr 1
def Lt(p:prog.underlying t=I (.slice (prog.elem t)))(j:∀d,(sizeOf (prog.elem t)).run π d=.ok s d)(a:φ δ)(len c n:ι)(q:n<=c):∀d,(xe t (O a len c) G (I (F M (n:u))) (I (F M (n:u)))).run π d=.ok (O a n n) d:=λd=>by
 have e:=run_slice_hm (w:=d) (P:=π) t a len c p M M (n:u) (n:u) (by omega) (Int.le_refl _) (by omega);rw[e,j,xy];unfold sliced;rw[Ls];simp
def Lu(p:prog.underlying t=I (.slice (prog.elem t)))(j:∀d,(sizeOf (prog.elem t)).run π d=.ok s d)(a:φ δ)(len c n:ι)(q:n<=c):∀d,(xe t (O a len c) G (I (F M (n:u))) G).run π d=.ok (O a n c) d:=λd=>by
 have e:=run_slice_h (w:=d) (P:=π) t a len c p M (n:u) (by omega) (by omega);rw[e,j,xy];unfold sliced;rw[Ls];simp
def Tryz.infoE:(prog.info? 116).map (λi=>(i.zero,i.size,i.bytes))=I (I (.agg (iM J.E.zero (O G 0 0)).toArray),10,120):=by kernel_rfl
def slE(a:φ δ)(len c n:p)(e:n<=c):∀d,(xe 107 (O a len c) G (I (F M (n:u))) (I (F M (n:u)))).run π d=.ok (O a n n) d:=Lt (s:=10) (by kernel_rfl) (λd=>by kernel_rfl) a len c n e
def slI(a:φ δ)(len c n:p)(e:n<=c):∀d,(xe 37 (O a len c) G (I (F M (n:u))) (I (F M (n:u)))).run π d=.ok (O a n n) d:=Lt (s:=1) (by kernel_rfl) (λd=>by kernel_rfl) a len c n e
def zPV(a:φ δ)(len c n:p)(e:n<=c):∀d,(xe 107 (O a len c) G (I (F M (n:u))) G).run π d=.ok (O a n c) d:=Lu (s:=10) (by kernel_rfl) (λd=>by kernel_rfl) a len c n e
def Lv(a:φ δ)(len c n:p)(e:n<=c):∀d,(xe 37 (O a len c) G (I (F M (n:u))) G).run π d=.ok (O a n c) d:=Lu (s:=1) (by kernel_rfl) (λd=>by kernel_rfl) a len c n e
def tQ(a:φ δ)(n c e d:p):xW (O a n c)=xW (O a e d):=by cases a<;>rfl
theorem GN(a b:H u):WU (a++b)=WU a++WU b:=by simp[WU]
theorem zJX:∀(es:H J.E) (X:H J.E) (ons:H d),ons.length=(es++X).length->XS (es++X) ons=XS es (ons.take es.length)++XS X (ons.drop es.length):=λes X ons h=>by
 grind [List.take_append_drop,FV]
theorem EvC.head{a:φ δ}{c:ι}{X:σ J.E}(h:EvC w D (O a n c) (es++X) ons)(x:0<es.length)(H:es.length<=c):EvC w D (O a es.length c) es (ons.take es.length):=by
 have L:=h.len;have d:(ons.take es.length).length=es.length:=by grind
 have p:=h.sl;rw[zJX es X ons L]at p;refine⟨?_,d,λi hi=>?_⟩
 ·rcases p with⟨_,k,_⟩|⟨b,q,e,y,C,W,Y,h5⟩
  ·grind
  ·cases e;exact xR ⟨b,c,Z,λj u hu=>y j u (by grind),C,H,SN d,x⟩
 ·have:=h.on i (by simp;omega)
  grind [J.ev]
def zNO(h:EvC w D v es ons):∀o∈ons,o.oneCell'=N:=λo d=>by
 obtain⟨i,c,rfl⟩:=List.mem_iff_getElem.1 d;have:=h.on i (by rw[<- h.len];exact c);have e:ons.getD i (T U)=ons[i]:=by simp[c]
 rw[e]at this;exact this.cT
def zNP{p:J.Pth}(h:PAt w0 g z p)(d:JX (λk=>k=g) w0 w):∃j q ons,w.cell? ⟨z,0,G⟩=I j/\w.cell? ⟨z,1,G⟩=I q/\z<w.heap.size/\EvC w (λk=>k=g\/w0.heap.size<=k) j p.e ons/\(∀b,j.ownBlock=I b->b<w0.heap.size/\b≠g)/\SlC w q p.g.length (WU p.g) 1/\∀b,q.ownBlock=I b->b<w0.heap.size/\b≠g:=by
 obtain⟨j,ons,e1,e2,e3⟩:=h.e;obtain⟨q,E,u,y⟩:=h.r;refine⟨j,q,ons,(iF (d.block z h.zl h.zn)).trans e1,(iF (d.block z h.zl h.zn)).trans E,x6 h.zl d.size,?_,λb c=>⟨e2.sl.lt b c,λe=>e3 (by rw[c,e])⟩,u.x d λb c e=>y (by rw[c,e]),λb c=>⟨u.lt b c,λe=>y (by rw[c,e])⟩⟩;exact(e2.of (D':=λk=>k=g\/w0.heap.size<=k) λx C e=>e.elim id λe=>by omega).x d (λb c e=>e3 (by rw[c,e])) λx _ e=>xF e
theorem zGj{pss:σ (σ J.Pth)}{L t:ι}(ht:t<pss.length)(hT:pss.length<=4)(IH:MS w0 g pv pss L (t+1)):MS w0 g pv pss L t:=by
 intro w D ev rv bv fv av ov W ons rs c h bL hF;obtain⟨i0,hi,cF,cG,cH⟩:=uV Tryz.infoE;obtain⟨j0,ji,cI,cJ,cL⟩:∃i0,prog.info? 3=I i0/\i0.zero=I (F M 0)/\i0.size=1/\i0.bytes=8:=uV Tryz.XE;have db:=h.gl;have cz:=h.ps;obtain⟨gp,cp,rfl,bU,cP,bM⟩:=cz;obtain⟨pu,bN,bP⟩:=bM t pss[t] (xm ht);obtain⟨gq,cq,rfl,bV,cQ,bO⟩:=bP;have cf:=aD bO;have bg:aC (pss.drop t=pss[t]::pss.drop (t+1)):=List.drop_eq_getElem_cons ht;have bz:aC (pss[t]∈pss):=List.getElem_mem ht;generalize pss[t]=ps at*;have H:=aD h;have HF:=aD hF;have cc:=aD IH;have aj:=aD bL;have df:=lI ht;have aQ:((t:ω)==(pss.length:ω))=U:=by simp;omega
 have c1:=h.blk.cell (i:=1) (v:=VV gp pss.length cp) Z;have cw:=h.K.sl.form;obtain⟨ea,ec,rfl,cv⟩:=cw;have cD:=h.rg;obtain⟨ra,rc,rfl,cB,_⟩:=cD;simp only[xd]at cv cB;have c2:=h.blk.cell (i:=2) (v:=O ea W.es.length ec) (by simp[jw]);have c3:=h.blk.cell (i:=3) (v:=O ra W.g.length rc) (by simp[jw]);have lg:=h.blk.lt;have dc:=h.pl ps bz;clear h hF IH bL bO bM;go_in;go_wp2;clear c1 c2 c3 lg;go_loopw[6] (λq wr=>∃(k:ι) (D2:ι->Prop) (bI bo bi aA az aK:ν) (X:σ J.E) (Y:σ ω) (y:σ ν) (au:σ (σ ω)) (ap:ζ) (ao:σ ω),k<=ps.length/\q=F M k/\aC (YW w0 wr D2 g (VV gp pss.length cp) bI bo bi aA az aK pss W X Y y L au ap ao)/\aC (∀x,D x->D2 x)/\aC (∀x,D2 x->D x\/w.heap.size<=x)/\aC (JX D w wr)/\aC (J.Grew L rs au c ap (λo=>∃(j:ι) (p:J.Pth),j<k/\ps[j]?=I p/\J.sZ (pss.drop (t+1)) (W.add p) o) (∃(j:ι) (p:J.Pth),j<k/\ps[j]?=I p/\J.sQ (pss.drop (t+1)) (W.add p)))) λq _=>ps.length-(intOf q).toNat
 case atStart =>
  refine⟨0,D,_,_,bv,fv,av,ov,[],[],ons,rs,c,W.base,Nat.zero_le _,Z,H,λ_ e=>e,λ_ e=>xF e,JX.refl _ _,(J.Grew.refl H.rise H.ok).to (λo=>?_) ?_⟩
  ·grind
  grind
 case round =>
  obtain⟨k,D2,bI,bo,bi,aA,az,aK,X,Y,y,au,ap,ao,hk,rfl,u,br,aL,HX,HG⟩:=hrel;have c1:=u.blk.cell (i:=1) (v:=VV gp pss.length cp) Z;have lg:=u.blk.lt;have p1:=(iF (i:=t) (u.old.block gp bU cP)).trans bN;have lp:=x6 bU u.old.size;by_cases hkt:k<ps.length
  ·have cy:=lI hkt;have ar:ps[k]?=I ps[k]:=xm hkt;obtain⟨z,hz,(bw:aC _)⟩:=cf.o k ps[k] ar;have p2:=(iF (i:=k) (u.old.block gq bV cQ)).trans hz;have lq:=x6 bV u.old.size;have an:=aD ar;clear hz ar;generalize ps[k]=p at*;obtain⟨ba,bc,rfl,ct⟩:=u.bs.form;have q4:=u.blk.cell (i:=4) (v:=O ba ao.length bc) Z;have f4:=u.blk.free 4;have bQ:t<=bc:=by have:=u.bll;rw[aj.o]at this;omega
   have s1:=Lv ba ao.length bc t bQ;have bq:aC (BsAt wr w0.heap.size (O ba t bc) W.base):=by
    have k1:=u.bs.cut t (by have:=u.bll;rw[aj.o]at this;exact this);have k2:=u.bp;rw[aj.o]at k2;rw[k2]at k1;exact k1
   generalize bK:ao.length=nb at*;have cX:=aD bK;clear bK ct;go_wp2_with(first
    |(at_builtin;refine zEs _ Z (.tmp 74) (.tmp 76) Z w0.heap.size _ W.base Z ?b1 ?b2 ⟨wr.heap.size,0,G⟩ 1 (W.es.length:ω) Z ?b3 ?b4 ?_))
   case b1=>exact bq.X bB
   case b2=>exact xl u.old.size (by simp)
   case b3=>exact(Blk.new wr [F M (W.es.length:ω)] 3).cell Z
   case b4=>have:=aj.o;omega
   intro a1 ae w1 bJ aa bm;have al:=u.X ((x7 wr.heap.size wr).alloc (x8 _) (V #[F M (W.es.length:ω)] 3));have bl:w1.heap[g]?=(wr.alloc (V #[F M (W.es.length:ω)] 3)).heap[g]?:=aa.block g al.blk.lt λe=>al.QW g ((tQ _ _ _ _ _).trans e.symm) Z;have cT:=(iF (i:=4) bl).trans (al.blk.cell (i:=4) (v:=O ba nb bc) Z);have co:w1.frozen? ⟨g,4,G⟩=U:=(World.frozen?_of_block (a:=⟨g,4,G⟩) bl).trans (al.blk.free 4);have cM:=x6 al.blk.lt aa.size;have d:=aD (al.base bJ (λx hx aQ=>aa.block x hx λe=>aQ ((tQ _ _ _ _ _).trans e.symm)) ⟨aa.os,aa.tape,aa.output,aa.size⟩ λb hb=>(bm b hb).imp (λe=>(tQ _ _ _ _ _).trans e) λk=>by simpa using k);have bF:aC (JX D w (w1.setCell ⟨g,4,G⟩ (O a1 (W.base.length+1) ae))):=by
    refine JX.set ?_ (xF H.dg) _ _;refine(HX.X ((x7 wr.heap.size wr).alloc (x8 _) _)).trans (P':=λk=>xW (O ba t bc)=I k) ⟨aa.os,aa.tape,aa.output,aa.size,λx hx aQ=>aa.block x hx λe=>aQ e.symm⟩ λx hx e=>?_
    rcases aL.o x (u.bd x ((tQ _ _ _ _ _).trans e))with k1|k1
    ·exact k1
    ·omega
   have bt:aC (∀x,D2 x\/xW (O a1 (W.base.length+1) ae)=I x->D x\/w.heap.size<=x):=by
    rintro x (e|e)
    ·exact aL x e
    ·rcases bm x e with k1|k1
     ·exact aL x (u.bd x ((tQ _ _ _ _ _).trans k1))
     ·have:=HX.size;have k2:wr.heap.size<=x:=by first|omega|(simp at k1;omega)
      exact xR (by omega)
   clear al bl bJ aa bm q4 f4 s1 bQ bq c1 lg p1 lp p2 lq;go_wp2;generalize w1.setCell ⟨g,4,G⟩ (O a1 (W.base.length+1) ae)=W2 at*;clear cT co cM;obtain⟨ve,vr,aJ,z0,z1,lz,bS,be,bT,bf⟩:=zNP bw.o d.old;obtain⟨ab,ag,rfl,ah⟩:=d.K.sl.form;have q2:=d.blk.cell (i:=2) (v:=O ab (W.es++X).length ag) Z;have lg:=d.blk.lt;have aH:W.es.length<=ag:=by simp at ah;omega
   have s2:=slE ab (W.es++X).length ag W.es.length aH;have bh:=aD (d.K.head (by have:=d.e3;omega) aH);have bC:aC (tR W2 ab W.es.length (XS W.es (y.take W.es.length)) 10):=by
    obtain⟨a',c',e',_,k1⟩:=bh.sl.q
    cases e'
    exact k1
   have aP:=aD bS;have bD:=aD be;have bE:=aD bT;have aX:=aD bf;generalize aR:(W.es++X).length=nx at*;clear aR ah bS be bT bf;have da:=d.e3;have ar:=d.pk ps bz p (xn an);have de:W.es.length+p.e.length<1000:=by have k1:=d.en;have k2:=aj.o;omega
   have aV:=aD ar;clear ar;go_cut[8]from 46 to 114 λu8 wx=>∃(a3:φ δ) (c3:ι),u8=O a3 (W.es.length+p.e.length) c3/\aC (SlC wx (O a3 (W.es.length+p.e.length) c3) (W.es.length+p.e.length) (XS W.es (y.take W.es.length)++XS p.e aJ) 10)/\aC (ε W2.heap.size W2 wx)/\aC (∀b,xW (O a3 (W.es.length+p.e.length) c3)=I b->xW (O ab W.es.length W.es.length)=I b\/W2.heap.size<=b)
   case first =>
    go_region_law(refine Lq Z (.tmp 86) (.tmp 90) 107 Z 116 i0 (.agg (iM J.E.zero (O G 0 0)).toArray) 10 120 underlying107 hi cF cG cH Z (by decide) ab W.es.length p.e.length ve (XS W.es (y.take W.es.length)) (XS p.e aJ) (by simp[xg,xa]) (by exact bC) (by simp[xg,xa]) (by exact aP.sl) (by exact PU _ _ λo ho=>zNO aP o ho) (by omega) (by omega) (by decide) ?_;intro a3 c3 w3 aZ bj aE)
    all_goals
     have C:aC (ε W2.heap.size W2 w3):=by first|exact bj|exact((x7 W2.heap.size W2).drew).trans (bj.mono (by simp))
     have aO:=aD aZ;have aM:aC (∀b,xW (O a3 (W.es.length+p.e.length) c3)=I b->xW (O ab W.es.length W.es.length)=I b\/W2.heap.size<=b):=by unfold aC;simpa using aE
     clear aZ bj aE;go_wp2;go_meet;exact⟨a3,c3,Z,aO,C,aM⟩
   obtain⟨a3,c3,rfl,aO,C,aM⟩:=hcut;have cS:=cK C lg q2;have cn:=fK C lg (d.blk.free 2);have cN:=x6 lg C.size;have ax:=aD (d.X C);have bG:=aD (bF.X C);have ad:aC (YW w0 (wc.setCell ⟨g,2,G⟩ (O a3 (W.es.length+p.e.length) c3)) (λx=>D2 x\/xW (O a1 (W.base.length+1) ae)=I x) g (VV gp pss.length cp) (O a3 (W.es.length+p.e.length) c3) bo (O a1 (W.base.length+1) ae) aA az aK pss W p.e Y (y.take W.es.length++aJ) L au ap (W.base++[(W.es.length:ω)])):=by
    have hx:JX (λk=>k=g) wc (wc.setCell ⟨g,2,G⟩ (O a3 (W.es.length+p.e.length) c3)):=JX.set (P:=λk=>k=g) (JX.refl _ _) (xF Z) _ _;have aq:∀b,xW (O a3 (W.es.length+p.e.length) c3)=I b->¬(D2 b\/xW (O a1 (W.base.length+1) ae)=I b):=λb hb e=>by
     rcases aM.o b hb with k1|k1
     ·exact d.evo b ((tQ _ _ _ _ _).trans k1) e
     ·have:=d.low b e;omega
    have cx:EvC wc (λx=>D2 x\/xW (O a1 (W.base.length+1) ae)=I x) (O a3 (W.es.length+p.e.length) c3) (W.es++p.e) (y.take W.es.length++aJ):=
     EvC.sW (bh.x (JX.of (P:=λ_=>False) C) (λ_ _ e=>e) λ_ _ e=>e.elim) ((aP.of λx _ e=>d.dlow x e).x (JX.of (P:=λ_=>False) C) (λ_ _ e=>e) λ_ _ e=>e.elim) aO
    exact ax.eW hx (ax.blk.set 2 _) (cx.x hx (λb hb e=>aq b hb (by rw[e];exact d.dg)) λx _ e=>by rw[e];exact d.dg) aq (ax.rgx hx) ax.rgo
   have bH:aC (JX D w (wc.setCell ⟨g,2,G⟩ (O a3 (W.es.length+p.e.length) c3))):=JX.set bG (xF H.dg) _ _;have aW:aC (SlC (wc.setCell ⟨g,2,G⟩ (O a3 (W.es.length+p.e.length) c3)) vr p.g.length (WU p.g) 1):=by
    have hx:JX (λk=>k=g) W2 (wc.setCell ⟨g,2,G⟩ (O a3 (W.es.length+p.e.length) c3)):=JX.set (P:=λk=>k=g) (JX.of C) (xF Z) _ _;exact bE.x hx λb hb e=>(aX b hb).2 e
   have cW:(wc.setCell ⟨g,2,G⟩ (O a3 (W.es.length+p.e.length) c3)).cell? ⟨z,1,G⟩=I vr:=(iF (xq _ _ _ _ λe=>bw.zn (by simpa using e))).trans (cK C lz z1);have cO:z<(wc.setCell ⟨g,2,G⟩ (O a3 (W.es.length+p.e.length) c3)).heap.size:=by have:=C.size;simp;omega
   clear q2 lg z0 z1 lz s2 bC aP bD bE aX bh C aO aM d ax bF bG;go_wp2;generalize wc.setCell ⟨g,2,G⟩ (O a3 (W.es.length+p.e.length) c3)=W4 at*;clear cS cn cN;have cC:=ad.rg;obtain⟨ac,af,rfl,ai,aG⟩:=cC;have q3:=ad.blk.cell (i:=3) (v:=O ac (W.g++Y).length af) Z;have f3:=ad.blk.free 3;have aU:=ad.blk.lt;have aI:W.g.length<=af:=by simp at ai;omega
   have s3:=slI ac (W.g++Y).length af W.g.length aI;have aN:aC (tR W4 ac W.g.length (WU W.g) 1):=tR.head (cs':=WU Y) (by rw[<- GN];exact aG) (by simp[WU]) (by simp);have dd:W.g.length<1000:=by have k1:=ad.rn;have k2:=aj.o;omega
   have bx:=aD aV.2;generalize aS:(W.g++Y).length=ny at*;clear aS ai aG;go_cut[]from 46 to 114 λwx=>∃(a5:φ δ) (c5:ι),aC (YW w0 wx (λx=>D2 x\/xW (O a1 (W.base.length+1) ae)=I x) g (VV gp pss.length cp) (O a3 (W.es.length+p.e.length) c3) (O a5 (W.g.length+p.g.length) c5) (O a1 (W.base.length+1) ae) aA az aK pss W p.e p.g (y.take W.es.length++aJ) L au ap (W.base++[(W.es.length:ω)]))/\aC (JX D w wx)
   case first =>
    go_region_law(refine Lq Z (.tmp 103) (.tmp 107) 37 Z 3 j0 (F M 0) 1 8 ψ ji cI cJ cL Z (by decide) ac W.g.length p.g.length vr (WU W.g) (WU p.g) (by simp[xg,xa]) (by exact aN) (by simp[xg,xa]) (by exact aW) (by exact DT p.g) (by rw[bx.o];omega) (by rw[bx.o];omega) (by decide) ?_;intro a5 c5 w5 bb bk aF;have aw:aC (ε W4.heap.size W4 w5):=(by first|exact bk|exact((x7 W4.heap.size W4).drew).trans (bk.mono (by simp)));have bA:=aD bb;have bu:aC (∀b,xW (O a5 (W.g.length+p.g.length) c5)=I b->xW (O ac W.g.length W.g.length)=I b\/W4.heap.size<=b):=(by unfold aC;simpa using aF);have r5:=cK aw aU q3;have g5:=fK aw aU f3;have l5:=x6 aU aw.size;clear bb bk aF)
    all_goals
     have hx:JX (λk=>k=g) w5 (w5.setCell ⟨g,3,G⟩ (O a5 (W.g.length+p.g.length) c5)):=JX.set (P:=λk=>k=g) (JX.refl _ _) (xF Z) _ _;have aq:∀b,xW (O a5 (W.g.length+p.g.length) c5)=I b->¬(D2 b\/xW (O a1 (W.base.length+1) ae)=I b):=λb hb e=>by
      rcases bu.o b hb with k1|k1
      ·exact ad.rgo b ((tQ _ _ _ _ _).trans k1) e
      ·have:=ad.low b e;omega
     have aB:=ad.X aw;have aY:SlQ (w5.setCell ⟨g,3,G⟩ (O a5 (W.g.length+p.g.length) c5)) (O a5 (W.g.length+p.g.length) c5) (W.g++p.g).length (WU (W.g++p.g)) 1:=by
      have k1:=bA.q.x hx λb hb e=>aq b hb (by rw[e];exact ad.dg);rw[xc,GN];exact k1
     have ak:=aD (aB.eW hx (aB.blk.set 3 _) (aB.evx hx) aB.evo aY aq);have ay:aC (JX D w (w5.setCell ⟨g,3,G⟩ (O a5 (W.g.length+p.g.length) c5))):=JX.set (bH.X aw) (xF H.dg) _ _;clear hx aq aB aY bu bA;go_wp2;go_meet;exact⟨a5,c5,by first|exact ak|exact ak.X ((x7 _ _).drew),by first|exact ay|exact ay.X ((x7 _ _).drew)⟩
   obtain⟨a5,c5,ak,ay⟩:=hcut;have bR:=ak.up aV;have am:=cc.o _ _ _ _ _ _ _ _ _ _ _ _ bR (by simp[J.Wd.add,aj.o]) λW' hr=>HF W' (by rw[bg.o];exact⟨p,xn an,hr⟩);rw[show(((t+1:ι):ι):ω)=(t:ω)+1 by omega]at am;have HC:=aD am;have bZ:=aD (ak.e3);have ca:=aD (ak.en);have cg:=aD (ak.rn);clear am bR q3 f3 aU s3 aN cW cO aW ad bH aI;go_wp2_with(first
    |(go_at_call 40;refine HC.mono ?_;rintro e w7 ⟨rfl,D7,cm,cV,ck,cr,ci,cR,cU,cl,bW,cj,(cd:aC _),(bX:aC _),(bY:aC _),(ch:aC _),(cb:aC _)⟩))
   go_roundw
   ·refine⟨k+1,D7,cm,cV,ck,cr,ci,cR,p.e,p.g,bW,cU,cl,cj,by omega,by go_num,cd.iY bZ ca cg,λx e=>bX x (xF (br x e)),λx e=>?_,ay.trans ch λx hx e=>(bt x e).elim id λk1=>by omega,(HG.trans cb).to (λo=>?_) ?_⟩
    ·rcases bY.o x e with k1|k1
     ·exact bt x k1
     ·have:=ay.size;exact xR (by omega)
    ·constructor
     ·rintro(⟨j,p',h1,h2⟩|h1)
      ·grind
      ·exact⟨k,p,by omega,an,h1⟩
     ·rintro⟨j,p',h1,h2,h3⟩;by_cases e:j=k
      ·subst e;rw[an.o]at h2;cases h2;exact xR h3
      grind
    ·constructor
     ·rintro(⟨j,p',h1,h2⟩|h1)
      ·grind
      ·exact⟨k,p,by omega,an,h1⟩
     ·rintro⟨j,p',h1,h2,h3⟩;by_cases e:j=k
      ·subst e;rw[an.o]at h2;cases h2;exact xR h3
      grind
   simp[intOf];omega
  ·have cy:¬(k:ω)<ps.length:=by omega
   have bn:=u.K.sl;obtain⟨ab,ag,rfl,ah⟩:=bn.form;have cE:=u.rg;obtain⟨ac,af,rfl,ai,aG⟩:=cE;have q2:=u.blk.cell (i:=2) (v:=O ab (W.es++X).length ag) Z;have q3:=u.blk.cell (i:=3) (v:=O ac (W.g++Y).length af) Z;have f2:=u.blk.free 2;have f3:=u.blk.free 3;have aH:W.es.length<=ag:=by simp at ah;omega
   have aI:W.g.length<=af:=by simp at ai;omega
   have s1:=zPV ab (W.es++X).length ag W.es.length aH;have s2:=Lv ac (W.g++Y).length af W.g.length aI;have cZ:=aD bn;have aN:=aD aG;generalize aR:(W.es++X).length=nx at*;generalize aS:(W.g++Y).length=ny at*;have cY:=aD aR;have ce:=aD aS;clear bN ah ai bn aG aR aS;go_wp2;go_end0;have aT:JX (λk=>k=g) wr ((wr.setCell ⟨g,2,G⟩ (O ab W.es.length ag)).setCell ⟨g,3,G⟩ (O ac W.g.length af)):=JX.set (P:=λk=>k=g) (JX.set (P:=λk=>k=g) (JX.refl _ _) (xF Z) _ _) (xF Z) _ _;have cu:EvC wr D2 (O ab W.es.length ag) (W.es++[]) (y.take W.es.length):=by
    have e0:=u.K;rw[xd];exact e0.head (by have:=u.e3;omega) aH
   have cA:SlQ wr (O ac W.g.length af) (W.g++[]).length (WU (W.g++[])) 1:=by
    rw[xd];refine⟨ac,af,Z,aI,tR.head (cs':=WU Y) (by rw[<- GN];exact aN) (by simp[WU]) ?_⟩
    ·rw[<- ce.o];simp
   refine⟨Z,D2,_,_,bi,aA,az,aK,au,ap,y.take W.es.length,ao,u.eW aT ((u.blk.set 2 _).set 3 _) (cu.x aT (λb hb e=>u.evo b ((tQ _ _ _ _ _).trans hb) (by rw[e];exact u.dg)) λx _ e=>by rw[e];exact u.dg) (λb hb=>u.evo b ((tQ _ _ _ _ _).trans hb)) (cA.x aT λb hb e=>u.rgo b ((tQ _ _ _ _ _).trans hb) (by rw[e];exact u.dg)) λb hb=>u.rgo b ((tQ _ _ _ _ _).trans hb),br,aL,HX.trans aT λx _ e=>by rw[e];exact H.dg,HG.to (λo=>?_) ?_⟩
   ·rw[bg.o,J.tP];constructor
    ·rintro⟨j,p,_,h2,h3⟩;exact⟨p,xn h2,h3⟩
    ·rintro⟨p,hp,h3⟩;obtain⟨j,hj,rfl⟩:=List.mem_iff_getElem.1 hp;exact⟨j,_,by omega,xm hj,h3⟩
   ·rw[bg.o,J.tI];constructor
    ·rintro⟨j,p,_,h2,h3⟩;exact⟨p,xn h2,h3⟩
    ·rintro⟨p,hp,h3⟩;obtain⟨j,hj,rfl⟩:=List.mem_iff_getElem.1 hp;exact⟨j,_,by omega,xm hj,h3⟩
def oE(w:ξ)(B:p)(v:d)(l:H u):Prop:=w.ownsRow B 3 1 v l.length (WU l)
def oE.pE(h:oE w B v l)(d:∀x,D x->x<B)(e:l=[]->v=O G 0 0):XT w D v l:=by
 by_cases c:l=[]
 ·exact xF ⟨e c,c⟩
 ·exact xR ⟨List.length_pos_iff.2 c,Jx h (List.length_pos_iff.2 c) d⟩
def zNQ(w w':ξ)(l:H u)(e:Ending):Prop:=∃v,e=.returned v/\oE w' w.heap.size v l/\(l=[]->v=O G 0 0)/\ε w.heap.size w w'
theorem BS(va vb:ν)(q x:σ ω)(w:ξ)(ha:XT w (λ_=>False) va q)(hb:XT w (λ_=>False) vb x)(hn:q.length+x.length<10000000000000):
  Calls π 76 #[va,vb] w λe w'=>zNQ w w' (q++x) e:=by
 obtain⟨u,W,Y,aa,ab⟩:∃u,prog.info? 3=I u/\u.zero=I (F M 0)/\u.size=1/\u.bytes=8:=uV Tryz.XE
 rcases ha with⟨rfl,rfl⟩|⟨ag,ba,ca,rfl,af,ai,_⟩
 ·rcases hb with⟨rfl,rfl⟩|⟨ad,bb,cb,rfl,H,ah,_⟩
  ·go_in;go_wp2_with(first
    |(at_builtin;refine ρ Z (.const (O G 0 0)) (.tmp 6) 37 Z w.heap.size 3 u 1 ψ W _ _ _ Z (x9 w w.heap.size 3 1) Z ?_)
    |(at_builtin;refine ρ Z (.tmp 8) (.tmp 9) 37 Z w.heap.size 3 u 1 ψ W _ _ _ Z (x9 w w.heap.size 3 1) Z ?_))
   go_ret;exact⟨_,Z,x9 _ _ _ _,λ_=>Z,x7 _ _⟩
  ·have ac:=aD (KK H);clear H;go_in;go_wp2_with(first
    |(at_builtin;refine ρ Z (.const (O G 0 0)) (.tmp 6) 37 Z w.heap.size 3 u 1 ψ W _ _ _ Z (x9 w w.heap.size 3 1) Z ?_)
    |(at_builtin;refine η _ Z (.tmp 8) (.tmp 9) 37 Z w.heap.size 3 u (F M 0) 1 8 ψ W Y aa ab Z (by decide) _ _ _ Z (x9 _ _ _ _) ⟨bb,0,G⟩ x.length cb (WU x) Z (by simp[WU]) ac (DT x) ad (by unfold θ;omega) (by omega) (x8 _) _ Z ?_;intro g5 c5 w5 p d E L;have B5:=aD (rV (x7 w.heap.size w) d λk e=>by cases e);have X:aC (oE w5 w.heap.size (VV g5 x.length c5) x):=(by grind [aC,oE]);clear p d E L))
   go_ret;refine⟨_,Z,by first|exact X.o|simpa using X.o,λe=>?_,B5⟩
   grind
 ·have ae:=aD (KK af);clear af
  rcases hb with⟨rfl,rfl⟩|⟨ad,bb,cb,rfl,H,ah,_⟩
  ·go_in;go_wp2_with(first
    |(at_builtin;refine η _ Z (.const (O G 0 0)) (.tmp 6) 37 Z w.heap.size 3 u (F M 0) 1 8 ψ W Y aa ab Z (by decide) _ _ _ Z (x9 _ _ _ _) ⟨ba,0,G⟩ q.length ca (WU q) Z (by simp[WU]) ae (DT q) ag (by unfold θ;omega) (by omega) (x8 _) _ Z ?_;intro g4 c4 w4 j c C J;have B4:=aD (rV (x7 w.heap.size w) c λk e=>by cases e);have y:aC (oE w4 w.heap.size (O (I ⟨g4,0,G⟩) q.length c4) q):=(by grind [aC,oE]);clear j c C J)
    |(at_builtin;refine ρ Z (.tmp 8) (.tmp 9) 37 Z w.heap.size 3 u 1 ψ W _ _ _ Z y Z ?_))
   go_ret;refine⟨_,Z,y,λe=>?_,B4⟩
   grind
  ·have ac:=aD H;clear H;go_in;go_wp2_with(first
    |(at_builtin;refine η _ Z (.const (O G 0 0)) (.tmp 6) 37 Z w.heap.size 3 u (F M 0) 1 8 ψ W Y aa ab Z (by decide) _ _ _ Z (x9 _ _ _ _) ⟨ba,0,G⟩ q.length ca (WU q) Z (by simp[WU]) ae (DT q) ag (by unfold θ;omega) (by omega) (x8 _) _ Z ?_;intro g4 c4 w4 j c C J;have B4:=aD (rV (x7 w.heap.size w) c λk e=>by cases e);have y:aC (oE w4 w.heap.size (O (I ⟨g4,0,G⟩) q.length c4) q):=(by grind [aC,oE]);clear j c C J)
    |(at_builtin;refine η _ Z (.tmp 8) (.tmp 9) 37 Z w.heap.size 3 u (F M 0) 1 8 ψ W Y aa ab Z (by decide) _ _ _ Z y ⟨bb,0,G⟩ x.length cb (WU x) Z (by simp[WU]) (KK λi W=>cK B4 ah (ac i W)) (DT x) ad (by unfold θ;omega) (by omega) B4.size _ Z ?_;intro g5 c5 w5 p d E L;have B5:=aD (rV B4 d (DK y));have X:aC (oE w5 w.heap.size (VV g5 (q.length+x.length) c5) (q++x)):=(by grind [aC,oE,GN]);clear p d E L))
   go_ret;refine⟨_,Z,X,λe=>?_,B5⟩
   simp_all
namespace J
structure PS where
 e:σ E
 g:σ ω
 hang:σ (σ ω)
 way:σ ω
 D:σ ω
 short:ζ
 round:ω
def PS.val(s:PS)(a:ω):ω:=if a<0 then s.g.getD (-1-a).toNat 0 else a
def PS.aM(s:PS)(a:ω):σ ω:=if a<0 then s.hang.getD (-1-a).toNat []else[]
end J
def Aa(w:ξ)(D:p->Prop)(v:d)(l:H u):Prop :=
 (l=[]/\∃a c,v=O a 0 c)\/∃b o c,v=O (I ⟨b,o,G⟩) l.length c/\l.length<=c/\(∀j (h:j<l.length),w.cell? ⟨b,o+j,G⟩=I (F M l[j]))/\b<w.heap.size/\¬D b
structure PM(w:ξ)(B z:ι)(s:J.PS)(ev dv wv:ν)(gr gh:ι)(ons hvs:σ ν)(D:ι->Prop):Prop where
 blk:Blk w z [ev,VV gr 4 4,VV gh 4 4,wv,dv,T s.short,F M s.round] 113
 eo:w.ownsRow B 116 10 ev s.e.length (XS s.e ons)
 ol:ons.length=s.e.length
 on:∀i,i<s.e.length->XT w D (ons.getD i (T U)) (J.ev s.e i).on
 rb:Blk w gr (WU s.g) 3
 rl:s.g.length=4
 hb:Blk w gh hvs 37
 hl:hvs.length=4
 hr:∀i,i<4->XT w D (hvs.getD i (T U)) (s.hang.getD i [])
 wr:XT w D wv s.way
 rd:Aa w (λk=>B<=k) dv s.D
 bz:B<=z
 bg:B<=gr
 bh:B<=gh
 dz:D z
 dr:D gr
 dh:D gh
 de:∀b,ev.ownBlock=I b->D b
 low:∀x,D x->x<w.heap.size
 bl:∀x,x<B->D x
 e0:s.e.length=0->ev=O G 0 0
def PM.yQ{s:J.PS}{ev:ν}(h:PM w B z s ev dv wv gr gh ons hvs D)(c:i<4):w.cell? ⟨gr,i,G⟩=I (F M (s.g.getD i 0)):=h.rb.cell (tA (by rw[h.rl];exact c))
def PM.sD{s:J.PS}{ev:ν}(h:PM w B z s ev dv wv gr gh ons hvs D)(c:i<4):w.cell? ⟨gh,i,G⟩=I (hvs.getD i (T U)):=h.hb.cell (by have:=h.hl;simp[show i<hvs.length by omega])
def zOC(w w':ξ)(D:p->Prop)(x:u)(l:H u)(e:Ending):Prop:=∃v,e=.returned (.tuple #[F M x,v])/\XT w D v l/\ε w.heap.size w w'
theorem Lw(w:ξ)(B z:ι)(s:J.PS)(ev dv wv:ν)(gr gh:ι)(ons hvs:σ ν)(D:ι->Prop)(h:PM w B z s ev dv wv gr gh ons hvs D)(a:ω)(y:-4<=a)(C:a<100):
  Calls π 117 #[.pointer (I ⟨z,0,G⟩),F M a] w λe w'=>zOC w w' D (s.val a) (s.aM a) e:=by
 by_cases h0:a<0
 ·have c:(-1-a).toNat<4:=by omega
  have x0:0<=-1-a:=by omega
  have Y:-1-a<4:=by omega
  have p:=h.blk.cell (i:=1) (v:=VV gr 4 4) Z;have q:=h.blk.cell (i:=2) (v:=VV gh 4 4) Z;have L:=h.blk.lt;have W:=h.yQ c;have X:=h.sD c;have H:=h.rb.lt;have E:=h.hb.lt;have HR:=aD (h.hr _ c);have j:aC (s.val a=s.g.getD (-1-a).toNat 0):=by simp_all [aC,J.PS.val]
  have d:aC (s.aM a=s.hang.getD (-1-a).toNat []):=by simp_all [aC,J.PS.aM]
  generalize s.g.getD (-1-a).toNat 0=x at*;generalize hvs.getD (-1-a).toNat (T U)=u at*;generalize s.hang.getD (-1-a).toNat []=l at*;clear h c;go_in;go_wp2;go_region;go_wp2;refine υ (results_tmp2 (t:=4) (u:=5) Z _ _ _) Z ?_;exact⟨u,by rw[j.o];rfl,by rw[d.o];exact HR,by first|exact(x7 _ _).drew|exact eD _ _ _⟩
 ·have j:aC (s.val a=a):=by unfold aC J.PS.val;rw[if_neg h0]
  have d:aC (s.aM a=[]):=by unfold aC J.PS.aM;rw[if_neg h0]
  clear h;go_in;go_wp2;refine υ (results_tmp2 (t:=4) (u:=5) Z _ _ _) Z ?_;exact⟨O G 0 0,by rw[j.o];rfl,by rw[d.o];exact xF ⟨Z,Z⟩,x7 _ _⟩
namespace J
def oLoad:H ς:=[108,111,97,100]
def oAdd:H ς:=[97,100,100]
def oSwap:H ς:=[115,119,97,112]
def oStore:H ς:=[115,116,111,114,101]
def oFence:H ς:=[102,101,110,99,101]
def oBar:H ς:=[98,97,114,114,105,101,114]
def oSet:H ς:=[115,101,116]
def oIf:H ς:=[105,102]
def rE(x:Lh)(v:u)(half:ζ)(on:H u):E:=⟨0,0,⟨#[114]⟩,x.z,v,x.ord,x.scope,half,0,on⟩
def wE(x:Lh)(v:u)(half:ζ)(on:H u):E:=⟨0,0,⟨#[119]⟩,x.z,v,x.ord,x.scope,half,0,on⟩
def fE(x:Lh):E:=⟨0,0,⟨#[102]⟩,0,0,x.ord,x.scope,U,0,[]⟩
def aE(r:u):E:=⟨0,0,⟨#[97]⟩,0,0,⟨#[]⟩,⟨#[]⟩,U,r,[]⟩
def lE(r:u):E:=⟨0,0,⟨#[108]⟩,0,0,⟨#[]⟩,⟨#[]⟩,U,r,[]⟩
def PS.put(s:PS)(l:σ E):PS:={s with e:=s.e++l}
def PS.take(s:PS):PS:={s with D:=s.D.tail,short:=s.short||s.D.isEmpty}
def PS.aO(s:PS)(r:ω)(v:ω)(h:σ ω):PS:={s with g:=s.g.set r.toNat v,hang:=s.hang.set r.toNat h}
def isRd(x:Lh):ζ:=x.op.toList==oLoad||(x.op.toList==oAdd||x.op.toList==oSwap)
def PS.load(s:PS)(x:Lh):PS:=((s.take).put [rE x (s.D.headD 0) U s.way]).aO x.VX (s.D.headD 0) [(s.e.length:ω)]
def PS.swap(s:PS)(x:Lh):PS:=((s.take).put [rE x (s.D.headD 0) N s.way,wE x (s.val x.a) N (s.aM x.a++s.way)]).aO x.VX (s.D.headD 0) [(s.e.length:ω)]
def PS.add(s:PS)(x:Lh):PS:=((s.take).put [rE x (s.D.headD 0) N s.way,wE x ((s.val x.a+s.D.headD 0)%4) N (s.aM x.a++s.way++[(s.e.length:ω)])]).aO x.VX (s.D.headD 0) [(s.e.length:ω)]
def PS.set(s:PS)(x:Lh):PS :=
 if x.sign.toList==[43]then s.aO x.VX ((s.val x.a+s.val x.b)%4) (s.aM x.a++s.aM x.b)
 else if x.sign.toList==[45]then s.aO x.VX ((s.val x.a-s.val x.b+4)%4) (s.aM x.a++s.aM x.b)
 else if x.sign.toList==[61,61]then s.aO x.VX (if s.val x.a==s.val x.b then 1 else 0) (s.aM x.a++s.aM x.b)
 else if x.sign.toList.isEmpty then s.aO x.VX (s.val x.a) (s.aM x.a)else s.aO x.VX (s.val x.a) (s.aM x.a++s.aM x.b)
def PS.step(s:PS)(x:Lh):PS :=
 if x.op.toList==oLoad then s.load x else if x.op.toList==oAdd then s.add x else if x.op.toList==oSwap then s.swap x
 else if x.op.toList==oStore then s.put [wE x (s.val x.a) U (s.aM x.a++s.way)]
 else if x.op.toList==oFence then s.put [fE x]
 else if x.op.toList==oBar then{s.put [aE s.round,lE s.round]with round:=s.round+1}
 else if x.op.toList==oSet then s.set x else s
def PS.cM(s:PS)(x:Lh):PS:={s with way:=s.way++s.aM x.a}
end J
def XT.nil(w:ξ)(D:ι->Prop):XT w D (O G 0 0) []:=xF ⟨Z,Z⟩
def Aa.x{P:ι->Prop}(h:Aa w D v l)(q:JX P w w')(E:∀x,x<w.heap.size->P x->D x):Aa w' D v l:=h.imp id λ⟨b,o,c,e,u,y,d,p⟩=>⟨b,o,c,e,u,λj C=>(iF (q.block b d λk=>p (E b d k))).trans (y j C),x6 d q.size,p⟩
theorem zNR(h:ons.length=es.length)(l:H J.E)(c:H d)(i:p):(i<es.length->(ons++c).getD i (T U)=ons.getD i (T U)/\J.ev (es++l) i=J.ev es i)/\(es.length<=i->(ons++c).getD i (T U)=c.getD (i-es.length) (T U)/\J.ev (es++l) i=J.ev l (i-es.length)):=by
 grind [J.ev]
section
variable {w w1 w5:ξ}{B z:ι}{s:J.PS}{ev dv wv:ν}{gr gh:ι}{ons hvs:σ ν}{D:ι->Prop}
theorem PM.put(h:PM w B z s ev dv wv gr gh ons hvs D){l:σ J.E}{C:σ ν}{p H:ι}(l0:0<l.length)(hl:C.length=l.length)(d:ε w.heap.size w w1)(ho:w5.ownsRow B 116 10 (VV p (s.e.length+l.length) H) (s.e.length+l.length) (XS s.e ons++XS l C))(q:w1.grownBy w5 ev.ownBlock)(W:ev.ownBlock=I p\/w.heap.size<=p)(ac:∀i,i<l.length->XT w D (C.getD i (T U)) (J.ev l i).on):
  PM (w5.setCell ⟨z,0,G⟩ (VV p (s.e.length+l.length) H)) B z (s.put l) (VV p (s.e.length+l.length) H) dv wv gr gh (ons++C) hvs λk=>D k\/k=p:=by
 have ad:JX D w w5:=⟨q.os.trans d.os,q.tape.trans d.tape,q.output.trans d.output,xl d.size q.size,λk j hd=>(q.block k (x6 j d.size) λe=>hd (h.de k e.symm)).trans (d.block k j)⟩;have y:JX D w (w5.setCell ⟨z,0,G⟩ (VV p (s.e.length+l.length) H)):=JX.set ad (xF h.dz) _ _;have ae:JX (λk=>B<=k) w (w5.setCell ⟨z,0,G⟩ (VV p (s.e.length+l.length) H)):=JX.set (P:=λk=>B<=k) ⟨q.os.trans d.os,q.tape.trans d.tape,q.output.trans d.output,xl d.size q.size,λk j hd=>(q.block k (x6 j d.size) λe=>hd (h.eo.lt k e.symm).1).trans (d.block k j)⟩ (xF h.bz) _ _;have lt:∀x,x<w.heap.size->D x\/x=p->D x:=λx y e=>e.elim id λe=>by rw[e]at y⊢;exact W.elim (λk=>h.de _ k) λk=>by omega
 have X:∀k,ev.ownBlock=I k->k≠z/\k≠gr/\k≠gh:=λk j=>by
  rcases h.eo.2 with⟨e,_⟩|⟨g,L,u,e,_,hh,_⟩
  ·rw[e]at j;cases j
  ·rw[e]at j;cases j;have Y:Blk w g u.toList 116:=by unfold Blk;rw[hh]
   exact⟨Y.ne h.blk (by decide),Y.ne h.rb (by decide),Y.ne h.hb (by decide)⟩
 have keep:∀k,k<w.heap.size->(∀b,ev.ownBlock=I b->b≠k)->w5.heap[k]?=w.heap[k]?:=λk j ab=>(q.block k (x6 j d.size) λe=>ab k e.symm Z).trans (d.block k j)
 have zr:gr≠z:=h.rb.ne h.blk (by decide);have zh:gh≠z:=h.hb.ne h.blk (by decide);have af:p≠z:=by
  rcases W with k|k
  ·exact(X p k).1
  ·have:=h.blk.lt;omega
 have aa:Blk w5 z _ 113:=h.blk.keep (keep z h.blk.lt λb d=>(X b d).1);refine⟨aa.set 0 _,?_,by simp[J.PS.put,h.ol,hl],λi hi=>?_,(h.rb.keep (keep gr h.rb.lt λb d=>(X b d).2.1)).cC _ _ zr,h.rl,(h.hb.keep (keep gh h.hb.lt λb d=>(X b d).2.2)).cC _ _ zh,h.hl,λi hi=>((h.hr i hi).of lt).x (P:=D) y λ_ _ e=>xF e,(h.wr.of lt).x (P:=D) y λ_ _ e=>xF e,h.rd.x ae λ_ _ e=>e,h.bz,h.bg,h.bh,xF h.dz,xF h.dr,xF h.dh,λb d=>xR (by cases d;rfl),?_,λx e=>xF (h.bl x e),λe=>by grind [J.PS.put]⟩
 ·have k1:(s.put l).e.length=s.e.length+l.length:=by simp[J.PS.put]
  have k2:XS (s.put l).e (ons++C)=XS s.e ons++XS l C:=FV h.ol;rw[k1,k2];refine⟨ho.1,ho.2.imp id λ⟨g,L,u,e,e1,e2,e3⟩=>⟨g,L,u,e,e1,?_,e3⟩⟩
  grind [xq]
 ·have k:=zNR h.ol l C i;simp only[J.PS.put]at hi⊢;by_cases c:i<s.e.length
  ·rw[(k.1 c).1,(k.1 c).2];exact((h.on i c).of lt).x (P:=D) y λ_ _ e=>xF e
  ·have c':s.e.length<=i:=by omega
   rw[(k.2 c').1,(k.2 c').2];exact((ac _ (by grind)).of lt).x (P:=D) y λ_ _ e=>xF e
 ·rintro x (e|rfl)
  ·exact x6 (h.low x e) y.size
  ·have:=(ho.lt x Z).2;simpa using this
end
namespace Pop
variable {P:Program}{pre:τ γ}{o:γ}{Q:Exit->Act->ξ->Prop}{md:Region.Mode}
def Q1(P:Program)(pre:τ γ)(o:γ)(Q:Exit->Act->ξ->Prop):Exit->Act->ξ->Prop
 |.normal,a,w=>wpOp P (pre.push o) Q pre.size (Q .normal) a w
 |e,a,w=>Q e a w
def iY(md:Region.Mode)(ops:τ γ):Prop :=
 ∀i x,ops[i]?=I x->∀e∈x.after,Region.binds md e=N->e.on<i
def NL(pre:τ γ):Prop:=∀(i:p) (x:γ),pre[i]?=I x->∀j b,x.guard=I (j,b)->j<pre.size
def MO(md:Region.Mode)(pre:τ γ)(o:γ):Prop :=
 ∀i,i<pre.size->(∃e∈o.after,Region.binds md e=N/\e.on=i) \/
  ∃j x,i<j/\pre[j]?=I x/\∃e∈x.after,Region.binds md e=N/\e.on=i
def MF(md:Region.Mode)(pre:τ γ)(L:τ ζ):Prop :=
 ∀j x,pre[j]?=I x->L.getD j U=N->∀e∈x.after,Region.binds md e=N->L.getD e.on U=N
theorem ET(L:τ ζ)(k:p):(L.push U).getD k U=L.getD k U:=by
 rcases xt k L.size with h|h|h
 ·simp[xo,xj h]
 ·subst h;simp
 grind
theorem UO(L:τ ζ)(h:k<L.size):(L.push U).getD k N=L.getD k N:=by
 simp[xo,xj h]
theorem kIV(p:iY md pre){L:τ ζ}(u:L.size=pre.size)(h:Region.ready md pre L=[]):
  ∀i,i<pre.size->L.getD i U=N:=by
 intro i
 induction i using Nat.strongRecOn with
 |_ i ih =>
  intro c
  cases hc:L.getD i U with
  |true=>rfl
  |false =>
   have:i∈Region.ready md pre L:=mem_ready.2 ⟨by
     have d:i<L.size:=by omega
     simp[d]at hc⊢;exact hc,pre[i],by simp[c],λe q j=>by
     have:=p i _ (by simp[c]) e q j;exact ih _ this (by omega)⟩
   grind
theorem Lx{L:τ ζ}(c:L.size=ops.size)(h:∀i,i<ops.size->L.getD i U=N):
  Region.ready md ops L=[]:=by
 simp_all [Region.ready,List.mem_cons_self,Nat.lt_or_ge]
theorem kHf(H:MO md pre o){L:τ ζ}(u:MF md pre L)(h:∀e∈o.after,Region.binds md e=N->L.getD e.on U=N):
  ∀d i,i<pre.size->pre.size-i<=d->L.getD i U=N:=by
 intro d
 induction d with
 |zero=>intro i q y;omega
 |succ d ih =>
  intro i q y
  rcases H i q with⟨e,p,c,rfl⟩|⟨j,x,C,J,e,p,c,rfl⟩
  ·exact h e p c
  ·have E:j<pre.size:=by
    grind
   exact u j x J (ih j E (by omega)) e p c
theorem kLC(y:NL pre)(C:i<pre.size){d:Act->ξ->Prop}(H:∀a w,K a w->d a w)(h:wpOp P pre (Q1 P pre o Q) i K a w):wpOp P (pre.push o) Q i d a w:=by
 refine wpOp_mono H ?_;unfold wpOp at*;have e1:(pre.push o)[i]?=pre[i]?:=by grind
 have c:pre[i]?=I pre[i]:=by simp[C]
 rw[e1,c];rw[c]at h;simp only[]at h⊢;have e2:Region.wanted pre[i] (yielded (pre.push o) a.tmps)=Region.wanted pre[i] (yielded pre a.tmps):=by
  unfold Region.wanted
  cases hgd:pre[i].guard with
  |none=>rfl
  |some jb =>
   obtain⟨j,b⟩:=jb;have E:=y i _ c j b hgd;simp only[yielded,xo,xj E,if_false]
 rw[e2]
 split
 ·rename_i J;simp only[J,if_true]at h
  rcases h with h|⟨p,q⟩
  ·left
   unfold Oper.wp at*;generalize(κ a.eval pre[i]).run P w=r at*
   cases r with
   |ok n w' =>
    cases n<;>simp only[Oper.upon]at h⊢ <;>
     first
      |exact h
      |exact Calls.mono h λe L u=>by cases e<;>exact u
   |halt x w'=>cases x<;>simp only[Oper.upon]at h⊢<;>exact h
  ·exact .inr ⟨p,q⟩
 grind
theorem kIF{L:τ ζ}(q:MF md pre L)(C:i∈Region.ready md pre L):MF md pre (L.setIfInBounds i N):=by
 intro j x E d e u p;obtain⟨-,y,H,c⟩:=mem_ready.1 C;by_cases hij:i=j
 ·grind [getD_set_true]
 ·rw[getD_set_ne U hij]at d;exact getD_set_true (q j x E d e u p)
theorem last(H:iY md (pre.push o)){L:τ ζ}(j:L.size=pre.size)(W:Region.ready md pre L=[])(p:iY md pre)(f:ι)(h:Q1 P pre o Q .normal a w):wpAny P md (pre.push o) Q (f+1) (L.push U) a w:=by
 have c:=kIV p j W;have X:pre.size∈Region.ready md (pre.push o) (L.push U):=mem_ready.2 ⟨by rw[<- j];simp,o,by simp,λe J E=>by
  rw[ET];exact c _ (H pre.size o (by simp) e J E)⟩
 refine⟨λC=>by grind,λi q=>?_⟩;have u:i=pre.size:=by
  obtain⟨C,y,Y, -⟩:=mem_ready.1 q
  grind [UO]
 subst u;refine wpOp_mono (λa w x=>?_) h;have d:Region.ready md (pre.push o) ((L.push U).setIfInBounds pre.size N)=[]:=Lx (by simp[j]) λi q=>by
  by_cases hij:pre.size=i
  ·subst hij;simp[j]
  ·rw[getD_set_ne U hij,ET]
   grind
 cases f with
 |zero=>exact⟨d,x⟩
 |succ f=>exact⟨λ_=>x,λi q=>by grind⟩
theorem kKr(W:iY md (pre.push o))(j:iY md pre)(hg:NL pre)(hv:MO md pre o):
  ∀(f:ι) (L:τ ζ) (a:Act) (w:ξ),L.size=pre.size->MF md pre L ->
   wpAny P md pre (Q1 P pre o Q) f L a w->wpAny P md (pre.push o) Q (f+1) (L.push U) a w:=by
 intro f
 induction f with
 |zero=>intro L a w u _ h;exact last W u h.1 j 0 h.2
 |succ f ih =>
  intro L a w u hc h;by_cases hn:Region.ready md pre L=[]
  ·exact last W u hn j (f+1) (h.1 hn)
  ·have H:∀i∈Region.ready md (pre.push o) (L.push U),i<pre.size/\i∈Region.ready md pre L:=λi p=>by
    obtain⟨Y,y,x,d⟩:=mem_ready.1 p
    rcases xt i pre.size with c|c|c
    ·refine⟨c,mem_ready.2 ⟨by grind [UO],y,by
      rw[<- x];simp[xo,xj c],λe X J=>by rw[<- ET];exact d e X J⟩⟩
    ·subst c;simp at x;subst x;exact ο (Lx u λi p=>kHf hv hc λe X J=>by grind [ET] pre.size i p (by omega)) hn
    grind
   obtain⟨i0,C⟩:=List.exists_mem_of_ne_nil _ hn;refine⟨λY=>?_,λi p=>?_⟩
   ·obtain⟨q0,y,x,d⟩:=mem_ready.1 C;have q:i0<pre.size:=by
     grind
    grind [Region.ready,UO,xj,ET]
   ·obtain⟨q,E⟩:=H i p;refine kLC hg q (λa w hk=>?_) (h.2 i E);have hs:(L.push U).setIfInBounds i N=(L.setIfInBounds i N).push U:=by
     grind
    grind [kIF]
theorem kFA(q:P.follows .mixedOrders=N)(d:iY .any (pre.push o))(c:iY .any pre)(p:NL pre)(u:MO .any pre o)(h:wpAny P .any pre (Q1 P pre o Q) pre.size (xh pre.size U) a {w with drawn:=w.drawn+1}):
  (Code.region ii (pre.push o) N).wp P Q a w:=by
 refine wp_region_any q ?_;have e:xh (pre.push o).size U=(xh pre.size U).push U:=by
  grind
 rw[e,Array.size_push];refine kKr d c p u _ _ _ _ (by simp) (λj x _ y=>?_) h;have:(xh pre.size U).getD j U=U:=by
  simp only[Array.getD_eq_getD_getElem?,Array.getElem?_replicate];split<;>rfl
 grind
def SI(md:Region.Mode)(pre:τ γ)(o:γ):ζ :=
 (o.after.all λe=>!Region.binds md e||decide (e.on<pre.size)) &&
 (List.range pre.size).all λi =>
  (pre[i]?.map λx=>(x.after.all λe=>!Region.binds md e||decide (e.on<i)) &&
   match x.guard with|none=>N|some (j,_)=>decide (j<pre.size)).getD N &&
  ((o.after.any λe=>Region.binds md e&&e.on==i)||
   (List.range pre.size).any λj=>decide (i<j)&&(pre[j]?.map λx=>x.after.any λe=>Region.binds md e&&e.on==i).getD U)
theorem kMZ{x:γ}(h:pre[i]?=I x):i<pre.size:=by
 grind
theorem Ly(h:(A.all λe=>!Region.binds md e||decide (e.on<n))=N){e:Edge}(c:e∈A)(d:Region.binds md e=N):e.on<n:=by
 have:=Array.all_eq_true'.1 h e c
 grind
theorem Lz(h:A.any λe=>Region.binds md e&&e.on==n=N):∃e∈A,Region.binds md e=N/\e.on=n:=by
 grind
theorem kLb(h:SI md pre o=N):iY md (pre.push o)/\iY md pre/\NL pre/\MO md pre o:=by
 unfold SI at h;rw[xb,List.all_eq_true]at h;obtain⟨E,C⟩:=h;have c:iY md pre:=λi x d e u q=>by
  have:=C i (List.mem_range.2 (kMZ d));rw[xb]at this;have:=this.1;rw[d]at this;simp only[xr,xz,xb]at this;exact Ly this.1 u q
 refine⟨λi x d e u q=>?_,c,λi x d j b J=>?_,λi H=>?_⟩
 ·rcases xt i pre.size with y|y|y
  ·exact c i x (by grind) e u q
  ·subst y;simp at d;subst d;exact Ly E u q
  grind
 ·grind
 ·have:=C i (List.mem_range.2 H);rw[xb]at this;have:=this.2;rw[Bool.or_eq_true]at this
  rcases this with h|h
  ·exact .inl (Lz h)
  ·right
   rw[List.any_eq_true]at h;obtain⟨j, -,p⟩:=h;rw[xb]at p
   cases d:pre[j]? with
   |none=>rw[d]at p;simp at p
   |some x =>
    rw[d]at p;simp only[xr,xz]at p;exact⟨j,x,of_decide_eq_true p.1,d,Lz p.2⟩
theorem aV{l:H γ}(x:P.follows .mixedOrders=N)(o:γ)(y:l=l.dropLast++[o])(u:SI .any l.dropLast.toArray o=N)(q:S w.drew)(h:S w.drew->χ P .any l.dropLast.toArray (Q1 P l.dropLast.toArray o Q) S l.dropLast.length (xh l.dropLast.length U) a w.drew):
  (Code.region ii l.toArray N).wp P Q a w:=by
 have e:l.toArray=l.dropLast.toArray.push o:=by
  grind
 obtain⟨c,d,j,p⟩:=kLb u;rw[e];exact kFA x c d j p (wpAny_of_held _ _ _ _ (by simpa using h q))
def L(i f:p):τ ζ:=(x5 i N++x5 f U).toArray
theorem L0(i f:p):(L i (f+1)).setIfInBounds i N=L (i+1) f:=by
 unfold L
 grind
def tk(j:ops[i]?=I oi)(c:(Region.noSelect ops&&Region.free .any ops (L i (f+1)) i&&(Region.ready .any ops (L i (f+1))).contains i)=N)(d:∀c a w,Q (.panic c) (a.put oi.dst v) w->Q (.panic c) a w)(p:Region.wanted oi (yielded ops a.tmps)=N)(q:∀w,S w->(κ a.eval oi).run P w=.ok (.value v) w)(e:S w)(h:χ P .any ops Q S f (L (i+1) f) (a.put oi.dst v) w):χ P .any ops Q S (f+1) (L i (f+1)) a w:=by
 simp only[xb]at c;refine wpAnyH_take j c.1.1 c.1.2 c.2 d (xF ⟨p,q⟩) e ?_;rw[L0];exact h
def uO(n:p):xh n U=L 0 n:=by simp[L]
theorem cT(e:ops[i]?=I oi)(c:(Region.ready .any ops (L i (f+1))==[i])=N)(q:Region.wanted oi (yielded ops a.tmps)=N)(h:oi.wp P a w (λd w'=>S w'/\χ P .any ops Q S f (L (i+1) f) d w') Q):χ P .any ops Q S (f+1) (L i (f+1)) a w:=by
 refine wpAnyH_all (rs:=[i]) (by simpa using c) (by simp) λj p=>?_
 simp_all [List.mem_singleton,L0,wpOp,if_true]
def fin(c:Region.ready .any pre (L i 0)=[])(d:Region.wanted o (yielded (pre.push o) a.tmps)=N)(h:o.wp P a w (Q .normal) Q):χ P .any pre (Q1 P pre o Q) S 0 (L i 0) a w:=by
 refine⟨c,?_⟩;unfold Q1 wpOp;simp only[Array.getElem?_push_size,d,if_true];exact .inl h
theorem tail{o1 o2 o3:γ}{q x y ds dn dp:ι}{c:ι}{ev:ν}{xs news:σ ν}{H:ι}(h1:pre[i]?=I o1)(h2:pre[i+1]?=I o2)(h3:pre[i+1+1]?=I o3)(hc:(Region.ready .any pre (L i 3)==[i]&&(Region.ready .any pre (L (i+1) 2)==[i+1]&&(Region.ready .any pre (L (i+1+1) 1)==[i+1+1]&&Region.ready .any pre (L (i+1+1+1) 0)==[])))=N)(p1:o1.op=.call {callee:=.builtin .append,args:=#[.tmp ds,.tmp dn],argTypes:=#[107,107]}/\o1.dst=I q/\o1.guard=G)(p2:o2.op=.nilCheck (.tmp dp)/\o2.dst=I x/\o2.guard=G)(p3:o3.op=.fieldAddr 113 (.tmp x) 0/\o3.dst=I y/\o3.guard=G)(p4:o.op=.store 107 (.tmp y) (.tmp q)/\o.dst=G/\o.guard=G)(ag:q<a.tmps.size/\x<a.tmps.size/\y<a.tmps.size)(af:q≠x/\q≠y/\q≠dp)(v1:a.eval (.tmp ds)=ev)(v2:a.eval (.tmp dn)=VV b m c)(v3:a.eval (.tmp dp)=.pointer (I ⟨z,0,G⟩))(aa:w.ownsRow B 116 10 ev n xs)(hl:news.length=m*10)(W:∀j u,news[j]?=I u->w.cell? ((⟨b,0,G⟩:δ).add j)=I u)(ho:∀u∈news,u.oneCell'=N)(hm:0<m)(hn:n+m<100000000)(hB:B<=w.heap.size)(hH:w.heap.size=H)(hS:∀C,w.grownBy C ev.ownBlock->S C/\(∃u,C.cell? ⟨z,0,G⟩=I u)/\C.frozen? ⟨z,0,G⟩=U)(h:∀g p w',w'.ownsRow B 116 10 (VV g (n+m) p) (n+m) (xs++news)->w.grownBy w' ev.ownBlock->ev.ownBlock=I g\/g=H->g<w'.heap.size->Q .normal (((a.put (I q) (VV g (n+m) p)).put (I x) (.pointer (I ⟨z,0,G⟩))).put (I y) (.pointer (I ⟨z,0,G⟩))) (w'.setCell ⟨z,0,G⟩ (VV g (n+m) p))):
  χ π .any pre (Q1 π pre o Q) S 3 (L i 3) a w:=by
 obtain⟨i0,hi,ab,ac,ad⟩:=uV Tryz.infoE;simp only[xb]at hc;obtain⟨c1,c2,c3,c4⟩:=hc;refine cT h1 c1 (by grind [Region.wanted]) ?_;refine wp_append_lies w _ _ _ p1.1 B 116 i0 (.agg (iM J.E.zero (O G 0 0)).toArray) 10 120 underlying107 hi ab ac ad Z (by decide) ev n xs v1 aa _ m c news v2 hl W ho hm (by unfold θ;omega) (by omega) hB H hH ?_;intro g p C q1 q2 q3 q4;obtain⟨s1,⟨u,s2⟩,s3⟩:=hS C q2;have hK:=h g p C q1 q2 q3 q4;rw[p1.2.1];have ae:∀{b:Act} {d e:ι} {v:ν},d≠e->(b.put (I d) v).eval (.tmp e)=b.eval (.tmp e):=λ{b d e v} hd=>by simp_all [xg,xa]
 have Y:∀{b:Act} {d:ι} {v:ν},d<b.tmps.size->(b.put (I d) v).eval (.tmp d)=v:=λ{b d v} hd=>by simp_all [xg,xa]
 have es:∀{b:Act} {d:ι} {v:ν},(b.put (I d) v).tmps.size=b.tmps.size:=λ{b d v}=>by simp[xa]
 have r2:∀X,(κ (a.put (I q) (VV g (n+m) p)).eval o2).run π X=.ok (.value (.pointer (I ⟨z,0,G⟩))) X:=λX=>by
  simp_all [κ]
 have r3:∀X,(κ ((a.put (I q) (VV g (n+m) p)).put (I x) (.pointer (I ⟨z,0,G⟩))).eval o3).run π X=.ok (.value (.pointer (I ⟨z,0,G⟩))) X:=λX=>by
  unfold κ;simp only[p3.1,Y (show x<(a.put (I q) (VV g (n+m) p)).tmps.size by grind)]
  kernel_rfl
 have q5:(((a.put (I q) (VV g (n+m) p)).put (I x) (.pointer (I ⟨z,0,G⟩))).put (I y) (.pointer (I ⟨z,0,G⟩))).eval (.tmp y)=.pointer (I ⟨z,0,G⟩):=Y (by grind);have q6:(((a.put (I q) (VV g (n+m) p)).put (I x) (.pointer (I ⟨z,0,G⟩))).put (I y) (.pointer (I ⟨z,0,G⟩))).eval (.tmp q)=VV g (n+m) p:=by
  grind
 have r4:(κ (((a.put (I q) (VV g (n+m) p)).put (I x) (.pointer (I ⟨z,0,G⟩))).put (I y) (.pointer (I ⟨z,0,G⟩))).eval o).run π C=.ok .skip (C.setCell ⟨z,0,G⟩ (VV g (n+m) p)):=by
  unfold κ;simp only[p4.1,q5,q6];go_simp
 refine⟨s1,cT h2 c2 (by grind [Region.wanted]) ?_⟩;unfold Oper.wp;rw[r2,Oper.upon_value,p2.2.1];refine⟨s1,cT h3 c3 (by grind [Region.wanted]) ?_⟩;unfold Oper.wp;rw[r3,Oper.upon_value,p3.2.1];refine⟨s1,fin (by simpa using c4) (by grind [Region.wanted]) ?_⟩;unfold Oper.wp;rw[r4,Oper.upon_skip,p4.2.1];exact hK
end Pop
namespace J
def doL(s:PS):H Tree->PS
 |[]=>s
 |⟨x,b⟩::r=>doL (if x.op.toList==oIf then(if s.val x.a==0 then s.cM x else doL (s.cM x) b)else s.step x) r
def eV(s:PS)(t:Tree):PS:=if t.x.op.toList==oIf then(if s.val t.x.a==0 then s.cM t.x else doL (s.cM t.x) t.body)else s.step t.x
theorem bW(s:PS):doL s []=s:=by simp only[doL]
def nT(s:PS)(t:Tree)(r:H Tree):doL s (t::r)=doL (eV s t) r:=by cases t;simp only[doL,eV]
def kMF(s:PS)(l r:H Tree):doL s (l++r)=doL (doL s l) r:=by
 induction l generalizing s with
 |nil=>simp only[List.nil_append,bW]
 |cons t l ih=>simp only[xu,nT,ih]
def sF(s:PS)(l:H Tree)(k:p)(h:k<l.length):doL s (l.take (k+1))=eV (doL s (l.take k)) l[k]:=by
 rw[List.take_succ_eq_append_getElem h,kMF,nT,bW]
structure Fit(x:Lh):Prop where
 r:x.op.toList=oLoad\/x.op.toList=oAdd\/x.op.toList=oSwap\/x.op.toList=oSet->0<=x.VX/\x.VX<4
 a0:-4<=x.a
 a1:x.a<4
 b0:-4<=x.b
 b1:x.b<4
 op:x.op.toList=oLoad\/x.op.toList=oAdd\/x.op.toList=oSwap\/x.op.toList=oStore\/x.op.toList=oFence\/x.op.toList=oBar\/x.op.toList=oSet\/x.op.toList=oIf
def fitL:H Tree->Prop
 |[]=>True
 |⟨x,b⟩::r=>(Fit x/\fitL b)/\fitL r
def QF(t:Tree):Prop:=Fit t.x/\fitL t.body
def UF:fitL []=True:=by simp only[fitL]
theorem AL(t:Tree)(r:H Tree):fitL (t::r)=(QF t/\fitL r):=by cases t;simp only[fitL,QF]
theorem sE{l:H Tree}(h:fitL l)(k:p)(c:k<l.length):QF l[k]:=by
 induction l generalizing k with
 |nil=>simp at c
 |cons t r ih =>
  grind [AL]
def qW{l:H Tree}(h:fitL l)(k:p):fitL (l.take k):=by
 induction l generalizing k with
 |nil=>simpa using h
 |cons t r ih =>
  rw[AL]at h
  cases k with
  |zero=>rw[List.take_zero,UF];trivial
  |succ k=>rw[List.take_succ_cons,AL];exact⟨h.1,ih h.2 k⟩
structure Bnd(n:ι)(s:PS):Prop where
 e:s.e.length<=2*n
 r0:0<=s.round
 r1:s.round<=n
 rl:s.g.length=4
 rg:∀i,0<=s.g.getD i 0/\s.g.getD i 0<4
 hl:s.hang.length=4
 hg:∀i,(s.hang.getD i []).length<=2^n
 wy:s.way.length<=2^n
 rd:∀v∈s.D,0<=v/\v<4
 rn:s.D.length<1000
section
variable {n:ι}{s:PS}{x:R.Lh}
def BK(n:p):2^(n+1)=2*2^n:=by omega
theorem Bnd.up(h:Bnd n s):Bnd (n+1) s:=by
 have:=BK n;exact⟨by have:=h.e;omega,h.r0,by have:=h.r1;omega,h.rl,h.rg,h.hl,λi=>by have:=h.hg i;omega,by have:=h.wy;omega,h.rd,h.rn⟩
def Bnd.val(h:Bnd n s){a:ω}(c:-4<=a)(d:a<4):0<=s.val a/\s.val a<4:=by
 unfold PS.val
 split
 ·exact h.rg _
 ·omega
def Bnd.aM(h:Bnd n s)(a:ω):(s.aM a).length<=2^n:=by
 unfold PS.aM
 split
 ·exact h.hg _
 ·simp
theorem Bnd.head(h:Bnd n s):0<=s.D.headD 0/\s.D.headD 0<4:=by
 cases e:s.D with
 |nil=>simp
 |cons v r=>exact h.rd v (by grind)
theorem kKS{r:p}{v:u}:(l.set r v).getD i 0=if r=i/\r<l.length then v else l.getD i 0:=by
 grind
theorem LZ{l:H (H u)}{r:p}{v:H u}:(l.set r v).getD i []=if r=i/\r<l.length then v else l.getD i []:=by
 grind
theorem Bnd.aO(h:Bnd n s){r v:ω}(d:0<=v/\v<4)(c:l.length<=2^n):Bnd n (s.aO r v l):=by
 refine⟨h.e,h.r0,h.r1,by simp[PS.aO,h.rl],λi=>?_,by simp[PS.aO,h.hl],λi=>?_,h.wy,h.rd,h.rn⟩
 ·simp only[PS.aO];rw[kKS];split
  ·exact d
  ·exact h.rg i
 ·simp only[PS.aO];rw[LZ];split
  ·exact c
  ·exact h.hg i
theorem Bnd.put(h:Bnd n s){l:σ E}(c:l.length<=2):Bnd (n+1) (s.put l):=by
 have:=BK n;exact⟨by have:=h.e;simp only[PS.put,xc];omega,h.r0,by have:=h.r1;simp only[PS.put];omega,h.rl,h.rg,h.hl,λi=>by have:=h.hg i;simp only[PS.put];omega,by have:=h.wy;simp only[PS.put];omega,h.rd,h.rn⟩
theorem Bnd.take(h:Bnd n s):Bnd n s.take:=⟨h.e,h.r0,h.r1,h.rl,h.rg,h.hl,h.hg,h.wy,λv c=>h.rd v (List.mem_of_mem_tail c),by grind [Bnd.rn,J.PS.take]⟩
def Bnd.cM(h:Bnd n s):Bnd (n+1) (s.cM x):=by
 have:=BK n;have k:=h.aM x.a;exact⟨by have:=h.e;simp only[PS.cM];omega,h.r0,by have:=h.r1;simp only[PS.cM];omega,h.rl,h.rg,h.hl,λi=>by have:=h.hg i;simp only[PS.cM];omega,by have:=h.wy;simp only[PS.cM,xc];omega,h.rd,h.rn⟩
def SL(n:p):1<=2^n:=Nat.one_le_two_pow
theorem Bnd.step(h:Bnd n s)(c:Fit x):Bnd (n+1) (s.step x):=by
 have p:=BK n;have d:=h.head;have j:=h.aM x.a;have q:=h.aM x.b;have y:=h.val c.a0 c.a1;have C:=h.val c.b0 c.b1;have u:=SL n;unfold PS.step
 split
 ·exact(h.take.put (l:=[_]) (by simp)).aO d (by grind)
 split
 ·exact(h.take.put (l:=[_,_]) (by simp)).aO d (by grind)
 split
 ·exact(h.take.put (l:=[_,_]) (by simp)).aO d (by grind)
 split
 ·exact h.put (by simp)
 split
 ·exact h.put (by simp)
 split
 ·have:=h.put (l:=[aE s.round,lE s.round]) (by simp);exact⟨this.e,by have:=h.r0;simp only;omega,by have:=h.r1;simp only;omega,this.rl,this.rg,this.hl,this.hg,this.wy,this.rd,this.rn⟩
 grind [Bnd.aO,PS.set,Bnd.up]
end
def Bnd.mono{s:PS}(h:Bnd n s)(c:n<=m):Bnd m s:=by
 induction c with
 |refl=>exact h
 |step _ ih=>exact ih.up
theorem fO(l:H Tree):∀(s:PS) (n:ι),Bnd n s->fitL l->Bnd (n+(WV l).toNat) (doL s l):=by
 induction l using WF.induct with
 |case1=>intro s n h _;rw[bW];exact h.mono (by omega)
 |case2 x b r h1 h2 =>
  intro s n h c;rw[AL]at c;have j:=(gO (λ_=>N) b).1;have p:=(gO (λ_=>N) r).1;have e:WV (⟨x,b⟩::r)=1+WV b+WV r:=by grind [WV,mZ,jP]
  rw[nT,e];have d:Bnd (n+(1+(WV b).toNat)) (eV s ⟨x,b⟩):=by
   unfold eV
   split
   ·split
    ·exact h.cM.mono (by omega)
    ·have:=h1 (s.cM x) (n+1) h.cM c.1.2
     grind
   ·exact(h.step c.1.1).mono (by omega)
  refine(h2 _ _ d c.2).mono ?_;unfold WV at*;omega
end J
