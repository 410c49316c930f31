import Derived.Test.YteekngiepnnmjaaGreatDoorV09
import Derived.Test.YteekngiepnnmjaaGreatDoorV08
set_option linter.all false
set_option maxHeartbeats 0
namespace Go.Proofs.YteekngiepnnmjaaGreatDoor
open Go Go.RowKit Go.Proofs.Tryz P Q
open scoped Classical
set_option maxRecDepth 1000000
open Go renaming Value->A,Value->σ,heap_alloc_new->ω,World->φ,bits_or_u64_nat->τ,Calls->η,info_parts->ζ
open Go.RowKit renaming Below->Y,Below->ν,intOf->ι
open _root_ renaming List->S,List->ξ,Nat->z,Nat->ψ,Int->K,Int->ρ
open Go.Proofs.Tryz renaming prog->π
variable {w w' w1:φ}{B cn g gn n sz:ψ}{rs:ξ (ξ ρ)}{ov rg u v:σ}{vs xs:ξ σ}{fp:ξ ψ}{m:Ew}{es:ξ Ev}{t:TypeId}{wd:Q.Wd}
open List renaming length->D
open _root_.Array renaming size->T
open Go.World renaming heap->J
open Go.Value renaming int->C,slice->G,bool->L
open Go.IntKind renaming i64->O
open Go.Obj renaming cells->I
open Option renaming none->U,some->N
open Bool renaming false->M
open Go.Ending renaming returned->H
open Nat renaming le_refl->xF,lt_of_lt_of_le->xc,zero_le->xd
open Go.RowKit.Below renaming refl->xR,heap_setCell->xW,heap_alloc->xe
open Go.Value renaming ownBlock->xa,oneCell'->xi,int->xj
open Go.World renaming cell?->xb,frozen?_of_block->xg,ownsRow_nil->xm,news_of_block->xo
open List renaming take_succ_eq_append_getElem->xh,getElem_mem->xk,map_append->xn,append_assoc->xp
theorem XW.off(h:XW w B g rs ov vs fp)(j:w'.heap[g]?=w.heap[g]?)(p:∀k,ov.ownBlock=N k->w'.heap[k]?=w.heap[k]?)(f:∀k∈fp,w'.heap[k]?=w.heap[k]?)(d:T (J w)<=T (J w')):XW w' B g rs ov vs fp:=by
 obtain⟨c,q⟩:=h.ty;refine⟨(World.cell?_of_block (w:=w) (a:=⟨g,0,U⟩) j).trans h.cell,xc h.lt d,(xg (w:=w) (a:=⟨g,0,U⟩) j).trans h.free,⟨bH h.y.own p,h.y.len,λi l u b=>(h.y.y i l u b).own _ (λk e=>f k (h.fps u (List.mem_of_getElem? b) k e)) d⟩,⟨c,?_⟩,h.fps,λk o=>xc (h.fpl k o) d,h.dis,h.hand.own λu b k e=>f k (h.fps u b k e)⟩
 grind
def XW.gU(h:XW w B g rs ov vs fp)(k:ψ)(e:ov.ownBlock=N k):k<T (J w):=(h.y.own.lt k e).2
def XW.X(h:XW w B g rs ov vs fp)(a:ν (T (J w)) w w'):XW w' B g rs ov vs fp :=
 h.off (a.block g h.lt) (λk e=>a.block k (h.gU k e)) (λk b=>a.block k (h.fpl k b)) a.size
theorem XW.in_(h:XW w B g rs ov vs fp):OutIn w B g rs :=
 ⟨⟨ov,vs,h.cell,h.y⟩,h.lt,h.free,λc t a e=>by
  grind [XW.ty]⟩
def YH.fH(a:ν (T (J w)) w w')(c:g<T (J w)):YH w w' g ov ov fp fp :=
 ⟨a.os,a.tape,a.output,a.size,λk b _ _=>a.block k b,Or.inl Z,λk b=>Or.inl b,a.cell c⟩
theorem Hl(B g:z)(d ov:A)(rs:S (S K))(vs:S A)(fp:S z)(r:S K)(w:φ)(h:XW w B g rs ov vs fp)(l:YA w d r)(a:YX rs)(o:∀x∈rs,ZX x/\D x<1000)(b:ZX r/\D r<1000)(j:D rs<100000000)(p:B<=T (J w))(f:∀k,d.ownBlock=N k->k≠g/\ov.ownBlock≠N k):
  η π 82 #[.pointer (N ⟨g,0,U⟩),d] w λe w'=>e=H (.tuple #[])/\∃ov' vs' fp',XW w' B g (eI rs r) ov' vs' fp'/\YH w w' g ov ov' fp fp':=by
 have c:=GF (r:=r) rs;by_cases h1:aP rs r<D rs
 ·rw[dif_pos h1]at c;have e1:rs.getD (aP rs r) []=rs[aP rs r]:=by simp[h1]
  by_cases h2:cmp rs[aP rs r] r=0
  ·rw[if_pos h2]at c;rw[c];refine(U6 B g d rs r w h.in_ l a o b j h1 (by grind)).mono ?_;rintro e w' ⟨rfl,q⟩;exact⟨Z,ov,vs,fp,h.X q,YH.fH q h.lt⟩
  ·rw[if_neg h2]at c;rw[c];exact Gi B g d ov rs vs fp r w h l a o b j p λ_=>by grind f
 ·rw[dif_neg h1]at c;have s:aP rs r=D rs:=by grind [Fx]
  have i:eI rs r=rs.take (aP rs r)++r::rs.drop (aP rs r):=by grind
  rw[i];exact Gi B g d ov rs vs fp r w h l a o b j p (λh=>absurd h h1) f
theorem Hm(B g k:z)(m:Ew)(ev:σ)(c:VW)(w:φ)(h:Eh w B g m ev)(f:m.Ok k)(aq:ZR c)(hk:k<1000)(hB:B<=T (J w)):
  η π 183 #[.pointer (N ⟨g,0,U⟩),.agg (aU c)] w λx w'=>x=H (.tuple #[])/\pC B g w w' ev (m.step c):=by
 obtain⟨k0,aw,ab⟩:=nY w (aU c) 137;have ag:=aD (h.X ab);have an:=aD ab;have al:aC (bK _ _ c):=k0;have ha:=f.value (a:=⟨c.a.VX,c.a.n⟩) aq.1;have af:=tX f.made ⟨c.a.VX,c.a.n⟩;have ar:=f.len;obtain⟨r1,r2,r3,r4,r5,r6⟩:=f.bE c;have ax:0<=(m.bE c).aX (D m.E)/\(m.bE c).aX (D m.E)<4:=by
  have hx:(m.bE c).Ok (k+1):=⟨r1,r2,r3,r4,by omega,by have:=f.u;show m.u<=k+1;omega,r6⟩;exact hx.aX _
 have A:=xU (D m.E:z);have av:=τ (m.Ea ⟨c.a.VX,c.a.n⟩) (Q.cT (D m.E:z)) af A;have ap:=uG af A;have au:=ab.size;have r:aC (∀v s,((m.bE c).bX c v s).E.length=D m.E+2):=λv s=>by grind [Ew.bX,Ew.put]
 simp only[aU]at *;go_in;go_upto_region 1 with fail
 generalize hE:w.alloc (I #[C O c.kind,C O c.i,C O c.dest,C O c.z,L c.a.VX,C O c.a.n,L c.b.VX,C O c.b.n,C O c.q,C O c.scope,C O c.label] 137)=W0 at*;obtain⟨s0,s1,s2⟩:=al.fs;go_upto_region 4 with(first
  |(go_at_call 180;refine(Fq B g m ev c _ ai (by omega) (by omega) f.Y).mono ?_;rintro e w3 ⟨rfl,V,ao,am⟩;have j:=aD ao;have K:=aD (am.stm ai ak);have F3:=aD ((Eg.of (bT (CH an (xF _) W) aa) g ev).trans am);obtain⟨s0,s1,s2⟩:=K.fs)
  |(go_at_call 157;refine(IS B g m ev c.a.VX c.a.n _ ah).mono ?_;rintro e w2 ⟨rfl,aa⟩;have ai:=aD (ah.X aa);have ak:=aD (aj.X aa);obtain⟨s0,s1,s2⟩:=ak.fs)
  |(go_at_call 158;refine(DL B g m ev c.a.VX c.a.n _ ag).mono ?_;rintro e w1 ⟨rfl,W⟩;have ah:=aD (ag.X W);have aj:=aD (al.X W);obtain⟨s0,s1,s2⟩:=aj.fs))
 cases z2:c.kind==2
 ·have HE:aC (m.step c=((m.bE c).bX c (m.value ⟨c.a.VX,c.a.n⟩) (m.Ea ⟨c.a.VX,c.a.n⟩)).bG c.dest (D m.E)):=by unfold aC Ew.step;rw[z2];rfl
  generalize m.value ⟨c.a.VX,c.a.n⟩=x at*;generalize m.Ea ⟨c.a.VX,c.a.n⟩=y at*;go_wp2_with(first
   |(go_at_call 181;refine(TY B g _ l c.dest (D m.E) _ F (by rw[r.o];omega) (by rw[r.o];omega)).mono ?_;rintro e w5 ⟨rfl,ae,ac⟩)
   |(go_at_call 207;refine(QY B g (m.bE c) V c x y _ j (by omega) (by omega) r3 af).mono ?_;rintro e w4 ⟨rfl,l,ad,p⟩;have F:=aD ad;have S:=aD (p.stm j K);have F4:=aD (F3.trans p);obtain⟨s0,s1,s2⟩:=S.fs))
  go_end0;refine⟨Z,l,?_,F4.trans ac⟩;rw[HE.o];exact ae
 ·have HE:aC (m.step c=((m.bE c).bX c ((m.value ⟨c.a.VX,c.a.n⟩+(m.bE c).aX (D m.E))%4) (m.Ea ⟨c.a.VX,c.a.n⟩|||Q.cT (D m.E:z))).bG c.dest (D m.E)):=by unfold aC Ew.step;rw[z2];rfl
  generalize hx:m.value ⟨c.a.VX,c.a.n⟩=x at*;generalize hy:m.Ea ⟨c.a.VX,c.a.n⟩=y at*;generalize hv:(m.bE c).aX (D m.E)=v at*;go_wp2_with(first
   |(go_at_call 181;refine(TY B g _ l c.dest (D m.E) _ F (by rw[r.o];omega) (by rw[r.o];omega)).mono ?_;rintro e w5 ⟨rfl,ae,ac⟩)
   |(go_at_call 207;refine(QY B g (m.bE c) V c ((x+v)%4) (y|||Q.cT (D m.E:z)) _ j (by omega) (by omega) r3 ap).mono ?_;rintro e w4 ⟨rfl,l,ad,p⟩;have F:=aD ad;have S:=aD (p.stm j K);have F4:=aD (F3.trans p);obtain⟨s0,s1,s2⟩:=S.fs)
   |(go_at_call 206;refine(Fm B g (m.bE c) V (D m.E) _ j (by omega) (by omega)).mono ?_;rintro e w' ⟨rfl,d⟩;have d:=d.symm;subst d;rw[hv])
   |(go_at_call 139;refine(MD _ _).mono ?_;rintro e w' ⟨rfl,d⟩;have d:=d.symm;subst d))
  go_end0;refine⟨Z,l,?_,F4.trans ac⟩;rw[HE.o];exact ae
theorem Xi(B g k:z)(m:Ew)(ev:A)(c:VW)(w:φ)(h:Eh w B g m ev)(aj:m.Ok k)(aA:ZR c)(hk:k<1000)(hB:B<=T (J w)):
  η π 159 #[.pointer (N ⟨g,0,U⟩),.agg (aU c)] w λx w'=>x=H (.tuple #[])/\pC B g w w' ev (m.bU c):=by
 obtain⟨k0,aL,ad⟩:=nY w (aU c) 137;have d:=aD (h.X ad);have l:=aD ad;have ac:aC (bK _ _ c):=k0;have j:=aD aj;have ab:=aD aA;have aB:=aj.len;have aE:=ad.size;have HD:aC (m.bU c=if c.kind==0 then(m.bE c).bG c.dest (D m.E)else if c.kind==1 then m.store c else if c.kind==2||c.kind==3 then m.step c else if c.kind==4 then m.put (m.V 2 c)else if c.kind==5 then m.dN c else if c.kind==6||c.kind==7||c.kind==8||c.kind==9 then m.aO c.dest (m.bL c) (m.Ea ⟨c.a.VX,c.a.n⟩|||m.Ea ⟨c.b.VX,c.b.n⟩)else m):=Z;simp only[aU]at *;go_in;go_upto_region 1 with fail
 generalize hE:w.alloc (I #[C O c.kind,C O c.i,C O c.dest,C O c.z,L c.a.VX,C O c.a.n,L c.b.VX,C O c.b.n,C O c.q,C O c.scope,C O c.label] 137)=W0 at*;obtain⟨S,s1,s2,s3,s4,s5,s6,s7,s8,s9,ak,al,am⟩:=ac.F
 cases z0:c.kind==0
 rotate_left
 ·have aJ:(m.bE c).E.length=D m.E+1:=(j.bE c).2.2.2.2.1;have r:aC (m.bU c=(m.bE c).bG c.dest (D m.E)):=by grind
  go_wp2_with(first
   |(go_at_call 181;refine(TY B g _ W c.dest (D m.E) _ ao (by omega) (by omega)).mono ?_;rintro e w5 ⟨rfl,af,ae⟩)
   |(go_at_call 180;refine(Fq B g m ev c _ d (by omega) (by omega) j.Y).mono ?_;rintro e w3 ⟨rfl,W,f,aa⟩;have ao:=aD f;have au:=aD (aa.stm d ac);have F3:=aD ((Eg.of l g ev).trans aa);obtain⟨S,s1,s2,s3,s4,s5,s6,s7,s8,s9,ak,al,am⟩:=au.F))
  go_end0;refine⟨Z,W,?_,F3.trans ae⟩;rw[r.o];exact af
 cases z1:c.kind==1
 rotate_left
 ·skip
  have r:aC (m.bU c=m.store c):=by grind
  go_wp2_with(first|(go_at_call 182;refine(Uo B g m ev c _ d (by omega) (by omega) j.A j.made).mono ?_;rintro e w3 ⟨rfl,f⟩));go_end0;refine⟨Z,pC.next (Eg.of l g ev) ?_⟩;rw[r.o];exact f
 cases z2:c.kind==2
 rotate_left
 ·skip
  have r:aC (m.bU c=m.step c):=by grind
  go_wp2_with(first|(go_at_call 183;refine(Hm B g k m ev c _ d j ab hk (by omega)).mono ?_;rintro e w3 ⟨rfl,f⟩));go_end0;refine⟨Z,pC.next (Eg.of l g ev) ?_⟩;rw[r.o];exact f
 cases z3:c.kind==3
 rotate_left
 ·skip
  have r:aC (m.bU c=m.step c):=by grind
  go_wp2_with(first|(go_at_call 183;refine(Hm B g k m ev c _ d j ab hk (by omega)).mono ?_;rintro e w3 ⟨rfl,f⟩));go_end0;refine⟨Z,pC.next (Eg.of l g ev) ?_⟩;rw[r.o];exact f
 cases z4:c.kind==4
 rotate_left
 ·skip
  have r:aC (m.bU c=m.put (m.V 2 c)):=by grind
  go_upto_region 12 with(first|(go_at_call 184;refine(EX B g m ev 2 c _ d (by omega)).mono ?_;rintro e w1 ⟨rfl,K⟩;generalize aH:m.V 2 c=e0 at*;simp only[aK]))
  have E1:aC (WN (w1.alloc (I (aK e0) 180)) (T (J w1)) e0):=WN.new w1 e0;have BX:Y (T (J W0)) W0 (w1.alloc (I (aK e0) 180)):=K.alloc K.size _;have y:=aD (d.X BX);have B1:=aD (bT l BX);have az:=BX.size;simp only[aK]at E1 y B1 az;generalize hb:T (J w1)=b at*;generalize aF:w1.alloc _=W1 at*;go_wp2_with(first|(refine jQ (.tmp 5) Z Z b 0 e0 Z E1.range ?_)|(go_at_call 185;refine(IC B g m ev e0 _ y (by omega) (by omega)).mono ?_;rintro e w3 ⟨rfl,W,f,aa⟩));go_end0;refine⟨Z,W,?_,(Eg.of B1 g ev).trans aa⟩;rw[r.o];exact f
 cases z5:c.kind==5
 rotate_left
 ·skip
  have r:aC (m.bU c=m.dN c):=by grind
  have aG:=j.u;go_wp2_with(first|(go_at_call 186;refine(Uq B g m ev c _ d (by omega) (by omega) (by omega)).mono ?_;rintro e w3 ⟨rfl,f⟩));go_end0;refine⟨Z,pC.next (Eg.of l g ev) ?_⟩;rw[r.o];exact f
 have ax:=tX j.made ⟨c.a.VX,c.a.n⟩;have ay:=tX j.made ⟨c.b.VX,c.b.n⟩;have aI:=τ (m.Ea ⟨c.a.VX,c.a.n⟩) (m.Ea ⟨c.b.VX,c.b.n⟩) ax ay
 cases z6:c.kind==6
 case' false =>
  cases z7:c.kind==7
  case' false =>
   cases z8:c.kind==8
   case' false =>
    cases z9:c.kind==9
    case' false =>
      have r:aC (m.bU c=m):=by grind
      go_wp2;go_end0;refine⟨Z,ev,?_,Eg.of l g ev⟩;rw[r.o];exact d
 all_goals
  have r:aC (m.bU c=m.aO c.dest (m.bL c) (m.Ea ⟨c.a.VX,c.a.n⟩|||m.Ea ⟨c.b.VX,c.b.n⟩)):=by unfold aC;rw[HD.o,z0,z1,z2,z3,z4,z5];first|(rw[z6];rfl)|(rw[z6,z7];rfl)|(rw[z6,z7,z8];rfl)|(rw[z6,z7,z8,z9];rfl)
  go_upto_region 20 with(first|(go_at_call 187;refine(Ut B g k m ev c _ d j ab).mono ?_;rintro e w1 ⟨rfl,K⟩;have y:=aD (d.X K);have ag:=aD (ac.X K);have B1:=aD (bT l K);obtain⟨S,s1,s2,s3,s4,s5,s6,s7,s8,s9,ak,al,am⟩:=ag.F))
  generalize m.bL c=rv at*;generalize ah:m.Ea ⟨c.a.VX,c.a.n⟩=ma at*;generalize ai:m.Ea ⟨c.b.VX,c.b.n⟩=mb at*;have ap:=aD ah;have aq:=aD ai;go_region_held3 (λw'=>w'.cell? ⟨T (J w),4,U⟩=N (L c.a.VX)/\w'.cell? ⟨T (J w),5,U⟩=N (C O c.a.n)/\w'.cell? ⟨T (J w),6,U⟩=N (L c.b.VX)/\w'.cell? ⟨T (J w),7,U⟩=N (C O c.b.n)) (first|exact⟨s6,s7,s8,s9⟩|exact⟨p6,p7,p8,p9⟩|exact⟨q6,q7,q8,q9⟩) (first
   |(go_at_call_of 157 (Value.bool c.b.VX);refine(IS B g m ev c.b.VX c.b.n _ (y.X s)).mono ?_;rintro e v2 ⟨rfl,aw⟩;have p:aC (Y (T (J w1)) w1 v2):=bT s aw;rw[aq.o];have q6:=cK p S s6;have q7:=cK p S s7;have q8:=cK p S s8;have q9:=cK p S s9)
   |(go_at_call 157;refine(IS B g m ev c.a.VX c.a.n _ (y.X (xR _ _).drew)).mono ?_;rintro e v1 ⟨rfl,av⟩;have s:aC (Y (T (J w1)) w1 v1):=((xR (T (J w1)) w1).drew).trans (av.mono (by simp));rw[ap.o];have p6:=cK s S s6;have p7:=cK s S s7;have p8:=cK s S s8;have p9:=cK s S s9))
  have ar:=aD (ag.X p);have an:=aD (y.X p);have F2:=aD (Eg.of (bT B1 p) g ev);obtain⟨t0,t1,t2,t3,t4,t5,t6,t7,t8,t9,aM,aN,aP⟩:=ar.F;go_wp2_with(first|(go_at_call 188;refine(Fo B g m ev c.dest rv (ma|||mb) _ an).mono ?_;rintro e w5 ⟨rfl,af,ae⟩));go_end0;refine⟨Z,ev,?_,F2.trans ae⟩;rw[r.o];exact af
theorem Xj(p:Ew×z)(a:VW)(b:(p.2==0)=M)(h:(a.kind==10)=true):aN p a=(p.1,p.2+1):=by grind [aN]
theorem Xk(p:Ew×z)(a:VW)(b:(p.2==0)=M)(h:(a.kind==10)=M)(c:(a.kind==11)=true):aN p a=(p.1,p.2-1):=by grind [aN]
theorem Xl(p:Ew×z)(a:VW)(b:(p.2==0)=M)(h:(a.kind==10)=M)(c:(a.kind==11)=M):aN p a=p:=by grind [aN]
theorem Xm(m:Ew)(b:VW)(h:(b.kind==10)=true):aN (m,0) b=(m.cM b,if m.value b.a==0 then 1 else 0):=by grind [aN]
theorem Xn(m:Ew)(a:VW)(h:(a.kind==10)=M):aN (m,0) a=(m.bU a,0):=by grind [aN]
def bK.AU{ev:σ}{b:ψ}{d:VW}(i:Eh w B g m ev)(a:bK w b d)(f:∀k,k≠g->w'.heap[k]?=w.heap[k]?):bK w' b d:=by
 refine a.aG (f b ?_);intro e;have c:=i.box;unfold bK at a;rw[<- e,a]at c;simp at c
theorem Xo(B g Y sc:z)(m:Ew)(ev:σ)(y:ξ VW)(sa:Option Addr)(w:φ)(h:Eh w B g m ev)(am:m.Ok 0)(ap:∀s∈y,ZR s)(hn:D y<900)(hB:B<=T (J w))(aT:0<D y->sa=N ⟨Y,0,U⟩)(aM:0<D y->Y<B)(hr:∀q (hq:q<D y),w.rangeAt Y (q*11) (aU y[q]).toList):
  η π 134 #[.pointer (N ⟨g,0,U⟩),G sa (D y) sc] w λx w'=>x=H (.tuple #[])/\pC B g w w' ev (uH m y):=by
 have ah:=aD h;have aA:=aD hr;have az:=aD am;have aE:=aD ap;have aW:aC (uH m y=(y.foldl aN (m,0)).1):=Z;clear h hr am ap;go_in;go_wp2;go_loopw[4,9] (λc j wr=>∃(k:z) (p:Ew×z) (r:σ),k<=D y/\j=C O k/\c=C O (p.2:z)/\aC (p=(y.take k).foldl aN (m,0))/\aC (p.1.Ok k)/\p.2<=k/\aC (Eh wr B g p.1 r)/\aC (Eg w wr g ev r)) λ_ j _=>D y-(ι j).toNat
 case atStart=>exact⟨0,(m,0),ev,xd _,Z,Z,by simp[aC],az,xF _,ah,Eg.of (xR _ _) g ev⟩
 case round =>
  obtain⟨k,⟨mk,S⟩,r,hk,rfl,rfl,HP,HO,aQ,HI,HF⟩:=hrel;simp only at HO aQ HI;by_cases hlt:k<D y
  ·have ba:=lI hlt;have aS:=aT (by omega);subst aS;have aL:=aM (by omega);have ad:=HF.X ah hB;have W:aC (wr.rangeAt Y (k*11) (aU y[k]).toList):=lC (aA k hlt) (ad.block Y aL);have l:aC ((y.take (k+1)).foldl aN (m,0)=aN (mk,S) y[k]):=by
    grind [aC,xh]
   have ao:=aE.o y[k] (xk hlt);generalize y[k]=d at*;have f:=aD (Ft (p:=(mk,S)) HO ao);have aX:=Uu (mk,S) d;have ae:=aD (bK.new wr d);have E:=aD (HI.X ((xR _ _).alloc (xF _) (I (aU d) 137)));have V:=aD (HF.trans (Eg.of ((xR (T (J wr)) wr).alloc (xF _) (I (aU d) 137)) g r));have ar:B<=(wr.alloc (I (aU d) 137)).heap.size:=by have:=V.size;omega
   have bc:Y<T (J wr):=by have:=ad.size;omega
   clear ad
   cases hp0:S==0
   ·have aV:0<S:=by have h9:S≠0:=(by simpa using hp0);omega
    have aR:(0:ρ)<S:=by omega
    cases hz:d.kind==10
    rotate_left
    ·have HC:=aD (Xj (mk,S) d hp0 hz);rw[HC.o]at l f;go_wp2_with(first|(refine rC (.tmp 11) Z Z Y (k*11) d Z W ?_));go_roundw;exact⟨k+1,(mk,S+1),r,by omega,by go_num,by go_num,l.symm,f,by simp;omega,E,V⟩;simp[ι];omega
    cases hz1:d.kind==11
    ·have HC:=aD (Xl (mk,S) d hp0 hz hz1);rw[HC.o]at l f;go_wp2_with(first|(refine rC (.tmp 11) Z Z Y (k*11) d Z W ?_));go_roundw;exact⟨k+1,(mk,S),r,by omega,by go_num,Z,l.symm,f,by simp;omega,E,V⟩;simp[ι];omega
    ·have HC:=aD (Xk (mk,S) d hp0 hz hz1);rw[HC.o]at l f;have aq:((S-1:z):ρ)=(S:ρ)-1:=by omega
     go_wp2_with(first|(refine rC (.tmp 11) Z Z Y (k*11) d Z W ?_));go_roundw;exact⟨k+1,(mk,S-1),r,by omega,by go_num,by rw[aq],l.symm,f,by simp;omega,E,V⟩;simp[ι];omega
   ·have an:S=0:=by simpa using hp0
    subst an
    cases hz:d.kind==10
    ·have HC:=aD (Xn mk d hz);rw[HC.o]at l f;go_wp2_with(first|(refine rC (.tmp 11) Z Z Y (k*11) d Z W ?_)|(go_at_call 159;refine(Xi B g k mk r d _ E HO ao (by omega) ar).mono ?_;rintro e w3 ⟨rfl,aJ,aP,aO⟩));go_roundw;exact⟨k+1,(mk.bU d,0),aJ,by omega,by go_num,Z,l.symm,f,by simp,aP,V.trans aO⟩;simp[ι];omega
    ·have HC:=aD (Xm mk d hz);rw[HC.o]at l f;have ax:aC (mk.cM d={mk with A:=mk.A|||mk.Ea ⟨d.a.VX,d.a.n⟩}):=Z;have aF:aC (mk.value d.a=mk.value ⟨d.a.VX,d.a.n⟩):=Z;have bd:=τ mk.A (mk.Ea ⟨d.a.VX,d.a.n⟩) HO.A (tX HO.made _);obtain⟨s0,s1,s2,s3,s4,s5,s6,s7,s8,s9,au,av,aw⟩:=ae.F;obtain⟨c0,c1,c2,c3,c4,c5,c6,c7,c8,c9,aG,af,aH,aI,cf⟩:=E.F;have ac:=E.lt;clear c0 c1 c2 c3 c4 c5 c6 c7 c8 c9 aG aH aI s3 s4 s5 au av aw;simp only[aU]at s0 s1 s2 s6 s7 s8 s9 af cf ac ar;go_upto_region 11 with(first|(refine rC (.tmp 11) Z Z Y (k*11) d Z W ?_))
     generalize aZ:T (J wr)=b0 at*;have ai:aC (bK (wr.alloc (I (aU d) 137)) b0 d):=ae;simp only[aU]at E V ai;generalize aK:wr.alloc (I #[C O d.kind,C O d.i,C O d.dest,C O d.z,L d.a.VX,C O d.a.n,L d.b.VX,C O d.b.n,C O d.q,C O d.scope,C O d.label] 137)=W1 at*;clear aK ae;generalize al:mk.Ea ⟨d.a.VX,d.a.n⟩=mo at*;have ay:=aD al;clear al;go_cut[]from 43 to 53 λwx=>∃K,aC (Eh wx B g (mk.cM d) K)/\aC (Eg w wx g ev K)/\aC (bK wx b0 d)
     case first =>
      go_region_with(go_at_call 157;refine(IS B g mk r d.a.VX d.a.n _ (E.X (by first|exact(xR _ _).drew|exact xR _ _))).mono ?_;rintro e w2 ⟨rfl,ak⟩;rw[ay.o];have B2:aC (ν (T (J W1)) W1 w2):=(by first|exact((xR (T (J W1)) W1).drew).trans (ak.mono (by simp))|exact ak);have aY:=cK B2 ac af;have df:∀j,w2.frozen? ⟨g,j,U⟩=M:=λj=>fK B2 ac (cf j))
      all_goals
       (try go_wp2)
       go_meet
       ·have aa:=E.X B2;refine⟨r,?_,V.trans ((Eg.of B2 g r).trans (Eg.set r [(11,C .u64 ((mk.A|||mo:z):ρ))])),bK.AU aa (ai.X B2) λk hk=>xW _ _ _ _ hk⟩;rw[ax.o];refine aa.set ?_ (λk hk=>xW _ _ _ _ hk) Z aa.lr aa.lm;rw[cI aa.box];rfl
     case rest =>
      obtain⟨K,H5,ag,aB⟩:=hcut;clear s0 s1 s2 s6 s7 s8 s9 af cf ac;obtain⟨s0,s1,s2,s3,s4,s5,s6,s7,s8,s9,au,av,aw⟩:=aB.F;have aj:aC ((mk.cM d).value ⟨d.a.VX,d.a.n⟩=mk.value ⟨d.a.VX,d.a.n⟩):=Z;rw[aF.o]at l f;generalize be:mk.value ⟨d.a.VX,d.a.n⟩=vv at*
      cases hv0:vv==0
      ·rw[hv0]at l f;go_wp2_with(first|(go_at_call 158;refine(DL B g (mk.cM d) K d.a.VX d.a.n _ H5).mono ?_;rintro e w6 ⟨rfl,ab⟩;rw[aj.o]));go_roundw;exact⟨k+1,(mk.cM d,0),K,by omega,by go_num,Z,l.symm,f,by simp,H5.X ab,ag.trans (Eg.of ab g K)⟩;simp[ι];omega
      ·rw[hv0]at l f;go_wp2_with(first|(go_at_call 158;refine(DL B g (mk.cM d) K d.a.VX d.a.n _ H5).mono ?_;rintro e w6 ⟨rfl,ab⟩;rw[aj.o]));go_roundw;exact⟨k+1,(mk.cM d,1),K,by omega,by go_num,Z,l.symm,f,by simp,H5.X ab,ag.trans (Eg.of ab g K)⟩;simp[ι];omega
  ·have bb:k=D y:=by omega
   have HE:aC (mk=uH m y):=by
    grind [aC]
   go_wp2;go_end0;exact⟨Z,r,by rw[<- HE.o];exact HI,HF⟩
def ZV:S Run->S A->S A
 |r::rs,v::vs=>v::C O (r.g.getD 0 0)::C O (r.g.getD 1 0)::C O (r.g.getD 2 0)::C O (r.g.getD 3 0)::ZV rs vs
 |_,_=>[]
def Hn:∀(rs:S Run) (vs:S A) (r:Run) (v:A),D vs=D rs->ZV (rs++[r]) (vs++[v])=ZV rs vs++[v,C O (r.g.getD 0 0),C O (r.g.getD 1 0),C O (r.g.getD 2 0),C O (r.g.getD 3 0)]
 |[],[],_,_,_=>Z
 |[],_::_,_,_,h=>by simp at h
 |_::_,[],_,_,h=>by simp at h
 |a::rs,u::vs,r,v,h=>by
  simp only[List.cons_append,ZV];rw[Hn rs vs r v (by simpa using h)]
structure Em(w:φ)(B:ψ)(v:σ)(rs:ξ Run)(vs:ξ σ):Prop where
 own:w.ownsRow B 209 5 v (D rs) (ZV rs vs)
 len:D vs=D rs
 K:∀i (h:i<D rs) (u:σ),vs[i]?=N u->YG w u rs[i].E
def Em.X{rs:ξ Run}(h:Em w B v rs vs)(a:ν (T (J w)) w w'):Em w' B v rs vs :=
 ⟨bH h.own λk e=>a.block k (h.own.lt k e).2,h.len,λi b u c=>(h.K i b u c).X a⟩
theorem Em.nil(w:φ)(B:ψ):Em w B (G U 0 0) [] []:=⟨by grind [ZV,xm],Z,λi h=>by simp at h⟩
theorem Em.form{rs:ξ Run}(h:Em w B v rs vs):∃a c,v=G a (D rs) c:=by
 rcases h.own.2 with⟨e,d⟩|⟨k,c,b,e,_⟩
 ·grind
 ·exact⟨_,c,e⟩
theorem YG.cR(h:YG w v es)(j:w.ownsRow B t sz u n xs)(r:t≠180)(f:w.grownBy w' u.ownBlock):YG w' v es:=by
 refine bH h λk e=>f.block k (h.lt k e).2 ?_;intro q
 rcases h.2 with⟨e1,_⟩|⟨l,c,d,e1,_,p,_⟩
 ·grind [xa]
 ·rw[e1]at e;simp[xa]at e;subst e
  rcases j.2 with⟨e2,_⟩|⟨o,a,b,e2,_,i,_⟩
  ·grind [xa]
  grind [xa]
def Em.bD{rs:ξ Run}{r:Run}(h:Em w B v rs vs)(f:YG w u r.E)(a:w1.ownsRow B 209 5 (VV gn (D rs+1) cn) (D rs+1) (ZV rs vs++[u,C O (r.g.getD 0 0),C O (r.g.getD 1 0),C O (r.g.getD 2 0),C O (r.g.getD 3 0)]))(d:w.grownBy w1 v.ownBlock):
  Em w1 B (VV gn (D rs+1) cn) (rs++[r]) (vs++[u]):=by
 refine⟨?_,by simp[h.len],λi e x b=>?_⟩
 ·rw[Hn _ _ _ _ h.len];simpa using a
 ·by_cases hlt:i<D rs
  ·rw[List.getElem?_append_left (by rw[h.len];exact hlt)]at b;rw[List.getElem_append_left hlt];exact(h.K i hlt x b).cR h.own (by decide) d
  ·simp at e;have c:i=D rs:=by omega
   subst c;rw[List.getElem?_append_right (by rw[h.len];exact xF _),h.len]at b;simp at b;subst b;simp;exact f.cR h.own (by decide) d
namespace Q
theorem Xp(b:S VW):∀(c:z) (k:z),(b.take k).foldl (λc a=>if P.aZ a.kind then c*4 else c) c<=b.foldl (λc a=>if P.aZ a.kind then c*4 else c) c:=by
 have mono:∀(l:S VW) (c:z),c<=l.foldl (λc a=>if P.aZ a.kind then c*4 else c) c:=by
  intro l
  induction l with
  |nil=>intro c;exact xF _
  |cons s r ih =>
   grind
 induction b with
 |nil=>intro c k;simp
 |cons s r ih =>
  intro c k
  cases k with
  |zero=>exact mono _ _
  |succ k=>exact ih _ k
theorem Xq(t:VZ)(i k:z):jG t i (k+1)=jG t i k++if(mT t i k).Y==0 then[(mT t i k).run]else[]:=by
 unfold jG;rw[List.range_succ,List.filter_append,xn]
 grind
theorem Ho(t:VZ)(i k:z):(jG t i k).length<=k:=by
 grind [jG]
end Q
def Tryz.infoRun:(prog.info? 209).map (λi=>(i.zero,i.size,i.bytes))=N (N (.agg #[G U 0 0,C O 0,C O 0,C O 0,C O 0]),5,56):=by kernel_rfl
theorem Eh.EU{ev:σ}(h:Eh w B g m ev):YG w ev m.E:=by
 refine⟨h.K.1,?_⟩
 rcases h.K.2 with c|⟨d,a,b,e,_,r⟩
 ·exact Or.inl c
 grind
theorem Xr(i:ψ)(t:VZ)(sv:σ)(w:φ)(ac:w.ownsRow 0 137 11 sv (D t.S) (mU t.S))(hi:i<100)(aO:∀s∈t.S,ZR s)(hn:D t.S<900)(hc:ZO t.S<100000):
  η π 91 #[.agg #[C O t.block,C O t.i,sv],C O (i:K)] w λe w'=>∃v vs,e=H v/\Em w' (T (J w)) v (iS t i) vs/\Y (T (J w)) w w':=by
 have aP:∃a c,sv=G a (D t.S) c/\(0<D t.S->∃b,a=N ⟨b,0,U⟩/\b<T (J w)):=by
  rcases ac.2 with⟨e,h0⟩|⟨k,c,aj,e,_⟩
  ·grind
  grind
 obtain⟨sa,sc,rfl,aM⟩:=aP;have au:=aD ac;obtain⟨bs,aN,ak⟩:∃bs,(0<D t.S->sa=N ⟨bs,0,U⟩)/\(0<D t.S->bs<T (J w)):=by
  by_cases h0:0<D t.S
  ·grind
  simp_all
 have ay:aC (∀q (hq:q<D t.S),w.rangeAt bs (q*11) (aU t.S[q]).toList):=λq hq=>by
  grind [GT]
 obtain⟨i0,aI,aW,aX,aY⟩:=ζ Tryz.infoRun;have an:aC (ZO t.S=t.S.foldl (λc V=>if P.aZ V.kind then c*4 else c) 1):=Z;obtain⟨k0,bx,aE⟩:=nY w #[C O t.block,C O t.i,G sa (D t.S) sc] 132;have ad:=aD aE;go_in;go_upto_region 1 with fail
 generalize hE:w.alloc (I #[C O t.block,C O t.i,G sa (D t.S) sc] 132)=W0 at*;have c0:=gE k0 0 _ Z;have c2:=gE k0 2 _ Z;have l0:T (J w)<T (J W0):=by omega
 go_wp2;go_loopw[5,14] (λc j wr=>∃(k n:ψ),k<=D t.S/\j=C O k/\c=C O (n:ψ)/\aC (n=(t.S.take k).foldl (λc V=>if P.aZ V.kind then c*4 else c) 1)/\aC (Y (T (J W0)) W0 wr)) λ_ j _=>D t.S-(ι j).toNat
 case atStart=>exact⟨0,1,xd _,Z,Z,by simp[aC],xR _ _⟩
 case round =>
  obtain⟨k,n,hk,rfl,rfl,HN,HB⟩:=hrel;by_cases hlt:k<D t.S
  ·have bq:=lI hlt;obtain⟨b,rfl,hb⟩:=aM (by omega);have HR:=aD (lC (GT au Z k hlt) ((HB.block b (by omega)).trans (ad.block b hb)));have aa:aC ((t.S.take (k+1)).foldl (λc V=>if P.aZ V.kind then c*4 else c) 1=if P.aZ t.S[k].kind then n*4 else n):=by
    grind [aC,xh]
   have bt:n<100000:=by have:=Xp t.S 1 k;rw[<- HN.o,<- an.o]at this;omega
   generalize t.S[k]=V at*;have ag:aC (Y (T (J W0)) W0 (wr.alloc (I (aU V) 137))):=HB.alloc HB.size _
   cases hz:P.aZ V.kind
   ·rw[hz]at aa;go_wp2_with(first|(refine rC (.tmp 16) Z Z b (k*11) V Z HR ?_)|(go_at_call 52;refine(UM _ _).mono ?_;rintro e w' ⟨rfl,l⟩;have l:=l.symm;subst l;rw[hz]));go_roundw;exact⟨k+1,n,by omega,by go_num,Z,aa.symm,ag⟩;simp[ι];omega
   ·rw[hz]at aa;go_wp2_with(first|(refine rC (.tmp 16) Z Z b (k*11) V Z HR ?_)|(go_at_call 52;refine(UM _ _).mono ?_;rintro e w' ⟨rfl,l⟩;have l:=l.symm;subst l;rw[hz]));go_roundw;exact⟨k+1,n*4,by omega,by go_num,by first|rfl|go_num|(congr 1),aa.symm,ag⟩;simp[ι];omega
  ·have aJ:k=D t.S:=by omega
   have ah:aC (n=ZO t.S):=by grind [aC]
   have bu:n<100000:=by rw[ah.o];exact hc
   have av:aC (iS t i=jG t i n):=by grind [aC,iS]
   clear HN ah aJ;go_wp2;clear hlt hk;go_loopw[8,9] (λa j wq=>∃(q:ψ) (v:σ) (vs:S σ),q<=n/\j=C O q/\a=v/\aC (Em wq (T (J W0)) v (jG t i q) vs)/\aC (Y (T (J W0)) W0 wq)) λ_ j _=>n-(ι j).toNat
   case atStart=>exact⟨0,_,[],xd _,Z,Z,Em.nil _ _,HB⟩
   case round =>
    clear HB;obtain⟨q,v,vs,hq,rfl,ae,A,HB⟩:=hrel;have ae:=ae.symm;subst ae;obtain⟨ra,rc,aL⟩:=A.form;subst aL;by_cases hql:q<n
    ·have bv:=lI hql;have d0:=cK HB l0 c0;have d2:=cK HB l0 c2;have lw:=xc l0 HB.size;have ai:aC (Eh (wr.alloc (I #[C O (i:K),C O t.block,C O (q:K),C O 0,C O 0,C O 0,C O 0,C .u64 0,C .u64 0,C .u64 0,C .u64 0,C .u64 0,C O 0,G U 0 0] 206)) (T (J wr)) (T (J wr)) (Ew.start i t.block q) (G U 0 0)):=⟨ω wr _,by grind [Ew.start,YD,xm],xF _,Z,Z⟩;have BX:Y (T (J wr)) wr (wr.alloc (I #[C O (i:K),C O t.block,C O (q:K),C O 0,C O 0,C O 0,C O 0,C .u64 0,C .u64 0,C .u64 0,C .u64 0,C .u64 0,C O 0,G U 0 0] 206)):=bB;have BM:=aD BX;have br:=cK BX lw d2;have bz:=xc lw BX.size;have bb:T (J wr)<=(wr.alloc (I #[C O (i:K),C O t.block,C O (q:K),C O 0,C O 0,C O 0,C O 0,C .u64 0,C .u64 0,C .u64 0,C .u64 0,C .u64 0,C O 0,G U 0 0] 206)).heap.size:=BX.size;have aB:T (J W0)<=T (J wr):=HB.size;have aw:aC (∀x (hx:x<D t.S),(wr.alloc (I #[C O (i:K),C O t.block,C O (q:K),C O 0,C O 0,C O 0,C O 0,C .u64 0,C .u64 0,C .u64 0,C .u64 0,C .u64 0,C O 0,G U 0 0] 206)).rangeAt bs (x*11) (aU t.S[x]).toList):=λx hx=>by
      have hb:=ak (by omega);exact lC (ay x hx) ((BX.block bs (by omega)).trans ((HB.block bs (by omega)).trans (ad.block bs hb)))
     have ax:aC (uH (Ew.start i t.block q) t.S=mT t i q):=Z;have az:=aD (Fv i t.block q (by omega));have bf:=aD (Xq t i q);go_upto_region 13 with fail
     generalize bl:wr.alloc (I #[C O (i:K),C O t.block,C O (q:K),C O 0,C O 0,C O 0,C O 0,C .u64 0,C .u64 0,C .u64 0,C .u64 0,C .u64 0,C O 0,G U 0 0] 206)=M1 at*;generalize aH:T (J wr)=gm at*;go_upto_region 14 with(first|(go_at_call 134;refine(Xo gm gm bs sc (Ew.start i t.block q) (G U 0 0) t.S sa _ ai az aO hn (by omega) aN λh=>by have:=ak h;omega aw).mono ?_;rintro e z ⟨rfl,bk,p,aG⟩))
     rw[ax.o]at p;have B3:aC (Y gm wr z):=BM.trans (aG.X ai (by omega));have bw:(mT t i q).g.length=4:=p.lr;have ab:aC (Em z (T (J W0)) (G ra (jG t i q).length rc) (jG t i q) vs):=A.X (by rw[aH];exact B3);have W:aC (Y (T (J W0)) W0 z):=HB.trans (B3.mono aB);obtain⟨e0,e1,e2,e3,e4,e5,e6,e7,e8,e9,bg,bh,bi,bj,ef⟩:=p.F;have ap:=aD p.EU;have bo:=p.lt;obtain⟨ea,ec,aF,_⟩:=p.form;have be:aC ((mT t i q).run=⟨(mT t i q).E,(mT t i q).g⟩):=Z;generalize bm:mT t i q=d at*
     cases hz:(d.Y:K)==0
     ·have aV:(d.Y==0)=M:=by have h1:¬(d.Y:K)=0:=(by simpa using hz);have h2:¬d.Y=0:=(by omega);simpa using h2
      have HN:aC (jG t i (q+1)=jG t i q):=by simp_all [aC]
      go_wp2;go_roundw;exact⟨q+1,_,vs,by omega,by go_num,Z,by rw[HN.o];exact ab,W⟩;simp[ι];omega
     ·have aV:(d.Y==0)=true:=by have h1:(d.Y:K)=0:=(by simpa using hz);have h2:d.Y=0:=(by omega);simpa using h2
      have HN:aC (jG t i (q+1)=jG t i q++[⟨d.E,d.g⟩]):=by simp_all [aC]
      have bc:=Ho t i q;generalize aQ:d.g.getD 0 0=x0 at*;generalize aR:d.g.getD 1 0=x1 at*;generalize aS:d.g.getD 2 0=x2 at*;generalize aT:d.g.getD 3 0=x3 at*;subst aF;have BA:Y (T (J z)) z (z.alloc (I #[G ea (D d.E) ec,C O x0,C O x1,C O x2,C O x3] 209)):=bB;have HO:=aD (ab.X BA);have ao:=aD (ap.X BA);have ar:aC (∀j u,[Value.slice ea (D d.E) ec,C O x0,C O x1,C O x2,C O x3][j]?=N u->(z.alloc (I #[G ea (D d.E) ec,C O x0,C O x1,C O x2,C O x3] 209)).cell? ((⟨T (J z),0,U⟩:Addr).add j)=N u):=
       xo (cs:=#[G ea (D d.E) ec,C O x0,C O x1,C O x2,C O x3]) (t:=209) (fr:=(0,0)) (ω z _)
      have am:aC (Y (T (J W0)) W0 (z.alloc (I #[G ea (D d.E) ec,C O x0,C O x1,C O x2,C O x3] 209))):=W.alloc W.size _;have bn:T (J W0)<=T (J z):=W.size;have HX:aC (x0=d.g.getD 0 0/\x1=d.g.getD 1 0/\x2=d.g.getD 2 0/\x3=d.g.getD 3 0):=⟨aQ.symm,aR.symm,aS.symm,aT.symm⟩;go_wp2_with(first|(at_builtin;(refine wpList_append_lies _ Z (.tmp 40) (.tmp 46) 168 Z (T (J W0)) 209 i0 (.agg #[G U 0 0,C O 0,C O 0,C O 0,C O 0]) 5 56 underlying168 aI aW aX aY Z (by decide) _ (jG t i q).length (ZV (jG t i q) vs) Z (by exact HO.own) ⟨T (J z),0,U⟩ 1 1 [G ea (D d.E) ec,C O x0,C O x1,C O x2,C O x3] Z Z (by exact ar) (by simp[xi]) (by decide) (by unfold maxLen;omega) (by omega) (by simp;omega) _ Z ?_;intro gn cn w5 af f ba bd)));have aq:aC (Em w5 (T (J W0)) (VV gn ((jG t i q).length+1) cn) (jG t i q++[⟨d.E,d.g⟩]) (vs++[G ea (D d.E) ec])):=by
       obtain⟨y0,y1,y2,y3⟩:=HX.o;subst y0 y1 y2 y3;exact HO.bD (r:=⟨d.E,d.g⟩) ao af f
      have al:aC (Y (T (J W0)) W0 w5):=am.trans ⟨f.os,f.tape,f.output,f.size,λy hy=>f.block y (by simp;omega) λe=>by have:=(HO.own.lt y e.symm).1;omega⟩;go_roundw;exact⟨q+1,_,_,by omega,by go_num,Z,by rw[HN.o];exact aq,al⟩;simp[ι];omega
    ·have aK:q=n:=by omega
     go_wp2;go_ret;refine⟨_,vs,Z,?_,bT ad HB⟩;rw[av.o,<- aK];refine⟨?_,A.len,A.K⟩;have h1:=A.own;refine⟨h1.1,?_⟩
     rcases h1.2 with h0|⟨g',aA,aj,e,bp,r⟩
     ·exact Or.inl h0
     ·exact Or.inr ⟨g',aA,aj,e,by omega,r⟩
theorem Xs{c:z}(h:w.heap[g]?=N (I (YD es).toArray 180 (0,0)))(a:B<=g)(b:n=D es)(d:D es<100000):w.ownsRow B 180 10 (VV g n n) n (YD es):=by
 subst b;refine⟨by rw[qT],Or.inr ⟨g,D es,_,Z,a,h,xF _,by unfold maxLen;omega,by simp[qT],by simp_all [List.take_of_length_le,qT]⟩⟩
def OR{c:Array Oper}{rest:S Oper}{b:Oper}{a:Act}{R:Exit->Act->φ->Prop}(x y:Operand)(d:b.guard=U)(f:b.op=.store 180 x y)(g o:z)(e:Ev)(j:a.eval x=.pointer (N ⟨g,o,U⟩))(k:a.eval y=.agg (aK e))(i:w.there g o 10)(h:wpList π c R rest (a.put b.dst undef) (w.setCells g o (aK e).toList)):wpList π c R (b::rest) a w :=
 wpList_store_mid d _ x y f g o (aK e) j k i (by kernel_rfl) (by simp[aK,xi]) h
def zP:z->S Ev
 |0=>[Ev.zero,Ev.zero,Ev.zero]
 |1=>[YN 0,Ev.zero,Ev.zero]
 |2=>[YN 0,YN 1,Ev.zero]
 |_=>[YN 0,YN 1,YN 2]
theorem DU{o:z}{cs:Array A}{e:TypeId}(a:w.heap[g]?=N (I cs e (0,0)))(c:o+n<=cs.size):w.there g o n:=by
 intro j b;simp[xb,World.frozen?,a];omega
theorem Xt(w:φ):
  η π 135 #[] w λe w'=>∃g,e=H (VV g 3 3)/\w'.ownsRow (T (J w)) 180 10 (VV g 3 3) 3 (YD ZB)/\Y (T (J w)) w w':=by
 obtain⟨z,s,o,p,y⟩:=ζ Tryz.infoEvM;have x:∀w,(Instr.makeSlice 78 (C O 3) (C O 3)).run π w=.ok (VV (T (J w)) 3 3) (w.alloc (I (YD [Ev.zero,Ev.zero,Ev.zero]).toArray 180)):=λw=>by
  have h:=run_makeSlice (P:=π) w 78 180 z (.agg (aK Ev.zero)) underlying78 s o O O 3 3 (by omega) (Int.le_refl _) (by grind) (by omega) (by omega);rw[p]at h;have e:madeCells (Value.agg (aK Ev.zero)).cells (Int.toNat 3*10)=(YD [Ev.zero,Ev.zero,Ev.zero]).toArray:=by kernel_rfl
  rw[e]at h;exact h
 have r:aC (∀W:φ,(W.alloc (I (YD [Ev.zero,Ev.zero,Ev.zero]).toArray 180)).heap[T (J W)]?=N (I (YD [Ev.zero,Ev.zero,Ev.zero]).toArray 180 (0,0))):=λW=>ω W _
 go_in;go_wp2;go_loopw[6] (λj wr=>∃(k:ψ),k<=3/\j=C O k/\aC (wr.heap[T (J w)]?=N (I (YD (zP k)).toArray 180 (0,0)))/\aC (Y (T (J w)) w wr)) λj _=>3-(ι j).toNat
 case atStart=>exact⟨0,by omega,Z,r w,bB⟩
 case round =>
  obtain⟨k,A,rfl,d,HB⟩:=hrel;have l:k=0\/k=1\/k=2\/k=3:=by omega
  rcases l with rfl|rfl|rfl|rfl
  ·have f:aC (wr.there (T (J w)) 0 10):=DU d (by simp[qT,zP]);have b:=aD (CM (T (J w)) 180 (0,0) (aK (YN 0)).toList (YD (zP 0)) 0 wr d);have a:aC (Y (T (J w)) w (wr.setCells (T (J w)) 0 (aK (YN 0)).toList)):=Below.setCells (xF _) _ _ _ HB;go_wp2_with(first|(refine OR (.tmp 13) (.tmp 12) Z Z (T (J w)) 0 (YN 0) Z Z f ?_;generalize i:wr.setCells (T (J w)) 0 (aK (YN 0)).toList=q at*));go_roundw;exact⟨1,by omega,by go_num,b,a⟩;simp[ι]
  ·have f:aC (wr.there (T (J w)) 10 10):=DU d (by simp[qT,zP]);have b:=aD (CM (T (J w)) 180 (0,0) (aK (YN 1)).toList (YD (zP 1)) 10 wr d);have a:aC (Y (T (J w)) w (wr.setCells (T (J w)) 10 (aK (YN 1)).toList)):=Below.setCells (xF _) _ _ _ HB;go_wp2_with(first|(refine OR (.tmp 13) (.tmp 12) Z Z (T (J w)) 10 (YN 1) Z Z f ?_;generalize i:wr.setCells (T (J w)) 10 (aK (YN 1)).toList=q at*));go_roundw;exact⟨2,by omega,by go_num,b,a⟩;simp[ι]
  ·have f:aC (wr.there (T (J w)) 20 10):=DU d (by simp[qT,zP]);have b:=aD (CM (T (J w)) 180 (0,0) (aK (YN 2)).toList (YD (zP 2)) 20 wr d);have a:aC (Y (T (J w)) w (wr.setCells (T (J w)) 20 (aK (YN 2)).toList)):=Below.setCells (xF _) _ _ _ HB;go_wp2_with(first|(refine OR (.tmp 13) (.tmp 12) Z Z (T (J w)) 20 (YN 2) Z Z f ?_;generalize i:wr.setCells (T (J w)) 20 (aK (YN 2)).toList=q at*));go_roundw;exact⟨3,by omega,by go_num,b,a⟩;simp[ι]
  ·go_wp2;go_ret;exact⟨T (J w),Z,Xs (es:=ZB) (c:=0) d (xF _) Z (by decide),HB⟩
structure WM(w:φ)(B g:ψ)(wd:Q.Wd)(ev rg:σ):Prop where
 box:w.heap[g]?=N (I #[ev,rg] 80 (0,0))
 K:w.ownsRow B 180 10 ev (D wd.E) (YD wd.E)
 rgs:w.ownsRow B 3 1 rg (D wd.g) (wd.g.map (xj O))
 ge:B<=g
def WM.lt{ev:σ}(h:WM w B g wd ev rg):g<T (J w):=dC h.box
def WM.X{ev:σ}(h:WM w B g wd ev rg)(a:ν (T (J w)) w w'):WM w' B g wd ev rg :=
 ⟨(a.block g h.lt).trans h.box,bH h.K λk e=>a.block k (h.K.lt k e).2,bH h.rgs λk e=>a.block k (h.rgs.lt k e).2,h.ge⟩
def WM.F{ev:σ}(h:WM w B g wd ev rg):w.cell? ⟨g,0,U⟩=N ev/\w.cell? ⟨g,1,U⟩=N rg/\∀j,w.frozen? ⟨g,j,U⟩=M:=by
 refine⟨?_,?_,λj=>?_⟩<;>simp[xb,World.frozen?,h.box]
theorem gG{a:TypeId}{c:Array A}(h:w.ownsRow B t sz v n xs)(i:w.heap[g]?=N (I c a (0,0)))(k:t≠a):v.ownBlock≠N g:=λe=>by
 rcases h.2 with⟨e1,_⟩|⟨f,b,d,e1,_,j,_⟩
 ·grind [xa]
 grind [xa]
theorem WM.form{ev:σ}(h:WM w B g wd ev rg):(∃a c,ev=G a (D wd.E) c)/\∃a c,rg=G a (D wd.g) c:=by
 constructor
 ·rcases h.K.2 with⟨e,d⟩|⟨k,c,b,e,_⟩
  ·grind
  ·exact⟨_,c,e⟩
 ·rcases h.rgs.2 with⟨e,d⟩|⟨k,c,b,e,_⟩
  ·grind
  ·exact⟨_,c,e⟩
theorem WM.FZ{ev:σ}{e:Ev}(h:WM w B g wd ev rg)(f:w1.ownsRow B 180 10 (VV gn (D wd.E+1) cn) (D wd.E+1) (YD wd.E++(aK e).toList))(d:w.grownBy w1 ev.ownBlock):
  WM (w1.setCell ⟨g,0,U⟩ (VV gn (D wd.E+1) cn)) B g ⟨wd.E++[e],wd.g⟩ (VV gn (D wd.E+1) cn) rg:=by
 have b:=gG h.K h.box (by decide);have a:w1.heap[g]?=N (I #[ev,rg] 80 (0,0)):=(d.block g h.lt λe=>b e.symm).trans h.box;have c:=AV h.rgs h.K (by decide) d;refine⟨by rw[cI a];rfl,?_,bH c.1 λk e=>xW _ _ _ _ λe2=>gG c.1 a (by decide) (by rw[e,e2]),h.ge⟩;have e2:YD (wd.E++[e])=YD wd.E++(aK e).toList:=by rw[Fe,Ff]
 grind [bH,xW,gG]
theorem WM.GK{ev:σ}{x:ρ}(h:WM w B g wd ev rg)(f:w1.ownsRow B 3 1 (VV gn (D wd.g+1) cn) (D wd.g+1) (wd.g.map (xj O)++[C O x]))(d:w.grownBy w1 rg.ownBlock):
  WM (w1.setCell ⟨g,1,U⟩ (VV gn (D wd.g+1) cn)) B g ⟨wd.E,wd.g++[x]⟩ ev (VV gn (D wd.g+1) cn):=by
 have b:=gG h.rgs h.box (by decide);have a:w1.heap[g]?=N (I #[ev,rg] 80 (0,0)):=(d.block g h.lt λe=>b e.symm).trans h.box;have c:=AV h.K h.rgs (by decide) d;refine⟨by rw[cI a];rfl,bH c.1 λk e=>xW _ _ _ _ λe2=>gG c.1 a (by decide) (by rw[e,e2]),?_,h.ge⟩;simp only[List.length_append,List.length_singleton,xn,List.map_cons,List.map_nil]
 grind [bH,xW,gG]
def WM.bel{j:ψ}(d:w.ownsRow B t sz v n xs)(b:B<=g)(c:B<=T (J w))(a:w.grownBy w1 v.ownBlock):ν B w (w1.setCell ⟨g,j,U⟩ u):=
 Below.setCell (p:=⟨g,j,U⟩) ⟨a.os,a.tape,a.output,a.size,λk f=>a.block k (by omega) λe=>by have:=(d.lt k e.symm).1;omega⟩ b _
abbrev pQ(e1:Ev)(mv:z):Array A:=#[C O e1.kind,C O e1.j,C O e1.block,C O e1.z,C O e1.value,C O e1.q,C O e1.scope,C O e1.u,L e1.step,C .u64 (mv:z)]
theorem Xu(B g:ψ)(wd:Q.Wd)(ev rg aj:σ)(r:Run)(w:φ)(h:WM w B g wd ev rg)(hr:YG w aj r.E)(aX:∀k,aj.ownBlock=N k->k<B)(hB:B<=T (J w))(hl:D r.g=4)(hn:D wd.E+D r.E<=64)(bo:D wd.g<100)(aB:∀e∈r.E,e.h<YC):
  η π 136 #[.pointer (N ⟨g,0,U⟩),.agg #[aj,C O (r.g.getD 0 0),C O (r.g.getD 1 0),C O (r.g.getD 2 0),C O (r.g.getD 3 0)]] w λx w'=>x=H (.tuple #[])/\(∃ev' rg',WM w' B g (wd.join r) ev' rg')/\ν B w w':=by
 obtain⟨j0,aU,bc,bd,bf⟩:=ζ Tryz.infoEvM;obtain⟨va,vc,rfl,bb⟩:=hr.form;obtain⟨S,V,Y,r3,aZ⟩:∃a b c d,r.g=[a,b,c,d]:=by
  match hq:r.g,hl with
  |[a,b,c,d],_=>exact⟨a,b,c,d,Z⟩
 rw[aZ];simp only[List.getD_cons_zero,List.getD_cons_succ];have HJ:aC (wd.join r=⟨wd.E++r.E.map (ZM (D wd.E)),wd.g++[S,V,Y,r3]⟩):=by grind [aC,Q.Wd.join]
 obtain⟨k0,ba,(ao:aC _)⟩:=nY w #[G va (D r.E) vc,C O S,C O V,C O Y,C O r3] 209;have ac:=aD (h.X ao);have aL:=aD hr;have aJ:=aD aB;have bl:=h.lt;clear h hr aB;go_in;go_upto_region 1 with fail
 generalize hE:w.alloc (I #[G va (D r.E) vc,C O S,C O V,C O Y,C O r3] 209)=W0 at*;have K0:=aD k0;have bg:T (J w)+1<=T (J W0):=by omega
 have c0:=gE k0 0 _ Z;have l0:T (J w)<T (J W0):=by omega
 obtain⟨⟨ea,ec,aT⟩,⟨ra,rc,aY⟩⟩:=ac.form;obtain⟨m0,m1,mf⟩:=ac.F;have bk:=ac.lt;subst aT aY;clear hE k0 ba;go_wp2;go_loopw[17] (λj wr=>∃(k:ψ) (ai:σ),k<=D r.E/\j=C O k/\aC (WM wr B g ⟨wd.E++(r.E.take k).map (ZM (D wd.E)),wd.g⟩ ai (G ra (D wd.g) rc))/\aC (wr.heap[T (J w)]?=N (I #[G va (D r.E) vc,C O S,C O V,C O Y,C O r3] 209 (0,0)))/\aC (ν B w wr)) λj _=>D r.E-(ι j).toNat
 case atStart=>exact⟨0,_,xd _,Z,by simpa[aC]using ac.o,K0,ao.mono hB⟩
 case round =>
  obtain⟨k,ai,hk,rfl,HM,HK,HB⟩:=hrel;by_cases hlt:k<D r.E
  ·have bm:=lI hlt;obtain⟨be,rfl,bj⟩:=bb (by omega);have aR:=aX be Z;have aM:aC (wr.rangeAt be (k*10) (aK (Q.ev r.E k)).toList):=lC (aL.cZ Z k hlt) (HB.block be aR);have bq:be<T (J wr):=by have:=HB.size;omega
   have hh:(Q.ev r.E k).h<YC:=by rw[fF r.E k hlt];exact aJ _ (xk hlt)
   have aO:aC ((r.E.take (k+1)).map (ZM (D wd.E))=(r.E.take k).map (ZM (D wd.E))++[ZM (D wd.E) (Q.ev r.E k)]):=by
    grind [aC,xh,fF]
   have aG:aC (ZM (D wd.E) (Q.ev r.E k)={Q.ev r.E k with h:=ZL (Q.ev r.E k).h (D wd.E:K)}):=Z;generalize Q.ev r.E k=e1 at*;generalize aA:ZL e1.h (D wd.E:K)=p at*;have aI:=aD aA;clear aA;go_upto_region 6 with(first|(refine jQ (.tmp 19) Z Z be (k*10) e1 Z aM ?_)|(go_at_call 160;refine(Ol e1.h (D wd.E:K) _ hh).mono ?_;rintro e w' ⟨rfl,am⟩;have am:=am.symm;subst am;rw[aI.o]))
   have E1:aC (WN (wr.alloc (I (pQ e1 p) 180)) (T (J wr)) {e1 with h:=p}):=ω wr _;have BX:ν (T (J wr)) wr (wr.alloc (I (pQ e1 p) 180)):=bB;have s:=aD (HM.X BX);have ap:=aD ((BX.block _ (dC HK)).trans HK);have aa:B<=T (J wr):=by have:=HB.size;omega
   have aE:aC (ν B w (wr.alloc (I (pQ e1 p) 180))):=HB.trans (BX.mono aa);have bp:T (J wr)+1<=(wr.alloc (I (pQ e1 p) 180)).heap.size:=by simp
   obtain⟨x0,x1,x2,x3,x4,x5,x6,x7,x8,x9,xf,xl⟩:=Ul (ω wr (I (pQ e1 p) 180));generalize aQ:wr.alloc (I (pQ e1 p) 180)=y at*;generalize bi:T (J wr)=b1 at*;clear aQ BX;have ay:(wd.E++(r.E.take k).map (ZM (D wd.E))).length=D wd.E+k:=by simp;omega
   obtain⟨⟨ka,kc,z⟩,_⟩:=s.form;simp only at z;have l:=s.K;simp only at l;generalize ak:wd.E++(r.E.take k).map (ZM (D wd.E))=A at*;subst z;obtain⟨aq,ar,ah⟩:=s.F;have hg:=s.lt;have al:=s.ge;have ab:=gG l s.box (by decide);have HO:aC ((y.drew.alloc (I (pQ e1 p) 180)).ownsRow B 180 10 (G ka A.length kc) A.length (YD A)):=bH l λk hk=>xe _ _ _ (l.lt k hk).2;have HN:aC (∀j u,(pQ e1 p).toList[j]?=N u->(y.drew.alloc (I (pQ e1 p) 180)).cell? ((⟨T (J y),0,U⟩:Addr).add j)=N u):=
    xo (cs:=pQ e1 p) (t:=180) (fr:=(0,0)) (ω y.drew _)
   have HC:aC ((y.drew.alloc (I (pQ e1 p) 180)).cell? ⟨g,0,U⟩=N (G ka A.length kc)):=(lQ (w:=y.drew) hg).trans aq;have af:aC ((y.drew.alloc (I (pQ e1 p) 180)).frozen? ⟨g,0,U⟩=M):=by
    unfold aC;rw[xg (w:=y.drew) (a:=⟨g,0,U⟩) (xe _ _ _ hg)];exact ah 0
   have au:B<=T (J y):=by omega
   have aP:A.length<=64:=by omega
   clear ay;go_region_law(refine step_append_lies _ Z (.tmp 30) (.tmp 32) 78 Z B 180 j0 (.agg (aK Ev.zero)) 10 80 underlying78 aU bc bd bf Z (by decide) (G ka A.length kc) A.length (YD A) (by simp[Act.eval]) (by exact HO) ⟨T (J y),0,U⟩ 1 1 (pQ e1 p).toList (by simp[Act.eval]) Z (by exact HN) (by simp[xi]) (by decide) (by unfold maxLen;omega) (by omega) (by simp;omega) (T (J y)+1) (by simp) ?_;intro gn cn w1 i f aw az;have c1:=(f.cell_far ⟨g,0,U⟩ (by simp;omega) λe=>ab e.symm).trans HC;have f1:=(f.frozen_far ⟨g,0,U⟩ (by simp;omega) λe=>ab e.symm).trans af;have ax:g<T (J w1):=by have:=f.size;simp at this;omega)
   all_goals
    have BD:ν (T (J y)) y (y.drew.alloc (I (pQ e1 p) 180)):=((xR _ _).drew).alloc (by simp) _;have Q1:=aD (WM.FZ (e:={e1 with h:=p}) (s.X BD) i f);have Q2:aC (ν B w (w1.setCell ⟨g,0,U⟩ (VV gn (A.length+1) cn))):=(aE.trans (BD.mono au)).trans (WM.bel HO al (by simp;omega) f);have Q3:aC ((w1.setCell ⟨g,0,U⟩ (VV gn (A.length+1) cn)).heap[T (J w)]?=N (I #[VV be (D r.E) vc,C O S,C O V,C O Y,C O r3] 209 (0,0))):=by
     have h1:=(BD.block _ (dC ap)).trans ap;have h2:=gG HO h1 (by decide);unfold aC;rw[xW _ _ _ _ (by simp;omega),f.block _ (dC h1) λe=>h2 e.symm];exact h1
    clear i f BD
    (try go_wp2)
    go_roundw
    ·refine⟨k+1,VV gn (A.length+1) cn,by omega,by go_num,?_,Q3,Q2⟩;have h1:=Q1.o;unfold aC;rw[aO.o,aG.o,<- xp,ak];exact h1
    simp[ι];omega
  ·have aV:k=D r.E:=by omega
   have ag:aC (WM wr B g ⟨wd.E++r.E.map (ZM (D wd.E)),wd.g⟩ ai (G ra (D wd.g) rc)):=by
    grind
   obtain⟨⟨ka,kc,z⟩,_⟩:=ag.form;simp only at z;generalize ak:wd.E++r.E.map (ZM (D wd.E))=A at*;have b1:wr.cell? ⟨T (J w),1,U⟩=N (C O S):=by simp[xb,HK.o]
   have b2:wr.cell? ⟨T (J w),2,U⟩=N (C O V):=by simp[xb,HK.o]
   have b3:wr.cell? ⟨T (J w),3,U⟩=N (C O Y):=by simp[xb,HK.o]
   have b4:wr.cell? ⟨T (J w),4,U⟩=N (C O r3):=by simp[xb,HK.o]
   have lb:=dC HK;clear HM ak aV;go_wp2;clear b1 b2 b3 b4 lb hlt hk;go_loopw[39] (λj wq=>∃(q:ψ) (ad an:σ),q<=4/\j=C O q/\aC (WM wq B g ⟨A,wd.g++[S,V,Y,r3].take q⟩ ad an)/\aC (ν B w wq)) λj _=>4-(ι j).toNat
   case atStart=>exact⟨0,_,_,by omega,Z,by simpa[aC]using ag.o,HB⟩
   case round =>
    clear ag HB HK;obtain⟨q,ad,an,hq,rfl,HM,HB⟩:=hrel;have aa:B<=T (J wr):=by have:=HB.size;omega
    have al:=HM.ge;have hg:=HM.lt;by_cases hq4:q<4
    ·have bn:(q:K)<4:=by omega
     obtain⟨x,hx,aW⟩:∃x:K,(∀W,(Instr.index 203 (.agg #[C O S,C O V,C O Y,C O r3]) (C O (q:K))).run π W=.ok (C O x) W)/\aC ([S,V,Y,r3].take (q+1)=[S,V,Y,r3].take q++[x]):=by
      have aS:q=0\/q=1\/q=2\/q=3:=by omega
      rcases aS with rfl|rfl|rfl|rfl
      ·exact⟨S,λW=>by kernel_rfl,Z⟩
      ·exact⟨V,λW=>by kernel_rfl,Z⟩
      ·exact⟨Y,λW=>by kernel_rfl,Z⟩
      ·exact⟨r3,λW=>by kernel_rfl,Z⟩
     have bh:(wd.g++[S,V,Y,r3].take q).length<=D wd.g+4:=by simp;omega
     generalize av:wd.g++[S,V,Y,r3].take q=RS at*;have aN:=aD av;clear av;obtain⟨aq,ar,ah⟩:=HM.F;have ab:=gG HM.rgs HM.box (by decide);have l:=HM.rgs;obtain⟨_,qa,qc,ae⟩:=HM.form;simp only at ae l;subst ae;have HO:aC ((wr.alloc (I #[C O x] 3)).ownsRow B 3 1 (G qa RS.length qc) RS.length (RS.map (xj O))):=bH l λk hk=>xe _ _ _ (l.lt k hk).2;have BD:ν (T (J wr)) wr (wr.alloc (I #[C O x] 3)):=bB;have aH:=aD (HM.X BD);have aF:=aD (HB.trans (BD.mono aa));have HC:aC ((wr.alloc (I #[C O x] 3)).cell? ⟨g,1,U⟩=N (G qa RS.length qc)):=(lQ hg).trans ar;have af:aC ((wr.alloc (I #[C O x] 3)).frozen? ⟨g,1,U⟩=M):=by
      unfold aC;rw[xg (w:=wr) (a:=⟨g,1,U⟩) (xe _ _ _ hg)];exact ah 1
     clear BD;go_wp2_with(first|(at_builtin;(refine wD Tryz.YL underlying37 Z Z (.tmp 46) (.tmp 48) Z Z Z Z Z (by exact HO) (by omega) (by omega) ?_;intro gn cn w1 i f aw az;have c1:=(f.cell_far ⟨g,1,U⟩ (by simp;omega) λe=>ab e.symm).trans HC;have f1:=(f.frozen_far ⟨g,1,U⟩ (by simp;omega) λe=>ab e.symm).trans af;have ax:g<T (J w1):=(by have:=f.size;simp at this;omega);have Q1:=aD (WM.GK (x:=x) aH (by simpa using i) f);have Q2:=aD (aF.trans (WM.bel (g:=g) (j:=1) (u:=VV gn (RS.length+1) cn) HO al (by simp;omega) f));clear i f aw)));go_roundw
     ·refine⟨q+1,ad,VV gn (RS.length+1) cn,by omega,by go_num,?_,Q2⟩;have h1:=Q1.o;unfold aC;rw[aW.o,<- xp,aN.o];exact h1
     simp[ι];omega
    ·obtain rfl:q=4:=by omega
     go_wp2;go_end0;refine⟨Z,⟨ad,an,?_⟩,HB⟩;rw[HJ.o];exact HM
