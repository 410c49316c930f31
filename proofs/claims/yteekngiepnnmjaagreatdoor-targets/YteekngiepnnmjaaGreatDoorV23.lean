import Derived.Test.YteekngiepnnmjaaGreatDoorV22
set_option linter.all false
set_option maxHeartbeats 0
namespace Go.Proofs.YteekngiepnnmjaaGreatDoor
open Go Go.RowKit Go.Proofs.Tryz P Q R
open scoped Classical
set_option maxRecDepth 1000000
open Go renaming Value->σ,World->ν,Code->u,ownsRow_setCell_other->ρ,Func->t,Exit->π,Act->η
open _root_ renaming List->r,List->ι,Int->ω,Nat->W,Nat->ψ
open Go.Proofs.Tryz renaming prog->ξ
variable {w:ν}{B gh gl gr i k n o z:ψ}{bv dv hv lv v wv:σ}{s:J.PS}{hvs ons:ι σ}{D:ψ->Prop}{a:η}{l:ι ω}{xa:ω}{N:η->ν->Prop}
open List renaming length->A
open Go.World renaming cell?->V
open Option renaming none->Y,some->C
open Go.IntKind renaming i64->O
open Go.Value renaming int->I,slice->G,string->F
open Bool renaming false->U,true->T
open Go.Obj renaming cells->M
open Or renaming inl->xF,inr->xW
open Nat renaming reduceAdd->xR,le_trans->x8,lt_of_lt_of_le->xh,pow_le_pow_right->xn
open List renaming range->x5,map_cons->x6,map_nil->x7,setIfInBounds_toArray->xc,set_cons_zero->xd,set_cons_succ->xe,length_cons->xg,dropLast_cons_cons->xi,dropLast_singleton->xj,length_nil->xk,getD_eq_getElem?_getD->xm
open Go.Act renaming put->x9
open Go.RowKit.Below renaming refl->xl
def jU:u->u
 |.cond _ x _=>x
 |d=>d
def GI:u->u
 |.cond _ _ y=>y
 |d=>d
def dF(d:t):r u:=eA (d.body.getD .skip)
def dL(d:t):r u:=eA (pT (gC ((dF d).getD 1 .skip)))
def dB(d:t):r u:=eA (gC ((dL d).getD 2 .skip))
def dS(d:t):r u:=eA (gC ((dB d).getD 3 .skip))
def aR(d:t):r u:=eA (jU ((dS d).getD 2 .skip))
def e1(d:t):r u:=eA (GI ((dS d).getD 2 .skip))
def aS(d:t):r u:=eA (jU ((e1 d).getD 1 .skip))
def e2(d:t):r u:=eA (GI ((e1 d).getD 1 .skip))
def aF(d:t):r u:=eA (jU ((e2 d).getD 1 .skip))
def e3(d:t):r u:=eA (GI ((e2 d).getD 1 .skip))
def aB(d:t):r u:=eA (jU ((e3 d).getD 1 .skip))
def e4(d:t):r u:=eA (GI ((e3 d).getD 1 .skip))
def aT(d:t):r u:=eA (jU ((e4 d).getD 1 .skip))
def e5(d:t):r u:=eA (GI ((e4 d).getD 1 .skip))
def aI(d:t):r u:=eA (jU ((e5 d).getD 1 .skip))
def zOD:(dF f75).length=2:=by kernel_rfl
def zOE:(dL f75).length=4:=by kernel_rfl
def zOF:(dB f75).length=4:=by kernel_rfl
def L1:(e1 f75).length=2:=by kernel_rfl
structure DF0(a:η)(z:ψ)(lv:σ)(i:ψ):Prop where
 sz:a.tmps.size=334
 df:a.defers=[]
 s0:gA a 0=.pointer (C ⟨z,0,Y⟩)
 s1:gA a 1=lv
 s4:gA a 4=I O (i:ω)
structure DFr(a:η)(z:ψ)(lv:σ)(i gl o:ψ)(xa:ω)(hv:σ)(op:ByteArray):Prop where
 f0:DF0 a z lv i
 s5:gA a 5=.pointer (C ⟨gl,o,Y⟩)
 s6:gA a 6=I O xa
 s7:gA a 7=hv
 s37:gA a 37=F op
structure LnC(w:ν)(gl o:ψ)(x:Lh)(bv:σ):Prop where
 op:V w ⟨gl,o,Y⟩=C (F x.op)
 VX:V w ⟨gl,o+1,Y⟩=C (I O x.VX)
 z:V w ⟨gl,o+2,Y⟩=C (I O x.z)
 a:V w ⟨gl,o+3,Y⟩=C (I O x.a)
 b:V w ⟨gl,o+4,Y⟩=C (I O x.b)
 sign:V w ⟨gl,o+5,Y⟩=C (F x.sign)
 ord:V w ⟨gl,o+6,Y⟩=C (F x.ord)
 scope:V w ⟨gl,o+7,Y⟩=C (F x.scope)
 body:V w ⟨gl,o+8,Y⟩=C bv
 lt:gl<w.heap.size
def LnC.x{c:ν}{P:ψ->Prop}{x:Lh}(h:LnC w gl o x bv)(d:JX P w c)(f:¬P gl):LnC c gl o x bv :=
 have e:∀j,V c ⟨gl,j,Y⟩=V w ⟨gl,j,Y⟩:=λj=>iF (d.block gl h.lt f)
 ⟨(e _).trans h.op,(e _).trans h.VX,(e _).trans h.z,(e _).trans h.a,(e _).trans h.b,(e _).trans h.sign,(e _).trans h.ord,(e _).trans h.scope,(e _).trans h.body,xh h.lt d.size⟩
def wO(w:ν)(B z:W)(lv:σ)(i:W)(s:J.PS)(K:η->ν->Prop):Prop :=
 ∀(a:η) (w':ν) (ev dv wv:σ) (gr gh:W) (ons hvs:r σ) (D:W->Prop),DF0 a z lv i->PM w' B z s ev dv wv gr gh ons hvs D->JX (λk=>B<=k) w w'->K a w'
def nR(Q:π->η->ν->Prop):Prop:=∀c a d v w,Q (.panic c) (a.put d v) w->Q (.panic c) a w
def J.GZ{ev:σ}(h:PM w B z s ev dv wv gr gh ons hvs D):∃a c,ev=G a (A s.e) c:=nP h.eo
def PO{p:r σ}{e:TypeId}{m:W}(h:w.ownsRow B e m v n p)(b:v.ownBlock=C k):∃c,Blk w k c e:=by
 rcases h.2 with⟨e,_⟩|⟨g,f,d,e,_,j,_⟩
 ·rw[e]at b;cases b
 ·rw[e]at b;cases b;exact⟨d.toList,by unfold Blk;rw[j]⟩
def XT.form{r:ι ω}(h:XT w D v r):∃a n c,v=G a n c:=by
 rcases h with⟨e,_⟩|⟨_,b,c,e,_⟩
 ·exact⟨_,_,_,e⟩
 ·exact⟨_,_,_,e⟩
def SC(z gl o:W)(ev wv:σ)(r:ω)(x:Lh)(w:ν):Prop:=V w ⟨z,0,Y⟩=C ev/\V w ⟨z,3,Y⟩=C wv/\V w ⟨z,6,Y⟩=C (I O r)/\V w ⟨gl,o,Y⟩=C (F x.op)/\V w ⟨gl,o+2,Y⟩=C (I O x.z)/\V w ⟨gl,o+6,Y⟩=C (F x.ord)/\V w ⟨gl,o+7,Y⟩=C (F x.scope)
section
variable {w w':ν}{B z gl o:ψ}{s:J.PS}{ev dv wv bv:σ}{gr gh:ψ}{ons hvs:ι σ}{D:ψ->Prop}{x:R.Lh}
def SC.of(h:PM w B z s ev dv wv gr gh ons hvs D)(b:LnC w gl o x bv):SC z gl o ev wv s.round x w:=⟨h.blk.cell Z,h.blk.cell Z,h.blk.cell Z,b.op,b.z,b.ord,b.scope⟩
def SC.keep{r:ω}(h:SC z gl o ev wv r x w)(c:∀j,V w' ⟨z,j,Y⟩=V w ⟨z,j,Y⟩)(b:∀j,V w' ⟨gl,j,Y⟩=V w ⟨gl,j,Y⟩):SC z gl o ev wv r x w' :=
 ⟨(c _).trans h.1,(c _).trans h.2.1,(c _).trans h.2.2.1,(b _).trans h.2.2.2.1,(b _).trans h.2.2.2.2.1,(b _).trans h.2.2.2.2.2.1,(b _).trans h.2.2.2.2.2.2⟩
def PM.X(h:PM w B z s ev dv wv gr gh ons hvs D)(b:Below w.heap.size w w'):PM w' B z s ev dv wv gr gh ons hvs D :=
 have c:JX (λ_=>False) w w':=JX.of b
 ⟨h.blk.X b,qO h.eo b,h.ol,λi d=>(h.on i d).x c λ_ _ e=>e.elim,h.rb.X b,h.rl,h.hb.X b,h.hl,λi d=>(h.hr i d).x c λ_ _ e=>e.elim,h.wr.x c λ_ _ e=>e.elim,h.rd.x c λ_ _ e=>e.elim,h.bz,h.bg,h.bh,h.dz,h.dr,h.dh,h.de,λx e=>xh (h.low x e) b.size,h.bl,h.e0⟩
theorem PM.VQ(h:PM w B z s ev dv wv gr gh ons hvs D):∀k,ev.ownBlock=C k->k≠z:=λk c e=>by
 obtain⟨d,b⟩:=PO h.eo c;exact(Blk.ne (t:=116) (u:=113) b h.blk (by decide)) e
theorem EQ{pre:Array Oper}{S o1 o2 o3:Oper}{W d2 d3 ds dn dp:ψ}{Q:π->η->ν->Prop}(h:PM w B z s ev dv wv gr gh ons hvs D)(hl:LnC w gl o x bv)(ah:gl<B)(hB:B<=w.heap.size)(hs:A s.e<1000)(l:ι J.E)(q:ι σ)(ab:A q=A l)(l0:0<A l)(l2:A l<10)(ac:∀u∈q,u.oneCell'=T)(ai:∀i,i<A l->XT w D (q.getD i (.bool U)) (J.ev l i).on)(h1:pre[i]?=C o1)(h2:pre[i+1]?=C o2)(h3:pre[i+1+1]?=C o3)(hc:(Region.ready .any pre (Pop.L i 3)==[i]&&(Region.ready .any pre (Pop.L (i+1) 2)==[i+1]&&(Region.ready .any pre (Pop.L (i+1+1) 1)==[i+1+1]&&Region.ready .any pre (Pop.L (i+1+1+1) 0)==[])))=T)(p1:o1.op=.call {callee:=.builtin .append,args:=#[.tmp ds,.tmp dn],argTypes:=#[107,107]}/\o1.dst=C W/\o1.guard=Y)(p2:o2.op=.nilCheck (.tmp dp)/\o2.dst=C d2/\o2.guard=Y)(p3:o3.op=.fieldAddr 113 (.tmp d2) 0/\o3.dst=C d3/\o3.guard=Y)(p4:S.op=.store 107 (.tmp d3) (.tmp W)/\S.dst=Y/\S.guard=Y)(aj:a.tmps.size=334)(ae:(W<334/\d2<334/\d3<334)/\W≠d2/\W≠d3/\W≠dp)(v1:a.eval (.tmp ds)=ev)(v2:a.eval (.tmp dn)=VV w.heap.size (A l) (A l))(v3:a.eval (.tmp dp)=.pointer (C ⟨z,0,Y⟩))(hK:∀(g f:ψ) (K:ν) (D':ψ->Prop),(∀v r,XT w D v r->XT (K.setCell ⟨z,0,Y⟩ (VV g (A s.e+A l) f)) D' v r)->PM (K.setCell ⟨z,0,Y⟩ (VV g (A s.e+A l) f)) B z (s.put l) (VV g (A s.e+A l) f) dv wv gr gh (ons++q) hvs D'->JX (λk=>B<=k) w (K.setCell ⟨z,0,Y⟩ (VV g (A s.e+A l) f)) ->
   Q .normal (((a.put (C W) (VV g (A s.e+A l) f)).put (C d2) (.pointer (C ⟨z,0,Y⟩))).put (C d3) (.pointer (C ⟨z,0,Y⟩))) (K.setCell ⟨z,0,Y⟩ (VV g (A s.e+A l) f))):
  SC z gl o ev wv s.round x (w.drew.alloc (M (XS l q).toArray 116))/\wpAnyH ξ .any pre (Pop.Q1 ξ pre S Q) (SC z gl o ev wv s.round x) 3 (Pop.L i 3) a (w.drew.alloc (M (XS l q).toArray 116)):=by
 have d:Below w.heap.size w (w.drew.alloc (M (XS l q).toArray 116)):=((xl w.heap.size w).drew).alloc (by simp) _;have sc:SC z gl o ev wv s.round x (w.drew.alloc (M (XS l q).toArray 116)):=(SC.of h hl).keep (λj=>d.cell (p:=⟨z,j,Y⟩) h.blk.lt) λj=>d.cell (p:=⟨gl,j,Y⟩) hl.lt;have aa:(w.drew.alloc (M (XS l q).toArray 116)).heap.size=w.heap.size+1:=by simp
 have lz:=h.blk.lt;have ak:=hl.lt;have ag:∀k,ev.ownBlock=C k->k≠gl:=λk X e=>by have:=(h.eo.lt k X).1;omega
 have nw:Blk (w.drew.alloc (M (XS l q).toArray 116)) w.heap.size (XS l q) 116:=Blk.new w.drew (XS l q) 116;refine⟨sc,Pop.tail (n:=A s.e) (m:=A l) (c:=A l) (b:=w.heap.size) (xs:=XS s.e ons) (news:=XS l q) (H:=w.heap.size+1) h1 h2 h3 hc p1 p2 p3 p4 (by omega) ae.2 v1 v2 v3 (qO h.eo d) (SN ab) (λj u hu=>?_) (PU l q ac) l0 (by omega) (by omega) aa (λK hg=>?_) λg f K q1 t q3 q4=>?_⟩
 ·rw[tK,Nat.zero_add];exact nw.cell hu
 ·have fz:∀j,V K ⟨z,j,Y⟩=_:=λj=>hg.cell_far ⟨z,j,Y⟩ (by simp;omega) λe=>h.VQ z e.symm Z
  refine⟨sc.keep fz λj=>hg.cell_far ⟨gl,j,Y⟩ (by simp;omega) λe=>ag gl e.symm Z,⟨_,(fz 0).trans sc.1⟩,?_⟩;exact(hg.frozen_far ⟨z,0,Y⟩ (by simp;omega) λe=>h.VQ z e.symm Z).trans (fK d lz (h.blk.free 0))
 ·have ad:ev.ownBlock=C g\/w.heap.size<=g:=q3.imp id (λe=>by omega);have af:JX D w K:=⟨t.os.trans d.os,t.tape.trans d.tape,t.output.trans d.output,x8 d.size t.size,λk X hd=>(t.block k (xh X d.size) λe=>hd (h.de k e.symm)).trans (d.block k X)⟩;refine hK g f K (λk=>D k\/k=g) (λv r hv=>(hv.of λy hy e=>e.elim id λe=>by rw[e]at hy⊢;exact ad.elim (λk=>h.de _ k) λk=>by omega).x (P:=D) (JX.set af (xF h.dz) _ _) λ_ _ e=>xF e) ?_ ?_
  ·grind [PM.put]
  ·exact JX.set (P:=λk=>B<=k) ⟨t.os.trans d.os,t.tape.trans d.tape,t.output.trans d.output,x8 d.size t.size,λk X hd=>(t.block k (xh X d.size) λe=>hd (h.eo.lt k e.symm).1).trans (d.block k X)⟩ (xF h.bz) _ _
end
section
variable {w:ν}{B z:ψ}{s:J.PS}{ev dv wv:σ}{gr gh:ψ}{ons hvs:ι σ}{D:ψ->Prop}
theorem PM.zx(h:PM w B z s ev dv wv gr gh ons hvs D)(i:ψ)(u:σ){b:J.PS}{c d:σ}(p:Blk (w.setCell ⟨z,i,Y⟩ u) z [ev,VV gr 4 4,VV gh 4 4,d,c,.bool b.short,I O b.round] 113)(r:b.e=s.e)(t:b.g=s.g)(y:b.hang=s.hang)(E:XT w D d b.way)(H:Aa w (λk=>B<=k) c b.D):PM (w.setCell ⟨z,i,Y⟩ u) B z b ev c d gr gh ons hvs D:=by
 have m:JX (λk=>k=z) w (w.setCell ⟨z,i,Y⟩ u):=JX.set (P:=λk=>k=z) (JX.refl _ _) (xF Z) _ _;have q:∀x,x<w.heap.size->x=z->D x:=λx _ e=>by rw[e];exact h.dz
 refine⟨p,?_,by grind [PM.ol],λj f=>?_,?_,by grind [PM.rl],h.hb.cC _ _ (h.hb.ne h.blk (by decide)),h.hl,λj f=>?_,E.x m q,H.x m λx _ e=>by rw[e];exact h.bz,h.bz,h.bg,h.bh,h.dz,h.dr,h.dh,h.de,λx e=>by simpa using h.low x e,h.bl,by grind [PM.e0]⟩
 ·grind [ρ,PM.eo,PM.VQ]
 ·rw[r]at f⊢;exact(h.on j f).x m q
 ·rw[t];exact h.rb.cC _ _ (h.rb.ne h.blk (by decide))
 ·rw[y];exact(h.hr j f).x m q
theorem PM.rnd(h:PM w B z s ev dv wv gr gh ons hvs D)(r:ω):PM (w.setCell ⟨z,6,Y⟩ (I O r)) B z {s with round:=r} ev dv wv gr gh ons hvs D:=h.zx 6 _ (h.blk.set 6 _) Z Z Z h.wr h.rd
def PM.sht(h:PM w B z s ev dv wv gr gh ons hvs D):PM (w.setCell ⟨z,5,Y⟩ (.bool T)) B z {s with short:=T} ev dv wv gr gh ons hvs D:=h.zx 5 _ (h.blk.set 5 _) Z Z Z h.wr h.rd
def PM.VH(h:PM w B z s ev dv wv gr gh ons hvs D)(hv:Aa w (λk=>B<=k) v l):PM (w.setCell ⟨z,4,Y⟩ v) B z {s with D:=l} ev v wv gr gh ons hvs D:=h.zx 4 _ (h.blk.set 4 _) Z Z Z h.wr hv
def PM.wy(h:PM w B z s ev dv wv gr gh ons hvs D)(hv:XT w D v l):PM (w.setCell ⟨z,3,Y⟩ v) B z {s with way:=l} ev dv v gr gh ons hvs D:=h.zx 3 _ (h.blk.set 3 _) Z Z Z hv h.rd
end
def zOG{x:Lh}{ev:σ}{Q:π->η->ν->Prop}(hQ:nR Q)(h:PM w B z s ev dv wv gr gh ons hvs D)(y:LnC w gl o x bv)(hf:DFr a z lv i gl o xa hv x.op)(hs:A s.e<1000)(hB:B<=w.heap.size)(t:gl<B)(ab:0<=s.round/\s.round<1000)(L:wO w B z lv i {s.put [J.aE s.round,J.lE s.round]with round:=s.round+1} N):
  bC ξ ((aB f75).drop 0) (Exit.then N Q) a w:=by
 have E:=aD (SC.of h y);obtain⟨⟨sz,K,s0,s1,s4⟩,s5,s6,s7,j⟩:=hf;have H:=aD h;have HL:=aD y;have p:=aD L;clear h y L;rw[eH sz K];simp only[x5,List.range.loop,x6,x7,s0,s1,s4,s5,s6,s7,j];generalize gA a=f;clear s0 s1 s4 s5 s6 s7 j sz K;refine aH Z λK1 m=>?_;refine Pop.aV (S:=SC z gl o ev wv s.round x) (by kernel_rfl) _ Z (by kernel_rfl) E λb=>?_;simp only[xi,xj,xg,xk,xR,Pop.uO]
 iterate 15
  refine Pop.tk Z (by kernel_rfl) (λ_ _ _ h=>hQ _ _ _ _ _ h) Z λw r=>by dsimp only[SC]at r;go_simp;with_reducible rfl b ?_;simp only[x9,xc,xd,xe,xR]
 refine Pop.cT Z (by kernel_rfl) Z ?_;go_simp;refine EQ H HL t hB hs [J.aE s.round,J.lE s.round] [G Y 0 0,G Y 0 0] Z (by simp) (by simp) (by simp;rfl) (λi hi=>?_) Z Z Z (by kernel_rfl) ⟨Z,Z,Z⟩ ⟨Z,Z,Z⟩ ⟨Z,Z,Z⟩ ⟨Z,Z,Z⟩ Z (by decide) Z Z Z λg q w5 D' _ d X=>?_
 ·have u:i=0\/i=1:=by simp at hi;omega
  rcases u with rfl|rfl<;>exact XT.nil _ _
 ·apply m;have HP:=aD d;have HX:=aD X;have n6:=d.blk.cell (i:=6) (v:=I O s.round) Z;have n7:=d.blk.free 6;have n8:=d.blk.lt;clear d X E b;simp only[x9,xc,xd,xe,xR];generalize w5.setCell ⟨z,0,Y⟩ (VV g (A s.e+[J.aE s.round,J.lE s.round].length) q)=W at*;refine aH Z λaa c=>?_;go_wp2;apply c.o;show N _ _;exact p _ _ _ _ _ _ _ _ _ _ ⟨Z,Z,Z,Z,Z⟩ (HP.rnd _) (JX.set (P:=λk=>B<=k) HX (xF H.bz) _ _)
section
variable {w:ν}{B z:ψ}{s:J.PS}{ev dv wv:σ}{gr gh:ψ}{ons hvs:ι σ}{D:ψ->Prop}
def PM.evn(h:PM w B z s ev dv wv gr gh ons hvs D):∀k,ev.ownBlock=C k->k≠z/\k≠gr/\k≠gh:=λk c=>by
 obtain⟨d,b⟩:=PO h.eo c;exact⟨Blk.ne b h.blk (by decide),Blk.ne b h.rb (by decide),Blk.ne b h.hb (by decide)⟩
theorem PM.VX(h:PM w B z s ev dv wv gr gh ons hvs D)(r:ψ)(v:ω):PM (w.setCell ⟨gr,r,Y⟩ (I O v)) B z {s with g:=s.g.set r v} ev dv wv gr gh ons hvs D:=by
 have b:JX (λk=>k=gr) w (w.setCell ⟨gr,r,Y⟩ (I O v)):=JX.set (P:=λk=>k=gr) (JX.refl _ _) (xF Z) _ _;have c:∀x,x<w.heap.size->x=gr->D x:=λx _ e=>by rw[e];exact h.dr
 refine⟨h.blk.cC _ _ (h.blk.ne h.rb (by decide)),ρ h.eo (λe=>(h.evn _ e).2.1 Z) _,h.ol,λj d=>(h.on j d).x b c,?_,by simp[h.rl],h.hb.cC _ _ (h.hb.ne h.rb (by decide)),h.hl,λj d=>(h.hr j d).x b c,h.wr.x b c,h.rd.x b λx _ e=>by rw[e];exact h.bg,h.bz,h.bg,h.bh,h.dz,h.dr,h.dh,h.de,λx e=>by simpa using h.low x e,h.bl,h.e0⟩;have:=h.rb.set r (I O v)
 grind [WU,List.map_set]
theorem PM.hng(h:PM w B z s ev dv wv gr gh ons hvs D)(r:ψ)(g:r<4)(m:A s.hang=4){u:σ}(p:XT w D u l):PM (w.setCell ⟨gh,r,Y⟩ u) B z {s with hang:=s.hang.set r l} ev dv wv gr gh ons (hvs.set r u) D:=by
 have b:JX (λk=>k=gh) w (w.setCell ⟨gh,r,Y⟩ u):=JX.set (P:=λk=>k=gh) (JX.refl _ _) (xF Z) _ _;have d:∀x,x<w.heap.size->x=gh->D x:=λx _ e=>by rw[e];exact h.dh
 refine⟨h.blk.cC _ _ (h.blk.ne h.hb (by decide)),ρ h.eo (λe=>(h.evn _ e).2.2 Z) _,h.ol,λj f=>(h.on j f).x b d,h.rb.cC _ _ (h.rb.ne h.hb (by decide)),h.rl,h.hb.set r u,by simp[h.hl],λj f=>?_,h.wr.x b d,h.rd.x b λx _ e=>by rw[e];exact h.bh,h.bz,h.bg,h.bh,h.dz,h.dr,h.dh,h.de,λx e=>by simpa using h.low x e,h.bl,h.e0⟩;by_cases c:j=r
 ·grind [PM.hl,XT.x]
 ·have e1:(hvs.set r u).getD j (.bool U)=hvs.getD j (.bool U):=by rw[xm,xm,List.getElem?_set_ne λe=>c e.symm]
  have e2:(s.hang.set r l).getD j []=s.hang.getD j []:=by grind
  show XT _ D ((hvs.set r u).getD j (.bool U)) ((s.hang.set r l).getD j []);rw[e1,e2];exact(h.hr j f).x b d
theorem Aa.tl{x:ω}(h:Aa w D v (x::l)):∃b o c o' c',v=G (C ⟨b,o,Y⟩) (A l+1) c/\V w ⟨b,o,Y⟩=C (I O x)/\b<w.heap.size/\(∀d,(Instr.slice 37 (G (C ⟨b,o,Y⟩) (A l+1) c) (C (I O 1)) Y Y).run ξ d=.ok (G (C ⟨b,o',Y⟩) (A l) c') d)/\Aa w D (G (C ⟨b,o',Y⟩) (A l) c') l:=by
 rcases h with⟨e,_⟩|⟨b,o,c,rfl,f,p,g,r⟩
 ·cases e
 simp only[xg]at f p;have t:∀d,(Instr.slice 37 (G (C ⟨b,o,Y⟩) (A l+1) c) (C (I O 1)) Y Y).run ξ d=.ok (sliced (C ⟨b,o,Y⟩) 1 (A l+1) c 1) d:=λd=>by
  have f:=run_slice_l (w:=d) (P:=ξ) 37 (C ⟨b,o,Y⟩) (A l+1) c (by kernel_rfl) O 1 (by omega) (by omega);rw[f,show(sizeOf (prog.elem 37)).run ξ d=.ok 1 d by kernel_rfl,Result.andThen_ok];rfl
 have m:V w ⟨b,o,Y⟩=C (I O x):=by have:=p 0 (by omega);simpa using this
 by_cases hc:c=1
 ·subst hc;have q:l=[]:=List.eq_nil_of_length_eq_zero (by omega);subst q;exact⟨b,o,1,o,0,Z,m,g,λd=>by grind [sliced],xF ⟨Z,_,_,Z⟩⟩
 ·refine⟨b,o,c,o+1,c-1,Z,m,g,λd=>?_,?_⟩
  ·grind [sliced,tK]
  ·refine xW ⟨b,o+1,c-1,Z,by omega,λj u=>?_,g,r⟩
   grind
end
theorem zNS{W:ByteArray}{ev:σ}{Q:π->η->ν->Prop}(h:PM w B z s ev dv wv gr gh ons hvs D)(hf:DFr a z lv i gl o xa hv W)(hs:A s.D<1000)(L:∀a' w' dv',DFr a' z lv i gl o xa hv W->gA a' 8=I O (s.D.headD 0)->PM w' B z s.take ev dv' wv gr gh ons hvs D->JX (λk=>k=z) w w'->bC ξ ((aR f75).drop 3) (Exit.then N Q) a' w'):
  bC ξ ((aR f75).drop 0) (Exit.then N Q) a w:=by
 obtain⟨⟨sz,K,X,s1,s4⟩,s5,s6,s7,q⟩:=hf;have H:=aD h;have E:=aD L;have f4:=h.blk.free 4;have f5:=h.blk.free 5;have lz:=h.blk.lt;have b5:=h.blk.cell (i:=5) (v:=.bool s.short) Z;rw[eH sz K];simp only[x5,List.range.loop,x6,x7,X,s1,s4,s5,s6,s7,q];generalize gA a=f;clear X s1 s4 s5 s6 s7 q sz K L
 cases hr:s.D with
 |nil =>
  have j:=h.rd;rw[hr]at j;obtain⟨u,y,rfl⟩:∃u y,dv=G u 0 y:=by
   rcases j with⟨_,a,c,e⟩|⟨b,o,c,e,_⟩
   ·exact⟨a,c,e⟩
   ·exact⟨_,c,e⟩
  have c4:=h.blk.cell (i:=4) (v:=G u 0 y) Z;have t:aC (s.take={s with short:=T}):=by grind [J.PS.take]
  have HR:=aD hr;clear h j hr;refine aH Z (λg d=>?_);go_wp2;apply d.o;refine aH Z (λg d=>?_);go_wp2;apply d.o;refine aH Z (λg d=>?_);go_wp2;apply d.o;refine E _ _ _ ⟨⟨Z,Z,Z,Z,Z⟩,Z,Z,Z,Z⟩ (by rw[HR.o];rfl) (by rw[t.o];exact H.sht) (JX.set (P:=λk=>k=z) (JX.refl _ _) (xF Z) _ _)
 |cons x l =>
  have j:=h.rd;rw[hr]at j;obtain⟨b,o',c,o2,c2,rfl,ab,aa,ad,p⟩:=j.tl;have S:(0:ω)<((A l+1:ψ):ω):=by omega
  have ac:A l<1000:=by grind
  have c4:=h.blk.cell (i:=4) (v:=G (C ⟨b,o',Y⟩) (A l+1) c) Z;have t:aC (s.take={s with D:=l}):=by grind [J.PS.take]
  have HR:=aD hr;have r:=aD p;generalize hm:A l=m at*;clear h j hr hs p hm;refine aH Z (λg d=>?_);go_wp2;apply d.o;refine aH Z (λg d=>?_);go_wp2;apply d.o;refine aH Z (λg d=>?_);go_wp2;apply d.o;refine E _ _ _ ⟨⟨Z,Z,Z,Z,Z⟩,Z,Z,Z,Z⟩ (by rw[HR.o];rfl) (by rw[t.o];exact H.VH r) (JX.set (P:=λk=>k=z) (JX.refl _ _) (xF Z) _ _)
def aW(d:t):r u:=eA (jU ((aR d).getD 6 .skip))
def aA(d:t):r u:=eA (jU ((aW d).getD 2 .skip))
structure DGr(a:η)(z:ψ)(lv:σ)(i gl o:ψ)(v:ω)(k:ψ):Prop where
 f0:DF0 a z lv i
 s5:gA a 5=.pointer (C ⟨gl,o,Y⟩)
 s8:gA a 8=I O v
 s9:gA a 9=I O (k:ω)
def L3{j:σ}{y v:ω}{d:ι ω}{x:Lh}{ev:σ}{Q:π->η->ν->Prop}(hQ:nR Q)(h:PM w B z s ev dv wv gr gh ons hvs D)(u:LnC w gl o x bv)(hf:DGr a z lv i gl o v k)(s6:gA a 6=I O y)(m:gA a 10=j)(hs:A s.e<1000)(hB:B<=w.heap.size)(t:gl<B)(c:XT w D j d)(L:∀a' w' ev' ons' E,DGr a' z lv i gl o v k->PM w' B z (s.put [J.wE x y T d]) ev' dv wv gr gh ons' hvs E->JX (λk=>B<=k) w w'->N a' w'):
  bC ξ ((aW f75).drop 3) (Exit.then N Q) a w:=by
 obtain⟨⟨sz,K,X,s1,s4⟩,s5,s8,s9⟩:=hf;obtain⟨wa,wn,wc,rfl⟩:=c.form;have HS:=aD (SC.of h u);have H:=aD h;have HL:=aD u;have HN:=aD L;have q:=aD c;clear h u L c;rw[eH sz K];simp only[x5,List.range.loop,x6,x7,X,s1,s4,s5,s6,s8,s9,m];generalize gA a=f;clear X s1 s4 s5 s6 sz K s8 s9 m;refine aH Z λK1 p=>?_;refine Pop.aV (S:=SC z gl o ev wv s.round x) (by kernel_rfl) _ Z (by kernel_rfl) HS λb=>?_;simp only[xi,xj,xg,xk,xR,Pop.uO]
 iterate 20
  refine Pop.tk Z (by kernel_rfl) (λ_ _ _ h=>hQ _ _ _ _ _ h) Z λw r=>by dsimp only[SC]at r;go_simp;with_reducible rfl b ?_;simp only[x9,xc,xd,xe,xR]
 refine Pop.cT Z (by kernel_rfl) Z ?_;go_simp;refine EQ H HL t hB hs [J.wE x y T d] [G wa wn wc] Z (by simp) (by simp) (by simp;rfl) (λi W=>?_) Z Z Z (by kernel_rfl) ⟨Z,Z,Z⟩ ⟨Z,Z,Z⟩ ⟨Z,Z,Z⟩ ⟨Z,Z,Z⟩ Z (by decide) Z Z Z λg aa w5 E _ hP hX=>?_
 ·simp at W;subst W;exact q
 ·apply p;show N _ _;exact HN _ _ _ _ _ ⟨⟨Z,Z,Z,Z,Z⟩,Z,Z,Z⟩ hP hX
theorem zPW{v:ω}{t:ι ω}{x:Lh}{ev:σ}{Q:π->η->ν->Prop}{ad:Bool}(hQ:nR Q)(h:PM w B z s ev dv wv gr gh ons hvs D)(hl:LnC w gl o x bv)(hf:DFr a z lv i gl o xa hv x.op)(s8:gA a 8=I O v)(s9:gA a 9=I O (k:ω))(hs:A s.e<1000)(hB:B<=w.heap.size)(ag:gl<B)(ah:XT w D hv t)(aB:A t+A s.way<10000000000000)(aE:0<=v/\v<4)(az:0<=xa/\xa<4)(pa:(x.op.toList==[97,100,100])=ad)(hN:∀a' W m c D',DGr a' z lv i gl o v k->PM W B z (s.put [J.wE x (cond ad ((xa+v)%4) xa) T (cond ad (t++s.way++[(k:ω)]) (t++s.way))]) m dv wv gr gh c hvs D'->JX (λk=>B<=k) w W->N a' W):
  bC ξ ((aW f75).drop 0) (Exit.then N Q) a w:=by
 obtain⟨i0,hi,au,av,aw⟩:∃i0,prog.info? 3=C i0/\i0.zero=C (I O 0)/\i0.size=1/\i0.bytes=8:=uV Tryz.XE;obtain⟨⟨sz,df,s0,s1,s4⟩,s5,s6,s7,ak⟩:=hf;have al:=aD ah;have c3:=h.blk.cell (i:=3) (v:=wv) Z;have lz:=h.blk.lt;have H:=aD h;have HL:=aD hl;have HN:=aD hN;have o0:=hl.op;have ax:=hl.lt;clear h hl hN ah;rw[eH sz df];simp only[x5,List.range.loop,x6,x7,s0,s1,s4,s5,s6,s7,ak,s8,s9];generalize gA a=f;clear s0 s1 s4 s5 s6 s7 ak sz df s8 s9;have ai:A t+A s.way<10000000000000:=by omega
 refine aH Z (λac b=>?_);go_wp2_with(first|(go_at_call 76;refine(BS hv wv t s.way _ (al.of (λ_ _ e=>e.elim)) (H.wr.of (λ_ _ e=>e.elim)) ai).mono ?_;rintro e K ⟨aF,rfl,q,p,af⟩;have E:=aD q;have an:=aD p;have d:=aD af;clear q p af));apply b.o;have ap:=aD (H.X d);have S:=aD (HL.x (JX.of (P:=λ_=>False) d) (λe=>e));have aq:B<=K.heap.size:=x8 hB d.size;have o1:=S.op;have ay:=S.lt;clear o0 c3 lz ax;refine aH Z (λac b=>?_);go_wp2;apply b.o;refine aH Z (λK2 aa=>?_)
 cases ad with
 |false =>
  refine wp_cond_false (by first|rfl|(simp only[pa];rfl)) (wp_skip (aa _ _ ?_));refine L3 hQ ap S ⟨⟨Z,Z,Z,Z,Z⟩,Z,Z,Z⟩ Z Z hs aq ag (E.pE (D:=D) (λy hy=>H.low y hy) an) (λa' W m c D' h1 h2 h3=>HN a' W m c D' h1 h2 ((JX.of d).trans h3 (λ_ _ e=>e)))
 |true =>
  refine wp_cond_true (by first|rfl|(simp only[pa];rfl)) (fU _ _ _ _ ?_);show bC ξ ((aA f75).drop 0) _ _ K;refine aH Z (λac b=>?_);go_wp2;apply b.o;refine aH Z (λK3 am=>?_);obtain⟨oa,oc,rfl⟩:=nP E;have L:aC (Below K.heap.size K (K.alloc (M #[I O (k:ω)] 3))):=(xl K.heap.size K).alloc (Nat.le_refl _) _;have ab:aC ((t++s.way).length<10000000000000):=by grind [aC]
  generalize ar:t++s.way=lw at*;clear ar;go_wp2_with(first|(at_builtin;refine wpList_append_lies _ Z (.tmp 122) (.tmp 124) 37 Z w.heap.size 3 i0 (I O 0) 1 8 underlying37 hi au av aw Z (by decide) _ (A lw) (WU lw) Z (qO E L) ⟨K.heap.size,0,Y⟩ 1 1 [I O (k:ω)] Z Z (λj u t=>by rw[tK,Nat.zero_add];exact(Blk.new K [I O (k:ω)] 3).cell t) (by simp;rfl) (by decide) (by have:=ab.o;unfold maxLen;omega) (by have:=ab.o;omega) (x8 d.size L.size) _ Z ?_;intro g5 c5 w5 r g ae aj;have B5:=aD (rV (d.trans (L.mono d.size)) g (DK E));have ao:aC (oE w5 w.heap.size (VV g5 (A lw+1) c5) (lw++[(k:ω)])):=(by unfold aC oE;rw[GN,List.length_append];exact r);clear r g ae aj));apply am;show K2 _ _;apply aa;refine L3 hQ (H.X B5) (HL.x (JX.of (P:=λ_=>False) B5) (λe=>e)) ⟨⟨Z,Z,Z,Z,Z⟩,Z,Z,Z⟩ Z Z hs (x8 hB B5.size) ag (ao.pE (D:=D) (λy hy=>H.low y hy) (λe=>by simp at e)) (λa' W m c D' h1 h2 h3=>HN a' W m c D' h1 h2 ((JX.of B5).trans h3 (λ_ _ e=>e)))
def SG(z gl o gr gh:W)(x:Lh)(w:ν):Prop:=V w ⟨z,1,Y⟩=C (VV gr 4 4)/\V w ⟨z,2,Y⟩=C (VV gh 4 4)/\V w ⟨gl,o+1,Y⟩=C (I O x.VX)
def SG.of{ev:σ}{x:Lh}(h:PM w B z s ev dv wv gr gh ons hvs D)(b:LnC w gl o x bv):SG z gl o gr gh x w:=⟨h.blk.cell Z,h.blk.cell Z,b.VX⟩
def zOI{v:ω}{x:Lh}{ev:σ}{Q:π->η->ν->Prop}(E:nR Q)(h:PM w B z s ev dv wv gr gh ons hvs D)(J:LnC w gl o x bv)(hf:DGr a z lv i gl o v k)(aa:gl<B)(r0:0<=x.VX)(r1:x.VX<4)(hh:A s.hang=4)(hK:wO w B z lv i (s.aO x.VX v [(k:ω)]) N):
  bC ξ ((aR f75).drop 7) (Exit.then N Q) a w:=by
 obtain⟨⟨sz,df,s0,s1,s4⟩,s5,s8,s9⟩:=hf;have r:=aD (SG.of h J);have m:x.VX.toNat<4:=by omega
 have q1:=h.yQ m;have q2:=h.sD m;have fr:=h.rb.free x.VX.toNat;have fh:=h.hb.free x.VX.toNat;have H:=aD h;have HK:=aD hK;have HL:=aD J;have lr:=h.rb.lt;clear h hK J;rw[eH sz df];simp only[x5,List.range.loop,x6,x7,s0,s1,s4,s5,s8,s9];generalize gA a=f;clear s0 s1 s4 s5 sz df s8 s9;refine aH Z λL j=>?_;refine Pop.aV (S:=SG z gl o gr gh x) (by kernel_rfl) _ Z (by kernel_rfl) r λb=>?_;simp only[xi,xj,xg,xk,xR,Pop.uO]
 iterate 10
  refine Pop.tk Z (by kernel_rfl) (λ_ _ _ h=>E _ _ _ _ _ h) Z λw g=>by dsimp only[SG]at g;go_simp;with_reducible rfl b ?_;simp only[x9,xc,xd,xe,xR]
 refine Pop.fin (by kernel_rfl) Z ?_;go_simp;apply j;have y:=aD ((H.VX x.VX.toNat v).X ((xl _ _).drew));have K:aC (JX (λk=>B<=k) w (w.setCell ⟨gr,x.VX.toNat,Y⟩ (I O v)).drew):=(JX.set (P:=λk=>B<=k) (JX.refl _ _) (xF H.bg) _ _).X ((xl _ _).drew);have q:=aD (HL.x K (by omega));clear j L b r fr lr q1 q2 fh;generalize(w.setCell ⟨gr,x.VX.toNat,Y⟩ (I O v)).drew=W at*;have r:=aD (SG.of y q);refine aH Z λL j=>?_;refine Pop.aV (S:=SG z gl o gr gh x) (by kernel_rfl) _ Z (by kernel_rfl) r λb=>?_;simp only[xi,xj,xg,xk,xR,Pop.uO]
 iterate 9
  refine Pop.tk Z (by kernel_rfl) (λ_ _ _ h=>E _ _ _ _ _ h) Z λw g=>by dsimp only[SG]at g;go_simp;with_reducible rfl b ?_;simp only[x9,xc,xd,xe,xR]
 refine Pop.cT Z (by kernel_rfl) Z ?_;go_simp;have p:aC (Below W.heap.size W (W.alloc (M #[I O (k:ω)] 3)).drew):=((xl W.heap.size W).alloc (Nat.le_refl _) _).drew;have d:=aD (y.X p);have t:=aD (q.x (JX.of (P:=λ_=>False) p) λe=>e);have u:aC (XT (W.alloc (M #[I O (k:ω)] 3)).drew D (VV W.heap.size 1 1) [(k:ω)]):=xW ⟨by simp,W.heap.size,1,Z,λi hi=>by
  simp at hi;subst hi;exact(Blk.new W [I O (k:ω)] 3).cell Z,by simp,λe=>by have:=y.low _ e;omega⟩
 generalize(W.alloc (M #[I O (k:ω)] 3)).drew=W2 at*;have q2:=d.sD m;have fh:=d.hb.free x.VX.toNat;have lh:=d.hb.lt;have c:=SG.of d t;clear b;refine⟨c,?_⟩;refine Pop.tk Z (by kernel_rfl) (λ_ _ _ h=>E _ _ _ _ _ h) Z λw g=>by dsimp only[SG]at g;go_simp;with_reducible rfl c ?_;simp only[x9,xc,xd,xe,xR];refine Pop.fin (by kernel_rfl) Z ?_;go_simp;apply j;show N _ _;exact HK _ _ _ _ _ _ _ _ _ _ ⟨Z,Z,Z,Z,Z⟩ (d.hng x.VX.toNat m hh u) ((K.X p).set (xF d.bh) _ _)
def zPs{v:ω}{x:Lh}{ev:σ}{Q:π->η->ν->Prop}{half:Bool}(hQ:nR Q)(h:PM w B z s ev dv wv gr gh ons hvs D)(t:LnC w gl o x bv)(hf:DFr a z lv i gl o xa hv x.op)(s8:gA a 8=I O v)(hs:A s.e<1000)(hB:B<=w.heap.size)(q:gl<B)(ph:(x.op.toList==[108,111,97,100])=!half)(pn:(x.op.toList != [108,111,97,100])=half)(L:∀a' w' ev' ons' j,DFr a' z lv i gl o xa hv x.op->gA a' 8=I O v->gA a' 9=I O (A s.e:ω)->PM w' B z (s.put [J.rE x v half s.way]) ev' dv wv gr gh ons' hvs j->JX (λk=>B<=k) w w'->(∀u r,XT w D u r->XT w' j u r)->bC ξ ((aR f75).drop 5) (Exit.then N Q) a' w'):
  bC ξ ((aR f75).drop 3) (Exit.then N Q) a w:=by
 obtain⟨⟨sz,y,X,s1,s4⟩,s5,s6,s7,d⟩:=hf;obtain⟨E,K,rfl⟩:=J.GZ h;obtain⟨wa,wn,wc,rfl⟩:=h.wr.form;have c0:=h.blk.cell (i:=0) (v:=G E (A s.e) K) Z;have lz:=h.blk.lt;have HS:=aD (SC.of h t);have H:=aD h;have HL:=aD t;have HN:=aD L;clear h t L;rw[eH sz y];simp only[x5,List.range.loop,x6,x7,X,s1,s4,s5,s6,s7,d,s8];generalize gA a=f;clear X s1 s4 s5 s6 s7 d sz y s8;refine aH Z (λaa c=>?_);go_wp2;apply c.o;clear c0 lz;refine aH Z (λK1 m=>?_);refine Pop.aV (S:=SC z gl o (G E (A s.e) K) (G wa wn wc) s.round x) (by kernel_rfl) _ Z (by kernel_rfl) HS (λb=>?_);simp only[xi,xj,xg,xk,xR,Pop.uO]
 iterate 28
  refine Pop.tk Z (by kernel_rfl) (λ_ _ _ h=>hQ _ _ _ _ _ h) Z (λw p=>by dsimp only[SC]at p;go_simp;with_reducible rfl) b ?_;simp only[x9,xc,xd,xe,xR]
 refine Pop.cT Z (by kernel_rfl) Z ?_;go_simp;refine EQ H HL q hB hs [J.rE x v half s.way] [G wa wn wc] Z (by simp) (by simp) (by simp;rfl) (λi W=>?_) Z Z Z (by kernel_rfl) ⟨Z,Z,Z⟩ ⟨Z,Z,Z⟩ ⟨Z,Z,Z⟩ ⟨Z,Z,Z⟩ Z (by decide) Z Z Z (λg ab w5 j hR hP hX=>?_)
 ·simp at W;subst W;exact H.wr
 ·apply m;exact HN _ _ _ _ _ ⟨⟨Z,Z,Z,Z,Z⟩,Z,Z,Z,Z⟩ Z Z hP hX hR
def nR.jU{Q:π->η->ν->Prop}(h:nR Q):nR (Exit.then N Q):=λc a d v w k=>h c a d v w k
theorem J.PS.vN{x:Lh}(h:x.op.toList=J.oLoad):s.step x=(s.take.put [J.rE x (s.D.headD 0) U s.take.way]).aO x.VX (s.D.headD 0) [(A s.take.e:ω)]:=by
 unfold J.PS.step;rw[h];rfl
def J.PS.vZ{x:Lh}{ad:Bool}(h:x.op.toList=if ad then J.oAdd else J.oSwap):s.step x=((s.take.put [J.rE x (s.D.headD 0) T s.take.way]).put [J.wE x (cond ad ((s.val x.a+s.D.headD 0)%4) (s.val x.a)) T (cond ad (s.aM x.a++s.way++[(A s.take.e:ω)]) (s.aM x.a++s.way))]).aO x.VX (s.D.headD 0) [(A s.take.e:ω)]:=by
 unfold J.PS.step;rw[h];cases ad
 ·simp[J.oSwap,J.oLoad,J.oAdd,J.PS.swap,J.PS.put,J.PS.take]
 ·simp[J.oLoad,J.oAdd,J.PS.add,J.PS.put,J.PS.take]
theorem zNT{x:Lh}{ev:σ}{Q:π->η->ν->Prop}{half ad:Bool}(hQ:nR Q)(h:PM w B z s ev dv wv gr gh ons hvs D)(hl:LnC w gl o x bv)(hf:DFr a z lv i gl o xa hv x.op)(hB:B<=w.heap.size)(p:gl<B)(W:XT w D hv (s.aM x.a))(j:xa=s.val x.a)(hx:J.Fit x)(t:J.Bnd n s)(hn:n<42)(am:A s.D<1000)(c:x.op.toList=if half then(if ad then J.oAdd else J.oSwap)else J.oLoad)(hK:wO w B z lv i (s.step x) N):
  bC ξ ((aR f75).drop 0) (Exit.then N Q) a w:=by
 have hp:2^n<=2^42:=xn (by omega) (by omega);have al:=t.head;have ac:=t.val hx.a0 hx.a1;have au:=t.e;have av:=t.aM x.a;have aw:=t.wy;have X:=hx.r (by grind);have ph:(x.op.toList==[108,111,97,100])=!half:=by rw[c];cases half<;>cases ad<;>rfl
 have pn:(x.op.toList != [108,111,97,100])=half:=by grind
 refine zNS h hf am λa1 w1 aq f1 g1 h1 x1=>?_;have q:=hl.x x1 (by have:=h.bz;omega);have aa:=W.x x1 (λy _ e=>by rw[e];exact h.dz);have X1:JX (λk=>B<=k) w w1:=x1.mono (λy _ e=>by rw[e];exact h.bz);refine zPs hQ h1 q f1 g1 (by show A s.e<1000;omega) (x8 hB x1.size) p ph pn λa2 w2 ar an D2 f2 g2 k2 h2 x2 r2=>?_;have g:=q.x x2 (by omega);have ab:=r2 _ _ aa;have X2:JX (λk=>B<=k) w w2:=X1.trans x2 λ_ _ e=>e;have ak:B<=w2.heap.size:=x8 hB X2.size;have b:∀(m S:σ) (d:r σ) (D3:ψ->Prop) (a3:η) (w3:ν) (s3:J.PS),DGr a3 z lv i gl o (s.D.headD 0) (A s.take.e)->PM w3 B z s3 m S wv gr gh d hvs D3->JX (λk=>B<=k) w w3->s3.hang=s.hang->s.step x=s3.aO x.VX (s.D.headD 0) [(A s.take.e:ω)]->bC ξ ((aR f75).drop 7) (Exit.then N Q) a3 w3:=λm S d D3 a3 w3 s3 f3 h3 x3 e3 e4 =>
  zOI hQ h3 (hl.x x3 (by omega)) f3 p X.1 X.2 (by rw[e3];exact t.hl) λa4 w4 _ _ _ _ _ _ _ _ f4 h4 x4=>hK _ _ _ _ _ _ _ _ _ _ f4 (by rw[e4];exact h4) (x3.trans x4 λ_ _ e=>e)
 have K:=aD b;have u:=aD h2;have ah:=aD g;have aj:=aD ab;have L:=aD X2;have o0:=g.op;have ax:=g.lt;obtain⟨⟨sz,df,s0,s1,s4⟩,s5,s6,s7,ae⟩:=f2;clear b h2 g ab X2 x2 r2 h1 q aa f1 g1 X1 x1 h hl W hf hK;rw[eH sz df];simp only[x5,List.range.loop,x6,x7,s0,s1,s4,s5,s6,s7,ae,g2,k2];generalize gA a2=f;clear s0 s1 s4 s5 s6 s7 ae sz df g2 k2;have ao:=aD j;have ai:=aD c;have af:aC (half=U->s.step x=(s.take.put [J.rE x (s.D.headD 0) half s.take.way]).aO x.VX (s.D.headD 0) [(A s.take.e:ω)]):=λe=>by grind [J.PS.vN]
 have ag:aC (half=T->s.step x=((s.take.put [J.rE x (s.D.headD 0) half s.take.way]).put [J.wE x (cond ad ((xa+s.D.headD 0)%4) xa) T (cond ad (s.aM x.a++s.way++[(A s.take.e:ω)]) (s.aM x.a++s.way))]).aO x.VX (s.D.headD 0) [(A s.take.e:ω)]):=λe=>by rw[e]at c⊢;rw[j];exact J.PS.vZ c
 rw[<- j]at ac;clear j c;generalize s.D.headD 0=v at*;refine aH Z λap H=>?_;go_wp2;apply H.o;refine aH Z λK2 E=>?_
 cases half with
 |false =>
  refine wp_cond_false (by first|rfl|(simp only[pn];rfl)) (wp_skip (E _ _ ?_));exact K _ _ _ _ _ _ _ ⟨⟨Z,Z,Z,Z,Z⟩,Z,Z,Z⟩ u L Z (af Z)
 |true =>
  refine wp_cond_true (by first|rfl|(simp only[pn];rfl)) (fU _ _ _ _ ?_);show bC ξ ((aW f75).drop 0) _ _ w2;refine zPW (ad:=ad) hQ.jU u ah ⟨⟨Z,Z,Z,Z,Z⟩,Z,Z,Z,Z⟩ Z Z (by grind [J.PS.put,J.PS.take]) ak p aj (by show(s.aM x.a).length+A s.way<10000000000000;omega) al ac (by rw[ai.o];cases ad<;>rfl) λa3 w3 m d D3 f3 h3 x3=>E _ _ ?_;exact K _ _ _ _ _ _ _ f3 h3 (L.trans x3 λ_ _ e=>e) Z (ag Z)
structure DTr(a:η)(z:ψ)(lv:σ)(i gl o:ψ)(v:ω)(on:σ):Prop where
 f0:DF0 a z lv i
 s5:gA a 5=.pointer (C ⟨gl,o,Y⟩)
 s14:gA a 14=I O v
 s15:gA a 15=on
def J.NE(x:Lh)(c:W):Prop:=c=0/\x.sign.toList=[43]\/c=1/\x.sign.toList=[45]\/c=2/\x.sign.toList=[61,61]\/c=3/\x.sign.toList=[]\/c=4/\(x.sign.toList==[43])=U/\(x.sign.toList==[45])=U/\(x.sign.toList==[61,61])=U/\x.sign.toList.isEmpty=U
def J.AN(x:Lh):∃c,J.NE x c:=by
 by_cases h1:x.sign.toList=[43]
 ·exact⟨0,xF ⟨Z,h1⟩⟩
 by_cases h2:x.sign.toList=[45]
 ·exact⟨1,xW (xF ⟨Z,h2⟩)⟩
 by_cases h3:x.sign.toList=[61,61]
 ·exact⟨2,xW (xW (xF ⟨Z,h3⟩))⟩
 by_cases h4:x.sign.toList=[]
 ·exact⟨3,xW (xW (xW (xF ⟨Z,h4⟩)))⟩
 ·exact⟨4,xW (xW (xW (xW ⟨Z,by simpa using h1,by simpa using h2,by simpa using h3,by simpa using h4⟩)))⟩
theorem J.lT{x:Lh}{c:W}(h:J.NE x c):(x.sign.toList==[43])=decide (c=0)/\(x.sign.toList==[45])=decide (c=1)/\(x.sign.toList==[61,61])=decide (c=2)/\x.sign.toList.isEmpty=decide (c=3)/\(x.sign.toList != [])=!decide (c=3)/\c<=4:=by
 rcases h with⟨rfl,e⟩|⟨rfl,e⟩|⟨rfl,e⟩|⟨rfl,e⟩|⟨rfl,b,d,f,g⟩
 iterate 4 (rw[e];decide)
 grind
def J.nv(c:W)(a b:ω):ω:=if c=0 then(a+b)%4 else if c=1 then(a-b+4)%4 else if c=2 then(if a==b then 1 else 0)else a
theorem zNU{c:ψ}{x:Lh}{ev:σ}{Q:π->η->ν->Prop}(h:PM w B z s ev dv wv gr gh ons hvs D)(hl:LnC w gl o x bv)(hf:DFr a z lv i gl o xa hv x.op)(ah:XT w D hv (s.aM x.a))(aj:xa=s.val x.a)(K:J.Fit x)(hb:J.Bnd n s)(hn:n<42)(hc:J.NE x c)(hN:∀a' w' L,DTr a' z lv i gl o (J.nv c xa (s.val x.b)) L->XT w' D L (if c=3 then s.aM x.a else s.aM x.a++s.aM x.b)->Below w.heap.size w w'->bC ξ ((aT f75).drop 7) (Exit.then N Q) a' w'):
  bC ξ ((aT f75).drop 0) (Exit.then N Q) a w:=by
 have hp:2^n<=2^42:=xn (by omega) (by omega);have ar:=hb.val K.a0 K.a1;have aw:=hb.val K.b0 K.b1;have au:=hb.aM x.a;have av:=hb.aM x.b;rw[<- aj]at ar;obtain⟨⟨sz,df,s0,s1,s4⟩,s5,s6,s7,al⟩:=hf;have an:=aD ah;have H:=aD h;have HL:=aD hl;have HN:=aD hN;have ad:=aD hc;have q4:=hl.b;have ak:=hl.lt;have b0:=K.b0;have b1:=K.b1;clear h hl hN ah hc aj hb K;rw[eH sz df];simp only[x5,List.range.loop,x6,x7,s0,s1,s4,s5,s6,s7,al];generalize gA a=f;clear s0 s1 s4 s5 s6 s7 al sz df;refine aH Z λg d=>?_;go_wp2_with(first|(go_at_call 117;refine(Lw _ B z s ev dv wv gr gh ons hvs D H x.b b0 (by omega)).mono ?_;rintro e w1 ⟨gv,rfl,ag,ae⟩;have W:=aD ag;have j:=aD ae;clear ag ae));apply d.o;have E:=aD (an.x (JX.of (P:=λ_=>False) j) λ_ _ e=>e.elim);have X:=aD (W.x (JX.of (P:=λ_=>False) j) λ_ _ e=>e.elim);clear q4 ak b0 b1;generalize s.val x.b=xb at*;generalize s.aM x.a=la at*;generalize s.aM x.b=lb at*;have ai:A la+([]:ι ω).length<10000000000000:=by simp;omega
 refine aH Z λg d=>?_;go_wp2;apply d.o;refine aH Z λg d=>?_;go_wp2_with(first|(go_at_call 76;refine(BS hv (G Y 0 0) la [] _ (E.of λ_ _ e=>e.elim) (XT.nil _ _) ai).mono ?_;rintro e w2 ⟨L,rfl,r,p,u⟩;have m:=aD (j.trans (u.mono j.size));have ac:=aD (r.pE (D:=D) (λy hy=>xh (H.low y hy) j.size) p);have ao:=aD (E.x (JX.of (P:=λ_=>False) u) λ_ _ e=>e.elim);have am:=aD (X.x (JX.of (P:=λ_=>False) u) λ_ _ e=>e.elim);clear r p u));apply d.o;rw[List.append_nil]at ac;have aa:=aD (HL.x (JX.of (P:=λ_=>False) m) λe=>e);have q5:=aa.sign;have ak:=aa.lt;clear ai E X W;have aq:A la+A lb<10000000000000:=by omega
 refine aH Z λg d=>?_;go_wp2;apply d.o;obtain⟨p1,p2,p3,p4,p5,p6⟩:=J.lT ad;have ap:c=0\/c=1\/c=2/\(xa==xb)=T\/c=2/\(xa==xb)=U\/c=3\/c=4:=by
  grind
 clear p6 ad
 rcases ap with rfl|rfl|⟨rfl,pe⟩|⟨rfl,pe⟩|rfl|rfl
 all_goals
  simp only[Nat.reduceEqDiff,decide_false,decide_true,Bool.not_true,Bool.not_false]at p1 p2 p3 p4 p5;refine aH Z λg d=>?_;go_wp2;apply d.o;refine aH Z λg d=>?_;go_wp2;apply d.o;refine aH Z λg d=>?_;go_wp2_with(first|(go_at_call 76;refine(BS hv gv la lb _ (ao.of λ_ _ e=>e.elim) (am.of λ_ _ e=>e.elim) aq).mono ?_;rintro e w3 ⟨ax,rfl,t,q,af⟩;have S:=aD (m.trans (af.mono m.size));have ab:=aD (t.pE (D:=D) (λy hy=>xh (H.low y hy) m.size) q);clear t q af));apply d.o
  first
   |exact HN _ _ _ ⟨⟨Z,Z,Z,Z,Z⟩,Z,Z,Z⟩ ab S
   |exact HN _ _ _ ⟨⟨Z,Z,Z,Z,Z⟩,Z,Z,Z⟩ ac m
   |(exact HN _ _ _ ⟨⟨Z,Z,Z,Z,Z⟩,Z,by simp[J.nv, *];rfl,Z⟩ ab S)
def zMJ{x:Lh}{ev:σ}{Q:π->η->ν->Prop}(hQ:nR Q)(h:PM w B z s ev dv wv gr gh ons hvs D)(hl:LnC w gl o x bv)(hf:DFr a z lv i gl o xa hv x.op)(hs:A s.e<1000)(hB:B<=w.heap.size)(ac:gl<B)(u:XT w D hv (s.aM x.a))(ae:xa=s.val x.a)(ad:(s.aM x.a).length+A s.way<10000000000000)(hK:wO w B z lv i (s.put [J.wE x (s.val x.a) U (s.aM x.a++s.way)]) N):
  bC ξ ((aS f75).drop 0) (Exit.then N Q) a w:=by
 have K:=aD u;subst ae;have c3:=h.blk.cell (i:=3) (v:=wv) Z;clear u;obtain⟨⟨sz,df,s0,s1,s4⟩,s5,s6,s7,E⟩:=hf;have H:=aD h;have HL:=aD hl;have W:=aD hK;clear h hl hK;rw[eH sz df];simp only[x5,List.range.loop,x6,x7,s0,s1,s4,s5,s6,s7,E];generalize gA a=f;clear s0 s1 s4 s5 s6 s7 E sz df;refine aH Z (λag m=>?_);go_wp2_with(first|(go_at_call 76;refine(BS hv wv (s.aM x.a) s.way _ (K.of (λ_ _ e=>e.elim)) (H.wr.of (λ_ _ e=>e.elim)) ad).mono ?_;rintro e w1 ⟨af,rfl,b,c,t⟩;obtain⟨oa,on,oc,rfl⟩:∃oa on oc,af=Value.slice oa on oc:=(by obtain⟨y1,y2,y3⟩:=nP b;exact⟨y1,_,y2,y3⟩);have q:=aD (b.pE (D:=D) (λy hy=>H.low y hy) c);have d:=aD t;clear b c t));apply m.o;have r:=aD (H.X d);have p:=aD (HL.x (JX.of (P:=λ_=>False) d) (λe=>e));have aa:B<=w1.heap.size:=x8 hB d.size;have HS:=aD (SC.of r p);clear c3;refine aH Z (λK1 L=>?_);refine Pop.aV (S:=SC z gl o ev wv s.round x) (by kernel_rfl) _ Z (by kernel_rfl) HS (λj=>?_);simp only[xi,xj,xg,xk,xR,Pop.uO]
 iterate 20
  refine Pop.tk Z (by kernel_rfl) (λ_ _ _ h=>hQ _ _ _ _ _ h) Z (λw ab=>by dsimp only[SC]at ab;go_simp;with_reducible rfl) j ?_;simp only[x9,xc,xd,xe,xR]
 refine Pop.cT Z (by kernel_rfl) Z ?_;go_simp;refine EQ r p ac aa hs [J.wE x (s.val x.a) U (s.aM x.a++s.way)] [G oa on oc] Z (by simp) (by simp) (by simpa using q.cT) (λi hi=>?_) Z Z Z (by kernel_rfl) ⟨Z,Z,Z⟩ ⟨Z,Z,Z⟩ ⟨Z,Z,Z⟩ ⟨Z,Z,Z⟩ Z (by decide) Z Z Z (λg ah w5 D' _ hP hX=>?_)
 ·simp at hi;subst hi;exact q
 ·apply L;show N _ _;exact W _ _ _ _ _ _ _ _ _ _ ⟨Z,Z,Z,Z,Z⟩ hP ((JX.of d).trans hX (λ_ _ e=>e))
