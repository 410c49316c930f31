import Derived.Test.YteekngiepnnmjaaGreatDoorV23
set_option linter.all false
set_option maxHeartbeats 0
namespace Go.Proofs.YteekngiepnnmjaaGreatDoor
open Go Go.RowKit Go.Proofs.Tryz P Q R
open scoped Classical
set_option maxRecDepth 1000000
open _root_ renaming List->S,List->σ,Nat->K,Nat->ω,Int->H,Int->ξ,absurd->τ
open Go renaming Value->d,Value->ν,World->A,World->ι,bodyPost->ρ,Code->m,wp_block->η,Act->ζ,Func->f,wp_cond_true->γ,Exit->ε,Calls->κ
open Go.Proofs.Tryz renaming prog->ψ
open Go.RowKit renaming Below->φ,intOf->θ
variable {W w w' w0 w2:ι}{B B0 bt g ge gh gl gr i j k n o z:ω}{bv dv hv lv rv u v wv:ν}{s:J.PS}{hvs ons:σ ν}{D:ω->Prop}{a:ζ}{N:ζ->ι->Prop}{xa:ξ}{b l:σ Tree}{F:σ ω}{r:σ ξ}{Is:σ (ω × ω × ω)}{R0:Ending->ι->Prop}{es:σ J.E}
open List renaming length->V
open Option renaming none->Y,some->I
open Go.Value renaming slice->C,int->G
open Go.IntKind renaming i64->O
open Bool renaming false->U,true->T
open Go.Obj renaming cells->M
open List renaming range->xF,map_cons->x5,map_nil->x6,set_cons_succ->xb,dropLast_cons_cons->xd,dropLast_singleton->xe,length_cons->xg,length_nil->xh,setIfInBounds_toArray->xj,set_cons_zero->xk,mem_cons_of_mem->xq,length_append->xt,drop_eq_getElem_cons->xu,take_succ_eq_append_getElem->xv,set_append_right->xw,mem_of_getElem?->xx
open Or renaming inr->xR,inl->xW
open Nat renaming reduceAdd->x7,lt_of_lt_of_le->x8,le_trans->x9,pow_le_pow_right->xl
open Go.RowKit.Below renaming refl->xc,heap_setCell->xz
open Go.Act renaming put->xi
open Go.Value renaming ownBlock->xm
open Bool renaming or_eq_true->xn,or_eq_false_iff->xo,false_eq_true->xp
open Go.World renaming ownsRow_nil->xr
open Go.Instr renaming makeSlice->xs
open _root_.Array renaming getElem?_modify->xy
def zNV{E:ν}{A:σ ξ}{v:ξ}{x:Lh}{ev:ν}{Q:ε->ζ->ι->Prop}(hQ:nR Q)(h:PM w B z s ev dv wv gr gh ons hvs D)(hl:LnC w gl o x bv)(hf:DTr a z lv i gl o v E)(q:XT w D E A)(ad:gl<B)(r0:0<=x.VX)(r1:x.VX<4)(hh:V s.hang=4)(hK:wO w B z lv i (s.aO x.VX v A) N):
  bC ψ ((aT f75).drop 7) (Exit.then N Q) a w:=by
 obtain⟨⟨sz,df,s0,s1,s4⟩,s5,J,K⟩:=hf;obtain⟨oa,on,oc,rfl⟩:=q.form;have L:=aD (SG.of h hl);have m:x.VX.toNat<4:=by omega
 have q1:=h.yQ m;have q2:=h.sD m;have fr:=h.rb.free x.VX.toNat;have fh:=h.hb.free x.VX.toNat;have H:=aD h;have HK:=aD hK;have ac:=aD q;have HL:=aD hl;have lr:=h.rb.lt;clear h hK hl q;rw[eH sz df];simp only[xF,List.range.loop,x5,x6,s0,s1,s4,s5,J,K];generalize gA a=f;clear s0 s1 s4 s5 sz df J K;refine aH Z (λK1 d=>?_);refine Pop.aV (S:=SG z gl o gr gh x) (by kernel_rfl) _ Z (by kernel_rfl) L (λc=>?_);simp only[xd,xe,xg,xh,x7,Pop.uO]
 iterate 10
  refine Pop.tk Z (by kernel_rfl) (λ_ _ _ h=>hQ _ _ _ _ _ h) Z (λw p=>by dsimp only[SG]at p;go_simp;with_reducible rfl) c ?_;simp only[xi,xj,xk,xb,x7]
 refine Pop.fin (by kernel_rfl) Z ?_;go_simp;apply d;have t:=aD ((H.VX x.VX.toNat v).X ((xc _ _).drew));have HX:aC (JX (λk=>B<=k) w (w.setCell ⟨gr,x.VX.toNat,Y⟩ (G O v)).drew):=(JX.set (P:=λk=>B<=k) (JX.refl _ _) (xW H.bg) _ _).X ((xc _ _).drew);have aa:=aD (HL.x HX (by omega));have ab:=aD (ac.x ((JX.set (P:=λk=>k=gr) (JX.refl _ _) (xW Z) x.VX.toNat (G O v)).X ((xc _ _).drew)) (λy _ e=>by rw[e];exact H.dr));clear d K1 c L fr lr q1 q2 fh;generalize(w.setCell ⟨gr,x.VX.toNat,Y⟩ (G O v)).drew=W at*;have L:=aD (SG.of t aa);refine aH Z (λK1 d=>?_);refine Pop.aV (S:=SG z gl o gr gh x) (by kernel_rfl) _ Z (by kernel_rfl) L (λc=>?_);simp only[xd,xe,xg,xh,x7,Pop.uO]
 iterate 10
  refine Pop.tk Z (by kernel_rfl) (λ_ _ _ h=>hQ _ _ _ _ _ h) Z (λw p=>by dsimp only[SG]at p;go_simp;with_reducible rfl) c ?_;simp only[xi,xj,xk,xb,x7]
 have q2:=t.sD m;have fh:=t.hb.free x.VX.toNat;have lh:=t.hb.lt;refine Pop.fin (by kernel_rfl) Z ?_;go_simp;apply d;show N _ _;exact HK _ _ _ _ _ _ _ _ _ _ ⟨Z,Z,Z,Z,Z⟩ ((t.hng x.VX.toNat m hh ab).X ((xc _ _).drew)) ((HX.set (xW t.bh) _ _).X ((xc _ _).drew))
theorem J.PS.zW{x:Lh}{c:ω}(h:J.NE x c)(d:x.op.toList=J.oSet):s.step x=s.aO x.VX (J.nv c (s.val x.a) (s.val x.b)) (if c=3 then s.aM x.a else s.aM x.a++s.aM x.b):=by
 obtain⟨f,m,p,q,t,y⟩:=J.lT h;have e:s.step x=s.set x:=by unfold J.PS.step;rw[d];rfl
 grind [J.PS.set,J.nv]
def zOJ{x:Lh}{ev:ν}{Q:ε->ζ->ι->Prop}(hQ:nR Q)(h:PM w B z s ev dv wv gr gh ons hvs D)(t:LnC w gl o x bv)(hf:DFr a z lv i gl o xa hv x.op)(p:gl<B)(q:XT w D hv (s.aM x.a))(f:xa=s.val x.a)(y:J.Fit x)(A:J.Bnd n s)(hn:n<42)(d:x.op.toList=J.oSet)(hK:wO w B z lv i (s.step x) N):bC ψ ((aT f75).drop 0) (Exit.then N Q) a w:=by
 obtain⟨c,E⟩:=J.AN x;refine zNU h t hf q f y A hn E λa1 w1 aa H L m=>?_;refine zNV hQ (h.X m) (t.x (JX.of (P:=λ_=>False) m) λe=>e) H L p (y.r (xR (xR (xR d)))).1 (y.r (xR (xR (xR d)))).2 A.hl λa2 w2 _ _ _ _ _ _ _ _ K S x2=>hK _ _ _ _ _ _ _ _ _ _ K (by rw[J.PS.zW E d,<- f];exact S) ((JX.of m).trans x2 λ_ _ e=>e)
def KV(w:A)(B z:K)(s:J.PS)(e:Ending)(w':A):Prop:=∃(v ev dv wv:d) (gr gh:K) (ons hvs:S d) (D:K->Prop),e=.returned v/\PM w' B z s ev dv wv gr gh ons hvs D/\JX (λk=>B<=k) w w'
theorem zPt{x:Lh}{ev:ν}{Q:ε->ζ->ι->Prop}(h:PM w B z s ev dv wv gr gh ons hvs D)(hl:LnC w gl o x bv)(hf:DFr a z lv i gl o xa hv x.op)(aF:gl<B)(ad:XT w D hv (s.aM x.a))(af:xa=s.val x.a)(hb:J.Bnd n s)(hn:n<42)(hc:∀(t:ι) (am al aw:ν) (ao an:ω) (ag ae:σ ν) (D1:ω->Prop),PM t B z (s.cM x) am al aw ao an ag ae D1->JX (λk=>B<=k) w t->κ ψ 75 #[.pointer (I ⟨z,0,Y⟩),bv] t λe w'=>KV t B z (J.doL (s.cM x) b) e w')(hK:wO w B z lv i (if s.val x.a==0 then s.cM x else J.doL (s.cM x) b) N):bC ψ ((aI f75).drop 0) (Exit.then N Q) a w:=by
 have hp:2^n<=2^42:=xl (by omega) (by omega);have ap:=hb.aM x.a;have ar:=hb.wy;have aq:V s.way+(s.aM x.a).length<10000000000000:=by omega
 obtain⟨⟨sz,df,s0,s1,s4⟩,s5,s6,s7,ah⟩:=hf;have ai:=aD ad;have H:=aD h;have HL:=aD hl;have HK:=aD hK;have HC:=aD hc;have aa:=aD af;have c3:=h.blk.cell (i:=3) (v:=wv) Z;have f3:=h.blk.free 3;have lz:=h.blk.lt;clear h hl ad hK hc af hb hp ap ar;rw[eH sz df];simp only[xF,List.range.loop,x5,x6,s0,s1,s4,s5,s6,s7,ah];generalize gA a=f;clear s0 s1 s4 s5 s6 s7 ah sz df;refine aH Z λq c=>?_;go_wp2_with(first|(go_at_call 76;refine(BS wv hv s.way (s.aM x.a) _ (H.wr.of λ_ _ e=>e.elim) (ai.of λ_ _ e=>e.elim) aq).mono ?_;rintro e t ⟨av,rfl,d,p,m⟩;obtain⟨E,on,K,rfl⟩:∃E on K,av=Value.slice E on K:=(by obtain⟨y1,y2,y3⟩:=nP d;exact⟨y1,_,y2,y3⟩);have S:=aD (d.pE (D:=D) (λy hy=>H.low y hy) p);have A:=aD m;have d3:=cK m lz c3;have g3:=fK m lz f3;have au:z<t.heap.size:=x8 lz m.size;clear d p m));apply c.o;have HP:aC (PM (t.setCell ⟨z,3,Y⟩ (C E on K)) B z (s.cM x) ev dv (C E on K) gr gh ons hvs D):=(H.X A).wy S;have HX:aC (JX (λk=>B<=k) w (t.setCell ⟨z,3,Y⟩ (C E on K))):=(JX.of A).set (xW H.bz) _ _;have L:=aD (HL.x HX (by omega));clear d3 g3 au c3 f3 lz S A;generalize t.setCell ⟨z,3,Y⟩ (C E on K)=W at*;have q8:=L.body;have aG:=L.lt
 cases hq:xa==0 with
 |true =>
  have pn:(xa != 0)=U:=by grind
  have HQ:=aD hq;clear hq;refine aH Z λq c=>?_;go_wp2;apply c.o;refine aH Z λq c=>?_;go_wp2;apply c.o;show N _ _;exact HK _ _ _ _ _ _ _ _ _ _ ⟨Z,Z,Z,Z,Z⟩ (by rw[<- aa.o,HQ.o];exact HP) HX
 |false =>
  have pn:(xa != 0)=T:=by grind
  have HQ:=aD hq;clear hq;refine aH Z λq c=>?_;go_wp2;apply c.o;refine aH Z λq c=>?_;go_wp2_with(first|(go_at_call 75;refine(HC _ _ _ _ _ _ _ _ _ HP HX).mono ?_;rintro e w2 ⟨v2,aA,az,aJ,aE,aB,ay,ax,D2,rfl,ab,ac⟩;have aj:=aD ab;have ak:=aD (HX.trans ac λ_ _ e=>e);clear ab ac));apply c.o;show N _ _;exact HK _ _ _ _ _ _ _ _ _ _ ⟨Z,Z,Z,Z,Z⟩ (by rw[<- aa.o,HQ.o];exact aj) ak
def GE{P:Program}:∀(l:S m) {Q1 c:ε->ζ->A->Prop} {a:ζ} {w:A},(∀e a w,Q1 e a w->c e a w)->bC P l Q1 a w->bC P l c a w
 |[],_,_,_,_,hq,h=>hq _ _ _ h
 |_::r,_,_,_,_,hq,h=>wp_mono h (λe _ _ d=>by cases e<;>first|exact GE r hq d|exact hq _ _ _ d)
def TW{P:Program}{l:S m}{K:ζ->A->Prop}{Q:ε->ζ->A->Prop}(d:∀a w,N a w->K a w)(h:bC P l (Exit.then N Q) a w):bC P l (Exit.then K (Exit.then N Q)) a w :=
 GE l (λe a w c=>by cases e<;>first|exact d _ _ c|exact c) h
section
variable {w:ι}{z i gl o:ω}{lv hv:ν}{xa:ξ}{op:ByteArray}{a:ζ}{N:ζ->ι->Prop}{Q:ε->ζ->ι->Prop}{t:Bool}
def KM(e x y:S m)(l:S UInt8):Prop:=∀{w:A} {z i gl o:K} {lv hv:d} {xa:H} {op:ByteArray} {a:ζ} {N:ζ->A->Prop} {Q:ε->ζ->A->Prop} {t:Bool},DFr a z lv i gl o xa hv op->(op.toList==l)=t->(t=T->∀a',DFr a' z lv i gl o xa hv op->bC ψ x (Exit.then N Q) a' w)->(t=U->∀a',DFr a' z lv i gl o xa hv op->bC ψ y (Exit.then N Q) a' w)->bC ψ e (Exit.then N Q) a w
def MJ:KM ((e1 f75).drop 0) ((aS f75).drop 0) ((e2 f75).drop 0) [115,116,111,114,101]/\KM ((e2 f75).drop 0) ((aF f75).drop 0) ((e3 f75).drop 0) [102,101,110,99,101]/\KM ((e3 f75).drop 0) ((aB f75).drop 0) ((e4 f75).drop 0) [98,97,114,114,105,101,114]/\KM ((e4 f75).drop 0) ((aT f75).drop 0) ((e5 f75).drop 0) [115,101,116]:=by
 refine⟨?_,?_,?_,?_⟩
 all_goals
  intro w z i gl o lv hv xa op a N Q t hf p m q;obtain⟨⟨L,e,x,y,A⟩,E,H,J,d⟩:=hf;have S:=aD m;have X:=aD q;clear m q;rw[eH L e];simp only[xF,List.range.loop,x5,x6,x,y,A,E,H,J,d];generalize gA a=f;clear x y A E H J d L e
  first|refine lH 0 L1 Z λK c=>?_|refine lH 0 e2_len Z λK c=>?_|refine lH 0 e3_len Z λK c=>?_|refine lH 0 e4_len Z λK c=>?_
  conv=>arg 2;whnf
  go_wp2_with fail;apply c.o;clear c
  first|refine lH 1 L1 Z λK c=>?_|refine lH 1 e2_len Z λK c=>?_|refine lH 1 e3_len Z λK c=>?_|refine lH 1 e4_len Z λK c=>?_
  conv=>arg 2;whnf
  cases t with
  |true=>exact γ (by first|rfl|(simp only[p];rfl)) (fU _ _ _ _ (TW (λ_ _ h=>c.o _ _ h) (S.o Z _ ⟨⟨Z,Z,Z,Z,Z⟩,Z,Z,Z,Z⟩)))
  |false=>exact wp_cond_false (by first|rfl|(simp only[p];rfl)) (fU _ _ _ _ (TW (λ_ _ h=>c.o _ _ h) (X.o Z _ ⟨⟨Z,Z,Z,Z,Z⟩,Z,Z,Z,Z⟩)))
def sw5(hf:DFr a z lv i gl o xa hv op)(p:(op.toList==[105,102])=t)(q:t=T->∀a',DFr a' z lv i gl o xa hv op->bC ψ ((aI f75).drop 0) (Exit.then N Q) a' w)(x:t=T):bC ψ ((e5 f75).drop 0) (Exit.then N Q) a w:=by
 obtain⟨⟨L,m,y,A,E⟩,H,J,K,d⟩:=hf;have S:=aD q;have X:=aD x;clear q x;rw[eH L m];simp only[xF,List.range.loop,x5,x6,y,A,E,H,J,K,d];generalize gA a=f;clear y A E H J K d L m;refine aH Z λaa c=>?_;go_wp2;apply c.o;refine aH Z λK2 e=>?_
 cases t with
 |true =>
  refine γ (by first|rfl|(simp only[p];rfl)) (fU _ _ _ _ (TW (λ_ _ h=>e.o _ _ h) ?_));exact S.o Z _ ⟨⟨Z,Z,Z,Z,Z⟩,Z,Z,Z,Z⟩
 |false =>
  exact τ X.o (by decide)
def sw0(hf:DFr a z lv i gl o xa hv op){J K L:Bool}(p1:(op.toList==[108,111,97,100])=J)(p2:(op.toList==[97,100,100])=K)(p3:(op.toList==[115,119,97,112])=L)(ht:(J||(K||L))=t)(X:t=T->∀a',DFr a' z lv i gl o xa hv op->bC ψ ((aR f75).drop 0) (Exit.then (Q .normal) Q) a' w)(h2:t=U->∀a',DFr a' z lv i gl o xa hv op->bC ψ ((e1 f75).drop 0) (Exit.then (Q .normal) Q) a' w):bC ψ ((dS f75).drop 0) Q a w:=by
 obtain⟨⟨sz,S,s0,s1,s4⟩,s5,s6,s7,y⟩:=hf;have H1:=aD X;have H2:=aD h2;have HT:=aD ht;clear X h2 ht;rw[eH sz S];simp only[xF,List.range.loop,x5,x6,s0,s1,s4,s5,s6,s7,y];generalize gA a=f;clear s0 s1 s4 s5 s6 s7 y sz S;have x:∀(A:ζ),gA A 38=.bool t->DFr A z lv i gl o xa hv op->bC ψ ((dS f75).drop 2) Q A w:=λA m q=>by
  refine aH Z λK2 d=>?_
  cases t with
  |true =>
   refine γ (by exact m) (fU _ _ _ _ (GE _ (λe a w p=>?_) (H1.o Z _ q)))
   cases e<;>first|exact d.o _ _ p|exact p
  |false =>
   refine wp_cond_false (by exact m) (fU _ _ _ _ (GE _ (λe a w p=>?_) (H2.o Z _ q)))
   cases e<;>first|exact d.o _ _ p|exact p
 have E:=aD x;clear x;cases J
 case' false=>cases K
 all_goals
  refine aH Z λH c=>?_;go_wp2;apply c.o;refine aH Z λH c=>?_;go_wp2;apply c.o;exact E.o _ (by rw[<- HT.o];rfl) ⟨⟨Z,Z,Z,Z,Z⟩,Z,Z,Z,Z⟩
end
def zMI{x:Lh}{ev:ν}{Q:ε->ζ->ι->Prop}(hQ:nR Q)(h:PM w B z s ev dv wv gr gh ons hvs D)(t:LnC w gl o x bv)(hf:DFr a z lv i gl o xa hv x.op)(hs:V s.e<1000)(hB:B<=w.heap.size)(q:gl<B)(A:wO w B z lv i (s.put [J.fE x]) N):
  bC ψ ((aF f75).drop 0) (Exit.then N Q) a w:=by
 have HS:=aD (SC.of h t);obtain⟨⟨sz,y,K,L,X⟩,s5,s6,s7,d⟩:=hf;have H:=aD h;have HL:=aD t;have HK:=aD A;clear h t A;rw[eH sz y];simp only[xF,List.range.loop,x5,x6,K,L,X,s5,s6,s7,d];generalize gA a=f;clear K L X s5 s6 s7 d sz y;refine aH Z (λK1 m=>?_);refine Pop.aV (S:=SC z gl o ev wv s.round x) (by kernel_rfl) _ Z (by kernel_rfl) HS (λc=>?_);simp only[xd,xe,xg,xh,x7,Pop.uO]
 iterate 14
  refine Pop.tk Z (by kernel_rfl) (λ_ _ _ h=>hQ _ _ _ _ _ h) Z (λw p=>by dsimp only[SC]at p;go_simp;with_reducible rfl) c ?_;simp only[xi,xj,xk,xb,x7]
 refine Pop.cT Z (by kernel_rfl) Z ?_;go_simp;refine EQ H HL q hB hs [J.fE x] [C Y 0 0] Z (by simp) (by simp) (by simp;rfl) (λi E=>?_) Z Z Z (by kernel_rfl) ⟨Z,Z,Z⟩ ⟨Z,Z,Z⟩ ⟨Z,Z,Z⟩ ⟨Z,Z,Z⟩ Z (by decide) Z Z Z (λg aa w5 D' _ hP hX=>?_)
 ·simp at E;subst E;exact XT.nil _ _
 ·apply m;show N _ _;exact HK _ _ _ _ _ _ _ _ _ _ ⟨Z,Z,Z,Z,Z⟩ hP hX
theorem J.zC{x:Lh}(h:x.op.toList=J.oIf):J.eV s ⟨x,b⟩=if s.val x.a==0 then s.cM x else J.doL (s.cM x) b:=by
 grind [J.eV]
theorem J.jO{x:Lh}(h:(x.op.toList==J.oIf)=U):J.eV s ⟨x,b⟩=s.step x:=by
 grind [J.eV]
def zNW{x:Lh}{ev:ν}{Q:ε->ζ->ι->Prop}(y:nR Q)(h:PM w B z s ev dv wv gr gh ons hvs D)(t:LnC w gl o x bv)(hf:DFr a z lv i gl o xa hv x.op)(d:gl<B)(X:B<=w.heap.size)(p:XT w D hv (s.aM x.a))(q:xa=s.val x.a)(hx:J.Fit x)(m:J.Bnd n s)(hn:n<42)(hc:x.op.toList=J.oIf->∀(w1:ι) (ab aa ag:ν) (ae ac:ω) (S L:σ ν) (D1:ω->Prop),PM w1 B z (s.cM x) ab aa ag ae ac S L D1->JX (λk=>B<=k) w w1->κ ψ 75 #[.pointer (I ⟨z,0,Y⟩),bv] w1 λe w'=>KV w1 B z (J.doL (s.cM x) b) e w')(f:wO w B z lv i (J.eV s ⟨x,b⟩) (Q .normal)):bC ψ ((dS f75).drop 0) Q a w:=by
 have ah:=m.e;have hp:2^n<=2^42:=xl (by omega) (by omega);have ai:=m.aM x.a;have aj:=m.wy;have hs:V s.e<1000:=by omega
 refine sw0 hf Z Z Z Z (λc a1 f1=>?_) λc a1 f1=>?_
 ·have af:∃half ad:Bool,x.op.toList=if half then(if ad then J.oAdd else J.oSwap)else J.oLoad:=by
   simp only[xn,beq_iff_eq]at c
   rcases c with e|e|e
   ·exact⟨U,U,e⟩
   ·exact⟨T,T,e⟩
   ·exact⟨T,U,e⟩
  obtain⟨half,ad,e⟩:=af;rw[J.jO (by rw[e];cases half<;>cases ad<;>rfl)]at f;exact zNT y h t f1 X d p q hx m hn m.rn e f
 refine MJ.1 f1 Z (λc a2 f2=>?_) λA a2 f2=>?_
 ·have e:x.op.toList=J.oStore:=eq_of_beq c;rw[J.jO (by rw[e];rfl),show s.step x=s.put [J.wE x (s.val x.a) U (s.aM x.a++s.way)]by unfold J.PS.step;rw[e];rfl]at f;exact zMJ y h t f2 hs X d p q (by omega) f
 refine MJ.2.1 f2 Z (λc a3 f3=>?_) λE a3 f3=>?_
 ·have e:x.op.toList=J.oFence:=eq_of_beq c;rw[J.jO (by rw[e];rfl),show s.step x=s.put [J.fE x]by unfold J.PS.step;rw[e];rfl]at f;exact zMI y h t f3 hs X d f
 refine MJ.2.2.1 f3 Z (λc a4 f4=>?_) λH a4 f4=>?_
 ·have e:x.op.toList=J.oBar:=eq_of_beq c;rw[J.jO (by rw[e];rfl),show s.step x={s.put [J.aE s.round,J.lE s.round]with round:=s.round+1}by unfold J.PS.step;rw[e];rfl]at f;exact zOG y h t f4 hs X d ⟨m.r0,by have:=m.r1;omega⟩ f
 refine MJ.2.2.2 f4 Z (λc a5 f5=>?_) λK a5 f5=>?_
 ·have e:x.op.toList=J.oSet:=eq_of_beq c;rw[J.jO (by rw[e];rfl)]at f;exact zOJ y h t f5 d p q hx m hn e f
 have e:x.op.toList=J.oIf:=by
  simp only[xo,beq_eq_false_iff_ne]at c A E H K
  rcases hx.op with e|e|e|e|e|e|e|e
  ·exact τ e c.1
  ·exact τ e c.2.1
  ·exact τ e c.2.2
  ·exact τ e A
  ·exact τ e E
  ·exact τ e H
  ·exact τ e K
  ·exact e
 refine sw5 f5 Z (λc a6 f6=>?_) (by rw[e];rfl);rw[J.zC e]at f;exact zPt h t f6 d p q m hn (hc e) f
def dF1:(dF f75).getD 1 .skip=.block 0 (.loop (pT (gC ((dF f75).getD 1 .skip)))):=by kernel_rfl
def dL2:(dL f75).getD 2 .skip=.block 1 (gC ((dL f75).getD 2 .skip)):=by kernel_rfl
def dB3:(dB f75).getD 3 .skip=.block 2 (gC ((dB f75).getD 3 .skip)):=by kernel_rfl
def zOK(l:S Tree)(lv:d)(F:S K)(w0:A):Prop :=
 ∀(B z n:K) (s:J.PS) (w:A) (ev dv wv:d) (gr gh:K) (ons hvs:S d) (D:K->Prop),J.fitL l->n+(WV l).toNat<42->J.Bnd n s->(∀k∈F,k<B)->(∀k∈F,w.heap[k]?=w0.heap[k]?)->B<=w.heap.size->PM w B z s ev dv wv gr gh ons hvs D ->
  κ ψ 75 #[.pointer (I ⟨z,0,Y⟩),lv] w λe w'=>KV w B z (J.doL s l) e w'
def zPu(w:A)(B z:K)(s:J.PS)(lv:d)(l:S Tree)(a:ζ)(w':A):Prop :=
 ∃(k:K) (ev dv wv:d) (gr gh:K) (ons hvs:S d) (D:K->Prop),k<=V l/\DF0 a z lv k/\PM w' B z (J.doL s (l.take k)) ev dv wv gr gh ons hvs D/\JX (λk=>B<=k) w w'
theorem zOL(h:WX w0 B0 lv l F):zOK l lv F w0:=by
 induction h using WX.ind with
 | @row v l vs Fs ho hv hF hc hnd ih =>
 intro B z n s w ev dv wv gr gh ons hvs D ag hn hb au hk hB hP;have how:w.ownsRow B0 52 9 v (V l) (mB l vs):=bH ho λk e=>hk k (by simp[e]);have aT:∃a c,v=C a (V l) c/\(0<V l->∃b,a=I ⟨b,0,Y⟩/\b<B):=by
  rcases how.2 with⟨e,h0⟩|⟨k,c,bb,e,_⟩
  ·grind
  grind [xm]
 obtain⟨sa,sc,rfl,aS⟩:=aT;have HO:=aD how;have ap:=aD ih;have ah:=aD au;have aq:=aD hk;have HV:=aD hv;have HF:=aD hF;have ai:=aD ag;have ao:=aD hb;have ar:=aD hn;have ax:(V l:ξ)<=WV l:=MB l;have aV:V l<42:=by omega
 clear how ih au hk hv hF ag hb hn ho hc hnd;have HP:=aD hP;clear hP;go_in;refine fU _ _ _ _ ?_;show bC ψ ((dF f75).drop 0) _ _ w;refine aH Z λq p=>?_;go_wp2;apply p.o;refine lH 1 zOD Z λK8 aJ=>?_;rw[dF1];refine η (wp_loop (zPu w B z s (C sa (V l) sc) l) (λa _=>V l-(θ (gA a 4)).toNat) ⟨0,_,_,_,_,_,_,_,_,Nat.zero_le _,⟨Z,Z,Z,Z,Z⟩,by simpa[J.bW]using HP.o,JX.refl _ _⟩ λa w1 hL=>?_);obtain⟨k,ac,ab,af,ae,ad,A,y,D1,bl,hf,(S:aC _),(aa:aC _)⟩:=hL;refine fU _ _ _ _ ?_;show bC ψ ((dL f75).drop 0) _ a w1;have ay:V l-(θ (gA a 4)).toNat=V l-k:=by rw[hf.s4];simp[θ]
 rw[ay];clear ay;clear HP;obtain⟨sz,df,s0,s1,s4⟩:=hf;rw[eH sz df];simp only[xF,List.range.loop,x5,x6,s0,s1,s4];generalize gA a=f;clear s0 s1 s4 sz df;by_cases hlt:k<V l
 ·have aP:=lI hlt;obtain⟨b,rfl,aO⟩:=aS (by omega);have aw:k<V vs:=by rw[HV.o];exact hlt
  have aQ:k<V Fs:=by rw[HF.o];exact hlt
  have L:=WX.i HO Z HV k hlt vs[k] (by simp[aw]);have ak:aC (LnC w1 b (k*9) l[k].x vs[k]):=by
   have e:∀j,w1.cell? ⟨b,j,Y⟩=w.cell? ⟨b,j,Y⟩:=λj=>iF (aa.block b (by omega) (by omega))
   refine⟨(e _).trans (L 0 (by omega)),(e _).trans (L 1 (by omega)),(e _).trans (L 2 (by omega)),(e _).trans (L 3 (by omega)),(e _).trans (L 4 (by omega)),(e _).trans (L 5 (by omega)),(e _).trans (L 6 (by omega)),(e _).trans (L 7 (by omega)),(e _).trans (L 8 (by omega)),?_⟩;have:=aa.size;omega
  have H:=J.sE ai k hlt;have am:aC (∃m,J.Bnd m (J.doL s (l.take k))/\m+1+(WV l[k].body).toNat<42):=by
   have bo:=G6 l k hlt;have bp:=(gO (λ_=>T) (l.take k)).1;have bn:=(gO (λ_=>T) l[k].body).1;have bm:=ar.o;refine⟨_,J.fO (l.take k) s n ao (J.qW ai k),?_⟩
   grind [WV]
  obtain⟨m,(an:aC _),hm⟩:=am.o;have aB:aC (∀(w2:ι),JX (λk=>B<=k) w w2->∀(ac ab af:ν) (ae ad:ω) (A y:σ ν) (D1:ω->Prop),PM w2 B z ((J.doL s (l.take k)).cM l[k].x) ac ab af ae ad A y D1->κ ψ 75 #[.pointer (I ⟨z,0,Y⟩),vs[k]] w2 λe w'=>KV w2 B z (J.doL ((J.doL s (l.take k)).cM l[k].x) l[k].body) e w'):=λw2 az ac ab af ae ad A y D1 aR=>by
   have K:∀j∈Fs[k],j∈(VV b (V l) sc).ownBlock.toList++Fs.flatten:=λj hj=>by
    grind [List.mem_flatten]
   refine ap k l[k] vs[k] Fs[k] (by simp[hlt]) (by simp[aw]) (by simp[aQ]) B z (m+1) _ w2 _ _ _ _ _ _ _ _ H.2 hm an.cM (λj hj=>ah j (K j hj)) (λj hj=>?_) (x9 hB az.size) aR;have h1:=ah.o j (K j hj);rw[az.block j (by omega) (by omega)];exact aq j (K j hj)
  have aK:aC (J.doL s (l.take (k+1))=J.eV (J.doL s (l.take k)) l[k]):=J.sF s l k hlt;have aE:=aD H.1;have q3:=ak.a;have lb:b<w1.heap.size:=ak.lt;have a0:=H.1.a0;have a1:=H.1.a1;clear H L am ap aq ah ai ao ar HO;generalize J.doL s (l.take k)=s1 at*;generalize aU:l[k]=t at*;obtain⟨x,bd⟩:=t;simp only at*;generalize vs[k]=bv at*;clear aU ax;refine aH Z λq p=>?_;go_wp2;apply p.o;refine aH Z λq p=>?_;go_wp2;apply p.o;refine lH 2 zOE Z λK2 aG=>?_;rw[dL2];refine η (fU _ _ _ _ ?_);show bC ψ ((dB f75).drop 0) _ _ w1;refine aH Z λq p=>?_;go_wp2;apply p.o;refine aH Z λq p=>?_;go_wp2_with(first|(go_at_call 117;refine(Lw _ B z s1 ac ab af ae ad A y D1 S x.a a0 (by omega)).mono ?_;rintro e w2 ⟨bq,rfl,av,E⟩;have aF:=aD (av.x (JX.of (P:=λ_=>False) E) λ_ _ e=>e.elim);have aL:=aD (S.X E);have al:=aD (aa.X E);have aj:=aD (ak.x (JX.of (P:=λ_=>False) E) λe=>e);clear av E));apply p.o;have q0:=aj.op;have br:b<w2.heap.size:=aj.lt;refine aH Z λq p=>?_;go_wp2;apply p.o;refine lH 3 zOF Z λK3 aI=>?_;rw[dB3];refine η (fU _ _ _ _ ?_);show bC ψ ((dS f75).drop 0) _ _ w2;refine zNW (n:=m) (b:=bd) (λ_ _ d _ _ h=>by cases d<;>exact h) aL aj ⟨⟨Z,Z,Z,Z,Z⟩,Z,Z,Z,Z⟩ aO (x9 hB al.size) aF Z aE an (by omega) (λ_ w3 bf bc bs bj bh aY aW D3 h3 x3=>aB w3 (al.trans x3 λ_ _ e=>e) _ _ _ _ _ _ _ _ h3) λa4 w4 bg be bu bk bi aZ aX D4 f4 h4 x4=>?_;refine aI _ _ (aG _ _ ?_);have aM:=aD h4;have aN:=aD (al.trans x4 λ_ _ e=>e);clear h4 x4;obtain⟨sz,df,s0,aA,s4⟩:=f4;rw[eH sz df];simp only[xF,List.range.loop,x5,x6,s0,aA,s4];generalize gA a4=g;clear s0 aA s4 sz df;refine aH Z λq p=>?_;go_wp2;apply p.o;refine⟨⟨k+1,_,_,_,_,_,_,_,_,hlt,⟨Z,Z,Z,Z,Z⟩,by rw[aK.o];exact aM,aN⟩,?_⟩;show V l-((k:ξ)+1).toNat<V l-k;omega
 ·have hk:k=V l:=by omega
  have aP:¬(k:ξ)<V l:=by omega
  have HE:aC (J.doL s (l.take k)=J.doL s l):=by grind [aC]
  rw[HE.o]at S;have ba:=aD hk;clear hk;refine aH Z λq p=>?_;go_wp2;apply p.o;refine aH Z λq _=>?_;go_wp2;apply aJ;refine bodyPost_end (results_none Z _ _ _) Z ?_;exact⟨_,_,_,_,_,_,_,_,_,Z,S,aa⟩
namespace J
def PS.aY(r:σ ξ):PS:=⟨[],[0,0,0,0],[[],[],[],[]],[],r,U,0⟩
def PS.kO(s:PS):Pth:=⟨s.e,s.g⟩
def paths(l:S Tree):K->S H->S Pth
 |0,r=>[(doL (PS.aY r) l).kO]
 |n+1,r=>if(doL (PS.aY r) l).short then(xF 4).flatMap λ(v:K)=>paths l n (r++[(v:H)])else[(doL (PS.aY r) l).kO]
theorem eF(h:∀v∈r,0<=v/\v<4)(c:V r<1000):Bnd 0 (PS.aY r):=by
 refine⟨by simp[PS.aY],by simp[PS.aY],by simp[PS.aY],Z,λi=>?_,Z,λi=>?_,by simp[PS.aY],h,c⟩
 ·grind [PS.aY]
 grind [PS.aY]
theorem GV{x:Lh}(h:isRd x=U)(s:PS):(s.step x).short=s.short/\(s.step x).D=s.D:=by
 simp only[isRd,xo]at h;unfold PS.step;rw[h.1,h.2.1,h.2.2];simp only[xp,if_false]
 split
 ·exact⟨Z,Z⟩
 split
 ·exact⟨Z,Z⟩
 split
 ·exact⟨Z,Z⟩
 split
 ·unfold PS.set;split
  ·exact⟨Z,Z⟩
  split
  ·exact⟨Z,Z⟩
  split
  ·exact⟨Z,Z⟩
  split<;>exact⟨Z,Z⟩
 ·exact⟨Z,Z⟩
theorem AW{x:Lh}(h:isRd x=T)(s:PS):(s.step x).short=s.take.short/\(s.step x).D=s.take.D:=by
 simp only[isRd,xn]at h;unfold PS.step
 split
 ·exact⟨Z,Z⟩
 split
 ·exact⟨Z,Z⟩
 split
 ·exact⟨Z,Z⟩
 grind
theorem iD(l:S Tree):∀(s:PS),s.short=U->WF isRd l<=V s.D->(doL s l).short=U/\(V s.D:H)<=(doL s l).D.length+WF isRd l:=by
 induction l using WF.induct with
 |case1=>intro s h _;rw[bW];exact⟨h,by rw[lD];omega⟩
 |case2 x b r h1 h2 =>
  intro s h c;rw[mZ]at c⊢;rw[nT];have p:=(gO isRd b).1;have q:=(gO isRd r).1;have f:(eV s ⟨x,b⟩).short=U/\(V s.D:H)<=(eV s ⟨x,b⟩).D.length+jP isRd ⟨x,b⟩:=by
   simp only[jP]at c⊢;unfold eV
   split
   ·split
    ·exact⟨h,by simp only[PS.cM];split<;>omega⟩
    ·obtain⟨d,e⟩:=h1 (s.cM x) h (by simp only[PS.cM];split at c<;>omega);refine⟨d,?_⟩;simp only[PS.cM]at e⊢
     split<;>omega
   ·cases hr:isRd x with
    |false =>
     grind [GV]
    |true =>
     rw[(AW hr s).1,(AW hr s).2];simp only[hr,if_true]at c⊢;have m:0<V s.D:=by omega
     refine⟨?_,?_⟩
     ·unfold PS.take
      grind
     grind [PS.take]
  obtain⟨d,e⟩:=h2 (eV s ⟨x,b⟩) f.1 (by omega);exact⟨d,by omega⟩
end J
structure PQ(w:ι)(lo hi z:ω)(p:J.Pth)(ve:ν)(gr:ω)(ons:σ ν):Prop where
 z0:lo<=z
 z1:z<hi
 h1:hi<=w.heap.size
 zt:∃u,Blk w z u 113/\u[0]?=I ve/\u[1]?=I (VV gr 4 4)
 eo:w.ownsRow lo 116 10 ve (V p.e) (XS p.e ons)
 el:∀b,ve.ownBlock=I b->b<hi
 ol:V ons=V p.e
 on:∀i,i<V p.e->XT w (λk=>k<lo\/hi<=k\/ve.ownBlock=I k) (ons.getD i (.bool U)) (J.ev p.e i).on
 rb:Blk w gr (WU p.g) 3
 rl:V p.g=4
 r0:lo<=gr
 r1:gr<hi
 e0:V p.e=0->ve=C Y 0 0
def PM.pq{ev:ν}(h:PM w B z s ev dv wv gr gh ons hvs D):PQ w B w.heap.size z s.kO ev gr ons :=
 ⟨h.bz,h.blk.lt,Nat.le_refl _,⟨_,h.blk,Z,Z⟩,h.eo,λb c=>(h.eo.lt b c).2,h.ol,λi d=>(h.on i d).of λx f e=>e.elim (h.bl x) λe=>e.elim λe=>by omega (h.de x),h.rb,h.rl,h.bg,h.rb.lt,h.e0⟩
section
variable {w w':ι}{lo hi z:ω}{p:J.Pth}{ve:ν}{gr:ω}{ons:σ ν}
def PQ.keep(h:PQ w lo hi z p ve gr ons)(d:∀k,lo<=k->k<hi->w'.heap[k]?=w.heap[k]?)(m:w.heap.size<=w'.heap.size):PQ w' lo hi z p ve gr ons:=by
 obtain⟨u,q,t⟩:=h.zt;refine⟨h.z0,h.z1,x9 h.h1 m,⟨u,q.keep (d z h.z0 h.z1),t⟩,bH h.eo λk e=>d k (h.eo.lt k e).1 (h.el k e),h.el,h.ol,λi c=>?_,h.rb.keep (d gr h.r0 h.r1),h.rl,h.r0,h.r1,h.e0⟩
 rcases h.on i c with e|⟨e,b,f,e1,e2,e3,e4⟩
 ·exact xW e
 ·have x:lo<=b:=by have:=λk=>e4 (xW k);omega
  have y:=λk=>e4 (xR (xW k))
  exact xR ⟨e,b,f,e1,λi c=>(iF (d b x (by omega))).trans (e2 i c),x8 e3 m,e4⟩
end
def jH(k:K)(Is:S (K×K×K)):Prop:=∃q∈Is,q.1<=k/\k<q.2.1
def PL(w:A):S (K×K×K)->S J.Pth->Prop
 |[],[]=>True
 |q::r,p::ps=>(∃ve gr ons,PQ w q.1 q.2.1 q.2.2 p ve gr ons)/\(∀x∈r,q.2.1<=x.1)/\PL w r ps
 |_,_=>False
def PL.len{w:ι}:∀{Is:σ (ω×ω×ω)} {ps:σ J.Pth},PL w Is ps->V Is=V ps
 |[],[],_=>Z
 |_::_,_::_,h=>by simp[PL.len h.2.2]
 |[],_::_,h=>h.elim
 |_::_,[],h=>h.elim
def PL.get{w:ι}:∀{Is:σ (ω×ω×ω)} {ps:σ J.Pth},PL w Is ps->∀(j:ω) (q:ω×ω×ω) (p:J.Pth),Is[j]?=I q->ps[j]?=I p->∃ve gr ons,PQ w q.1 q.2.1 q.2.2 p ve gr ons
 |[],[],_,j,q,p,h1,_=>by simp at h1
 |a::r,b::ps,h,j,q,p,h1,h2=>by
  cases j with
  |zero=>simp at h1 h2;subst h1 h2;exact h.1
  |succ j=>exact PL.get h.2.2 j q p (by simpa using h1) (by simpa using h2)
 |[],_::_,h,_,_,_,_,_=>h.elim
 |_::_,[],h,_,_,_,_,_=>h.elim
def PL.keep{w w':ι}:∀{Is:σ (ω×ω×ω)} {ps:σ J.Pth},PL w Is ps->(∀k,jH k Is->w'.heap[k]?=w.heap[k]?)->w.heap.size<=w'.heap.size->PL w' Is ps
 |[],[],_,_,_=>trivial
 |a::r,_::_,h,hk,hs=>by
  obtain⟨⟨x,gr,ons,c⟩,d,e⟩:=h;exact⟨⟨x,gr,ons,c.keep (λk f m=>hk k ⟨a,by simp,f,m⟩) hs⟩,d,PL.keep e (λk ⟨q,p,t⟩=>hk k ⟨q,xq _ p,t⟩) hs⟩
 |[],_::_,h,_,_=>h.elim
 |_::_,[],h,_,_=>h.elim
def PL.top{w:ι}:∀{Is:σ (ω×ω×ω)} {ps:σ J.Pth},PL w Is ps->∀q∈Is,q.2.1<=w.heap.size
 |[],[],_,q,h=>by simp at h
 |a::r,_::_,h,q,c=>by
  obtain⟨⟨m,gr,ons,d⟩,f,e⟩:=h
  rcases List.mem_cons.1 c with rfl|c
  ·exact d.h1
  ·exact PL.top e q c
 |[],_::_,h,_,_=>h.elim
 |_::_,[],h,_,_=>h.elim
def PL.sW{w:ι}:∀{Is c:σ (ω×ω×ω)} {ps d:σ J.Pth},PL w Is ps->PL w c d->(∀q∈Is,∀r∈c,q.2.1<=r.1)->PL w (Is++c) (ps++d)
 |[],_,[],_,_,k,_=>k
 |a::r,_,_::_,_,h,k,hq=>⟨h.1,λx e=>(List.mem_append.1 e).elim (h.2.1 x) (hq a (by simp) x),PL.sW h.2.2 k λq f=>hq q (xq _ f)⟩
 |[],_,_::_,_,h,_,_=>h.elim
 |_::_,_,[],_,h,_,_=>h.elim
theorem PL.lt{ps:σ J.Pth}(h:PL w Is ps)(c:jH k Is):k<w.heap.size:=by
 obtain⟨q,d,f,e⟩:=c;exact x8 e (h.top q d)
def hJ(q:K×K×K):d:=.pointer (I ⟨q.2.2,0,Y⟩)
def DA(w:A)(ps:S J.Pth)(e:Ending)(w':A):Prop:=∃v Is,e=.returned v/\w'.ownsRow w.heap.size 114 1 v (V ps) (Is.map hJ)/\PL w' Is ps/\(∀q∈Is,w.heap.size<=q.1)/\(∀b,v.ownBlock=I b->¬jH b Is)/\φ w.heap.size w w'
theorem J.fT(l:S Tree):∀(n:K) (r:S H),0<(J.paths l n r).length
 |0,r=>by simp[J.paths]
 |n+1,r=>by
  unfold J.paths
  split
  ·have:=J.fT l n (r++[0]);simp[List.flatMap,xF,List.range.loop];omega
  ·simp
theorem J.dH(l:S Tree):∀(n:K) (r:S H),(J.paths l n r).length<=4^n
 |0,r=>by simp[J.paths]
 |n+1,r=>by
  unfold J.paths
  split
  ·have c:=J.dH l n (r++[0]);have d:=J.dH l n (r++[1]);have e:=J.dH l n (r++[2]);have f:=J.dH l n (r++[3]);simp[List.flatMap,xF,List.range.loop,Nat.pow_succ];omega
  grind
theorem PM.new(E:Blk W z [C Y 0 0,VV gr 4 4,VV gh 4 4,C Y 0 0,rv,.bool U,G O 0] 113)(q:Blk W gr [G O 0,G O 0,G O 0,G O 0] 3)(t:Blk W gh [C Y 0 0,C Y 0 0,C Y 0 0,C Y 0 0] 37)(d:φ w.heap.size w W)(z0:w.heap.size<=z)(m:w.heap.size<=gr)(p:w.heap.size<=gh)(A:Aa w (λ_=>False) rv r):
  PM W w.heap.size z (J.PS.aY r) (C Y 0 0) rv (C Y 0 0) gr gh [] [C Y 0 0,C Y 0 0,C Y 0 0,C Y 0 0] (λx=>x<w.heap.size\/x=z\/x=gr\/x=gh):=by
 refine⟨E,xr _ _ _ _,Z,(λi f=>by simp[J.PS.aY]at f),q,Z,t,Z,λi f=>?_,XT.nil _ _,?_,z0,m,p,xR (xW Z),xR (xR (xW Z)),xR (xR (xR Z)),(λb e=>by cases e),?_,λx e=>xW e,λ_=>Z⟩
 ·have:i=0\/i=1\/i=2\/i=3:=by omega
  rcases this with rfl|rfl|rfl|rfl<;>exact XT.nil _ _
 ·rcases A with e|⟨b,o,c,e1,e2,e3,e4,_⟩
  ·exact xW e
  ·exact xR ⟨b,o,c,e1,e2,λj y=>cK d e4 (e3 j y),x8 e4 d.size,by omega⟩
 ·have:=d.size
  grind [Blk.lt]
def L4(l:S Tree)(lv:d)(F:S K)(w0:A)(bt o n:K):Prop :=
 ∀(r:S H) (w:A) (rv:d),(∀k∈F,w.heap[k]?=w0.heap[k]?)->w.cell? ⟨bt,o+1,Y⟩=I lv->bt<w.heap.size->Aa w (λ_=>False) rv r->XT w (λ_=>False) rv r->(∀v∈r,0<=v/\v<4)->WF J.isRd l<=n+V r->n+V r<=5 ->
  κ ψ 39 #[.pointer (I ⟨bt,o,Y⟩),rv] w λe w'=>DA w (J.paths l n r) e w'
theorem oE.VH{l:σ ξ}(h:oE w B v l):Aa w (λ_=>False) v l:=by
 have f:V l=0\/0<V l:=by omega
 rcases f with e|e
 ·obtain⟨a,c,e2⟩:=nP h;rw[e]at e2;exact xW ⟨List.eq_nil_of_length_eq_zero e,a,c,e2⟩
 ·rcases SlC.own h e with⟨_,e2,_⟩|⟨b,d,e1,e2,e3,e4,_⟩
  ·omega
  ·exact xR ⟨b,0,d,e1,e4,λj m=>by simp_all [Nat.zero_add,WU],e3,λe=>e⟩
def zJY:∀w,(xs 37 (G O 4) (G O 4)).run ψ w=.ok (VV w.heap.size 4 4) (w.alloc (M #[G O 0,G O 0,G O 0,G O 0] 3)):=λw=>by
 have:=run_make_row' 37 3 (G O 0) 8 underlying37 Tryz.XE rfl O O 4 (by omega) (by omega) w;rw[show madeCells #[Value.int O 0] 4=#[G O 0,G O 0,G O 0,G O 0]by kernel_rfl]at this;exact this
def Tryz.infoInts:(prog.info? 37).map (λi=>(i.zero,i.size,i.bytes))=I (I (C Y 0 0),1,24):=by kernel_rfl
def zJZ:∀w,(xs 23 (G O 4) (G O 4)).run ψ w=.ok (VV w.heap.size 4 4) (w.alloc (M #[C Y 0 0,C Y 0 0,C Y 0 0,C Y 0 0] 37)):=λw=>by
 have:=run_make_row' 23 37 (C Y 0 0) 24 underlying23 Tryz.infoInts rfl O O 4 (by omega) (by omega) w;rw[show madeCells #[Value.slice Y 0 0] 4=#[C Y 0 0,C Y 0 0,C Y 0 0,C Y 0 0]by kernel_rfl]at this;exact this
theorem three(w:A)(c e m:S ν)(d f p:TypeId):Blk (((w.alloc (M c.toArray d)).alloc (M e.toArray f)).alloc (M m.toArray p)).drew w.heap.size c d/\Blk (((w.alloc (M c.toArray d)).alloc (M e.toArray f)).alloc (M m.toArray p)).drew (w.heap.size+1) e f/\Blk (((w.alloc (M c.toArray d)).alloc (M e.toArray f)).alloc (M m.toArray p)).drew (w.heap.size+1+1) m p/\φ w.heap.size w (((w.alloc (M c.toArray d)).alloc (M e.toArray f)).alloc (M m.toArray p)).drew:=by
 have x:=Blk.new w c d;have q:=Blk.new (w.alloc (M c.toArray d)) e f;have t:=Blk.new ((w.alloc (M c.toArray d)).alloc (M e.toArray f)) m p;have e1:(w.alloc (M c.toArray d)).heap.size=w.heap.size+1:=by simp
 have e2:((w.alloc (M c.toArray d)).alloc (M e.toArray f)).heap.size=w.heap.size+1+1:=by simp
 rw[e1]at q;rw[e2]at t;exact⟨(x.alloc _).alloc _,q.alloc _,t,(((bB).alloc (by omega) _).alloc (by omega) _).drew⟩
def pF(d:f):S m:=eA (d.body.getD .skip)
def zOM:(pF f39).length=10:=by kernel_rfl
structure PFr(a:ζ)(bt o z:ω)(rv:ν):Prop where
 sz:a.tmps.size=43
 df:a.defers=[]
 s0:gA a 0=.pointer (I ⟨bt,o,Y⟩)
 s1:gA a 1=rv
 s5:gA a 5=.pointer (I ⟨z,0,Y⟩)
theorem L5(L:a.tmps.size=43)(t:a.defers=[])(H:gA a 0=.pointer (I ⟨bt,o,Y⟩))(K:gA a 1=rv)(p:Aa w (λ_=>False) rv r)(x:∀a' W z gr gh hvs D,PFr a' bt o z rv->PM W w.heap.size z (J.PS.aY r) (C Y 0 0) rv (C Y 0 0) gr gh [] hvs D->φ w.heap.size w W->bC ψ ((pF f39).drop 2) (ρ ψ f39 R0) a' W):
  bC ψ ((pF f39).drop 0) (ρ ψ f39 R0) a w:=by
 have HR:=aD p;obtain⟨y,E,A,rfl⟩:∃y E A,rv=C y E A:=by
  rcases p with⟨_,a,c,e⟩|⟨b,o,c,e,_⟩
  ·exact⟨_,_,_,e⟩
  ·exact⟨_,_,_,e⟩
 have X:=zJY;have aa:=zJZ;have q:=aD x;clear p x;rw[eH L t];simp only[xF,List.range.loop,x5,x6,H,K];generalize gA a=f;clear H K L t;refine aH Z λS m=>?_;go_wp2;apply m.o;refine aH Z λK1 d=>?_;go_region
 ·refine d _ _ (q _ _ (w.heap.size+1+1) w.heap.size (w.heap.size+1) _ _ ⟨Z,Z,Z,Z,Z⟩ (PM.new ?_ ?_ ?_ ?_ (by omega) (by omega) (by omega) HR) ?_)
  ·grind [three]
  ·grind [three]
  ·grind [three]
  all_goals exact(three w _ _ _ _ _ _).2.2.2
 ·refine d _ _ (q _ _ (w.heap.size+1+1) (w.heap.size+1) w.heap.size _ _ ⟨Z,Z,Z,Z,Z⟩ (PM.new ?_ ?_ ?_ ?_ (by omega) (by omega) (by omega) HR) ?_)
  ·grind [three]
  ·grind [three]
  ·grind [three]
  all_goals exact(three w _ _ _ _ _ _).2.2.2
theorem L6(K:WX w0 B0 lv l F)(y:J.fitL l)(ah:(WV l).toNat<42)(A:∀k∈F,w.heap[k]?=w0.heap[k]?)(hc:w.cell? ⟨bt,o+1,Y⟩=I lv)(m:bt<w.heap.size)(L:∀v∈r,0<=v/\v<4)(S:V r<1000)(hf:PFr a bt o z rv)(hP:PM W w.heap.size z (J.PS.aY r) (C Y 0 0) rv (C Y 0 0) gr gh [] hvs D)(q:φ w.heap.size w W)(hN:∀a' w2 ev dv wv gr gh ons hvs D,PFr a' bt o z rv->PM w2 w.heap.size z (J.doL (J.PS.aY r) l) ev dv wv gr gh ons hvs D->φ w.heap.size w w2->bC ψ ((pF f39).drop 3) (ρ ψ f39 R0) a' w2):
  bC ψ ((pF f39).drop 2) (ρ ψ f39 R0) a W:=by
 have p:∀k∈F,k<w.heap.size:=λk d=>by
  have h1:=(K.gV k d).2
  grind
 have HC:=aD (zOL K w.heap.size z 0 _ W _ _ _ _ _ _ _ _ y (by omega) (J.eF L S) p (λk d=>(q.block k (p k d)).trans (A k d)) q.size hP);have q1:=cK q m hc;have ai:bt<W.heap.size:=x8 m q.size;have HB:=aD q;have HN:=aD hN;clear hN q hP K A p hc m;obtain⟨sz,X,s0,s1,s5⟩:=hf;rw[eH sz X];simp only[xF,List.range.loop,x5,x6,s0,s1,s5];generalize gA a=f;clear s0 s1 s5 sz X;refine aH Z (λac t=>?_);go_wp2_with(first|(go_at_call 75;refine HC.mono ?_;rintro e w2 ⟨v2,ae,ad,aj,ag,af,ab,aa,D2,rfl,x,c⟩;have H:=aD x;have E:aC (φ w.heap.size w w2):=⟨c.os.trans HB.os,c.tape.trans HB.tape,c.output.trans HB.output,x9 HB.size c.size,λk A=>(c.block k (x8 A HB.size) (λe=>by omega)).trans (HB.block k A)⟩;clear x c));apply t.o;exact HN _ _ _ _ _ _ _ _ _ _ ⟨Z,Z,Z,Z,Z⟩ H E
theorem L7{ev:ν}(X:PFr a bt o z rv)(m:PM w2 w.heap.size z s ev dv wv gr gh ons hvs D)(A:φ w.heap.size w w2)(hs:s.short=U):
  bC ψ ((pF f39).drop 3) (ρ ψ f39 λe w'=>DA w [s.kO] e w') a w2:=by
 have S:=m.blk.cell (i:=5) (v:=.bool s.short) Z;rw[hs]at S;have lz:=m.blk.lt;have L:=aD m;have HB:=aD A;clear m A;obtain⟨K,y,E,H,J⟩:=X;rw[eH K y];simp only[xF,List.range.loop,x5,x6,E,H,J];generalize gA a=f;clear E H J K y;refine aH Z λp d=>?_;go_wp2;apply d.o;refine aH Z λp _=>?_;go_wp2;refine bodyPost_ret (results_tmp (t:=4) Z _ _ _) Z ?_;have hq:=L.pq;have c:φ w2.heap.size w2 (w2.alloc (M #[.pointer (I ⟨z,0,Y⟩)] 114)):=bB;refine⟨_,[(w.heap.size,w2.heap.size,z)],Z,?_,⟨⟨_,_,_,hq.keep (λk _ k2=>c.block k k2) c.size⟩,by simp,trivial⟩,by simp,λb x=>?_,HB.trans (c.mono HB.size)⟩
 ·exact World.ownsRow_lit w2 #[.pointer (I ⟨z,0,Y⟩)] 1 HB.size (by unfold maxLen;omega) Z
 ·cases x;rintro⟨q,q1,q2,q3⟩
  grind
def DD(w:A)(l:S Tree)(n:K)(r:S H)(ov:d)(k:K)(w':A):Prop:=∃Is,w'.ownsRow w.heap.size 114 1 ov ((xF k).flatMap λ(v:K)=>J.paths l n (r++[(v:H)])).length (Is.map hJ)/\PL w' Is ((xF k).flatMap λ(v:K)=>J.paths l n (r++[(v:H)]))/\(∀q∈Is,w.heap.size<=q.1)/\(∀b,ov.ownBlock=I b->¬jH b Is)/\φ w.heap.size w w'
def pL(d:f):S m:=eA (pT (gC ((pF d).getD 7 .skip)))
def pB(d:f):S m:=eA (gC ((pL d).getD 2 .skip))
def zOO:(pL f39).length=4:=by kernel_rfl
def pF7:(pF f39).getD 7 .skip=.block 0 (.loop (pT (gC ((pF f39).getD 7 .skip)))):=by kernel_rfl
def pL2:(pL f39).getD 2 .skip=.block 1 (gC ((pL f39).getD 2 .skip)):=by kernel_rfl
structure PGr(a:ζ)(bt o:ω)(rv ov:ν)(k:ω):Prop where
 sz:a.tmps.size=43
 df:a.defers=[]
 s0:gA a 0=.pointer (I ⟨bt,o,Y⟩)
 s1:gA a 1=rv
 s6:gA a 6=ov
 s7:gA a 7=G O (k:ξ)
theorem LB(l:S Tree)(n:K)(r:S H)(k:K):((xF (k+1)).flatMap λ(v:K)=>J.paths l n (r++[(v:H)]))=((xF k).flatMap λ(v:K)=>J.paths l n (r++[(v:H)]))++J.paths l n (r++[(k:H)]):=by
 grind [List.range_succ]
theorem L8(l:S Tree)(n:K)(r:S H):∀k,((xF k).flatMap λ(v:K)=>J.paths l n (r++[(v:H)])).length<=k*4^n
 |0=>by simp
 |k+1=>by
  have c:=L8 l n r k;have d:=J.dH l n (r++[(k:H)])
  grind [LB]
def Tryz.infoPp:(prog.info? 114).map (λi=>(i.zero,i.size,i.bytes))=I (I (.pointer Y),1,8):=by kernel_rfl
theorem L9{d:S (K×K×K)}(h:w.ownsRow B 114 1 v n (Is.map hJ))(k:w.ownsRow B 114 1 v n (d.map hJ)):Is.map hJ=d.map hJ:=by
 rcases Nat.eq_zero_or_pos n with rfl|p
 ·have m:=h.1;have q:=k.1
  grind
 ·rcases SlC.own h p with⟨_,e,_⟩|⟨b,c,e1,e2,_,_,e3,_⟩
  ·omega
  ·rcases SlC.own k p with⟨_,e,_⟩|⟨t,x,f,y,_,_,f3,_⟩
   ·omega
   ·rw[e1]at f;cases f;refine List.ext_getElem (by omega) λi m q=>?_;have A:=e2 i _ (List.getElem?_eq_getElem m)
    grind
theorem DD.next{y wa A w5:ι}{x v':ν}{g5 c5:ω}(h:DD w l n r x k y)(S:φ y.heap.size y wa)(hp:DA wa (J.paths l n (r++[(k:ξ)])) (.returned v') A)(hx:∀(Is E:σ (ω×ω×ω)),y.ownsRow w.heap.size 114 1 x ((xF k).flatMap λ(v:ω)=>J.paths l n (r++[(v:ξ)])).length (Is.map hJ)->A.ownsRow wa.heap.size 114 1 v' (J.paths l n (r++[(k:ξ)])).length (E.map hJ) ->
   w5.ownsRow w.heap.size 114 1 (VV g5 (((xF k).flatMap λ(v:ω)=>J.paths l n (r++[(v:ξ)])).length+(J.paths l n (r++[(k:ξ)])).length) c5) (((xF k).flatMap λ(v:ω)=>J.paths l n (r++[(v:ξ)])).length+(J.paths l n (r++[(k:ξ)])).length) (Is.map hJ++E.map hJ))(L:A.grownBy w5 x.ownBlock)(m:x.ownBlock=I g5\/g5=A.heap.size):
  DD w l n r (VV g5 ((xF (k+1)).flatMap λ(v:ω)=>J.paths l n (r++[(v:ξ)])).length c5) (k+1) w5:=by
 obtain⟨Is,h1,H,h3,h4,K⟩:=h;obtain⟨v2,E,e,p1,X,p3,p4,p5⟩:=hp;cases e;have s1:=S.size;have s2:=p5.size;have s3:=L.size;have bb:φ w.heap.size w A:=(K.trans (S.mono K.size)).trans (p5.mono (x9 K.size s1));have ob:∀b,x.ownBlock=I b->w.heap.size<=b/\b<y.heap.size:=λb p=>h1.lt b p
 refine⟨Is++E,?_,?_,λq f=>?_,λb p=>?_,rV bb L λb p=>(ob b p).1⟩
 ·grind [LB]
 ·rw[LB];refine PL.sW (H.keep (λj t=>?_) (by omega)) (X.keep (λj t=>?_) s3) λq f r hr=>?_
  ·have d:=H.lt t;rw[L.block j (by omega) λe=>h4 j e.symm t,p5.block j (by omega),S.block j d]
  ·have d:=X.lt t;obtain⟨q,c,q2,q3⟩:=t;have:=p3 q c;exact L.block j d λe=>by grind
  ·have:=H.top q f;have:=p3 r hr;omega
 ·rcases List.mem_append.1 f with f|f
  ·exact h3 q f
  ·have:=p3 q f;have:=K.size;omega
 ·have e0:g5=b:=Option.some.inj p;subst e0;rintro⟨q,c,q2,q3⟩
  rcases List.mem_append.1 c with c|c
  ·rcases m with e|e
   ·exact h4 _ e ⟨q,c,q2,q3⟩
   ·have:=H.top q c;omega
  ·rcases m with e|e
   ·grind
   ·have:=X.top q c;omega
theorem zNX{ev:ν}(hl:WX w0 B0 lv l F)(ih:L4 l lv F w0 bt o n)(hk:∀k∈F,w.heap[k]?=w0.heap[k]?)(hc:w.cell? ⟨bt,o+1,Y⟩=I lv)(ad:bt<w.heap.size)(hr:XT w (λ_=>False) rv r)(aG:∀v∈r,0<=v/\v<4)(am:WF J.isRd l<=n+1+V r)(aT:n+1+V r<=5)(hf:PFr a bt o z rv)(hP:PM w2 w.heap.size z s ev dv wv gr gh ons hvs D)(hb:φ w.heap.size w w2)(hs:s.short=T):
  bC ψ ((pF f39).drop 3) (ρ ψ f39 λe w'=>DA w ((xF 4).flatMap λ(v:ω)=>J.paths l n (r++[(v:ξ)])) e w') a w2:=by
 obtain⟨i0,hi,aI,aJ,aK⟩:=uV Tryz.infoPp;have H:=hP.blk.cell (i:=5) (v:=.bool s.short) Z;rw[hs]at H;have lz:=hP.blk.lt;have aj:∀k∈F,k<w.heap.size:=λk aB=>by
  have h1:=(hl.gV k aB).2
  grind
 have aU:4^n<=4^4:=xl (by omega) (by omega);have HB:=aD hb;have ap:aC (∀(k:ω) (w3:ι) (mv:ν),k<4->φ w.heap.size w w3->oE w3 w.heap.size mv (r++[(k:ξ)])->κ ψ 39 #[.pointer (I ⟨bt,o,Y⟩),mv] w3 λe w'=>DA w3 (J.paths l n (r++[(k:ξ)])) e w'):=λk w3 mv k4 b3 hm =>
  ih (r++[(k:ξ)]) w3 mv (λj hj=>(b3.block j (aj j hj)).trans (hk j hj)) (cK b3 ad hc) (x8 ad b3.size) hm.VH (hm.pE (λ_ e=>e.elim) λe=>by simp at e) λv hv=>by
   grind (by rw[xt];simp;omega) (by rw[xt];simp;omega)
 have HR:=aD hr;clear hP hb hk hc aj ih hl hr ad aG am;obtain⟨sz,df,s0,s1,s5⟩:=hf;rw[eH sz df];simp only[xF,List.range.loop,x5,x6,s0,s1,s5];generalize gA a=f;clear s0 s1 s5 sz df;refine aH Z λd c=>?_;go_wp2;apply c.o;refine aH Z λd c=>?_;go_wp2;apply c.o;refine aH Z λd c=>?_;go_wp2;apply c.o;refine aH Z λd c=>?_;go_wp2;apply c.o;refine lH 7 zOM Z λK8 au=>?_;rw[pF7];refine η (wp_loop (λa w'=>∃k ov,k<=4/\PGr a bt o rv ov k/\DD w l n r ov k w') (λa _=>4-(θ (gA a 7)).toNat) ⟨0,C Y 0 0,by omega,⟨Z,Z,Z,Z,Z,Z⟩,[],xr _ _ _ _,trivial,by simp,(λb hb=>by cases hb),HB⟩ λa p hL=>?_);obtain⟨k,ov,aP,hf,(S:aC _)⟩:=hL;refine fU _ _ _ _ ?_;show bC ψ ((pL f39).drop 0) _ a p;have al:4-(θ (gA a 7)).toNat=4-k:=by rw[hf.s7];simp[θ]
 rw[al];clear al H lz;obtain⟨sz,df,s0,s1,s6,s7⟩:=hf;rw[eH sz df];simp only[xF,List.range.loop,x5,x6,s0,s1,s6,s7];generalize gA a=g;clear s0 s1 s6 s7 sz df;have aV:V r<10:=by omega
 by_cases hk4:k<4
 ·have aO:(k:ξ)<4:=by omega
  refine aH Z λd c=>?_;go_wp2;apply c.o;refine aH Z λd c=>?_;go_wp2;apply c.o;refine lH 2 zOO Z λK2 ar=>?_;rw[pL2];refine η (fU _ _ _ _ ?_);show bC ψ ((pB f39).drop 0) _ _ p;have K:aC (φ p.heap.size p (p.alloc (M #[G O (k:ξ)] 3))):=bB;have y:aC (φ w.heap.size w p):=by obtain⟨_,_,_,_,_,h⟩:=S.o;exact h
  have ax:aC (XT (p.alloc (M #[G O (k:ξ)] 3)) (λ_=>False) (VV p.heap.size 1 1) [(k:ξ)]):=xR ⟨by simp,p.heap.size,1,Z,λi hi=>by simp at hi;subst hi;exact(Blk.new p [G O (k:ξ)] 3).cell Z,by simp,λe=>e⟩;have az:=aD (HR.x (JX.of (P:=λ_=>False) (y.trans (K.mono y.size))) λ_ _ e=>e);have aF:V r+[(k:ξ)].length<10000000000000:=by simp;omega
  refine aH Z λd c=>?_;go_wp2_with(first|(go_at_call 76;refine(BS rv (VV p.heap.size 1 1) r [(k:ξ)] _ az ax aF).mono ?_;rintro e wa ⟨mv,rfl,A,ae,ah⟩;have L:=aD (K.trans (ah.mono K.size));have aw:=aD (World.ownsRow.mono A (x9 y.size K.size));clear A ae ah));apply c.o;have an:=aD (ap.o k wa mv hk4 (y.trans (L.mono y.size)) aw);refine aH Z λd c=>?_;go_wp2_with(first|(go_at_call 39;refine an.mono ?_;rintro e wb aA;obtain⟨v',Js,rfl,p1,p2⟩:=aA;have ac:=aD p1;have ag:aC (DA wa (J.paths l n (r++[(k:ξ)])) (.returned v') wb):=⟨v',Js,Z,p1,p2⟩;clear p1 p2));apply c.o;have ab:=J.fT l n (r++[(k:ξ)]);have aQ:=J.dH l n (r++[(k:ξ)]);have aR:=L8 l n r k;have aS:k*4^n<=3*4^n:=Nat.mul_le_mul_right _ (by omega);obtain⟨gv,cv,rfl,ai⟩:∃gv cv,v'=VV gv (J.paths l n (r++[(k:ξ)])).length cv/\∀j u,(Js.map hJ)[j]?=I u->wb.cell? ⟨gv,j,Y⟩=I u:=by
   rcases SlC.own ac ab with⟨_,e2,_⟩|⟨b,aN,e1,e2,_⟩
   ·omega
   grind
  have aq:aC ((Js.map hJ).length=(J.paths l n (r++[(k:ξ)])).length*1):=ac.1;have ao:=aD ai;obtain⟨Is,hI⟩:∃Is:σ (ω×ω×ω),p.ownsRow w.heap.size 114 1 ov ((xF k).flatMap λ(v:ω)=>J.paths l n (r++[(v:ξ)])).length (Is.map hJ):=by obtain⟨Is,h,_⟩:=S.o;exact⟨Is,h⟩
  obtain⟨oa,oc,rfl⟩:=nP hI;have HI:=aD hI;have af:aC (φ p.heap.size p wb):=by obtain⟨_,_,_,_,_,_,_,h⟩:=ag.o;exact L.trans (h.mono L.size)
  have ay:aC (∀(X H:ω) (w5:ι),w5.ownsRow w.heap.size 114 1 (VV X (((xF k).flatMap λ(v:ω)=>J.paths l n (r++[(v:ξ)])).length+(J.paths l n (r++[(k:ξ)])).length) H) (((xF k).flatMap λ(v:ω)=>J.paths l n (r++[(v:ξ)])).length+(J.paths l n (r++[(k:ξ)])).length) (Is.map hJ++Js.map hJ)->wb.grownBy w5 (xm (C oa ((xF k).flatMap λ(v:ω)=>J.paths l n (r++[(v:ξ)])).length oc))->xm (C oa ((xF k).flatMap λ(v:ω)=>J.paths l n (r++[(v:ξ)])).length oc)=I X\/X=wb.heap.size->DD w l n r (VV X (((xF k).flatMap λ(v:ω)=>J.paths l n (r++[(v:ξ)])).length+(J.paths l n (r++[(k:ξ)])).length) H) (k+1) w5):=λX H w5 q1 q2 q3=>by
   have e:((xF (k+1)).flatMap λ(v:ω)=>J.paths l n (r++[(v:ξ)])).length=((xF k).flatMap λ(v:ω)=>J.paths l n (r++[(v:ξ)])).length+(J.paths l n (r++[(k:ξ)])).length:=by grind [LB]
   have:=DD.next S L ag (g5:=X) (c5:=H) (w5:=w5) (λaL aM i1 i2=>?_) q2 q3
   ·grind
   ·rw[L9 i1 HI.o,L9 i2 ac.o];exact q1
  clear hI ai;generalize((xF k).flatMap λ(v:ω)=>J.paths l n (r++[(v:ξ)])).length=nn at*;generalize(J.paths l n (r++[(k:ξ)])).length=mm at*;refine aH Z λd c=>?_;go_wp2_with(first|(at_builtin;refine wpList_append_lies _ Z (.tmp 39) (.tmp 40) 110 Z w.heap.size 114 i0 (.pointer Y) 1 8 underlying110 hi aI aJ aK Z (by decide) _ nn (Is.map hJ) Z (qO HI af) ⟨gv,0,Y⟩ mm cv (Js.map hJ) Z aq (λj u hu=>by rw[tK,Nat.zero_add];exact ao j u hu) λu hu=>by obtain⟨q,_,rfl⟩:=List.mem_map.1 hu;rfl ab (by unfold maxLen;omega) (by omega) (x9 y.size af.size) _ Z ?_;intro X H w5 E m aa ak;have av:=aD (ay.o X H w5 E m aa);clear E m aa ak));apply c.o;apply ar;refine aH Z λd c=>?_;go_wp2;apply c.o;refine⟨⟨k+1,_,by omega,⟨Z,Z,Z,Z,Z,Z⟩,av⟩,?_⟩;show 4-((k:ξ)+1).toNat<4-k;omega
 ·have aE:k=4:=by omega
  subst aE;refine aH Z λd c=>?_;go_wp2;apply c.o;refine aH Z λd _=>?_;go_wp2;apply au;refine aH Z λd c=>?_;go_wp2;apply c.o;refine aH Z λd _=>?_;go_wp2;refine bodyPost_ret (results_tmp (t:=4) Z _ _ _) Z ?_;obtain⟨Is,h1,h2,h3,h4,h5⟩:=S.o;exact⟨_,Is,Z,h1,h2,h3,h4,h5⟩
def zKb(hl:WX w0 B0 lv l F)(e:J.fitL l)(p:(WV l).toNat<42)(bt o:ω):∀n,L4 l lv F w0 bt o n:=by
 intro n
 induction n with
 |zero =>
  intro r w rv H E c hr m d f ac;have K:(J.doL (J.PS.aY r) l).short=U:=(J.iD l (J.PS.aY r) Z (by show WF J.isRd l<=(V r:ξ);omega)).1;go_in;refine fU _ _ _ _ ?_;show bC ψ ((pF f39).drop 0) _ _ w;refine L5 Z Z Z Z hr (λa1 W z gr gh hvs D f1 h1 L=>?_);refine L6 hl e p H E c d (by omega) f1 h1 L (λa2 w2 X S ad ab aa t q D2 y A x=>?_);exact L7 y A x K
 |succ n ih =>
  intro r w rv H E c hr m d f ac;go_in;refine fU _ _ _ _ ?_;show bC ψ ((pF f39).drop 0) _ _ w;refine L5 Z Z Z Z hr (λa1 W z gr gh hvs D f1 h1 L=>?_);refine L6 hl e p H E c d (by omega) f1 h1 L (λa2 w2 X S ad ab aa t q D2 y A x=>?_);unfold J.paths
  cases K:(J.doL (J.PS.aY r) l).short with
  |false =>
   simp only[xp,if_false];exact L7 y A x K
  |true =>
   simp only[if_true];exact zNX hl ih H E c m d (by omega) (by omega) y A x K
def Ma{w0:A}{g:K}{m:ν}{pss:S (S J.Pth)}{L:K}(f:0<V pss)(c:V pss<=4):∀(d t:K),t+d=V pss->MS w0 g m pss L t
 |0,t,h=>by
  have e:t=V pss:=by omega
  rw[e];exact zGZ f
 |d+1,t,h=>zGj (by omega) c (Ma f c d (t+1) (by omega))
namespace J
def E.bM(e:E)(t:ξ):E:={e with t:=t}
def E.bY(e:E)(b:ξ):E:={e with b:=b}
def Pth.bM(p:Pth)(i:ω)(t:ξ):Pth:=⟨p.e.set i ((ev p.e i).bM t),p.g⟩
def Pth.bY(p:Pth)(i:ω)(b:ξ):Pth:=⟨p.e.set i ((ev p.e i).bY b),p.g⟩
def Pth.kT(p:Pth)(t b:ξ):Pth:=⟨p.e.map λe=>(e.bM t).bY b,p.g⟩
end J
theorem zNY{α:Type}{A r:S α}{x y:α}(h:V A=i):(A++x::r).set i y=A++y::r:=by subst h;simp
theorem J.fF(h:i<V es):J.ev es i=es[i]:=by grind [J.ev]
namespace J
def Pth.fG(p:Pth)(t b:ξ)(i:ω):Pth:=⟨(p.e.take i).map (λe=>(e.bM t).bY b)++p.e.drop i,p.g⟩
theorem Pth.kE(p:Pth)(t b:ξ)(i:ω):(p.fG t b i).e.length=V p.e:=by grind [Pth.fG]
theorem Pth.rD(p:Pth)(t b:ξ):p.fG t b 0=p:=by simp[Pth.fG]
theorem Pth.rX(p:Pth)(t b:ξ):p.fG t b (V p.e)=p.kT t b:=by simp[Pth.fG,Pth.kT]
theorem Pth.qU(p:Pth)(t b:ξ)(i:ω)(h:i<V p.e):((p.fG t b i).bM i t).bY i b=p.fG t b (i+1):=by
 have c:p.fG t b i=⟨(p.e.take i).map (λe=>(e.bM t).bY b)++p.e[i]::p.e.drop (i+1),p.g⟩:=by
  grind [Pth.fG,xu]
 have e1:p.fG t b (i+1)=⟨(p.e.take i).map (λe=>(e.bM t).bY b)++(p.e[i].bM t).bY b::p.e.drop (i+1),p.g⟩:=by
  grind [Pth.fG,xv]
 have d:((p.e.take i).map λe=>(e.bM t).bY b).length=i:=by grind
 rw[c,e1];generalize(p.e.take i).map (λe=>(e.bM t).bY b)=A at d;unfold Pth.bM Pth.bY ev
 grind
def iH(ps:S Pth)(t b:H)(k:K):S Pth:=(ps.take k).map (λp=>p.kT t b)++ps.drop k
theorem qN(ps:S Pth)(t b:H):iH ps t b 0=ps:=by simp[iH]
theorem tG(ps:S Pth)(t b:H):iH ps t b (V ps)=ps.map λp=>p.kT t b:=by simp[iH]
theorem Mb(ps:S Pth)(t b:H)(k:K)(h:k<V ps):iH ps t b k=(ps.take k).map (λp=>p.kT t b)++ps[k]::ps.drop (k+1):=by
 grind [iH,xu]
theorem sV(ps:S Pth)(t b:H)(k:K)(h:k<V ps):(iH ps t b k)[k]?=I ps[k]:=by
 grind [Mb]
theorem qY(ps:S Pth)(t b:H)(k:K)(h:k<V ps):(iH ps t b k).set k (ps[k].kT t b)=iH ps t b (k+1):=by
 grind [Mb,zNY,iH,xv]
end J
def Mc:∀{es:S J.E} {c:S d} {i:K} (t:H),V c=V es->i<V es->XS (es.set i ((J.ev es i).bM t)) c=(XS es c).set (i*10) (G O t)
 |[],_,i,t,_,h=>by simp at h
 |e::es,[],i,t,h,_=>by simp at h
 |e::es,o::c,0,t,h,_=>by
  simp[XS,iM,J.ev,J.E.bM]
 |e::es,o::c,i+1,t,h,hi=>by
  have e1:J.ev (e::es) (i+1)=J.ev es i:=by simp[J.ev]
  rw[e1,xb];simp only[XS];rw[Mc t (by simpa using h) (by simpa using hi),xw _ _ (by simp[iM];omega)]
  congr 2
  simp[iM];omega
def Md:∀{es:S J.E} {c:S d} {i:K} (t:H),V c=V es->i<V es->XS (es.set i ((J.ev es i).bY t)) c=(XS es c).set (i*10+1) (G O t)
 |[],_,i,t,_,h=>by simp at h
 |e::es,[],i,t,h,_=>by simp at h
 |e::es,o::c,0,t,h,_=>by
  simp[XS,iM,J.ev,J.E.bY]
 |e::es,o::c,i+1,t,h,hi=>by
  have e1:J.ev (e::es) (i+1)=J.ev es i:=by simp[J.ev]
  rw[e1,xb];simp only[XS];rw[Md t (by simpa using h) (by simpa using hi),xw _ _ (by simp[iM];omega)]
  congr 2
  simp[iM];omega
theorem Me{e:J.E}(h:e.on=(J.ev es i).on):(J.ev (es.set i e) j).on=(J.ev es j).on:=by
 grind [J.ev]
section
variable {w:ι}{lo hi z:ω}{p p':J.Pth}{ve:ν}{gr:ω}{ons:σ ν}
theorem PQ.row(h:PQ w lo hi z p ve gr ons)(q:0<V p.e):∃ge c,ve=VV ge (V p.e) c/\lo<=ge/\ge<hi/\w.cell? ⟨z,0,Y⟩=I (VV ge (V p.e) c)/\(∀j,j<V p.e*10->∃u,w.cell? ⟨ge,j,Y⟩=I u)/\∀j,w.frozen? ⟨ge,j,Y⟩=U:=by
 obtain⟨ge,c,rfl,t,y⟩:=h.eo.form q;obtain⟨u,d,f,x⟩:=h.zt;refine⟨ge,c,Z,t,h.el ge Z,d.cell f,λj m=>?_,λj=>h.eo.frozenAt j⟩;rw[h.eo.cellAt j m];have:=h.eo.1
 grind
def PQ.ne(h:PQ w lo hi z p ve gr ons)(e:ve.ownBlock=I ge):ge≠z/\ge≠gr:=by
 obtain⟨c,d⟩:=PO h.eo e;obtain⟨u,f,_⟩:=h.zt;exact⟨Blk.ne d f (by decide),Blk.ne d h.rb (by decide)⟩
theorem PQ.put{c:ω}(h:PQ w lo hi z p (VV ge (V p.e) c) gr ons)(t:V p'.e=V p.e)(A:p'.g=p.g)(q:XS p'.e ons=(XS p.e ons).set j u)(y:∀i,(J.ev p'.e i).on=(J.ev p.e i).on):PQ (w.setCell ⟨ge,j,Y⟩ u) lo hi z p' (VV ge (V p.e) c) gr ons:=by
 obtain⟨v,f,m⟩:=h.zt;have ne:=h.ne (ge:=ge) Z;refine⟨h.z0,h.z1,by simpa using h.h1,⟨v,f.cC _ _ ne.1.symm,m⟩,?_,h.el,by grind [PQ.ol],λi d=>?_,by rw[A];exact h.rb.cC _ _ ne.2.symm,by grind [PQ.rl],h.r0,h.r1,by grind [PQ.e0]⟩
 ·rw[t,q];exact(h.eo.stored j u).1
 ·rw[y i];exact(h.on i (by omega)).x (P:=λk=>k=ge) (JX.set (P:=λk=>k=ge) (JX.refl _ _) (xW Z) _ _) λx _ e=>xR (xR (by rw[e];rfl))
end
def PL.set{w w':ι}{ge:ω}(f:w.heap.size<=w'.heap.size)(d:∀k,k≠ge->w'.heap[k]?=w.heap[k]?):∀{Is:σ (ω×ω×ω)} {ps:σ J.Pth},PL w Is ps->∀(j:ω) (q:ω×ω×ω) (c:J.Pth),Is[j]?=I q->q.1<=ge->ge<q.2.1->(∃m gr ons,PQ w' q.1 q.2.1 q.2.2 c m gr ons)->PL w' Is (ps.set j c)
 |[],[],_,j,q,c,h1,_,_,_=>by simp at h1
 |a::Is,b::ps,h,0,q,c,h1,g1,g2,hq=>by
  simp at h1;subst h1;refine⟨hq,h.2.1,h.2.2.keep (λk ⟨x,E,K,L⟩=>d k λe=>?_) f⟩;have:=h.2.1 x E;omega
 |a::Is,b::ps,h,j+1,q,c,h1,g1,g2,hq=>by
  have y:q∈Is:=xx (by simpa using h1);have t:=h.2.1 q y;refine⟨?_,h.2.1,PL.set f d h.2.2 j q c (by simpa using h1) g1 g2 hq⟩;obtain⟨m,gr,ons,A⟩:=h.1;exact⟨m,gr,ons,A.keep (λk _ H=>d k (by omega)) f⟩
 |[],_::_,h,_,_,_,_,_,_,_=>h.elim
 |_::_,[],h,_,_,_,_,_,_,_=>h.elim
def uF(d:f):S m:=eA (d.body.getD .skip)
def uL(d:f):S m:=eA (pT (gC ((uF d).getD 3 .skip)))
def uB(d:f):S m:=eA (gC ((uL d).getD 2 .skip))
def uM(d:f):S m:=eA (pT (gC ((uB d).getD 2 .skip)))
def uC(d:f):S m:=eA (gC ((uM d).getD 2 .skip))
def uN(d:f):S m:=eA (pT (gC ((uC d).getD 1 .skip)))
def uD(d:f):S m:=eA (gC ((uN d).getD 2 .skip))
def uP(d:f):S m:=eA (pT (gC ((uF d).getD 5 .skip)))
def uE(d:f):S m:=eA (gC ((uP d).getD 2 .skip))
def Mf:(uF f22).length=9:=by kernel_rfl
def zOP:(uL f22).length=4:=by kernel_rfl
def zOQ:(uB f22).length=5:=by kernel_rfl
def zOR:(uM f22).length=4:=by kernel_rfl
def zOS:(uC f22).length=2:=by kernel_rfl
def zOT:(uN f22).length=4:=by kernel_rfl
def zOU:(uP f22).length=4:=by kernel_rfl
def uF3:(uF f22).getD 3 .skip=.block 0 (.loop (pT (gC ((uF f22).getD 3 .skip)))):=by kernel_rfl
def uL2:(uL f22).getD 2 .skip=.block 1 (gC ((uL f22).getD 2 .skip)):=by kernel_rfl
def uB2:(uB f22).getD 2 .skip=.block 2 (.loop (pT (gC ((uB f22).getD 2 .skip)))):=by kernel_rfl
def uM2:(uM f22).getD 2 .skip=.block 3 (gC ((uM f22).getD 2 .skip)):=by kernel_rfl
def uC1:(uC f22).getD 1 .skip=.block 4 (.loop (pT (gC ((uC f22).getD 1 .skip)))):=by kernel_rfl
def uN2:(uN f22).getD 2 .skip=.block 5 (gC ((uN f22).getD 2 .skip)):=by kernel_rfl
def uF5:(uF f22).getD 5 .skip=.block 6 (.loop (pT (gC ((uF f22).getD 5 .skip)))):=by kernel_rfl
def uP2:(uP f22).getD 2 .skip=.block 7 (gC ((uP f22).getD 2 .skip)):=by kernel_rfl
def zHe(h:j≠i):(w.setCell ⟨g,i,Y⟩ u).cell? ⟨g,j,Y⟩=w.cell? ⟨g,j,Y⟩:=by
 cases e:w.heap[g]? with
 |none=>simp[World.cell?,World.setCell,xy,e]
 |some ob=>cases ob<;>simp[World.cell?,World.setCell,xy,e,Array.getElem?_setIfInBounds,h.symm]
structure O1(a:ζ)(tv:ν)(tg:Bool)(g t:ω):Prop where
 sz:a.tmps.size=106
 df:a.defers=[]
 s0:gA a 0=tv
 s1:gA a 1=.bool tg
 s6:gA a 6=.pointer (I ⟨g,0,Y⟩)
 s7:gA a 7=G O (t:ξ)
structure O2(a:ζ)(tv:ν)(tg:Bool)(g t:ω)(lv:ν)(k:ω):Prop where
 o1:O1 a tv tg g t
 s8:gA a 8=lv
 s9:gA a 9=G O (k:ξ)
structure O3(a:ζ)(tv:ν)(tg:Bool)(g t:ω)(lv:ν)(k i:ω):Prop where
 o2:O2 a tv tg g t lv k
 s10:gA a 10=G O (i:ξ)
def wM(bl k z bt t:K)(ve:d)(b:H)(w:A):Prop:=w.cell? ⟨bl,k,Y⟩=I (.pointer (I ⟨z,0,Y⟩))/\w.cell? ⟨z,0,Y⟩=I ve/\w.cell? ⟨bt,t*3,Y⟩=I (G O b)
theorem zOV{y m cl nt ct t:ω}{tg:Bool}{b:ξ}{ps:σ J.Pth}{q:ω×ω×ω}{p:J.Pth}{Q:ε->ζ->ι->Prop}(hQ:nR Q)(hp:PL w Is ps)(L:Is[k]?=I q)(h2:ps[k]?=I p)(hi:i<V p.e)(hn:V p.e<1000)(hk:k<m)(ht:t<nt)(c1:w.cell? ⟨y,k,Y⟩=I (hJ q))(c2:w.cell? ⟨bt,t*3,Y⟩=I (G O b))(n1:¬jH y Is)(n2:¬jH bt Is)(l1:y<w.heap.size)(l2:bt<w.heap.size)(hf:O3 a (VV bt nt ct) tg g t (VV y m cl) k i)(hN:∀a' w',O3 a' (VV bt nt ct) tg g t (VV y m cl) k i->PL w' Is (ps.set k ((p.bM i t).bY i b))->JX (λx=>jH x Is) w w'->N a' w'):
  bC ψ ((uD f22).drop 0) (Exit.then N Q) a w:=by
 obtain⟨ve,gr,ons,hq⟩:=hp.get k q p L h2;obtain⟨ge,ce,rfl,g1,g2,c3,E,H⟩:=hq.row (by omega);have d:jH ge Is:=⟨q,xx L,g1,g2⟩;obtain⟨zb,ag,au,_⟩:=hq.zt;have lz:=ag.lt;obtain⟨u1,d1⟩:=E (i*10) (by omega);obtain⟨u2,d2⟩:=E (i*10+1) (by omega);have f1:=H (i*10);have f2:=H (i*10+1);have ae:ge<w.heap.size:=hp.lt d;have nz:=(hq.ne (ge:=ge) Z).1;have ap:y≠ge:=λe=>n1 (by grind)
 have aq:bt≠ge:=λe=>n2 (by grind)
 have A:aC (PL (w.setCell ⟨ge,i*10,Y⟩ (G O (t:ξ))) Is (ps.set k (p.bM i t))):=PL.set (ge:=ge) (by simp) (λx hx=>xz _ _ _ _ hx) hp k q _ L g1 g2 ⟨_,_,_,hq.put (j:=i*10) (u:=G O (t:ξ)) (p':=p.bM i t) (by simp[J.Pth.bM]) Z (Mc _ hq.ol hi) λj=>Me Z⟩;have am:k<V ps:=by grind
 have e2:(ps.set k (p.bM i t))[k]?=I (p.bM i t):=by grind
 obtain⟨ar,aB,ax,c⟩:=A.get k q _ L e2;have an:(p.bM i t).e.length=V p.e:=by simp[J.Pth.bM]
 have ad:(w.setCell ⟨ge,i*10,Y⟩ (G O (t:ξ))).cell? ⟨q.2.2,0,Y⟩=I (VV ge (V p.e) ce):=(fC λe=>nz e.symm).trans c3;have ao:ar=VV ge (p.bM i t).e.length ce:=by
  obtain⟨zc,aI,aJ,_⟩:=c.zt
  grind [Blk.cell]
 subst ao;have ai:aC (PL ((w.setCell ⟨ge,i*10,Y⟩ (G O (t:ξ))).setCell ⟨ge,i*10+1,Y⟩ (G O b)) Is (ps.set k ((p.bM i t).bY i b))):=by
  have:=PL.set (ge:=ge) (w:=w.setCell ⟨ge,i*10,Y⟩ (G O (t:ξ))) (w':=(w.setCell ⟨ge,i*10,Y⟩ (G O (t:ξ))).setCell ⟨ge,i*10+1,Y⟩ (G O b)) (by simp) (λx hx=>xz _ _ _ _ hx) A k q _ L g1 g2 ⟨_,_,_,c.put (j:=i*10+1) (u:=G O b) (p':=(p.bM i t).bY i b) (by simp[J.Pth.bY]) Z (Md _ c.ol (by omega)) λj=>Me Z⟩;rw[List.set_set]at this;exact this
 have HX:aC (JX (λx=>jH x Is) w ((w.setCell ⟨ge,i*10,Y⟩ (G O (t:ξ))).setCell ⟨ge,i*10+1,Y⟩ (G O b))):=((JX.refl _ _).set (xW d) _ _).set (xW d) _ _;have ab:=(fC (u:=G O (t:ξ)) (i:=i*10) ap).trans c1;have ac:=(fC (u:=G O (t:ξ)) (i:=i*10) aq).trans c2;have aj:aC (wM y k q.2.2 bt t (VV ge (V p.e) ce) b (w.setCell ⟨ge,i*10,Y⟩ (G O (t:ξ)))):=⟨ab,ad,ac⟩;have az:(w.setCell ⟨ge,i*10,Y⟩ (G O (t:ξ))).cell? ⟨ge,i*10+1,Y⟩=I u2:=(zHe (by omega)).trans d2;have aA:(w.setCell ⟨ge,i*10,Y⟩ (G O (t:ξ))).frozen? ⟨ge,i*10+1,Y⟩=U:=c.eo.frozenAt _;have HN:=aD hN;obtain⟨⟨⟨sz,df,s0,s1,s6,s7⟩,s8,s9⟩,af⟩:=hf;have aF:(k:ξ)<m:=by omega
 have aG:(t:ξ)<nt:=by omega
 have aE:(i:ξ)<V p.e:=by omega
 generalize al:V p.e=el at*;unfold hJ at c1;have av:q.2.2<w.heap.size:=lz;clear hN hp hq c L h2 E H ag au ab ac ad e2 an A hi n1 n2 g1 g2 d am nz al;generalize q.2.2=z at*;rw[eH sz df];simp only[xF,List.range.loop,x5,x6,s0,s1,s6,s7,s8,s9,af];generalize gA a=f;clear s0 s1 s6 s7 s8 s9 af sz df;refine aH Z λay aa=>?_;go_wp2;apply aa.o;have aw:ge<(w.setCell ⟨ge,i*10,Y⟩ (G O (t:ξ))).heap.size:=by simpa using ae
 clear c1 c2 c3 d1 d2 f1 f2 l1 l2 lz av ae;generalize w.setCell ⟨ge,i*10,Y⟩ (G O (t:ξ))=W at*;refine aH Z λK1 ah=>?_;refine Pop.aV (S:=wM y k z bt t (VV ge el ce) b) (by kernel_rfl) _ Z (by kernel_rfl) aj λK=>?_;simp only[xd,xe,xg,xh,x7,Pop.uO]
 iterate 15
  refine Pop.tk Z (by kernel_rfl) (λ_ _ _ h=>hQ _ _ _ _ _ h) Z λw ak=>by dsimp only[wM]at ak;go_simp;with_reducible rfl K ?_;simp only[xi,xj,xk,xb,x7]
 refine Pop.fin (by kernel_rfl) Z ?_;go_simp;apply ah;show N _ _;exact HN _ _ ⟨⟨⟨Z,Z,Z,Z,Z,Z⟩,Z,Z⟩,Z⟩ (ai.keep (λ_ _=>Z) (Nat.le_refl _)) (HX.X ((xc _ _).drew))
