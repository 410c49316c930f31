import Derived.Test.YteekngiepnnmjaaGreatDoorV15
set_option linter.all false
set_option maxHeartbeats 0
namespace Go.Proofs.YteekngiepnnmjaaGreatDoor
open Go Go.RowKit Go.Proofs.Tryz P Q R
open scoped Classical
set_option maxRecDepth 1000000
open _root_ renaming ByteArray->σ,List->z,List->ι,Int->O,Int->ξ,Nat->s,Nat->ρ,Option->δ,UInt8->θ
open Go renaming World->W,World->ν,Value->r,Value->ω,heap_alloc_new->τ,bodyPost->π,wpList_append_lies->η,info_parts->ζ,Code->t,Act->g,Act->ε,wp_cond_false->κ,Calls->υ,run_slice_string_to_if->χ
open Go.RowKit renaming Below->ψ
open Go.Proofs.Tryz renaming prog->φ
variable {w w1 w2:ν}{B cap capr gr gx k m n nc oc ol sz tc:ρ}{bv ov tv u u' v:ω}{ts:ι R.Th}{ovs tvs xs:ι ω}{F G:ι ρ}{e:TypeId}{b:ι Tree}{a:ε}{f:Fr}{l:ι θ}{na oa ta:δ Addr}{A A2:AS}{nms:ι σ}{K K0 K8 P9:ε->ν->Prop}{Q0:Exit->ε->ν->Prop}{i:ξ}{xl:Lh}{R0:Ending->ν->Prop}
open List renaming length->V
open Go.Value renaming slice->Y,string->E,int->N,bool->J
open Option renaming none->I,some->U
open Go.IntKind renaming i64->M
open Go.Obj renaming cells->H
open Bool renaming false->D,true->T
open Go.Ending renaming returned->S
open Go.Exit renaming inBlock->xF
open _root_.ByteArray renaming toList->xR
open Go.RowKit.Below renaming heap_alloc->xW,heap_setCell->x3,grown->xc
open List renaming map_append->x1,map_cons->x4,length_cons->x5,append_assoc->x6,length_append->x7,map_nil->x8,length_nil->x9,append_nil->xi,getElem?_append_right->xj,set_append_right->xm,length_map->xn
open Nat renaming zero_add->x2
open Go.Value renaming string->xa,ownBlock->xe,oneCell'->xo
open Go.World renaming news_of_block->xb,ownsRow_nil->xh,cell?_of_block->xk,frozen?_of_block->xp
open Go.Obj renaming cells->xd
open Go.Act renaming eval->xg
def vK(a:O)(v:r):z r:=v::(cO (gH a) (Y I 0 0)).toList
def ZS:z Fr->z r->z r
 |f::l,v::vs=>vK f.a v++ZS l vs
 |_,_=>[]
theorem AX(l:z Fr):∀(c:z r),V c=V l->(ZS l c).length=V l*10:=by
 induction l with
 |nil=>intro c _;simp[ZS]
 |cons t l ih =>
  intro c h
  cases c with
  |nil=>simp at h
  |cons v c =>
   grind [ZS,x5,vK,cO]
theorem IJ(l m:z Fr):∀(c d:z r),V c=V l->ZS (l++m) (c++d)=ZS l c++ZS m d:=by
 induction l with
 |nil =>
  grind [ZS]
 |cons t l ih =>
  intro c d h
  cases c with
  |nil=>simp at h
  |cons v c=>simp only[List.cons_append,ZS,ih c d (by simpa using h),x6]
structure RdM(w:ν)(B:ρ)(tv ov:ω)(ts:ι R.Th)(fs:ι Fr)(tvs ovs:ι ω)(G:ι ρ):Prop where
 th:w.ownsRow B 50 3 tv (V ts) (ZN ts tvs)
 fr:w.ownsRow B 54 10 ov (V fs) (ZS fs ovs)
 lt:V tvs=V ts
 lo:V ovs=V fs
 kids:XX w B (tvs++ovs) (ts.map R.Th.body++fs.map Fr.l) G
def RdM.zero(w:ν)(B:ρ):RdM w B (Y I 0 0) (Y I 0 0) [] [] [] [] []:=
 ⟨xh _ _ _ _,xh _ _ _ _,Z,Z,.nil⟩
def RdM.keep{w':ν}{fs:ι Fr}(h:RdM w B tv ov ts fs tvs ovs G)(c:∀k,k<w.heap.size->w'.heap[k]?=w.heap[k]?):RdM w' B tv ov ts fs tvs ovs G :=
 ⟨bH h.th λk e=>c k (h.th.lt k e).2,bH h.fr λk e=>c k (h.fr.lt k e).2,h.lt,h.lo,h.kids.keep λk d=>c k (h.kids.lt k d)⟩
theorem rM{W0:W}(h:w.ownsRow B e sz v n xs)(q:∀k,k<w.heap.size->W0.heap[k]?=w.heap[k]?)(r:w.heap.size<=W0.heap.size)(d:W0.grownBy w1 v.ownBlock){c:Array ω}{o:TypeId}(p:w.heap[k]?=U (H c o (0,0)))(j:e≠o):w1.heap[k]?=w.heap[k]?:=by
 have g:=dC p;rw[d.block k (by omega) (Ne.symm (tM h p j)),q k g]
theorem RdM.j{W0:ν}{j:ω}{b row:ξ}(h:RdM w B tv ov ts [] tvs ovs G)(q:∀k,k<w.heap.size->W0.heap[k]?=w.heap[k]?)(g:w.heap.size<=W0.heap.size)(r:w1.ownsRow B 50 3 j (V ts+1) (ZN ts tvs++[N M b,Y I 0 0,N M row]))(d:W0.grownBy w1 tv.ownBlock):
  RdM w1 B j ov (ts++[⟨b,[],row⟩]) [] (tvs++[Y I 0 0]) ovs G:=by
 have x:ovs=[]:=List.length_eq_zero_iff.1 h.lo;subst x;refine⟨?_,?_,by simp[h.lt],Z,?_⟩
 ·grind [TJ,RdM.lt,ZN]
 ·refine bH h.fr λk e=>?_;obtain⟨c,o⟩:=gK h.fr e;exact rM h.th q g d o (by decide)
 ·have s:=h.kids.keep (w':=w1) λk p=>by
   obtain⟨c,o⟩:=h.kids.iL k p;exact rM h.th q g d o (by decide)
  have t:=XX.bD s (WX.nil w1 B) (by simp);simpa using t
theorem RdM.branch{W0:ν}{j:ω}{fs:ι Fr}{a:ξ}(h:RdM w B tv ov ts fs tvs ovs G)(q:∀k,k<w.heap.size->W0.heap[k]?=w.heap[k]?)(g:w.heap.size<=W0.heap.size)(r:w1.ownsRow B 54 10 j (V fs+1) (ZS fs ovs++vK a (Y I 0 0)))(d:W0.grownBy w1 ov.ownBlock):
  RdM w1 B tv j ts (fs++[⟨[],a⟩]) tvs (ovs++[Y I 0 0]) G:=by
 refine⟨?_,?_,h.lt,by simp[h.lo],?_⟩
 ·refine bH h.th λk e=>?_;obtain⟨c,o⟩:=gK h.th e;exact rM h.fr q g d o (by decide)
 ·grind [IJ,RdM.lo,ZS]
 ·have s:=h.kids.keep (w':=w1) λk p=>by
   obtain⟨c,o⟩:=h.kids.iL k p;exact rM h.fr q g d o (by decide)
  have t:=XX.bD s (WX.nil w1 B) (by simp);simpa using t
theorem RdM.RQ{bo:ρ}{fs:ι Fr}(h:RdM w B tv (VV bo (n+1) cap) ts (fs++[f]) tvs (ovs++[u]) G)(r:n=V fs):
  ∃d F,RdM w B tv (VV bo n cap) ts fs tvs ovs d/\WX w B u f.l F/\∀k∈F,k∉d:=by
 subst r;have c:V ovs=V fs:=by simpa using h.lo
 have j:=h.kids;rw[x1,<- x6,<- x6]at j;obtain⟨d,F,_,o,p,q⟩:=XX.last j;refine⟨d,F,⟨h.th,?_,h.lt,c,o⟩,p,q⟩;have g:=h.fr;rw[IJ _ _ _ _ c]at g;simp only[x7,x5,x9,x2]at g
 grind [Hw,AX]
theorem RdM.OJ{W0:ν}{g:ρ}{d:ι R.Th}{t:R.Th}{o:ι ω}{x:Lh}(h:RdM w B (VV g (n+1) cap) ov (d++[t]) [] (o++[u]) ovs G)(hn:n=V d)(hb:WX w B bv b F)(hd:∀k∈F,k∉G)(hk:∀k,k<w.heap.size->W0.heap[k]?=w.heap[k]?)(y:w.heap.size<=W0.heap.size)(hx:w.ownsRow B 52 9 u (V t.body) xs)(ho:w1.ownsRow B 52 9 u' (V t.body+1) (xs++(cO x bv).toList))(j:W0.grownBy w1 u.ownBlock)(W:u'.ownBlock=u.ownBlock\/∀k,u'.ownBlock=U k->w.heap.size<=k):
  ∃L,RdM (w1.setCell ⟨g,n*3+1,I⟩ u') B (VV g (n+1) cap) ov (d++[{t with body:=t.body++[.mk x b]}]) [] (o++[u']) ovs L:=by
 subst hn;have ab:ovs=[]:=List.length_eq_zero_iff.1 h.lo;subst ab;have X:V o=V d:=by simpa using h.lt
 have q:=h.th;simp only[x7,x5,x9,x2]at q;obtain⟨ad,p⟩:=gK q (k:=g) Z;have ac:w1.heap[g]?=w.heap[g]?:=rM hx hk y j p (by decide);have cC:∀k c e,w.heap[k]?=U (xd c e (0,0))->e≠50->e≠52->(w1.setCell ⟨g,V d*3+1,I⟩ u').heap[k]?=w.heap[k]?:=λk c e r C O=>by
  rw[x3 _ _ _ _ λz=>by simp at z;subst z;rw[p]at r;simp at r;exact C r.2.symm];exact rM hx hk y j r (Ne.symm O)
 have line:∀k,(∃c,w.heap[k]?=U (xd c 52 (0,0)))->(w1.setCell ⟨g,V d*3+1,I⟩ u').heap[k]?=w1.heap[k]?:=λk ⟨c,r⟩ =>
  x3 _ _ _ _ λz=>by grind
 have aa:(w1.setCell ⟨g,V d*3+1,I⟩ u').ownsRow B 52 9 u' (V t.body+1) (xs++(cO x bv).toList):=bH ho λk e=>x3 _ _ _ _ λz=>by
  grind [gK]
 have s:=h.kids;simp only[xi,x1,x4,x8]at s;obtain⟨L,hG⟩:=XX.put (w':=w1.setCell ⟨g,V d*3+1,I⟩ u') (x:=x) s hb hd hx aa λk C O h3=>by grind [World.grownBy.block] W;refine⟨L,?_,?_,by simp[X],Z,by simpa using hG⟩
 ·have C:w1.ownsRow B 50 3 (VV g (V d+1) cap) (V d+1) (ZN (d++[t]) (o++[u])):=bH q λk ae=>by
   grind [xe]
  have O:=(C.stored (V d*3+1) u').1
  simp_all [TJ,ZN,xm,TE]
 ·refine bH h.fr λk e=>?_;obtain⟨c,r⟩:=gK h.fr e
  grind
theorem RdM.SE{W0:ν}{bo:ρ}{fs:ι Fr}{x:Lh}(h:RdM w B tv (VV bo (n+1) cap) ts (fs++[f]) tvs (ovs++[u]) G)(hn:n=V fs)(hb:WX w B bv b F)(hd:∀k∈F,k∉G)(X:∀k,k<w.heap.size->W0.heap[k]?=w.heap[k]?)(r:w.heap.size<=W0.heap.size)(O:w.ownsRow B 52 9 u (V f.l) xs)(ho:w1.ownsRow B 52 9 u' (V f.l+1) (xs++(cO x bv).toList))(d:W0.grownBy w1 u.ownBlock)(C:u'.ownBlock=u.ownBlock\/∀k,u'.ownBlock=U k->w.heap.size<=k):
  ∃z,RdM (w1.setCell ⟨bo,n*10,I⟩ u') B tv (VV bo (n+1) cap) ts (fs++[{f with l:=f.l++[.mk x b]}]) tvs (ovs++[u']) z:=by
 subst hn;have o:V ovs=V fs:=by simpa using h.lo
 have p:=h.fr;simp only[x7,x5,x9,x2]at p;obtain⟨aa,g⟩:=gK p (k:=bo) Z;have W:w1.heap[bo]?=w.heap[bo]?:=rM O X r d g (by decide);have cC:∀k c e,w.heap[k]?=U (xd c e (0,0))->e≠54->e≠52->(w1.setCell ⟨bo,V fs*10,I⟩ u').heap[k]?=w.heap[k]?:=λk c e q t y=>by
  rw[x3 _ _ _ _ λs=>by simp at s;subst s;rw[g]at q;simp at q;exact t q.2.symm];exact rM O X r d q (Ne.symm y)
 have line:∀k,(∃c,w.heap[k]?=U (xd c 52 (0,0)))->(w1.setCell ⟨bo,V fs*10,I⟩ u').heap[k]?=w1.heap[k]?:=λk ⟨c,q⟩ =>
  x3 _ _ _ _ λs=>by grind
 have L:(w1.setCell ⟨bo,V fs*10,I⟩ u').ownsRow B 52 9 u' (V f.l+1) (xs++(cO x bv).toList):=bH ho λk e=>x3 _ _ _ _ λs=>by
  grind [gK]
 have j:=h.kids;rw[x1,<- x6,<- x6]at j;simp only[x4,x8]at j;obtain⟨z,hG⟩:=XX.put (w':=w1.setCell ⟨bo,V fs*10,I⟩ u') (x:=x) j hb hd O L λk t y h3=>by grind [World.grownBy.block] C;refine⟨z,?_,?_,h.lt,by simp[o],by simpa using hG⟩
 ·refine bH h.th λk e=>?_;obtain⟨c,q⟩:=gK h.th e
  grind
 ·have t:w1.ownsRow B 54 10 (VV bo (V fs+1) cap) (V fs+1) (ZS (fs++[f]) (ovs++[u])):=bH p λk ab=>by
   grind [xe]
  have y:=(t.stored (V fs*10) u').1;rw[IJ _ _ _ _ o]at y⊢;have e2:(ZS fs ovs++ZS [f] [u]).set (V fs*10) u'=ZS fs ovs++ZS [{f with l:=f.l++[.mk x b]}] [u']:=by
   rw[xm _ _ (by grind [AX]),AX _ _ o,show V fs*10-V fs*10=0 by omega];rfl
  grind
theorem RdM.done(h:RdM w B tv ov ts [] tvs ovs G):∃c,ThsAt w B tv ts tvs c:=by
 have d:ovs=[]:=List.length_eq_zero_iff.1 h.lo;subst d;have g:=h.kids;simp only[xi,x8]at g;obtain⟨c,p,j⟩:=g.all;refine⟨c,h.th,h.lt,by simpa using p,λi t u F r q o=>j i t.body u F ?_ q o⟩
 grind
def AD:t->δ t
 |.loop c=>U c
 |.scope c=>AD c
 |.block _ c=>AD c
 |.seq a b=>(AD a).orElse λ_=>AD b
 |.cond _ a b=>(AD a).orElse λ_=>AD b
 |_=>I
def SJ(fn:Func):t:=(fn.body.bind AD).getD .skip
def Tryz.infoLn:(prog.info? 52).map (λi=>(i.zero,i.size,i.bytes))=U (U (.agg (cO z0 (Y I 0 0))),9,120):=by kernel_rfl
theorem WX.cT{l:ι Tree}(h:WX w B v l F):v.oneCell'=T:=by
 cases h using WX.cs with
 |row ho _ _ _ _ =>
  rcases ho.2 with⟨e,_⟩|⟨k,c,d,e,_⟩<;>rw[e]<;>rfl
def I0(x:Lh)(u:r)(h:u.oneCell'=T):∀c∈(cO x u).toList,c.oneCell'=T:=by
 intro c d;simp[cO]at d
 rcases d with rfl|rfl|rfl|rfl|rfl|rfl|rfl|rfl|rfl<;>first|rfl|exact h
def zEr{d:Array Oper}{rest:z Oper}{c:Oper}{Q:Exit->ε->W->Prop}(x:Operand)(g:c.guard=I)(j:c.op=.load 52 x)(b o:s)(y:Lh)(bv:r)(q:a.eval x=.pointer (U ⟨b,o,I⟩))(p:w.rangeAt b o (cO y bv).toList)(h:wpList φ d Q rest (a.put c.dst (.agg #[E y.op,N M y.VX,N M y.z,N M y.a,N M y.b,E y.sign,E y.ord,E y.scope,bv])) w):wpList φ d Q (c::rest) a w :=
 wpList_load_mid g _ x j b o q (cO y bv).toList _ p underlying52 Z (by kernel_rfl) h
def Tryz.infoTh:(prog.info? 50).map (λi=>(i.zero,i.size,i.bytes))=U (U (.agg #[N M 0,Y I 0 0,N M 0]),3,40):=by kernel_rfl
def Tryz.infoFr:(prog.info? 54).map (λi=>(i.zero,i.size,i.bytes))=U (U (.agg (#[Y I 0 0]++cO z0 (Y I 0 0))),10,144):=by kernel_rfl
def XN.vY{g:ρ}{x:Lh}(h:XN w g x bv)(u:ω):XN (w.setCell ⟨g,8,I⟩ u) g x u:=by
 unfold XN at*;rw[cI h];rfl
theorem I1(n:O)(k:ρ)(w:W)(r:10<=n)(h:n<10000)(t:k<10)(ih:∀w:W,υ φ 14 #[N M (n/10)] w λe c=>∃s,e=S (E s)/\jZ k s (dI (n/10))/\ψ w.heap.size w c):
  υ φ 14 #[N M n] w λe c=>∃s,e=S (E s)/\jZ (k+1) s (dI n)/\ψ w.heap.size w c:=by
 have x:=SU w (48+n%10) (by omega) (by omega);have d:dI n=dI (n/10)++[UInt8.ofNat (48+n%10).toNat]:=by
  unfold dI;rw[OL _ (by omega)]
  grind
 have j:=aD d;have p:=aD ih;clear d ih;go_in;go_wp2_with(first|(go_at_call 14;refine(p _).mono ?_;rintro e w1 ⟨s,rfl,g,q⟩;have y:=g.size));go_ret;refine⟨_,Z,⟨?_,?_⟩,(bB).trans (q.mono (by simp))⟩
 ·rw[tZ,g.1,j.o,bI]
 grind [qA]
def zME(n:O)(w:W)(q:0<=n)(h:n<10000):
  υ φ 14 #[N M n] w λe d=>∃s,e=S (E s)/\jZ 4 s (dI n)/\ψ w.heap.size w d:=by
 have r:∀{k:ρ} {n:O} {w:W},k<=4->(υ φ 14 #[N M n] w λe d=>∃s,e=S (E s)/\jZ k s (dI n)/\ψ w.heap.size w d)->υ φ 14 #[N M n] w λe d=>∃s,e=S (E s)/\jZ 4 s (dI n)/\ψ w.heap.size w d:=λt c=>by
  refine c.mono ?_;rintro e d ⟨s,rfl,g,j⟩;exact⟨s,Z,⟨g.1,by have:=g.2;omega⟩,j⟩
 have o:∀(n:O) (w:W),0<=n->n<100->υ φ 14 #[N M n] w λe d=>∃s,e=S (E s)/\jZ 2 s (dI n)/\ψ w.heap.size w d:=λn w a b=>V6 n w a b
 have p:∀(n:O) (w:W),0<=n->n<1000->υ φ 14 #[N M n] w λe d=>∃s,e=S (E s)/\jZ 3 s (dI n)/\ψ w.heap.size w d:=λn w a b=>by
  by_cases c:n<100
  ·refine(o n w a c).mono ?_;rintro e d ⟨s,rfl,g,j⟩;exact⟨s,Z,⟨g.1,by have:=g.2;omega⟩,j⟩
  ·exact I1 n 2 w (by omega) (by omega) (by omega) λw=>o (n/10) w (by omega) (by omega)
 by_cases c:n<1000
 ·exact r (by omega) (p n w q c)
 ·exact I1 n 3 w (by omega) h (by omega) λw=>p (n/10) w (by omega) (by omega)
namespace R
def vS(last:δ (z θ)):δ AS×O->z Th×O×O
 |(I,i)=>([],2,i)
 |(U a,n)=>if last≠U []\/n=0\/a.s.O≠[]then([],2,n+1)else yV a.s.ts
theorem kJd(h:¬2000<V l):fZ l=vS (bF 10 l).getLast? (lW AS.zero 0 (bF 10 l).dropLast):=by
 unfold fZ vS
 grind
end R
structure AsM(w:ν)(B:ρ)(a:AS)(tv ov nv:ω)(tvs ovs:ι ω)(G:ι ρ)(nms:ι σ):Prop where
 mem:RdM w B tv ov a.s.ts a.s.O tvs ovs G
 nm:w.ownsRow B 9 1 nv (V nms) (nms.map xa)
 eq:nms.map xR=a.nm
 sz:SzA a.s
def RI(s:σ)(w:W)(e:Ending)(w':W):Prop :=
 ∃tv,e=S (.tuple #[tv,N M (fZ s.toList).2.1,N M (fZ s.toList).2.2])/\((fZ s.toList).2.1=0->∃bt cap B vs Fs,tv=VV bt (fZ s.toList).1.length cap/\ThsAt w' B tv (fZ s.toList).1 vs Fs)/\(∃a q cc,tv=Y a q cc)/\ψ w.heap.size w w'
def AsM.zero(w:ν)(B:ρ):AsM w B AS.zero (Y I 0 0) (Y I 0 0) (Y I 0 0) [] [] [] []:=
 ⟨RdM.zero w B,xh _ _ _ _,Z,SzA.zero⟩
def QC:t->t
 |.cond _ x _=>x
 |d=>d
def KS:t->t
 |.cond _ _ x=>x
 |d=>d
def kX(f:s->r):g:=⟨#[f 0,f 1,f 2,f 3,f 4,f 5,f 6,f 7,f 8,f 9,f 10,f 11,f 12,f 13,f 14,f 15,f 16,f 17,f 18,f 19,f 20,f 21,f 22,f 23,f 24,f 25,f 26,f 27,f 28,f 29,f 30,f 31,f 32,f 33,f 34,f 35,f 36,f 37,f 38,f 39,f 40,f 41,f 42,f 43,f 44,f 45,f 46,f 47,f 48,f 49,f 50,f 51,f 52,f 53,f 54,f 55,f 56,f 57,f 58,f 59,f 60,f 61,f 62,f 63,f 64,f 65,f 66,f 67,f 68,f 69,f 70,f 71,f 72,f 73,f 74,f 75,f 76,f 77,f 78,f 79,f 80,f 81,f 82,f 83,f 84,f 85,f 86,f 87,f 88,f 89,f 90,f 91,f 92,f 93,f 94,f 95,f 96,f 97,f 98,f 99,f 100,f 101,f 102,f 103,f 104,f 105,f 106,f 107,f 108,f 109,f 110,f 111,f 112,f 113,f 114,f 115,f 116,f 117,f 118,f 119,f 120,f 121,f 122,f 123,f 124,f 125,f 126,f 127,f 128,f 129,f 130,f 131,f 132,f 133,f 134,f 135,f 136,f 137,f 138,f 139,f 140,f 141,f 142,f 143,f 144,f 145,f 146,f 147,f 148,f 149,f 150,f 151,f 152,f 153,f 154,f 155,f 156,f 157,f 158,f 159,f 160,f 161,f 162,f 163,f 164,f 165,f 166,f 167,f 168,f 169,f 170,f 171,f 172,f 173,f 174,f 175,f 176,f 177,f 178,f 179,f 180,f 181,f 182,f 183,f 184,f 185,f 186,f 187,f 188,f 189,f 190,f 191,f 192,f 193,f 194,f 195,f 196,f 197,f 198,f 199,f 200,f 201,f 202,f 203,f 204,f 205,f 206,f 207,f 208,f 209,f 210,f 211,f 212,f 213,f 214,f 215,f 216,f 217,f 218,f 219,f 220,f 221,f 222,f 223,f 224,f 225,f 226,f 227,f 228,f 229,f 230,f 231,f 232,f 233,f 234,f 235,f 236,f 237,f 238,f 239,f 240,f 241,f 242,f 243,f 244,f 245,f 246,f 247,f 248,f 249,f 250,f 251,f 252,f 253,f 254,f 255,f 256,f 257,f 258,f 259,f 260,f 261,f 262,f 263,f 264,f 265,f 266,f 267,f 268,f 269,f 270,f 271,f 272,f 273,f 274,f 275,f 276,f 277,f 278,f 279,f 280,f 281,f 282,f 283,f 284,f 285,f 286,f 287,f 288,f 289,f 290,f 291,f 292,f 293,f 294,f 295,f 296,f 297,f 298,f 299,f 300,f 301,f 302,f 303,f 304,f 305,f 306,f 307,f 308,f 309,f 310,f 311,f 312,f 313,f 314,f 315,f 316,f 317,f 318,f 319,f 320,f 321,f 322,f 323],[]⟩
def mW(h:a.tmps.size=324)(g:a.defers=[]):a=kX (gA a):=by
 obtain⟨⟨l⟩,d⟩:=a;simp only at g;subst g;have j:V l=324:=h;have c:=Dc (l:=l) (d:=undef);rw[j]at c;have o:∀f:s->r,(List.range 324).map f=[f 0,f 1,f 2,f 3,f 4,f 5,f 6,f 7,f 8,f 9,f 10,f 11,f 12,f 13,f 14,f 15,f 16,f 17,f 18,f 19,f 20,f 21,f 22,f 23,f 24,f 25,f 26,f 27,f 28,f 29,f 30,f 31,f 32,f 33,f 34,f 35,f 36,f 37,f 38,f 39,f 40,f 41,f 42,f 43,f 44,f 45,f 46,f 47,f 48,f 49,f 50,f 51,f 52,f 53,f 54,f 55,f 56,f 57,f 58,f 59,f 60,f 61,f 62,f 63,f 64,f 65,f 66,f 67,f 68,f 69,f 70,f 71,f 72,f 73,f 74,f 75,f 76,f 77,f 78,f 79,f 80,f 81,f 82,f 83,f 84,f 85,f 86,f 87,f 88,f 89,f 90,f 91,f 92,f 93,f 94,f 95,f 96,f 97,f 98,f 99,f 100,f 101,f 102,f 103,f 104,f 105,f 106,f 107,f 108,f 109,f 110,f 111,f 112,f 113,f 114,f 115,f 116,f 117,f 118,f 119,f 120,f 121,f 122,f 123,f 124,f 125,f 126,f 127,f 128,f 129,f 130,f 131,f 132,f 133,f 134,f 135,f 136,f 137,f 138,f 139,f 140,f 141,f 142,f 143,f 144,f 145,f 146,f 147,f 148,f 149,f 150,f 151,f 152,f 153,f 154,f 155,f 156,f 157,f 158,f 159,f 160,f 161,f 162,f 163,f 164,f 165,f 166,f 167,f 168,f 169,f 170,f 171,f 172,f 173,f 174,f 175,f 176,f 177,f 178,f 179,f 180,f 181,f 182,f 183,f 184,f 185,f 186,f 187,f 188,f 189,f 190,f 191,f 192,f 193,f 194,f 195,f 196,f 197,f 198,f 199,f 200,f 201,f 202,f 203,f 204,f 205,f 206,f 207,f 208,f 209,f 210,f 211,f 212,f 213,f 214,f 215,f 216,f 217,f 218,f 219,f 220,f 221,f 222,f 223,f 224,f 225,f 226,f 227,f 228,f 229,f 230,f 231,f 232,f 233,f 234,f 235,f 236,f 237,f 238,f 239,f 240,f 241,f 242,f 243,f 244,f 245,f 246,f 247,f 248,f 249,f 250,f 251,f 252,f 253,f 254,f 255,f 256,f 257,f 258,f 259,f 260,f 261,f 262,f 263,f 264,f 265,f 266,f 267,f 268,f 269,f 270,f 271,f 272,f 273,f 274,f 275,f 276,f 277,f 278,f 279,f 280,f 281,f 282,f 283,f 284,f 285,f 286,f 287,f 288,f 289,f 290,f 291,f 292,f 293,f 294,f 295,f 296,f 297,f 298,f 299,f 300,f 301,f 302,f 303,f 304,f 305,f 306,f 307,f 308,f 309,f 310,f 311,f 312,f 313,f 314,f 315,f 316,f 317,f 318,f 319,f 320,f 321,f 322,f 323]:=λf=>by kernel_rfl
 rw[o]at c;have p:gA ⟨⟨l⟩,[]⟩=λi=>l.getD i undef:=by funext i;simp[gA,Array.getD_eq_getD_getElem?]
 rw[kX,p];exact congrArg (λx:z r=>(⟨⟨x⟩,[]⟩:ε)) c
def zB(fn:Func):z t:=eA (SJ fn)
def zL(fn:Func):z t:=eA (gC ((zB fn).getD 2 .skip))
def zE(fn:Func):z t:=eA (KS ((zL fn).getD 8 .skip))
def zZ(fn:Func):z t:=eA (QC ((zE fn).getD 4 .skip))
def zF(fn:Func):z t:=eA (fn.body.getD .skip)
def zG(fn:Func):z t:=eA (pT (gC ((zF fn).getD 20 .skip)))
def zH(fn:Func):z t:=eA (gC ((zG fn).getD 2 .skip))
def I4:(zF f7).length=25:=by kernel_rfl
def zOt:(zG f7).length=4:=by kernel_rfl
def zPF:(zF f7).getD 11 .skip=.block 0 (.loop (SJ f7)):=by kernel_rfl
def zPG:(zF f7).getD 20 .skip=.block 2 (.loop (pT (gC ((zF f7).getD 20 .skip)))):=by kernel_rfl
def zG2:(zG f7).getD 2 .skip=.block 3 (gC ((zG f7).getD 2 .skip)):=by kernel_rfl
def I6:(zB f7).length=4:=by kernel_rfl
def SY:(zL f7).length=13:=by kernel_rfl
def VG:(zE f7).length=12:=by kernel_rfl
structure AFr(a:ε)(gr n capr:ρ)(tv ov nv:ω)(A:AS)(k:ρ):Prop where
 sz:a.tmps.size=324
 df:a.defers=[]
 s5:gA a 5=VV gr (n+1) capr
 s6:gA a 6=N M (n:ξ)
 s7:gA a 7=tv
 s8:gA a 8=ov
 s9:gA a 9=nv
 s10:gA a 10=N M A.lb
 s11:gA a 11=N M A.s.count
 s12:gA a 12=N M (k:ξ)
structure AC(w1 w:ν)(gr n:ρ)(ta oa na:δ Addr)(tl tc ol oc nc:ρ)(A:AS)(k:ρ)(x:σ)(tvs ovs:ι ω)(G:ι ρ)(nms:ι σ):Prop where
 htl:tl=V A.s.ts
 hol:ol=V A.s.O
 mem:AsM w w1.heap.size A (Y ta tl tc) (Y oa ol oc) (Y na ol nc) tvs ovs G nms
 nm:NmA A k
 bel:ψ w1.heap.size w1 w
 lt:k<n
 nn:n<2001
 row:w1.cell? ⟨gr,k,I⟩=U (E x)
 gr1:gr<w1.heap.size
 xs:x.size<=2000
def zN(w1:W)(A:AS)(k:s)(x:σ)(Q0:Exit->g->W->Prop):Prop :=
 ∀(a:g) (w:W),a.tmps.size=324->a.defers=[]->gA a 2=Y I 0 0->gA a 3=N M 2->gA a 4=N M ((k:O)+1)->eN A ((k:O)+1) x.toList=I->ψ w1.heap.size w1 w->Q0 .ret a w
def CU(w1:W)(gr n capr:s)(A:AS)(k:s)(x:σ)(K0:g->W->Prop):Prop :=
 ∀(a:g) (w:W) (A':AS) (tv ov nv:r) (tvs ovs:z r) (G:z s) (nms:z σ),eN A ((k:O)+1) x.toList=U A'->RdM w w1.heap.size tv ov A'.s.ts A'.s.O tvs ovs G->w.ownsRow w1.heap.size 9 1 nv (V nms) (nms.map xa)->nms.map xR=A'.nm->ψ w1.heap.size w1 w->AFr a gr n capr tv ov nv A' k->K0 a w
structure AP(w1 w:ν)(a:ε)(gr n capr:ρ)(tv ov nv:ω)(A:AS)(k gx:ρ)(xl:Lh)(bv:ω)(b:ι Tree)(tvs ovs:ι ω)(G F:ι ρ)(nms:ι σ):Prop where
 fr:AFr a gr n capr tv ov nv A k
 s16:gA a 16=.pointer (U ⟨gx,0,I⟩)
 mem:RdM w w1.heap.size tv ov A.s.ts A.s.O tvs ovs G
 ln:XN w gx xl bv
 kids:WX w w1.heap.size bv b F
 dis:∀j∈F,j∉G
 nm:w.ownsRow w1.heap.size 9 1 nv (V nms) (nms.map xa)
 eq:nms.map xR=A.nm
 bel:ψ w1.heap.size w1 w
def MI(w1:W)(gr n capr:ρ)(A:AS)(k:ρ)(x:σ)(K:g->W->Prop):Prop :=
 ∀(A2:AS) (xl:Lh) (b:z Tree) (a:g) (w:W) (tv ov nv:r) (gx:ρ) (bv:r) (tvs ovs:z r) (G F:z ρ) (nms:z σ),eN A ((k:O)+1) x.toList=U {A2 with s:=R.put A2.s (.mk xl b)}->A2.s.ts=A.s.ts->AP w1 w a gr n capr tv ov nv A2 k gx xl bv b tvs ovs G F nms->K a w
theorem MC{W0 g:W}{nv:r}{d:z r}(h:w.ownsRow B 9 1 nv m d)(q:w.ownsRow B e sz v n xs)(p:∀k,k<w.heap.size->W0.heap[k]?=w.heap[k]?)(o:w.heap.size<=W0.heap.size)(c:W0.grownBy g v.ownBlock)(j:e≠9):g.ownsRow B 9 1 nv m d :=
 bH h λk e=>by grind [gK,rM]
def AC.q{tl:ρ}{x:σ}(c:AC w1 w gr n ta oa na tl tc ol oc nc A k x tvs ovs G nms):tl<=4/\ol<=2/\0<=A.s.count/\A.s.count<=40/\0<=A.lb/\A.lb<2001/\w1.heap.size<=w.heap.size/\V nms=ol:=by
 have h:=c.mem.sz;have j:=h.sum;have o:=VL A.s.ts;have p:=SK A.s.O;have g:=c.nm.lb0;have q:=c.nm.lbk;have r:=c.lt;have t:=c.nn;have d:=congrArg List.length c.mem.eq;rw[xn,c.nm.len,<- c.hol]at d;refine⟨by rw[c.htl];exact h.nth,by rw[c.hol];exact h.nop,by omega,h.VY,g,by omega,c.bel.size,d⟩
theorem agA{tl:ρ}{x:σ}(c:AC w1 w gr n ta oa na tl tc ol oc nc A k x tvs ovs G nms)(s:AFr a gr n capr (Y ta tl tc) (Y oa ol oc) (Y na ol nc) A k){Q:Exit->ε->ν->Prop}(h:aC (∀a,AFr a gr n capr (Y ta tl tc) (Y oa ol oc) (Y na ol nc) A k->gA a 13=E x->gA a 59=J (thB x.toList).isSome->bC φ ((zL f7).drop 2) Q a w)):
  bC φ ((zL f7).drop 0) Q a w:=by
 have q:=cK c.bel c.gr1 c.row;have z:=c.lt;have C:=c.nn;have t:gr<w.heap.size:=by have:=c.gr1;have:=c.bel.size;omega
 have y:(k:ξ)<n+1:=by omega
 have HB:aC ((thB x.toList).isSome=(x.toList==[46,116,104,114,101,97,100,32,48]||x.toList==[46,116,104,114,101,97,100,32,49])):=by
  grind [aC,thB]
 obtain⟨sz,r,L,O,W,X,s9,g,j,p⟩:=s;refine aH Z λK d=>?_;rw[mW sz r];simp only[kX,L,O,W,X,s9,g,j,p];go_wp2_with fail;apply d;clear d;generalize gA a=f
 cases h0:x.toList==[46,116,104,114,101,97,100,32,48]
 ·cases h1:x.toList==[46,116,104,114,101,97,100,32,49]
  all_goals
   refine aH Z λK d=>?_;go_wp2_with fail;apply d;clear d;exact h _ ⟨Z,Z,Z,Z,Z,Z,Z,Z,Z,Z⟩ Z (by rw[HB.o,h0,h1];rfl)
 ·refine aH Z λK d=>?_;go_wp2_with fail;apply d;clear d;exact h _ ⟨Z,Z,Z,Z,Z,Z,Z,Z,Z,Z⟩ Z (by rw[HB.o,h0];rfl)
theorem agT{tl:ρ}{x:σ}(c:AC w1 w gr n ta oa na tl tc ol oc nc A k x tvs ovs G nms)(hf:AFr a gr n capr (Y ta tl tc) (Y oa ol oc) (Y na ol nc) A k)(hE:aC (zN w1 A k x Q0))(hN:aC (CU w1 gr n capr A k x K0))(aa:gA a 13=E x)(ab:gA a 59=J T){b:O}(p:thB x.toList=U b):
  bC φ ((zL f7).drop 2) (xF 1 (Exit.then K0 Q0)) a w:=by
 obtain⟨q1,q2,_,_,_,_,q3,q4⟩:=c.q;have ao:=c.lt;have ap:=c.nn;have z:aC (eN A ((k:O)+1) x.toList=if A.s.O.isEmpty&&!(V A.s.ts==4)then U {A with s:={A.s with ts:=A.s.ts++[⟨b,[],(k:O)+1⟩],count:=0} }else I):=by grind [aC,eN]
 have ag:x=⟨#[46,116,104,114,101,97,100,32,48]⟩/\b=0\/x=⟨#[46,116,104,114,101,97,100,32,49]⟩/\b=1:=by
  rw[<- CV x];unfold thB at p
  split at p
  ·rename_i h;rw[h];injection p with p;exact .inl ⟨Z,p.symm⟩
  ·rename_i h;rw[h];injection p with p;exact .inr ⟨Z,p.symm⟩
  ·cases p
 obtain⟨sz,df,s5,s6,s7,s8,s9,ah,ai,aj⟩:=hf;refine aH Z λK _=>?_;rw[mW sz df];simp only[kX,s5,s6,s7,s8,s9,ah,ai,aj,aa,ab];generalize gA a=f;by_cases hol:ol=0
 ·have y:A.s.O=[]:=List.length_eq_zero_iff.1 (by rw[<- c.hol];exact hol);subst hol;by_cases htl:tl=4
  ·have HR:aC (eN A ((k:O)+1) x.toList=I):=by unfold aC;rw[z.o,<- c.htl,htl];simp
   subst htl;go_wp2_with fail;exact hE _ _ Z Z Z Z Z HR c.bel
  ·have HR:aC (eN A ((k:O)+1) x.toList=U {A with s:={A.s with ts:=A.s.ts++[⟨b,[],(k:O)+1⟩],count:=0} }):=by unfold aC;rw[z.o,<- c.htl,y];simp[htl]
   have an:((tl:O)==4)=D:=by simp;omega
   have hm:RdM w w1.heap.size (Y ta tl tc) (Y oa 0 oc) A.s.ts [] tvs ovs G:=by have:=c.mem.mem;rw[y]at this;exact this
   have g:aC (w.ownsRow w1.heap.size 50 3 (Y ta tl tc) tl (ZN A.s.ts tvs)):=by have:=hm.th;rw[<- c.htl]at this;exact this
   obtain⟨i0,hi,L,W,X⟩:=ζ Tryz.infoTh;have HM:=aD hm;clear hm htl
   rcases ag with⟨rfl,rfl⟩|⟨rfl,rfl⟩
   all_goals
    go_wp2_with(first
     |(at_builtin;refine η _ Z (.tmp 70) (.tmp 78) 33 Z w1.heap.size 50 i0 (.agg #[N M 0,Y I 0 0,N M 0]) 3 40 underlying33 hi L W X Z (by decide) _ _ _ Z (g.alloc _) ⟨w.heap.size,0,I⟩ 1 1 [N M 0,Y I 0 0,N M ((k:O)+1)] Z Z (by exact xb (cs:=#[N M 0,Y I 0 0,N M ((k:O)+1)]) (t:=50) (fr:=(0,0)) (τ w _)) ?c2 (by decide) ?c3 ?c4 ?c5 _ Z ?_)
     |(at_builtin;refine η _ Z (.tmp 70) (.tmp 78) 33 Z w1.heap.size 50 i0 (.agg #[N M 0,Y I 0 0,N M 0]) 3 40 underlying33 hi L W X Z (by decide) _ _ _ Z (g.alloc _) ⟨w.heap.size,0,I⟩ 1 1 [N M 1,Y I 0 0,N M ((k:O)+1)] Z Z (by exact xb (cs:=#[N M 1,Y I 0 0,N M ((k:O)+1)]) (t:=50) (fr:=(0,0)) (τ w _)) ?c2 (by decide) ?c3 ?c4 ?c5 _ Z ?_))
    case c2=>simp[xo]
    case c3=>unfold maxLen;omega
    case c4=>omega
    case c5=>omega
    intro g1 ak w4 r d ac al;have ae:=RdM.j HM (λj C=>xW _ _ _ C) (by simp) (by rw[<- c.htl];exact r) d;have ad:ψ w1.heap.size w1 w4:=xc (c.bel.alloc q3 _) d (by simp;omega) λj C=>(g.lt j C).1;have af:=MC c.mem.nm g (λj C=>xW _ _ _ C) (by simp) d (by decide);clear r d ac;go_wp2_with fail;exact hN _ _ _ _ _ _ _ _ _ nms HR (by rw[y];exact ae) af c.mem.eq ad ⟨Z,Z,Z,Z,Z,Z,Z,Z,Z,Z⟩
 ·have HR:aC (eN A ((k:O)+1) x.toList=I):=by
   have:A.s.O.isEmpty=D:=by cases e:A.s.O with
    |nil=>exact absurd (by rw[c.hol,e];rfl) hol
    |cons _ _=>rfl
   grind
  have am:(0:O)<ol:=by omega
  clear hol;go_wp2_with fail;exact hE _ _ Z Z Z Z Z HR c.bel
namespace R
def rO(A:AS)(l:z θ):Bool:=match A.nm.getLast? with
 |some n=>l==n++[58]
 |none=>D
theorem kJh(h:thB l=I)(c:A.s.ts=[]):eN A i l=I:=by
 grind [eN]
theorem I7(h:thB l=I)(c:A.s.ts≠[])(d:rO A l=D):eN A i l=kQ A l:=by
 have e:A.s.ts.isEmpty=D:=by cases h:A.s.ts with
  |nil=>exact absurd h c
  |cons _ _=>rfl
 unfold eN;rw[h];simp only[e,Bool.false_eq_true,if_false]
 split
 ·simp_all [rO]
 ·rfl
theorem kKq{nn:z θ}{fs:z Fr}{c:z (z θ)}(h:thB l=I)(d:A.s.ts≠[])(o:A.s.O=fs++[f])(j:A.nm=c++[nn])(g:l=nn++[58]):eN A i l=U {A with s:=put {A.s with O:=fs} (.mk (gH f.a) f.l),nm:=c}:=by
 have e:A.s.ts.isEmpty=D:=by cases h:A.s.ts with
  |nil=>exact absurd h d
  |cons _ _=>rfl
 unfold eN
 grind
def kLI(A:AS):kQ A []=I:=by
 have h:(iJ []).2=D:=by decide
 unfold kQ
 split
 ·rfl
 ·rw[if_neg (by decide),h];rfl
end R
theorem agN{tl:s}{x:σ}(c:AC w1 w gr n ta oa na tl tc ol oc nc A k x tvs ovs G nms)(hf:AFr a gr n capr (Y ta tl tc) (Y oa ol oc) (Y na ol nc) A k)(hE:aC (zN w1 A k x Q0))(W:gA a 13=E x)(X:gA a 59=J D)(hb:thB x.toList=I)(h:aC (∀(a:ε) (w2:ν),A.s.ts≠[]->x.toList≠[]->ψ w.heap.size w w2->XN w2 w.heap.size z0 (Y I 0 0)->AFr a gr n capr (Y ta tl tc) (Y oa ol oc) (Y na ol nc) A k->gA a 13=E x->gA a 15=N M ((ol:ξ)-1)->gA a 16=.pointer (U ⟨w.heap.size,0,I⟩)->gA a 104=J (rO A x.toList)->bC φ ((zL f7).drop 8) (xF 1 (Exit.then K0 Q0)) a w2)):
  bC φ ((zL f7).drop 2) (xF 1 (Exit.then K0 Q0)) a w:=by
 obtain⟨q1,q2,_,_,_,_,q3,q4⟩:=c.q;have ai:=c.lt;have ak:=c.nn;obtain⟨sz,df,s5,s6,s7,s8,s9,ac,ad,ae⟩:=hf;refine aH Z λK HK=>?_;rw[mW sz df];simp only[kX,s5,s6,s7,s8,s9,ac,ad,ae,W,X];generalize gA a=f;go_wp2_with fail;apply HK;clear HK;by_cases htl:tl=0
 ·have HR:aC (eN A ((k:ξ)+1) x.toList=I):=kJh hb (List.length_eq_zero_iff.1 (by rw[<- c.htl];exact htl));subst htl;refine aH Z λg d=>?_;go_wp2;apply d.o;refine aH Z λg _=>?_;go_wp2;exact hE _ _ Z Z Z Z Z HR c.bel
 have ah:((tl:ξ)==0)=D:=by simp;omega
 have t:A.s.ts≠[]:=λe=>htl (by rw[c.htl,e];rfl)
 cases hx0:x.toList.isEmpty
 rotate_left
 ·have HR:aC (eN A ((k:ξ)+1) x.toList=I):=by
   have e:x.toList=[]:=List.isEmpty_iff.1 hx0;unfold aC;rw[I7 hb t (by rw[e];unfold rO;split<;>simp),e,kLI]
  refine aH Z λg d=>?_;go_wp2;apply d.o;refine aH Z λg _=>?_;go_wp2;exact hE _ _ Z Z Z Z Z HR c.bel
 have C:x.toList≠[]:=λe=>by grind
 refine aH Z λg d=>?_;go_wp2;apply d.o;refine aH Z λg d=>?_;go_wp2;apply d.o;have hX:=XN.new w z0 (Y I 0 0);have HX:=aD hX;clear hX htl;by_cases hol:ol=0
 ·have L:rO A x.toList=D:=by
   have:A.nm=[]:=List.length_eq_zero_iff.1 (by rw[c.nm.len,<- c.hol];exact hol)
   grind [rO]
  subst hol;refine aH Z λg d=>?_;go_wp2;apply d.o;refine aH Z λg d=>?_;go_wp2;apply d.o;refine aH Z λg d=>?_;go_wp2;apply d.o;exact h _ _ t C bB HX ⟨Z,Z,Z,Z,Z,Z,Z,Z,Z,Z⟩ Z Z Z (by rw[L];rfl)
 ·obtain⟨m,rfl⟩:∃m,ol=m+1:=⟨ol-1,by omega⟩;have j:=c.mem.nm;rw[q4]at j;obtain⟨O,cap,he,_,aa⟩:=j.form (by omega);simp only[Value.slice.injEq,true_and]at he;obtain⟨rfl,rfl⟩:=he;obtain⟨z,_,_⟩:=vH j q4;obtain⟨ns,y,rfl⟩:=mQ nms (by grind);have r:=z m y (by grind);rw[x2]at r;have ag:∀o:Obj,(w.alloc o).cell? ⟨O,m,I⟩=U (E y):=λo=>(((Below.refl w.heap.size w).alloc (Nat.le_refl _) o).cell (p:=⟨O,m,I⟩) aa).trans r
  have L:rO A x.toList=(x.toList==(y++(⟨#[58]⟩:σ)).toList):=by
   unfold rO;rw[<- c.mem.eq,tZ,bI];simp
  have al:y.size<=5:=by
   have:=c.nm.nms y.toList (by rw[<- c.mem.eq];simp)
   grind [cV]
  have ab:((m+1:s):ξ)-1=(m:ξ):=by omega
  have aj:(m:ξ)<((m+1:s):ξ):=by omega
  have af:O<w.heap.size+1:=by omega
  clear z r j;refine aH Z λg d=>?_;go_wp2;apply d.o;refine aH Z λg d=>?_;go_wp2;apply d.o
  cases hq:x.toList==(y++(⟨#[58]⟩:σ)).toList
  all_goals
   rw[hq]at L;refine aH Z λg d=>?_;go_wp2;apply d.o;exact h _ _ t C bB HX ⟨Z,Z,Z,Z,Z,Z,Z,Z,Z,Z⟩ Z (by show Value.int IntKind.i64 _=_;rw[ab]) Z (by rw[L];rfl)
theorem agL{tl:ρ}{x:σ}(c:AC w1 w gr n ta oa na tl tc ol oc nc A k x tvs ovs G nms)(hf:AFr a gr n capr (Y ta tl tc) (Y oa ol oc) (Y na ol nc) A k){Q:Exit->g->ν->Prop}(hP:aC (MI w1 gr n capr A k x λa w=>bC φ ((zL f7).drop 9) Q a w))(hb:thB x.toList=I)(aA:A.s.ts≠[])(B2:ψ w.heap.size w w2)(hX:aC (XN w2 w.heap.size z0 (Y I 0 0)))(ap:gA a 13=E x)(ah:gA a 15=N M ((ol:ξ)-1))(aq:gA a 16=.pointer (U ⟨w.heap.size,0,I⟩))(ag:gA a 104=J T)(hl:rO A x.toList=T):
  bC φ ((zL f7).drop 8) Q a w2:=by
 obtain⟨q1,q2,_,_,_,_,q3,q4⟩:=c.q;have ay:nms≠[]:=λe=>by
  have:=c.mem.eq
  grind [rO]
 obtain⟨ns,nn,rfl⟩:=mQ nms ay;obtain⟨m,rfl⟩:∃m,ol=m+1:=⟨ol-1,by simp at q4;omega⟩;have hm:V ns=m:=by simpa using q4
 have az:A.s.O≠[]:=λe=>by grind [AC.hol]
 obtain⟨fs,f,ho⟩:=mQ A.s.O az;have ac:V fs=m:=by grind [AC.hol]
 have ak:ovs≠[]:=λe=>by have:=c.mem.mem.lo;rw[e,ho]at this;simp at this
 obtain⟨al,u,rfl⟩:=mQ ovs ak;have HR:aC (eN A ((k:ξ)+1) x.toList=U {A with s:=R.put {A.s with O:=fs} (.mk (gH f.a) f.l),nm:=ns.map xR}):=by
  have L:=c.mem.eq;rw[x1,x4,x8]at L;refine kKq (nn:=nn.toList) hb aA ho L.symm ?_
  grind [rO]
 have d:=c.mem.mem;rw[ho]at d;have ae:V al=V fs:=by simpa using d.lo
 have t:=d.fr;rw[show(fs++[f]).length=m+1 by simp[ac]]at t;obtain⟨bo,cap,L,_,av⟩:=t.form (by omega);simp only[Value.slice.injEq,true_and]at L;obtain⟨rfl,rfl⟩:=L;have ab:∀j,j<10->w2.cell? ⟨bo,m*10+j,I⟩=(vK f.a u)[j]?:=λj hj=>by
  rw[B2.cell (p:=⟨bo,m*10+j,I⟩) av,t.cellAt _ (by omega),IJ _ _ _ _ ae,xj (by grind [AX]),AX _ _ ae,ac,show m*10+j-m*10=j by omega];simp[ZS]
 have aj:w2.rangeAt bo (m*10+1) (cO (gH f.a) (Y I 0 0)).toList:=by
  intro j v hv;have hj:j<9:=(List.getElem?_eq_some_iff.1 hv).1
  simp_all [Nat.add_comm,vK]
 have aB:w2.cell? ⟨bo,m*10,I⟩=U u:=by
  simp_all [vK]
 have au:bo≠w.heap.size:=by omega
 have ai:bo<w2.heap.size:=by have:=B2.size;omega
 obtain⟨Ga,F,W,y,C⟩:=RdM.RQ (n:=m) d ac.symm;have aw:m+1<=oc:=by
  rcases t.2 with⟨h',_⟩|⟨g',aL,ao,h',_,_,aS,_⟩
  ·simp at h'
  grind
 have aE:∃a c,u=Y a (V f.l) c:=by
  obtain⟨aV,aF⟩:=y.zT
  rcases aF.2 with⟨e,h0⟩|⟨k,c,ao,e,_⟩
  ·grind
  ·exact⟨_,c,e⟩
 obtain⟨ua,uc,rfl⟩:=aE;have r:=c.mem.nm;rw[q4]at r;obtain⟨bn,aM,L,_,aP⟩:=r.form (by omega);simp only[Value.slice.injEq,true_and]at L;obtain⟨rfl,rfl⟩:=L;obtain⟨_,aN,_⟩:=vH r q4;rw[x1]at r;have af:=Hw r (by simp[hm]);rw[<- hm]at af;have ax:((m+1:ρ):ξ)-1=(m:ξ):=by omega
 have aR:(m:ξ)<((m+1:ρ):ξ):=by omega
 have h3:m<=oc:=by omega
 have h4:m<=nc:=by omega
 have HP:=aD W;have HL:=aD y;have HD:=aD C;have am:=aD aj;have X:=aD af;have aO:aC (ns.map xR=ns.map xR):=Z;clear W y C aj af r ab t d ae hl;rw[ax]at ah;obtain⟨sz,df,s5,s6,s7,s8,s9,aI,aJ,aK⟩:=hf;refine aH Z λK HK=>?_;rw[mW sz df];simp only[kX,s5,s6,s7,s8,s9,aI,aJ,aK,ap,ah,aq,ag];generalize gA a=ff;go_wp2_with(first
  |(refine zEr (.tmp 108) Z Z bo (m*10+1) (gH f.a) (Y I 0 0) Z am ?_)
  |(refine xY (.tmp 16) (.tmp 109) Z Z w.heap.size z0 (gH f.a) (Y I 0 0) (Y I 0 0) Z Z Z hX ?_;intro w4 z ad;have an:=aD z;have aT:=(xk (w:=w2) (a:=⟨bo,m*10,I⟩) (ad.block bo ai (by simpa using au))).trans aB;have aQ:=z.F.2.1;have aU:=z.F.2.2.2.2.2.2.2.2.2.2;have G4:=aD ad;clear ad z))
 apply HK;have aG:=an.vY (Y ua (V f.l) uc);have G5:=kZ G4 8 (Y ua (V f.l) uc);have aa:∀j,j<w.heap.size->(w4.setCell ⟨w.heap.size,8,I⟩ (Y ua (V f.l) uc)).heap[j]?=w.heap[j]?:=λj hj=>by
  grind [World.grownBy.block,Below.block]
 have ar:ψ w1.heap.size w1 (w4.setCell ⟨w.heap.size,8,I⟩ (Y ua (V f.l) uc)):=sH (c.bel.trans (B2.mono q3)) G5 q3;exact hP {A with s:={A.s with O:=fs},nm:=ns.map xR} (gH f.a) f.l _ _ _ _ _ _ _ _ _ _ _ ns HR Z ⟨⟨Z,Z,Z,Z,Z,Z,Z,Z,Z,Z⟩,Z,HP.keep aa,aG,HL.keep λj hj=>aa j (HL.gV j hj).2,HD,bH (by rw[hm]at X⊢;exact X) λj e=>aa j (X.lt j e).2,Z,ar⟩
def aL8:(zL f7).getD 8 .skip=.cond (.tmp 104) (QC ((zL f7).getD 8 .skip)) (KS ((zL f7).getD 8 .skip)):=by kernel_rfl
def RY:(zE f7).getD 4 .skip=.cond (.tmp 135) (QC ((zE f7).getD 4 .skip)) (KS ((zE f7).getD 4 .skip)):=by kernel_rfl
def I8:KS ((zE f7).getD 4 .skip)=.skip:=by kernel_rfl
theorem zOu(x:σ)(j:s)(h:j<=x.size)(c:W):(Instr.slice 9 (E x) I (U (N M (j:O))) I).run φ c=.ok (E (x.extract 0 j)) c:=by
 simp_all [χ]
theorem agE{tl:ρ}{x:σ}(c:AC w1 w gr n ta oa na tl tc ol oc nc A k x tvs ovs G nms)(hf:AFr a gr n capr (Y ta tl tc) (Y oa ol oc) (Y na ol nc) A k)(hE:aC (zN w1 A k x Q0))(HA:aC (eN A ((k:ξ)+1) x.toList=kQ A x.toList))(B2:ψ w.heap.size w w2)(C:gA a 13=E x)(L:gA a 16=.pointer (U ⟨w.heap.size,0,I⟩))(p:gA a 104=J D)(h:aC (∀(a:ε) (K:ε->ν->Prop),A.s.count<40->AFr a gr n capr (Y ta tl tc) (Y oa ol oc) (Y na ol nc) {A with s:={A.s with count:=A.s.count+1} } k->gA a 13=E x->gA a 16=.pointer (U ⟨w.heap.size,0,I⟩)->(mR x.toList=T->bC φ ((zZ f7).drop 0) (Exit.then K (xF 1 (Exit.then K0 Q0))) a w2)/\(mR x.toList=D->aC (∀a w,bC φ ((zL f7).drop 9) (xF 1 (Exit.then K0 Q0)) a w->K a w)->bC φ ((zE f7).drop 5) (Exit.then K (xF 1 (Exit.then K0 Q0))) a w2))):
  bC φ ((zL f7).drop 8) (xF 1 (Exit.then K0 Q0)) a w2:=by
 obtain⟨q1,q2,q5,q6,q7,q8,q3,q4⟩:=c.q;have ac:=c.lt;have ad:=c.nn;refine rS 8 (by rw[SY];decide) λz r=>?_;rw[aL8];refine κ p (fU _ _ _ _ ?_);show bC φ ((zE f7).drop 0) (Exit.then z (xF 1 (Exit.then K0 Q0))) a w2;have j:=aD r;clear r;obtain⟨sz,df,s5,s6,s7,s8,s9,X,aa,ab⟩:=hf;refine aH Z λK1 HK=>?_;rw[mW sz df];simp only[kX,s5,s6,s7,s8,s9,X,aa,ab,C,L];generalize gA a=f;go_wp2_with fail;apply HK;clear HK;by_cases hc:A.s.count<40
 rotate_left
 ·have HR:aC (eN A ((k:ξ)+1) x.toList=I):=by unfold aC;rw[HA.o];unfold kQ;rw[if_pos (by omega)]
  have W:(40:ξ)<A.s.count+1:=by omega
  clear hc;refine aH Z λg d=>?_;go_wp2;apply d.o;refine aH Z λg _=>?_;go_wp2;exact hE _ _ Z Z Z Z Z HR (c.bel.trans (B2.mono q3))
 have W:¬(40:ξ)<A.s.count+1:=by omega
 refine aH Z λg d=>?_;go_wp2;apply d.o;refine aH Z λg d=>?_;go_wp2;apply d.o;by_cases h3:3<x.size
 ·have O:(3:ξ)<x.size:=by omega
  have r1:=zOu x 3 (by omega);have HB:aC (mR x.toList=((x.extract 0 3).toList==[98,122,32])):=by
   grind [aC,mR,mX,cV]
  cases hq:(x.extract 0 3).toList==[98,122,32]
  all_goals
   rw[hq]at HB;refine aH Z λg d=>?_;go_wp2;apply d.o
  ·refine rS 4 (by rw[VG];decide) λy t=>?_;rw[RY,I8];refine κ Z (wp_skip (t _ _ ?_));exact(h _ z hc ⟨Z,Z,Z,Z,Z,Z,Z,Z,Z,Z⟩ Z Z).2 HB j
  ·refine rS 4 (by rw[VG];decide) λy t=>?_;rw[RY];refine wp_cond_true Z (wp_mono (fU _ _ _ _ ((h _ y hc ⟨Z,Z,Z,Z,Z,Z,Z,Z,Z,Z⟩ Z Z).1 HB)) ?_);intro e a w hh
   cases e<;>exact hh
 ·have O:¬(3:ξ)<x.size:=by omega
  have HB:aC (mR x.toList=D):=by grind [aC,mR,cV]
  refine aH Z λg d=>?_;go_wp2;apply d.o;refine rS 4 (by rw[VG];decide) λy t=>?_;rw[RY,I8];refine κ Z (wp_skip (t _ _ ?_));exact(h _ z hc ⟨Z,Z,Z,Z,Z,Z,Z,Z,Z,Z⟩ Z Z).2 HB j
namespace R
def vR(rs:z σ)(want:z θ)(ol:s):Bool:=(match rs with
 |[e]=>e.toList==want
 |_=>D)&&decide (ol<2)
theorem kMy{d:σ}{c:z σ}(o:A.s.count<40)(g:mR l=T)(j:d.toList::c.map xR=bF 32 (l.drop 3)):kQ A l=if vR c (YJ (A.lb+1)) (V A.s.O)&&decide (2<=d.size)&&d.toList.getLast?==U 44&&(bV (bN 97 d.toList.dropLast)).2 then U ⟨{A.s with count:=A.s.count+1,O:=A.s.O++[⟨[],(bV (bN 97 d.toList.dropLast)).1⟩]},A.nm++[YJ (A.lb+1)],A.lb+1⟩else I:=by
 unfold kQ;rw[if_neg (by omega),if_pos g];unfold zX vR;rw[<- j]
 match c with
 |[]=>simp
 |[e] =>
  simp only[x4,x8,cV];by_cases q1:e.toList=YJ (A.lb+1)
  ·grind
  ·simp[q1]
 |e::f::r=>simp
end R
theorem zPH{tl:ρ}{A1:AS}{x:σ}(c:AC w1 w gr n ta oa na tl tc ol oc nc A k x tvs ovs G nms)(L:A1.lb=A.lb)(hf:AFr a gr n capr (Y ta tl tc) (Y oa ol oc) (Y na ol nc) A1 k){Q:Exit->ε->ν->Prop}(ay:mR x.toList=T)(ao:gA a 13=E x)(h:aC (∀(a:ε) (w3:ν) (g nw cap:ρ) (d:σ) (rs:ι σ) (p:σ),ψ w2.heap.size w2 w3->d.toList::rs.map xR=bF 32 (x.toList.drop 3)->p.toList=YJ (A.lb+1)->w3.cell? ⟨g,0,I⟩=U (E d)->g<w3.heap.size->d.size<=2000->1<=nw->AFr a gr n capr (Y ta tl tc) (Y oa ol oc) (Y na ol nc) A1 k->gA a 17=VV g nw cap->gA a 18=E p->gA a 19=J (vR rs (YJ (A.lb+1)) ol)->gA a 20=N M ((d.size:ξ)-1)->bC φ ((zZ f7).drop 4) Q a w3)):
  bC φ ((zZ f7).drop 0) Q a w2:=by
 obtain⟨q1,q2,q5,q6,q7,q8,q3,q4⟩:=c.q;have aJ:3<x.size:=by
  simp_all [mR,cV]
 have aK:=c.xs;have aA:(x.extract 3 x.size).size<=2000:=by grind [UA]
 have ax:aC ((x.extract 3 x.size).toList=x.toList.drop 3):=by
  simp_all [aC,mX,List.take_of_length_le,cV]
 obtain⟨sz,df,s5,s6,s7,s8,s9,aj,ar,au⟩:=hf;rw[L]at aj;rw[mW sz df];simp only[kX,s5,s6,s7,s8,s9,aj,ar,au,ao];generalize gA a=f;refine aH Z λs j=>?_;go_wp2_with(first|(go_at_call 13;refine(IU (x.extract 3 x.size) 32 _ (by omega)).mono ?_;rintro e w3 ⟨g,cap,nw,d,rs,rfl,ak,ab,ag,aF,aG,af⟩;obtain⟨ai,aw,aB⟩:=vH ab (by simp;omega);have an:=aD ai;have ae:=aD ag;clear ai ab ag));apply j.o;have aa:d.size<=2000:=by
  have h9:=CC 32 (x.extract 3 x.size).toList d.toList (by rw[<- ak.o];simp)
  grind [cV]
 refine aH Z λs j=>?_;go_wp2_with(first|(go_at_call 14;refine(zME (A.lb+1) _ (by omega) (by omega)).mono ?_;rintro e w4 ⟨wd,rfl,ac,ad⟩;have al:=aD ac;have aI:=ac.size;clear ac));apply j.o;have av:=ad.size;have C:g<w4.heap.size:=by omega
 obtain⟨W,_,ah⟩:=(an.X ad).head;have am:=aD ah;have O:aC (((⟨#[76]⟩:σ)++wd).toList=YJ (A.lb+1)):=by unfold aC;rw[tZ,bI,al.1];rfl
 generalize((⟨#[76]⟩:σ)++wd)=p at*;have z:ψ w2.heap.size w2 w4:=af.trans (ad.mono af.size);have y:aC (d.toList::rs.map xR=bF 32 (x.toList.drop 3)):=by grind [aC]
 have az:(0:ξ)<nw:=by omega
 clear ah;by_cases hn:nw=2
 ·obtain⟨e,rfl⟩:∃e,rs=[e]:=List.length_eq_one_iff.1 (by have:=ae.o;omega);obtain⟨ap,_,_⟩:=am.head;subst hn;rw[x2]at ap;have t:aC (vR [e] (YJ (A.lb+1)) ol=(e.toList==p.toList&&decide (ol<2))):=by grind [aC,vR]
  cases hq:e.toList==p.toList
  ·rw[hq]at t;refine aH Z λs j=>?_;go_wp2;apply j.o;refine aH Z λs j=>?_;go_wp2;apply j.o;exact h.o _ _ _ _ _ d [e] p z y.o O.o W C aa (by omega) ⟨Z,Z,Z,Z,Z,Z,Z,by rw[L];rfl,Z,Z⟩ Z Z (by rw[t.o];rfl) Z
  ·rw[hq]at t;by_cases ho:ol<2
   ·have aq:(ol:ξ)<2:=by omega
    refine aH Z λs j=>?_;go_wp2;apply j.o;refine aH Z λs j=>?_;go_wp2;apply j.o;exact h.o _ _ _ _ _ d [e] p z y.o O.o W C aa (by omega) ⟨Z,Z,Z,Z,Z,Z,Z,by rw[L];rfl,Z,Z⟩ Z Z (by rw[t.o,decide_eq_true ho];rfl) Z
   ·have aq:¬(ol:ξ)<2:=by omega
    refine aH Z λs j=>?_;go_wp2;apply j.o;refine aH Z λs j=>?_;go_wp2;apply j.o;exact h.o _ _ _ _ _ d [e] p z y.o O.o W C aa (by omega) ⟨Z,Z,Z,Z,Z,Z,Z,by rw[L];rfl,Z,Z⟩ Z Z (by rw[t.o,decide_eq_false ho];rfl) Z
 ·have aE:((nw:ξ)==2)=D:=by simp;omega
  have t:aC (vR rs (YJ (A.lb+1)) ol=D):=by
   unfold aC vR
   match rs,ae.o with
   |[],_=>rfl
   |[e],h=>simp at h;omega
   |e::f::r,_=>rfl
  refine aH Z λs j=>?_;go_wp2;apply j.o;refine aH Z λs j=>?_;go_wp2;apply j.o;exact h.o _ _ _ _ _ d rs p z y.o O.o W C aa (by omega) ⟨Z,Z,Z,Z,Z,Z,Z,by rw[L];rfl,Z,Z⟩ Z Z (by rw[t.o];rfl) Z
def RdM.GQ{W0:ν}{nv:ω}{fs:ι Fr}(h:RdM w B tv ov ts fs tvs ovs G)(p:w.ownsRow B 9 1 nv m xs)(o:∀k,k<w.heap.size->W0.heap[k]?=w.heap[k]?)(g:w.heap.size<=W0.heap.size)(d:W0.grownBy w1 nv.ownBlock):RdM w1 B tv ov ts fs tvs ovs G :=
 ⟨bH h.th λk e=>by obtain⟨c,j⟩:=gK h.th e;exact rM p o g d j (by decide),bH h.fr λk e=>by obtain⟨c,j⟩:=gK h.fr e;exact rM p o g d j (by decide),h.lt,h.lo,h.kids.keep λk e=>by obtain⟨c,j⟩:=h.kids.iL k e;exact rM p o g d j (by decide)⟩
def zPI{w3:ν}{tl:ρ}{x:σ}(c:AC w1 w gr n ta oa na tl tc ol oc nc A k x tvs ovs G nms)(hf:AFr a gr n capr (Y ta tl tc) (Y oa ol oc) (Y na ol nc) {A with s:={A.s with count:=A.s.count+1} } k)(hN:aC (CU w1 gr n capr A k x K0))(BW:ψ w.heap.size w w3){v:ξ}{C:σ}(aE:aC (C.toList=YJ (A.lb+1)))(HR:aC (eN A ((k:ξ)+1) x.toList=U ⟨{A.s with count:=A.s.count+1,O:=A.s.O++[⟨[],v⟩]},A.nm++[YJ (A.lb+1)],A.lb+1⟩))(av:gA a 18=E C)(aw:gA a 22=N M v)(ho:ol<2):
  bC φ ((zZ f7).drop 10) (Exit.then K (xF 1 (Exit.then K0 Q0))) a w3:=by
 obtain⟨q1,q2,q5,q6,q7,q8,q3,(ah:aC _)⟩:=c.q;have aN:=c.lt;have aO:=c.nn;have al:=c.bel.trans (BW.mono q3);have ax:=al.size;have HM:=aD (c.mem.mem.keep (w':=w3) λj r=>BW.block j r);have y:w.ownsRow w1.heap.size 9 1 (Y na ol nc) ol (nms.map xa):=by have:=c.mem.nm;rw[ah.o]at this;exact this
 have ac:=aD (bH y (w':=w3) λj e=>BW.block j (y.lt j e).2);have ae:aC (∀W,RdM W w1.heap.size (Y ta tl tc) (Y oa ol oc) A.s.ts A.s.O tvs ovs G->W.ownsRow w1.heap.size 54 10 (Y oa ol oc) ol (ZS A.s.O ovs)):=λW h=>by have:=h.fr;rw[<- c.hol]at this;exact this
 clear y;obtain⟨i0,hi,aP,aQ,aR⟩:=ζ Tryz.infoStr;obtain⟨i1,aB,ao,ap,aq⟩:=ζ Tryz.infoFr;obtain⟨sz,df,s5,s6,s7,s8,s9,aF,aG,aI⟩:=hf;rw[mW sz df];simp only[kX,s5,s6,s7,s8,s9,aF,aG,aI,av,aw];generalize gA a=f;refine aH Z λai g=>?_;go_wp2;apply g.o;refine aH Z λK HK=>?_;go_wp2_with(first|(at_builtin;refine qH Tryz.infoStr underlying45 Z Z (.tmp 196) (.tmp 198) Z Z Z Z Z ac (by omega) (by omega) ?_));intro g1 aJ w4 X p az aL;have ag:=aD X;have ab:=aD p;clear X p az;go_wp2_with fail;apply HK;clear HK;have af:=aD (HM.GQ ac (λj r=>xW _ _ _ r) (by simp) ab);have ak:ψ w1.heap.size w1 w4:=xc (al.alloc ax _) ab (by simp;omega) λj r=>(ac.lt j r).1;have ay:=ak.size;have aa:=aD (ae.o _ af);clear ab HM ae;refine aH Z λK HK=>?_;go_wp2_with(first|(at_builtin;refine η _ Z (.tmp 200) (.tmp 204) 47 Z w1.heap.size 54 i1 (.agg (#[Y I 0 0]++cO z0 (Y I 0 0))) 10 144 underlying47 aB ao ap aq Z (by decide) _ _ _ Z (aa.alloc _) ⟨w4.heap.size,0,I⟩ 1 1 (vK v (Y I 0 0)) Z Z ?c1 ?c2 (by decide) ?c3 ?c4 ?c5 _ Z ?_))
 case c1=>exact xb (cs:=(vK v (Y I 0 0)).toArray) (t:=54) (fr:=(0,0)) (τ w4 _)
 case c2=>simp[vK,cO,xo]
 case c3=>unfold maxLen;omega
 case c4=>omega
 case c5=>simp;omega
 intro g2 aK w5 z d aj aM;have ad:=aD z;have L:=aD d;clear z d aj;go_wp2_with fail;apply HK;clear HK;have am:=RdM.branch af (λj r=>xW _ _ _ r) (by simp) (by rw[<- c.hol];exact ad) L;have aA:ψ w1.heap.size w1 w5:=xc (ak.alloc ay _) L (by simp;omega) λj r=>(aa.lt j r).1;have an:=MC ag aa (λj r=>xW _ _ _ r) (by simp) L (by decide);have ar:=aD am;have au:=aD an;clear am an L;refine aH Z λai g=>?_;go_wp2;apply g.o;refine aH Z λai _=>?_;go_wp2;exact hN _ _ _ _ _ _ _ _ _ (nms++[C]) HR ar (by rw[x7,x1,ah.o];exact au) (by rw[x1,c.mem.eq,x4,aE.o];rfl) aA ⟨Z,Z,Z,Z,Z,Z,Z,Z,Z,Z⟩
theorem agZ{tl:ρ}{x:σ}(c:AC w1 w gr n ta oa na tl tc ol oc nc A k x tvs ovs G nms)(hf:AFr a gr n capr (Y ta tl tc) (Y oa ol oc) (Y na ol nc) {A with s:={A.s with count:=A.s.count+1} } k){K9:ε->ν->Prop}(hE:aC (zN w1 A k x Q0))(hN:aC (CU w1 gr n capr A k x K0))(HA:aC (eN A ((k:ξ)+1) x.toList=kQ A x.toList))(hc:A.s.count<40)(ae:mR x.toList=T)(B2:ψ w.heap.size w w2)(X:gA a 13=E x):
  bC φ ((zZ f7).drop 0) (Exit.then K9 (xF 1 (Exit.then K0 Q0))) a w2:=by
 obtain⟨q1,q2,q5,q6,q7,q8,q3,q4⟩:=c.q;have au:=c.lt;have aw:=c.nn;refine zPH (A1:={A with s:={A.s with count:=A.s.count+1} }) c Z hf ae X ?_;intro a w3 g nw cap d rs ap al af ag aq hg ar ax ao aa ab y ac;clear hf X;have p:aC (eN A ((k:ξ)+1) x.toList=_):=HA.trans (kMy hc ae af);rw[<- c.hol]at p;clear HA af;have ak:=aD ag;have BW:ψ w.heap.size w w3:=B2.trans (al.mono B2.size);have C:=c.bel.trans (BW.mono q3);have av:(0:ξ)<nw:=by omega
 clear ag;obtain⟨sz,df,s5,s6,s7,s8,s9,ah,ai,aj⟩:=ao;rw[mW sz df]
 cases hok:vR rs (YJ (A.lb+1)) ol
 ·rw[hok]at y p;simp only[kX,s5,s6,s7,s8,s9,ah,ai,aj,aa,ab,y,ac];generalize gA a=f;refine aH Z λr j=>?_;go_wp2;apply j.o;refine aH Z λr _=>?_;go_wp2;exact hE _ _ Z Z Z Z Z p C
 rw[hok]at y p;have ho:ol<2:=by simp_all [vR]
 simp only[kX,s5,s6,s7,s8,s9,ah,ai,aj,aa,ab,y,ac];generalize gA a=f;by_cases hd2:2<=d.size
 rotate_left
 ·have an:(d.size:ξ)-1<1:=by omega
  rw[decide_eq_false hd2]at p;refine aH Z λr j=>?_;go_wp2;apply j.o;refine aH Z λr _=>?_;go_wp2;exact hE _ _ Z Z Z Z Z p C
 have an:¬(d.size:ξ)-1<1:=by omega
 rw[decide_eq_true hd2]at p;have hw:wrap64 ((d.size:ξ)-1)=(d.size:ξ)-1:=by unfold wrap64;omega
 have az:(0:ξ)<=d.size-1:=by omega
 have aA:(d.size:ξ)-1<(d.size:ξ):=by omega
 have z:d.size-1<d.size:=by omega
 have HG:aC ((d.toList.getLast?==U 44)=(((d[d.size-1]'z).toNat:ξ)==44)):=OX d (by omega);have L:(((d[d.size-1]'z).toNat:ξ) != 44)=!(((d[d.size-1]'z).toNat:ξ)==44):=Z;rw[HG.o]at p
 cases hbc:((d[d.size-1]'z).toNat:ξ)==44
 ·rw[hbc]at L p;refine aH Z λr j=>?_;go_wp2;apply j.o;refine aH Z λr _=>?_;go_wp2;exact hE _ _ Z Z Z Z Z p C
 rw[hbc]at L p;refine aH Z λr j=>?_;go_wp2;apply j.o;refine aH Z λr j=>?_;go_wp2;apply j.o;have ay:∀wx,(Instr.slice 9 (E d) I (U (N M ((d.size:ξ)-1))) I).run φ wx=.ok (E (d.extract 0 (d.size-1))) wx:=λwx=>by
  rw[χ _ _ _ _ _ underlying9,if_pos (by omega)]
  congr 3;omega
 have HU:aC (d.toList.dropLast=(d.extract 0 (d.size-1)).toList):=by
  grind [aC,mX,List.dropLast_eq_take,cV]
 rw[HU.o]at p;clear HU HG hbc L;generalize d.extract 0 (d.size-1)=u at*;refine aH Z λr j=>?_;go_wp2_with(first|(go_at_call 15;refine(Gz u 97 _).mono ?_;rintro e w4 ⟨rfl,O⟩;have O:=O.symm;subst O;dsimp only));apply j.o;have HT:aC (bN 97 u.toList=(nA (bN 97 u.toList)).toList):=(yN _).symm;rw[HT.o]at p;clear HT;generalize nA (bN 97 u.toList)=t at*;refine aH Z λr j=>?_;go_wp2_with(first|(go_at_call 16;refine(yO t _).mono ?_;rintro e w4 ⟨rfl,am⟩;dsimp only));apply j.o;have W:=BW.trans (am.mono BW.size);have ad:=c.bel.trans (W.mono q3)
 cases hop:(bV t.toList).2
 ·rw[hop]at p;refine aH Z λr j=>?_;go_wp2;apply j.o;refine aH Z λr _=>?_;go_wp2;exact hE _ _ Z Z Z Z Z p ad
 ·rw[hop]at p;refine aH Z λr j=>?_;go_wp2;apply j.o;refine aH Z λr j=>?_;go_wp2;apply j.o;exact zPI c ⟨Z,Z,Z,Z,Z,Z,Z,Z,Z,Z⟩ hN W ak p Z Z ho
theorem R.kKF(c:A.s.count<40)(d:mR l=D):kQ A l=if(iJ l).2&&(oC (iJ l).1).2&&!(isB (oC (iJ l).1).1&&!A.s.O.isEmpty)then U {A with s:=R.put {A.s with count:=A.s.count+1} (.mk (oC (iJ l).1).1 [])}else I:=by
 simp_all [kQ,if_neg]
theorem zPJ{W:ν}{tl:ρ}{x:σ}(c:AC w1 w gr n ta oa na tl tc ol oc nc A k x tvs ovs G nms)(hf:AFr a gr n capr (Y ta tl tc) (Y oa ol oc) (Y na ol nc) {A with s:={A.s with count:=A.s.count+1} } k)(hE:aC (zN w1 A k x Q0))(hP:aC (MI w1 gr n capr A k x K)){gy:ρ}{y:Lh}{fine:Bool}(HA:aC (eN A ((k:O)+1) x.toList=if fine&&!(isB y&&!A.s.O.isEmpty)then U {A with s:=R.put {A.s with count:=A.s.count+1} (.mk y [])}else I))(X:ψ w.heap.size w W)(hX:aC (XN W w.heap.size z0 (Y I 0 0)))(hY:aC (XN W gy y (Y I 0 0)))(ai:w.heap.size<gy)(aa:gA a 16=.pointer (U ⟨w.heap.size,0,I⟩))(ab:gA a 27=.pointer (U ⟨gy,0,I⟩))(ac:gA a 28=J fine):
  bC φ ((zE f7).drop 9) (Exit.then K (xF 1 (Exit.then K0 Q0))) a W:=by
 obtain⟨q1,q2,q5,q6,q7,q8,q3,q4⟩:=c.q;have aj:=c.lt;have ak:=c.nn;have z:=c.bel.trans (X.mono q3);obtain⟨yl,_,l0,_⟩:=hY.F;have xl:=hX.lt;obtain⟨sz,df,s5,s6,s7,s8,s9,ae,af,ag⟩:=hf;rw[mW sz df];simp only[kX,s5,s6,s7,s8,s9,ae,af,ag,aa,ab,ac];generalize gA a=f;have bad:aC ((fine&&!(isB y&&!A.s.O.isEmpty))=D->eN A ((k:O)+1) x.toList=I):=λe=>by rw[HA.o,e];rfl
 have ad:A.s.O.isEmpty=decide (ol=0):=by rw[c.hol];cases A.s.O<;>simp
 cases fine
 ·refine aH Z λg d=>?_;go_wp2;apply d.o;refine aH Z λg _=>?_;go_wp2;exact hE _ _ Z Z Z Z Z (bad Z) z
 have good:aC (!(isB y&&!A.s.O.isEmpty))->aC (eN A ((k:O)+1) x.toList=U {A with s:=R.put {A.s with count:=A.s.count+1} (.mk y [])}):=λe=>by simp_all [aC]
 cases hq:y.op.toList==[98,97,114,114,105,101,114]
 ·have HR:=good (by unfold aC isB;rw[show mP.toList=[98,97,114,114,105,101,114]from bI _,hq];rfl);refine aH Z λg d=>?_;go_wp2;apply d.o;refine aH Z λg d=>?_;go_wp2;apply d.o;refine aH Z λg d=>?_;go_wp2_with(first|(refine zK (.tmp 27) Z Z gy y (Y I 0 0) Z hY ?_)|(refine xY (.tmp 16) (.tmp 235) Z Z w.heap.size z0 y (Y I 0 0) (Y I 0 0) Z Z Z hX ?_;intro w5 t r;have C:=aD t;have L:=aD r;clear t r));apply d.o;have p:∀j,j<w.heap.size->w5.heap[j]?=w.heap[j]?:=λj hj=>by
   rw[L.block j (by omega) (by simp;omega),X.block j hj]
  exact hP {A with s:={A.s with count:=A.s.count+1} } y [] _ _ _ _ _ _ _ tvs ovs G [] nms HR Z ⟨⟨Z,Z,Z,Z,Z,Z,Z,Z,Z,Z⟩,Z,c.mem.mem.keep p,C,WX.nil _ _,by simp,bH c.mem.nm λj e=>p j (c.mem.nm.lt j e).2,c.mem.eq,sH z L q3⟩
 ·by_cases hol:ol=0
  ·have HR:=good (by grind);subst hol;refine aH Z λg d=>?_;go_wp2;apply d.o;refine aH Z λg d=>?_;go_wp2;apply d.o;refine aH Z λg d=>?_;go_wp2_with(first|(refine zK (.tmp 27) Z Z gy y (Y I 0 0) Z hY ?_)|(refine xY (.tmp 16) (.tmp 235) Z Z w.heap.size z0 y (Y I 0 0) (Y I 0 0) Z Z Z hX ?_;intro w5 t r;have C:=aD t;have L:=aD r;clear t r));apply d.o;have p:∀j,j<w.heap.size->w5.heap[j]?=w.heap[j]?:=λj hj=>by
    rw[L.block j (by omega) (by simp;omega),X.block j hj]
   exact hP {A with s:={A.s with count:=A.s.count+1} } y [] _ _ _ _ _ _ _ tvs ovs G [] nms HR Z ⟨⟨Z,Z,Z,Z,Z,Z,Z,Z,Z,Z⟩,Z,c.mem.mem.keep p,C,WX.nil _ _,by simp,bH c.mem.nm λj e=>p j (c.mem.nm.lt j e).2,c.mem.eq,sH z L q3⟩
  ·have HR:=bad.o (by unfold isB;rw[show mP.toList=[98,97,114,114,105,101,114]from bI _,hq,ad];simp[hol]);have ah:(0:O)<ol:=by omega
   clear hol;refine aH Z λg d=>?_;go_wp2;apply d.o;refine aH Z λg _=>?_;go_wp2;exact hE _ _ Z Z Z Z Z HR z
theorem agS{tl:ρ}{x:σ}(c:AC w1 w gr n ta oa na tl tc ol oc nc A k x tvs ovs G nms)(hf:AFr a gr n capr (Y ta tl tc) (Y oa ol oc) (Y na ol nc) {A with s:={A.s with count:=A.s.count+1} } k)(hE:aC (zN w1 A k x Q0))(hP:aC (MI w1 gr n capr A k x K))(HA:aC (eN A ((k:ξ)+1) x.toList=kQ A x.toList))(hc:A.s.count<40)(ak:mR x.toList=D)(B2:ψ w.heap.size w w2)(hX:aC (XN w2 w.heap.size z0 (Y I 0 0)))(ah:gA a 13=E x)(ai:gA a 16=.pointer (U ⟨w.heap.size,0,I⟩)):
  bC φ ((zE f7).drop 5) (Exit.then K (xF 1 (Exit.then K0 Q0))) a w2:=by
 obtain⟨q1,q2,q5,q6,q7,q8,q3,q4⟩:=c.q;have aw:=c.lt;have ax:=c.nn;have ab:=c.bel.trans (B2.mono q3);have az:=hX.lt;have ae:x.size<=8192:=by have:=c.xs;omega
 have O:aC (eN A ((k:ξ)+1) x.toList=_):=HA.trans (kKF hc ak);clear HA;obtain⟨sz,df,s5,s6,s7,s8,s9,ao,ap,aq⟩:=hf;rw[mW sz df];simp only[kX,s5,s6,s7,s8,s9,ao,ap,aq,ah,ai];generalize gA a=f
 cases hs:(iJ x.toList).2
 ·refine aH Z λt j=>?_;go_wp2_with(first|(go_at_call 17;refine(He x _ ae).mono ?_;rintro e w3 ⟨v,rfl,_,_,C⟩;rw[hs];have p:=C.mono (Nat.le_refl _);dsimp only));apply j.o;refine aH Z λt j=>?_;go_wp2;apply j.o;refine aH Z λt _=>?_;go_wp2;exact hE _ _ Z Z Z Z Z (by rw[O.o,hs];rfl) (ab.trans (C.mono ab.size))
 ·refine aH Z λt j=>?_;go_wp2_with(first|(go_at_call 17;refine(He x _ ae).mono ?_;rintro e w3 ⟨v,rfl,_,hv,C⟩;obtain⟨g,cc,ws,rfl,an,ay,ac,ad,av⟩:=hv hs;rw[hs];have ag:=aD ad;have W:=aD ac;clear ad ac hv;dsimp only));apply j.o;have al:ws≠[]:=λe=>by
   obtain⟨c0,r0,h0,_⟩:=OZ hs;have:=W.o
   grind
  obtain⟨d,r,rfl⟩:=List.exists_cons_of_ne_nil al;have am:oC (iJ x.toList).1=jE d r:=by
   rw[<- W.o,x4];show jE (nA d.toList) ((r.map xR).map nA)=_;rw[CV,List.map_map]
   congr 1
   conv=>rhs;rw[<- List.map_id r]
   grind [List.map_congr_left,CV]
  rw[am,hs]at O;have af:aC (∀L:ν,ψ w3.heap.size w3 L->υ φ 18 #[VV g (d::r).length cc] L λe w'=>e=S (.tuple #[.agg #[E (jE d r).1.op,N M (jE d r).1.VX,N M (jE d r).1.z,N M (jE d r).1.a,N M (jE d r).1.b,E (jE d r).1.sign,E (jE d r).1.ord,E (jE d r).1.scope,Y I 0 0],J (jE d r).2])/\ψ L.heap.size L w'):=λL p =>
   Yr g 0 _ cc d r L (ag.X p) Z an (by have:=p.size;omega)
  have ar:=C.size;have aa:=B2.size;generalize(d::r).length=wl at*;refine aH Z λt j=>?_;go_wp2;apply j.o;refine aH Z λt j=>?_;go_wp2;apply j.o;refine aH Z λt j=>?_;go_wp2_with(first|(go_at_call 18;refine(af _ (Below.refl _ _)).mono ?_;rintro e L ⟨rfl,p⟩;have au:=p.size;dsimp only));apply j.o;have aj:ψ w.heap.size w (L.alloc (H (cO (jE d r).1 (Y I 0 0)) 52)):=((B2.trans (C.mono aa)).trans (p.mono (by omega))).alloc (by omega) _;exact zPJ c ⟨Z,Z,Z,Z,Z,Z,Z,Z,Z,Z⟩ hE hP (gy:=L.heap.size) (y:=(jE d r).1) (fine:=(jE d r).2) (by simpa using O) aj (((hX.X C).X p).alloc _) (XN.new _ _ _) (by omega) Z Z Z
theorem zPK{nv:ω}{x:σ}(y:AP w1 w a gr n capr tv ov nv A2 k gx xl bv b tvs ovs G F nms)(hN:aC (CU w1 gr n capr A k x K0))(HR:aC (eN A ((k:O)+1) x.toList=U {A2 with s:=R.put A2.s (.mk xl b)}))(hz:SzA (R.put A2.s (.mk xl b)))(aG:A2.s.ts≠[])(ho:A2.s.O=[]):
  bC φ ((zL f7).drop 9) (xF 1 (Exit.then K0 (Exit.then P9 (xF 0 (Exit.then K8 (π φ f7 R0)))))) a w:=by
 obtain⟨i0,hi,aI,aJ,aK⟩:=ζ Tryz.infoLn;obtain⟨p,t,aq⟩:=mQ A2.s.ts aG;have aU:=y.ln.lt;have q3:=y.bel.size;have d:=y.mem;rw[aq,ho]at d;obtain⟨aO,ut,rfl⟩:=mQ tvs (by intro e;have:=d.lt;rw[e]at this;simp at this);have al:V aO=V p:=by simpa using d.lt
 have X:=d.th;simp only[x7,x5,x9,x2]at X;obtain⟨q,tc,rfl,aj,ak⟩:=X.form (by omega);have ae:=d.kids;have aF:ovs=[]:=List.length_eq_zero_iff.1 d.lo;subst aF;simp only[xi,x1,x4,x8]at ae;have ac:=d.fr;obtain⟨oa,oc,rfl⟩:∃a c,ov=Y a 0 c:=by
  rcases ac.2 with⟨e,_⟩|⟨j,cc,ag,e,_⟩
  ·exact⟨I,0,e⟩
  ·exact⟨_,cc,e⟩
 have r:=X;have ai:=ak;have aB:w.cell? ⟨q,V p*3+1,I⟩=U ut:=by
  rw[r.cellAt _ (by omega),TJ _ _ _ _ al,xj (by grind [TE]),TE _ _ al,show V p*3+1-V p*3=1 by omega];rfl
 have aE:=r.frozenAt (V p*3+1);obtain⟨_,Fu,_,_,ap,_⟩:=XX.last ae;obtain⟨xs,L⟩:=ap.zT;obtain⟨ua,uc,rfl⟩:∃a cc,ut=Y a (V t.body) cc:=by
  rcases L.2 with⟨e,h0⟩|⟨j,cc,ag,e,_⟩
  ·grind
  ·exact⟨_,cc,e⟩
 have W:R.put A2.s (.mk xl b)={A2.s with ts:=p++[{t with body:=t.body++[.mk xl b]}]}:=by
  simp_all [R.put,LV]
 have aR:V p<4:=by have:=hz.nth;rw[W]at this;simp at this;omega
 have aT:WV t.body<=40:=by
  have h8:=hz.all;rw[W]at h8;have h9:=h8 _ (List.mem_append_right _ (List.mem_singleton.2 Z));simp only[]at h9;rw[JA]at h9;have:=FO b;omega
 have aa:=aD d;have az:bv.oneCell'=T:=y.kids.cT;have HO:aC ((w.drew.alloc (H (cO xl bv) 52)).ownsRow w1.heap.size 52 9 (Y ua (V t.body) uc) (V t.body) xs):=(L.drew).alloc _;have av:aC (∀j u,(cO xl bv).toList[j]?=U u->(w.drew.alloc (H (cO xl bv) 52)).cell? ((⟨w.heap.size,0,I⟩:Addr).add j)=U u):=xb (t:=52) (fr:=(0,0)) (by have:=τ w.drew (H (cO xl bv) 52);simpa using this);have eb:(w.drew.alloc (H (cO xl bv) 52)).heap[q]?=w.heap[q]?:=xW _ _ _ ai;have HC:aC ((w.drew.alloc (H (cO xl bv) 52)).cell? ⟨q,V p*3+1,I⟩=U (Y ua (V t.body) uc)):=(xk (w:=w) (a:=⟨q,V p*3+1,I⟩) eb).trans aB;have HF:aC ((w.drew.alloc (H (cO xl bv) 52)).frozen? ⟨q,V p*3+1,I⟩=D):=(xp (w:=w) (a:=⟨q,V p*3+1,I⟩) eb).trans aE;obtain⟨ag,ab⟩:=gK r (k:=q) Z;have ao:U q≠(Value.slice ua (V t.body) uc).ownBlock:=Ne.symm (tM L ab (by decide));obtain⟨_,_,l0,l1,l2,l3,l4,l5,l6,l7,l8⟩:=y.ln.F;have aS:V t.body<10000:=by have:=MB t.body;omega
 have ad:=aD L;clear eb ab L r;have aQ:(V p:O)<(V p:O)+1:=by omega
 have HZ:=aD hz;clear d ae ap hz aq X ac;obtain⟨sz,df,s5,s6,s7,s8,s9,aL,aM,aN⟩:=y.fr;have ar:=y.s16;refine aH Z λK HK=>?_;rw[mW sz df];simp only[kX,s5,s6,s7,s8,s9,aL,aM,aN,ar];generalize gA a=ff;go_wp2_with fail;apply HK;clear HK;refine aH Z λax z=>?_;go_wp2;apply z.o;refine aH Z λax z=>?_;go_wp2;apply z.o;refine rS 12 (by rw[SY];decide) λK hK=>?_;have HK:aC (∀a w,K0 a w->K a w):=λa w h=>hK a w h
 clear hK
 conv=>arg 2;whnf
 go_wp2_with fail;go_region_law(refine step_append_lies _ Z (.tmp 262) (.tmp 264) 48 Z w1.heap.size 52 i0 (.agg (cO z0 (Y I 0 0))) 9 120 underlying48 hi aI aJ aK Z (by decide) (Y ua (V t.body) uc) (V t.body) xs (by simp[xg]) (by exact HO) ⟨w.heap.size,0,I⟩ 1 1 (cO xl bv).toList (by simp[xg]) Z (by exact av) (by exact I0 xl bv az) (by decide) (by unfold maxLen;omega) (by omega) (by simp;omega) (w.heap.size+1) (by simp) ?_;intro g1 af w5 C g ah aP;have c1:=(g.cell_far ⟨q,V p*3+1,I⟩ (by simp;omega) ao).trans HC;have f1:=(g.frozen_far ⟨q,V p*3+1,I⟩ (by simp;omega) ao).trans HF)
 all_goals
  obtain⟨G3,(au:aC _)⟩:=RdM.OJ (x:=xl) (W0:=w.drew.alloc (H (cO xl bv) 52)) aa Z y.kids y.dis (λj hj=>xW _ _ _ hj) (by simp) ad C g (by rcases ah with ha|ha;exact .inl ha.symm;exact .inr λj hj=>by simp[xe]at hj;omega);have ay:ψ w1.heap.size w1 w5:=xc ((y.bel.drew).alloc q3 _) g (by simp;omega) λj hj=>(ad.lt j hj).1;have am:=MC y.nm ad (W0:=w.drew.alloc (H (cO xl bv) 52)) (λj hj=>xW _ _ _ hj) (by simp) g (by decide);have an:(w5.setCell ⟨q,V p*3+1,I⟩ (VV g1 (V t.body+1) af)).ownsRow w1.heap.size 9 1 nv (V nms) (nms.map xa):=bH am λj e=>x3 _ _ _ _ λe'=>by
   have e2:j=q:=by simp at e';omega
   obtain⟨c,hc⟩:=gK y.nm e;obtain⟨c2,aA⟩:=gK aa.th (k:=q) Z;rw[e2,aA]at hc;simp at hc
  have aw:=aD an;clear C g ah am an;go_wp2_with fail;apply HK;exact hN _ _ _ _ _ _ _ _ _ nms HR (by rw[W];show RdM _ _ _ _ _ A2.s.O _ _ _;rw[ho];exact au) aw y.eq (ay.setCell aj _) ⟨Z,Z,Z,Z,Z,Z,Z,Z,by rw[W];rfl,Z⟩
theorem zPL{nv:ω}{x:σ}(q:AP w1 w a gr n capr tv ov nv A2 k gx xl bv b tvs ovs G F nms)(hN:aC (CU w1 gr n capr A k x K0))(HR:aC (eN A ((k:ξ)+1) x.toList=U {A2 with s:=R.put A2.s (.mk xl b)}))(hz:SzA (R.put A2.s (.mk xl b)))(aE:A2.s.ts≠[])(ho:A2.s.O≠[]):
  bC φ ((zL f7).drop 9) (xF 1 (Exit.then K0 (Exit.then P9 (xF 0 (Exit.then K8 (π φ f7 R0)))))) a w:=by
 obtain⟨i0,hi,aF,aG,aI⟩:=ζ Tryz.infoLn;obtain⟨us,t,W⟩:=mQ A2.s.ts aE;have aY:=q.ln.lt;have q3:=q.bel.size;have d:=q.mem;rw[W]at d;obtain⟨aM,ut,rfl⟩:=mQ tvs (by intro e;have:=d.lt;rw[e]at this;simp at this);have aU:V aM=V us:=by simpa using d.lt
 have ac:=d.th;simp only[x7,x5,x9,x2]at ac;obtain⟨bt,tc,rfl,aN,aO⟩:=ac.form (by omega);obtain⟨fs,f,aA⟩:=mQ A2.s.O ho;rw[aA]at d;obtain⟨am,u,rfl⟩:=mQ ovs (by intro e;have:=d.lo;rw[e]at this;simp at this);have ah:V am=V fs:=by simpa using d.lo
 have p:=d.fr;simp only[x7,x5,x9,x2]at p;obtain⟨bo,oc,rfl,ag,af⟩:=p.form (by omega);have az:w.cell? ⟨bo,V fs*10,I⟩=U u:=by
  rw[p.cellAt _ (by omega),IJ _ _ _ _ ah,xj (by grind [AX]),AX _ _ ah,show V fs*10-V fs*10=0 by omega];rfl
 have aB:=p.frozenAt (V fs*10);have L:=d.kids;rw[x1 (l₁:=fs),<- x6,<- x6]at L;simp only[x4,x8]at L;obtain⟨_,Fu,_,_,al,_⟩:=XX.last L;obtain⟨xs,C⟩:=al.zT;obtain⟨ua,uc,rfl⟩:∃a cc,u=Y a (V f.l) cc:=by
  rcases C.2 with⟨e,h0⟩|⟨j,cc,av,e,_⟩
  ·grind
  ·exact⟨_,cc,e⟩
 have aQ:A2.s.O.isEmpty=D:=by grind
 have z:R.put A2.s (.mk xl b)={A2.s with O:=fs++[{f with l:=f.l++[.mk xl b]}]}:=by
  simp_all [R.put,NH]
 have aR:V fs<2:=by have:=hz.nop;rw[z]at this;simp at this;omega
 have aV:V us<4:=by have:=hz.nth;rw[z]at this;simp only[]at this;rw[W]at this;simp at this;omega
 have aX:WV f.l<=40:=by
  have h8:=hz.sum;have h9:=hz.VY;rw[z]at h8 h9;simp only[]at h8 h9;rw[EN,JA]at h8;have:=FO b;have:=SK fs;have:=VL A2.s.ts;omega
 have X:=aD d;have ax:bv.oneCell'=T:=q.kids.cT;have HO:aC ((w.drew.alloc (H (cO xl bv) 52)).ownsRow w1.heap.size 52 9 (Y ua (V f.l) uc) (V f.l) xs):=(C.drew).alloc _;have ap:aC (∀j u,(cO xl bv).toList[j]?=U u->(w.drew.alloc (H (cO xl bv) 52)).cell? ((⟨w.heap.size,0,I⟩:Addr).add j)=U u):=xb (t:=52) (fr:=(0,0)) (by have:=τ w.drew (H (cO xl bv) 52);simpa using this);have eb:(w.drew.alloc (H (cO xl bv) 52)).heap[bo]?=w.heap[bo]?:=xW _ _ _ af;have HC:aC ((w.drew.alloc (H (cO xl bv) 52)).cell? ⟨bo,V fs*10,I⟩=U (Y ua (V f.l) uc)):=(xk (w:=w) (a:=⟨bo,V fs*10,I⟩) eb).trans az;have HF:aC ((w.drew.alloc (H (cO xl bv) 52)).frozen? ⟨bo,V fs*10,I⟩=D):=(xp (w:=w) (a:=⟨bo,V fs*10,I⟩) eb).trans aB;obtain⟨av,aa⟩:=gK p (k:=bo) Z;have ak:U bo≠(Value.slice ua (V f.l) uc).ownBlock:=Ne.symm (tM C aa (by decide));obtain⟨_,_,l0,l1,l2,l3,l4,l5,l6,l7,l8⟩:=q.ln.F;have aW:V f.l<10000:=by have:=MB f.l;omega
 have ab:=aD C;clear eb aa C p;have aS:(V us:ξ)<(V us:ξ)+1:=by omega
 have aT:(V fs:ξ)<(V fs:ξ)+1:=by omega
 have HZ:=aD hz;have ar:=aD W;clear d L al hz W ac;obtain⟨sz,df,s5,s6,s7,s8,s9,aJ,aK,aL⟩:=q.fr;have an:=q.s16;refine aH Z λK HK=>?_;rw[mW sz df];simp only[kX,s5,s6,s7,s8,s9,aJ,aK,aL,an];generalize gA a=ff;go_wp2_with fail;apply HK;clear HK;refine aH Z λau r=>?_;go_wp2;apply r.o;refine aH Z λau r=>?_;go_wp2;apply r.o;refine rS 12 (by rw[SY];decide) λK hK=>?_;have HK:aC (∀a w,K0 a w->K a w):=λa w h=>hK a w h
 clear hK
 conv=>arg 2;whnf
 go_wp2_with fail;go_region_law(refine step_append_lies _ Z (.tmp 250) (.tmp 252) 48 Z w1.heap.size 52 i0 (.agg (cO z0 (Y I 0 0))) 9 120 underlying48 hi aF aG aI Z (by decide) (Y ua (V f.l) uc) (V f.l) xs (by simp[xg]) (by exact HO) ⟨w.heap.size,0,I⟩ 1 1 (cO xl bv).toList (by simp[xg]) Z (by exact ap) (by exact I0 xl bv ax) (by decide) (by unfold maxLen;omega) (by omega) (by simp;omega) (w.heap.size+1) (by simp) ?_;intro g1 ad w5 y g ae aP;have c1:=(g.cell_far ⟨bo,V fs*10,I⟩ (by simp;omega) ak).trans HC;have f1:=(g.frozen_far ⟨bo,V fs*10,I⟩ (by simp;omega) ak).trans HF)
 all_goals
  obtain⟨G3,(ao:aC _)⟩:=RdM.SE (x:=xl) (W0:=w.drew.alloc (H (cO xl bv) 52)) X Z q.kids q.dis (λj hj=>xW _ _ _ hj) (by simp) ab y g (by rcases ae with ha|ha;exact .inl ha.symm;exact .inr λj hj=>by simp[xe]at hj;omega);have aw:ψ w1.heap.size w1 w5:=xc ((q.bel.drew).alloc q3 _) g (by simp;omega) λj hj=>(ab.lt j hj).1;have ai:=MC q.nm ab (W0:=w.drew.alloc (H (cO xl bv) 52)) (λj hj=>xW _ _ _ hj) (by simp) g (by decide);have aj:(w5.setCell ⟨bo,V fs*10,I⟩ (VV g1 (V f.l+1) ad)).ownsRow w1.heap.size 9 1 nv (V nms) (nms.map xa):=bH ai λj e=>x3 _ _ _ _ λe'=>by
   have e2:j=bo:=by simp at e';omega
   obtain⟨c,hc⟩:=gK q.nm e;obtain⟨c2,ay⟩:=gK X.fr (k:=bo) Z;rw[e2,ay]at hc;simp at hc
  have aq:=aD aj;clear y g ae ai aj;go_wp2_with fail;apply HK;exact hN _ _ _ _ _ _ _ _ _ nms HR (by rw[z];show RdM _ _ _ _ A2.s.ts _ _ _ _;rw[ar.o];exact ao) aq q.eq (aw.setCell ag _) ⟨Z,Z,Z,Z,Z,Z,Z,Z,by rw[z];rfl,Z⟩
theorem agR{tl:s}{x:σ}(c:AC w1 w gr n ta oa na tl tc ol oc nc A k x tvs ovs G nms)(j:AFr a gr n capr (Y ta tl tc) (Y oa ol oc) (Y na ol nc) A k)(r:aC (zN w1 A k x (Exit.then P9 (xF 0 (Exit.then K8 (π φ f7 R0))))))(C:aC (CU w1 gr n capr A k x K0)):
  bC φ ((zL f7).drop 0) (xF 1 (Exit.then K0 (Exit.then P9 (xF 0 (Exit.then K8 (π φ f7 R0)))))) a w:=by
 have aa:=c.lt;have ab:=c.nn;refine agA c j ?_;intro a j d p
 cases hb:thB x.toList with
 |some b=>rw[hb]at p;exact agT c j r C d p hb
 |none =>
  rw[hb]at p;refine agN c j r d p hb ?_;intro a w2 y ac z hX j d X o g;have hP:aC (MI w1 gr n capr A k x λa w=>bC φ ((zL f7).drop 9) (xF 1 (Exit.then K0 (Exit.then P9 (xF 0 (Exit.then K8 (π φ f7 R0)))))) a w):=λA2 xl b a w tv ov nv gx bv tvs ovs G F nms HR t L=>by
   have q:=(Iz c.mem.sz c.nm (by omega) HR).1;by_cases ho:A2.s.O=[]
   ·exact zPK L C HR q (by grind) ho
   ·exact zPL L C HR q (by grind) ho
  cases hl:rO A x.toList
  ·rw[hl]at g;have W:aC (eN A ((k:O)+1) x.toList=kQ A x.toList):=I7 hb y hl;refine agE c j r W z d o g ?_;intro a K hc j d o;exact⟨λq=>agZ c j r C W hc q z d,λq hK=>agS c j r (λA2 xl b a w tv ov nv gx bv tvs ovs G F nms HR t L=>hK _ _ (hP A2 xl b a w tv ov nv gx bv tvs ovs G F nms HR t L)) W hc q z hX d o⟩
  ·rw[hl]at g;exact agL c j hP hb y z hX d X o g hl
def I9(w1:W)(gr n capr:s)(L:z (z θ))(last:δ (z θ))(r:z R.Th×O×O)(a:g)(w:W):Prop :=
 ∃(k:s) (A:AS) (ta oa na:δ Addr) (tl tc ol oc nc:s) (tvs ovs:z ω) (G:z s) (nms:z σ),k<=n/\tl=V A.s.ts/\ol=V A.s.O/\AsM w w1.heap.size A (Y ta tl tc) (Y oa ol oc) (Y na ol nc) tvs ovs G nms/\NmA A k/\ψ w1.heap.size w1 w/\AFr a gr n capr (Y ta tl tc) (Y oa ol oc) (Y na ol nc) A k/\(0<k->A.s.ts≠[])/\r=vS last (lW A k (L.drop k))
def PX(n:s)(a:g)(_:W):s:=n-(intOf (gA a 12)).toNat
def zB2:(zB f7).getD 2 .skip=.block 1 (gC ((zB f7).getD 2 .skip)):=by kernel_rfl
theorem TV(h:w.ownsRow B e sz v n xs):∃a c,v=Y a n c:=by
 rcases h.2 with⟨e,o⟩|⟨j,d,g,e,_⟩
 ·grind
 ·exact⟨_,d,e⟩
theorem zOv{xs:ι σ}{last:δ (ι θ)}{r:ι R.Th×O×O}(aj:aC (∀(i:s) (y:σ),xs[i]?=U y->w1.cell? ⟨gr,i,I⟩=U (E y)))(aK:n<V xs)(ay:aC (∀y∈xs,y.size<=2000))(hn:n<2001)(aw:gr<w1.heap.size)(hI:I9 w1 gr n capr ((xs.map xR).take n) last r a w)(hX:aC (∀(a:ε) (w:ν) (A:AS) (ta oa na:δ Addr) (tl tc ol oc nc:s) (tvs ovs:ι ω) (G:ι s) (nms:ι σ),tl=V A.s.ts->ol=V A.s.O->AsM w w1.heap.size A (Y ta tl tc) (Y oa ol oc) (Y na ol nc) tvs ovs G nms->ψ w1.heap.size w1 w->AFr a gr n capr (Y ta tl tc) (Y oa ol oc) (Y na ol nc) A n->(0<n->A.s.ts≠[])->r=vS last (U A,(n:O))->K8 a w))(hE:aC (∀(a:ε) (w:ν) (k:s),a.tmps.size=324->a.defers=[]->gA a 2=Y I 0 0->gA a 3=N M 2->gA a 4=N M ((k:O)+1)->r.2=(2,(k:O)+1)->ψ w1.heap.size w1 w->π φ f7 R0 .ret a w)):
  Code.wp φ (Code.loop (SJ f7)) (xF 0 (Exit.then K8 (π φ f7 R0))) a w:=by
 refine wp_loop (I9 w1 gr n capr ((xs.map xR).take n) last r) (PX n) hI λa w hL=>?_;clear hI;obtain⟨k,A,ta,oa,na,tl,tc,ol,oc,nc,tvs,ovs,G,nms,hk,g,d,hm,af,hb,hf,ah,hr⟩:=hL;refine fU _ _ _ _ ?_;show bC φ ((zB f7).drop 0) _ a w;have ax:PX n a w=n-k:=by grind [PX,AFr.s12,intOf]
 have HF:=aD hf;obtain⟨sz,df,s5,s6,s7,s8,s9,W,X,t⟩:=hf;refine aH Z λK HK=>?_;rw[mW sz df];simp only[kX,s5,s6,s7,s8,s9,W,X,t];generalize gA a=f;by_cases hlt:k<n
 ·have ae:(k:O)<n:=by omega
  have ad:k<V xs:=by omega
  have ab:=aD (aj.o k xs[k] (List.getElem?_eq_getElem ad));have al:=ay.o xs[k] (List.getElem_mem ad);have HD:aC (((xs.map xR).take n).drop k=xs[k].toList::((xs.map xR).take n).drop (k+1)):=by
   grind [aC,List.drop_eq_getElem_cons]
  generalize xs[k]=x at*;have c:AC w1 w gr n ta oa na tl tc ol oc nc A k x tvs ovs G nms:=⟨g,d,hm,af,hb,hlt,hn,ab,aw,al⟩;have C:=aD c;have HR:=aD hr;clear g d hm af hb ab al c hr;go_wp2_with fail;apply HK;clear HK;refine aH Z λar aa=>?_;go_wp2;apply aa.o;refine rS 2 (by rw[I6];decide) λK hK=>?_;rw[zB2];refine wp_block (fU _ _ _ _ ?_);refine agR C ⟨Z,Z,Z,Z,Z,Z,Z,Z,Z,Z⟩ ?_ ?_
  ·intro a w z1 z2 g2 g3 g4 hs hb;refine hE a w k z1 z2 g2 g3 g4 ?_ hb;rw[HR.o,HD.o,lW,hs];rfl
  ·intro a2 w2 A2 tv ov nv ao an G2 am hs p q ac au av;refine hK _ _ ?_;clear hK;obtain⟨ak,ag⟩:=Iz C.mem.sz C.nm (by omega) hs;have j:=congrArg List.length ac;rw[xn,ag.len]at j;rw[j]at q;obtain⟨aG,aI,rfl⟩:=TV p.th;obtain⟨aB,aE,rfl⟩:=TV p.fr;obtain⟨az,aA,rfl⟩:=TV q;have HM:=aD (AsM.mk p (by rw[j];exact q) ac ak);have aq:aC (r=vS last (lW A2 ((k+1:s):O) (((xs.map xR).take n).drop (k+1)))):=by
    grind [aC,lW]
   have ap:=aD (It hs);clear p q ak j;obtain⟨sz,df,s5,s6,s7,s8,s9,W,X,t⟩:=av;refine rS 3 (by rw[I6];decide) λK hK=>?_;have HK:=aD hK;clear hK;rw[mW sz df];generalize g:V A2.s.ts=aJ at*;generalize d:V A2.s.O=aF at*;have L:=aD g;have z:=aD d;clear g d;simp only[kX,s5,s6,s7,s8,s9,W,X,t];generalize gA a2=f2
   conv=>arg 2;whnf
   go_wp2_with fail;apply HK;refine⟨⟨k+1,A2,aG,aB,az,aJ,aI,aF,aE,aA,ao,an,G2,am,hlt,L.symm,z.symm,HM,by grind,au,⟨Z,Z,Z,Z,Z,Z,Z,Z,Z,by push_cast;rfl⟩,λ_=>ap,aq⟩,?_⟩;rw[ax];show n-((k:O)+1).toNat<n-k;omega
 ·obtain rfl:k=n:=by omega
  have ae:¬(k:O)<k:=by omega
  have ai:r=vS last (U A,(k:O)):=by
   rw[hr,List.drop_eq_nil_of_le (by simp;omega)];rfl
  have HR:=aD ai;have HM:=aD hm;have L:=aD g;have z:=aD d;clear hr ai hm g d;go_wp2_with fail;apply HK;clear HK;refine aH Z λar _=>?_;go_wp2;exact hX _ _ A ta oa na tl tc ol oc nc tvs ovs G nms L z HM hb ⟨Z,Z,Z,Z,Z,Z,Z,Z,Z,Z⟩ ah HR
