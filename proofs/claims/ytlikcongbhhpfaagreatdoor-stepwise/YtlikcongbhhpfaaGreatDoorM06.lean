import Derived.Test.YtlikcongbhhpfaaGreatDoorM03
set_option linter.unusedVariables false
set_option linter.unusedSimpArgs false
set_option maxHeartbeats 12800000
namespace Go.Proofs.YtlikcongbhhpfaaGreatDoor
open Go Go.RowKit Go.Proofs.Tryz P Q
set_option maxRecDepth 1000000
variable {B cap1 g g1:Nat}{W0 a w w' w1:World}{r:Rd}{ov tv:Value}{vs:List Value}
open List renaming length->D
open _root_.Array renaming size->T
open Go.World renaming heap->A
open Option renaming none->Y,some->z
open Go.IntKind renaming i64->C
open Go.Value renaming int->G,slice->U
open Go.Obj renaming cells->E
open Bool renaming false->M
open Go.Ending renaming returned->L
open Go.Value renaming int->xF,slice->x2,oneCell'->xd
open Go.RowKit.Below renaming heap_setCell->xR,heap_alloc->xW,refl->x3
open List renaming map_cons->x0,map_nil->x1,length_append->x6,length_cons->x7,length_nil->x8,map_append->x9
open Go.Obj renaming cells->x4
open _root_.ByteArray renaming toList->x5
open Go.World renaming news_of_block->xa,cell?_of_block->xb,frozen?_of_block->xc
open UInt8 renaming toNat_lt->xe
structure Eg(B g:Nat)(w w':World):Prop where
 os:w'.os=w.os
 tape:w'.tape=w.tape
 output:w'.output=w.output
 size:T (A w)<=T (A w')
 block:∀k,k<B->k≠g->w'.heap[k]?=w.heap[k]?
theorem Eg.refl(B g:Nat)(w:World):Eg B g w w:=⟨Z,Z,Z,Nat.le_refl _,fun _ _ _=>Z⟩
theorem Eg.of(h:Below B w w'):Eg B g w w':=⟨h.os,h.tape,h.output,h.size,fun k b _=>h.block k b⟩
theorem Eg.trans{b c:World}(h:Eg B g a b)(k:Eg B g b c):Eg B g a c :=
 ⟨k.os.trans h.os,k.tape.trans h.tape,k.output.trans h.output,Nat.le_trans h.size k.size,fun i e d=>(k.block i e d).trans (h.block i e d)⟩
theorem Eg.drew(h:Eg B g a w):Eg B g a w.drew:=⟨h.os,h.tape,h.output,h.size,h.block⟩
theorem Eg.alloc(h:Eg B g a w)(b:B<=T (A w))(o:Obj):Eg B g a (w.alloc o):=
 h.trans (Eg.of ((x3 _ _).alloc b _))
theorem Eg.setCell(h:Eg B g a w){i:Nat}(u:Value):Eg B g a (w.setCell ⟨g,i,Y⟩ u):=
 h.trans ⟨Z,Z,Z,by simp[World.setCell],fun k _ b=>xR _ _ _ _ b⟩
theorem Eg.grown{row:Option Nat}(h:Eg B g a w)(c:w.grownBy w' row)(b:B<=T (A w))(d:∀k,row=z k->B<=k):Eg B g a w' :=
 h.trans (Eg.of ((x3 _ _).grown c b d))
theorem Eg.X{b:Nat}(h:Eg B g w w')(c:b<=B)(d:b<=g):Below b w w':=⟨h.os,h.tape,h.output,h.size,fun k e=>h.block k (by omega) (by omega)⟩
theorem I4(B g N:Nat)(r:Rd)(i:JR)(w:World)(h:cN w B g r)(x:r.H≠[])(hF:uA N r)(hN:N<10000)(hB:B<=T (A w))(W:D r.O<10):
  Calls prog 151 #[.pointer (z ⟨g,0,Y⟩),.agg (aC i)] w fun e w'=>e=L (.bool (ends r i).2)/\cN w' B g (ends r i).1/\Eg B g w w':=by
 have hA:=h;obtain⟨tv,ov,vs,h⟩:=h;by_cases he:r.O=[]
 ·have y:ov=U Y 0 0\/∃k c,ov=JQ k 0 c:=by
   have:=h.O;rw[he]at this
   rcases this.2 with⟨e,_⟩|⟨k,c,n,e,_⟩
   ·exact .inl e
   ·exact .inr ⟨k,c,e⟩
  obtain⟨q,p,g0,g1,g2,g3,g4⟩:=h.F;have m:JP (ends r i=(r,M)):=by unfold JP;simp[ends,he]
  have t:cN (w.alloc (E (aC i) 104)) B g r:=hA.X ((x3 _ _).alloc (Nat.le_refl _) _)
  rcases y with rfl|⟨k,c,rfl⟩
  all_goals
   go_enter func151,ntmps151;go_wp2;go_ret;rw[bD m];exact⟨Z,t,(Eg.refl _ _ _).alloc hB _⟩
 ·obtain⟨f,o,l⟩:=rX r.O he;have b:=h.O;rw[l]at b;simp only[x6,x7,x8,Nat.zero_add,x9,x0,x1]at b;obtain⟨k,d,rfl,aa,V⟩:=b.form (by omega);have hc:w.cell? ⟨k,D f,Y⟩=z (G C o):=by
   rw[b.cellAt _ (by omega),List.getElem?_append_right (by simp)];simp
  obtain⟨q,p,g0,g1,g2,g3,g4⟩:=h.F;have af:D f<10:=by rw[l]at W;simp at W;omega
  have m:JP (ends r i=(put {r with O:=f} {i with label:=o},true)):=by unfold JP;simp[ends,l]
  have HR:JP (cN ((w.setCell ⟨g,4,Y⟩ (JQ k (D f) d)).alloc (E (aC {i with label:=o}) 104)) B g {r with O:=f}):=by
   have K:=h.O;rw[l]at K;simp only[x6,x7,x8,Nat.zero_add,x9,x0,x1]at K;have k3:=h.qS {r with O:=f} (JQ k (D f) d) 4 (JQ k (D f) d) Z (Ie K) Z;exact⟨tv,_,vs,k3.keep fun j hj=>xW _ _ _ hj⟩
  have u:JP (Eg B g w ((w.setCell ⟨g,4,Y⟩ (JQ k (D f) d)).alloc (E (aC {i with label:=o}) 104))):=
   ((Eg.refl _ _ _).setCell _).alloc (by simp;omega) _
  have ae:D f+1<=d:=by
   rcases b.2 with⟨s,_⟩|⟨g',S,n,s,hb,hg,ad,ab,ac,J⟩
   ·simp at s
   ·simp only[Value.slice.injEq]at s;omega
  simp only[aC];go_enter func151,ntmps151;go_wp2_with(first
   |(go_at_call 153;refine(IC B g N {r with O:=f} {i with label:=o} _ (by exact HR.o) x hF hN (by simp;omega)).mono ?_;rintro e w1 ⟨rfl,I,v⟩))
  go_ret;rw[bD m];exact⟨Z,I,u.o.trans (Eg.of v)⟩
theorem I6{x:Int}(h:MW w B g r tv ov vs)(u:∀k,k<T (A w)->W0.heap[k]?=w.heap[k]?)(y:T (A w)<=T (A W0))(i:w1.ownsRow B 3 1 (JQ g1 (D r.O+1) cap1) (D r.O+1) (r.O.map (xF C)++[G C x]))(f:W0.grownBy w1 ov.ownBlock):
  MW (w1.setCell ⟨g,4,Y⟩ (JQ g1 (D r.O+1) cap1)) B g {r with O:=r.O++[x]} tv (JQ g1 (D r.O+1) cap1) vs/\∀k,k<T (A W0)->ov.ownBlock≠z k->k≠g->(w1.setCell ⟨g,4,Y⟩ (JQ g1 (D r.O+1) cap1)).heap[k]?=W0.heap[k]?:=by
 have p:∀k,k<T (A w)->ov.ownBlock≠z k->w1.heap[k]?=w.heap[k]?:=fun k j l=>by
  rw[f.block k (by omega) (Ne.symm l),u k j]
 have I:∀k,(∃(c:Array Value) (e:TypeId),w.heap[k]?=z (x4 c e (0,0))/\e≠3)->ov.ownBlock≠z k:=fun k ⟨c,e,d,q⟩=>kE h.O d (Ne.symm q)
 have keep:∀k,k<T (A w)->(∃(c:Array Value) (e:TypeId),w.heap[k]?=z (x4 c e (0,0))/\e≠3)->w1.heap[k]?=w.heap[k]?:=fun k j l=>p k j (I k l)
 have j:MW w1 B g {r with O:=r.O++[x]} tv (JQ g1 (D r.O+1) cap1) vs->True:=fun _=>trivial
 have m:w1.heap[g]?=w.heap[g]?:=keep g h.lt ⟨_,_,h.cells,by decide⟩;refine⟨⟨?_,?_,?_,?_⟩,fun k j l s=>?_⟩
 ·have:=h.cells;rw[<- m]at this;rw[bC this];rfl
 ·refine aU h.H fun k b=>?_;obtain⟨c,d⟩:=gE h.H b;rw[xR _ _ _ _ fun e=>by simp at e;subst e;rw[h.cells]at d;simp at d];exact keep k (h.H.lt k b).2 ⟨c,_,d,by decide⟩
 ·have t:=i;refine aU (by simpa using t) fun k b=>xR _ _ _ _ fun e=>?_;simp at e;subst e;obtain⟨c,d⟩:=gE i b;rw[m,h.cells]at d;simp at d
 ·refine h.S.keep fun v F k b=>?_;obtain⟨n,J,o⟩:=h.S.mem v F;obtain⟨c,d⟩:=gE o b;rw[xR _ _ _ _ fun e=>by simp at e;subst e;rw[h.cells]at d;simp at d];exact keep k (o.lt k b).2 ⟨c,_,d,by decide⟩
 ·rw[xR _ _ _ _ s,f.block k j (Ne.symm l)]
theorem I7(B g N:Nat)(r:Rd)(d:JR)(w:World)(h:cN w B g r)(K:r.H≠[])(hF:uA N r)(hN:N<10000)(hB:B<=T (A w))(ho:D r.O<2)(ag:0<=r.I)(ah:r.I<10000):
  Calls prog 152 #[.pointer (z ⟨g,0,Y⟩),.agg (aC d)] w fun e w'=>e=L (.bool (gI r d).2)/\cN w' B g (gI r d).1/\Eg B g w w':=by
 obtain⟨tv,ov,vs,h⟩:=h;obtain⟨i0,hi,W,X,aa⟩:=info_parts Tryz.MZ;have S:∃a c,ov=U a (D r.O) c:=by
  rcases h.O.2 with⟨e,h0⟩|⟨k,c,ac,e,_⟩
  ·exact⟨Y,0,by rw[e,h0]⟩
  ·exact⟨_,c,e⟩
 obtain⟨m,n,rfl⟩:=S;obtain⟨ae,ad,g0,g1,g2,g3,g4⟩:=h.F;have HE:JP (gI r d=(put {r with I:=r.I+1,O:=r.O++[r.I+1]} {d with label:=r.I+1},true)):=by
  unfold JP;rw[gI,if_neg (by omega)]
 have f:MW ((w.setCell ⟨g,3,Y⟩ (G C (r.I+1))).alloc (E (aC {d with label:=r.I+1}) 104)) B g {r with I:=r.I+1} tv (U m (D r.O) n) vs :=
  (h.qS {r with I:=r.I+1} (U m (D r.O) n) 3 (G C (r.I+1)) Z h.O Z).keep fun j hj=>xW _ _ _ hj
 have HO:JP ((((w.setCell ⟨g,3,Y⟩ (G C (r.I+1))).alloc (E (aC {d with label:=r.I+1}) 104)).drew.alloc (E #[G C (r.I+1)] 3)).ownsRow B 3 1 (U m (D r.O) n) (D r.O) (r.O.map (xF C))):=(f.O.drew).alloc _;have HN:JP (∀j u,[xF C (r.I+1)][j]?=z u->(((w.setCell ⟨g,3,Y⟩ (G C (r.I+1))).alloc (E (aC {d with label:=r.I+1}) 104)).drew.alloc (E #[G C (r.I+1)] 3)).cell? ((⟨T (A w)+1,0,Y⟩:Addr).add j)=z u):=
  xa (cs:=#[G C (r.I+1)]) (t:=3) (fr:=(0,0)) (by have:=heap_alloc_new ((w.setCell ⟨g,3,Y⟩ (G C (r.I+1))).alloc (E (aC {d with label:=r.I+1}) 104)).drew (E #[G C (r.I+1)] 3);simpa using this)
 have i:z g≠(x2 m (D r.O) n).ownBlock:=Ne.symm (kE f.O f.cells (by decide));have eb:(((w.setCell ⟨g,3,Y⟩ (G C (r.I+1))).alloc (E (aC {d with label:=r.I+1}) 104)).drew.alloc (E #[G C (r.I+1)] 3)).heap[g]?=((w.setCell ⟨g,3,Y⟩ (G C (r.I+1))).alloc (E (aC {d with label:=r.I+1}) 104)).heap[g]?:=xW _ _ _ f.lt;have HC:JP ((((w.setCell ⟨g,3,Y⟩ (G C (r.I+1))).alloc (E (aC {d with label:=r.I+1}) 104)).drew.alloc (E #[G C (r.I+1)] 3)).cell? ⟨g,4,Y⟩=z (U m (D r.O) n)):=by
  unfold JP;rw[xb (w:=(w.setCell ⟨g,3,Y⟩ (G C (r.I+1))).alloc (E (aC {d with label:=r.I+1}) 104)) eb];simp[World.cell?,f.cells]
 have HF:JP ((((w.setCell ⟨g,3,Y⟩ (G C (r.I+1))).alloc (E (aC {d with label:=r.I+1}) 104)).drew.alloc (E #[G C (r.I+1)] 3)).frozen? ⟨g,4,Y⟩=M):=by
  unfold JP;rw[xc (w:=(w.setCell ⟨g,3,Y⟩ (G C (r.I+1))).alloc (E (aC {d with label:=r.I+1}) 104)) eb];simp[World.frozen?,f.cells]
 have x:∀q p w1,World.ownsRow w1 B 3 1 (JQ q (D r.O+1) p) (D r.O+1) (r.O.map (xF C)++[G C (r.I+1)])->(((w.setCell ⟨g,3,Y⟩ (G C (r.I+1))).alloc (E (aC {d with label:=r.I+1}) 104)).drew.alloc (E #[G C (r.I+1)] 3)).grownBy w1 (x2 m (D r.O) n).ownBlock ->
   cN (w1.setCell ⟨g,4,Y⟩ (JQ q (D r.O+1) p)) B g {r with I:=r.I+1,O:=r.O++[r.I+1]}/\KH (w1.setCell ⟨g,4,Y⟩ (JQ q (D r.O+1) p)) (T (A w)) {d with label:=r.I+1}/\Eg B g w (w1.setCell ⟨g,4,Y⟩ (JQ q (D r.O+1) p)):=fun q p w1 s b=>by
  obtain⟨m1,m2⟩:=I6 (W0:=((w.setCell ⟨g,3,Y⟩ (G C (r.I+1))).alloc (E (aC {d with label:=r.I+1}) 104)).drew.alloc (E #[G C (r.I+1)] 3)) f (fun k J=>xW _ _ _ J) (by simp) s b;have hs:KH ((w.setCell ⟨g,3,Y⟩ (G C (r.I+1))).alloc (E (aC {d with label:=r.I+1}) 104)) (T (A w)) {d with label:=r.I+1}:=by
   have:=KH.bA (w.setCell ⟨g,3,Y⟩ (G C (r.I+1))) {d with label:=r.I+1};simpa using this
  refine⟨⟨_,_,_,m1⟩,(KH.alloc (w:=((w.setCell ⟨g,3,Y⟩ (G C (r.I+1))).alloc (E (aC {d with label:=r.I+1}) 104)).drew) hs _).aA (m2 (T (A w)) (by simp;omega) (kE f.O hs (by decide)) (by omega)),?_⟩;refine Eg.setCell (Eg.grown (((((Eg.refl B g w).setCell _).alloc (by simp;omega) _).drew).alloc (by simp;omega) _) b (by simp;omega) fun k J=>(f.O.lt k J).1) _
 have v:=JO x;simp only[aC];go_enter func152,ntmps152;go_wp2_with fail;go_region_law(refine step_append_lies _ Z (.tmp 27) (.tmp 32) 31 Z B 3 i0 (G C 0) 1 8 underlying31 hi W X aa Z (by decide) (U m (D r.O) n) (D r.O) (r.O.map (xF C)) (by simp[Act.eval]) (by exact HO.o) ⟨T (A w)+1,0,Y⟩ 1 1 [G C (r.I+1)] (by simp[Act.eval]) Z (by exact HN.o) (by simp[xd]) (by decide) (by unfold maxLen;omega) (by omega) (by simp;omega) (T (A w)+2) (by simp) ?_;intro q p w1 l b af ab;have c1:=(b.cell_far ⟨g,4,Y⟩ (by simp;omega) i).trans HC.o;have f1:=(b.frozen_far ⟨g,4,Y⟩ (by simp;omega) i).trans HF.o;have ai:T (A w)+2<=T (A w1):=by have:=b.size;simp at this;omega)
 all_goals
  obtain⟨q1,q2,q3⟩:=v.o _ _ _ l b;have Q1:=JO q1;have Q2:=JO q2;go_wp2_with(first
   |(refine eV (.tmp 3) Z Z (T (A w)) {d with label:=r.I+1} Z (by exact Q2.o) ?_)
   |(go_at_call 153;refine(IC B g N {r with I:=r.I+1,O:=r.O++[r.I+1]} {d with label:=r.I+1} _ (by exact Q1.o) K hF hN (by simp;omega)).mono ?_;rintro e w2 ⟨rfl,V,y⟩))
  go_ret;rw[bD HE];exact⟨Z,V,q3.trans (Eg.of y)⟩
theorem Tryz.infoThr:(prog.info? 96).map (fun i=>(i.zero,i.size,i.bytes))=z (z (.agg #[G C 0,G C 0,U Y 0 0]),3,40):=by kernel_rfl
theorem I8{b l:Int}(h:MW w B g r tv ov vs)(x:∀k,k<T (A w)->W0.heap[k]?=w.heap[k]?)(y:T (A w)<=T (A W0))(i:w1.ownsRow B 96 3 (JQ g1 (D r.H+1) cap1) (D r.H+1) (OA r.H vs++[G C b,G C l,U Y 0 0]))(j:W0.grownBy w1 tv.ownBlock):
  MW ((w1.setCell ⟨g,0,Y⟩ (JQ g1 (D r.H+1) cap1)).setCell ⟨g,2,Y⟩ (G C 0)) B g {r with H:=r.H++[⟨b,l,[]⟩],count:=0} (JQ g1 (D r.H+1) cap1) ov (vs++[U Y 0 0]):=by
 have keep:∀k,k<T (A w)->(∃(c:Array Value) (e:TypeId),w.heap[k]?=z (x4 c e (0,0))/\e≠96)->w1.heap[k]?=w.heap[k]?:=fun k s t=>by
  rw[j.block k (by omega) (Ne.symm ((fun k ⟨c,e,f,p⟩=>kE h.H f (Ne.symm p)) k t)),x k s]
 have m:w1.heap[g]?=w.heap[g]?:=keep g h.lt ⟨_,_,h.cells,by decide⟩;have out:∀k,k≠g->((w1.setCell ⟨g,0,Y⟩ (JQ g1 (D r.H+1) cap1)).setCell ⟨g,2,Y⟩ (G C 0)).heap[k]?=w1.heap[k]?:=fun k d=>by
  rw[xR _ _ _ _ d,xR _ _ _ _ d]
 refine⟨?_,?_,?_,?_⟩
 ·have:=h.cells;rw[<- m]at this;rw[bC (bC this _ _)];rfl
 ·have q:=i;rw[<- uG r.H vs ⟨b,l,[]⟩ (U Y 0 0) h.S.qB]at q;refine aU (by simpa using q) fun k d=>out k fun e=>?_;subst e;obtain⟨c,f⟩:=gE i d;rw[m,h.cells]at f;simp at f
 ·refine aU h.O fun k d=>?_;obtain⟨c,f⟩:=gE h.O d;rw[out k fun e=>by subst e;rw[h.cells]at f;simp at f];exact keep k (h.O.lt k d).2 ⟨c,_,f,by decide⟩
 ·rw[tW];refine⟨h.S.keep fun v F k d=>?_,World.ownsRow_nil _ _ _ _,fun u _=>?_⟩
  ·obtain⟨n,I,o⟩:=h.S.mem v F;obtain⟨c,f⟩:=gE o d;rw[out k fun e=>by subst e;rw[h.cells]at f;simp at f];exact keep k (o.lt k d).2 ⟨c,_,f,by decide⟩
  ·cases hu:u.ownBlock with
   |none=>exact .inl Z
   |some k=>right;simp[Value.ownBlock]
theorem UA(r:Rd)(b l:Int)(h:4<=D r.H\/0<D r.O):fB r b l=(r,M):=by
 unfold fB;exact if_pos h
theorem UB(x:UInt8)(n:Int)(w:World):
  Calls prog 146 #[G .u8 (x.toNat:Int),G C n] w fun e w'=>e=L (.tuple #[G C (cH x n).1,.bool (cH x n).2])/\w'=w :=
 EC _ _ _ (by omega) (by have:=xe x;omega)
theorem UC(r:Rd)(b:List (List UInt8))(h:¬∃a c,b=[a,[c]]):eW r b=(r,M):=by
 unfold eW
 split
 ·rfl
 ·split
  ·rename_i a c;exact absurd ⟨a,c,Z⟩ h
  ·rfl
theorem UD(B g:Nat)(r:Rd)(b l:Int)(w:World)(h:cN w B g r)(hB:B<=T (A w))(ai:D r.H<6)(ah:D r.O<10):
  Calls prog 138 #[.pointer (z ⟨g,0,Y⟩),G C b,G C l] w fun e w'=>e=L (.bool (fB r b l).2)/\cN w' B g (fB r b l).1/\Eg B g w w':=by
 have hA:=JO h;obtain⟨tv,ov,vs,h⟩:=h;obtain⟨i0,hi,aa,ab,ac⟩:=info_parts Tryz.infoThr;have W:∃a c,ov=U a (D r.O) c:=by
  rcases h.O.2 with⟨e,s⟩|⟨k,c,J,e,_⟩
  ·exact⟨Y,0,by rw[e,s]⟩
  ·exact⟨_,c,e⟩
 obtain⟨oa,oc,rfl⟩:=W;have X:∃a c,tv=U a (D r.H) c:=by
  rcases h.H.2 with⟨e,s⟩|⟨k,c,J,e,_⟩
  ·exact⟨Y,0,by rw[e,s]⟩
  ·exact⟨_,c,e⟩
 obtain⟨x,y,rfl⟩:=X;obtain⟨ae,N,g0,g1,g2,g3,g4⟩:=h.F;by_cases h4:4<=D r.H
 ·have n:JP (fB r b l=(r,M)):=UA r _ _ (Or.inl h4);have S:(4:Int)<=(D r.H:Int):=by omega
  go_enter func138,ntmps138;go_wp2;go_ret;rw[bD n];exact⟨Z,hA.o,Eg.refl _ _ _⟩
 have S:¬(4:Int)<=(D r.H:Int):=by omega
 by_cases s:0<D r.O
 ·have n:JP (fB r b l=(r,M)):=UA r _ _ (Or.inr s);go_enter func138,ntmps138;go_wp2;go_ret;rw[bD n];exact⟨Z,hA.o,Eg.refl _ _ _⟩
 have af:¬(0:Int)<(D r.O:Int):=by omega
 have n:JP (fB r b l=({r with H:=r.H++[⟨b,l,[]⟩],count:=0},true)):=by
  unfold JP fB;rw[if_neg (by omega)]
 have HO:JP ((w.alloc (E #[xF C b,G C l,U Y 0 0] 96)).ownsRow B 96 3 (U x (D r.H) y) (D r.H) (OA r.H vs)):=h.H.alloc _;have HN:JP (∀j u,[xF C b,G C l,U Y 0 0][j]?=z u->(w.alloc (E #[xF C b,G C l,U Y 0 0] 96)).cell? ((⟨T (A w),0,Y⟩:Addr).add j)=z u):=
  xa (cs:=#[xF C b,G C l,U Y 0 0]) (t:=96) (fr:=(0,0)) (by have:=heap_alloc_new w (E #[xF C b,G C l,U Y 0 0] 96);simpa using this)
 have f:z g≠(x2 x (D r.H) y).ownBlock:=Ne.symm (kE h.H h.cells (by decide));have eb:(w.alloc (E #[xF C b,G C l,U Y 0 0] 96)).heap[g]?=w.heap[g]?:=xW _ _ _ h.lt;have HC:JP (∀i,(w.alloc (E #[xF C b,G C l,U Y 0 0] 96)).cell? ⟨g,i,Y⟩=w.cell? ⟨g,i,Y⟩):=fun i=>xb (w:=w) (a:=⟨g,i,Y⟩) eb
 have HF:JP (∀i,(w.alloc (E #[xF C b,G C l,U Y 0 0] 96)).frozen? ⟨g,i,Y⟩=M):=fun i=>(xc (w:=w) (a:=⟨g,i,Y⟩) eb).trans (N i)
 have K:∀q p w1,World.ownsRow w1 B 96 3 (JQ q (D r.H+1) p) (D r.H+1) (OA r.H vs++[xF C b,G C l,U Y 0 0])->(w.alloc (E #[xF C b,G C l,U Y 0 0] 96)).grownBy w1 (x2 x (D r.H) y).ownBlock ->
   cN ((w1.setCell ⟨g,0,Y⟩ (JQ q (D r.H+1) p)).setCell ⟨g,2,Y⟩ (G C 0)) B g {r with H:=r.H++[⟨b,l,[]⟩],count:=0}/\Eg B g w ((w1.setCell ⟨g,0,Y⟩ (JQ q (D r.H+1) p)).setCell ⟨g,2,Y⟩ (G C 0)):=fun q p w1 v d=>by
  refine⟨⟨_,_,_,I8 (W0:=w.alloc (E #[xF C b,G C l,U Y 0 0] 96)) h (fun k V=>xW _ _ _ V) (by simp) v d⟩,?_⟩;refine Eg.setCell (Eg.setCell (Eg.grown ((Eg.refl B g w).alloc hB _) d (by simp;omega) fun k V=>(h.H.lt k V).1) _) _
 have I:=JO K;go_enter func138,ntmps138;go_wp2_with(first|(at_builtin;refine wpList_append_lies _ Z (.tmp 25) (.tmp 29) 50 Z B 96 i0 (.agg #[G C 0,G C 0,U Y 0 0]) 3 40 underlying50 hi aa ab ac Z (by decide) (U x (D r.H) y) (D r.H) (OA r.H vs) Z (by exact HO.o) ⟨T (A w),0,Y⟩ 1 1 [xF C b,G C l,U Y 0 0] Z Z (by exact HN.o) (by simp[xd]) (by decide) (by unfold maxLen;omega) (by omega) (by simp;omega) _ Z ?_;intro q p w1 m d ag ad;have c0:=(d.cell_far ⟨g,0,Y⟩ (by simp;omega) f).trans ((HC.o 0).trans g0);have c2:=(d.cell_far ⟨g,2,Y⟩ (by simp;omega) f).trans ((HC.o 2).trans g2);have f0:=(d.frozen_far ⟨g,0,Y⟩ (by simp;omega) f).trans (HF.o 0);have f2:=(d.frozen_far ⟨g,2,Y⟩ (by simp;omega) f).trans (HF.o 2);obtain⟨q1,q3⟩:=I.o _ _ _ m d;have Q1:=JO q1));go_ret;rw[bD n];exact⟨Z,Q1.o,q3⟩
theorem I9(B g b off n k:Nat)(r:Rd)(f:List ByteArray)(w:World)(h:cN w B g r)(t:bM w b off f)(y:D f=n)(K:n<10000)(F:B<=T (A w))(s:D r.H<6)(p:D r.O<10):
  Calls prog 99 #[.pointer (z ⟨g,0,Y⟩),U (z ⟨b,off,Y⟩) n k,G C r.i] w fun e w'=>e=L (.bool (eW r (f.map x5)).2)/\cN w' B g (eW r (f.map x5)).1/\Eg B g w w':=by
 have j:=JO h;by_cases h2:n=2
 case neg =>
  have d:JP (eW r (f.map x5)=(r,M)):=UC r _ (by
   rintro⟨a,c,e⟩;have:=congrArg List.length e;simp at this;omega)
  have N:((n:Int) != 2)=true:=by rw[bne_iff_ne];omega
  go_enter func99,ntmps99;go_wp2;go_ret;rw[bD d];exact⟨Z,j.o,Eg.refl _ _ _⟩
 subst h2
 match f,t,y with
 |[a,c],t,y =>
 obtain⟨_,x,u⟩:=t.head;obtain⟨J,_,_⟩:=u.head;by_cases hc1:c.size=1
 case neg =>
  have d:JP (eW r [a.toList,c.toList]=(r,M)):=UC r _ (by
   rintro⟨S,V,e⟩;have:=MS c;simp at e;rw[e.2]at this;simp at this;omega)
  have N:((c.size:Int) != 1)=true:=by rw[bne_iff_ne];omega
  go_enter func99,ntmps99;go_wp2;go_ret;simp only[x0,x1];rw[bD d];exact⟨Z,j.o,Eg.refl _ _ _⟩
 have I:c[0].toNat<256:=xe _;have m:=II c hc1;have v:JP (eW r [a.toList,c.toList]=if(cH c[0] 2).2 then fB r (cH c[0] 2).1 r.i else(r,M)):=by
  unfold JP;rw[m,SX]
 cases hdg:(cH c[0] 2).2
 ·have d:JP (eW r [a.toList,c.toList]=(r,M)):=by
   unfold JP;rw[v.o,hdg];rfl
  go_enter func99,ntmps99;go_wp2_with(first|(go_at_call 146;refine(UB _ _ _).mono ?_;rintro e w' ⟨rfl,rfl⟩))
  all_goals go_ret
  all_goals try simp only[x0,x1]
  all_goals rw[bD d]
  all_goals exact⟨Z,j.o,Eg.refl _ _ _⟩
 ·have d:JP (eW r [a.toList,c.toList]=fB r (cH c[0] 2).1 r.i):=by
   unfold JP;rw[v.o,hdg];rfl
  go_enter func99,ntmps99;go_wp2_with(first|(go_at_call 146;refine(UB _ _ _).mono ?_;rintro e w' ⟨rfl,rfl⟩)|(go_at_call 138;refine(UD B g r _ _ _ j.o F s p).mono ?_;rintro e w1 ⟨rfl,q,l⟩))
  all_goals go_ret
  all_goals try simp only[x0,x1]
  all_goals rw[bD d]
  all_goals exact⟨Z,q,l⟩
end Go.Proofs.YtlikcongbhhpfaaGreatDoor
