import Derived.Test.YtehclbpoabdpoaaGreatDoorO04
set_option linter.all false
set_option maxHeartbeats 0
namespace Go.Proofs.YtehclbpoabdpoaaGreatDoor
open Go Go.RowKit Go.Proofs.Tryz P Q
set_option maxRecDepth 1000000
variable {B cap1 g g1:Nat}{a w w' w1:World}{r:Rd}{ov tv:Value}{vs:List Value}
open List renaming length->D
open _root_.Array renaming size->T
open Go.World renaming heap->A
open Go.IntKind renaming i64->Y
open Option renaming none->C,some->z
open Go.Value renaming int->G,slice->U
open Go.Obj renaming cells->E
open Bool renaming false->M
open Go.Ending renaming returned->L
open Go.Value renaming int->xF,slice->x3,oneCell'->xe
open Go.RowKit.Below renaming heap_setCell->xR,heap_alloc->xW,refl->x4
open List renaming map_cons->x1,map_nil->x2,length_append->x7,length_cons->x8,length_nil->x9,map_append->xa
open Go.Obj renaming cells->x5
open _root_.ByteArray renaming toList->x6
open Go.World renaming news_of_block->xb,cell?_of_block->xc,frozen?_of_block->xd
open UInt8 renaming toNat_lt->xg
structure Ee(B g:Nat)(w w':World):Prop where
 os:w'.os=w.os
 tape:w'.tape=w.tape
 output:w'.output=w.output
 size:T (A w)<=T (A w')
 block:∀k,k<B->k≠g->w'.heap[k]?=w.heap[k]?
def Ee.refl(B g:Nat)(w:World):Ee B g w w:=⟨Z,Z,Z,Nat.le_refl _,fun _ _ _=>Z⟩
def Ee.of(h:Below B w w'):Ee B g w w':=⟨h.os,h.tape,h.output,h.size,fun k b _=>h.block k b⟩
def Ee.trans{b c:World}(h:Ee B g a b)(k:Ee B g b c):Ee B g a c :=
 ⟨k.os.trans h.os,k.tape.trans h.tape,k.output.trans h.output,Nat.le_trans h.size k.size,fun i e d=>(k.block i e d).trans (h.block i e d)⟩
def Ee.drew(h:Ee B g a w):Ee B g a w.drew:=⟨h.os,h.tape,h.output,h.size,h.block⟩
def Ee.alloc(h:Ee B g a w)(b:B<=T (A w))(o:Obj):Ee B g a (w.alloc o):=
 h.trans (Ee.of ((x4 _ _).alloc b _))
def Ee.setCell(h:Ee B g a w){i:Nat}(u:Value):Ee B g a (w.setCell ⟨g,i,C⟩ u):=
 h.trans ⟨Z,Z,Z,by simp[World.setCell],fun k _ b=>xR _ _ _ _ b⟩
def Ee.grown{row:Option Nat}(h:Ee B g a w)(c:w.grownBy w' row)(b:B<=T (A w))(d:∀k,row=z k->B<=k):Ee B g a w' :=
 h.trans (Ee.of ((x4 _ _).grown c b d))
def Ee.X{b:Nat}(h:Ee B g w w')(c:b<=B)(d:b<=g):Below b w w':=⟨h.os,h.tape,h.output,h.size,fun k e=>h.block k (by omega) (by omega)⟩
def Ig(B g N:Nat)(r:Rd)(i:MV)(w:World)(h:dU w B g r)(x:r.H≠[])(hF:zN N r)(hN:N<10000)(hB:B<=T (A w))(W:D r.O<10):
  Calls prog 127 #[.pointer (z ⟨g,0,C⟩),.agg (aV i)] w fun e w'=>e=L (.bool (P.fC r i).2)/\dU w' B g (P.fC r i).1/\Ee B g w w':=by
 have hA:=h;obtain⟨tv,ov,vs,h⟩:=h;by_cases he:r.O=[]
 ·have y:ov=U C 0 0\/∃k c,ov=MU k 0 c:=by
   have:=h.O;rw[he]at this
   rcases this.2 with⟨e,_⟩|⟨k,c,n,e,_⟩
   ·exact .inl e
   ·exact .inr ⟨k,c,e⟩
  obtain⟨q,p,g0,g1,g2,g3,g4⟩:=h.F;have m:MT (P.fC r i=(r,M)):=by unfold MT;simp[P.fC,he]
  have t:dU (w.alloc (E (aV i) 137)) B g r:=hA.X ((x4 _ _).alloc (Nat.le_refl _) _)
  rcases y with rfl|⟨k,c,rfl⟩
  all_goals
   go_enter func127,ntmps127;go_wp2;go_ret;rw[cV m];exact⟨Z,t,(Ee.refl _ _ _).alloc hB _⟩
 ·obtain⟨f,o,l⟩:=nC r.O he;have b:=h.O;rw[l]at b;simp only[x7,x8,x9,Nat.zero_add,xa,x1,x2]at b;obtain⟨k,d,rfl,aa,V⟩:=b.form (by omega);have hc:w.cell? ⟨k,D f,C⟩=z (G Y o):=by
   rw[b.cellAt _ (by omega),List.getElem?_append_right (by simp)];simp
  obtain⟨q,p,g0,g1,g2,g3,g4⟩:=h.F;have af:D f<10:=by rw[l]at W;simp at W;omega
  have m:MT (P.fC r i=(P.put {r with O:=f} {i with label:=o},true)):=by unfold MT;simp[P.fC,l]
  have HR:MT (dU ((w.setCell ⟨g,4,C⟩ (MU k (D f) d)).alloc (E (aV {i with label:=o}) 137)) B g {r with O:=f}):=by
   have K:=h.O;rw[l]at K;simp only[x7,x8,x9,Nat.zero_add,xa,x1,x2]at K;have k3:=h.tT {r with O:=f} (MU k (D f) d) 4 (MU k (D f) d) Z (Hw K) Z;exact⟨tv,_,vs,k3.keep fun j hj=>xW _ _ _ hj⟩
  have u:MT (Ee B g w ((w.setCell ⟨g,4,C⟩ (MU k (D f) d)).alloc (E (aV {i with label:=o}) 137))):=
   ((Ee.refl _ _ _).setCell _).alloc (by simp;omega) _
  have ae:D f+1<=d:=by
   rcases b.2 with⟨s,_⟩|⟨g',S,n,s,hb,hg,ad,ab,ac,J⟩
   ·simp at s
   ·simp only[Value.slice.injEq]at s;omega
  simp only[aV];go_enter func127,ntmps127;go_wp2_with(first
   |(go_at_call 129;refine(LS B g N {r with O:=f} {i with label:=o} _ (by exact HR.o) x hF hN (by simp;omega)).mono ?_;rintro e w1 ⟨rfl,I,v⟩))
  go_ret;rw[cV m];exact⟨Z,I,u.trans (Ee.of v)⟩
def Tryz.OC:(prog.info? 3).map (fun i=>(i.zero,i.size,i.bytes))=z (z (G Y 0),1,8):=by kernel_rfl
def Ih{W0:World}{x:Int}(h:OZ w B g r tv ov vs)(t:∀k,k<T (A w)->W0.heap[k]?=w.heap[k]?)(u:T (A w)<=T (A W0))(i:w1.ownsRow B 3 1 (MU g1 (D r.O+1) cap1) (D r.O+1) (r.O.map (xF Y)++[G Y x]))(f:W0.grownBy w1 ov.ownBlock):
  OZ (w1.setCell ⟨g,4,C⟩ (MU g1 (D r.O+1) cap1)) B g {r with O:=r.O++[x]} tv (MU g1 (D r.O+1) cap1) vs/\∀k,k<T (A W0)->ov.ownBlock≠z k->k≠g->(w1.setCell ⟨g,4,C⟩ (MU g1 (D r.O+1) cap1)).heap[k]?=W0.heap[k]?:=by
 have same:∀k,k<T (A w)->ov.ownBlock≠z k->w1.heap[k]?=w.heap[k]?:=fun k j l=>by
  rw[f.block k (by omega) (Ne.symm l),t k j]
 have F:∀k,(∃(c:Array Value) (e:TypeId),w.heap[k]?=z (x5 c e (0,0))/\e≠3)->ov.ownBlock≠z k:=fun k ⟨c,e,d,p⟩=>pE h.O d (Ne.symm p)
 have keep:∀k,k<T (A w)->(∃(c:Array Value) (e:TypeId),w.heap[k]?=z (x5 c e (0,0))/\e≠3)->w1.heap[k]?=w.heap[k]?:=fun k j l=>same k j (F k l)
 have j:OZ w1 B g {r with O:=r.O++[x]} tv (MU g1 (D r.O+1) cap1) vs->True:=fun _=>trivial
 have m:w1.heap[g]?=w.heap[g]?:=keep g h.lt ⟨_,_,h.cells,by decide⟩;refine⟨⟨?_,?_,?_,?_⟩,fun k j l q=>?_⟩
 ·have:=h.cells;rw[<- m]at this;rw[bX this];rfl
 ·refine bE h.H fun k b=>?_;obtain⟨c,d⟩:=gQ h.H b;rw[xR _ _ _ _ fun e=>by simp at e;subst e;rw[h.cells]at d;simp at d];exact keep k (h.H.lt k b).2 ⟨c,_,d,by decide⟩
 ·have s:=i;refine bE (by simpa using s) fun k b=>xR _ _ _ _ fun e=>?_;simp at e;subst e;obtain⟨c,d⟩:=gQ i b;rw[m,h.cells]at d;simp at d
 ·refine h.S.keep fun v y k b=>?_;obtain⟨n,I,o⟩:=h.S.mem v y;obtain⟨c,d⟩:=gQ o b;rw[xR _ _ _ _ fun e=>by simp at e;subst e;rw[h.cells]at d;simp at d];exact keep k (o.lt k b).2 ⟨c,_,d,by decide⟩
 ·rw[xR _ _ _ _ q,f.block k j (Ne.symm l)]
def Ii(B g N:Nat)(r:Rd)(d:MV)(w:World)(h:dU w B g r)(J:r.H≠[])(hF:zN N r)(hN:N<10000)(hB:B<=T (A w))(ho:D r.O<2)(af:0<=r.I)(ag:r.I<10000):
  Calls prog 128 #[.pointer (z ⟨g,0,C⟩),.agg (aV d)] w fun e w'=>e=L (.bool (P.branch r d).2)/\dU w' B g (P.branch r d).1/\Ee B g w w':=by
 obtain⟨tv,ov,vs,h⟩:=h;obtain⟨i0,hi,V,W,X⟩:=info_parts Tryz.OC;have K:∃a c,ov=U a (D r.O) c:=by
  rcases h.O.2 with⟨e,h0⟩|⟨k,c,ab,e,_⟩
  ·exact⟨C,0,by rw[e,h0]⟩
  ·exact⟨_,c,e⟩
 obtain⟨m,n,rfl⟩:=K;obtain⟨ad,ac,g0,g1,g2,g3,g4⟩:=h.F;have HE:MT (P.branch r d=(P.put {r with I:=r.I+1,O:=r.O++[r.I+1]} {d with label:=r.I+1},true)):=by
  unfold MT;rw[P.branch,if_neg (by omega)]
 have f:OZ ((w.setCell ⟨g,3,C⟩ (G Y (r.I+1))).alloc (E (aV {d with label:=r.I+1}) 137)) B g {r with I:=r.I+1} tv (U m (D r.O) n) vs :=
  (h.tT {r with I:=r.I+1} (U m (D r.O) n) 3 (G Y (r.I+1)) Z h.O Z).keep fun j hj=>xW _ _ _ hj
 have HO:MT ((((w.setCell ⟨g,3,C⟩ (G Y (r.I+1))).alloc (E (aV {d with label:=r.I+1}) 137)).drew.alloc (E #[G Y (r.I+1)] 3)).ownsRow B 3 1 (U m (D r.O) n) (D r.O) (r.O.map (xF Y))):=(f.O.drew).alloc _;have HN:MT (∀j u,[xF Y (r.I+1)][j]?=z u->(((w.setCell ⟨g,3,C⟩ (G Y (r.I+1))).alloc (E (aV {d with label:=r.I+1}) 137)).drew.alloc (E #[G Y (r.I+1)] 3)).cell? ((⟨T (A w)+1,0,C⟩:Addr).add j)=z u):=
  xb (cs:=#[G Y (r.I+1)]) (t:=3) (fr:=(0,0)) (by have:=heap_alloc_new ((w.setCell ⟨g,3,C⟩ (G Y (r.I+1))).alloc (E (aV {d with label:=r.I+1}) 137)).drew (E #[G Y (r.I+1)] 3);simpa using this)
 have i:z g≠(x3 m (D r.O) n).ownBlock:=Ne.symm (pE f.O f.cells (by decide));have eb:(((w.setCell ⟨g,3,C⟩ (G Y (r.I+1))).alloc (E (aV {d with label:=r.I+1}) 137)).drew.alloc (E #[G Y (r.I+1)] 3)).heap[g]?=((w.setCell ⟨g,3,C⟩ (G Y (r.I+1))).alloc (E (aV {d with label:=r.I+1}) 137)).heap[g]?:=xW _ _ _ f.lt;have HC:MT ((((w.setCell ⟨g,3,C⟩ (G Y (r.I+1))).alloc (E (aV {d with label:=r.I+1}) 137)).drew.alloc (E #[G Y (r.I+1)] 3)).cell? ⟨g,4,C⟩=z (U m (D r.O) n)):=by
  unfold MT;rw[xc (w:=(w.setCell ⟨g,3,C⟩ (G Y (r.I+1))).alloc (E (aV {d with label:=r.I+1}) 137)) eb];simp[World.cell?,f.cells]
 have HF:MT ((((w.setCell ⟨g,3,C⟩ (G Y (r.I+1))).alloc (E (aV {d with label:=r.I+1}) 137)).drew.alloc (E #[G Y (r.I+1)] 3)).frozen? ⟨g,4,C⟩=M):=by
  unfold MT;rw[xd (w:=(w.setCell ⟨g,3,C⟩ (G Y (r.I+1))).alloc (E (aV {d with label:=r.I+1}) 137)) eb];simp[World.frozen?,f.cells]
 have fin:∀q p w1,World.ownsRow w1 B 3 1 (MU q (D r.O+1) p) (D r.O+1) (r.O.map (xF Y)++[G Y (r.I+1)])->(((w.setCell ⟨g,3,C⟩ (G Y (r.I+1))).alloc (E (aV {d with label:=r.I+1}) 137)).drew.alloc (E #[G Y (r.I+1)] 3)).grownBy w1 (x3 m (D r.O) n).ownBlock ->
   dU (w1.setCell ⟨g,4,C⟩ (MU q (D r.O+1) p)) B g {r with I:=r.I+1,O:=r.O++[r.I+1]}/\bB (w1.setCell ⟨g,4,C⟩ (MU q (D r.O+1) p)) (T (A w)) {d with label:=r.I+1}/\Ee B g w (w1.setCell ⟨g,4,C⟩ (MU q (D r.O+1) p)):=fun q p w1 s b=>by
  obtain⟨m1,m2⟩:=Ih (W0:=((w.setCell ⟨g,3,C⟩ (G Y (r.I+1))).alloc (E (aV {d with label:=r.I+1}) 137)).drew.alloc (E #[G Y (r.I+1)] 3)) f (fun k y=>xW _ _ _ y) (by simp) s b;have hs:bB ((w.setCell ⟨g,3,C⟩ (G Y (r.I+1))).alloc (E (aV {d with label:=r.I+1}) 137)) (T (A w)) {d with label:=r.I+1}:=by
   have:=bB.new (w.setCell ⟨g,3,C⟩ (G Y (r.I+1))) {d with label:=r.I+1};simpa using this
  refine⟨⟨_,_,_,m1⟩,(bB.alloc (w:=((w.setCell ⟨g,3,C⟩ (G Y (r.I+1))).alloc (E (aV {d with label:=r.I+1}) 137)).drew) hs _).aC (m2 (T (A w)) (by simp;omega) (pE f.O hs (by decide)) (by omega)),?_⟩;refine Ee.setCell (Ee.grown (((((Ee.refl B g w).setCell _).alloc (by simp;omega) _).drew).alloc (by simp;omega) _) b (by simp;omega) fun k y=>(f.O.lt k y).1) _
 have v:=MS fin;simp only[aV];go_enter func128,ntmps128;go_wp2_with fail;go_region_law(refine step_append_lies _ Z (.tmp 27) (.tmp 32) 37 Z B 3 i0 (G Y 0) 1 8 underlying37 hi V W X Z (by decide) (U m (D r.O) n) (D r.O) (r.O.map (xF Y)) (by simp[Act.eval]) (by exact HO.o) ⟨T (A w)+1,0,C⟩ 1 1 [G Y (r.I+1)] (by simp[Act.eval]) Z (by exact HN.o) (by simp[xe]) (by decide) (by unfold maxLen;omega) (by omega) (by simp;omega) (T (A w)+2) (by simp) ?_;intro q p w1 l b ae aa;have c1:=(b.cell_far ⟨g,4,C⟩ (by simp;omega) i).trans HC.o;have f1:=(b.frozen_far ⟨g,4,C⟩ (by simp;omega) i).trans HF.o;have ah:T (A w)+2<=T (A w1):=by have:=b.size;simp at this;omega)
 all_goals
  obtain⟨q1,q2,q3⟩:=v.o _ _ _ l b;have Q1:=MS q1;have Q2:=MS q2;go_wp2_with(first
   |(refine rT (.tmp 3) Z Z (T (A w)) {d with label:=r.I+1} Z (by exact Q2.o) ?_)
   |(go_at_call 129;refine(LS B g N {r with I:=r.I+1,O:=r.O++[r.I+1]} {d with label:=r.I+1} _ (by exact Q1.o) J hF hN (by simp;omega)).mono ?_;rintro e w2 ⟨rfl,S,x⟩))
  go_ret;rw[cV HE];exact⟨Z,S,q3.trans (Ee.of x)⟩
def Tryz.infoThr:(prog.info? 132).map (fun i=>(i.zero,i.size,i.bytes))=z (z (.agg #[G Y 0,G Y 0,U C 0 0]),3,40):=by kernel_rfl
def Ij{W0:World}{b l:Int}(h:OZ w B g r tv ov vs)(x:∀k,k<T (A w)->W0.heap[k]?=w.heap[k]?)(y:T (A w)<=T (A W0))(i:w1.ownsRow B 132 3 (MU g1 (D r.H+1) cap1) (D r.H+1) (QL r.H vs++[G Y b,G Y l,U C 0 0]))(j:W0.grownBy w1 tv.ownBlock):
  OZ ((w1.setCell ⟨g,0,C⟩ (MU g1 (D r.H+1) cap1)).setCell ⟨g,2,C⟩ (G Y 0)) B g {r with H:=r.H++[⟨b,l,[]⟩],count:=0} (MU g1 (D r.H+1) cap1) ov (vs++[U C 0 0]):=by
 have keep:∀k,k<T (A w)->(∃(c:Array Value) (e:TypeId),w.heap[k]?=z (x5 c e (0,0))/\e≠132)->w1.heap[k]?=w.heap[k]?:=fun k s t=>by
  rw[j.block k (by omega) (Ne.symm ((fun k ⟨c,e,f,p⟩=>pE h.H f (Ne.symm p)) k t)),x k s]
 have m:w1.heap[g]?=w.heap[g]?:=keep g h.lt ⟨_,_,h.cells,by decide⟩;have out:∀k,k≠g->((w1.setCell ⟨g,0,C⟩ (MU g1 (D r.H+1) cap1)).setCell ⟨g,2,C⟩ (G Y 0)).heap[k]?=w1.heap[k]?:=fun k d=>by
  rw[xR _ _ _ _ d,xR _ _ _ _ d]
 refine⟨?_,?_,?_,?_⟩
 ·have:=h.cells;rw[<- m]at this;rw[bX (bX this _ _)];rfl
 ·have q:=i;rw[<- zQ r.H vs ⟨b,l,[]⟩ (U C 0 0) h.S.vO]at q;refine bE (by simpa using q) fun k d=>out k fun e=>?_;subst e;obtain⟨c,f⟩:=gQ i d;rw[m,h.cells]at f;simp at f
 ·refine bE h.O fun k d=>?_;obtain⟨c,f⟩:=gQ h.O d;rw[out k fun e=>by subst e;rw[h.cells]at f;simp at f];exact keep k (h.O.lt k d).2 ⟨c,_,f,by decide⟩
 ·rw[zY];refine⟨h.S.keep fun v F k d=>?_,World.ownsRow_nil _ _ _ _,fun u _=>?_⟩
  ·obtain⟨n,I,o⟩:=h.S.mem v F;obtain⟨c,f⟩:=gQ o d;rw[out k fun e=>by subst e;rw[h.cells]at f;simp at f];exact keep k (o.lt k d).2 ⟨c,_,f,by decide⟩
  ·cases hu:u.ownBlock with
   |none=>exact .inl Z
   |some k=>right;simp[Value.ownBlock]
def UX(r:Rd)(b l:Int)(h:4<=D r.H\/0<D r.O):oM r b l=(r,M):=by
 unfold oM;exact if_pos h
def UY(x:UInt8)(n:Int)(w:World):
  Calls prog 146 #[G .u8 (x.toNat:Int),G Y n] w fun e w'=>e=L (.tuple #[G Y (eD x n).1,.bool (eD x n).2])/\w'=w :=
 LG _ _ _ (by omega) (by have:=xg x;omega)
def UZ(r:Rd)(b:List (List UInt8))(h:¬∃a c,b=[a,[c]]):P.eG r b=(r,M):=by
 unfold P.eG
 split
 ·rfl
 ·split
  ·rename_i a c;exact absurd ⟨a,c,Z⟩ h
  ·rfl
def Ik(B g:Nat)(r:Rd)(b l:Int)(w:World)(h:dU w B g r)(hB:B<=T (A w))(ah:D r.H<6)(ag:D r.O<10):
  Calls prog 85 #[.pointer (z ⟨g,0,C⟩),G Y b,G Y l] w fun e w'=>e=L (.bool (oM r b l).2)/\dU w' B g (oM r b l).1/\Ee B g w w':=by
 have hA:=MS h;obtain⟨tv,ov,vs,h⟩:=h;obtain⟨i0,hi,X,aa,ab⟩:=info_parts Tryz.infoThr;have V:∃a c,ov=U a (D r.O) c:=by
  rcases h.O.2 with⟨e,s⟩|⟨k,c,J,e,_⟩
  ·exact⟨C,0,by rw[e,s]⟩
  ·exact⟨_,c,e⟩
 obtain⟨oa,oc,rfl⟩:=V;have W:∃a c,tv=U a (D r.H) c:=by
  rcases h.H.2 with⟨e,s⟩|⟨k,c,J,e,_⟩
  ·exact⟨C,0,by rw[e,s]⟩
  ·exact⟨_,c,e⟩
 obtain⟨x,y,rfl⟩:=W;obtain⟨ad,K,g0,g1,g2,g3,g4⟩:=h.F;by_cases h4:4<=D r.H
 ·have n:MT (oM r b l=(r,M)):=UX r _ _ (Or.inl h4);have N:(4:Int)<=(D r.H:Int):=by omega
  go_enter func85,ntmps85;go_wp2;go_ret;rw[cV n];exact⟨Z,hA.o,Ee.refl _ _ _⟩
 have N:¬(4:Int)<=(D r.H:Int):=by omega
 by_cases s:0<D r.O
 ·have n:MT (oM r b l=(r,M)):=UX r _ _ (Or.inr s);go_enter func85,ntmps85;go_wp2;go_ret;rw[cV n];exact⟨Z,hA.o,Ee.refl _ _ _⟩
 have ae:¬(0:Int)<(D r.O:Int):=by omega
 have n:MT (oM r b l=({r with H:=r.H++[⟨b,l,[]⟩],count:=0},true)):=by
  unfold MT oM;rw[if_neg (by omega)]
 have HO:MT ((w.alloc (E #[xF Y b,G Y l,U C 0 0] 132)).ownsRow B 132 3 (U x (D r.H) y) (D r.H) (QL r.H vs)):=h.H.alloc _;have HN:MT (∀j u,[xF Y b,G Y l,U C 0 0][j]?=z u->(w.alloc (E #[xF Y b,G Y l,U C 0 0] 132)).cell? ((⟨T (A w),0,C⟩:Addr).add j)=z u):=
  xb (cs:=#[xF Y b,G Y l,U C 0 0]) (t:=132) (fr:=(0,0)) (by have:=heap_alloc_new w (E #[xF Y b,G Y l,U C 0 0] 132);simpa using this)
 have f:z g≠(x3 x (D r.H) y).ownBlock:=Ne.symm (pE h.H h.cells (by decide));have eb:(w.alloc (E #[xF Y b,G Y l,U C 0 0] 132)).heap[g]?=w.heap[g]?:=xW _ _ _ h.lt;have HC:MT (∀i,(w.alloc (E #[xF Y b,G Y l,U C 0 0] 132)).cell? ⟨g,i,C⟩=w.cell? ⟨g,i,C⟩):=fun i=>xc (w:=w) (a:=⟨g,i,C⟩) eb
 have HF:MT (∀i,(w.alloc (E #[xF Y b,G Y l,U C 0 0] 132)).frozen? ⟨g,i,C⟩=M):=fun i=>(xd (w:=w) (a:=⟨g,i,C⟩) eb).trans (K i)
 have fin:∀q p w1,World.ownsRow w1 B 132 3 (MU q (D r.H+1) p) (D r.H+1) (QL r.H vs++[xF Y b,G Y l,U C 0 0])->(w.alloc (E #[xF Y b,G Y l,U C 0 0] 132)).grownBy w1 (x3 x (D r.H) y).ownBlock ->
   dU ((w1.setCell ⟨g,0,C⟩ (MU q (D r.H+1) p)).setCell ⟨g,2,C⟩ (G Y 0)) B g {r with H:=r.H++[⟨b,l,[]⟩],count:=0}/\Ee B g w ((w1.setCell ⟨g,0,C⟩ (MU q (D r.H+1) p)).setCell ⟨g,2,C⟩ (G Y 0)):=fun q p w1 v d=>by
  refine⟨⟨_,_,_,Ij (W0:=w.alloc (E #[xF Y b,G Y l,U C 0 0] 132)) h (fun k S=>xW _ _ _ S) (by simp) v d⟩,?_⟩;refine Ee.setCell (Ee.setCell (Ee.grown ((Ee.refl B g w).alloc hB _) d (by simp;omega) fun k S=>(h.H.lt k S).1) _) _
 have I:=MS fin;go_enter func85,ntmps85;go_wp2_with(first|(at_builtin;refine wpList_append_lies _ Z (.tmp 25) (.tmp 29) 38 Z B 132 i0 (.agg #[G Y 0,G Y 0,U C 0 0]) 3 40 underlying38 hi X aa ab Z (by decide) (U x (D r.H) y) (D r.H) (QL r.H vs) Z (by exact HO.o) ⟨T (A w),0,C⟩ 1 1 [xF Y b,G Y l,U C 0 0] Z Z (by exact HN.o) (by simp[xe]) (by decide) (by unfold maxLen;omega) (by omega) (by simp;omega) _ Z ?_;intro q p w1 m d af ac;have c0:=(d.cell_far ⟨g,0,C⟩ (by simp;omega) f).trans ((HC.o 0).trans g0);have c2:=(d.cell_far ⟨g,2,C⟩ (by simp;omega) f).trans ((HC.o 2).trans g2);have f0:=(d.frozen_far ⟨g,0,C⟩ (by simp;omega) f).trans (HF.o 0);have f2:=(d.frozen_far ⟨g,2,C⟩ (by simp;omega) f).trans (HF.o 2);obtain⟨q1,q3⟩:=I.o _ _ _ m d;have Q1:=MS q1));go_ret;rw[cV n];exact⟨Z,Q1.o,q3⟩
def Il(B g b off n k:Nat)(r:Rd)(f:List ByteArray)(w:World)(h:dU w B g r)(t:NQ w b off f)(y:D f=n)(K:n<10000)(F:B<=T (A w))(s:D r.H<6)(p:D r.O<10):
  Calls prog 120 #[.pointer (z ⟨g,0,C⟩),U (z ⟨b,off,C⟩) n k,G Y r.i] w fun e w'=>e=L (.bool (P.eG r (f.map x6)).2)/\dU w' B g (P.eG r (f.map x6)).1/\Ee B g w w':=by
 have j:=MS h;by_cases h2:n=2
 case neg =>
  have d:MT (P.eG r (f.map x6)=(r,M)):=UZ r _ (by
   rintro⟨a,c,e⟩;have:=congrArg List.length e;simp at this;omega)
  have N:((n:Int) != 2)=true:=by rw[bne_iff_ne];omega
  go_enter func120,ntmps120;go_wp2;go_ret;rw[cV d];exact⟨Z,j.o,Ee.refl _ _ _⟩
 subst h2
 match f,t,y with
 |[a,c],t,y =>
 obtain⟨_,x,u⟩:=t.head;obtain⟨J,_,_⟩:=u.head;by_cases hc1:c.size=1
 case neg =>
  have d:MT (P.eG r [a.toList,c.toList]=(r,M)):=UZ r _ (by
   rintro⟨S,V,e⟩;have:=jR c;simp at e;rw[e.2]at this;simp at this;omega)
  have N:((c.size:Int) != 1)=true:=by rw[bne_iff_ne];omega
  go_enter func120,ntmps120;go_wp2;go_ret;simp only[x1,x2];rw[cV d];exact⟨Z,j.o,Ee.refl _ _ _⟩
 have I:c[0].toNat<256:=xg _;have m:=TT c hc1;have v:MT (P.eG r [a.toList,c.toList]=if(eD c[0] 2).2 then oM r (eD c[0] 2).1 r.i else(r,M)):=by
  unfold MT;rw[m,Hf]
 cases hdg:(eD c[0] 2).2
 ·have d:MT (P.eG r [a.toList,c.toList]=(r,M)):=by
   unfold MT;rw[v.o,hdg];rfl
  go_enter func120,ntmps120;go_wp2_with(first|(go_at_call 146;refine(UY _ _ _).mono ?_;rintro e w' ⟨rfl,rfl⟩))
  all_goals go_ret
  all_goals try simp only[x1,x2]
  all_goals rw[cV d]
  all_goals exact⟨Z,j.o,Ee.refl _ _ _⟩
 ·have d:MT (P.eG r [a.toList,c.toList]=oM r (eD c[0] 2).1 r.i):=by
   unfold MT;rw[v.o,hdg];rfl
  go_enter func120,ntmps120;go_wp2_with(first|(go_at_call 146;refine(UY _ _ _).mono ?_;rintro e w' ⟨rfl,rfl⟩)|(go_at_call 85;refine(Ik B g r _ _ _ j.o F s p).mono ?_;rintro e w1 ⟨rfl,q,l⟩))
  all_goals go_ret
  all_goals try simp only[x1,x2]
  all_goals rw[cV d]
  all_goals exact⟨Z,q,l⟩
