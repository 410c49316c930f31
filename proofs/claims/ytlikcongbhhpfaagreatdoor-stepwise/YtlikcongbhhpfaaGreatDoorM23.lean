import Derived.Test.YtlikcongbhhpfaaGreatDoorM22
import Derived.Test.YtlikcongbhhpfaaGreatDoorM18
set_option linter.unusedVariables false
set_option linter.unusedSimpArgs false
set_option maxHeartbeats 12800000
namespace Go.Proofs.YtlikcongbhhpfaaGreatDoor
open Go Go.RowKit Go.Proofs.Tryz P Q
set_option maxRecDepth 1000000
variable {w w' w1 w2:World}{B b g:Nat}{m:Ex}{ev':Value}{e:Ev}
open _root_.Array renaming size->T
open Go.World renaming heap->W
open List renaming length->J
open Go.Value renaming int->C,bool->G,agg->S
open Option renaming none->O,some->U
open Go.IntKind renaming i64->I
open Go.Obj renaming cells->N
open Bool renaming false->M,true->L
open Go.Ending renaming returned->D
open Nat renaming le_refl->xF,lt_of_lt_of_le->xh
open Go.RowKit.Below renaming refl->xR,heap_setCell->xW,heap_alloc->xi
open Or renaming inl->xa,inr->xc
open Go.Value renaming ownBlock->xb,oneCell'->xg
open List renaming foldl_cons->xd,foldl_nil->xe
def QY(m:Ex)(ev:Value):Array Value:=#[C I m.j,C I m.block,C I (m.Y:Nat),C I (m.g.getD 0 0),C I (m.g.getD 1 0),C I (m.g.getD 2 0),C I (m.g.getD 3 0),
 C .u64 (m.made.getD 0 0:Nat),C .u64 (m.made.getD 1 0:Nat),C .u64 (m.made.getD 2 0:Nat),C .u64 (m.made.getD 3 0:Nat),C .u64 (m.A:Nat),C I (m.u:Nat),ev]
structure Ei(w:World)(B g:Nat)(m:Ex)(ev:Value):Prop where
 box:w.heap[g]?=U (N (QY m ev) 186 (0,0))
 K:w.ownsRow B 166 10 ev (J m.E) (MY m.E)
 ge:B<=g
 lr:J m.g=4
 lm:J m.made=4
theorem Ei.lt{ev:Value}(h:Ei w B g m ev):g<T (W w):=(Array.getElem?_eq_some_iff.1 h.box).1
theorem Ei.F{ev:Value}(h:Ei w B g m ev):w.cell? ⟨g,0,O⟩=U (C I m.j)/\w.cell? ⟨g,1,O⟩=U (C I m.block)/\w.cell? ⟨g,2,O⟩=U (C I (m.Y:Nat))/\w.cell? ⟨g,3,O⟩=U (C I (m.g.getD 0 0))/\w.cell? ⟨g,4,O⟩=U (C I (m.g.getD 1 0))/\w.cell? ⟨g,5,O⟩=U (C I (m.g.getD 2 0))/\w.cell? ⟨g,6,O⟩=U (C I (m.g.getD 3 0))/\
  w.cell? ⟨g,7,O⟩=U (C .u64 (m.made.getD 0 0:Nat))/\w.cell? ⟨g,8,O⟩=U (C .u64 (m.made.getD 1 0:Nat))/\w.cell? ⟨g,9,O⟩=U (C .u64 (m.made.getD 2 0:Nat))/\w.cell? ⟨g,10,O⟩=U (C .u64 (m.made.getD 3 0:Nat))/\w.cell? ⟨g,11,O⟩=U (C .u64 (m.A:Nat))/\w.cell? ⟨g,12,O⟩=U (C I (m.u:Nat))/\w.cell? ⟨g,13,O⟩=U ev/\∀j,w.frozen? ⟨g,j,O⟩=M:=by
 have a:=h.box;refine⟨?_,?_,?_,?_,?_,?_,?_,?_,?_,?_,?_,?_,?_,?_,fun j=>?_⟩<;>simp[World.cell?,World.frozen?,a,QY]
theorem Ei.form{ev:Value}(h:Ei w B g m ev):∃a c,ev=.slice a (J m.E) c/\(0<J m.E->∃b,a=U ⟨b,0,O⟩/\b<T (W w)):=by
 rcases h.K.2 with⟨e,f⟩|⟨k,c,d,e,_⟩
 ·exact⟨O,0,by rw[e,f],fun h=>by omega⟩
 ·exact⟨_,c,e,fun _=>⟨k,Z,(h.K.lt k (by rw[e];rfl)).2⟩⟩
theorem Ei.X{ev:Value}(h:Ei w B g m ev)(a:Below (T (W w)) w w'):Ei w' B g m ev :=
 ⟨(a.block g h.lt).trans h.box,aU h.K fun k e=>a.block k (h.K.lt k e).2,h.ge,h.lr,h.lm⟩
structure Eh(w w':World)(g:Nat)(ev ev':Value):Prop where
 os:w'.os=w.os
 tape:w'.tape=w.tape
 output:w'.output=w.output
 size:T (W w)<=T (W w')
 block:∀k,k<T (W w)->k≠g->ev.ownBlock≠U k->w'.heap[k]?=w.heap[k]?
 ow:ev'.ownBlock=ev.ownBlock\/∃b,ev'.ownBlock=U b/\T (W w)<=b
theorem Eh.of(a:Below (T (W w)) w w')(g:Nat)(ev:Value):Eh w w' g ev ev:=⟨a.os,a.tape,a.output,a.size,fun k c _ _=>a.block k c,xa Z⟩
theorem Eh.trans{a b c:Value}(h:Eh w w1 g a b)(k:Eh w1 w2 g b c):Eh w w2 g a c:=by
 refine⟨k.os.trans h.os,k.tape.trans h.tape,k.output.trans h.output,Nat.le_trans h.size k.size,fun i n l j=>?_,?_⟩
 ·refine(k.block i (by have:=h.size;omega) l ?_).trans (h.block i n l j)
  rcases h.ow with e|⟨q,e,o⟩
  ·rw[e];exact j
  ·rw[e];intro d;simp at d;omega
 ·rcases k.ow with e|⟨q,e,o⟩
  ·rcases h.ow with d|⟨p,d,f⟩
   ·exact xa (e.trans d)
   ·exact xc ⟨p,e.trans d,f⟩
  ·exact xc ⟨q,e,by have:=h.size;omega⟩
theorem Eh.X{ev:Value}(h:Eh w w' g ev ev')(a:Ei w B g m ev)(c:B<=T (W w)):Below B w w' :=
 ⟨h.os,h.tape,h.output,h.size,fun k d=>h.block k (by omega) (by have:=a.ge;omega) fun e=>by have:=(a.K.lt k e).1;omega⟩
theorem Eh.stm{ev:Value}(h:Eh w w' g ev ev')(i:Ei w B g m ev){j:JR}(a:KH w b j):KH w' b j:=by
 refine a.aA (h.block b a.lt ?_ ?_)
 ·intro e;have d:=i.box;unfold KH at a;rw[<- e,a]at d;simp at d
 ·intro e
  rcases i.K.2 with⟨c,_⟩|⟨n,k,l,c,_,f,_⟩
  ·rw[c]at e;simp[xb]at e
  ·rw[c]at e;simp[xb]at e;subst e;unfold KH at a;rw[a]at f;simp at f
theorem tT(B g:Nat)(m:Ex)(ev:Value)(t:Bool)(a:Int)(w:World)(h:Ei w B g m ev):
  Calls prog 176 #[.pointer (U ⟨g,0,O⟩),S #[G t,C I a]] w fun e w'=>e=D (C I (m.value ⟨t,a⟩))/\Below (T (W w)) w w':=by
 have hg:=h.lt;obtain⟨A,E,H,c3,c4,c5,c6,K,V,X,u,v,x,y,cf⟩:=h.F;clear A E H K V X u v x y h;have i:JP (m.value ⟨t,a⟩=if t then(if a<0\/4<=a then 0 else m.g.getD a.toNat 0)else a):=Z;have HB:JP (∀o,Below (T (W w)) w (w.alloc o)):=fun o=>(xR _ _).alloc (xF _) _
 cases t
 ·have c:JP (m.value ⟨M,a⟩=a):=by unfold JP;rw[i.o];rfl
  go_enter func176,ntmps176;go_wp2;go_ret;rw[c.o];exact⟨Z,HB.o _⟩
 by_cases h0:a<0
 ·have c:JP (m.value ⟨L,a⟩=0):=by unfold JP;rw[i.o];simp[h0]
  go_enter func176,ntmps176;go_wp2;go_ret;rw[c.o];exact⟨Z,HB.o _⟩
 have d:decide (a<0)=M:=decide_eq_false h0;by_cases h4:4<=a
 ·have c:JP (m.value ⟨L,a⟩=0):=by unfold JP;rw[i.o];simp[h4]
  go_enter func176,ntmps176;go_wp2;go_ret;rw[c.o];exact⟨Z,HB.o _⟩
 have f:decide (4<=a)=M:=decide_eq_false h4;have z:a=0\/a=1\/a=2\/a=3:=by omega
 generalize p:m.g.getD 0 0=Y at*;have j:=JO p;clear p;generalize q:m.g.getD 1 0=r1 at*;have k:=JO q;clear q;generalize r:m.g.getD 2 0=r2 at*;have l:=JO r;clear r;generalize s:m.g.getD 3 0=r3 at*;have n:=JO s;clear s
 rcases z with rfl|rfl|rfl|rfl
 ·have c:JP (m.value ⟨L,0⟩=Y):=j.o;clear i h0 h4 d f j k l n;go_enter func176,ntmps176;go_wp2;go_quiet (fail)
  all_goals
   go_wp2;go_ret;rw[c.o];exact⟨Z,((xR _ _).alloc (xF _) _).trans (dO _ _ _)⟩
 ·have c:JP (m.value ⟨L,1⟩=r1):=k.o;clear i h0 h4 d f j k l n;go_enter func176,ntmps176;go_wp2;go_quiet (fail)
  all_goals
   go_wp2;go_ret;rw[c.o];exact⟨Z,((xR _ _).alloc (xF _) _).trans (dO _ _ _)⟩
 ·have c:JP (m.value ⟨L,2⟩=r2):=l.o;clear i h0 h4 d f j k l n;go_enter func176,ntmps176;go_wp2;go_quiet (fail)
  all_goals
   go_wp2;go_ret;rw[c.o];exact⟨Z,((xR _ _).alloc (xF _) _).trans (dO _ _ _)⟩
 ·have c:JP (m.value ⟨L,3⟩=r3):=n.o;clear i h0 h4 d f j k l n;go_enter func176,ntmps176;go_wp2;go_quiet (fail)
  all_goals
   go_wp2;go_ret;rw[c.o];exact⟨Z,((xR _ _).alloc (xF _) _).trans (dO _ _ _)⟩
theorem mL(B g:Nat)(m:Ex)(ev:Value)(q:Bool)(a:Int)(w:World)(h:Ei w B g m ev):
  Calls prog 175 #[.pointer (U ⟨g,0,O⟩),S #[G q,C I a]] w fun e w'=>e=D (C .u64 (m.Ea ⟨q,a⟩:Nat))/\Below (T (W w)) w w':=by
 have hg:=h.lt;obtain⟨V,X,Y,c3,c4,c5,c6,c7,c8,c9,v,x,y,z,cf⟩:=h.F;have i:JP (m.Ea ⟨q,a⟩=if q then(if a<0\/4<=a then 0 else m.made.getD a.toNat 0)else 0):=Z;have HB:JP (∀o,Below (T (W w)) w (w.alloc o)):=fun o=>(xR _ _).alloc (xF _) _
 cases q
 ·have c:JP (m.Ea ⟨M,a⟩=0):=by unfold JP;rw[i.o];rfl
  go_enter func175,ntmps175;go_wp2;go_ret;rw[c.o];exact⟨Z,HB.o _⟩
 by_cases h0:a<0
 ·have c:JP (m.Ea ⟨L,a⟩=0):=by unfold JP;rw[i.o];simp[h0]
  go_enter func175,ntmps175;go_wp2;go_ret;rw[c.o];exact⟨Z,HB.o _⟩
 have d:decide (a<0)=M:=decide_eq_false h0;by_cases h4:4<=a
 ·have c:JP (m.Ea ⟨L,a⟩=0):=by unfold JP;rw[i.o];simp[h4]
  go_enter func175,ntmps175;go_wp2;go_ret;rw[c.o];exact⟨Z,HB.o _⟩
 have f:decide (4<=a)=M:=decide_eq_false h4;have r:a=0\/a=1\/a=2\/a=3:=by omega
 generalize s:m.made.getD 0 0=A at*;have j:=JO s;generalize t:m.made.getD 1 0=E at*;have k:=JO t;generalize u:m.made.getD 2 0=H at*;have l:=JO u;generalize p:m.made.getD 3 0=K at*;have n:=JO p;clear p
 rcases r with rfl|rfl|rfl|rfl
 ·have c:JP (m.Ea ⟨L,0⟩=A):=j.o;clear i h0 h4 d f j k l n;go_enter func175,ntmps175;go_wp2;go_quiet (fail)
  all_goals
   go_wp2;go_ret;rw[c.o];exact⟨Z,((xR _ _).alloc (xF _) _).trans (dO _ _ _)⟩
 ·have c:JP (m.Ea ⟨L,1⟩=E):=k.o;clear i h0 h4 d f j k l n;go_enter func175,ntmps175;go_wp2;go_quiet (fail)
  all_goals
   go_wp2;go_ret;rw[c.o];exact⟨Z,((xR _ _).alloc (xF _) _).trans (dO _ _ _)⟩
 ·have c:JP (m.Ea ⟨L,2⟩=H):=l.o;clear i h0 h4 d f j k l n;go_enter func175,ntmps175;go_wp2;go_quiet (fail)
  all_goals
   go_wp2;go_ret;rw[c.o];exact⟨Z,((xR _ _).alloc (xF _) _).trans (dO _ _ _)⟩
 ·have c:JP (m.Ea ⟨L,3⟩=K):=n.o;clear i h0 h4 d f j k l n;go_enter func175,ntmps175;go_wp2;go_quiet (fail)
  all_goals
   go_wp2;go_ret;rw[c.o];exact⟨Z,((xR _ _).alloc (xF _) _).trans (dO _ _ _)⟩
theorem XR(B g:Nat)(m:Ex)(ev:Value)(i:Nat)(w:World)(h:Ei w B g m ev)(d:i<J m.E)(hn:J m.E<10000):
  Calls prog 212 #[.pointer (U ⟨g,0,O⟩),C I (i:Int)] w fun e w'=>e=D (C I (m.aI i))/\w'=w:=by
 obtain⟨a,c,rfl,r⟩:=h.form;obtain⟨b,rfl,hb⟩:=r (by omega);obtain⟨y,z,A,H,V,X,Y,c7,c8,c9,l,n,p,q,cf⟩:=h.F;have u:w.rangeAt b (i*10) (aD (Q.ev m.E i)).toList:=by
  rw[sX m.E i d];intro j v f;have t:j<10:=(List.getElem?_eq_some_iff.1 f).1;rw[h.K.cellAt _ (by omega),XH m.E i d j t];exact f
 have cv:=u 4 (C I (Q.ev m.E i).value) Z;have k:JP (m.aI i=(Q.ev m.E i).value):=Z;generalize(Q.ev m.E i).value=x at*;have s:(i:Int)<(J m.E:Int):=by omega
 go_enter func212,ntmps212;go_wp2;go_ret;rw[k.o];exact⟨Z,Z⟩
theorem Ei.set{a:Ex}{ev:Value}(h:Ei w B g m ev)(l:w'.heap[g]?=U (N (QY a ev) 186 (0,0)))(o:∀k,k≠g->w'.heap[k]?=w.heap[k]?)(n:a.E=m.E)(q:J a.g=4)(p:J a.made=4):Ei w' B g a ev:=by
 refine⟨l,?_,h.ge,q,p⟩;rw[n];refine aU h.K fun k e=>o k ?_;intro j;subst j
 rcases h.K.2 with⟨c,_⟩|⟨r,f,i,c,_,d,_⟩
 ·rw[c]at e;simp[xb]at e
 ·rw[c]at e;simp[xb]at e;subst e;rw[h.box]at d;simp at d
theorem Eh.set(ev:Value)(l:List (Nat×Value)):Eh w (l.foldl (fun w p=>w.setCell ⟨g,p.1,O⟩ p.2) w) g ev ev:=by
 induction l generalizing w with
 |nil=>exact Eh.of (xR _ _) g ev
 |cons p q ih =>
  refine Eh.trans (w1:=w.setCell ⟨g,p.1,O⟩ p.2) ⟨Z,Z,Z,by simp,fun k _ a _=>xW _ _ _ _ a,xa Z⟩ ih
theorem uK(B g:Nat)(m:Ex)(ev:Value)(d v:Int)(s:Nat)(w:World)(h:Ei w B g m ev):
  Calls prog 202 #[.pointer (U ⟨g,0,O⟩),C I d,C I v,C .u64 (s:Nat)] w fun e w'=>e=D (.tuple #[])/\Ei w' B g (m.aZ d v s) ev/\Eh w w' g ev ev:=by
 have H:=JO h;obtain⟨E,K,V,X,Y,c5,c6,c7,c8,c9,q,r,t,u,cf⟩:=h.F;by_cases h0:d<0
 ·have p:JP (m.aZ d v s=m):=by unfold JP Ex.aZ;rw[if_pos (xa h0)]
  go_enter func202,ntmps202;go_wp2
  (try simp only[Exit.inBlock,Exit.then]);refine bodyPost_ret (results_none Z _ _ _) Z ?_
  rw[p.o];exact⟨Z,H.o,Eh.of (xR _ _) g ev⟩
 have l:decide (d<0)=M:=decide_eq_false h0;by_cases h4:4<=d
 ·have p:JP (m.aZ d v s=m):=by unfold JP Ex.aZ;rw[if_pos (xc h4)]
  go_enter func202,ntmps202;go_wp2
  (try simp only[Exit.inBlock,Exit.then]);refine bodyPost_ret (results_none Z _ _ _) Z ?_
  rw[p.o];exact⟨Z,H.o,Eh.of (xR _ _) g ev⟩
 have n:decide (4<=d)=M:=decide_eq_false h4;have y:d=0\/d=1\/d=2\/d=3:=by omega
 obtain⟨th,bl,un,A,z,ak,br,es⟩:=m;have h1:=h.lr;have h2:=h.lm;obtain⟨r0,r1,r2,r3,rfl⟩:∃a b c d,A=[a,b,c,d]:=by
  match A,h1 with
  |[a,b,c,d],_=>exact⟨a,b,c,d,Z⟩
 obtain⟨m0,m1,m2,m3,rfl⟩:∃a b c d,z=[a,b,c,d]:=by
  match z,h2 with
  |[a,b,c,d],_=>exact⟨a,b,c,d,Z⟩
 have x:=h.box;have j:=JO x;simp only[List.getD_cons_zero,List.getD_cons_succ]at E K V X Y c5 c6 c7 c8 c9 q r t u
 rcases y with rfl|rfl|rfl|rfl
 ·clear h0 h4 l n;go_enter func202,ntmps202;go_wp2;go_end0;have f:=Eh.set (w:=w) (g:=g) ev [(3,C I v),(7,C .u64 (s:Nat))];simp only[xd,xe]at f;refine⟨Z,H.o.set ?_ fun k i=>by rw[xW _ _ _ _ i,xW _ _ _ _ i] Z Z Z,f⟩;rw[bC (bC j.o _ _)];rfl
 ·clear h0 h4 l n;go_enter func202,ntmps202;go_wp2;go_end0;have f:=Eh.set (w:=w) (g:=g) ev [(4,C I v),(8,C .u64 (s:Nat))];simp only[xd,xe]at f;refine⟨Z,H.o.set ?_ fun k i=>by rw[xW _ _ _ _ i,xW _ _ _ _ i] Z Z Z,f⟩;rw[bC (bC j.o _ _)];rfl
 ·clear h0 h4 l n;go_enter func202,ntmps202;go_wp2;go_end0;have f:=Eh.set (w:=w) (g:=g) ev [(5,C I v),(9,C .u64 (s:Nat))];simp only[xd,xe]at f;refine⟨Z,H.o.set ?_ fun k i=>by rw[xW _ _ _ _ i,xW _ _ _ _ i] Z Z Z,f⟩;rw[bC (bC j.o _ _)];rfl
 ·clear h0 h4 l n;go_enter func202,ntmps202;go_wp2;go_end0;have f:=Eh.set (w:=w) (g:=g) ev [(6,C I v),(10,C .u64 (s:Nat))];simp only[xd,xe]at f;refine⟨Z,H.o.set ?_ fun k i=>by rw[xW _ _ _ _ i,xW _ _ _ _ i] Z Z Z,f⟩;rw[bC (bC j.o _ _)];rfl
theorem DD(B g:Nat)(m:Ex)(ev:Value)(d:Int)(r:Nat)(w:World)(h:Ei w B g m ev)(j:r<J m.E)(i:J m.E<10000):
  Calls prog 195 #[.pointer (U ⟨g,0,O⟩),C I d,C I (r:Int)] w fun e w'=>e=D (.tuple #[])/\Ei w' B g (m.aM d r) ev/\Eh w w' g ev ev:=by
 have H:=JO h;go_enter func195,ntmps195;go_wp2_with(first
  |(go_at_call 212;refine(XR B g m ev r _ H.o j i).mono ?_;rintro e w' ⟨rfl,a⟩;have a:=a.symm;subst a)
  |(go_at_call 159;refine(AG _ _).mono ?_;rintro e w' ⟨rfl,a⟩;have a:=a.symm;subst a)
  |(go_at_call 202;refine(uK B g m ev d _ _ _ H.o).mono ?_;rintro e w1 ⟨rfl,f,c⟩))
 go_end0;exact⟨Z,f,c⟩
theorem Tryz.infoEvM:(prog.info? 166).map (fun i=>(i.zero,i.size,i.bytes))=U (U (S (aD Ev.zero)),10,80):=by kernel_rfl
theorem KO.set(a:Ev)(h:KO w g e)(i:Nat)(u:Value)(c:(aD e).setIfInBounds i u=aD a):KO (w.setCell ⟨g,i,O⟩ u) g a:=by
 unfold KO at*;rw[bC h,c]
theorem KO.iC{i:Nat}{u:Value}(h:KO w g e)(a:g≠b):KO (w.setCell ⟨b,i,O⟩ u) g e:=by
 unfold KO at*;rw[xW _ _ _ _ a];exact h
theorem KO.range(h:KO w g e):w.rangeAt g 0 (aD e).toList:=DO h
theorem nF{f:Array Oper}{rest:List Oper}{c:Oper}{a:Act}{R:Exit->Act->World->Prop}(x y:Operand)(i:c.guard=O)(k:c.op=.store 166 x y)(g:Nat)(e d:Ev)(l:a.eval x=.pointer (U ⟨g,0,O⟩))(n:a.eval y=S (aD e))(j:KO w g d)(h:∀w',KO w' g e->w.grownBy w' (U g)->wpList prog f R rest (a.put c.dst undef) w'):wpList prog f R (c::rest) a w :=
 TI i _ x y k g (aD e) (aD d) _ l n j Z (by kernel_rfl) (by simp[aD,xg]) h
theorem uS(B g:Nat)(m:Ex)(ev:Value)(l:Int)(f:JR)(w:World)(h:Ei w B g m ev)(K:l=0\/l=1\/l=2\/l=3\/l=4):
  Calls prog 198 #[.pointer (U ⟨g,0,O⟩),C I l,S (aC f)] w fun e w'=>e=D (S (aD (m.V l f)))/\Below (T (W w)) w w':=by
 have HV:JP (m.V l f=⟨l,m.j,m.block,f.z,0,f.q,f.scope,if l==3||l==4 then m.u else 0,(l==0||l==1)&&(f.k==2||f.k==3),if l==0||l==1 then m.A else 0⟩):=Z;obtain⟨k0,k1,am,aa⟩:=hJ w #[C I f.k,C I f.i,C I f.dest,C I f.z,G f.a.KI,C I f.a.n,G f.b.KI,C I f.b.n,C I f.q,C I f.scope,C I f.label] #[C I 0,C I 0,C I 0,C I 0,C I 0,C I 0,C I 0,C I 0,G M,C .u64 0] 104 166;have HM:=h.X aa;have ai:=JO aa;have ad:=JO HM;clear h HM aa;simp only[aC];go_enter func198,ntmps198;go_upto_region 1 with fail
 generalize hE:(w.alloc (N #[C I f.k,C I f.i,C I f.dest,C I f.z,G f.a.KI,C I f.a.n,G f.b.KI,C I f.b.n,C I f.q,C I f.scope,C I f.label] 104)).alloc (N #[C I 0,C I 0,C I 0,C I 0,C I 0,C I 0,C I 0,C I 0,G M,C .u64 0] 166)=H at*;have ae:KH H (T (W w)) f:=k0;obtain⟨s0,s1,s2,s3,s4,s5,s6,s7,s8,s9,ab,ac,an⟩:=ae.F;obtain⟨c0,c1,c2,c3,c4,c5,c6,c7,c8,c9,aj,af,ag,ak,cf⟩:=ad.o.F;have xl:T (W w)+1<T (W H):=(Array.getElem?_eq_some_iff.1 k1).1;have hg:=ad.o.lt;have K1:JP (KO H (T (W w)+1) Ev.zero):=k1;have ao:T (W w)+2<=T (W H):=by omega
 clear c2 c3 c4 c5 c6 c7 c8 c9 aj ak k0 k1 ae am hE s3 s4 s6 s7 s8 s9 an;go_region_held3 (fun w'=>w'.cell? ⟨g,0,O⟩=U (C I m.j)/\w'.cell? ⟨g,1,O⟩=U (C I m.block)/\w'.cell? ⟨T (W w),3,O⟩=U (C I f.z)/\w'.cell? ⟨T (W w),8,O⟩=U (C I f.q)/\w'.cell? ⟨T (W w),9,O⟩=U (C I f.scope)) (first|exact⟨c0,c1,s5,ab,ac⟩|exact⟨(aH hg).trans c0,(aH hg).trans c1,(aH s0).trans s5,(aH s0).trans ab,(aH s0).trans ac⟩) (first|fail);have E:JP (KO ((H.alloc (N #[C I l,C I m.j,C I m.block,C I f.z,C I 0,C I f.q,C I f.scope,C I 0,G M,C .u64 0] 166)).drew) (T (W H)) ⟨l,m.j,m.block,f.z,0,f.q,f.scope,0,M,0⟩):=heap_alloc_new H _;have BX:Below (T (W H)) H ((H.alloc (N #[C I l,C I m.j,C I m.block,C I f.z,C I 0,C I f.q,C I f.scope,C I 0,G M,C .u64 0] 166)).drew):=((xR _ _).alloc (xF _) _).drew;have K2:=JO (K1.o.X BX);have Y:=JO (JW ai.o (xF _) BX);have ap:=JS BX hg af;have aq:=JS BX hg ag;have t2:=JS BX s0 s2;have ah:=BX.size;have au:=xh hg ah;have av:=xh s0 ah;clear BX c0 c1 af ag s1 s2 s5 ab ac cf;generalize al:(H.alloc (N #[C I l,C I m.j,C I m.block,C I f.z,C I 0,C I f.q,C I f.scope,C I 0,G M,C .u64 0] 166)).drew=r at*;clear al;generalize ar:T (W H)=d at*;obtain⟨q0,q1,q2,q3,q4,q5,q6,q7,q8,q9,qf,ql⟩:=E.o.F
 rcases K with rfl|rfl|rfl|rfl|rfl
 ·cases z2:f.k==2<;>cases z3:f.k==3
  ·have v:JP (KO ((r.setCell ⟨d,9,O⟩ (C .u64 (m.A:Nat))).setCell ⟨d,8,O⟩ (G M)) d (m.V 0 f)):=by
    unfold JP;rw[HV.o,z2,z3];exact(E.o.set ⟨0,m.j,m.block,f.z,0,f.q,f.scope,0,M,m.A⟩ 9 _ Z).set _ 8 _ Z
   have x:JP (KO ((r.setCell ⟨d,9,O⟩ (C .u64 (m.A:Nat))).setCell ⟨d,8,O⟩ (G M)) (T (W w)+1) Ev.zero):=by unfold JP;exact(K2.o.iC (by omega)).iC (by omega)
   have t:JP (Below (T (W w)) w ((r.setCell ⟨d,9,O⟩ (C .u64 (m.A:Nat))).setCell ⟨d,8,O⟩ (G M))):=(Y.o.setCell (p:=⟨d,9,O⟩) (by simp;omega) _).setCell (p:=⟨d,8,O⟩) (by simp;omega) _;go_upto_region 10 with fail
   generalize y:(r.setCell ⟨d,9,O⟩ (C .u64 (m.A:Nat))).setCell ⟨d,8,O⟩ (G M)=WF at*;go_wp2_with(first|(refine cA (.tmp 7) Z Z d 0 _ Z v.o.range ?_)|(refine nF (.tmp 6) (.tmp 50) Z Z (T (W w)+1) (m.V 0 f) Ev.zero Z Z x.o ?_;intro w9 s c));refine gF (p:=6) (T (W w)+1) _ (by kernel_rfl) underlying166 Z (by kernel_rfl) Z s Z ⟨Z,t.o.trans ⟨c.os,c.tape,c.output,c.size,fun k K=>c.block k (by have:=t.o.size;omega) (by simp;omega)⟩⟩
  ·have v:JP (KO ((r.setCell ⟨d,9,O⟩ (C .u64 (m.A:Nat))).setCell ⟨d,8,O⟩ (G L)) d (m.V 0 f)):=by
    unfold JP;rw[HV.o,z2,z3];exact(E.o.set ⟨0,m.j,m.block,f.z,0,f.q,f.scope,0,M,m.A⟩ 9 _ Z).set _ 8 _ Z
   have x:JP (KO ((r.setCell ⟨d,9,O⟩ (C .u64 (m.A:Nat))).setCell ⟨d,8,O⟩ (G L)) (T (W w)+1) Ev.zero):=by unfold JP;exact(K2.o.iC (by omega)).iC (by omega)
   have t:JP (Below (T (W w)) w ((r.setCell ⟨d,9,O⟩ (C .u64 (m.A:Nat))).setCell ⟨d,8,O⟩ (G L))):=(Y.o.setCell (p:=⟨d,9,O⟩) (by simp;omega) _).setCell (p:=⟨d,8,O⟩) (by simp;omega) _;go_upto_region 10 with fail
   generalize y:(r.setCell ⟨d,9,O⟩ (C .u64 (m.A:Nat))).setCell ⟨d,8,O⟩ (G L)=WF at*;go_wp2_with(first|(refine cA (.tmp 7) Z Z d 0 _ Z v.o.range ?_)|(refine nF (.tmp 6) (.tmp 50) Z Z (T (W w)+1) (m.V 0 f) Ev.zero Z Z x.o ?_;intro w9 s c));refine gF (p:=6) (T (W w)+1) _ (by kernel_rfl) underlying166 Z (by kernel_rfl) Z s Z ⟨Z,t.o.trans ⟨c.os,c.tape,c.output,c.size,fun k K=>c.block k (by have:=t.o.size;omega) (by simp;omega)⟩⟩
  ·have v:JP (KO ((r.setCell ⟨d,9,O⟩ (C .u64 (m.A:Nat))).setCell ⟨d,8,O⟩ (G L)) d (m.V 0 f)):=by
    unfold JP;rw[HV.o,z2,z3];exact(E.o.set ⟨0,m.j,m.block,f.z,0,f.q,f.scope,0,M,m.A⟩ 9 _ Z).set _ 8 _ Z
   have x:JP (KO ((r.setCell ⟨d,9,O⟩ (C .u64 (m.A:Nat))).setCell ⟨d,8,O⟩ (G L)) (T (W w)+1) Ev.zero):=by unfold JP;exact(K2.o.iC (by omega)).iC (by omega)
   have t:JP (Below (T (W w)) w ((r.setCell ⟨d,9,O⟩ (C .u64 (m.A:Nat))).setCell ⟨d,8,O⟩ (G L))):=(Y.o.setCell (p:=⟨d,9,O⟩) (by simp;omega) _).setCell (p:=⟨d,8,O⟩) (by simp;omega) _;go_upto_region 10 with fail
   generalize y:(r.setCell ⟨d,9,O⟩ (C .u64 (m.A:Nat))).setCell ⟨d,8,O⟩ (G L)=WF at*;go_wp2_with(first|(refine cA (.tmp 7) Z Z d 0 _ Z v.o.range ?_)|(refine nF (.tmp 6) (.tmp 50) Z Z (T (W w)+1) (m.V 0 f) Ev.zero Z Z x.o ?_;intro w9 s c));refine gF (p:=6) (T (W w)+1) _ (by kernel_rfl) underlying166 Z (by kernel_rfl) Z s Z ⟨Z,t.o.trans ⟨c.os,c.tape,c.output,c.size,fun k K=>c.block k (by have:=t.o.size;omega) (by simp;omega)⟩⟩
  ·have v:JP (KO ((r.setCell ⟨d,9,O⟩ (C .u64 (m.A:Nat))).setCell ⟨d,8,O⟩ (G L)) d (m.V 0 f)):=by
    unfold JP;rw[HV.o,z2,z3];exact(E.o.set ⟨0,m.j,m.block,f.z,0,f.q,f.scope,0,M,m.A⟩ 9 _ Z).set _ 8 _ Z
   have x:JP (KO ((r.setCell ⟨d,9,O⟩ (C .u64 (m.A:Nat))).setCell ⟨d,8,O⟩ (G L)) (T (W w)+1) Ev.zero):=by unfold JP;exact(K2.o.iC (by omega)).iC (by omega)
   have t:JP (Below (T (W w)) w ((r.setCell ⟨d,9,O⟩ (C .u64 (m.A:Nat))).setCell ⟨d,8,O⟩ (G L))):=(Y.o.setCell (p:=⟨d,9,O⟩) (by simp;omega) _).setCell (p:=⟨d,8,O⟩) (by simp;omega) _;go_upto_region 10 with fail
   generalize y:(r.setCell ⟨d,9,O⟩ (C .u64 (m.A:Nat))).setCell ⟨d,8,O⟩ (G L)=WF at*;go_wp2_with(first|(refine cA (.tmp 7) Z Z d 0 _ Z v.o.range ?_)|(refine nF (.tmp 6) (.tmp 50) Z Z (T (W w)+1) (m.V 0 f) Ev.zero Z Z x.o ?_;intro w9 s c));refine gF (p:=6) (T (W w)+1) _ (by kernel_rfl) underlying166 Z (by kernel_rfl) Z s Z ⟨Z,t.o.trans ⟨c.os,c.tape,c.output,c.size,fun k K=>c.block k (by have:=t.o.size;omega) (by simp;omega)⟩⟩
 ·cases z2:f.k==2<;>cases z3:f.k==3
  ·have v:JP (KO ((r.setCell ⟨d,9,O⟩ (C .u64 (m.A:Nat))).setCell ⟨d,8,O⟩ (G M)) d (m.V 1 f)):=by
    unfold JP;rw[HV.o,z2,z3];exact(E.o.set ⟨1,m.j,m.block,f.z,0,f.q,f.scope,0,M,m.A⟩ 9 _ Z).set _ 8 _ Z
   have x:JP (KO ((r.setCell ⟨d,9,O⟩ (C .u64 (m.A:Nat))).setCell ⟨d,8,O⟩ (G M)) (T (W w)+1) Ev.zero):=by unfold JP;exact(K2.o.iC (by omega)).iC (by omega)
   have t:JP (Below (T (W w)) w ((r.setCell ⟨d,9,O⟩ (C .u64 (m.A:Nat))).setCell ⟨d,8,O⟩ (G M))):=(Y.o.setCell (p:=⟨d,9,O⟩) (by simp;omega) _).setCell (p:=⟨d,8,O⟩) (by simp;omega) _;go_upto_region 10 with fail
   generalize y:(r.setCell ⟨d,9,O⟩ (C .u64 (m.A:Nat))).setCell ⟨d,8,O⟩ (G M)=WF at*;go_wp2_with(first|(refine cA (.tmp 7) Z Z d 0 _ Z v.o.range ?_)|(refine nF (.tmp 6) (.tmp 50) Z Z (T (W w)+1) (m.V 1 f) Ev.zero Z Z x.o ?_;intro w9 s c));refine gF (p:=6) (T (W w)+1) _ (by kernel_rfl) underlying166 Z (by kernel_rfl) Z s Z ⟨Z,t.o.trans ⟨c.os,c.tape,c.output,c.size,fun k K=>c.block k (by have:=t.o.size;omega) (by simp;omega)⟩⟩
  ·have v:JP (KO ((r.setCell ⟨d,9,O⟩ (C .u64 (m.A:Nat))).setCell ⟨d,8,O⟩ (G L)) d (m.V 1 f)):=by
    unfold JP;rw[HV.o,z2,z3];exact(E.o.set ⟨1,m.j,m.block,f.z,0,f.q,f.scope,0,M,m.A⟩ 9 _ Z).set _ 8 _ Z
   have x:JP (KO ((r.setCell ⟨d,9,O⟩ (C .u64 (m.A:Nat))).setCell ⟨d,8,O⟩ (G L)) (T (W w)+1) Ev.zero):=by unfold JP;exact(K2.o.iC (by omega)).iC (by omega)
   have t:JP (Below (T (W w)) w ((r.setCell ⟨d,9,O⟩ (C .u64 (m.A:Nat))).setCell ⟨d,8,O⟩ (G L))):=(Y.o.setCell (p:=⟨d,9,O⟩) (by simp;omega) _).setCell (p:=⟨d,8,O⟩) (by simp;omega) _;go_upto_region 10 with fail
   generalize y:(r.setCell ⟨d,9,O⟩ (C .u64 (m.A:Nat))).setCell ⟨d,8,O⟩ (G L)=WF at*;go_wp2_with(first|(refine cA (.tmp 7) Z Z d 0 _ Z v.o.range ?_)|(refine nF (.tmp 6) (.tmp 50) Z Z (T (W w)+1) (m.V 1 f) Ev.zero Z Z x.o ?_;intro w9 s c));refine gF (p:=6) (T (W w)+1) _ (by kernel_rfl) underlying166 Z (by kernel_rfl) Z s Z ⟨Z,t.o.trans ⟨c.os,c.tape,c.output,c.size,fun k K=>c.block k (by have:=t.o.size;omega) (by simp;omega)⟩⟩
  ·have v:JP (KO ((r.setCell ⟨d,9,O⟩ (C .u64 (m.A:Nat))).setCell ⟨d,8,O⟩ (G L)) d (m.V 1 f)):=by
    unfold JP;rw[HV.o,z2,z3];exact(E.o.set ⟨1,m.j,m.block,f.z,0,f.q,f.scope,0,M,m.A⟩ 9 _ Z).set _ 8 _ Z
   have x:JP (KO ((r.setCell ⟨d,9,O⟩ (C .u64 (m.A:Nat))).setCell ⟨d,8,O⟩ (G L)) (T (W w)+1) Ev.zero):=by unfold JP;exact(K2.o.iC (by omega)).iC (by omega)
   have t:JP (Below (T (W w)) w ((r.setCell ⟨d,9,O⟩ (C .u64 (m.A:Nat))).setCell ⟨d,8,O⟩ (G L))):=(Y.o.setCell (p:=⟨d,9,O⟩) (by simp;omega) _).setCell (p:=⟨d,8,O⟩) (by simp;omega) _;go_upto_region 10 with fail
   generalize y:(r.setCell ⟨d,9,O⟩ (C .u64 (m.A:Nat))).setCell ⟨d,8,O⟩ (G L)=WF at*;go_wp2_with(first|(refine cA (.tmp 7) Z Z d 0 _ Z v.o.range ?_)|(refine nF (.tmp 6) (.tmp 50) Z Z (T (W w)+1) (m.V 1 f) Ev.zero Z Z x.o ?_;intro w9 s c));refine gF (p:=6) (T (W w)+1) _ (by kernel_rfl) underlying166 Z (by kernel_rfl) Z s Z ⟨Z,t.o.trans ⟨c.os,c.tape,c.output,c.size,fun k K=>c.block k (by have:=t.o.size;omega) (by simp;omega)⟩⟩
  ·have v:JP (KO ((r.setCell ⟨d,9,O⟩ (C .u64 (m.A:Nat))).setCell ⟨d,8,O⟩ (G L)) d (m.V 1 f)):=by
    unfold JP;rw[HV.o,z2,z3];exact(E.o.set ⟨1,m.j,m.block,f.z,0,f.q,f.scope,0,M,m.A⟩ 9 _ Z).set _ 8 _ Z
   have x:JP (KO ((r.setCell ⟨d,9,O⟩ (C .u64 (m.A:Nat))).setCell ⟨d,8,O⟩ (G L)) (T (W w)+1) Ev.zero):=by unfold JP;exact(K2.o.iC (by omega)).iC (by omega)
   have t:JP (Below (T (W w)) w ((r.setCell ⟨d,9,O⟩ (C .u64 (m.A:Nat))).setCell ⟨d,8,O⟩ (G L))):=(Y.o.setCell (p:=⟨d,9,O⟩) (by simp;omega) _).setCell (p:=⟨d,8,O⟩) (by simp;omega) _;go_upto_region 10 with fail
   generalize y:(r.setCell ⟨d,9,O⟩ (C .u64 (m.A:Nat))).setCell ⟨d,8,O⟩ (G L)=WF at*;go_wp2_with(first|(refine cA (.tmp 7) Z Z d 0 _ Z v.o.range ?_)|(refine nF (.tmp 6) (.tmp 50) Z Z (T (W w)+1) (m.V 1 f) Ev.zero Z Z x.o ?_;intro w9 s c));refine gF (p:=6) (T (W w)+1) _ (by kernel_rfl) underlying166 Z (by kernel_rfl) Z s Z ⟨Z,t.o.trans ⟨c.os,c.tape,c.output,c.size,fun k K=>c.block k (by have:=t.o.size;omega) (by simp;omega)⟩⟩
 ·have v:JP (KO (r) d (m.V 2 f)):=by
   unfold JP;rw[HV.o];exact E.o
  have x:JP (KO (r) (T (W w)+1) Ev.zero):=by unfold JP;exact K2.o
  have t:JP (Below (T (W w)) w (r)):=Y.o;go_upto_region 10 with fail
  skip
  go_wp2_with(first|(refine cA (.tmp 7) Z Z d 0 _ Z v.o.range ?_)|(refine nF (.tmp 6) (.tmp 50) Z Z (T (W w)+1) (m.V 2 f) Ev.zero Z Z x.o ?_;intro w9 s c));refine gF (p:=6) (T (W w)+1) _ (by kernel_rfl) underlying166 Z (by kernel_rfl) Z s Z ⟨Z,t.o.trans ⟨c.os,c.tape,c.output,c.size,fun k K=>c.block k (by have:=t.o.size;omega) (by simp;omega)⟩⟩
 ·have v:JP (KO (r.setCell ⟨d,7,O⟩ (C I (m.u:Nat))) d (m.V 3 f)):=by
   unfold JP;rw[HV.o];exact E.o.set _ 7 _ Z
  have x:JP (KO (r.setCell ⟨d,7,O⟩ (C I (m.u:Nat))) (T (W w)+1) Ev.zero):=by unfold JP;exact K2.o.iC (by omega)
  have t:JP (Below (T (W w)) w (r.setCell ⟨d,7,O⟩ (C I (m.u:Nat)))):=Y.o.setCell (p:=⟨d,7,O⟩) (by simp;omega) _;go_upto_region 10 with fail
  generalize y:r.setCell ⟨d,7,O⟩ (C I (m.u:Nat))=WF at*;go_wp2_with(first|(refine cA (.tmp 7) Z Z d 0 _ Z v.o.range ?_)|(refine nF (.tmp 6) (.tmp 50) Z Z (T (W w)+1) (m.V 3 f) Ev.zero Z Z x.o ?_;intro w9 s c));refine gF (p:=6) (T (W w)+1) _ (by kernel_rfl) underlying166 Z (by kernel_rfl) Z s Z ⟨Z,t.o.trans ⟨c.os,c.tape,c.output,c.size,fun k K=>c.block k (by have:=t.o.size;omega) (by simp;omega)⟩⟩
 ·have v:JP (KO (r.setCell ⟨d,7,O⟩ (C I (m.u:Nat))) d (m.V 4 f)):=by
   unfold JP;rw[HV.o];exact E.o.set _ 7 _ Z
  have x:JP (KO (r.setCell ⟨d,7,O⟩ (C I (m.u:Nat))) (T (W w)+1) Ev.zero):=by unfold JP;exact K2.o.iC (by omega)
  have t:JP (Below (T (W w)) w (r.setCell ⟨d,7,O⟩ (C I (m.u:Nat)))):=Y.o.setCell (p:=⟨d,7,O⟩) (by simp;omega) _;go_upto_region 10 with fail
  generalize y:r.setCell ⟨d,7,O⟩ (C I (m.u:Nat))=WF at*;go_wp2_with(first|(refine cA (.tmp 7) Z Z d 0 _ Z v.o.range ?_)|(refine nF (.tmp 6) (.tmp 50) Z Z (T (W w)+1) (m.V 4 f) Ev.zero Z Z x.o ?_;intro w9 s c));refine gF (p:=6) (T (W w)+1) _ (by kernel_rfl) underlying166 Z (by kernel_rfl) Z s Z ⟨Z,t.o.trans ⟨c.os,c.tape,c.output,c.size,fun k K=>c.block k (by have:=t.o.size;omega) (by simp;omega)⟩⟩
theorem XS{ev:Value}(h:Ei w B g m ev):U g≠ev.ownBlock:=fun e=>by
 rcases h.K.2 with⟨a,_⟩|⟨i,d,f,a,_,c,_⟩
 ·rw[a]at e;simp[xb]at e
 ·rw[a]at e;simp[xb]at e;subst e;rw[h.box]at c;simp at c
theorem M0{o Wd:World}{d l:Nat}{ev:Value}(i:Ei w B g m ev)(r:Below (T (W w)) w o)(z:Below (T (W o)) o Wd)(H:T (W w)<T (W Wd))(f:w1.ownsRow B 166 10 (JQ d (J m.E+1) l) (J m.E+1) (MY m.E++(aD e).toList))(a:Wd.grownBy w1 ev.ownBlock)(q:ev.ownBlock=U d\/T (W w)<=d):
  Ei (w1.setCell ⟨g,13,O⟩ (JQ d (J m.E+1) l)) B g (m.put e) (JQ d (J m.E+1) l)/\Eh w (w1.setCell ⟨g,13,O⟩ (JQ d (J m.E+1) l)) g ev (JQ d (J m.E+1) l):=by
 have c:Below (T (W w)) w Wd:=JW r (xF _) z;have n:w1.heap[g]?=U (N (QY m ev) 186 (0,0)):=(a.block g (by have:=i.lt;omega) (XS i)).trans ((c.block g i.lt).trans i.box);have A:d≠g:=fun p=>by
  rcases f.2 with⟨j,_⟩|⟨F,x,y,j,_,v,_⟩
  ·simp at j
  ·simp only[Value.slice.injEq,Option.some.injEq,Addr.mk.injEq]at j;rw[<- j.1.1,p,n]at v;simp at v
 refine⟨⟨?_,?_,i.ge,i.lr,i.lm⟩,?_⟩
 ·rw[bC n];rfl
 ·have p:(m.put e).E.length=J m.E+1:=by simp[Ex.put]
  have j:MY (m.put e).E=MY m.E++(aD e).toList:=by simp only[Ex.put];rw[XE,XG]
  rw[p,j];refine aU f fun k s=>xW _ _ _ _ ?_;simp[xb]at s;simp;omega
 ·refine⟨a.os.trans c.os,a.tape.trans c.tape,a.output.trans c.output,by have:=a.size;simp;omega,fun k s u t=>?_,?_⟩
  ·rw[xW _ _ _ _ u,a.block k (by omega) fun h=>t h.symm,c.block k s]
  ·rcases q with h|h
   ·exact xa (by rw[h];rfl)
   ·exact xc ⟨d,Z,h⟩
theorem uW(B g:Nat)(m:Ex)(ev:Value)(e:Ev)(w:World)(h:Ei w B g m ev)(hn:J m.E<10000)(hB:B<=T (W w)):
  Calls prog 199 #[.pointer (U ⟨g,0,O⟩),S (aD e)] w fun x w'=>x=D (C I (J m.E:Int))/\∃ev',Ei w' B g (m.put e) ev'/\Eh w w' g ev ev':=by
 obtain⟨i0,hi,ab,ac,ad⟩:=info_parts Tryz.infoEvM;obtain⟨k0,aa,n⟩:=gU w (aD e) 166;have f:=JO (h.X n);have H:=JO h;have r:=JO n;obtain⟨sa,sc,rfl,af⟩:=h.form;simp only[aD]at *;go_enter func199,ntmps199;go_upto_region 1 with fail
 generalize hE:w.alloc (N #[C I e.k,C I e.j,C I e.block,C I e.z,C I e.value,C I e.q,C I e.scope,C I e.u,G e.step,C .u64 (e.h:Nat)] 166)=d at*;have l:KO d (T (W w)) e:=k0;obtain⟨x0,x1,x2,x3,x4,x5,x6,x7,x8,x9,xf,xl⟩:=l.F;obtain⟨c0,c1,c2,c3,c4,c5,c6,c7,c8,c9,v,y,A,V,cf⟩:=f.o.F;have hg:=f.o.lt;have p:=XS f.o;have HO:JP ((d.drew.alloc (N (aD e) 166)).ownsRow B 166 10 (.slice sa (J m.E) sc) (J m.E) (MY m.E)):=aU f.o.K fun k hk=>xi _ _ _ (f.o.K.lt k hk).2;have HN:JP (∀j u,(aD e).toList[j]?=U u->(d.drew.alloc (N (aD e) 166)).cell? ((⟨T (W d),0,O⟩:Addr).add j)=U u):=
  World.news_of_block (cs:=aD e) (t:=166) (fr:=(0,0)) (heap_alloc_new d.drew _)
 have HC:JP ((d.drew.alloc (N (aD e) 166)).cell? ⟨g,13,O⟩=U (.slice sa (J m.E) sc)):=(aH (w:=d.drew) hg).trans V;have s:JP ((d.drew.alloc (N (aD e) 166)).frozen? ⟨g,13,O⟩=M):=by
  unfold JP;rw[World.frozen?_of_block (w:=d.drew) (a:=⟨g,13,O⟩) (xi _ _ _ hg)];exact cf 13
 clear c0 c1 c2 c3 c4 c5 c6 c7 c8 c9 v y A k0 hE l aa;go_region_law(refine step_append_lies _ Z (.tmp 9) (.tmp 11) 71 Z B 166 i0 (S (aD Ev.zero)) 10 80 underlying71 hi ab ac ad Z (by decide) (.slice sa (J m.E) sc) (J m.E) (MY m.E) (by simp[Act.eval]) (by exact HO.o) ⟨T (W d),0,O⟩ 1 1 (aD e).toList (by simp[Act.eval]) Z (by exact HN.o) (by simp[aD,xg]) (by decide) (by unfold maxLen;omega) (by omega) (by simp;omega) (T (W d)+1) (by simp) ?_;intro gn cn w1 i c Y ae;have c1:=(c.cell_far ⟨g,13,O⟩ (by simp;omega) p).trans HC.o;have f1:=(c.frozen_far ⟨g,13,O⟩ (by simp;omega) p).trans s.o)
 all_goals
  obtain⟨q1,q2⟩:=M0 (Wd:=d.drew.alloc (N (aD e) 166)) H.o r.o (((xR _ _).drew).alloc (by simp) _) (by simp;omega) i c (by rcases Y with h|h;exact xa h;exact xc (by omega));have Q1:=JO q1;have Q2:=JO q2;go_wp2;go_ret;exact⟨by first|rfl|(congr 2;omega),_,Q1.o,Q2.o⟩
def kH(B g:Nat)(w w':World)(ev:Value)(m:Ex):Prop:=∃ev',Ei w' B g m ev'/\Eh w w' g ev ev'
theorem kH.next{ev a:Value}(h:Eh w w1 g ev a)(k:kH B g w1 w2 a m):kH B g w w2 ev m:=by
 obtain⟨ev',c,d⟩:=k;exact⟨ev',c,h.trans d⟩
theorem XT(B g:Nat)(m:Ex)(ev:Value)(f:JR)(w:World)(h:Ei w B g m ev)(hn:J m.E<10000)(hB:B<=T (W w))(hu:m.Y<1000000000):
  Calls prog 194 #[.pointer (U ⟨g,0,O⟩),S (aC f)] w fun x w'=>x=D (C I (J m.E:Int))/\kH B g w w' ev (m.aN f):=by
 have ak:=h.lt;have H:=JO h;obtain⟨k0,aa,d⟩:=gU w (aC f) 104;have u:=JO (h.X d);have j:=JO d;have HE:JP (m.aN f={m with Y:=m.Y/4}.put {m.V 0 f with value:=(m.Y%4:Nat)}):=Z;clear h d k0 aa;simp only[aC]at *;go_enter func194,ntmps194;go_upto_region 2 with(first|(go_at_call 198;refine(uS B g m ev 0 f _ u.o (xa Z)).mono ?_;rintro e w1 ⟨rfl,a⟩;generalize aj:m.V 0 f=c at*;simp only[aD]))
 have t:JP (KO (w1.alloc (N (aD c) 166)) (T (W w1)) c):=KO.bA w1 c;have s:Below (T (W w)) w (w1.alloc (N (aD c) 166)):=(JW j.o (xF _) a).alloc (by have:=a.size;simp at this;omega) _;have l:=JO (H.o.X s);have r:=JO s;have A:T (W w1)<(w1.alloc (N (aD c) 166)).heap.size:=by simp
 have n:T (W w)<=T (W w1):=(JW j.o (xF _) a).size;clear s a;simp only[aD]at t l r A;generalize hb:T (W w1)=b at*;generalize ag:w1.alloc _=i at*;obtain⟨c0,c1,c2,c3,c4,c5,c6,c7,c8,c9,ac,ad,ae,af,cf⟩:=l.o.F;obtain⟨x0,x1,x2,x3,x4,x5,x6,x7,x8,x9,xf,xl⟩:=t.o.F;go_upto_region 4 with fail
 have y:b≠g:=by omega
 have E2:JP (KO ((i.setCell ⟨b,4,O⟩ (C I ((m.Y:Int)%4))).setCell ⟨g,2,O⟩ (C I ((m.Y:Int)/4))) b {c with value:=(m.Y%4:Nat)}):=KO.iC (t.o.set _ 4 _ Z) y;have v:JP (Ei ((i.setCell ⟨b,4,O⟩ (C I ((m.Y:Int)%4))).setCell ⟨g,2,O⟩ (C I ((m.Y:Int)/4))) B g {m with Y:=m.Y/4} ev):=by
  have q:Ei (i.setCell ⟨b,4,O⟩ (C I ((m.Y:Int)%4))) B g m ev:=H.o.X (r.o.setCell (p:=⟨b,4,O⟩) n _);refine q.set ?_ (fun k hk=>xW _ _ _ _ hk) Z q.lr q.lm;rw[bC q.box];rfl
 have FR:JP (Eh w ((i.setCell ⟨b,4,O⟩ (C I ((m.Y:Int)%4))).setCell ⟨g,2,O⟩ (C I ((m.Y:Int)/4))) g ev ev):=(Eh.of (r.o.setCell (p:=⟨b,4,O⟩) n _) g ev).trans (Eh.set ev [(2,C I ((m.Y:Int)/4))]);have ab:T (W w)<=((i.setCell ⟨b,4,O⟩ (C I ((m.Y:Int)%4))).setCell ⟨g,2,O⟩ (C I ((m.Y:Int)/4))).heap.size:=FR.o.size;generalize ah:(i.setCell ⟨b,4,O⟩ (C I ((m.Y:Int)%4))).setCell ⟨g,2,O⟩ (C I ((m.Y:Int)/4))=W2 at*;generalize ai:({c with value:=(m.Y%4:Nat)}:Ev)=e1 at*;go_wp2_with(first|(refine cA (.tmp 5) Z Z b 0 e1 Z E2.o.range ?_)|(go_at_call 199;refine(uW B g _ ev e1 _ v.o hn (by omega)).mono ?_;rintro e w3 ⟨rfl,ev',K,z⟩));go_ret;refine⟨Z,ev',?_,FR.o.trans z⟩;rw[HE.o];exact K
theorem DA(B g:Nat)(m:Ex)(ev:Value)(d:JR)(v:Int)(s:Nat)(w:World)(h:Ei w B g m ev)(hn:J m.E<10000)(hB:B<=T (W w))(ha:m.A<MU)(hs:s<MU):
  Calls prog 213 #[.pointer (U ⟨g,0,O⟩),S (aC d),C I v,C .u64 (s:Nat)] w fun x w'=>x=D (.tuple #[])/\kH B g w w' ev (m.write d v s):=by
 have H:=JO h;obtain⟨k0,ag,i⟩:=gU w (aC d) 104;have r:=JO (h.X i);have f:=JO i;have HE:JP (m.write d v s=m.put {m.V 1 d with value:=v,h:=m.A|||s}):=Z;have af:=bits_or_u64_nat m.A s ha hs;have q:JP ((m.V 1 d).h=m.A):=Z;simp only[aC]at *;go_enter func213,ntmps213;go_upto_region 2 with(first|(go_at_call 198;refine(uS B g m ev 1 d _ r.o (xc (xa Z))).mono ?_;rintro e w1 ⟨rfl,a⟩;generalize ae:m.V 1 d=c at*;simp only[aD]))
 have n:JP (KO (w1.alloc (N (aD c) 166)) (T (W w1)) c):=KO.bA w1 c;have l:Below (T (W w)) w (w1.alloc (N (aD c) 166)):=(JW f.o (xF _) a).alloc (by have:=a.size;simp at this;omega) _;have t:=JO (H.o.X l);have B1:=JO l;have K:T (W w1)<(w1.alloc (N (aD c) 166)).heap.size:=by simp
 have j:T (W w)<=T (W w1):=(JW f.o (xF _) a).size;clear l a;simp only[aD]at n t B1 K;generalize hb:T (W w1)=b at*;generalize ab:w1.alloc _=y at*;obtain⟨x0,x1,x2,x3,x4,x5,x6,x7,x8,x9,xf,xl⟩:=n.o.F;rw[q.o]at x9;go_upto_region 4 with fail
 have E2:JP (KO ((y.setCell ⟨b,4,O⟩ (C I v)).setCell ⟨b,9,O⟩ (C .u64 ((m.A|||s:Nat):Int))) b {c with value:=v,h:=m.A|||s}):=(n.o.set {c with value:=v} 4 _ Z).set _ 9 _ Z;have k:JP (Below (T (W w)) w ((y.setCell ⟨b,4,O⟩ (C I v)).setCell ⟨b,9,O⟩ (C .u64 ((m.A|||s:Nat):Int)))):=(B1.o.setCell (p:=⟨b,4,O⟩) j _).setCell (p:=⟨b,9,O⟩) j _;have u:=JO (H.o.X k.o);generalize ac:(y.setCell ⟨b,4,O⟩ (C I v)).setCell ⟨b,9,O⟩ (C .u64 ((m.A|||s:Nat):Int))=W2 at*;generalize ad:({c with value:=v,h:=m.A|||s}:Ev)=e1 at*;have aa:=k.o.size;go_wp2_with(first|(refine cA (.tmp 8) Z Z b 0 e1 Z E2.o.range ?_)|(go_at_call 199;refine(uW B g _ ev e1 _ u.o hn (by omega)).mono ?_;rintro e w3 ⟨rfl,ev',Y,z⟩));go_end0;refine⟨Z,ev',?_,(Eh.of k.o g ev).trans z⟩;rw[HE.o];exact Y
theorem mC(c:∀x∈m.made,x<MU)(a:MR):m.Ea a<MU:=by
 unfold Ex.Ea
 split
 ·split
  ·decide
  ·by_cases h:a.n.toNat<J m.made
   ·rw[mX _ _ h];exact c _ (List.getElem_mem h)
   ·rw[oA _ _ (by omega)];decide
 ·decide
theorem M2(B g:Nat)(m:Ex)(ev:Value)(c:JR)(w:World)(h:Ei w B g m ev)(hn:J m.E<10000)(hB:B<=T (W w))(ha:m.A<MU)(hm:∀x∈m.made,x<MU):
  Calls prog 196 #[.pointer (U ⟨g,0,O⟩),S (aC c)] w fun x w'=>x=D (.tuple #[])/\kH B g w w' ev (m.store c):=by
 obtain⟨k0,aa,j⟩:=gU w (aC c) 104;have l:=JO (h.X j);have y:=JO j;have s:JP (KH _ _ c):=k0;have HE:JP (m.store c=m.write c (m.value ⟨c.a.KI,c.a.n⟩) (m.Ea ⟨c.a.KI,c.a.n⟩)):=Z;have Y:=j.size;simp only[aC]at *;go_enter func196,ntmps196;go_upto_region 1 with fail
 generalize hE:w.alloc (N #[C I c.k,C I c.i,C I c.dest,C I c.z,G c.a.KI,C I c.a.n,G c.b.KI,C I c.b.n,C I c.q,C I c.scope,C I c.label] 104)=W0 at*;obtain⟨s0,s1,s2,s3,s4,s5,s6,s7,s8,s9,t,u,v⟩:=s.o.F;go_wp2_with(first
  |(go_at_call 213;refine(DA B g m ev c _ _ _ H.o hn (by omega) ha (mC hm ⟨c.a.KI,c.a.n⟩)).mono ?_;rintro e w3 ⟨rfl,V⟩)
  |(go_at_call 175;refine(mL B g m ev c.a.KI c.a.n _ p.o).mono ?_;rintro e w2 ⟨rfl,f⟩;have H:=JO (p.o.X f);have K:=JO (r.o.X f);obtain⟨s0,s1,s2,s3,s4,s5,s6,s7,s8,s9,t,u,v⟩:=K.o.F)
  |(go_at_call 176;refine(tT B g m ev c.a.KI c.a.n _ l.o).mono ?_;rintro e w1 ⟨rfl,d⟩;have p:=JO (l.o.X d);have r:=JO (s.o.X d);obtain⟨s0,s1,s2,s3,s4,s5,s6,s7,s8,s9,t,u,v⟩:=r.o.F))
 go_end0;refine⟨Z,kH.next (Eh.of (JW (JW y.o (xF _) d) (xF _) f) g ev) ?_⟩;rw[HE.o];exact V
theorem M3(B g:Nat)(m:Ex)(ev:Value)(c:JR)(w:World)(h:Ei w B g m ev)(hn:J m.E+1<10000)(hB:B<=T (W w))(aF:m.u<10000):
  Calls prog 200 #[.pointer (U ⟨g,0,O⟩),S (aC c)] w fun x w'=>x=D (.tuple #[])/\kH B g w w' ev (m.cP c):=by
 have aG:=h.lt;have H:=JO h;obtain⟨k0,aI,t⟩:=gU w (aC c) 104;have Y:=JO (h.X t);have am:=JO t;have ac:JP (KH _ _ c):=k0;have HE:JP (m.cP c={(m.put (m.V 3 c)).put (m.V 4 c)with u:=m.u+1}):=by
  unfold JP Ex.cP Ex.put;simp
 have aA:=t.size;simp only[aC]at *;go_enter func200,ntmps200;go_upto_region 1 with fail
 generalize hE:w.alloc (N #[C I c.k,C I c.i,C I c.dest,C I c.z,G c.a.KI,C I c.a.n,G c.b.KI,C I c.b.n,C I c.q,C I c.scope,C I c.label] 104)=W0 at*;obtain⟨s0,s1,s2,s3,s4,s5,s6,s7,s8,s9,aj,ak,al⟩:=ac.o.F;go_upto_region 2 with(first|(go_at_call 198;refine(uS B g m ev 3 c _ Y.o (by omega)).mono ?_;rintro e w1 ⟨rfl,f⟩;generalize av:m.V 3 c=y at*;simp only[aD]))
 have E1:JP (KO (w1.alloc (N (aD y) 166)) (T (W w1)) y):=KO.bA w1 y;have l:Below (T (W W0)) W0 (w1.alloc (N (aD y) 166)):=f.alloc f.size _;have p:=JO (Y.o.X l);have ab:=JO (ac.o.X l);have B1:=JO (JW am.o (xF _) l);have aJ:T (W w)<=T (W w1):=by have:=f.size;omega
 clear l f s0 s1 s2 s3 s4 s5 s6 s7 s8 s9 aj ak al;simp only[aD]at E1 p B1 ab;generalize hb:T (W w1)=b at*;generalize au:w1.alloc _=W1 at*;clear au;obtain⟨s0,s1,s2,s3,s4,s5,s6,s7,s8,s9,aj,ak,al⟩:=ab.o.F;go_upto_region 3 with(first|(go_at_call 198;refine(uS B g m ev 4 c _ p.o (by omega)).mono ?_;rintro e w2 ⟨rfl,s⟩;generalize af:m.V 4 c=r at*;simp only[aD]))
 have E2:JP (KO (w2.alloc (N (aD r) 166)) (T (W w2)) r):=KO.bA w2 r;have l:Below (T (W W1)) W1 (w2.alloc (N (aD r) 166)):=s.alloc s.size _;have aa:=JO (p.o.X l);have A:=JO (E1.o.X l);have B2:=JO (JW B1.o (xF _) l);have ax:=E1.o.lt;have ay:T (W W1)<=T (W w2):=s.size;simp only[aD]at E2 aa B2 A;generalize aE:T (W w2)=b2 at*;generalize aB:w2.alloc _=W2 at*;have ai:∀k,ev.ownBlock=U k->k<T (W w):=fun k hk=>(H.o.K.lt k hk).2
 have az:=B2.o.size;clear av af;go_upto_region 4 with(first|(refine cA (.tmp 4) Z Z b 0 y Z A.o.range ?_)|(go_at_call 199;refine(uW B g m ev y _ aa.o (by omega) (by omega)).mono ?_;rintro e w3 ⟨rfl,ar,ah,j⟩))
 have E3:JP (KO w3 b2 r):=by
  have h1:=E2.o;have h2:=h1.lt;unfold JP KO at*;rw[j.block b2 h2 (by omega) fun e=>by have:=ai b2 e;omega];exact h1
 have an:=JO ah;have F3:=JO ((Eh.of B2.o g ev).trans j);have aH:=j.size;clear ah j;go_upto_region 5 with(first|(refine cA (.tmp 5) Z Z b2 0 r Z E3.o.range ?_)|(go_at_call 199;refine(uW B g _ ar r _ an.o (by simp[Ex.put];omega) (by omega)).mono ?_;rintro e w4 ⟨rfl,ae,v,ag⟩))
 obtain⟨c0,c1,c2,c3,c4,c5,c6,c7,c8,c9,ao,ap,ad,aq,cf⟩:=v.F;have d:=JO v;have F4:=JO (F3.o.trans ag);have aw:w4.cell? ⟨g,12,O⟩=U (C I (m.u:Nat)):=ad;clear c0 c1 c2 c3 c4 c5 c6 c7 c8 c9 ao ap ad aq v ag;go_wp2;go_end0;refine⟨Z,ae,?_,F4.o.trans (Eh.set ae [(12,C I ((m.u:Int)+1))])⟩;rw[HE.o];refine d.o.set ?_ (fun k hk=>xW _ _ _ _ hk) Z d.o.lr d.o.lm;rw[bC d.o.box];rfl
end Go.Proofs.YtlikcongbhhpfaaGreatDoor
