import Derived.Test.YtehclbpoabdpoaaGreatDoorO17
set_option linter.all false
set_option maxHeartbeats 0
namespace Go.Proofs.YtehclbpoabdpoaaGreatDoor
open Go Go.RowKit Go.Proofs.Tryz P Q
open scoped Classical
set_option maxRecDepth 1000000
variable {w w':World}{B g:Nat}{m:Et}{ev':Value}
open Go.World renaming cell?->z
open List renaming length->M
open Go.Value renaming int->C
open Go.IntKind renaming i64->O
open Option renaming none->I,some->G
open Bool renaming true->U
open Go.Ending renaming returned->N
open Go.RowKit.Below renaming refl->xF,heap_setCell->xW
open Nat renaming le_refl->xR
open Go.Value renaming ownBlock->x1
open List renaming foldl_cons->x2,foldl_nil->x3
def SX(m:Et)(ev:Value):Array Value:=#[C O m.j,C O m.block,C O (m.Y:Nat),C O (m.g.getD 0 0),C O (m.g.getD 1 0),C O (m.g.getD 2 0),C O (m.g.getD 3 0),
 C .u64 (m.made.getD 0 0:Nat),C .u64 (m.made.getD 1 0:Nat),C .u64 (m.made.getD 2 0:Nat),C .u64 (m.made.getD 3 0:Nat),C .u64 (m.A:Nat),C O (m.u:Nat),ev]
structure Eg(w:World)(B g:Nat)(m:Et)(ev:Value):Prop where
 box:w.heap[g]?=G (.cells (SX m ev) 206 (0,0))
 K:w.ownsRow B 180 10 ev (M m.E) (PB m.E)
 ge:B<=g
 lr:M m.g=4
 lm:M m.made=4
def Eg.lt{ev:Value}(h:Eg w B g m ev):g<w.heap.size:=(Array.getElem?_eq_some_iff.1 h.box).1
def Eg.F{ev:Value}(h:Eg w B g m ev):z w ⟨g,0,I⟩=G (C O m.j)/\z w ⟨g,1,I⟩=G (C O m.block)/\z w ⟨g,2,I⟩=G (C O (m.Y:Nat))/\z w ⟨g,3,I⟩=G (C O (m.g.getD 0 0))/\z w ⟨g,4,I⟩=G (C O (m.g.getD 1 0))/\z w ⟨g,5,I⟩=G (C O (m.g.getD 2 0))/\z w ⟨g,6,I⟩=G (C O (m.g.getD 3 0))/\
  z w ⟨g,7,I⟩=G (C .u64 (m.made.getD 0 0:Nat))/\z w ⟨g,8,I⟩=G (C .u64 (m.made.getD 1 0:Nat))/\z w ⟨g,9,I⟩=G (C .u64 (m.made.getD 2 0:Nat))/\z w ⟨g,10,I⟩=G (C .u64 (m.made.getD 3 0:Nat))/\z w ⟨g,11,I⟩=G (C .u64 (m.A:Nat))/\z w ⟨g,12,I⟩=G (C O (m.u:Nat))/\z w ⟨g,13,I⟩=G ev/\∀j,w.frozen? ⟨g,j,I⟩=false:=by
 have a:=h.box;refine⟨?_,?_,?_,?_,?_,?_,?_,?_,?_,?_,?_,?_,?_,?_,fun j=>?_⟩<;>simp[World.cell?,World.frozen?,a,SX]
def Eg.form{ev:Value}(h:Eg w B g m ev):∃a c,ev=.slice a (M m.E) c/\(0<M m.E->∃b,a=G ⟨b,0,I⟩/\b<w.heap.size):=by
 rcases h.K.2 with⟨e,f⟩|⟨k,c,d,e,_⟩
 ·exact⟨I,0,by rw[e,f],fun h=>by omega⟩
 ·exact⟨_,c,e,fun _=>⟨k,Z,(h.K.lt k (by rw[e];rfl)).2⟩⟩
def Eg.X{ev:Value}(h:Eg w B g m ev)(a:Below w.heap.size w w'):Eg w' B g m ev :=
 ⟨(a.block g h.lt).trans h.box,bE h.K fun k e=>a.block k (h.K.lt k e).2,h.ge,h.lr,h.lm⟩
structure Ef(w w':World)(g:Nat)(ev ev':Value):Prop where
 os:w'.os=w.os
 tape:w'.tape=w.tape
 output:w'.output=w.output
 size:w.heap.size<=w'.heap.size
 block:∀k,k<w.heap.size->k≠g->ev.ownBlock≠G k->w'.heap[k]?=w.heap[k]?
 own:ev'.ownBlock=ev.ownBlock\/∃b,ev'.ownBlock=G b/\w.heap.size<=b
def Ef.of(a:Below w.heap.size w w')(g:Nat)(ev:Value):Ef w w' g ev ev:=⟨a.os,a.tape,a.output,a.size,fun k b _ _=>a.block k b,Or.inl Z⟩
def Ef.trans{w1 l:World}{a b c:Value}(h:Ef w w1 g a b)(k:Ef w1 l g b c):Ef w l g a c:=by
 refine⟨k.os.trans h.os,k.tape.trans h.tape,k.output.trans h.output,Nat.le_trans h.size k.size,fun i n j f=>?_,?_⟩
 ·refine(k.block i (by have:=h.size;omega) j ?_).trans (h.block i n j f)
  rcases h.own with e|⟨q,e,o⟩
  ·rw[e];exact f
  ·rw[e];intro e2;simp at e2;omega
 ·rcases k.own with e|⟨q,e,o⟩
  ·rcases h.own with e2|⟨p,e2,d⟩
   ·exact Or.inl (e.trans e2)
   ·exact Or.inr ⟨p,e.trans e2,d⟩
  ·exact Or.inr ⟨q,e,by have:=h.size;omega⟩
def Ef.X{ev:Value}(h:Ef w w' g ev ev')(a:Eg w B g m ev)(b:B<=w.heap.size):Below B w w' :=
 ⟨h.os,h.tape,h.output,h.size,fun k c=>h.block k (by omega) (by have:=a.ge;omega) fun e=>by have:=(a.K.lt k e).1;omega⟩
def Ef.stm{ev:Value}(h:Ef w w' g ev ev')(d:Eg w B g m ev){b:Nat}{f:MV}(hs:bB w b f):bB w' b f:=by
 refine hs.aC (h.block b hs.lt ?_ ?_)
 ·intro e;have a:=d.box;unfold bB at hs;rw[<- e,hs]at a;simp at a
 ·intro e
  rcases d.K.2 with⟨e1,_⟩|⟨k,i,j,e1,_,c,_⟩
  ·rw[e1]at e;simp[x1]at e
  ·rw[e1]at e;simp[x1]at e;subst e;unfold bB at hs;rw[hs]at c;simp at c
def vV(B g:Nat)(m:Et)(ev:Value)(c:Bool)(a:Int)(w:World)(h:Eg w B g m ev):
  Calls prog 158 #[.pointer (G ⟨g,0,I⟩),.agg #[.bool c,C O a]] w fun e w'=>e=N (C O (m.value ⟨c,a⟩))/\Below w.heap.size w w':=by
 have hg:=h.lt;obtain⟨J,K,L,S,T,V,W,X,Y,c9,s,t,u,v,cf⟩:=h.F;have d:MT (m.value ⟨c,a⟩=if c then(if a<0\/4<=a then 0 else m.g.getD a.toNat 0)else a):=Z;have HB:MT (∀o,Below w.heap.size w (w.alloc o)):=fun o=>(xF _ _).alloc (xR _) _
 cases c
 ·have b:MT (m.value ⟨false,a⟩=a):=by unfold MT;rw[d.o];rfl
  go_enter func158,ntmps158;go_wp2;go_ret;rw[b.o];exact⟨Z,HB.o _⟩
 by_cases h0:a<0
 ·have b:MT (m.value ⟨U,a⟩=0):=by unfold MT;rw[d.o];simp[h0]
  go_enter func158,ntmps158;go_wp2;go_ret;rw[b.o];exact⟨Z,HB.o _⟩
 have x:decide (a<0)=false:=decide_eq_false h0;by_cases h4:4<=a
 ·have b:MT (m.value ⟨U,a⟩=0):=by unfold MT;rw[d.o];simp[h4]
  go_enter func158,ntmps158;go_wp2;go_ret;rw[b.o];exact⟨Z,HB.o _⟩
 have y:decide (4<=a)=false:=decide_eq_false h4;have f:a=0\/a=1\/a=2\/a=3:=by omega
 generalize i:m.g.getD 0 0=A at*;have n:=MS i;generalize j:m.g.getD 1 0=D at*;have p:=MS j;generalize k:m.g.getD 2 0=E at*;have q:=MS k;generalize l:m.g.getD 3 0=H at*;have r:=MS l
 rcases f with rfl|rfl|rfl|rfl
 ·have b:MT (m.value ⟨U,0⟩=A):=n.o;go_enter func158,ntmps158;go_wp2;go_quiet (fail)
  all_goals
   go_wp2;go_ret;rw[b.o];exact⟨Z,((xF _ _).alloc (xR _) _).trans (QA _ _ _)⟩
 ·have b:MT (m.value ⟨U,1⟩=D):=p.o;go_enter func158,ntmps158;go_wp2;go_quiet (fail)
  all_goals
   go_wp2;go_ret;rw[b.o];exact⟨Z,((xF _ _).alloc (xR _) _).trans (QA _ _ _)⟩
 ·have b:MT (m.value ⟨U,2⟩=E):=q.o;go_enter func158,ntmps158;go_wp2;go_quiet (fail)
  all_goals
   go_wp2;go_ret;rw[b.o];exact⟨Z,((xF _ _).alloc (xR _) _).trans (QA _ _ _)⟩
 ·have b:MT (m.value ⟨U,3⟩=H):=r.o;go_enter func158,ntmps158;go_wp2;go_quiet (fail)
  all_goals
   go_wp2;go_ret;rw[b.o];exact⟨Z,((xF _ _).alloc (xR _) _).trans (QA _ _ _)⟩
def AC(B g:Nat)(m:Et)(ev:Value)(c:Bool)(a:Int)(w:World)(h:Eg w B g m ev):
  Calls prog 157 #[.pointer (G ⟨g,0,I⟩),.agg #[.bool c,C O a]] w fun e w'=>e=N (C .u64 (m.Ea ⟨c,a⟩:Nat))/\Below w.heap.size w w':=by
 have hg:=h.lt;obtain⟨J,K,L,S,T,V,W,X,Y,c9,s,t,u,v,cf⟩:=h.F;have d:MT (m.Ea ⟨c,a⟩=if c then(if a<0\/4<=a then 0 else m.made.getD a.toNat 0)else 0):=Z;have HB:MT (∀o,Below w.heap.size w (w.alloc o)):=fun o=>(xF _ _).alloc (xR _) _
 cases c
 ·have b:MT (m.Ea ⟨false,a⟩=0):=by unfold MT;rw[d.o];rfl
  go_enter func157,ntmps157;go_wp2;go_ret;rw[b.o];exact⟨Z,HB.o _⟩
 by_cases h0:a<0
 ·have b:MT (m.Ea ⟨U,a⟩=0):=by unfold MT;rw[d.o];simp[h0]
  go_enter func157,ntmps157;go_wp2;go_ret;rw[b.o];exact⟨Z,HB.o _⟩
 have x:decide (a<0)=false:=decide_eq_false h0;by_cases h4:4<=a
 ·have b:MT (m.Ea ⟨U,a⟩=0):=by unfold MT;rw[d.o];simp[h4]
  go_enter func157,ntmps157;go_wp2;go_ret;rw[b.o];exact⟨Z,HB.o _⟩
 have y:decide (4<=a)=false:=decide_eq_false h4;have f:a=0\/a=1\/a=2\/a=3:=by omega
 generalize i:m.made.getD 0 0=A at*;have n:=MS i;generalize j:m.made.getD 1 0=D at*;have p:=MS j;generalize k:m.made.getD 2 0=E at*;have q:=MS k;generalize l:m.made.getD 3 0=H at*;have r:=MS l
 rcases f with rfl|rfl|rfl|rfl
 ·have b:MT (m.Ea ⟨U,0⟩=A):=n.o;go_enter func157,ntmps157;go_wp2;go_quiet (fail)
  all_goals
   go_wp2;go_ret;rw[b.o];exact⟨Z,((xF _ _).alloc (xR _) _).trans (QA _ _ _)⟩
 ·have b:MT (m.Ea ⟨U,1⟩=D):=p.o;go_enter func157,ntmps157;go_wp2;go_quiet (fail)
  all_goals
   go_wp2;go_ret;rw[b.o];exact⟨Z,((xF _ _).alloc (xR _) _).trans (QA _ _ _)⟩
 ·have b:MT (m.Ea ⟨U,2⟩=E):=q.o;go_enter func157,ntmps157;go_wp2;go_quiet (fail)
  all_goals
   go_wp2;go_ret;rw[b.o];exact⟨Z,((xF _ _).alloc (xR _) _).trans (QA _ _ _)⟩
 ·have b:MT (m.Ea ⟨U,3⟩=H):=r.o;go_enter func157,ntmps157;go_wp2;go_quiet (fail)
  all_goals
   go_wp2;go_ret;rw[b.o];exact⟨Z,((xF _ _).alloc (xR _) _).trans (QA _ _ _)⟩
def YP(B g:Nat)(m:Et)(ev:Value)(i:Nat)(w:World)(h:Eg w B g m ev)(d:i<M m.E)(hn:M m.E<10000):
  Calls prog 206 #[.pointer (G ⟨g,0,I⟩),C O (i:Int)] w fun e w'=>e=N (C O (m.aU i))/\w'=w:=by
 obtain⟨a,c,rfl,r⟩:=h.form;obtain⟨b,rfl,hb⟩:=r (by omega);obtain⟨y,A,D,H,J,L,S,T,V,W,l,n,p,q,X⟩:=h.F;have u:w.rangeAt b (i*10) (aG (Q.ev m.E i)).toList:=by
  rw[eJ m.E i d];intro j v f;have t:j<10:=(List.getElem?_eq_some_iff.1 f).1;rw[h.K.cellAt _ (by omega),YG m.E i d j t];exact f
 have Y:=u 4 (C O (Q.ev m.E i).value) Z;have k:MT (m.aU i=(Q.ev m.E i).value):=Z;generalize(Q.ev m.E i).value=x at*;have s:(i:Int)<(M m.E:Int):=by omega
 go_enter func206,ntmps206;go_wp2;go_ret;rw[k.o];exact⟨Z,Z⟩
def Eg.set{a:Et}{ev:Value}(h:Eg w B g m ev)(i:w'.heap[g]?=G (.cells (SX a ev) 206 (0,0)))(l:∀k,k≠g->w'.heap[k]?=w.heap[k]?)(j:a.E=m.E)(o:M a.g=4)(n:M a.made=4):Eg w' B g a ev:=by
 refine⟨i,?_,h.ge,o,n⟩;rw[j];refine bE h.K fun k e=>l k ?_;intro f;subst f
 rcases h.K.2 with⟨e1,_⟩|⟨p,c,d,e1,_,b,_⟩
 ·rw[e1]at e;simp[x1]at e
 ·rw[e1]at e;simp[x1]at e;subst e;rw[h.box]at b;simp at b
def Ef.set(ev:Value)(l:List (Nat×Value)):Ef w (l.foldl (fun w p=>w.setCell ⟨g,p.1,I⟩ p.2) w) g ev ev:=by
 induction l generalizing w with
 |nil=>exact Ef.of (xF _ _) g ev
 |cons p q ih =>
  refine Ef.trans (w1:=w.setCell ⟨g,p.1,I⟩ p.2) ⟨Z,Z,Z,by simp,fun k _ a _=>xW _ _ _ _ a,Or.inl Z⟩ ih
def YQ(B g:Nat)(m:Et)(ev:Value)(d v:Int)(s:Nat)(w:World)(h:Eg w B g m ev):
  Calls prog 188 #[.pointer (G ⟨g,0,I⟩),C O d,C O v,C .u64 (s:Nat)] w fun e w'=>e=N (.tuple #[])/\Eg w' B g (m.aJ d v s) ev/\Ef w w' g ev ev:=by
 have H:=MS h;obtain⟨E,J,K,L,S,T,V,W,X,Y,q,r,t,u,cf⟩:=h.F;by_cases h0:d<0
 ·have p:MT (m.aJ d v s=m):=by unfold MT Et.aJ;rw[if_pos (Or.inl h0)]
  go_enter func188,ntmps188;go_wp2
  (try simp only[Exit.inBlock,Exit.then]);refine bodyPost_ret (results_none Z _ _ _) Z ?_
  rw[p.o];exact⟨Z,H.o,Ef.of (xF _ _) g ev⟩
 have l:decide (d<0)=false:=decide_eq_false h0;by_cases h4:4<=d
 ·have p:MT (m.aJ d v s=m):=by unfold MT Et.aJ;rw[if_pos (Or.inr h4)]
  go_enter func188,ntmps188;go_wp2
  (try simp only[Exit.inBlock,Exit.then]);refine bodyPost_ret (results_none Z _ _ _) Z ?_
  rw[p.o];exact⟨Z,H.o,Ef.of (xF _ _) g ev⟩
 have n:decide (4<=d)=false:=decide_eq_false h4;have y:d=0\/d=1\/d=2\/d=3:=by omega
 obtain⟨th,bl,un,D,A,ak,br,es⟩:=m;have h1:=h.lr;have h2:=h.lm;obtain⟨r0,r1,r2,r3,rfl⟩:∃a b c d,D=[a,b,c,d]:=by
  match D,h1 with
  |[a,b,c,d],_=>exact⟨a,b,c,d,Z⟩
 obtain⟨m0,m1,m2,m3,rfl⟩:∃a b c d,A=[a,b,c,d]:=by
  match A,h2 with
  |[a,b,c,d],_=>exact⟨a,b,c,d,Z⟩
 have x:=h.box;have j:=MS x;simp only[List.getD_cons_zero,List.getD_cons_succ]at E J K L S T V W X Y q r t u
 rcases y with rfl|rfl|rfl|rfl
 ·clear h0 h4 l n;go_enter func188,ntmps188;go_wp2;go_end0;have f:=Ef.set (w:=w) (g:=g) ev [(3,C O v),(7,C .u64 (s:Nat))];simp only[x2,x3]at f;refine⟨Z,H.set ?_ fun k i=>by rw[xW _ _ _ _ i,xW _ _ _ _ i] Z Z Z,f⟩;rw[bX (bX j.o _ _)];rfl
 ·clear h0 h4 l n;go_enter func188,ntmps188;go_wp2;go_end0;have f:=Ef.set (w:=w) (g:=g) ev [(4,C O v),(8,C .u64 (s:Nat))];simp only[x2,x3]at f;refine⟨Z,H.set ?_ fun k i=>by rw[xW _ _ _ _ i,xW _ _ _ _ i] Z Z Z,f⟩;rw[bX (bX j.o _ _)];rfl
 ·clear h0 h4 l n;go_enter func188,ntmps188;go_wp2;go_end0;have f:=Ef.set (w:=w) (g:=g) ev [(5,C O v),(9,C .u64 (s:Nat))];simp only[x2,x3]at f;refine⟨Z,H.set ?_ fun k i=>by rw[xW _ _ _ _ i,xW _ _ _ _ i] Z Z Z,f⟩;rw[bX (bX j.o _ _)];rfl
 ·clear h0 h4 l n;go_enter func188,ntmps188;go_wp2;go_end0;have f:=Ef.set (w:=w) (g:=g) ev [(6,C O v),(10,C .u64 (s:Nat))];simp only[x2,x3]at f;refine⟨Z,H.set ?_ fun k i=>by rw[xW _ _ _ _ i,xW _ _ _ _ i] Z Z Z,f⟩;rw[bX (bX j.o _ _)];rfl
def LU(B g:Nat)(m:Et)(ev:Value)(d:Int)(r:Nat)(w:World)(h:Eg w B g m ev)(i:r<M m.E)(f:M m.E<10000):
  Calls prog 181 #[.pointer (G ⟨g,0,I⟩),C O d,C O (r:Int)] w fun e w'=>e=N (.tuple #[])/\Eg w' B g (m.aZ d r) ev/\Ef w w' g ev ev:=by
 have H:=MS h;go_enter func181,ntmps181;go_wp2_with(first
  |(go_at_call 206;refine(YP B g m ev r _ H.o i f).mono ?_;rintro e w' ⟨rfl,a⟩;have a:=a.symm;subst a)
  |(go_at_call 139;refine(DW _ _).mono ?_;rintro e w' ⟨rfl,a⟩;have a:=a.symm;subst a)
  |(go_at_call 188;refine(YQ B g m ev d _ _ _ H.o).mono ?_;rintro e j ⟨rfl,c,b⟩))
 go_end0;exact⟨Z,c,b⟩
