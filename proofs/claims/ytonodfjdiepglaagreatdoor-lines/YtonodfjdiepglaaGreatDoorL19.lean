import Derived.Test.YtonodfjdiepglaaGreatDoorL15
set_option linter.unusedVariables false
set_option linter.unusedSimpArgs false
set_option maxHeartbeats 12800000
namespace Go.Proofs.YtonodfjdiepglaaGreatDoor
open Go Go.RowKit Go.Proofs.Tryz P Q R
set_option maxRecDepth 1000000
variable {w w':World} {B g:Nat} {m:ED} {ev':Value}
open Go.RowKit.Below renaming refl→xF,heap_setCell→xW
open Nat renaming le_refl→xR
open Go.Value renaming ownBlock→x1
open List renaming foldl_cons→x2,foldl_nil→x3
def zDp (m:ED) (ev:Value):Array Value:=#[.int .i64 m.thread,.int .i64 m.block,.int .i64 (m.unread:Nat),.int .i64 (m.regs.getD 0 0),.int .i64 (m.regs.getD 1 0),.int .i64 (m.regs.getD 2 0),.int .i64 (m.regs.getD 3 0),
 .int .u64 (m.made.getD 0 0:Nat),.int .u64 (m.made.getD 1 0:Nat),.int .u64 (m.made.getD 2 0:Nat),.int .u64 (m.made.getD 3 0:Nat),.int .u64 (m.Ee:Nat),.int .i64 (m.bars:Nat),ev]
structure Em (w:World) (B g:Nat) (m:ED) (ev:Value):Prop where
 box:w.heap[g]?=some (.cells (zDp m ev) 164 (0,0))
 evs:w.ownsRow B 146 10 ev m.Ea.length (zAG m.Ea)
 ge:B<=g
 lr:m.regs.length=4
 lm:m.made.length=4
theorem Em.lt {ev:Value} (h:Em w B g m ev):g<w.heap.size:=(Array.getElem?_eq_some_iff.1 h.box).1
theorem Em.facts {ev:Value} (h:Em w B g m ev):w.cell? ⟨g,0,none⟩=some (.int .i64 m.thread)/\w.cell? ⟨g,1,none⟩=some (.int .i64 m.block)/\w.cell? ⟨g,2,none⟩=some (.int .i64 (m.unread:Nat))/\w.cell? ⟨g,3,none⟩=some (.int .i64 (m.regs.getD 0 0))/\w.cell? ⟨g,4,none⟩=some (.int .i64 (m.regs.getD 1 0))/\w.cell? ⟨g,5,none⟩=some (.int .i64 (m.regs.getD 2 0))/\w.cell? ⟨g,6,none⟩=some (.int .i64 (m.regs.getD 3 0)) /\
  w.cell? ⟨g,7,none⟩=some (.int .u64 (m.made.getD 0 0:Nat))/\w.cell? ⟨g,8,none⟩=some (.int .u64 (m.made.getD 1 0:Nat))/\w.cell? ⟨g,9,none⟩=some (.int .u64 (m.made.getD 2 0:Nat))/\w.cell? ⟨g,10,none⟩=some (.int .u64 (m.made.getD 3 0:Nat))/\w.cell? ⟨g,11,none⟩=some (.int .u64 (m.Ee:Nat))/\w.cell? ⟨g,12,none⟩=some (.int .i64 (m.bars:Nat))/\w.cell? ⟨g,13,none⟩=some ev/\(∀ j,w.frozen? ⟨g,j,none⟩=false):=by
 have a:=h.box;refine⟨?_,?_,?_,?_,?_,?_,?_,?_,?_,?_,?_,?_,?_,?_,fun j=>?_⟩<;>simp[World.cell?,World.frozen?,a,zDp]
theorem Em.form {ev:Value} (h:Em w B g m ev):∃ a c,ev=.slice a m.Ea.length c/\(0<m.Ea.length->∃ b,a=some ⟨b,0,none⟩/\b<w.heap.size):=by
 rcases h.evs.2 with ⟨e,f⟩ | ⟨k,c,d,e,_⟩
 ·exact⟨none,0,by rw[e,f],fun h=>by omega⟩
 ·exact⟨_,c,e,fun _=>⟨k,rfl,(h.evs.lt k (by rw[e];rfl)).2⟩⟩
theorem Em.below {ev:Value} (h:Em w B g m ev) (a:Below w.heap.size w w'):Em w' B g m ev :=
 ⟨(a.block g h.lt).trans h.box,aX h.evs (fun k e=>a.block k (h.evs.lt k e).2),h.ge,h.lr,h.lm⟩
structure El (w w':World) (g:Nat) (ev ev':Value):Prop where
 os:w'.os=w.os
 tape:w'.tape=w.tape
 output:w'.output=w.output
 size:w.heap.size<=w'.heap.size
 block:∀ k,k<w.heap.size->k≠g->ev.ownBlock≠some k->w'.heap[k]?=w.heap[k]?
 own:ev'.ownBlock=ev.ownBlock\/∃ b,ev'.ownBlock=some b/\w.heap.size<=b
theorem El.of (a:Below w.heap.size w w') (g:Nat) (ev:Value):El w w' g ev ev:=⟨a.os,a.tape,a.output,a.size,fun k b _ _=>a.block k b,Or.inl rfl⟩
theorem El.trans {w1 n:World} {a b c:Value} (h:El w w1 g a b) (k:El w1 n g b c):El w n g a c:=by
 refine⟨k.os.trans h.os,k.tape.trans h.tape,k.output.trans h.output,Nat.le_trans h.size k.size,fun i o l j=>?_,?_⟩
 ·refine (k.block i (by have:=h.size;omega) l ?_).trans (h.block i o l j)
  rcases h.own with e | ⟨q,e,p⟩
  ·rw[e];exact j
  ·rw[e];intro d;simp at d;omega
 ·rcases k.own with e | ⟨q,e,p⟩
  ·rcases h.own with d | ⟨r,d,f⟩
   ·exact Or.inl (e.trans d)
   ·exact Or.inr ⟨r,e.trans d,f⟩
  ·exact Or.inr ⟨q,e,by have:=h.size;omega⟩
theorem El.below {ev:Value} (h:El w w' g ev ev') (a:Em w B g m ev) (b:B<=w.heap.size):Below B w w' :=
 ⟨h.os,h.tape,h.output,h.size,fun k c=>h.block k (by omega) (by have:=a.ge;omega) (fun e=>by have:=(a.evs.lt k e).1;omega)⟩
theorem El.stm {ev:Value} (h:El w w' g ev ev') (i:Em w B g m ev) {b:Nat} {j:Stm} (a:bC w b j):bC w' b j:=by
 refine a.aA (h.block b a.lt ?_ ?_)
 ·intro e;have d:=i.box;unfold bC at a;rw[<- e,a] at d;simp at d
 ·intro e
  rcases i.evs.2 with ⟨c,_⟩ | ⟨n,k,l,c,_,f,_⟩
  ·rw[c] at e;simp[x1] at e
  ·rw[c] at e;simp[x1] at e;subst e;unfold bC at a;rw[a] at f;simp at f
theorem tG (B g:Nat) (m:ED) (ev:Value) (s:Bool) (a:Int) (w:World) (h:Em w B g m ev) :
  Calls prog 121 #[.pointer (some ⟨g,0,none⟩),.agg #[.bool s,.int .i64 a]] w fun e w'=>e=.returned (.int .i64 (m.value ⟨s,a⟩))/\Below w.heap.size w w':=by
 have T:=h.lt;obtain⟨A,C,D,L,M,N,O,E,F,G,t,u,v,x,S⟩:=h.facts;clear A C D E F G t u v x h;have f:Hid (m.value ⟨s,a⟩=if s then (if a<0\/4<=a then 0 else m.regs.getD a.toNat 0) else a):=rfl;have HB:Hid (∀ o,Below w.heap.size w (w.alloc o)):=fun o=>(xF _ _).alloc (xR _) _
 have z:Hid (∀ o,Below w.heap.size w (w.alloc o).drew):=fun o=>((xF _ _).alloc (xR _) _).drew
 cases s
 ·have b:Hid (m.value ⟨false,a⟩=a):=by unfold Hid;rw[f.out];rfl
  go_enter func121,ntmps121;go_wp2;go_ret;rw[b.out];exact⟨rfl,HB.out _⟩
 by_cases h0:a<0
 ·have b:Hid (m.value ⟨true,a⟩=0):=by unfold Hid;rw[f.out];simp[h0]
  go_enter func121,ntmps121;go_wp2;go_ret;rw[b.out];exact⟨rfl,HB.out _⟩
 have c:decide (a<0)=false:=decide_eq_false h0;by_cases h4:4<=a
 ·have b:Hid (m.value ⟨true,a⟩=0):=by unfold Hid;rw[f.out];simp[h4]
  go_enter func121,ntmps121;go_wp2;go_ret;rw[b.out];exact⟨rfl,HB.out _⟩
 have d:decide (4<=a)=false:=decide_eq_false h4;have y:a=0\/a=1\/a=2\/a=3:=by omega
 generalize n:m.regs.getD 0 0=H at *;have i:=zAa n;clear n;generalize p:m.regs.getD 1 0=I at *;have j:=zAa p;clear p;generalize q:m.regs.getD 2 0=J at *;have k:=zAa q;clear q;generalize r:m.regs.getD 3 0=K at *;have l:=zAa r;clear r
 rcases y with rfl | rfl | rfl | rfl
 ·have b:Hid (m.value ⟨true,0⟩=H):=i.out;clear f h0 h4 c d i j k l;go_enter func121,ntmps121;go_wp2;go_quiet (fail)
  all_goals
   go_wp2;go_ret;rw[b.out];exact⟨rfl,((xF _ _).alloc (xR _) _).trans (dZ _ _ _)⟩
 ·have b:Hid (m.value ⟨true,1⟩=I):=j.out;clear f h0 h4 c d i j k l;go_enter func121,ntmps121;go_wp2;go_quiet (fail)
  all_goals
   go_wp2;go_ret;rw[b.out];exact⟨rfl,((xF _ _).alloc (xR _) _).trans (dZ _ _ _)⟩
 ·have b:Hid (m.value ⟨true,2⟩=J):=k.out;clear f h0 h4 c d i j k l;go_enter func121,ntmps121;go_wp2;go_quiet (fail)
  all_goals
   go_wp2;go_ret;rw[b.out];exact⟨rfl,((xF _ _).alloc (xR _) _).trans (dZ _ _ _)⟩
 ·have b:Hid (m.value ⟨true,3⟩=K):=l.out;clear f h0 h4 c d i j k l;go_enter func121,ntmps121;go_wp2;go_quiet (fail)
  all_goals
   go_wp2;go_ret;rw[b.out];exact⟨rfl,((xF _ _).alloc (xR _) _).trans (dZ _ _ _)⟩
theorem lZ (B g:Nat) (m:ED) (ev:Value) (s:Bool) (a:Int) (w:World) (h:Em w B g m ev) :
  Calls prog 120 #[.pointer (some ⟨g,0,none⟩),.agg #[.bool s,.int .i64 a]] w fun e w'=>e=.returned (.int .u64 (m.Ed ⟨s,a⟩:Nat))/\Below w.heap.size w w':=by
 have T:=h.lt;obtain⟨z,A,D,E,F,G,H,M,N,O,C,t,u,v,S⟩:=h.facts;clear z A D E F G H t u v h;have f:Hid (m.Ed ⟨s,a⟩=if s then (if a<0\/4<=a then 0 else m.made.getD a.toNat 0) else 0):=rfl;have HB:Hid (∀ o,Below w.heap.size w (w.alloc o)):=fun o=>(xF _ _).alloc (xR _) _
 have y:Hid (∀ o,Below w.heap.size w (w.alloc o).drew):=fun o=>((xF _ _).alloc (xR _) _).drew
 cases s
 ·have b:Hid (m.Ed ⟨false,a⟩=0):=by unfold Hid;rw[f.out];rfl
  go_enter func120,ntmps120;go_wp2;go_ret;rw[b.out];exact⟨rfl,HB.out _⟩
 by_cases h0:a<0
 ·have b:Hid (m.Ed ⟨true,a⟩=0):=by unfold Hid;rw[f.out];simp[h0]
  go_enter func120,ntmps120;go_wp2;go_ret;rw[b.out];exact⟨rfl,HB.out _⟩
 have c:decide (a<0)=false:=decide_eq_false h0;by_cases h4:4<=a
 ·have b:Hid (m.Ed ⟨true,a⟩=0):=by unfold Hid;rw[f.out];simp[h4]
  go_enter func120,ntmps120;go_wp2;go_ret;rw[b.out];exact⟨rfl,HB.out _⟩
 have d:decide (4<=a)=false:=decide_eq_false h4;have x:a=0\/a=1\/a=2\/a=3:=by omega
 generalize n:m.made.getD 0 0=I at *;have i:=zAa n;clear n;generalize p:m.made.getD 1 0=J at *;have j:=zAa p;clear p;generalize q:m.made.getD 2 0=K at *;have k:=zAa q;clear q;generalize r:m.made.getD 3 0=L at *;have l:=zAa r;clear r
 rcases x with rfl | rfl | rfl | rfl
 ·have b:Hid (m.Ed ⟨true,0⟩=I):=i.out;clear f h0 h4 c d i j k l;go_enter func120,ntmps120;go_wp2;go_quiet (fail)
  all_goals
   go_wp2;go_ret;rw[b.out];exact⟨rfl,((xF _ _).alloc (xR _) _).trans (dZ _ _ _)⟩
 ·have b:Hid (m.Ed ⟨true,1⟩=J):=j.out;clear f h0 h4 c d i j k l;go_enter func120,ntmps120;go_wp2;go_quiet (fail)
  all_goals
   go_wp2;go_ret;rw[b.out];exact⟨rfl,((xF _ _).alloc (xR _) _).trans (dZ _ _ _)⟩
 ·have b:Hid (m.Ed ⟨true,2⟩=K):=k.out;clear f h0 h4 c d i j k l;go_enter func120,ntmps120;go_wp2;go_quiet (fail)
  all_goals
   go_wp2;go_ret;rw[b.out];exact⟨rfl,((xF _ _).alloc (xR _) _).trans (dZ _ _ _)⟩
 ·have b:Hid (m.Ed ⟨true,3⟩=L):=l.out;clear f h0 h4 c d i j k l;go_enter func120,ntmps120;go_wp2;go_quiet (fail)
  all_goals
   go_wp2;go_ret;rw[b.out];exact⟨rfl,((xF _ _).alloc (xR _) _).trans (dZ _ _ _)⟩
theorem zEw (B g:Nat) (m:ED) (ev:Value) (i:Nat) (w:World) (h:Em w B g m ev) (n:i<m.Ea.length) (M:m.Ea.length<10000) :
  Calls prog 155 #[.pointer (some ⟨g,0,none⟩),.int .i64 (i:Int)] w fun e w'=>e=.returned (.int .i64 (m.aV i))/\w'=w:=by
 have L:=h.lt;obtain⟨a,c,rfl,l⟩:=h.form;obtain⟨b,rfl,K⟩:=l (by omega);obtain⟨r,s,u,y,z,A,C,D,E,F,d,f,k,t,I⟩:=h.facts;have o:w.rangeAt b (i*10) (aI (Q.ev m.Ea i)).toList:=by
  rw[tE m.Ea i n];intro j v p;have H:j<10:=(List.getElem?_eq_some_iff.1 p).1;rw[h.evs.cellAt _ (by omega),zEP m.Ea i n j H];exact p
 have J:=o 4 (.int .i64 (Q.ev m.Ea i).value) rfl;have q:Hid (m.aV i=(Q.ev m.Ea i).value):=rfl;generalize (Q.ev m.Ea i).value=x at *;have G:(i:Int)<(m.Ea.length:Int):=by omega
 clear r s u y z A C D E F d f k h o l;go_enter func155,ntmps155;go_wp2;go_ret;rw[q.out];exact⟨rfl,rfl⟩
theorem Em.set {a:ED} {ev:Value} (h:Em w B g m ev) (j:w'.heap[g]?=some (.cells (zDp a ev) 164 (0,0))) (n:∀ k,k≠g->w'.heap[k]?=w.heap[k]?) (l:a.Ea=m.Ea) (p:a.regs.length=4) (o:a.made.length=4):Em w' B g a ev:=by
 refine⟨j,?_,h.ge,p,o⟩;rw[l];refine aX h.evs (fun k e=>n k ?_);intro i;subst i
 rcases h.evs.2 with ⟨b,_⟩ | ⟨q,d,f,b,_,c,_⟩
 ·rw[b] at e;simp[x1] at e
 ·rw[b] at e;simp[x1] at e;subst e;rw[h.box] at c;simp at c
theorem El.set (ev:Value) (l:List (Nat × Value)):El w (l.foldl (fun w p=>w.setCell ⟨g,p.1,none⟩ p.2) w) g ev ev:=by
 induction l generalizing w with
 | nil=>exact El.of (xF _ _) g ev
 | cons p q ih =>
  refine El.trans (w1:=w.setCell ⟨g,p.1,none⟩ p.2) ⟨rfl,rfl,rfl,by simp,fun k _ a _=>xW _ _ _ _ a,Or.inl rfl⟩ ih
theorem uJ (B g:Nat) (m:ED) (ev:Value) (d v:Int) (s:Nat) (w:World) (h:Em w B g m ev) :
  Calls prog 144 #[.pointer (some ⟨g,0,none⟩),.int .i64 d,.int .i64 v,.int .u64 (s:Nat)] w fun e w'=>e=.returned (.tuple #[])/\Em w' B g (m.bK d v s) ev/\El w w' g ev ev:=by
 have V:=h.lt;have H:=zAa h;obtain⟨x,y,z,A,C,D,E,F,G,I,o,p,q,r,U⟩:=h.facts;by_cases h0:d<0
 ·have u:Hid (m.bK d v s=m):=by unfold Hid ED.bK;rw[if_pos (Or.inl h0)]
  clear x y z A C D E F G I o p q r h;go_enter func144,ntmps144;go_wp2
  (try simp only[Exit.inBlock,Exit.then]);refine bodyPost_ret (results_none rfl _ _ _) rfl ?_
  rw[u.out];exact⟨rfl,H.out,El.of (xF _ _) g ev⟩
 have l:decide (d<0)=false:=decide_eq_false h0;by_cases h4:4<=d
 ·have u:Hid (m.bK d v s=m):=by unfold Hid ED.bK;rw[if_pos (Or.inr h4)]
  clear x y z A C D E F G I o p q r h;go_enter func144,ntmps144;go_wp2
  (try simp only[Exit.inBlock,Exit.then]);refine bodyPost_ret (results_none rfl _ _ _) rfl ?_
  rw[u.out];exact⟨rfl,H.out,El.of (xF _ _) g ev⟩
 have n:decide (4<=d)=false:=decide_eq_false h4;have J:d=0\/d=1\/d=2\/d=3:=by omega
 obtain⟨th,S,un,N,M,O,T,es⟩:=m;have K:=h.lr;have L:=h.lm;obtain⟨r0,r1,r2,r3,rfl⟩:∃ a b c d,N=[a,b,c,d]:=by
  match N,K with
  | [a,b,c,d],_=>exact⟨a,b,c,d,rfl⟩
 obtain⟨W,X,Y,Z,rfl⟩:∃ a b c d,M=[a,b,c,d]:=by
  match M,L with
  | [a,b,c,d],_=>exact⟨a,b,c,d,rfl⟩
 have t:=h.box;have j:=zAa t;simp only[List.getD_cons_zero,List.getD_cons_succ] at x y z A C D E F G I o p q r;clear h K L t
 rcases J with rfl | rfl | rfl | rfl
 ·clear h0 h4 l n;go_enter func144,ntmps144;go_wp2;go_end0;have f:=El.set (w:=w) (g:=g) ev [(3,.int .i64 v),(7,.int .u64 (s:Nat))];simp only[x2,x3] at f;refine⟨rfl,H.out.set ?_ (fun k i=>by rw[xW _ _ _ _ i,xW _ _ _ _ i]) rfl rfl rfl,f⟩;rw[bH (bH j.out _ _)];rfl
 ·clear h0 h4 l n;go_enter func144,ntmps144;go_wp2;go_end0;have f:=El.set (w:=w) (g:=g) ev [(4,.int .i64 v),(8,.int .u64 (s:Nat))];simp only[x2,x3] at f;refine⟨rfl,H.out.set ?_ (fun k i=>by rw[xW _ _ _ _ i,xW _ _ _ _ i]) rfl rfl rfl,f⟩;rw[bH (bH j.out _ _)];rfl
 ·clear h0 h4 l n;go_enter func144,ntmps144;go_wp2;go_end0;have f:=El.set (w:=w) (g:=g) ev [(5,.int .i64 v),(9,.int .u64 (s:Nat))];simp only[x2,x3] at f;refine⟨rfl,H.out.set ?_ (fun k i=>by rw[xW _ _ _ _ i,xW _ _ _ _ i]) rfl rfl rfl,f⟩;rw[bH (bH j.out _ _)];rfl
 ·clear h0 h4 l n;go_enter func144,ntmps144;go_wp2;go_end0;have f:=El.set (w:=w) (g:=g) ev [(6,.int .i64 v),(10,.int .u64 (s:Nat))];simp only[x2,x3] at f;refine⟨rfl,H.out.set ?_ (fun k i=>by rw[xW _ _ _ _ i,xW _ _ _ _ i]) rfl rfl rfl,f⟩;rw[bH (bH j.out _ _)];rfl
theorem CC (B g:Nat) (m:ED) (ev:Value) (d:Int) (r:Nat) (w:World) (h:Em w B g m ev) (i:r<m.Ea.length) (f:m.Ea.length<10000) :
  Calls prog 137 #[.pointer (some ⟨g,0,none⟩),.int .i64 d,.int .i64 (r:Int)] w fun e w'=>e=.returned (.tuple #[])/\Em w' B g (m.aY d r) ev/\El w w' g ev ev:=by
 have H:=zAa h;clear h;go_enter func137,ntmps137;go_wp2_with (first
  | (go_at_call 155;refine (zEw B g m ev r _ H.out i f).mono ?_;rintro e w' ⟨rfl,a⟩;have a:=a.symm;subst a)
  | (go_at_call 109;refine (xS _ _).mono ?_;rintro e w' ⟨rfl,a⟩;have a:=a.symm;subst a)
  | (go_at_call 144;refine (uJ B g m ev d _ _ _ H.out).mono ?_;rintro e j ⟨rfl,c,b⟩))
 go_end0;exact⟨rfl,c,b⟩
end Go.Proofs.YtonodfjdiepglaaGreatDoor
