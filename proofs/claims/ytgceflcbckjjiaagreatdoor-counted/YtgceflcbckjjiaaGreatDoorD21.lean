import Derived.Test.YtgceflcbckjjiaaGreatDoorD15
set_option linter.unusedVariables false
set_option linter.unusedSimpArgs false
set_option maxHeartbeats 12800000
namespace Go.Proofs.YtgceflcbckjjiaaGreatDoor
open Go Go.RowKit
set_option maxRecDepth 100000
def zCU (m:Q.Mach) (ev:Value):Array Value:=#[.int .i64 m.thread,.int .i64 m.block,.int .i64 (m.unread:Nat),.int .i64 (m.regs.getD 0 0),.int .i64 (m.regs.getD 1 0),.int .i64 (m.regs.getD 2 0),.int .i64 (m.regs.getD 3 0),
 .int .u64 (m.made.getD 0 0:Nat),.int .u64 (m.made.getD 1 0:Nat),.int .u64 (m.made.getD 2 0:Nat),.int .u64 (m.made.getD 3 0:Nat),.int .u64 (m.asked:Nat),.int .i64 (m.bars:Nat),ev]
structure MachIn (w:World) (B g:Nat) (m:Q.Mach) (ev:Value):Prop where
 box:w.heap[g]?=some (.cells (zCU m ev) 177 (0,0))
 evs:w.ownsRow B 158 10 ev m.events.length (zAO m.events)
 ge:B≤g
 lr:m.regs.length=4
 lm:m.made.length=4
theorem MachIn.lt {w:World} {B g:Nat} {m:Q.Mach} {ev:Value} (h:MachIn w B g m ev):g<w.heap.size:=(Array.getElem?_eq_some_iff.1 h.box).1
theorem MachIn.facts {w:World} {B g:Nat} {m:Q.Mach} {ev:Value} (h:MachIn w B g m ev):w.cell? ⟨g,0,none⟩=some (.int .i64 m.thread)∧w.cell? ⟨g,1,none⟩=some (.int .i64 m.block)∧w.cell? ⟨g,2,none⟩=some (.int .i64 (m.unread:Nat))∧w.cell? ⟨g,3,none⟩=some (.int .i64 (m.regs.getD 0 0))∧w.cell? ⟨g,4,none⟩=some (.int .i64 (m.regs.getD 1 0))∧w.cell? ⟨g,5,none⟩=some (.int .i64 (m.regs.getD 2 0))∧w.cell? ⟨g,6,none⟩=some (.int .i64 (m.regs.getD 3 0)) ∧
  w.cell? ⟨g,7,none⟩=some (.int .u64 (m.made.getD 0 0:Nat))∧w.cell? ⟨g,8,none⟩=some (.int .u64 (m.made.getD 1 0:Nat))∧w.cell? ⟨g,9,none⟩=some (.int .u64 (m.made.getD 2 0:Nat))∧w.cell? ⟨g,10,none⟩=some (.int .u64 (m.made.getD 3 0:Nat))∧w.cell? ⟨g,11,none⟩=some (.int .u64 (m.asked:Nat))∧w.cell? ⟨g,12,none⟩=some (.int .i64 (m.bars:Nat))∧w.cell? ⟨g,13,none⟩=some ev∧(∀ j,w.frozen? ⟨g,j,none⟩=false):=by
 have hb:=h.box
 refine⟨?_,?_,?_,?_,?_,?_,?_,?_,?_,?_,?_,?_,?_,?_,fun j=>?_⟩<;>simp[World.cell?,World.frozen?,hb,zCU]
theorem MachIn.form {w:World} {B g:Nat} {m:Q.Mach} {ev:Value} (h:MachIn w B g m ev):∃ a c,ev=.slice a m.events.length c∧(0<m.events.length→∃ b,a=some ⟨b,0,none⟩∧b<w.heap.size):=by
 rcases h.evs.2 with ⟨e,h0⟩ | ⟨k,c,cur,e,_⟩
 ·exact⟨none,0,by rw[e,h0],fun h=>by omega⟩
 ·exact⟨_,c,e,fun _=>⟨k,rfl,(h.evs.lt k (by rw[e];rfl)).2⟩⟩
theorem MachIn.below {w w':World} {B g:Nat} {m:Q.Mach} {ev:Value} (h:MachIn w B g m ev) (hb:Below w.heap.size w w'):MachIn w' B g m ev :=
 ⟨(hb.block g h.lt).trans h.box,zAd h.evs (fun k e=>hb.block k (h.evs.lt k e).2),h.ge,h.lr,h.lm⟩
structure MFrame (w w':World) (g:Nat) (ev ev':Value):Prop where
 os:w'.os=w.os
 tape:w'.tape=w.tape
 output:w'.output=w.output
 size:w.heap.size≤w'.heap.size
 block:∀ k,k<w.heap.size→k≠g→ev.ownBlock≠some k→w'.heap[k]?=w.heap[k]?
 own:ev'.ownBlock=ev.ownBlock∨∃ b,ev'.ownBlock=some b∧w.heap.size≤b
theorem MFrame.of {w w':World} (hb:Below w.heap.size w w') (g:Nat) (ev:Value):MFrame w w' g ev ev:=⟨hb.os,hb.tape,hb.output,hb.size,fun k hk _ _=>hb.block k hk,Or.inl rfl⟩
theorem MFrame.trans {w w1 w2:World} {g:Nat} {a b c:Value} (h:MFrame w w1 g a b) (k:MFrame w1 w2 g b c):MFrame w w2 g a c:=by
 refine⟨k.os.trans h.os,k.tape.trans h.tape,k.output.trans h.output,Nat.le_trans h.size k.size,fun i hi hg ha=>?_,?_⟩
 ·refine (k.block i (by have:=h.size;omega) hg ?_).trans (h.block i hi hg ha)
  rcases h.own with e | ⟨q,e,hq⟩
  ·rw[e];exact ha
  ·rw[e];intro e2;simp at e2;omega
 ·rcases k.own with e | ⟨q,e,hq⟩
  ·rcases h.own with e2 | ⟨q2,e2,hq2⟩
   ·exact Or.inl (e.trans e2)
   ·exact Or.inr ⟨q2,e.trans e2,hq2⟩
  ·exact Or.inr ⟨q,e,by have:=h.size;omega⟩
theorem MFrame.below {w w':World} {B g:Nat} {m:Q.Mach} {ev ev':Value} (h:MFrame w w' g ev ev') (hm:MachIn w B g m ev) (hB:B≤w.heap.size):Below B w w' :=
 ⟨h.os,h.tape,h.output,h.size,fun k hk=>h.block k (by omega) (by have:=hm.ge;omega) (fun e=>by have:=(hm.evs.lt k e).1;omega)⟩
theorem MFrame.stm {w w':World} {B g:Nat} {m:Q.Mach} {ev ev':Value} (h:MFrame w w' g ev ev') (hm:MachIn w B g m ev) {b:Nat} {st:P.Stm} (hs:zAw w b st):zAw w' b st:=by
 refine hs.of_block (h.block b hs.lt ?_ ?_)
 ·intro e;have h1:=hm.box;unfold zAw at hs;rw[← e,hs] at h1;simp at h1
 ·intro e
  rcases hm.evs.2 with ⟨e1,_⟩ | ⟨g',cap,cur,e1,_,hh,_⟩
  ·rw[e1] at e;simp[Value.ownBlock] at e
  ·rw[e1] at e;simp[Value.ownBlock] at e
   subst e
   unfold zAw at hs;rw[hs] at hh;simp at hh
theorem zCr (B g:Nat) (m:Q.Mach) (ev:Value) (rg:Bool) (nn:Int) (w:World) (h:MachIn w B g m ev) :
  Calls Tryz.prog 176 #[.pointer (some ⟨g,0,none⟩),.agg #[.bool rg,.int .i64 nn]] w fun e w'=>e=.returned (.int .i64 (m.value ⟨rg,nn⟩))∧Below w.heap.size w w':=by
 have hg:=h.lt
 obtain⟨c0,c1,c2,c3,c4,c5,c6,c7,c8,c9,c10,c11,c12,c13,cf⟩:=h.facts
 clear c0 c1 c2 c7 c8 c9 c10 c11 c12 c13 h
 have HV:Hid (m.value ⟨rg,nn⟩=if rg then (if nn<0∨4≤nn then 0 else m.regs.getD nn.toNat 0) else nn):=rfl
 have HB:Hid (∀ o,Below w.heap.size w (w.alloc o)):=fun o=>(Below.refl _ _).alloc (Nat.le_refl _) _
 have HB2:Hid (∀ o,Below w.heap.size w (w.alloc o).drew):=fun o=>((Below.refl _ _).alloc (Nat.le_refl _) _).drew
 cases rg
 ·have HE:Hid (m.value ⟨false,nn⟩=nn):=by unfold Hid;rw[HV.out];rfl
  go_enter Tryz.func176,Tryz.ntmps176
  go_wp2
  go_ret
  rw[HE.out];exact⟨rfl,HB.out _⟩
 by_cases h0:nn<0
 ·have HE:Hid (m.value ⟨true,nn⟩=0):=by unfold Hid;rw[HV.out];simp[h0]
  go_enter Tryz.func176,Tryz.ntmps176
  go_wp2
  go_ret
  rw[HE.out];exact⟨rfl,HB.out _⟩
 have hd0:decide (nn<0)=false:=decide_eq_false h0
 by_cases h4:4≤nn
 ·have HE:Hid (m.value ⟨true,nn⟩=0):=by unfold Hid;rw[HV.out];simp[h4]
  go_enter Tryz.func176,Tryz.ntmps176
  go_wp2
  go_ret
  rw[HE.out];exact⟨rfl,HB.out _⟩
 have hd4:decide (4≤nn)=false:=decide_eq_false h4
 have hcs:nn=0∨nn=1∨nn=2∨nn=3:=by omega
 generalize hr0:m.regs.getD 0 0=r0 at *
 have E0:=zAa hr0
 clear hr0
 generalize hr1:m.regs.getD 1 0=r1 at *
 have E1:=zAa hr1
 clear hr1
 generalize hr2:m.regs.getD 2 0=r2 at *
 have E2:=zAa hr2
 clear hr2
 generalize hr3:m.regs.getD 3 0=r3 at *
 have E3:=zAa hr3
 clear hr3
 rcases hcs with rfl | rfl | rfl | rfl
 ·have HE:Hid (m.value ⟨true,0⟩=r0):=E0.out
  clear HV h0 h4 hd0 hd4 E0 E1 E2 E3
  go_enter Tryz.func176,Tryz.ntmps176
  go_wp2
  go_quiet (fail)
  all_goals
   go_wp2
   go_ret
   rw[HE.out]
   exact⟨rfl,((Below.refl _ _).alloc (Nat.le_refl _) _).trans (zAG _ _ _)⟩
 ·have HE:Hid (m.value ⟨true,1⟩=r1):=E1.out
  clear HV h0 h4 hd0 hd4 E0 E1 E2 E3
  go_enter Tryz.func176,Tryz.ntmps176
  go_wp2
  go_quiet (fail)
  all_goals
   go_wp2
   go_ret
   rw[HE.out]
   exact⟨rfl,((Below.refl _ _).alloc (Nat.le_refl _) _).trans (zAG _ _ _)⟩
 ·have HE:Hid (m.value ⟨true,2⟩=r2):=E2.out
  clear HV h0 h4 hd0 hd4 E0 E1 E2 E3
  go_enter Tryz.func176,Tryz.ntmps176
  go_wp2
  go_quiet (fail)
  all_goals
   go_wp2
   go_ret
   rw[HE.out]
   exact⟨rfl,((Below.refl _ _).alloc (Nat.le_refl _) _).trans (zAG _ _ _)⟩
 ·have HE:Hid (m.value ⟨true,3⟩=r3):=E3.out
  clear HV h0 h4 hd0 hd4 E0 E1 E2 E3
  go_enter Tryz.func176,Tryz.ntmps176
  go_wp2
  go_quiet (fail)
  all_goals
   go_wp2
   go_ret
   rw[HE.out]
   exact⟨rfl,((Below.refl _ _).alloc (Nat.le_refl _) _).trans (zAG _ _ _)⟩
theorem zBj (B g:Nat) (m:Q.Mach) (ev:Value) (rg:Bool) (nn:Int) (w:World) (h:MachIn w B g m ev) :
  Calls Tryz.prog 175 #[.pointer (some ⟨g,0,none⟩),.agg #[.bool rg,.int .i64 nn]] w fun e w'=>e=.returned (.int .u64 (m.madeOf ⟨rg,nn⟩:Nat))∧Below w.heap.size w w':=by
 have hg:=h.lt
 obtain⟨c0,c1,c2,c3,c4,c5,c6,c7,c8,c9,c10,c11,c12,c13,cf⟩:=h.facts
 clear c0 c1 c2 c3 c4 c5 c6 c11 c12 c13 h
 have HV:Hid (m.madeOf ⟨rg,nn⟩=if rg then (if nn<0∨4≤nn then 0 else m.made.getD nn.toNat 0) else 0):=rfl
 have HB:Hid (∀ o,Below w.heap.size w (w.alloc o)):=fun o=>(Below.refl _ _).alloc (Nat.le_refl _) _
 have HB2:Hid (∀ o,Below w.heap.size w (w.alloc o).drew):=fun o=>((Below.refl _ _).alloc (Nat.le_refl _) _).drew
 cases rg
 ·have HE:Hid (m.madeOf ⟨false,nn⟩=0):=by unfold Hid;rw[HV.out];rfl
  go_enter Tryz.func175,Tryz.ntmps175
  go_wp2
  go_ret
  rw[HE.out];exact⟨rfl,HB.out _⟩
 by_cases h0:nn<0
 ·have HE:Hid (m.madeOf ⟨true,nn⟩=0):=by unfold Hid;rw[HV.out];simp[h0]
  go_enter Tryz.func175,Tryz.ntmps175
  go_wp2
  go_ret
  rw[HE.out];exact⟨rfl,HB.out _⟩
 have hd0:decide (nn<0)=false:=decide_eq_false h0
 by_cases h4:4≤nn
 ·have HE:Hid (m.madeOf ⟨true,nn⟩=0):=by unfold Hid;rw[HV.out];simp[h4]
  go_enter Tryz.func175,Tryz.ntmps175
  go_wp2
  go_ret
  rw[HE.out];exact⟨rfl,HB.out _⟩
 have hd4:decide (4≤nn)=false:=decide_eq_false h4
 have hcs:nn=0∨nn=1∨nn=2∨nn=3:=by omega
 generalize hr0:m.made.getD 0 0=r0 at *
 have E0:=zAa hr0
 clear hr0
 generalize hr1:m.made.getD 1 0=r1 at *
 have E1:=zAa hr1
 clear hr1
 generalize hr2:m.made.getD 2 0=r2 at *
 have E2:=zAa hr2
 clear hr2
 generalize hr3:m.made.getD 3 0=r3 at *
 have E3:=zAa hr3
 clear hr3
 rcases hcs with rfl | rfl | rfl | rfl
 ·have HE:Hid (m.madeOf ⟨true,0⟩=r0):=E0.out
  clear HV h0 h4 hd0 hd4 E0 E1 E2 E3
  go_enter Tryz.func175,Tryz.ntmps175
  go_wp2
  go_quiet (fail)
  all_goals
   go_wp2
   go_ret
   rw[HE.out]
   exact⟨rfl,((Below.refl _ _).alloc (Nat.le_refl _) _).trans (zAG _ _ _)⟩
 ·have HE:Hid (m.madeOf ⟨true,1⟩=r1):=E1.out
  clear HV h0 h4 hd0 hd4 E0 E1 E2 E3
  go_enter Tryz.func175,Tryz.ntmps175
  go_wp2
  go_quiet (fail)
  all_goals
   go_wp2
   go_ret
   rw[HE.out]
   exact⟨rfl,((Below.refl _ _).alloc (Nat.le_refl _) _).trans (zAG _ _ _)⟩
 ·have HE:Hid (m.madeOf ⟨true,2⟩=r2):=E2.out
  clear HV h0 h4 hd0 hd4 E0 E1 E2 E3
  go_enter Tryz.func175,Tryz.ntmps175
  go_wp2
  go_quiet (fail)
  all_goals
   go_wp2
   go_ret
   rw[HE.out]
   exact⟨rfl,((Below.refl _ _).alloc (Nat.le_refl _) _).trans (zAG _ _ _)⟩
 ·have HE:Hid (m.madeOf ⟨true,3⟩=r3):=E3.out
  clear HV h0 h4 hd0 hd4 E0 E1 E2 E3
  go_enter Tryz.func175,Tryz.ntmps175
  go_wp2
  go_quiet (fail)
  all_goals
   go_wp2
   go_ret
   rw[HE.out]
   exact⟨rfl,((Below.refl _ _).alloc (Nat.le_refl _) _).trans (zAG _ _ _)⟩
theorem zDQ (B g:Nat) (m:Q.Mach) (ev:Value) (i:Nat) (w:World) (h:MachIn w B g m ev) (hi:i<m.events.length) (hn:m.events.length<10000) :
  Calls Tryz.prog 212 #[.pointer (some ⟨g,0,none⟩),.int .i64 (i:Int)] w fun e w'=>e=.returned (.int .i64 (m.valueOf i))∧w'=w:=by
 have hg:=h.lt
 obtain⟨a,c,rfl,ha⟩:=h.form
 obtain⟨b,rfl,hb⟩:=ha (by omega)
 obtain⟨c0,c1,c2,c3,c4,c5,c6,c7,c8,c9,c10,c11,c12,c13,cf⟩:=h.facts
 have hr:w.rangeAt b (i*10) (zAe (Q.ev m.events i)).toList:=by
  rw[zEm m.events i hi]
  intro j v hv
  have hj:j<10:=(List.getElem?_eq_some_iff.1 hv).1
  rw[h.evs.cellAt _ (by omega),zEl m.events i hi j hj];exact hv
 have cv:=hr 4 (.int .i64 (Q.ev m.events i).value) rfl
 have HE:Hid (m.valueOf i=(Q.ev m.events i).value):=rfl
 generalize (Q.ev m.events i).value=x at *
 have hil:(i:Int)<(m.events.length:Int):=by omega
 clear c0 c1 c2 c3 c4 c5 c6 c7 c8 c9 c10 c11 c12 h hr ha
 go_enter Tryz.func212,Tryz.ntmps212
 go_wp2
 go_ret
 rw[HE.out];exact⟨rfl,rfl⟩
theorem MachIn.set {w w':World} {B g:Nat} {m m':Q.Mach} {ev:Value} (h:MachIn w B g m ev) (hb:w'.heap[g]?=some (.cells (zCU m' ev) 177 (0,0))) (hk:∀ k,k≠g→w'.heap[k]?=w.heap[k]?) (he:m'.events=m.events) (hr:m'.regs.length=4) (hm:m'.made.length=4):MachIn w' B g m' ev:=by
 refine⟨hb,?_,h.ge,hr,hm⟩
 rw[he]
 refine zAd h.evs (fun k e=>hk k ?_)
 intro ek
 subst ek
 rcases h.evs.2 with ⟨e1,_⟩ | ⟨g',cap,cur,e1,_,hh,_⟩
 ·rw[e1] at e;simp[Value.ownBlock] at e
 ·rw[e1] at e;simp[Value.ownBlock] at e
  subst e
  rw[h.box] at hh;simp at hh
theorem MFrame.set {w:World} {g:Nat} (ev:Value) (l:List (Nat × Value)):MFrame w (l.foldl (fun w p=>w.setCell ⟨g,p.1,none⟩ p.2) w) g ev ev:=by
 induction l generalizing w with
 | nil=>exact MFrame.of (Below.refl _ _) g ev
 | cons p q ih =>
  refine MFrame.trans (w1:=w.setCell ⟨g,p.1,none⟩ p.2) ⟨rfl,rfl,rfl,by simp,fun k _ hk _=>Below.heap_setCell _ _ _ _ hk,Or.inl rfl⟩ ih
theorem zCV (B g:Nat) (m:Q.Mach) (ev:Value) (d v:Int) (s:Nat) (w:World) (h:MachIn w B g m ev) :
  Calls Tryz.prog 202 #[.pointer (some ⟨g,0,none⟩),.int .i64 d,.int .i64 v,.int .u64 (s:Nat)] w fun e w'=>e=.returned (.tuple #[])∧MachIn w' B g (m.give d v s) ev∧MFrame w w' g ev ev:=by
 have hg:=h.lt
 have H:=zAa h
 obtain⟨c0,c1,c2,c3,c4,c5,c6,c7,c8,c9,c10,c11,c12,c13,cf⟩:=h.facts
 by_cases h0:d<0
 ·have HE:Hid (m.give d v s=m):=by unfold Hid Q.Mach.give;rw[if_pos (Or.inl h0)]
  clear c0 c1 c2 c3 c4 c5 c6 c7 c8 c9 c10 c11 c12 c13 h
  go_enter Tryz.func202,Tryz.ntmps202
  go_wp2
  (try simp only[Exit.inBlock,Exit.then]);refine bodyPost_ret (results_none rfl _ _ _) rfl ?_
  rw[HE.out];exact⟨rfl,H.out,MFrame.of (Below.refl _ _) g ev⟩
 have hd0:decide (d<0)=false:=decide_eq_false h0
 by_cases h4:4≤d
 ·have HE:Hid (m.give d v s=m):=by unfold Hid Q.Mach.give;rw[if_pos (Or.inr h4)]
  clear c0 c1 c2 c3 c4 c5 c6 c7 c8 c9 c10 c11 c12 c13 h
  go_enter Tryz.func202,Tryz.ntmps202
  go_wp2
  (try simp only[Exit.inBlock,Exit.then]);refine bodyPost_ret (results_none rfl _ _ _) rfl ?_
  rw[HE.out];exact⟨rfl,H.out,MFrame.of (Below.refl _ _) g ev⟩
 have hd4:decide (4≤d)=false:=decide_eq_false h4
 have hcs:d=0∨d=1∨d=2∨d=3:=by omega
 obtain⟨th,bl,un,rs,md,ak,br,es⟩:=m
 have h1:=h.lr
 have h2:=h.lm
 obtain⟨r0,r1,r2,r3,rfl⟩:∃ a b c d,rs=[a,b,c,d]:=by
  match rs,h1 with
  | [a,b,c,d],_=>exact⟨a,b,c,d,rfl⟩
 obtain⟨m0,m1,m2,m3,rfl⟩:∃ a b c d,md=[a,b,c,d]:=by
  match md,h2 with
  | [a,b,c,d],_=>exact⟨a,b,c,d,rfl⟩
 have hbx:=h.box
 have HBX:=zAa hbx
 simp only[List.getD_cons_zero,List.getD_cons_succ] at c0 c1 c2 c3 c4 c5 c6 c7 c8 c9 c10 c11 c12 c13
 clear h h1 h2 hbx
 rcases hcs with rfl | rfl | rfl | rfl
 ·clear h0 h4 hd0 hd4
  go_enter Tryz.func202,Tryz.ntmps202
  go_wp2
  go_end0
  have FR:=MFrame.set (w:=w) (g:=g) ev [(3,.int .i64 v),(7,.int .u64 (s:Nat))]
  simp only[List.foldl_cons,List.foldl_nil] at FR
  refine⟨rfl,H.out.set ?_ (fun k hk=>by rw[Below.heap_setCell _ _ _ _ hk,Below.heap_setCell _ _ _ _ hk]) rfl rfl rfl,FR⟩
  rw[zAf (zAf HBX.out _ _)];rfl
 ·clear h0 h4 hd0 hd4
  go_enter Tryz.func202,Tryz.ntmps202
  go_wp2
  go_end0
  have FR:=MFrame.set (w:=w) (g:=g) ev [(4,.int .i64 v),(8,.int .u64 (s:Nat))]
  simp only[List.foldl_cons,List.foldl_nil] at FR
  refine⟨rfl,H.out.set ?_ (fun k hk=>by rw[Below.heap_setCell _ _ _ _ hk,Below.heap_setCell _ _ _ _ hk]) rfl rfl rfl,FR⟩
  rw[zAf (zAf HBX.out _ _)];rfl
 ·clear h0 h4 hd0 hd4
  go_enter Tryz.func202,Tryz.ntmps202
  go_wp2
  go_end0
  have FR:=MFrame.set (w:=w) (g:=g) ev [(5,.int .i64 v),(9,.int .u64 (s:Nat))]
  simp only[List.foldl_cons,List.foldl_nil] at FR
  refine⟨rfl,H.out.set ?_ (fun k hk=>by rw[Below.heap_setCell _ _ _ _ hk,Below.heap_setCell _ _ _ _ hk]) rfl rfl rfl,FR⟩
  rw[zAf (zAf HBX.out _ _)];rfl
 ·clear h0 h4 hd0 hd4
  go_enter Tryz.func202,Tryz.ntmps202
  go_wp2
  go_end0
  have FR:=MFrame.set (w:=w) (g:=g) ev [(6,.int .i64 v),(10,.int .u64 (s:Nat))]
  simp only[List.foldl_cons,List.foldl_nil] at FR
  refine⟨rfl,H.out.set ?_ (fun k hk=>by rw[Below.heap_setCell _ _ _ _ hk,Below.heap_setCell _ _ _ _ hk]) rfl rfl rfl,FR⟩
  rw[zAf (zAf HBX.out _ _)];rfl
theorem zCD (B g:Nat) (m:Q.Mach) (ev:Value) (d:Int) (r:Nat) (w:World) (h:MachIn w B g m ev) (hr:r<m.events.length) (hn:m.events.length<10000) :
  Calls Tryz.prog 195 #[.pointer (some ⟨g,0,none⟩),.int .i64 d,.int .i64 (r:Int)] w fun e w'=>e=.returned (.tuple #[])∧MachIn w' B g (m.giveRead d r) ev∧MFrame w w' g ev ev:=by
 have H:=zAa h
 clear h
 go_enter Tryz.func195,Tryz.ntmps195
 go_wp2_with (first
  | (go_at_call 212;refine (zDQ B g m ev r _ H.out hr hn).mono ?_;rintro e w' ⟨rfl,hw'⟩;have hw':=hw'.symm;subst hw')
  | (go_at_call 159;refine (zEv _ _).mono ?_;rintro e w' ⟨rfl,hw'⟩;have hw':=hw'.symm;subst hw')
  | (go_at_call 202;refine (zCV B g m ev d _ _ _ H.out).mono ?_;rintro e w1 ⟨rfl,hm,hfr⟩))
 go_end0
 exact⟨rfl,hm,hfr⟩
theorem zBN {wx:World} {b:Nat} {t:TypeId} {cur:Array Value} (new:List Value) (h:wx.heap[b]?=some (.cells cur t (0,0))) (hs:cur.size=new.length):(wx.setCells b 0 new).heap[b]?=some (.cells new.toArray t (0,0))∧(∀ k,k≠b→(wx.setCells b 0 new).heap[k]?=wx.heap[k]?)∧∀ (w:World) (B:Nat),B≤b→Below B w wx→Below B w (wx.setCells b 0 new):=by
 refine⟨?_,fun k hk=>zBx _ _ _ _ _ hk,fun w B hB hb=>Below.setCells hB _ _ _ hb⟩
 have h1:=zBv new 0 wx cur h
 have h2:=zDo cur new.toArray (by simpa using hs)
 rw[h1]
 simp only[List.toList_toArray] at h2
 rw[h2]
theorem zAQ {w:World} {g:Nat} {c0 c1 c2 c3 c4 c5 c6 c7 c8 c9:Value} {t:TypeId} (h:w.heap[g]?=some (.cells #[c0,c1,c2,c3,c4,c5,c6,c7,c8,c9] t (0,0))) :
  w.cell? ⟨g,0,none⟩=some c0∧w.cell? ⟨g,1,none⟩=some c1∧w.cell? ⟨g,2,none⟩=some c2∧w.cell? ⟨g,3,none⟩=some c3∧w.cell? ⟨g,4,none⟩=some c4∧w.cell? ⟨g,5,none⟩=some c5∧w.cell? ⟨g,6,none⟩=some c6∧w.cell? ⟨g,7,none⟩=some c7∧w.cell? ⟨g,8,none⟩=some c8∧w.cell? ⟨g,9,none⟩=some c9∧(∀ j,w.frozen? ⟨g,j,none⟩=false)∧g<w.heap.size:=by
 refine⟨?_,?_,?_,?_,?_,?_,?_,?_,?_,?_,fun j=>?_,(Array.getElem?_eq_some_iff.1 h).1⟩<;>simp[World.cell?,World.frozen?,h]
end Go.Proofs.YtgceflcbckjjiaaGreatDoor
