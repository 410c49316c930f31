import Derived.Test.YtkmebkbpfmoeaaaGreatE11
set_option linter.unusedVariables false
set_option linter.unusedSimpArgs false
set_option maxHeartbeats 12800000
namespace Go.Proofs.YtkmebkbpfmoeaaaGreat
open Go Go.RowKit
set_option maxRecDepth 100000
def zCB (m:Q.Mach) (ev:Value):Array Value:=#[.int .i64 m.thread,.int .i64 m.block,.int .i64 (m.unread:Nat),.int .i64 (m.regs.getD 0 0),.int .i64 (m.regs.getD 1 0),.int .i64 (m.regs.getD 2 0),.int .i64 (m.regs.getD 3 0),
 .int .u64 (m.made.getD 0 0:Nat),.int .u64 (m.made.getD 1 0:Nat),.int .u64 (m.made.getD 2 0:Nat),.int .u64 (m.made.getD 3 0:Nat),.int .u64 (m.asked:Nat),.int .i64 (m.bars:Nat),ev]
structure MachIn (w:World) (B g:Nat) (m:Q.Mach) (ev:Value):Prop where
 box:w.heap[g]?=some (.cells (zCB m ev) 147 (0,0))
 evs:w.ownsRow B 129 10 ev m.events.length (zAM m.events)
 ge:B≤g
 lr:m.regs.length=4
 lm:m.made.length=4
theorem MachIn.lt {w:World} {B g:Nat} {m:Q.Mach} {ev:Value} (h:MachIn w B g m ev):g<w.heap.size:=(Array.getElem?_eq_some_iff.1 h.box).1
theorem MachIn.facts {w:World} {B g:Nat} {m:Q.Mach} {ev:Value} (h:MachIn w B g m ev):w.cell? ⟨g,0,none⟩=some (.int .i64 m.thread)∧w.cell? ⟨g,1,none⟩=some (.int .i64 m.block)∧w.cell? ⟨g,2,none⟩=some (.int .i64 (m.unread:Nat))∧w.cell? ⟨g,3,none⟩=some (.int .i64 (m.regs.getD 0 0))∧w.cell? ⟨g,4,none⟩=some (.int .i64 (m.regs.getD 1 0))∧w.cell? ⟨g,5,none⟩=some (.int .i64 (m.regs.getD 2 0))∧w.cell? ⟨g,6,none⟩=some (.int .i64 (m.regs.getD 3 0)) ∧
  w.cell? ⟨g,7,none⟩=some (.int .u64 (m.made.getD 0 0:Nat))∧w.cell? ⟨g,8,none⟩=some (.int .u64 (m.made.getD 1 0:Nat))∧w.cell? ⟨g,9,none⟩=some (.int .u64 (m.made.getD 2 0:Nat))∧w.cell? ⟨g,10,none⟩=some (.int .u64 (m.made.getD 3 0:Nat))∧w.cell? ⟨g,11,none⟩=some (.int .u64 (m.asked:Nat))∧w.cell? ⟨g,12,none⟩=some (.int .i64 (m.bars:Nat))∧w.cell? ⟨g,13,none⟩=some ev∧(∀ j,w.frozen? ⟨g,j,none⟩=false):=by
 have hb:=h.box
 refine⟨?_,?_,?_,?_,?_,?_,?_,?_,?_,?_,?_,?_,?_,?_,fun j=>?_⟩<;>simp[World.cell?,World.frozen?,hb,zCB]
theorem MachIn.form {w:World} {B g:Nat} {m:Q.Mach} {ev:Value} (h:MachIn w B g m ev):∃ a c,ev=.slice a m.events.length c∧(0<m.events.length→∃ b,a=some ⟨b,0,none⟩∧b<w.heap.size):=by
 rcases h.evs.2 with ⟨e,h0⟩ | ⟨k,c,cur,e,_⟩
 ·exact⟨none,0,by rw[e,h0],fun h=>by omega⟩
 ·exact⟨_,c,e,fun _=>⟨k,rfl,(h.evs.lt k (by rw[e];rfl)).2⟩⟩
theorem MachIn.below {w w':World} {B g:Nat} {m:Q.Mach} {ev:Value} (h:MachIn w B g m ev) (hb:Below w.heap.size w w'):MachIn w' B g m ev :=
 ⟨(hb.block g h.lt).trans h.box,zAd h.evs (fun k e=>hb.block k (h.evs.lt k e).2),h.ge,h.lr,h.lm⟩
structure MFrame (w w':World) (g:Nat) (ev ev':Value):Prop where
 os:w'.os=w.os
 tape:w'.tape=w.tape
 output:w'.output=w.output
 size:w.heap.size≤w'.heap.size
 block:∀ k,k<w.heap.size→k≠g→ev.ownBlock≠some k→w'.heap[k]?=w.heap[k]?
 own:ev'.ownBlock=ev.ownBlock∨∃ b,ev'.ownBlock=some b∧w.heap.size≤b
theorem MFrame.of {w w':World} (hb:Below w.heap.size w w') (g:Nat) (ev:Value):MFrame w w' g ev ev:=⟨hb.os,hb.tape,hb.output,hb.size,fun k hk _ _=>hb.block k hk,Or.inl rfl⟩
theorem MFrame.trans {w w1 w2:World} {g:Nat} {a b c:Value} (h:MFrame w w1 g a b) (k:MFrame w1 w2 g b c):MFrame w w2 g a c:=by
 refine⟨k.os.trans h.os,k.tape.trans h.tape,k.output.trans h.output,Nat.le_trans h.size k.size,fun i hi hg ha=>?_,?_⟩
 ·refine (k.block i (by have:=h.size;omega) hg ?_).trans (h.block i hi hg ha)
  rcases h.own with e | ⟨q,e,hq⟩
  ·rw[e];exact ha
  ·rw[e];intro e2;simp at e2;omega
 ·rcases k.own with e | ⟨q,e,hq⟩
  ·rcases h.own with e2 | ⟨q2,e2,hq2⟩
   ·exact Or.inl (e.trans e2)
   ·exact Or.inr ⟨q2,e.trans e2,hq2⟩
  ·exact Or.inr ⟨q,e,by have:=h.size;omega⟩
theorem MFrame.below {w w':World} {B g:Nat} {m:Q.Mach} {ev ev':Value} (h:MFrame w w' g ev ev') (hm:MachIn w B g m ev) (hB:B≤w.heap.size):Below B w w' :=
 ⟨h.os,h.tape,h.output,h.size,fun k hk=>h.block k (by omega) (by have:=hm.ge;omega) (fun e=>by have:=(hm.evs.lt k e).1;omega)⟩
theorem MFrame.stm {w w':World} {B g:Nat} {m:Q.Mach} {ev ev':Value} (h:MFrame w w' g ev ev') (hm:MachIn w B g m ev) {b:Nat} {st:P.Stm} (hs:zAv w b st):zAv w' b st:=by
 refine hs.of_block (h.block b hs.lt ?_ ?_)
 ·intro e;have h1:=hm.box;unfold zAv at hs;rw[← e,hs] at h1;simp at h1
 ·intro e
  rcases hm.evs.2 with ⟨e1,_⟩ | ⟨g',cap,cur,e1,_,hh,_⟩
  ·rw[e1] at e;simp[Value.ownBlock] at e
  ·rw[e1] at e;simp[Value.ownBlock] at e
   subst e
   unfold zAv at hs;rw[hs] at hh;simp at hh
theorem zCa (B g:Nat) (m:Q.Mach) (ev:Value) (rg:Bool) (nn:Int) (w:World) (h:MachIn w B g m ev) :
  Calls Tryz.prog 120 #[.pointer (some ⟨g,0,none⟩),.agg #[.bool rg,.int .i64 nn]] w fun e w'=>e=.returned (.int .i64 (m.value ⟨rg,nn⟩))∧Below w.heap.size w w':=by
 have hg:=h.lt
 obtain⟨c0,c1,c2,c3,c4,c5,c6,c7,c8,c9,c10,c11,c12,c13,cf⟩:=h.facts
 clear c0 c1 c2 c7 c8 c9 c10 c11 c12 c13 h
 have HV:Hid (m.value ⟨rg,nn⟩=if rg then (if nn<0∨4≤nn then 0 else m.regs.getD nn.toNat 0) else nn):=rfl
 have HB:Hid (∀ o,Below w.heap.size w (w.alloc o)):=fun o=>(Below.refl _ _).alloc (Nat.le_refl _) _
 have HB2:Hid (∀ o,Below w.heap.size w (w.alloc o).drew):=fun o=>((Below.refl _ _).alloc (Nat.le_refl _) _).drew
 cases rg
 ·have HE:Hid (m.value ⟨false,nn⟩=nn):=by unfold Hid;rw[HV.out];rfl
  go_enter Tryz.func120,Tryz.ntmps120
  go_wp2
  go_ret
  rw[HE.out];exact⟨rfl,HB.out _⟩
 by_cases h0:nn<0
 ·have HE:Hid (m.value ⟨true,nn⟩=0):=by unfold Hid;rw[HV.out];simp[h0]
  go_enter Tryz.func120,Tryz.ntmps120
  go_wp2
  go_ret
  rw[HE.out];exact⟨rfl,HB.out _⟩
 have hd0:decide (nn<0)=false:=decide_eq_false h0
 by_cases h4:4≤nn
 ·have HE:Hid (m.value ⟨true,nn⟩=0):=by unfold Hid;rw[HV.out];simp[h4]
  go_enter Tryz.func120,Tryz.ntmps120
  go_wp2
  go_ret
  rw[HE.out];exact⟨rfl,HB.out _⟩
 have hd4:decide (4≤nn)=false:=decide_eq_false h4
 have hcs:nn=0∨nn=1∨nn=2∨nn=3:=by omega
 generalize hr0:m.regs.getD 0 0=r0 at *
 have E0:=zAa hr0
 clear hr0
 generalize hr1:m.regs.getD 1 0=r1 at *
 have E1:=zAa hr1
 clear hr1
 generalize hr2:m.regs.getD 2 0=r2 at *
 have E2:=zAa hr2
 clear hr2
 generalize hr3:m.regs.getD 3 0=r3 at *
 have E3:=zAa hr3
 clear hr3
 rcases hcs with rfl | rfl | rfl | rfl
 ·have HE:Hid (m.value ⟨true,0⟩=r0):=E0.out
  clear HV h0 h4 hd0 hd4 E0 E1 E2 E3
  go_enter Tryz.func120,Tryz.ntmps120
  go_wp2
  go_quiet (fail)
  all_goals
   go_wp2
   go_ret
   rw[HE.out]
   exact⟨rfl,((Below.refl _ _).alloc (Nat.le_refl _) _).trans (zAD _ _ _)⟩
 ·have HE:Hid (m.value ⟨true,1⟩=r1):=E1.out
  clear HV h0 h4 hd0 hd4 E0 E1 E2 E3
  go_enter Tryz.func120,Tryz.ntmps120
  go_wp2
  go_quiet (fail)
  all_goals
   go_wp2
   go_ret
   rw[HE.out]
   exact⟨rfl,((Below.refl _ _).alloc (Nat.le_refl _) _).trans (zAD _ _ _)⟩
 ·have HE:Hid (m.value ⟨true,2⟩=r2):=E2.out
  clear HV h0 h4 hd0 hd4 E0 E1 E2 E3
  go_enter Tryz.func120,Tryz.ntmps120
  go_wp2
  go_quiet (fail)
  all_goals
   go_wp2
   go_ret
   rw[HE.out]
   exact⟨rfl,((Below.refl _ _).alloc (Nat.le_refl _) _).trans (zAD _ _ _)⟩
 ·have HE:Hid (m.value ⟨true,3⟩=r3):=E3.out
  clear HV h0 h4 hd0 hd4 E0 E1 E2 E3
  go_enter Tryz.func120,Tryz.ntmps120
  go_wp2
  go_quiet (fail)
  all_goals
   go_wp2
   go_ret
   rw[HE.out]
   exact⟨rfl,((Below.refl _ _).alloc (Nat.le_refl _) _).trans (zAD _ _ _)⟩
theorem zBe (B g:Nat) (m:Q.Mach) (ev:Value) (rg:Bool) (nn:Int) (w:World) (h:MachIn w B g m ev) :
  Calls Tryz.prog 119 #[.pointer (some ⟨g,0,none⟩),.agg #[.bool rg,.int .i64 nn]] w fun e w'=>e=.returned (.int .u64 (m.madeOf ⟨rg,nn⟩:Nat))∧Below w.heap.size w w':=by
 have hg:=h.lt
 obtain⟨c0,c1,c2,c3,c4,c5,c6,c7,c8,c9,c10,c11,c12,c13,cf⟩:=h.facts
 clear c0 c1 c2 c3 c4 c5 c6 c11 c12 c13 h
 have HV:Hid (m.madeOf ⟨rg,nn⟩=if rg then (if nn<0∨4≤nn then 0 else m.made.getD nn.toNat 0) else 0):=rfl
 have HB:Hid (∀ o,Below w.heap.size w (w.alloc o)):=fun o=>(Below.refl _ _).alloc (Nat.le_refl _) _
 have HB2:Hid (∀ o,Below w.heap.size w (w.alloc o).drew):=fun o=>((Below.refl _ _).alloc (Nat.le_refl _) _).drew
 cases rg
 ·have HE:Hid (m.madeOf ⟨false,nn⟩=0):=by unfold Hid;rw[HV.out];rfl
  go_enter Tryz.func119,Tryz.ntmps119
  go_wp2
  go_ret
  rw[HE.out];exact⟨rfl,HB.out _⟩
 by_cases h0:nn<0
 ·have HE:Hid (m.madeOf ⟨true,nn⟩=0):=by unfold Hid;rw[HV.out];simp[h0]
  go_enter Tryz.func119,Tryz.ntmps119
  go_wp2
  go_ret
  rw[HE.out];exact⟨rfl,HB.out _⟩
 have hd0:decide (nn<0)=false:=decide_eq_false h0
 by_cases h4:4≤nn
 ·have HE:Hid (m.madeOf ⟨true,nn⟩=0):=by unfold Hid;rw[HV.out];simp[h4]
  go_enter Tryz.func119,Tryz.ntmps119
  go_wp2
  go_ret
  rw[HE.out];exact⟨rfl,HB.out _⟩
 have hd4:decide (4≤nn)=false:=decide_eq_false h4
 have hcs:nn=0∨nn=1∨nn=2∨nn=3:=by omega
 generalize hr0:m.made.getD 0 0=r0 at *
 have E0:=zAa hr0
 clear hr0
 generalize hr1:m.made.getD 1 0=r1 at *
 have E1:=zAa hr1
 clear hr1
 generalize hr2:m.made.getD 2 0=r2 at *
 have E2:=zAa hr2
 clear hr2
 generalize hr3:m.made.getD 3 0=r3 at *
 have E3:=zAa hr3
 clear hr3
 rcases hcs with rfl | rfl | rfl | rfl
 ·have HE:Hid (m.madeOf ⟨true,0⟩=r0):=E0.out
  clear HV h0 h4 hd0 hd4 E0 E1 E2 E3
  go_enter Tryz.func119,Tryz.ntmps119
  go_wp2
  go_quiet (fail)
  all_goals
   go_wp2
   go_ret
   rw[HE.out]
   exact⟨rfl,((Below.refl _ _).alloc (Nat.le_refl _) _).trans (zAD _ _ _)⟩
 ·have HE:Hid (m.madeOf ⟨true,1⟩=r1):=E1.out
  clear HV h0 h4 hd0 hd4 E0 E1 E2 E3
  go_enter Tryz.func119,Tryz.ntmps119
  go_wp2
  go_quiet (fail)
  all_goals
   go_wp2
   go_ret
   rw[HE.out]
   exact⟨rfl,((Below.refl _ _).alloc (Nat.le_refl _) _).trans (zAD _ _ _)⟩
 ·have HE:Hid (m.madeOf ⟨true,2⟩=r2):=E2.out
  clear HV h0 h4 hd0 hd4 E0 E1 E2 E3
  go_enter Tryz.func119,Tryz.ntmps119
  go_wp2
  go_quiet (fail)
  all_goals
   go_wp2
   go_ret
   rw[HE.out]
   exact⟨rfl,((Below.refl _ _).alloc (Nat.le_refl _) _).trans (zAD _ _ _)⟩
 ·have HE:Hid (m.madeOf ⟨true,3⟩=r3):=E3.out
  clear HV h0 h4 hd0 hd4 E0 E1 E2 E3
  go_enter Tryz.func119,Tryz.ntmps119
  go_wp2
  go_quiet (fail)
  all_goals
   go_wp2
   go_ret
   rw[HE.out]
   exact⟨rfl,((Below.refl _ _).alloc (Nat.le_refl _) _).trans (zAD _ _ _)⟩
theorem zDv (B g:Nat) (m:Q.Mach) (ev:Value) (i:Nat) (w:World) (h:MachIn w B g m ev) (hi:i<m.events.length) (hn:m.events.length<10000) :
  Calls Tryz.prog 146 #[.pointer (some ⟨g,0,none⟩),.int .i64 (i:Int)] w fun e w'=>e=.returned (.int .i64 (m.valueOf i))∧w'=w:=by
 have hg:=h.lt
 obtain⟨a,c,rfl,ha⟩:=h.form
 obtain⟨b,rfl,hb⟩:=ha (by omega)
 obtain⟨c0,c1,c2,c3,c4,c5,c6,c7,c8,c9,c10,c11,c12,c13,cf⟩:=h.facts
 have hr:w.rangeAt b (i*10) (zAb (Q.ev m.events i)).toList:=by
  rw[zDR m.events i hi]
  intro j v hv
  have hj:j<10:=(List.getElem?_eq_some_iff.1 hv).1
  rw[h.evs.cellAt _ (by omega),zDQ m.events i hi j hj];exact hv
 have cv:=hr 4 (.int .i64 (Q.ev m.events i).value) rfl
 have HE:Hid (m.valueOf i=(Q.ev m.events i).value):=rfl
 generalize (Q.ev m.events i).value=x at *
 have hil:(i:Int)<(m.events.length:Int):=by omega
 clear c0 c1 c2 c3 c4 c5 c6 c7 c8 c9 c10 c11 c12 h hr ha
 go_enter Tryz.func146,Tryz.ntmps146
 go_wp2
 go_ret
 rw[HE.out];exact⟨rfl,rfl⟩
theorem MachIn.set {w w':World} {B g:Nat} {m m':Q.Mach} {ev:Value} (h:MachIn w B g m ev) (hb:w'.heap[g]?=some (.cells (zCB m' ev) 147 (0,0))) (hk:∀ k,k≠g→w'.heap[k]?=w.heap[k]?) (he:m'.events=m.events) (hr:m'.regs.length=4) (hm:m'.made.length=4):MachIn w' B g m' ev:=by
 refine⟨hb,?_,h.ge,hr,hm⟩
 rw[he]
 refine zAd h.evs (fun k e=>hk k ?_)
 intro ek
 subst ek
 rcases h.evs.2 with ⟨e1,_⟩ | ⟨g',cap,cur,e1,_,hh,_⟩
 ·rw[e1] at e;simp[Value.ownBlock] at e
 ·rw[e1] at e;simp[Value.ownBlock] at e
  subst e
  rw[h.box] at hh;simp at hh
theorem MFrame.set {w:World} {g:Nat} (ev:Value) (l:List (Nat × Value)):MFrame w (l.foldl (fun w p=>w.setCell ⟨g,p.1,none⟩ p.2) w) g ev ev:=by
 induction l generalizing w with
 | nil=>exact MFrame.of (Below.refl _ _) g ev
 | cons p q ih =>
  refine MFrame.trans (w1:=w.setCell ⟨g,p.1,none⟩ p.2) ⟨rfl,rfl,rfl,by simp,fun k _ hk _=>Below.heap_setCell _ _ _ _ hk,Or.inl rfl⟩ ih
theorem zCC (B g:Nat) (m:Q.Mach) (ev:Value) (d v:Int) (s:Nat) (w:World) (h:MachIn w B g m ev) :
  Calls Tryz.prog 142 #[.pointer (some ⟨g,0,none⟩),.int .i64 d,.int .i64 v,.int .u64 (s:Nat)] w fun e w'=>e=.returned (.tuple #[])∧MachIn w' B g (m.give d v s) ev∧MFrame w w' g ev ev:=by
 have hg:=h.lt
 have H:=zAa h
 obtain⟨c0,c1,c2,c3,c4,c5,c6,c7,c8,c9,c10,c11,c12,c13,cf⟩:=h.facts
 by_cases h0:d<0
 ·have HE:Hid (m.give d v s=m):=by unfold Hid Q.Mach.give;rw[if_pos (Or.inl h0)]
  clear c0 c1 c2 c3 c4 c5 c6 c7 c8 c9 c10 c11 c12 c13 h
  go_enter Tryz.func142,Tryz.ntmps142
  go_wp2
  (try simp only[Exit.inBlock,Exit.then]);refine bodyPost_ret (results_none rfl _ _ _) rfl ?_
  rw[HE.out];exact⟨rfl,H.out,MFrame.of (Below.refl _ _) g ev⟩
 have hd0:decide (d<0)=false:=decide_eq_false h0
 by_cases h4:4≤d
 ·have HE:Hid (m.give d v s=m):=by unfold Hid Q.Mach.give;rw[if_pos (Or.inr h4)]
  clear c0 c1 c2 c3 c4 c5 c6 c7 c8 c9 c10 c11 c12 c13 h
  go_enter Tryz.func142,Tryz.ntmps142
  go_wp2
  (try simp only[Exit.inBlock,Exit.then]);refine bodyPost_ret (results_none rfl _ _ _) rfl ?_
  rw[HE.out];exact⟨rfl,H.out,MFrame.of (Below.refl _ _) g ev⟩
 have hd4:decide (4≤d)=false:=decide_eq_false h4
 have hcs:d=0∨d=1∨d=2∨d=3:=by omega
 obtain⟨th,bl,un,rs,md,ak,br,es⟩:=m
 have h1:=h.lr
 have h2:=h.lm
 obtain⟨r0,r1,r2,r3,rfl⟩:∃ a b c d,rs=[a,b,c,d]:=by
  match rs,h1 with
  | [a,b,c,d],_=>exact⟨a,b,c,d,rfl⟩
 obtain⟨m0,m1,m2,m3,rfl⟩:∃ a b c d,md=[a,b,c,d]:=by
  match md,h2 with
  | [a,b,c,d],_=>exact⟨a,b,c,d,rfl⟩
 have hbx:=h.box
 have HBX:=zAa hbx
 simp only[List.getD_cons_zero,List.getD_cons_succ] at c0 c1 c2 c3 c4 c5 c6 c7 c8 c9 c10 c11 c12 c13
 clear h h1 h2 hbx
 rcases hcs with rfl | rfl | rfl | rfl
 ·clear h0 h4 hd0 hd4
  go_enter Tryz.func142,Tryz.ntmps142
  go_wp2
  go_end0
  have FR:=MFrame.set (w:=w) (g:=g) ev [(3,.int .i64 v),(7,.int .u64 (s:Nat))]
  simp only[List.foldl_cons,List.foldl_nil] at FR
  refine⟨rfl,H.out.set ?_ (fun k hk=>by rw[Below.heap_setCell _ _ _ _ hk,Below.heap_setCell _ _ _ _ hk]) rfl rfl rfl,FR⟩
  rw[zAf (zAf HBX.out _ _)];rfl
 ·clear h0 h4 hd0 hd4
  go_enter Tryz.func142,Tryz.ntmps142
  go_wp2
  go_end0
  have FR:=MFrame.set (w:=w) (g:=g) ev [(4,.int .i64 v),(8,.int .u64 (s:Nat))]
  simp only[List.foldl_cons,List.foldl_nil] at FR
  refine⟨rfl,H.out.set ?_ (fun k hk=>by rw[Below.heap_setCell _ _ _ _ hk,Below.heap_setCell _ _ _ _ hk]) rfl rfl rfl,FR⟩
  rw[zAf (zAf HBX.out _ _)];rfl
 ·clear h0 h4 hd0 hd4
  go_enter Tryz.func142,Tryz.ntmps142
  go_wp2
  go_end0
  have FR:=MFrame.set (w:=w) (g:=g) ev [(5,.int .i64 v),(9,.int .u64 (s:Nat))]
  simp only[List.foldl_cons,List.foldl_nil] at FR
  refine⟨rfl,H.out.set ?_ (fun k hk=>by rw[Below.heap_setCell _ _ _ _ hk,Below.heap_setCell _ _ _ _ hk]) rfl rfl rfl,FR⟩
  rw[zAf (zAf HBX.out _ _)];rfl
 ·clear h0 h4 hd0 hd4
  go_enter Tryz.func142,Tryz.ntmps142
  go_wp2
  go_end0
  have FR:=MFrame.set (w:=w) (g:=g) ev [(6,.int .i64 v),(10,.int .u64 (s:Nat))]
  simp only[List.foldl_cons,List.foldl_nil] at FR
  refine⟨rfl,H.out.set ?_ (fun k hk=>by rw[Below.heap_setCell _ _ _ _ hk,Below.heap_setCell _ _ _ _ hk]) rfl rfl rfl,FR⟩
  rw[zAf (zAf HBX.out _ _)];rfl
theorem zCm (B g:Nat) (m:Q.Mach) (ev:Value) (d:Int) (r:Nat) (w:World) (h:MachIn w B g m ev) (hr:r<m.events.length) (hn:m.events.length<10000) :
  Calls Tryz.prog 135 #[.pointer (some ⟨g,0,none⟩),.int .i64 d,.int .i64 (r:Int)] w fun e w'=>e=.returned (.tuple #[])∧MachIn w' B g (m.giveRead d r) ev∧MFrame w w' g ev ev:=by
 have H:=zAa h
 clear h
 go_enter Tryz.func135,Tryz.ntmps135
 go_wp2_with (first
  | (go_at_call 146;refine (zDv B g m ev r _ H.out hr hn).mono ?_;rintro e w' ⟨rfl,hw'⟩;have hw':=hw'.symm;subst hw')
  | (go_at_call 107;refine (zEa _ _).mono ?_;rintro e w' ⟨rfl,hw'⟩;have hw':=hw'.symm;subst hw')
  | (go_at_call 142;refine (zCC B g m ev d _ _ _ H.out).mono ?_;rintro e w1 ⟨rfl,hm,hfr⟩))
 go_end0
 exact⟨rfl,hm,hfr⟩
namespace Q
def mixI (f:Nat→Int) (n k:Nat):List Int:=(List.range n).map fun j=>if j<k then f j else 0
theorem zJF (f:Nat→Int) (n:Nat):mixI f n 0=List.replicate n 0:=by
 unfold mixI
 apply List.ext_getElem<;>simp
theorem zJx (f:Nat→Int) (n k:Nat):(mixI f n k).length=n:=by simp[mixI]
theorem zJG (f:Nat→Int) (n:Nat):mixI f n n=(List.range n).map f:=by
 unfold mixI
 apply List.map_congr_left
 intro j hj;simp at hj;simp[hj]
theorem zJX (f:Nat→Int) (n k:Nat) (h:k<n):(mixI f n k).set k (f k)=mixI f n (k+1):=by
 unfold mixI
 apply List.ext_getElem
 ·simp
 ·intro i h1 h2
  simp at h2
  rw[List.getElem_set]
  by_cases hk:k=i
  ·subst hk;simp
  ·by_cases hlt:i<k
   ·simp[hk,hlt,show i<k+1 by omega]
   ·simp[hk,hlt,show ¬ i<k+1 by omega]
end Q
theorem zAq.rowI {w:World} {g:Nat} {l:List Int} (h:zAq w g l) (c:Nat):zBF w (.slice (some ⟨g,0,none⟩) l.length c) l:=Or.inr ⟨g,c,rfl,fun i hi=>h.cell i hi,h.lt⟩
structure Ticked (w w':World) (gc o gd:Nat):Prop where
 os:w'.os=w.os
 tape:w'.tape=w.tape
 output:w'.output=w.output
 size:w'.heap.size=w.heap.size
 block:∀ k,k≠gc→k≠gd→w'.heap[k]?=w.heap[k]?
 cell:∀ j,j≠o+2→w'.cell? ⟨gc,j,none⟩=w.cell? ⟨gc,j,none⟩
 froz:∀ j,w'.frozen? ⟨gc,j,none⟩=w.frozen? ⟨gc,j,none⟩
 shape:∀ c t fr,w.heap[gc]?=some (.cells c t fr)→∃ c',w'.heap[gc]?=some (.cells c' t fr)∧c'.size=c.size
theorem Ticked.below {w w':World} {gc o gd B:Nat} (h:Ticked w w' gc o gd) (h1:B≤gc) (h2:B≤gd):Below B w w' :=
 ⟨h.os,h.tape,h.output,by rw[h.size];exact Nat.le_refl _,fun k hk=>h.block k (by omega) (by omega)⟩
def zDf (w:World) (gc o gb gd:Nat) (bs ds:List Int) (rest:List (List Int)):Prop :=
 ∃ begun,CtrAt w gc o gb gd bs ds begun∧((begun=false∧ds=Q.zeros bs.length∧rest=Q.zIz bs)∨(begun=true∧Q.DigOk bs ds∧rest=Q.afterD bs ds))
theorem CtrAt.of {w w':World} {gc o gb gd:Nat} {bs ds:List Int} {b:Bool} (h:CtrAt w gc o gb gd bs ds b) (hc:∀ j,w'.cell? ⟨gc,j,none⟩=w.cell? ⟨gc,j,none⟩) (hf:∀ j,w'.frozen? ⟨gc,j,none⟩=w.frozen? ⟨gc,j,none⟩) (hs:gc<w'.heap.size)
  (hb:w'.heap[gb]?=w.heap[gb]?) (hd:w'.heap[gd]?=w.heap[gd]?):CtrAt w' gc o gb gd bs ds b :=
 ⟨(hc _).trans h.c0,(hc _).trans h.c1,(hc _).trans h.c2,fun j=>(hf j).trans (h.free j),hs,h.bases.of_block hb,h.digits.of_block hd,h.cd,h.cb,h.bd,h.len⟩
theorem CtrAt.below {w w':World} {gc o gb gd:Nat} {bs ds:List Int} {b:Bool} (h:CtrAt w gc o gb gd bs ds b) (hb:Below w.heap.size w w'):CtrAt w' gc o gb gd bs ds b :=
 h.of (fun _=>hb.cell h.lt) (fun _=>hb.frozen h.lt) (Nat.lt_of_lt_of_le h.lt hb.size) (hb.block _ h.bases.lt) (hb.block _ h.digits.lt)
theorem zDf.below {w w':World} {gc o gb gd:Nat} {bs ds:List Int} {rest:List (List Int)} (h:zDf w gc o gb gd bs ds rest) (hb:Below w.heap.size w w'):zDf w' gc o gb gd bs ds rest:=by
 obtain⟨b,h1,h2⟩:=h
 exact⟨b,h1.below hb,h2⟩
theorem zDf.ctr {w:World} {gc o gb gd:Nat} {bs ds:List Int} {rest:List (List Int)} (h:zDf w gc o gb gd bs ds rest):∃ b,CtrAt w gc o gb gd bs ds b:=by
 obtain⟨b,h1,_⟩:=h
 exact⟨b,h1⟩
theorem zFg (gc o gb gd:Nat) (bs ds:List Int) (rest:List (List Int)) (w:World) (h:zDf w gc o gb gd bs ds rest) (hn:bs.length<10000) (hb:∀ b∈bs,b<1000000000) :
  Calls Tryz.prog 80 #[.pointer (some ⟨gc,o,none⟩)] w fun e w'=>((rest=[]∧e=.returned (.bool false))∨∃ r q,rest=r::q∧e=.returned (.bool true)∧zDf w' gc o gb gd bs r q∧Q.DigOk bs r)∧Ticked w w' gc o gd:=by
 obtain⟨b,hc,h2⟩:=h
 rcases h2 with ⟨rfl,hz,hr⟩ | ⟨rfl,hd,hr⟩
 ·refine (zFV gc o gb gd bs ds w hc hn).mono ?_
  rintro e w' ⟨rfl,rfl⟩
  have T:Ticked w (w.setCell ⟨gc,o+2,none⟩ (.bool true)) gc o gd:=⟨rfl,rfl,rfl,by simp,fun k h1 _=>Below.heap_setCell _ _ _ _ h1,fun j hj=>World.cell?_setCell_other _ _ _ _ (by first | (simp;done) | (simp;omega)),fun j=>World.frozen?_setCell _ _ _ _,fun c t fr hcc=>⟨_,zAf hcc _ _,by simp⟩⟩
  refine⟨?_,T⟩
  cases hs:Q.someB bs
  ·exact Or.inl ⟨by rw[hr,Q.digits_none hs],rfl⟩
  ·have hok:=Q.digOk_zeros hs
   refine Or.inr ⟨_,_,by rw[hr,Q.digits_first hs],rfl,⟨true,?_,Or.inr ⟨rfl,hok,rfl⟩⟩,hok⟩
   rw[← hz]
   exact⟨(T.cell _ (by omega)).trans hc.c0,(T.cell _ (by omega)).trans hc.c1,World.cell?_setCell_same _ _ _ hc.c2,fun j=>(T.froz j).trans (hc.free j),by rw[T.size];exact hc.lt,hc.bases.of_block (T.block _ (fun e=>hc.cb e.symm) hc.bd),hc.digits.of_block (Below.heap_setCell _ _ _ _ (fun e=>hc.cd e.symm)),hc.cd,hc.cb,hc.bd,hc.len⟩
 ·have hrng:∀ d∈ds,0≤d∧d<1000000000:=fun d hdm=>by
   obtain⟨i,hi,rfl⟩:=List.getElem_of_mem hdm
   have h1:=hd.rng i hi
   have h3:i<bs.length:=by rw[← hd.len];exact hi
   have h4:bs.getD i 0<1000000000:=by rw[zAH bs i h3];exact hb _ (List.getElem_mem h3)
   omega
  refine (zGB gc o gb gd bs ds w hc hn hrng).mono ?_
  rintro e w' ⟨rfl,hi,hg,hsz⟩
  have hcg:gc≠gd:=hc.cd
  have T:Ticked w w' gc o gd:=⟨hg.os,hg.tape,hg.output,hsz,fun k h1 h2=>by
   by_cases hk:k<w.heap.size
   ·exact hg.block k hk (by simpa using h2)
   ·rw[Array.getElem?_eq_none (by omega),Array.getElem?_eq_none (by omega)],fun j _=>World.cell?_of_block (w:=w) (a:=⟨gc,j,none⟩) (hg.block gc hc.lt (by simpa using hcg)),fun j=>World.frozen?_of_block (w:=w) (a:=⟨gc,j,none⟩) (hg.block gc hc.lt (by simpa using hcg)),fun c t fr hcc=>⟨c,(hg.block gc hc.lt (by simpa using hcg)).trans hcc,rfl⟩⟩
  refine⟨?_,T⟩
  cases hs:(Q.inc bs ds).2
  ·exact Or.inl ⟨by rw[hr,Q.after_none hd hs],rfl⟩
  ·have hok:=Q.digOk_inc hd hs
   refine Or.inr ⟨_,_,by rw[hr,Q.after_step hd hs],rfl,⟨true,?_,Or.inr ⟨rfl,hok,rfl⟩⟩,hok⟩
   have hcell:∀ j,w'.cell? ⟨gc,j,none⟩=w.cell? ⟨gc,j,none⟩:=fun j=>World.cell?_of_block (w:=w) (a:=⟨gc,j,none⟩) (hg.block gc hc.lt (by simpa using hcg))
   refine⟨(hcell _).trans hc.c0,?_,(hcell _).trans hc.c2,fun j=>(T.froz j).trans (hc.free j),by rw[T.size];exact hc.lt,hc.bases.of_block (T.block _ (fun e=>hc.cb e.symm) hc.bd),hi,hc.cd,hc.cb,hc.bd,hok.len⟩
   rw[hok.len,← hc.len];exact (hcell _).trans hc.c1
def zHT (w w':World) (bs:List Int) (v1 v2 v3:Value):Prop:=∃ gb gd,v1=.slice (some ⟨gb,0,none⟩) bs.length bs.length∧v2=.slice (some ⟨gd,0,none⟩) bs.length bs.length∧v3=.bool false∧zAq w' gb bs∧zAq w' gd (Q.zeros bs.length)∧w.heap.size≤gb∧w.heap.size≤gd∧gb≠gd
theorem zBf {fn:Func} {R:Ending→World→Prop} {a:Act} {w:World} {p:Tmp} {t:TypeId} {d:TypeDesc} (g:Nat) (cs:Array Value) (hres:fn.results=#[.cell p t])
  (hu:Tryz.prog.underlying t=some d) (hdr:d.isRow=true) (hi:(Tryz.prog.info? t).map (·.size)=some cs.size)
  (hp:a.tmps.getD p undef=.pointer (some ⟨g,0,none⟩)) (h:w.heap[g]?=some (.cells cs t (0,0))) (hd:a.defers=[]) (hR:R (.returned (.agg cs)) w):bodyPost Tryz.prog fn R .ret a w:=by
 refine bodyPost_ret (v:=.agg cs) ?_ hd hR
 rw[zCz hres,hp]
 have:(asAddr (.pointer (some ⟨g,0,none⟩))).run Tryz.prog w=.ok ⟨g,0,none⟩ w:=rfl
 rw[this,Result.andThen_ok,zBk w g _ _ _ h _ hu hdr hi]
theorem zIe {w W0 w1:World} {t:TypeId} {u0 u1 u2 s0 s1 s2:Value} (hw:Below w.heap.size w W0) (hb:Below W0.heap.size W0 w1) (hk:W0.heap[w.heap.size]?=some (.cells #[u0,u1,u2] t (0,0))) :
  (((w1.setCell ⟨w.heap.size,0,none⟩ s0).setCell ⟨w.heap.size,1,none⟩ s1).setCell ⟨w.heap.size,2,none⟩ s2).heap[w.heap.size]?=some (.cells #[s0,s1,s2] t (0,0))∧(∀ k,k≠w.heap.size→(((w1.setCell ⟨w.heap.size,0,none⟩ s0).setCell ⟨w.heap.size,1,none⟩ s1).setCell ⟨w.heap.size,2,none⟩ s2).heap[k]?=w1.heap[k]?)∧(((w1.setCell ⟨w.heap.size,0,none⟩ s0).setCell ⟨w.heap.size,1,none⟩ s1).setCell ⟨w.heap.size,2,none⟩ s2).heap.size=w1.heap.size∧Below w.heap.size w (((w1.setCell ⟨w.heap.size,0,none⟩ s0).setCell ⟨w.heap.size,1,none⟩ s1).setCell ⟨w.heap.size,2,none⟩ s2):=by
 have h1:w1.heap[w.heap.size]?=some (.cells #[u0,u1,u2] t (0,0)):=(hb.block _ (Array.getElem?_eq_some_iff.1 hk).1).trans hk
 refine⟨?_,fun k hk=>?_,by simp,?_⟩
 ·have e0:=zAf h1 0 s0
  have e1:=zAf e0 1 s1
  have e2:=zAf e1 2 s2
  rw[e2];rfl
 ·rw[Below.heap_setCell _ _ _ _ hk,Below.heap_setCell _ _ _ _ hk,Below.heap_setCell _ _ _ _ hk]
 ·exact ((((zAo hw (Nat.le_refl _) hb)).setCell (p:=⟨w.heap.size,0,none⟩) (Nat.le_refl _) _).setCell (p:=⟨w.heap.size,1,none⟩) (Nat.le_refl _) _).setCell (p:=⟨w.heap.size,2,none⟩) (Nat.le_refl _) _
theorem zBS (v:Value) (bs:List Int) (w:World) (h:zBF w v bs) (hn:bs.length<10000) :
  Calls Tryz.prog 66 #[v] w fun e w'=>∃ v1 v2 v3,e=.returned (.agg #[v1,v2,v3])∧zHT w w' bs v1 v2 v3∧Below w.heap.size w w':=by
 have hmk:∀ w,(Instr.makeSlice 31 (.int .i64 (bs.length:Int)) (.int .i64 (bs.length:Int))).run Tryz.prog w=.ok (.slice (some ⟨w.heap.size,0,none⟩) bs.length bs.length) (w.alloc (.cells (madeCells #[.int .i64 0] bs.length) 3)) :=
  fun w=>run_make_row' 31 3 (.int .i64 0) 8 Tryz.underlying31 Tryz.infoInt rfl .i64 .i64 bs.length (by omega) (by omega) w
 have HM:Hid (madeCells #[.int .i64 0] bs.length=zAL (Q.zeros bs.length)):=zBZ bs.length
 obtain⟨va,vc,rfl,hva⟩:=h.form
 have HV:=zAa h
 clear hva h
 go_enter Tryz.func66,Tryz.ntmps66
 go_upto_region 1 with fail
 obtain⟨k0,hsz,hbw⟩:=zBw w #[.slice none 0 0,.slice none 0 0,.bool false] 69
 have BW0:=zAa hbw
 have HV0:=zAa (HV.out.below hbw)
 generalize hE:w.alloc (.cells #[.slice none 0 0,.slice none 0 0,.bool false] 69)=W0 at *
 have c0:=ceL k0 0 _ rfl
 have c1:=ceL k0 1 _ rfl
 have c2:=ceL k0 2 _ rfl
 have f0:∀ j,W0.frozen? ⟨w.heap.size,j,none⟩=false:=fun j=>by simp[World.frozen?,k0]
 have l0:w.heap.size<W0.heap.size:=by omega
 have K0:=zAa k0
 clear hE k0 hbw
 go_region_with (go_at_call 88;refine (zCq _ bs _ (HV0.out.below (by first | exact (Below.refl _ _).drew | exact ((Below.refl _ _).alloc (Nat.le_refl _) _).drew | exact ((Below.refl _ _).drew).alloc (by simp) _)) hn).mono ?_;rintro e w1 ⟨g1,rfl,hg1,hge1,hb1⟩;have B1:Hid (Below W0.heap.size W0 w1):=(by first | exact ((Below.refl W0.heap.size W0).drew).trans (hb1.mono (by simp)) | exact (((Below.refl W0.heap.size W0).alloc (Nat.le_refl _) _).drew).trans (hb1.mono (by simp)) | exact (((Below.refl W0.heap.size W0).drew).alloc (by simp) _).trans (hb1.mono (by simp)));have p0:=cfL B1.out l0 c0;have p1:=cfL B1.out l0 c1;have p2:=cfL B1.out l0 c2;have pf:∀ j,w1.frozen? ⟨w.heap.size,j,none⟩=false:=(fun j=>(B1.out.frozen (p:=⟨w.heap.size,j,none⟩) l0).trans (f0 j));have lw:=Nat.lt_of_lt_of_le l0 B1.out.size;have G1:=zAa hg1;have HB1:=zAa hb1;simp at hge1)
 ·obtain⟨q0,q1,q2,q3⟩:=zIe (s0:=.slice (some ⟨g1,0,none⟩) bs.length bs.length) (s1:=.slice (some ⟨w1.heap.size,0,none⟩) bs.length bs.length) (s2:=.bool false) BW0.out B1.out K0.out
  have hg1':=G1.out.lt
  have hgw:w.heap.size<g1:=by omega
  go_wp2
  refine zBf (p:=2) w.heap.size _ (by kernel_rfl) Tryz.underlying69 rfl (by kernel_rfl) rfl (by rw[Below.heap_alloc _ _ _ (by omega)];exact q0) rfl ⟨_,_,_,rfl,⟨g1,w1.heap.size,rfl,rfl,rfl,?_,?_,by omega,by omega,by omega⟩,q3.alloc (by omega) _⟩
  ·unfold zAq;rw[Below.heap_alloc _ _ _ (by omega),q1 g1 (by omega)];exact G1.out
  ·unfold zAq;rw[← HM.out];exact Eq.trans (congrArg (fun k=>(World.alloc _ _).heap[k]?) q2.symm) (heap_alloc_new _ _)
 ·obtain⟨q0,q1,q2,q3⟩:=zIe (s0:=.slice (some ⟨g1,0,none⟩) bs.length bs.length) (s1:=.slice (some ⟨w.heap.size+1,0,none⟩) bs.length bs.length) (s2:=.bool false) BW0.out B1.out K0.out
  have hg1':=G1.out.lt
  have hz1:=HB1.out.size
  have hbk:=HB1.out.block (w.heap.size+1) (by simp;omega)
  simp at hz1
  go_wp2
  refine zBf (p:=2) w.heap.size _ (by kernel_rfl) Tryz.underlying69 rfl (by kernel_rfl) rfl (by exact q0) rfl ⟨_,_,_,rfl,⟨g1,w.heap.size+1,rfl,rfl,rfl,?_,?_,by omega,by omega,by omega⟩,q3⟩
  ·unfold zAq;rw[q1 g1 (by omega)];exact G1.out
  ·unfold zAq;rw[q1 _ (by omega),hbk,← HM.out,← hsz];exact heap_alloc_new W0 _
theorem zBC {wx:World} {b:Nat} {t:TypeId} {cur:Array Value} (new:List Value) (h:wx.heap[b]?=some (.cells cur t (0,0))) (hs:cur.size=new.length):(wx.setCells b 0 new).heap[b]?=some (.cells new.toArray t (0,0))∧(∀ k,k≠b→(wx.setCells b 0 new).heap[k]?=wx.heap[k]?)∧∀ (w:World) (B:Nat),B≤b→Below B w wx→Below B w (wx.setCells b 0 new):=by
 refine⟨?_,fun k hk=>zBt _ _ _ _ _ hk,fun w B hB hb=>Below.setCells hB _ _ _ hb⟩
 have h1:=zBr new 0 wx cur h
 have h2:=zCV cur new.toArray (by simpa using hs)
 rw[h1]
 simp only[List.toList_toArray] at h2
 rw[h2]
theorem zAN {w:World} {g:Nat} {c0 c1 c2 c3 c4 c5 c6 c7 c8 c9:Value} {t:TypeId} (h:w.heap[g]?=some (.cells #[c0,c1,c2,c3,c4,c5,c6,c7,c8,c9] t (0,0))) :
  w.cell? ⟨g,0,none⟩=some c0∧w.cell? ⟨g,1,none⟩=some c1∧w.cell? ⟨g,2,none⟩=some c2∧w.cell? ⟨g,3,none⟩=some c3∧w.cell? ⟨g,4,none⟩=some c4∧w.cell? ⟨g,5,none⟩=some c5∧w.cell? ⟨g,6,none⟩=some c6∧w.cell? ⟨g,7,none⟩=some c7∧w.cell? ⟨g,8,none⟩=some c8∧w.cell? ⟨g,9,none⟩=some c9∧(∀ j,w.frozen? ⟨g,j,none⟩=false)∧g<w.heap.size:=by
 refine⟨?_,?_,?_,?_,?_,?_,?_,?_,?_,?_,fun j=>?_,(Array.getElem?_eq_some_iff.1 h).1⟩<;>simp[World.cell?,World.frozen?,h]
theorem zAy {w:World} {o:Obj} {p:Addr} (h:p.block<w.heap.size):(w.alloc o).cell? p=w.cell? p:=by simp only[World.cell?,Below.heap_alloc _ _ _ h]
theorem zCZ {w w':World} {t:TypeId} (hb:Below (w.alloc (.cells #[.slice none 0 0] t)).heap.size (w.alloc (.cells #[.slice none 0 0] t)) w'):w'.cell? ⟨w.heap.size,0,none⟩=some (.slice none 0 0)∧w'.frozen? ⟨w.heap.size,0,none⟩=false∧w'.heap[w.heap.size]?=some (.cells #[.slice none 0 0] t (0,0)):=by
 have h:=heap_alloc_new w (.cells #[.slice none 0 0] t)
 obtain⟨c,f,l⟩:=zAn h
 exact⟨(hb.cell (p:=⟨w.heap.size,0,none⟩) l).trans c,(hb.frozen (p:=⟨w.heap.size,0,none⟩) l).trans f,(hb.block _ l).trans h⟩
theorem zHr {w w':World} {g:Nat} {t:TypeId} (hb:Below w.heap.size w w') (h:w.cell? ⟨g,0,none⟩=some (.slice none 0 0)∧w.frozen? ⟨g,0,none⟩=false∧w.heap[g]?=some (.cells #[.slice none 0 0] t (0,0))):w'.cell? ⟨g,0,none⟩=some (.slice none 0 0)∧w'.frozen? ⟨g,0,none⟩=false∧w'.heap[g]?=some (.cells #[.slice none 0 0] t (0,0)):=by
 have l:=World.block_lt_of_cell? w _ h.1
 exact⟨(hb.cell (p:=⟨g,0,none⟩) l).trans h.1,(hb.frozen (p:=⟨g,0,none⟩) l).trans h.2.1,(hb.block g l).trans h.2.2⟩
theorem zFD {W w:World} {q n:Nat} {l:List Nat} (hb:Below W.heap.size W w) (hq:RelAt w q n l):∃ gx qx,Value.pointer (some ⟨w.heap.size,0,none⟩)=.pointer (some ⟨gx,0,none⟩)∧(w.alloc (.cells #[.slice (some ⟨q,0,none⟩) n n] 64)).heap[gx]?=some (.cells #[.slice (some ⟨qx,0,none⟩) n n] 64 (0,0))∧RelAt (w.alloc (.cells #[.slice (some ⟨q,0,none⟩) n n] 64)) qx n l∧Below W.heap.size W (w.alloc (.cells #[.slice (some ⟨q,0,none⟩) n n] 64))∧W.heap.size≤gx :=
 ⟨w.heap.size,q,rfl,heap_alloc_new w _,hq.below ((Below.refl _ _).alloc (Nat.le_refl _) _),hb.alloc hb.size _,hb.size⟩
theorem zDl {W w:World} {q n g:Nat} {l:List Nat} (hb:Below W.heap.size W w) (hge:W.heap.size≤g) (hq:RelAt w q n l) (hx:w.heap[g]?=some (.cells #[.slice none 0 0] 64 (0,0))):∃ gx qx,Value.pointer (some ⟨g,0,none⟩)=.pointer (some ⟨gx,0,none⟩)∧(w.setCell ⟨g,0,none⟩ (.slice (some ⟨q,0,none⟩) n n)).heap[gx]?=some (.cells #[.slice (some ⟨qx,0,none⟩) n n] 64 (0,0))∧RelAt (w.setCell ⟨g,0,none⟩ (.slice (some ⟨q,0,none⟩) n n)) qx n l∧Below W.heap.size W (w.setCell ⟨g,0,none⟩ (.slice (some ⟨q,0,none⟩) n n))∧W.heap.size≤gx:=by
 have hne:q≠g:=fun e=>by
  have:=hq.at_
  unfold zAp at this
  rw[e,hx] at this;simp at this
 refine⟨g,q,rfl,?_,⟨hq.at_.of_block (Below.heap_setCell _ _ _ _ hne),hq.len,hq.fits⟩,hb.setCell (p:=⟨g,0,none⟩) hge _,hge⟩
 rw[zAf hx];rfl
end Go.Proofs.YtkmebkbpfmoeaaaGreat
