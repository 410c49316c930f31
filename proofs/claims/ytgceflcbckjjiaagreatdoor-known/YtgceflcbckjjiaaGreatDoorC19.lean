import Derived.Test.YtgceflcbckjjiaaGreatDoorC15
set_option linter.unusedVariables false
set_option linter.unusedSimpArgs false
set_option maxHeartbeats 12800000
namespace Go.Proofs.YtgceflcbckjjiaaGreatDoor
open Go Go.RowKit
set_option maxRecDepth 100000
def zDx (m:Q.Mach) (ev:Value):Array Value:=#[.int .i64 m.thread,.int .i64 m.block,.int .i64 (m.unread:Nat),.int .i64 (m.regs.getD 0 0),.int .i64 (m.regs.getD 1 0),.int .i64 (m.regs.getD 2 0),.int .i64 (m.regs.getD 3 0),
 .int .u64 (m.made.getD 0 0:Nat),.int .u64 (m.made.getD 1 0:Nat),.int .u64 (m.made.getD 2 0:Nat),.int .u64 (m.made.getD 3 0:Nat),.int .u64 (m.asked:Nat),.int .i64 (m.bars:Nat),ev]
structure MachIn (w:World) (B g:Nat) (m:Q.Mach) (ev:Value):Prop where
 box:w.heap[g]?=some (.cells (zDx m ev) 177 (0,0))
 evs:w.ownsRow B 158 10 ev m.events.length (zAP m.events)
 ge:B≤g
 lr:m.regs.length=4
 lm:m.made.length=4
theorem MachIn.lt {w:World} {B g:Nat} {m:Q.Mach} {ev:Value} (h:MachIn w B g m ev):g<w.heap.size:=(Array.getElem?_eq_some_iff.1 h.box).1
theorem MachIn.facts {w:World} {B g:Nat} {m:Q.Mach} {ev:Value} (h:MachIn w B g m ev):w.cell? ⟨g,0,none⟩=some (.int .i64 m.thread)∧w.cell? ⟨g,1,none⟩=some (.int .i64 m.block)∧w.cell? ⟨g,2,none⟩=some (.int .i64 (m.unread:Nat))∧w.cell? ⟨g,3,none⟩=some (.int .i64 (m.regs.getD 0 0))∧w.cell? ⟨g,4,none⟩=some (.int .i64 (m.regs.getD 1 0))∧w.cell? ⟨g,5,none⟩=some (.int .i64 (m.regs.getD 2 0))∧w.cell? ⟨g,6,none⟩=some (.int .i64 (m.regs.getD 3 0)) ∧
  w.cell? ⟨g,7,none⟩=some (.int .u64 (m.made.getD 0 0:Nat))∧w.cell? ⟨g,8,none⟩=some (.int .u64 (m.made.getD 1 0:Nat))∧w.cell? ⟨g,9,none⟩=some (.int .u64 (m.made.getD 2 0:Nat))∧w.cell? ⟨g,10,none⟩=some (.int .u64 (m.made.getD 3 0:Nat))∧w.cell? ⟨g,11,none⟩=some (.int .u64 (m.asked:Nat))∧w.cell? ⟨g,12,none⟩=some (.int .i64 (m.bars:Nat))∧w.cell? ⟨g,13,none⟩=some ev∧(∀ j,w.frozen? ⟨g,j,none⟩=false):=by
 have hb:=h.box
 refine⟨?_,?_,?_,?_,?_,?_,?_,?_,?_,?_,?_,?_,?_,?_,fun j=>?_⟩<;>simp[World.cell?,World.frozen?,hb,zDx]
theorem MachIn.form {w:World} {B g:Nat} {m:Q.Mach} {ev:Value} (h:MachIn w B g m ev):∃ a c,ev=.slice a m.events.length c∧(0<m.events.length→∃ b,a=some ⟨b,0,none⟩∧b<w.heap.size):=by
 rcases h.evs.2 with ⟨e,h0⟩ | ⟨k,c,cur,e,_⟩
 ·exact⟨none,0,by rw[e,h0],fun h=>by omega⟩
 ·exact⟨_,c,e,fun _=>⟨k,rfl,(h.evs.lt k (by rw[e];rfl)).2⟩⟩
theorem MachIn.below {w w':World} {B g:Nat} {m:Q.Mach} {ev:Value} (h:MachIn w B g m ev) (hb:Below w.heap.size w w'):MachIn w' B g m ev :=
 ⟨(hb.block g h.lt).trans h.box,zAc h.evs (fun k e=>hb.block k (h.evs.lt k e).2),h.ge,h.lr,h.lm⟩
structure MFrame (w w':World) (g:Nat) (ev ev':Value):Prop where
 os:w'.os=w.os
 tape:w'.tape=w.tape
 output:w'.output=w.output
 size:w.heap.size≤w'.heap.size
 block:∀ k,k<w.heap.size→k≠g→ev.ownBlock≠some k→w'.heap[k]?=w.heap[k]?
 own:ev'.ownBlock=ev.ownBlock∨∃ b,ev'.ownBlock=some b∧w.heap.size≤b
theorem MFrame.of {w w':World} (hb:Below w.heap.size w w') (g:Nat) (ev:Value):MFrame w w' g ev ev:=⟨hb.os,hb.tape,hb.output,hb.size,fun k hk _ _=>hb.block k hk,Or.inl rfl⟩
theorem MFrame.trans {w w1 w2:World} {g:Nat} {a b c:Value} (h:MFrame w w1 g a b) (k:MFrame w1 w2 g b c):MFrame w w2 g a c:=by
 refine⟨k.os.trans h.os,k.tape.trans h.tape,k.output.trans h.output,Nat.le_trans h.size k.size,fun i hi hg ha=>?_,?_⟩
 ·refine (k.block i (by have:=h.size;omega) hg ?_).trans (h.block i hi hg ha)
  rcases h.own with e | ⟨q,e,hq⟩
  ·rw[e];exact ha
  ·rw[e];intro e2;simp at e2;omega
 ·rcases k.own with e | ⟨q,e,hq⟩
  ·rcases h.own with e2 | ⟨q2,e2,hq2⟩
   ·exact Or.inl (e.trans e2)
   ·exact Or.inr ⟨q2,e.trans e2,hq2⟩
  ·exact Or.inr ⟨q,e,by have:=h.size;omega⟩
theorem MFrame.below {w w':World} {B g:Nat} {m:Q.Mach} {ev ev':Value} (h:MFrame w w' g ev ev') (hm:MachIn w B g m ev) (hB:B≤w.heap.size):Below B w w' :=
 ⟨h.os,h.tape,h.output,h.size,fun k hk=>h.block k (by omega) (by have:=hm.ge;omega) (fun e=>by have:=(hm.evs.lt k e).1;omega)⟩
theorem MFrame.stm {w w':World} {B g:Nat} {m:Q.Mach} {ev ev':Value} (h:MFrame w w' g ev ev') (hm:MachIn w B g m ev) {b:Nat} {st:P.Stm} (hs:zAv w b st):zAv w' b st:=by
 refine hs.of_block (h.block b hs.lt ?_ ?_)
 ·intro e;have h1:=hm.box;unfold zAv at hs;rw[← e,hs] at h1;simp at h1
 ·intro e
  rcases hm.evs.2 with ⟨e1,_⟩ | ⟨g',cap,cur,e1,_,hh,_⟩
  ·rw[e1] at e;simp[Value.ownBlock] at e
  ·rw[e1] at e;simp[Value.ownBlock] at e
   subst e
   unfold zAv at hs;rw[hs] at hh;simp at hh
theorem zCD (B g:Nat) (m:Q.Mach) (ev:Value) (rg:Bool) (nn:Int) (w:World) (h:MachIn w B g m ev) :
  Calls Tryz.prog 176 #[.pointer (some ⟨g,0,none⟩),.agg #[.bool rg,.int .i64 nn]] w fun e w'=>e=.returned (.int .i64 (m.value ⟨rg,nn⟩))∧Below w.heap.size w w':=by
 have hg:=h.lt
 obtain⟨c0,c1,c2,c3,c4,c5,c6,c7,c8,c9,c10,c11,c12,c13,cf⟩:=h.facts
 clear c0 c1 c2 c7 c8 c9 c10 c11 c12 c13 h
 have HV:Hid (m.value ⟨rg,nn⟩=if rg then (if nn<0∨4≤nn then 0 else m.regs.getD nn.toNat 0) else nn):=rfl
 have HB:Hid (∀ o,Below w.heap.size w (w.alloc o)):=fun o=>(Below.refl _ _).alloc (Nat.le_refl _) _
 have HB2:Hid (∀ o,Below w.heap.size w (w.alloc o).drew):=fun o=>((Below.refl _ _).alloc (Nat.le_refl _) _).drew
 cases rg
 ·have HE:Hid (m.value ⟨false,nn⟩=nn):=by unfold Hid;rw[HV.out];rfl
  go_enter Tryz.func176,Tryz.ntmps176
  go_wp2
  go_ret
  rw[HE.out];exact⟨rfl,HB.out _⟩
 by_cases h0:nn<0
 ·have HE:Hid (m.value ⟨true,nn⟩=0):=by unfold Hid;rw[HV.out];simp[h0]
  go_enter Tryz.func176,Tryz.ntmps176
  go_wp2
  go_ret
  rw[HE.out];exact⟨rfl,HB.out _⟩
 have hd0:decide (nn<0)=false:=decide_eq_false h0
 by_cases h4:4≤nn
 ·have HE:Hid (m.value ⟨true,nn⟩=0):=by unfold Hid;rw[HV.out];simp[h4]
  go_enter Tryz.func176,Tryz.ntmps176
  go_wp2
  go_ret
  rw[HE.out];exact⟨rfl,HB.out _⟩
 have hd4:decide (4≤nn)=false:=decide_eq_false h4
 have hcs:nn=0∨nn=1∨nn=2∨nn=3:=by omega
 generalize hr0:m.regs.getD 0 0=r0 at *
 have E0:=zAa hr0
 clear hr0
 generalize hr1:m.regs.getD 1 0=r1 at *
 have E1:=zAa hr1
 clear hr1
 generalize hr2:m.regs.getD 2 0=r2 at *
 have E2:=zAa hr2
 clear hr2
 generalize hr3:m.regs.getD 3 0=r3 at *
 have E3:=zAa hr3
 clear hr3
 rcases hcs with rfl | rfl | rfl | rfl
 ·have HE:Hid (m.value ⟨true,0⟩=r0):=E0.out
  clear HV h0 h4 hd0 hd4 E0 E1 E2 E3
  go_enter Tryz.func176,Tryz.ntmps176
  go_wp2
  go_quiet (fail)
  all_goals
   go_wp2
   go_ret
   rw[HE.out]
   exact⟨rfl,((Below.refl _ _).alloc (Nat.le_refl _) _).trans (zAG _ _ _)⟩
 ·have HE:Hid (m.value ⟨true,1⟩=r1):=E1.out
  clear HV h0 h4 hd0 hd4 E0 E1 E2 E3
  go_enter Tryz.func176,Tryz.ntmps176
  go_wp2
  go_quiet (fail)
  all_goals
   go_wp2
   go_ret
   rw[HE.out]
   exact⟨rfl,((Below.refl _ _).alloc (Nat.le_refl _) _).trans (zAG _ _ _)⟩
 ·have HE:Hid (m.value ⟨true,2⟩=r2):=E2.out
  clear HV h0 h4 hd0 hd4 E0 E1 E2 E3
  go_enter Tryz.func176,Tryz.ntmps176
  go_wp2
  go_quiet (fail)
  all_goals
   go_wp2
   go_ret
   rw[HE.out]
   exact⟨rfl,((Below.refl _ _).alloc (Nat.le_refl _) _).trans (zAG _ _ _)⟩
 ·have HE:Hid (m.value ⟨true,3⟩=r3):=E3.out
  clear HV h0 h4 hd0 hd4 E0 E1 E2 E3
  go_enter Tryz.func176,Tryz.ntmps176
  go_wp2
  go_quiet (fail)
  all_goals
   go_wp2
   go_ret
   rw[HE.out]
   exact⟨rfl,((Below.refl _ _).alloc (Nat.le_refl _) _).trans (zAG _ _ _)⟩
theorem zBl (B g:Nat) (m:Q.Mach) (ev:Value) (rg:Bool) (nn:Int) (w:World) (h:MachIn w B g m ev) :
  Calls Tryz.prog 175 #[.pointer (some ⟨g,0,none⟩),.agg #[.bool rg,.int .i64 nn]] w fun e w'=>e=.returned (.int .u64 (m.madeOf ⟨rg,nn⟩:Nat))∧Below w.heap.size w w':=by
 have hg:=h.lt
 obtain⟨c0,c1,c2,c3,c4,c5,c6,c7,c8,c9,c10,c11,c12,c13,cf⟩:=h.facts
 clear c0 c1 c2 c3 c4 c5 c6 c11 c12 c13 h
 have HV:Hid (m.madeOf ⟨rg,nn⟩=if rg then (if nn<0∨4≤nn then 0 else m.made.getD nn.toNat 0) else 0):=rfl
 have HB:Hid (∀ o,Below w.heap.size w (w.alloc o)):=fun o=>(Below.refl _ _).alloc (Nat.le_refl _) _
 have HB2:Hid (∀ o,Below w.heap.size w (w.alloc o).drew):=fun o=>((Below.refl _ _).alloc (Nat.le_refl _) _).drew
 cases rg
 ·have HE:Hid (m.madeOf ⟨false,nn⟩=0):=by unfold Hid;rw[HV.out];rfl
  go_enter Tryz.func175,Tryz.ntmps175
  go_wp2
  go_ret
  rw[HE.out];exact⟨rfl,HB.out _⟩
 by_cases h0:nn<0
 ·have HE:Hid (m.madeOf ⟨true,nn⟩=0):=by unfold Hid;rw[HV.out];simp[h0]
  go_enter Tryz.func175,Tryz.ntmps175
  go_wp2
  go_ret
  rw[HE.out];exact⟨rfl,HB.out _⟩
 have hd0:decide (nn<0)=false:=decide_eq_false h0
 by_cases h4:4≤nn
 ·have HE:Hid (m.madeOf ⟨true,nn⟩=0):=by unfold Hid;rw[HV.out];simp[h4]
  go_enter Tryz.func175,Tryz.ntmps175
  go_wp2
  go_ret
  rw[HE.out];exact⟨rfl,HB.out _⟩
 have hd4:decide (4≤nn)=false:=decide_eq_false h4
 have hcs:nn=0∨nn=1∨nn=2∨nn=3:=by omega
 generalize hr0:m.made.getD 0 0=r0 at *
 have E0:=zAa hr0
 clear hr0
 generalize hr1:m.made.getD 1 0=r1 at *
 have E1:=zAa hr1
 clear hr1
 generalize hr2:m.made.getD 2 0=r2 at *
 have E2:=zAa hr2
 clear hr2
 generalize hr3:m.made.getD 3 0=r3 at *
 have E3:=zAa hr3
 clear hr3
 rcases hcs with rfl | rfl | rfl | rfl
 ·have HE:Hid (m.madeOf ⟨true,0⟩=r0):=E0.out
  clear HV h0 h4 hd0 hd4 E0 E1 E2 E3
  go_enter Tryz.func175,Tryz.ntmps175
  go_wp2
  go_quiet (fail)
  all_goals
   go_wp2
   go_ret
   rw[HE.out]
   exact⟨rfl,((Below.refl _ _).alloc (Nat.le_refl _) _).trans (zAG _ _ _)⟩
 ·have HE:Hid (m.madeOf ⟨true,1⟩=r1):=E1.out
  clear HV h0 h4 hd0 hd4 E0 E1 E2 E3
  go_enter Tryz.func175,Tryz.ntmps175
  go_wp2
  go_quiet (fail)
  all_goals
   go_wp2
   go_ret
   rw[HE.out]
   exact⟨rfl,((Below.refl _ _).alloc (Nat.le_refl _) _).trans (zAG _ _ _)⟩
 ·have HE:Hid (m.madeOf ⟨true,2⟩=r2):=E2.out
  clear HV h0 h4 hd0 hd4 E0 E1 E2 E3
  go_enter Tryz.func175,Tryz.ntmps175
  go_wp2
  go_quiet (fail)
  all_goals
   go_wp2
   go_ret
   rw[HE.out]
   exact⟨rfl,((Below.refl _ _).alloc (Nat.le_refl _) _).trans (zAG _ _ _)⟩
 ·have HE:Hid (m.madeOf ⟨true,3⟩=r3):=E3.out
  clear HV h0 h4 hd0 hd4 E0 E1 E2 E3
  go_enter Tryz.func175,Tryz.ntmps175
  go_wp2
  go_quiet (fail)
  all_goals
   go_wp2
   go_ret
   rw[HE.out]
   exact⟨rfl,((Below.refl _ _).alloc (Nat.le_refl _) _).trans (zAG _ _ _)⟩
theorem zEu (B g:Nat) (m:Q.Mach) (ev:Value) (i:Nat) (w:World) (h:MachIn w B g m ev) (hi:i<m.events.length) (hn:m.events.length<10000) :
  Calls Tryz.prog 212 #[.pointer (some ⟨g,0,none⟩),.int .i64 (i:Int)] w fun e w'=>e=.returned (.int .i64 (m.valueOf i))∧w'=w:=by
 have hg:=h.lt
 obtain⟨a,c,rfl,ha⟩:=h.form
 obtain⟨b,rfl,hb⟩:=ha (by omega)
 obtain⟨c0,c1,c2,c3,c4,c5,c6,c7,c8,c9,c10,c11,c12,c13,cf⟩:=h.facts
 have hr:w.rangeAt b (i*10) (zAd (Q.ev m.events i)).toList:=by
  rw[zEX m.events i hi]
  intro j v hv
  have hj:j<10:=(List.getElem?_eq_some_iff.1 hv).1
  rw[h.evs.cellAt _ (by omega),zEW m.events i hi j hj];exact hv
 have cv:=hr 4 (.int .i64 (Q.ev m.events i).value) rfl
 have HE:Hid (m.valueOf i=(Q.ev m.events i).value):=rfl
 generalize (Q.ev m.events i).value=x at *
 have hil:(i:Int)<(m.events.length:Int):=by omega
 clear c0 c1 c2 c3 c4 c5 c6 c7 c8 c9 c10 c11 c12 h hr ha
 go_enter Tryz.func212,Tryz.ntmps212
 go_wp2
 go_ret
 rw[HE.out];exact⟨rfl,rfl⟩
theorem MachIn.set {w w':World} {B g:Nat} {m m':Q.Mach} {ev:Value} (h:MachIn w B g m ev) (hb:w'.heap[g]?=some (.cells (zDx m' ev) 177 (0,0))) (hk:∀ k,k≠g→w'.heap[k]?=w.heap[k]?) (he:m'.events=m.events) (hr:m'.regs.length=4) (hm:m'.made.length=4):MachIn w' B g m' ev:=by
 refine⟨hb,?_,h.ge,hr,hm⟩
 rw[he]
 refine zAc h.evs (fun k e=>hk k ?_)
 intro ek
 subst ek
 rcases h.evs.2 with ⟨e1,_⟩ | ⟨g',cap,cur,e1,_,hh,_⟩
 ·rw[e1] at e;simp[Value.ownBlock] at e
 ·rw[e1] at e;simp[Value.ownBlock] at e
  subst e
  rw[h.box] at hh;simp at hh
theorem MFrame.set {w:World} {g:Nat} (ev:Value) (l:List (Nat × Value)):MFrame w (l.foldl (fun w p=>w.setCell ⟨g,p.1,none⟩ p.2) w) g ev ev:=by
 induction l generalizing w with
 | nil=>exact MFrame.of (Below.refl _ _) g ev
 | cons p q ih =>
  refine MFrame.trans (w1:=w.setCell ⟨g,p.1,none⟩ p.2) ⟨rfl,rfl,rfl,by simp,fun k _ hk _=>Below.heap_setCell _ _ _ _ hk,Or.inl rfl⟩ ih
theorem zDy (B g:Nat) (m:Q.Mach) (ev:Value) (d v:Int) (s:Nat) (w:World) (h:MachIn w B g m ev) :
  Calls Tryz.prog 202 #[.pointer (some ⟨g,0,none⟩),.int .i64 d,.int .i64 v,.int .u64 (s:Nat)] w fun e w'=>e=.returned (.tuple #[])∧MachIn w' B g (m.give d v s) ev∧MFrame w w' g ev ev:=by
 have hg:=h.lt
 have H:=zAa h
 obtain⟨c0,c1,c2,c3,c4,c5,c6,c7,c8,c9,c10,c11,c12,c13,cf⟩:=h.facts
 by_cases h0:d<0
 ·have HE:Hid (m.give d v s=m):=by unfold Hid Q.Mach.give;rw[if_pos (Or.inl h0)]
  clear c0 c1 c2 c3 c4 c5 c6 c7 c8 c9 c10 c11 c12 c13 h
  go_enter Tryz.func202,Tryz.ntmps202
  go_wp2
  (try simp only[Exit.inBlock,Exit.then]);refine bodyPost_ret (results_none rfl _ _ _) rfl ?_
  rw[HE.out];exact⟨rfl,H.out,MFrame.of (Below.refl _ _) g ev⟩
 have hd0:decide (d<0)=false:=decide_eq_false h0
 by_cases h4:4≤d
 ·have HE:Hid (m.give d v s=m):=by unfold Hid Q.Mach.give;rw[if_pos (Or.inr h4)]
  clear c0 c1 c2 c3 c4 c5 c6 c7 c8 c9 c10 c11 c12 c13 h
  go_enter Tryz.func202,Tryz.ntmps202
  go_wp2
  (try simp only[Exit.inBlock,Exit.then]);refine bodyPost_ret (results_none rfl _ _ _) rfl ?_
  rw[HE.out];exact⟨rfl,H.out,MFrame.of (Below.refl _ _) g ev⟩
 have hd4:decide (4≤d)=false:=decide_eq_false h4
 have hcs:d=0∨d=1∨d=2∨d=3:=by omega
 obtain⟨th,bl,un,rs,md,ak,br,es⟩:=m
 have h1:=h.lr
 have h2:=h.lm
 obtain⟨r0,r1,r2,r3,rfl⟩:∃ a b c d,rs=[a,b,c,d]:=by
  match rs,h1 with
  | [a,b,c,d],_=>exact⟨a,b,c,d,rfl⟩
 obtain⟨m0,m1,m2,m3,rfl⟩:∃ a b c d,md=[a,b,c,d]:=by
  match md,h2 with
  | [a,b,c,d],_=>exact⟨a,b,c,d,rfl⟩
 have hbx:=h.box
 have HBX:=zAa hbx
 simp only[List.getD_cons_zero,List.getD_cons_succ] at c0 c1 c2 c3 c4 c5 c6 c7 c8 c9 c10 c11 c12 c13
 clear h h1 h2 hbx
 rcases hcs with rfl | rfl | rfl | rfl
 ·clear h0 h4 hd0 hd4
  go_enter Tryz.func202,Tryz.ntmps202
  go_wp2
  go_end0
  have FR:=MFrame.set (w:=w) (g:=g) ev [(3,.int .i64 v),(7,.int .u64 (s:Nat))]
  simp only[List.foldl_cons,List.foldl_nil] at FR
  refine⟨rfl,H.out.set ?_ (fun k hk=>by rw[Below.heap_setCell _ _ _ _ hk,Below.heap_setCell _ _ _ _ hk]) rfl rfl rfl,FR⟩
  rw[zAe (zAe HBX.out _ _)];rfl
 ·clear h0 h4 hd0 hd4
  go_enter Tryz.func202,Tryz.ntmps202
  go_wp2
  go_end0
  have FR:=MFrame.set (w:=w) (g:=g) ev [(4,.int .i64 v),(8,.int .u64 (s:Nat))]
  simp only[List.foldl_cons,List.foldl_nil] at FR
  refine⟨rfl,H.out.set ?_ (fun k hk=>by rw[Below.heap_setCell _ _ _ _ hk,Below.heap_setCell _ _ _ _ hk]) rfl rfl rfl,FR⟩
  rw[zAe (zAe HBX.out _ _)];rfl
 ·clear h0 h4 hd0 hd4
  go_enter Tryz.func202,Tryz.ntmps202
  go_wp2
  go_end0
  have FR:=MFrame.set (w:=w) (g:=g) ev [(5,.int .i64 v),(9,.int .u64 (s:Nat))]
  simp only[List.foldl_cons,List.foldl_nil] at FR
  refine⟨rfl,H.out.set ?_ (fun k hk=>by rw[Below.heap_setCell _ _ _ _ hk,Below.heap_setCell _ _ _ _ hk]) rfl rfl rfl,FR⟩
  rw[zAe (zAe HBX.out _ _)];rfl
 ·clear h0 h4 hd0 hd4
  go_enter Tryz.func202,Tryz.ntmps202
  go_wp2
  go_end0
  have FR:=MFrame.set (w:=w) (g:=g) ev [(6,.int .i64 v),(10,.int .u64 (s:Nat))]
  simp only[List.foldl_cons,List.foldl_nil] at FR
  refine⟨rfl,H.out.set ?_ (fun k hk=>by rw[Below.heap_setCell _ _ _ _ hk,Below.heap_setCell _ _ _ _ hk]) rfl rfl rfl,FR⟩
  rw[zAe (zAe HBX.out _ _)];rfl
theorem zCU (B g:Nat) (m:Q.Mach) (ev:Value) (d:Int) (r:Nat) (w:World) (h:MachIn w B g m ev) (hr:r<m.events.length) (hn:m.events.length<10000) :
  Calls Tryz.prog 195 #[.pointer (some ⟨g,0,none⟩),.int .i64 d,.int .i64 (r:Int)] w fun e w'=>e=.returned (.tuple #[])∧MachIn w' B g (m.giveRead d r) ev∧MFrame w w' g ev ev:=by
 have H:=zAa h
 clear h
 go_enter Tryz.func195,Tryz.ntmps195
 go_wp2_with (first
  | (go_at_call 212;refine (zEu B g m ev r _ H.out hr hn).mono ?_;rintro e w' ⟨rfl,hw'⟩;have hw':=hw'.symm;subst hw')
  | (go_at_call 159;refine (zFn _ _).mono ?_;rintro e w' ⟨rfl,hw'⟩;have hw':=hw'.symm;subst hw')
  | (go_at_call 202;refine (zDy B g m ev d _ _ _ H.out).mono ?_;rintro e w1 ⟨rfl,hm,hfr⟩))
 go_end0
 exact⟨rfl,hm,hfr⟩
theorem zBG {wx:World} {b:Nat} {t:TypeId} {cur:Array Value} (new:List Value) (h:wx.heap[b]?=some (.cells cur t (0,0))) (hs:cur.size=new.length):(wx.setCells b 0 new).heap[b]?=some (.cells new.toArray t (0,0))∧(∀ k,k≠b→(wx.setCells b 0 new).heap[k]?=wx.heap[k]?)∧∀ (w:World) (B:Nat),B≤b→Below B w wx→Below B w (wx.setCells b 0 new):=by
 refine⟨?_,fun k hk=>zBF _ _ _ _ _ hk,fun w B hB hb=>Below.setCells hB _ _ _ hb⟩
 have h1:=zBD new 0 wx cur h
 have h2:=zDM cur new.toArray (by simpa using hs)
 rw[h1]
 simp only[List.toList_toArray] at h2
 rw[h2]
theorem zAS {w:World} {g:Nat} {c0 c1 c2 c3 c4 c5 c6 c7 c8 c9:Value} {t:TypeId} (h:w.heap[g]?=some (.cells #[c0,c1,c2,c3,c4,c5,c6,c7,c8,c9] t (0,0))) :
  w.cell? ⟨g,0,none⟩=some c0∧w.cell? ⟨g,1,none⟩=some c1∧w.cell? ⟨g,2,none⟩=some c2∧w.cell? ⟨g,3,none⟩=some c3∧w.cell? ⟨g,4,none⟩=some c4∧w.cell? ⟨g,5,none⟩=some c5∧w.cell? ⟨g,6,none⟩=some c6∧w.cell? ⟨g,7,none⟩=some c7∧w.cell? ⟨g,8,none⟩=some c8∧w.cell? ⟨g,9,none⟩=some c9∧(∀ j,w.frozen? ⟨g,j,none⟩=false)∧g<w.heap.size:=by
 refine⟨?_,?_,?_,?_,?_,?_,?_,?_,?_,?_,fun j=>?_,(Array.getElem?_eq_some_iff.1 h).1⟩<;>simp[World.cell?,World.frozen?,h]
theorem Tryz.infoEvM:(Tryz.prog.info? 158).map (fun i=>(i.zero,i.size,i.bytes))=some (some (.agg (zAd Q.Ev.zero)),10,80):=by kernel_rfl
theorem zAV.set {w:World} {g:Nat} {e:Q.Ev} (e':Q.Ev) (h:zAV w g e) (i:Nat) (u:Value) (he:(zAd e).setIfInBounds i u=zAd e'):zAV (w.setCell ⟨g,i,none⟩ u) g e':=by
 unfold zAV at *
 rw[zAe h,he]
theorem zAV.of2 {w:World} {g b i:Nat} {e:Q.Ev} {u:Value} (h:zAV w g e) (hne:g≠b):zAV (w.setCell ⟨b,i,none⟩ u) g e:=by
 unfold zAV at *
 rw[Below.heap_setCell _ _ _ _ hne];exact h
theorem zAV.range {w:World} {g:Nat} {e:Q.Ev} (h:zAV w g e):w.rangeAt g 0 (zAd e).toList:=zCs h
theorem zAK {ops:Array Oper} {rest:List Oper} {op:Oper} {a:Act} {w:World} {R:Exit→Act→World→Prop} (x y:Operand) (hgd:op.guard=none) (ho:op.op=.store 158 x y)
  (g:Nat) (e d:Q.Ev) (hx:a.eval x=.pointer (some ⟨g,0,none⟩)) (hy:a.eval y=.agg (zAd e)) (hg:zAV w g d)
  (h:∀ w',zAV w' g e→w.grownBy w' (some g)→wpList Tryz.prog ops R rest (a.put op.dst undef) w'):wpList Tryz.prog ops R (op::rest) a w :=
 zCR hgd _ x y ho g (zAd e) (zAd d) _ hx hy hg rfl (by kernel_rfl) (by simp[zAd,Value.oneCell']) h
theorem zCV (B g:Nat) (m:Q.Mach) (ev:Value) (kind:Int) (st:P.Stm) (w:World) (h:MachIn w B g m ev) (hk:kind=0∨kind=1∨kind=2∨kind=3∨kind=4) :
  Calls Tryz.prog 198 #[.pointer (some ⟨g,0,none⟩),.int .i64 kind,.agg (zAb st)] w fun e w'=>e=.returned (.agg (zAd (m.event kind st)))∧Below w.heap.size w w':=by
 have HV:Hid (m.event kind st=⟨kind,m.thread,m.block,st.var,0,st.order,st.scope,if kind==3||kind==4 then m.bars else 0,(kind==0||kind==1)&&(st.kind==2||st.kind==3),if kind==0||kind==1 then m.asked else 0⟩):=rfl
 obtain⟨k0,k1,hsz,hbw⟩:=zBN w #[.int .i64 st.kind,.int .i64 st.line,.int .i64 st.dest,.int .i64 st.var,.bool st.a.reg,.int .i64 st.a.n,.bool st.b.reg,.int .i64 st.b.n,.int .i64 st.order,.int .i64 st.scope,.int .i64 st.label] #[.int .i64 0,.int .i64 0,.int .i64 0,.int .i64 0,.int .i64 0,.int .i64 0,.int .i64 0,.int .i64 0,.bool false,.int .u64 0] 96 158
 have HM:=h.below hbw
 have hgw:=h.lt
 have BW0:=zAa hbw
 have HMH:=zAa HM
 clear h HM hbw
 simp only[zAb]
 go_enter Tryz.func198,Tryz.ntmps198
 go_upto_region 1 with fail
 generalize hE:(w.alloc (.cells #[.int .i64 st.kind,.int .i64 st.line,.int .i64 st.dest,.int .i64 st.var,.bool st.a.reg,.int .i64 st.a.n,.bool st.b.reg,.int .i64 st.b.n,.int .i64 st.order,.int .i64 st.scope,.int .i64 st.label] 96)).alloc (.cells #[.int .i64 0,.int .i64 0,.int .i64 0,.int .i64 0,.int .i64 0,.int .i64 0,.int .i64 0,.int .i64 0,.bool false,.int .u64 0] 158)=W0 at *
 have HST:zAv W0 w.heap.size st:=k0
 obtain⟨s0,s1,s2,s3,s4,s5,s6,s7,s8,s9,s10,s11,s12⟩:=HST.facts
 obtain⟨c0,c1,c2,c3,c4,c5,c6,c7,c8,c9,c10,c11,c12,c13,cf⟩:=HMH.out.facts
 have xl:w.heap.size+1<W0.heap.size:=(Array.getElem?_eq_some_iff.1 k1).1
 have hg:=HMH.out.lt
 have K1:Hid (zAV W0 (w.heap.size+1) Q.Ev.zero):=k1
 have hszl:w.heap.size+2≤W0.heap.size:=by omega
 clear c2 c3 c4 c5 c6 c7 c8 c9 c10 c13 k0 k1 HST hsz hE s3 s4 s6 s7 s8 s9 s12
 go_region_held3 (fun w'=>w'.cell? ⟨g,0,none⟩=some (.int .i64 m.thread)∧w'.cell? ⟨g,1,none⟩=some (.int .i64 m.block)∧w'.cell? ⟨w.heap.size,3,none⟩=some (.int .i64 st.var)∧w'.cell? ⟨w.heap.size,8,none⟩=some (.int .i64 st.order)∧w'.cell? ⟨w.heap.size,9,none⟩=some (.int .i64 st.scope)) (first | exact⟨c0,c1,s5,s10,s11⟩ | exact⟨(zAh hg).trans c0,(zAh hg).trans c1,(zAh s0).trans s5,(zAh s0).trans s10,(zAh s0).trans s11⟩) (first | fail)
 have E1:Hid (zAV ((W0.alloc (.cells #[.int .i64 kind,.int .i64 m.thread,.int .i64 m.block,.int .i64 st.var,.int .i64 0,.int .i64 st.order,.int .i64 st.scope,.int .i64 0,.bool false,.int .u64 0] 158)).drew) W0.heap.size ⟨kind,m.thread,m.block,st.var,0,st.order,st.scope,0,false,0⟩):=heap_alloc_new W0 _
 have BX:Below W0.heap.size W0 ((W0.alloc (.cells #[.int .i64 kind,.int .i64 m.thread,.int .i64 m.block,.int .i64 st.var,.int .i64 0,.int .i64 st.order,.int .i64 st.scope,.int .i64 0,.bool false,.int .u64 0] 158)).drew):=((Below.refl _ _).alloc (Nat.le_refl _) _).drew
 have K2:=zAa (K1.out.below BX)
 have B1:=zAa (zAm BW0.out (Nat.le_refl _) BX)
 have d11:=cfL BX hg c11
 have d12:=cfL BX hg c12
 have t2:=cfL BX s0 s2
 have hsw:=BX.size
 have hgW:=Nat.lt_of_lt_of_le hg hsw
 have hsW:=Nat.lt_of_lt_of_le s0 hsw
 clear BX c0 c1 c11 c12 s1 s2 s5 s10 s11 cf
 generalize hW1:(W0.alloc (.cells #[.int .i64 kind,.int .i64 m.thread,.int .i64 m.block,.int .i64 st.var,.int .i64 0,.int .i64 st.order,.int .i64 st.scope,.int .i64 0,.bool false,.int .u64 0] 158)).drew=W1 at *
 clear hW1
 generalize hb7:W0.heap.size=b7 at *
 obtain⟨q0,q1,q2,q3,q4,q5,q6,q7,q8,q9,qf,ql⟩:=E1.out.facts
 rcases hk with rfl | rfl | rfl | rfl | rfl
 ·cases z2:(st.kind==2)<;>cases z3:(st.kind==3)
  ·have EF:Hid (zAV ((W1.setCell ⟨b7,9,none⟩ (.int .u64 (m.asked:Nat))).setCell ⟨b7,8,none⟩ (.bool false)) b7 (m.event 0 st)):=by
    unfold Hid;rw[HV.out,z2,z3]
    exact (E1.out.set ⟨0,m.thread,m.block,st.var,0,st.order,st.scope,0,false,m.asked⟩ 9 _ rfl).set _ 8 _ rfl
   have KF:Hid (zAV ((W1.setCell ⟨b7,9,none⟩ (.int .u64 (m.asked:Nat))).setCell ⟨b7,8,none⟩ (.bool false)) (w.heap.size+1) Q.Ev.zero):=by unfold Hid;exact (K2.out.of2 (by omega)).of2 (by omega)
   have BF:Hid (Below w.heap.size w ((W1.setCell ⟨b7,9,none⟩ (.int .u64 (m.asked:Nat))).setCell ⟨b7,8,none⟩ (.bool false))):=(B1.out.setCell (p:=⟨b7,9,none⟩) (by simp;omega) _).setCell (p:=⟨b7,8,none⟩) (by simp;omega) _
   go_upto_region 10 with fail
   generalize hWF:(W1.setCell ⟨b7,9,none⟩ (.int .u64 (m.asked:Nat))).setCell ⟨b7,8,none⟩ (.bool false)=WF at *
   go_wp2_with (first | (refine zAi (.tmp 7) rfl rfl b7 0 _ rfl EF.out.range ?_) | (refine zAK (.tmp 6) (.tmp 50) rfl rfl (w.heap.size+1) (m.event 0 st) Q.Ev.zero rfl rfl KF.out ?_;intro w9 hE9 hg9))
   refine zBi (p:=6) (w.heap.size+1) _ (by kernel_rfl) Tryz.underlying158 rfl (by kernel_rfl) rfl hE9 rfl ⟨rfl,BF.out.trans ⟨hg9.os,hg9.tape,hg9.output,hg9.size,fun k hk=>hg9.block k (by have:=BF.out.size;omega) (by simp;omega)⟩⟩
  ·have EF:Hid (zAV ((W1.setCell ⟨b7,9,none⟩ (.int .u64 (m.asked:Nat))).setCell ⟨b7,8,none⟩ (.bool true)) b7 (m.event 0 st)):=by
    unfold Hid;rw[HV.out,z2,z3]
    exact (E1.out.set ⟨0,m.thread,m.block,st.var,0,st.order,st.scope,0,false,m.asked⟩ 9 _ rfl).set _ 8 _ rfl
   have KF:Hid (zAV ((W1.setCell ⟨b7,9,none⟩ (.int .u64 (m.asked:Nat))).setCell ⟨b7,8,none⟩ (.bool true)) (w.heap.size+1) Q.Ev.zero):=by unfold Hid;exact (K2.out.of2 (by omega)).of2 (by omega)
   have BF:Hid (Below w.heap.size w ((W1.setCell ⟨b7,9,none⟩ (.int .u64 (m.asked:Nat))).setCell ⟨b7,8,none⟩ (.bool true))):=(B1.out.setCell (p:=⟨b7,9,none⟩) (by simp;omega) _).setCell (p:=⟨b7,8,none⟩) (by simp;omega) _
   go_upto_region 10 with fail
   generalize hWF:(W1.setCell ⟨b7,9,none⟩ (.int .u64 (m.asked:Nat))).setCell ⟨b7,8,none⟩ (.bool true)=WF at *
   go_wp2_with (first | (refine zAi (.tmp 7) rfl rfl b7 0 _ rfl EF.out.range ?_) | (refine zAK (.tmp 6) (.tmp 50) rfl rfl (w.heap.size+1) (m.event 0 st) Q.Ev.zero rfl rfl KF.out ?_;intro w9 hE9 hg9))
   refine zBi (p:=6) (w.heap.size+1) _ (by kernel_rfl) Tryz.underlying158 rfl (by kernel_rfl) rfl hE9 rfl ⟨rfl,BF.out.trans ⟨hg9.os,hg9.tape,hg9.output,hg9.size,fun k hk=>hg9.block k (by have:=BF.out.size;omega) (by simp;omega)⟩⟩
  ·have EF:Hid (zAV ((W1.setCell ⟨b7,9,none⟩ (.int .u64 (m.asked:Nat))).setCell ⟨b7,8,none⟩ (.bool true)) b7 (m.event 0 st)):=by
    unfold Hid;rw[HV.out,z2,z3]
    exact (E1.out.set ⟨0,m.thread,m.block,st.var,0,st.order,st.scope,0,false,m.asked⟩ 9 _ rfl).set _ 8 _ rfl
   have KF:Hid (zAV ((W1.setCell ⟨b7,9,none⟩ (.int .u64 (m.asked:Nat))).setCell ⟨b7,8,none⟩ (.bool true)) (w.heap.size+1) Q.Ev.zero):=by unfold Hid;exact (K2.out.of2 (by omega)).of2 (by omega)
   have BF:Hid (Below w.heap.size w ((W1.setCell ⟨b7,9,none⟩ (.int .u64 (m.asked:Nat))).setCell ⟨b7,8,none⟩ (.bool true))):=(B1.out.setCell (p:=⟨b7,9,none⟩) (by simp;omega) _).setCell (p:=⟨b7,8,none⟩) (by simp;omega) _
   go_upto_region 10 with fail
   generalize hWF:(W1.setCell ⟨b7,9,none⟩ (.int .u64 (m.asked:Nat))).setCell ⟨b7,8,none⟩ (.bool true)=WF at *
   go_wp2_with (first | (refine zAi (.tmp 7) rfl rfl b7 0 _ rfl EF.out.range ?_) | (refine zAK (.tmp 6) (.tmp 50) rfl rfl (w.heap.size+1) (m.event 0 st) Q.Ev.zero rfl rfl KF.out ?_;intro w9 hE9 hg9))
   refine zBi (p:=6) (w.heap.size+1) _ (by kernel_rfl) Tryz.underlying158 rfl (by kernel_rfl) rfl hE9 rfl ⟨rfl,BF.out.trans ⟨hg9.os,hg9.tape,hg9.output,hg9.size,fun k hk=>hg9.block k (by have:=BF.out.size;omega) (by simp;omega)⟩⟩
  ·have EF:Hid (zAV ((W1.setCell ⟨b7,9,none⟩ (.int .u64 (m.asked:Nat))).setCell ⟨b7,8,none⟩ (.bool true)) b7 (m.event 0 st)):=by
    unfold Hid;rw[HV.out,z2,z3]
    exact (E1.out.set ⟨0,m.thread,m.block,st.var,0,st.order,st.scope,0,false,m.asked⟩ 9 _ rfl).set _ 8 _ rfl
   have KF:Hid (zAV ((W1.setCell ⟨b7,9,none⟩ (.int .u64 (m.asked:Nat))).setCell ⟨b7,8,none⟩ (.bool true)) (w.heap.size+1) Q.Ev.zero):=by unfold Hid;exact (K2.out.of2 (by omega)).of2 (by omega)
   have BF:Hid (Below w.heap.size w ((W1.setCell ⟨b7,9,none⟩ (.int .u64 (m.asked:Nat))).setCell ⟨b7,8,none⟩ (.bool true))):=(B1.out.setCell (p:=⟨b7,9,none⟩) (by simp;omega) _).setCell (p:=⟨b7,8,none⟩) (by simp;omega) _
   go_upto_region 10 with fail
   generalize hWF:(W1.setCell ⟨b7,9,none⟩ (.int .u64 (m.asked:Nat))).setCell ⟨b7,8,none⟩ (.bool true)=WF at *
   go_wp2_with (first | (refine zAi (.tmp 7) rfl rfl b7 0 _ rfl EF.out.range ?_) | (refine zAK (.tmp 6) (.tmp 50) rfl rfl (w.heap.size+1) (m.event 0 st) Q.Ev.zero rfl rfl KF.out ?_;intro w9 hE9 hg9))
   refine zBi (p:=6) (w.heap.size+1) _ (by kernel_rfl) Tryz.underlying158 rfl (by kernel_rfl) rfl hE9 rfl ⟨rfl,BF.out.trans ⟨hg9.os,hg9.tape,hg9.output,hg9.size,fun k hk=>hg9.block k (by have:=BF.out.size;omega) (by simp;omega)⟩⟩
 ·cases z2:(st.kind==2)<;>cases z3:(st.kind==3)
  ·have EF:Hid (zAV ((W1.setCell ⟨b7,9,none⟩ (.int .u64 (m.asked:Nat))).setCell ⟨b7,8,none⟩ (.bool false)) b7 (m.event 1 st)):=by
    unfold Hid;rw[HV.out,z2,z3]
    exact (E1.out.set ⟨1,m.thread,m.block,st.var,0,st.order,st.scope,0,false,m.asked⟩ 9 _ rfl).set _ 8 _ rfl
   have KF:Hid (zAV ((W1.setCell ⟨b7,9,none⟩ (.int .u64 (m.asked:Nat))).setCell ⟨b7,8,none⟩ (.bool false)) (w.heap.size+1) Q.Ev.zero):=by unfold Hid;exact (K2.out.of2 (by omega)).of2 (by omega)
   have BF:Hid (Below w.heap.size w ((W1.setCell ⟨b7,9,none⟩ (.int .u64 (m.asked:Nat))).setCell ⟨b7,8,none⟩ (.bool false))):=(B1.out.setCell (p:=⟨b7,9,none⟩) (by simp;omega) _).setCell (p:=⟨b7,8,none⟩) (by simp;omega) _
   go_upto_region 10 with fail
   generalize hWF:(W1.setCell ⟨b7,9,none⟩ (.int .u64 (m.asked:Nat))).setCell ⟨b7,8,none⟩ (.bool false)=WF at *
   go_wp2_with (first | (refine zAi (.tmp 7) rfl rfl b7 0 _ rfl EF.out.range ?_) | (refine zAK (.tmp 6) (.tmp 50) rfl rfl (w.heap.size+1) (m.event 1 st) Q.Ev.zero rfl rfl KF.out ?_;intro w9 hE9 hg9))
   refine zBi (p:=6) (w.heap.size+1) _ (by kernel_rfl) Tryz.underlying158 rfl (by kernel_rfl) rfl hE9 rfl ⟨rfl,BF.out.trans ⟨hg9.os,hg9.tape,hg9.output,hg9.size,fun k hk=>hg9.block k (by have:=BF.out.size;omega) (by simp;omega)⟩⟩
  ·have EF:Hid (zAV ((W1.setCell ⟨b7,9,none⟩ (.int .u64 (m.asked:Nat))).setCell ⟨b7,8,none⟩ (.bool true)) b7 (m.event 1 st)):=by
    unfold Hid;rw[HV.out,z2,z3]
    exact (E1.out.set ⟨1,m.thread,m.block,st.var,0,st.order,st.scope,0,false,m.asked⟩ 9 _ rfl).set _ 8 _ rfl
   have KF:Hid (zAV ((W1.setCell ⟨b7,9,none⟩ (.int .u64 (m.asked:Nat))).setCell ⟨b7,8,none⟩ (.bool true)) (w.heap.size+1) Q.Ev.zero):=by unfold Hid;exact (K2.out.of2 (by omega)).of2 (by omega)
   have BF:Hid (Below w.heap.size w ((W1.setCell ⟨b7,9,none⟩ (.int .u64 (m.asked:Nat))).setCell ⟨b7,8,none⟩ (.bool true))):=(B1.out.setCell (p:=⟨b7,9,none⟩) (by simp;omega) _).setCell (p:=⟨b7,8,none⟩) (by simp;omega) _
   go_upto_region 10 with fail
   generalize hWF:(W1.setCell ⟨b7,9,none⟩ (.int .u64 (m.asked:Nat))).setCell ⟨b7,8,none⟩ (.bool true)=WF at *
   go_wp2_with (first | (refine zAi (.tmp 7) rfl rfl b7 0 _ rfl EF.out.range ?_) | (refine zAK (.tmp 6) (.tmp 50) rfl rfl (w.heap.size+1) (m.event 1 st) Q.Ev.zero rfl rfl KF.out ?_;intro w9 hE9 hg9))
   refine zBi (p:=6) (w.heap.size+1) _ (by kernel_rfl) Tryz.underlying158 rfl (by kernel_rfl) rfl hE9 rfl ⟨rfl,BF.out.trans ⟨hg9.os,hg9.tape,hg9.output,hg9.size,fun k hk=>hg9.block k (by have:=BF.out.size;omega) (by simp;omega)⟩⟩
  ·have EF:Hid (zAV ((W1.setCell ⟨b7,9,none⟩ (.int .u64 (m.asked:Nat))).setCell ⟨b7,8,none⟩ (.bool true)) b7 (m.event 1 st)):=by
    unfold Hid;rw[HV.out,z2,z3]
    exact (E1.out.set ⟨1,m.thread,m.block,st.var,0,st.order,st.scope,0,false,m.asked⟩ 9 _ rfl).set _ 8 _ rfl
   have KF:Hid (zAV ((W1.setCell ⟨b7,9,none⟩ (.int .u64 (m.asked:Nat))).setCell ⟨b7,8,none⟩ (.bool true)) (w.heap.size+1) Q.Ev.zero):=by unfold Hid;exact (K2.out.of2 (by omega)).of2 (by omega)
   have BF:Hid (Below w.heap.size w ((W1.setCell ⟨b7,9,none⟩ (.int .u64 (m.asked:Nat))).setCell ⟨b7,8,none⟩ (.bool true))):=(B1.out.setCell (p:=⟨b7,9,none⟩) (by simp;omega) _).setCell (p:=⟨b7,8,none⟩) (by simp;omega) _
   go_upto_region 10 with fail
   generalize hWF:(W1.setCell ⟨b7,9,none⟩ (.int .u64 (m.asked:Nat))).setCell ⟨b7,8,none⟩ (.bool true)=WF at *
   go_wp2_with (first | (refine zAi (.tmp 7) rfl rfl b7 0 _ rfl EF.out.range ?_) | (refine zAK (.tmp 6) (.tmp 50) rfl rfl (w.heap.size+1) (m.event 1 st) Q.Ev.zero rfl rfl KF.out ?_;intro w9 hE9 hg9))
   refine zBi (p:=6) (w.heap.size+1) _ (by kernel_rfl) Tryz.underlying158 rfl (by kernel_rfl) rfl hE9 rfl ⟨rfl,BF.out.trans ⟨hg9.os,hg9.tape,hg9.output,hg9.size,fun k hk=>hg9.block k (by have:=BF.out.size;omega) (by simp;omega)⟩⟩
  ·have EF:Hid (zAV ((W1.setCell ⟨b7,9,none⟩ (.int .u64 (m.asked:Nat))).setCell ⟨b7,8,none⟩ (.bool true)) b7 (m.event 1 st)):=by
    unfold Hid;rw[HV.out,z2,z3]
    exact (E1.out.set ⟨1,m.thread,m.block,st.var,0,st.order,st.scope,0,false,m.asked⟩ 9 _ rfl).set _ 8 _ rfl
   have KF:Hid (zAV ((W1.setCell ⟨b7,9,none⟩ (.int .u64 (m.asked:Nat))).setCell ⟨b7,8,none⟩ (.bool true)) (w.heap.size+1) Q.Ev.zero):=by unfold Hid;exact (K2.out.of2 (by omega)).of2 (by omega)
   have BF:Hid (Below w.heap.size w ((W1.setCell ⟨b7,9,none⟩ (.int .u64 (m.asked:Nat))).setCell ⟨b7,8,none⟩ (.bool true))):=(B1.out.setCell (p:=⟨b7,9,none⟩) (by simp;omega) _).setCell (p:=⟨b7,8,none⟩) (by simp;omega) _
   go_upto_region 10 with fail
   generalize hWF:(W1.setCell ⟨b7,9,none⟩ (.int .u64 (m.asked:Nat))).setCell ⟨b7,8,none⟩ (.bool true)=WF at *
   go_wp2_with (first | (refine zAi (.tmp 7) rfl rfl b7 0 _ rfl EF.out.range ?_) | (refine zAK (.tmp 6) (.tmp 50) rfl rfl (w.heap.size+1) (m.event 1 st) Q.Ev.zero rfl rfl KF.out ?_;intro w9 hE9 hg9))
   refine zBi (p:=6) (w.heap.size+1) _ (by kernel_rfl) Tryz.underlying158 rfl (by kernel_rfl) rfl hE9 rfl ⟨rfl,BF.out.trans ⟨hg9.os,hg9.tape,hg9.output,hg9.size,fun k hk=>hg9.block k (by have:=BF.out.size;omega) (by simp;omega)⟩⟩
 ·have EF:Hid (zAV (W1) b7 (m.event 2 st)):=by
   unfold Hid;rw[HV.out]
   exact E1.out
  have KF:Hid (zAV (W1) (w.heap.size+1) Q.Ev.zero):=by unfold Hid;exact K2.out
  have BF:Hid (Below w.heap.size w (W1)):=B1.out
  go_upto_region 10 with fail
  skip
  go_wp2_with (first | (refine zAi (.tmp 7) rfl rfl b7 0 _ rfl EF.out.range ?_) | (refine zAK (.tmp 6) (.tmp 50) rfl rfl (w.heap.size+1) (m.event 2 st) Q.Ev.zero rfl rfl KF.out ?_;intro w9 hE9 hg9))
  refine zBi (p:=6) (w.heap.size+1) _ (by kernel_rfl) Tryz.underlying158 rfl (by kernel_rfl) rfl hE9 rfl ⟨rfl,BF.out.trans ⟨hg9.os,hg9.tape,hg9.output,hg9.size,fun k hk=>hg9.block k (by have:=BF.out.size;omega) (by simp;omega)⟩⟩
 ·have EF:Hid (zAV (W1.setCell ⟨b7,7,none⟩ (.int .i64 (m.bars:Nat))) b7 (m.event 3 st)):=by
   unfold Hid;rw[HV.out]
   exact E1.out.set _ 7 _ rfl
  have KF:Hid (zAV (W1.setCell ⟨b7,7,none⟩ (.int .i64 (m.bars:Nat))) (w.heap.size+1) Q.Ev.zero):=by unfold Hid;exact K2.out.of2 (by omega)
  have BF:Hid (Below w.heap.size w (W1.setCell ⟨b7,7,none⟩ (.int .i64 (m.bars:Nat)))):=B1.out.setCell (p:=⟨b7,7,none⟩) (by simp;omega) _
  go_upto_region 10 with fail
  generalize hWF:W1.setCell ⟨b7,7,none⟩ (.int .i64 (m.bars:Nat))=WF at *
  go_wp2_with (first | (refine zAi (.tmp 7) rfl rfl b7 0 _ rfl EF.out.range ?_) | (refine zAK (.tmp 6) (.tmp 50) rfl rfl (w.heap.size+1) (m.event 3 st) Q.Ev.zero rfl rfl KF.out ?_;intro w9 hE9 hg9))
  refine zBi (p:=6) (w.heap.size+1) _ (by kernel_rfl) Tryz.underlying158 rfl (by kernel_rfl) rfl hE9 rfl ⟨rfl,BF.out.trans ⟨hg9.os,hg9.tape,hg9.output,hg9.size,fun k hk=>hg9.block k (by have:=BF.out.size;omega) (by simp;omega)⟩⟩
 ·have EF:Hid (zAV (W1.setCell ⟨b7,7,none⟩ (.int .i64 (m.bars:Nat))) b7 (m.event 4 st)):=by
   unfold Hid;rw[HV.out]
   exact E1.out.set _ 7 _ rfl
  have KF:Hid (zAV (W1.setCell ⟨b7,7,none⟩ (.int .i64 (m.bars:Nat))) (w.heap.size+1) Q.Ev.zero):=by unfold Hid;exact K2.out.of2 (by omega)
  have BF:Hid (Below w.heap.size w (W1.setCell ⟨b7,7,none⟩ (.int .i64 (m.bars:Nat)))):=B1.out.setCell (p:=⟨b7,7,none⟩) (by simp;omega) _
  go_upto_region 10 with fail
  generalize hWF:W1.setCell ⟨b7,7,none⟩ (.int .i64 (m.bars:Nat))=WF at *
  go_wp2_with (first | (refine zAi (.tmp 7) rfl rfl b7 0 _ rfl EF.out.range ?_) | (refine zAK (.tmp 6) (.tmp 50) rfl rfl (w.heap.size+1) (m.event 4 st) Q.Ev.zero rfl rfl KF.out ?_;intro w9 hE9 hg9))
  refine zBi (p:=6) (w.heap.size+1) _ (by kernel_rfl) Tryz.underlying158 rfl (by kernel_rfl) rfl hE9 rfl ⟨rfl,BF.out.trans ⟨hg9.os,hg9.tape,hg9.output,hg9.size,fun k hk=>hg9.block k (by have:=BF.out.size;omega) (by simp;omega)⟩⟩
end Go.Proofs.YtgceflcbckjjiaaGreatDoor
