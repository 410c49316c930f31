import Derived.Test.YtkmebkbpfmoeaaaGreatF15
set_option linter.unusedVariables false
set_option linter.unusedSimpArgs false
set_option maxHeartbeats 12800000
namespace Go.Proofs.YtkmebkbpfmoeaaaGreat
namespace P
structure Tidy (r:Rd):Prop where
 few:r.threads.length≤4
 c0:0≤r.count
 c8:r.count≤8
 none:r.threads=[]→r.count=0
 i0:0≤r.ifs
 i1:r.ifs≤8*((r.threads.length-1:Nat):Int)+r.count
 opn:∀ o∈r.opn,0≤o∧o<100
 thr:∀ t∈r.threads,0≤t.block∧t.block<100∧∀ s∈t.stmts,Small s
theorem tidy_zero:Tidy Rd.zero:=⟨by simp[Rd.zero],by simp[Rd.zero],by simp[Rd.zero],by simp[Rd.zero],by simp[Rd.zero],by simp[Rd.zero],by simp[Rd.zero],by simp[Rd.zero]⟩
theorem small_of {st:Stm} (h:Nums st) (ln lb:Int) (h0:0≤lb) (h1:lb<100):Small { st with line:=ln,label:=lb } :=
 ⟨h.d0,by have:=h.d1;show st.dest<100;omega,h.a0,by have:=h.a1;show st.a.n<100;omega,h.b0,by have:=h.b1;show st.b.n<100;omega,h0,h1⟩
theorem putLast_thr (ts:List Thr) (s:Stm) (hs:Small s) (h:∀ t∈ts,0≤t.block∧t.block<100∧∀ s∈t.stmts,Small s):∀ t∈putLast ts s,0≤t.block∧t.block<100∧∀ s∈t.stmts,Small s:=by
 match ts,h with
 | [],h=>intro t ht;simp[putLast] at ht
 | [a],h =>
  intro t ht
  simp[putLast] at ht
  subst ht
  have:=h a (by simp)
  refine⟨this.1,this.2.1,fun x hx=>?_⟩
  simp at hx
  rcases hx with hx | rfl
  ·exact this.2.2 x hx
  ·exact hs
 | a::b::r,h =>
  intro t ht
  simp only[putLast,List.mem_cons] at ht
  rcases ht with rfl | ht
  ·exact h t (by simp)
  ·exact putLast_thr (b::r) s hs (fun t ht=>h t (by simp at ht ⊢;right;exact ht)) t ht
theorem tidy_put {r:Rd} (s:Stm) (h:Tidy r) (hs:Small s):Tidy (put r s):=by
 have hl:(put r s).threads.length=r.threads.length:=putLast_length _ _
 refine⟨by rw[hl];exact h.few,h.c0,h.c8,fun e=>h.none (by have:=congrArg List.length e;rw[hl] at this;exact List.eq_nil_of_length_eq_zero (by simpa using this)),h.i0,by rw[hl];exact h.i1,h.opn,putLast_thr _ _ hs h.thr⟩
theorem tidy_takes {r:Rd} (ws:List (List UInt8)) (h:Tidy r):Tidy (takes { r with line:=r.line+1 } ws).1:=by
 have h0:Tidy { r with line:=r.line+1 }:=⟨h.few,h.c0,h.c8,h.none,h.i0,h.i1,h.opn,h.thr⟩
 unfold takes
 split
 ·unfold zIR
  by_cases hf:4≤r.threads.length∨0<r.opn.length
  ·rw[if_pos (by exact hf)];exact h0
  ·rw[if_neg (by exact hf)]
   split
   ·rename_i a c _
    by_cases hd:(digit c 2).2=true
    ·rw[if_pos hd]
     have hb:=digit_ok c 2 hd
     refine⟨by simp;omega,by simp,by simp,by simp,h.i0,?_,h.opn,?_⟩
     ·have:=h.i1
      have hn:=h.none
      have h8:=h.c8
      cases ht:r.threads with
      | nil=>rw[ht] at this;rw[hn ht] at this;simp at this ⊢;omega
      | cons t q=>rw[ht] at this;simp at this ⊢;omega
     ·intro t ht
      simp at ht
      rcases ht with ht | rfl
      ·exact h.thr t ht
      ·exact⟨hb.1,by show (digit c 2).1<100;omega,by simp⟩
    ·rw[if_neg hd];exact h0
   ·exact h0
 ·split
  ·exact h0
  ·rename_i _ hne
   simp only[]
   split
   ·rename_i hs
    have hn:=nums_statement ws hs
    split
    ·unfold ends
     split
     ·exact h0
     ·rename_i l hl
      have hm:l∈r.opn:=List.mem_of_getLast? hl
      have hlb:=h.opn l hm
      refine tidy_put _ ⟨h.few,h.c0,h.c8,h.none,h.i0,h.i1,fun o ho=>h.opn o (List.dropLast_subset _ ho),h.thr⟩ ?_
      exact small_of hn _ _ hlb.1 hlb.2
    ·split
     ·exact h0
     ·rename_i h8
      have h8':r.count<8:=by simpa using h8
      have hne':r.threads≠[]:=by simpa using hne
      have h1:Tidy { r with line:=r.line+1,count:=r.count+1 }:=⟨h.few,by have:=h.c0;show 0≤r.count+1;omega,by show r.count+1≤8;omega,fun e=>absurd e hne',h.i0,by have:=h.i1;show r.ifs≤8*((r.threads.length-1:Nat):Int)+(r.count+1);omega,h.opn,h.thr⟩
      split
      ·split
       ·exact h1
       ·rename_i ho
        unfold branch
        rw[if_neg ho]
        have hi:=h.i1
        have hf:=h.few
        have hi0:=h.i0
        have hb:r.ifs+1<100:=by omega
        refine tidy_put _ ⟨h1.few,h1.c0,h1.c8,h1.none,by show 0≤r.ifs+1;omega,by show r.ifs+1≤8*((r.threads.length-1:Nat):Int)+(r.count+1);omega,?_,h1.thr⟩ (small_of hn _ _ (by show 0≤r.ifs+1;omega) hb)
        intro o ho'
        simp at ho'
        rcases ho' with ho' | rfl
        ·exact h.opn o ho'
        ·exact⟨by omega,hb⟩
      ·refine tidy_put _ h1 ?_
       have:=small_of hn (r.line+1) 0 (by omega) (by omega)
       have e:({ (zIn ws).1 with line:=r.line+1 }:Stm)={ (zIn ws).1 with line:=r.line+1,label:=0 }:=by
        have:=hn.l0
        rw[← this]
       rw[e];exact this
   ·exact h0
theorem tidy_run (xs:List (List UInt8)):∀ r:Rd,Tidy r→Tidy (zJq r xs).1:=by
 induction xs with
 | nil=>intro r h;exact h
 | cons x q ih =>
  intro r h
  simp only[zJq]
  split
  ·exact ih _ (tidy_takes _ h)
  ·exact tidy_takes _ h
theorem lines_small (l:List UInt8):∀ t∈(lines l).1,0≤t.block∧t.block<100∧∀ s∈t.stmts,Small s:=by
 have h:=tidy_run (zIk 10 l).dropLast Rd.zero tidy_zero
 unfold lines
 simp only[]
 split
 ·split
  ·intro t ht;simp at ht
  ·exact h.thr
 ·intro t ht;simp at ht
end P
end Go.Proofs.YtkmebkbpfmoeaaaGreat
namespace Go.Proofs.YtkmebkbpfmoeaaaGreat
open Go Go.RowKit
set_option maxRecDepth 100000
namespace P
end P
theorem zDR (s:ByteArray) (w:World) (hs:s.size≤8192) :
  Calls Tryz.prog 24 #[.string s] w fun e w'=>∃ tv,e=.returned (.tuple #[.agg #[tv],.int .i64 (P.kernel s.toList).2.1,.int .i64 (P.kernel s.toList).2.2])∧(∃ a m c,tv=.slice a m c) ∧
   ((P.kernel s.toList).2.1=0→∃ bt tc,tv=.slice (some ⟨bt,0,none⟩) (P.kernel s.toList).1.length tc∧zAv w' w.heap.size tv (P.kernel s.toList).1∧(P.kernel s.toList).1.length≤4∧(∀ t∈(P.kernel s.toList).1,t.stmts.length<3000)∧∀ t∈(P.kernel s.toList).1,0≤t.block∧t.block<100∧∀ x∈t.stmts,P.Small x)∧Below w.heap.size w w':=by
 unfold P.kernel
 rw[zAD]
 by_cases h1:2000<s.size
 ·rw[if_pos h1]
  refine (zES s w hs h1).mono ?_
  rintro e w' ⟨rfl,hb⟩
  exact⟨_,rfl,⟨_,_,_,rfl⟩,fun h=>by simp at h,hb⟩
 rw[if_neg h1]
 cases h2:((P.lines s.toList).2 != 0)
 rotate_left
 ·refine (zEr s w hs (by omega) h2).mono ?_
  rintro e w' ⟨rfl,hb⟩
  exact⟨_,rfl,⟨_,_,_,rfl⟩,fun h=>by simp at h,hb⟩
 simp only[Bool.false_eq_true,if_false]
 cases h3:(P.zIF (P.lines s.toList).1 != 0)
 rotate_left
 ·refine (zEs s w hs (by omega) h2 h3).mono ?_
  rintro e w' ⟨rfl,hb⟩
  exact⟨_,rfl,⟨_,_,_,rfl⟩,fun h=>by simp at h,hb⟩
 simp only[Bool.false_eq_true,if_false]
 cases h4:(P.zIp (P.lines s.toList).1 (P.lines s.toList).1 != 0)
 rotate_left
 ·refine (zEa s w hs (by omega) h2 h3 h4).mono ?_
  rintro e w' ⟨rfl,hb⟩
  exact⟨_,rfl,⟨_,_,_,rfl⟩,fun h=>by simp at h,hb⟩
 simp only[Bool.false_eq_true,if_false]
 cases h5:P.over (P.lines s.toList).1
 rotate_left
 ·refine (zET s w hs (by omega) h2 h3 h4 h5).mono ?_
  rintro e w' ⟨rfl,hb⟩
  exact⟨_,rfl,⟨_,_,_,rfl⟩,fun h=>by simp at h,hb⟩
 ·refine (zGt s w hs (by omega) h2 h3 h4 h5).mono ?_
  rintro e w' ⟨bt,tc,rfl,hth,hb⟩
  obtain⟨_,k2,k3⟩:=P.zJg s.toList (by simpa using h2)
  exact⟨_,rfl,⟨_,_,_,rfl⟩,fun _=>⟨bt,tc,rfl,hth,k2,fun t ht=>by have:=k3 t ht;rw[zAD] at this;omega,P.lines_small s.toList⟩,hb⟩
namespace P
structure OkT (n:Nat) (ts:List Thr):Prop where
 len:∀ t∈ts,t.stmts.length<n
 sm:∀ t∈ts,0≤t.block∧t.block<100∧∀ x∈t.stmts,Small x
theorem small_os {st:Stm} (h:Small st) (o s:Int):Small { st with order:=o,scope:=s }:=⟨h.d0,h.d1,h.a0,h.a1,h.b0,h.b1,h.l0,h.l1⟩
theorem small_fence (st:Stm):Small (fenceS st):=⟨by simp[fenceS],by simp[fenceS],by simp[fenceS,Opd.zero],by simp[fenceS,Opd.zero],by simp[fenceS,Opd.zero],by simp[fenceS,Opd.zero],by simp[fenceS],by simp[fenceS]⟩
theorem OkT.fence {n:Nat} {ts:List Thr} (h:OkT n ts):OkT (3*n) (fenced ts):=by
 refine⟨fun t ht=>?_,fun t ht=>?_⟩
 ·obtain⟨u,hu,rfl⟩:=List.mem_map.1 ht
  have h1:=h.len u hu
  have h2:=zEX (isPure ts) u.stmts
  simp only[fencedT];omega
 ·obtain⟨u,hu,rfl⟩:=List.mem_map.1 ht
  obtain⟨h1,h2,h3⟩:=h.sm u hu
  refine⟨h1,h2,?_⟩
  simp only[fencedT]
  generalize isPure ts=pr
  generalize u.stmts=l at h3
  induction l with
  | nil=>intro x hx;simp[zJV] at hx
  | cons s r ih =>
   intro x hx
   simp only[zJV,List.mem_append] at hx
   rcases hx with hx | hx
   ·have hs:=h3 s (by simp)
    unfold zKj at hx
    split at hx
    ·simp only[List.mem_append] at hx
     rcases hx with (hx | hx) | hx
     ·split at hx
      ·simp at hx;rw[hx];exact small_fence s
      ·simp at hx
     ·simp at hx;rw[hx];exact small_os hs 1 s.scope
     ·split at hx
      ·simp at hx;rw[hx];exact small_fence s
      ·simp at hx
    ·simp at hx;rw[hx];exact hs
   ·exact ih (fun y hy=>h3 y (by simp[hy])) x hx
end P
namespace P
end P
end Go.Proofs.YtkmebkbpfmoeaaaGreat
namespace Go.Proofs.YtkmebkbpfmoeaaaGreat
namespace P
end P
end Go.Proofs.YtkmebkbpfmoeaaaGreat
namespace Go.Proofs.YtkmebkbpfmoeaaaGreat
open Go Go.RowKit
set_option maxRecDepth 100000
def zCD (m:Q.Mach) (ev:Value):Array Value:=#[.int .i64 m.thread,.int .i64 m.block,.int .i64 (m.unread:Nat),.int .i64 (m.regs.getD 0 0),.int .i64 (m.regs.getD 1 0),.int .i64 (m.regs.getD 2 0),.int .i64 (m.regs.getD 3 0),
 .int .u64 (m.made.getD 0 0:Nat),.int .u64 (m.made.getD 1 0:Nat),.int .u64 (m.made.getD 2 0:Nat),.int .u64 (m.made.getD 3 0:Nat),.int .u64 (m.asked:Nat),.int .i64 (m.bars:Nat),ev]
structure MachIn (w:World) (B g:Nat) (m:Q.Mach) (ev:Value):Prop where
 box:w.heap[g]?=some (.cells (zCD m ev) 147 (0,0))
 evs:w.ownsRow B 129 10 ev m.events.length (zAL m.events)
 ge:B≤g
 lr:m.regs.length=4
 lm:m.made.length=4
theorem MachIn.lt {w:World} {B g:Nat} {m:Q.Mach} {ev:Value} (h:MachIn w B g m ev):g<w.heap.size:=(Array.getElem?_eq_some_iff.1 h.box).1
theorem MachIn.facts {w:World} {B g:Nat} {m:Q.Mach} {ev:Value} (h:MachIn w B g m ev):w.cell? ⟨g,0,none⟩=some (.int .i64 m.thread)∧w.cell? ⟨g,1,none⟩=some (.int .i64 m.block)∧w.cell? ⟨g,2,none⟩=some (.int .i64 (m.unread:Nat))∧w.cell? ⟨g,3,none⟩=some (.int .i64 (m.regs.getD 0 0))∧w.cell? ⟨g,4,none⟩=some (.int .i64 (m.regs.getD 1 0))∧w.cell? ⟨g,5,none⟩=some (.int .i64 (m.regs.getD 2 0))∧w.cell? ⟨g,6,none⟩=some (.int .i64 (m.regs.getD 3 0)) ∧
  w.cell? ⟨g,7,none⟩=some (.int .u64 (m.made.getD 0 0:Nat))∧w.cell? ⟨g,8,none⟩=some (.int .u64 (m.made.getD 1 0:Nat))∧w.cell? ⟨g,9,none⟩=some (.int .u64 (m.made.getD 2 0:Nat))∧w.cell? ⟨g,10,none⟩=some (.int .u64 (m.made.getD 3 0:Nat))∧w.cell? ⟨g,11,none⟩=some (.int .u64 (m.asked:Nat))∧w.cell? ⟨g,12,none⟩=some (.int .i64 (m.bars:Nat))∧w.cell? ⟨g,13,none⟩=some ev∧(∀ j,w.frozen? ⟨g,j,none⟩=false):=by
 have hb:=h.box
 refine⟨?_,?_,?_,?_,?_,?_,?_,?_,?_,?_,?_,?_,?_,?_,fun j=>?_⟩<;>simp[World.cell?,World.frozen?,hb,zCD]
theorem MachIn.form {w:World} {B g:Nat} {m:Q.Mach} {ev:Value} (h:MachIn w B g m ev):∃ a c,ev=.slice a m.events.length c∧(0<m.events.length→∃ b,a=some ⟨b,0,none⟩∧b<w.heap.size):=by
 rcases h.evs.2 with ⟨e,h0⟩ | ⟨k,c,cur,e,_⟩
 ·exact⟨none,0,by rw[e,h0],fun h=>by omega⟩
 ·exact⟨_,c,e,fun _=>⟨k,rfl,(h.evs.lt k (by rw[e];rfl)).2⟩⟩
theorem MachIn.below {w w':World} {B g:Nat} {m:Q.Mach} {ev:Value} (h:MachIn w B g m ev) (hb:Below w.heap.size w w'):MachIn w' B g m ev :=
 ⟨(hb.block g h.lt).trans h.box,zAc h.evs (fun k e=>hb.block k (h.evs.lt k e).2),h.ge,h.lr,h.lm⟩
structure MFrame (w w':World) (g:Nat) (ev ev':Value):Prop where
 os:w'.os=w.os
 tape:w'.tape=w.tape
 output:w'.output=w.output
 size:w.heap.size≤w'.heap.size
 block:∀ k,k<w.heap.size→k≠g→ev.ownBlock≠some k→w'.heap[k]?=w.heap[k]?
 own:ev'.ownBlock=ev.ownBlock∨∃ b,ev'.ownBlock=some b∧w.heap.size≤b
theorem MFrame.of {w w':World} (hb:Below w.heap.size w w') (g:Nat) (ev:Value):MFrame w w' g ev ev:=⟨hb.os,hb.tape,hb.output,hb.size,fun k hk _ _=>hb.block k hk,Or.inl rfl⟩
theorem MFrame.trans {w w1 w2:World} {g:Nat} {a b c:Value} (h:MFrame w w1 g a b) (k:MFrame w1 w2 g b c):MFrame w w2 g a c:=by
 refine⟨k.os.trans h.os,k.tape.trans h.tape,k.output.trans h.output,Nat.le_trans h.size k.size,fun i hi hg ha=>?_,?_⟩
 ·refine (k.block i (by have:=h.size;omega) hg ?_).trans (h.block i hi hg ha)
  rcases h.own with e | ⟨q,e,hq⟩
  ·rw[e];exact ha
  ·rw[e];intro e2;simp at e2;omega
 ·rcases k.own with e | ⟨q,e,hq⟩
  ·rcases h.own with e2 | ⟨q2,e2,hq2⟩
   ·exact Or.inl (e.trans e2)
   ·exact Or.inr ⟨q2,e.trans e2,hq2⟩
  ·exact Or.inr ⟨q,e,by have:=h.size;omega⟩
theorem MFrame.below {w w':World} {B g:Nat} {m:Q.Mach} {ev ev':Value} (h:MFrame w w' g ev ev') (hm:MachIn w B g m ev) (hB:B≤w.heap.size):Below B w w' :=
 ⟨h.os,h.tape,h.output,h.size,fun k hk=>h.block k (by omega) (by have:=hm.ge;omega) (fun e=>by have:=(hm.evs.lt k e).1;omega)⟩
theorem MFrame.stm {w w':World} {B g:Nat} {m:Q.Mach} {ev ev':Value} (h:MFrame w w' g ev ev') (hm:MachIn w B g m ev) {b:Nat} {st:P.Stm} (hs:zAu w b st):zAu w' b st:=by
 refine hs.of_block (h.block b hs.lt ?_ ?_)
 ·intro e;have h1:=hm.box;unfold zAu at hs;rw[← e,hs] at h1;simp at h1
 ·intro e
  rcases hm.evs.2 with ⟨e1,_⟩ | ⟨g',cap,cur,e1,_,hh,_⟩
  ·rw[e1] at e;simp[Value.ownBlock] at e
  ·rw[e1] at e;simp[Value.ownBlock] at e
   subst e
   unfold zAu at hs;rw[hs] at hh;simp at hh
theorem zBZ (B g:Nat) (m:Q.Mach) (ev:Value) (rg:Bool) (nn:Int) (w:World) (h:MachIn w B g m ev) :
  Calls Tryz.prog 120 #[.pointer (some ⟨g,0,none⟩),.agg #[.bool rg,.int .i64 nn]] w fun e w'=>e=.returned (.int .i64 (m.value ⟨rg,nn⟩))∧Below w.heap.size w w':=by
 have hg:=h.lt
 obtain⟨c0,c1,c2,c3,c4,c5,c6,c7,c8,c9,c10,c11,c12,c13,cf⟩:=h.facts
 clear c0 c1 c2 c7 c8 c9 c10 c11 c12 c13 h
 have HV:Hid (m.value ⟨rg,nn⟩=if rg then (if nn<0∨4≤nn then 0 else m.regs.getD nn.toNat 0) else nn):=rfl
 have HB:Hid (∀ o,Below w.heap.size w (w.alloc o)):=fun o=>(Below.refl _ _).alloc (Nat.le_refl _) _
 have HB2:Hid (∀ o,Below w.heap.size w (w.alloc o).drew):=fun o=>((Below.refl _ _).alloc (Nat.le_refl _) _).drew
 cases rg
 ·have HE:Hid (m.value ⟨false,nn⟩=nn):=by unfold Hid;rw[HV.out];rfl
  go_enter Tryz.func120,Tryz.ntmps120
  go_wp2
  go_ret
  rw[HE.out];exact⟨rfl,HB.out _⟩
 by_cases h0:nn<0
 ·have HE:Hid (m.value ⟨true,nn⟩=0):=by unfold Hid;rw[HV.out];simp[h0]
  go_enter Tryz.func120,Tryz.ntmps120
  go_wp2
  go_ret
  rw[HE.out];exact⟨rfl,HB.out _⟩
 have hd0:decide (nn<0)=false:=decide_eq_false h0
 by_cases h4:4≤nn
 ·have HE:Hid (m.value ⟨true,nn⟩=0):=by unfold Hid;rw[HV.out];simp[h4]
  go_enter Tryz.func120,Tryz.ntmps120
  go_wp2
  go_ret
  rw[HE.out];exact⟨rfl,HB.out _⟩
 have hd4:decide (4≤nn)=false:=decide_eq_false h4
 have hcs:nn=0∨nn=1∨nn=2∨nn=3:=by omega
 generalize hr0:m.regs.getD 0 0=r0 at *
 have E0:=zAa hr0
 clear hr0
 generalize hr1:m.regs.getD 1 0=r1 at *
 have E1:=zAa hr1
 clear hr1
 generalize hr2:m.regs.getD 2 0=r2 at *
 have E2:=zAa hr2
 clear hr2
 generalize hr3:m.regs.getD 3 0=r3 at *
 have E3:=zAa hr3
 clear hr3
 rcases hcs with rfl | rfl | rfl | rfl
 ·have HE:Hid (m.value ⟨true,0⟩=r0):=E0.out
  clear HV h0 h4 hd0 hd4 E0 E1 E2 E3
  go_enter Tryz.func120,Tryz.ntmps120
  go_wp2
  go_quiet (fail)
  all_goals
   go_wp2
   go_ret
   rw[HE.out]
   exact⟨rfl,((Below.refl _ _).alloc (Nat.le_refl _) _).trans (zAC _ _ _)⟩
 ·have HE:Hid (m.value ⟨true,1⟩=r1):=E1.out
  clear HV h0 h4 hd0 hd4 E0 E1 E2 E3
  go_enter Tryz.func120,Tryz.ntmps120
  go_wp2
  go_quiet (fail)
  all_goals
   go_wp2
   go_ret
   rw[HE.out]
   exact⟨rfl,((Below.refl _ _).alloc (Nat.le_refl _) _).trans (zAC _ _ _)⟩
 ·have HE:Hid (m.value ⟨true,2⟩=r2):=E2.out
  clear HV h0 h4 hd0 hd4 E0 E1 E2 E3
  go_enter Tryz.func120,Tryz.ntmps120
  go_wp2
  go_quiet (fail)
  all_goals
   go_wp2
   go_ret
   rw[HE.out]
   exact⟨rfl,((Below.refl _ _).alloc (Nat.le_refl _) _).trans (zAC _ _ _)⟩
 ·have HE:Hid (m.value ⟨true,3⟩=r3):=E3.out
  clear HV h0 h4 hd0 hd4 E0 E1 E2 E3
  go_enter Tryz.func120,Tryz.ntmps120
  go_wp2
  go_quiet (fail)
  all_goals
   go_wp2
   go_ret
   rw[HE.out]
   exact⟨rfl,((Below.refl _ _).alloc (Nat.le_refl _) _).trans (zAC _ _ _)⟩
theorem zBc (B g:Nat) (m:Q.Mach) (ev:Value) (rg:Bool) (nn:Int) (w:World) (h:MachIn w B g m ev) :
  Calls Tryz.prog 119 #[.pointer (some ⟨g,0,none⟩),.agg #[.bool rg,.int .i64 nn]] w fun e w'=>e=.returned (.int .u64 (m.madeOf ⟨rg,nn⟩:Nat))∧Below w.heap.size w w':=by
 have hg:=h.lt
 obtain⟨c0,c1,c2,c3,c4,c5,c6,c7,c8,c9,c10,c11,c12,c13,cf⟩:=h.facts
 clear c0 c1 c2 c3 c4 c5 c6 c11 c12 c13 h
 have HV:Hid (m.madeOf ⟨rg,nn⟩=if rg then (if nn<0∨4≤nn then 0 else m.made.getD nn.toNat 0) else 0):=rfl
 have HB:Hid (∀ o,Below w.heap.size w (w.alloc o)):=fun o=>(Below.refl _ _).alloc (Nat.le_refl _) _
 have HB2:Hid (∀ o,Below w.heap.size w (w.alloc o).drew):=fun o=>((Below.refl _ _).alloc (Nat.le_refl _) _).drew
 cases rg
 ·have HE:Hid (m.madeOf ⟨false,nn⟩=0):=by unfold Hid;rw[HV.out];rfl
  go_enter Tryz.func119,Tryz.ntmps119
  go_wp2
  go_ret
  rw[HE.out];exact⟨rfl,HB.out _⟩
 by_cases h0:nn<0
 ·have HE:Hid (m.madeOf ⟨true,nn⟩=0):=by unfold Hid;rw[HV.out];simp[h0]
  go_enter Tryz.func119,Tryz.ntmps119
  go_wp2
  go_ret
  rw[HE.out];exact⟨rfl,HB.out _⟩
 have hd0:decide (nn<0)=false:=decide_eq_false h0
 by_cases h4:4≤nn
 ·have HE:Hid (m.madeOf ⟨true,nn⟩=0):=by unfold Hid;rw[HV.out];simp[h4]
  go_enter Tryz.func119,Tryz.ntmps119
  go_wp2
  go_ret
  rw[HE.out];exact⟨rfl,HB.out _⟩
 have hd4:decide (4≤nn)=false:=decide_eq_false h4
 have hcs:nn=0∨nn=1∨nn=2∨nn=3:=by omega
 generalize hr0:m.made.getD 0 0=r0 at *
 have E0:=zAa hr0
 clear hr0
 generalize hr1:m.made.getD 1 0=r1 at *
 have E1:=zAa hr1
 clear hr1
 generalize hr2:m.made.getD 2 0=r2 at *
 have E2:=zAa hr2
 clear hr2
 generalize hr3:m.made.getD 3 0=r3 at *
 have E3:=zAa hr3
 clear hr3
 rcases hcs with rfl | rfl | rfl | rfl
 ·have HE:Hid (m.madeOf ⟨true,0⟩=r0):=E0.out
  clear HV h0 h4 hd0 hd4 E0 E1 E2 E3
  go_enter Tryz.func119,Tryz.ntmps119
  go_wp2
  go_quiet (fail)
  all_goals
   go_wp2
   go_ret
   rw[HE.out]
   exact⟨rfl,((Below.refl _ _).alloc (Nat.le_refl _) _).trans (zAC _ _ _)⟩
 ·have HE:Hid (m.madeOf ⟨true,1⟩=r1):=E1.out
  clear HV h0 h4 hd0 hd4 E0 E1 E2 E3
  go_enter Tryz.func119,Tryz.ntmps119
  go_wp2
  go_quiet (fail)
  all_goals
   go_wp2
   go_ret
   rw[HE.out]
   exact⟨rfl,((Below.refl _ _).alloc (Nat.le_refl _) _).trans (zAC _ _ _)⟩
 ·have HE:Hid (m.madeOf ⟨true,2⟩=r2):=E2.out
  clear HV h0 h4 hd0 hd4 E0 E1 E2 E3
  go_enter Tryz.func119,Tryz.ntmps119
  go_wp2
  go_quiet (fail)
  all_goals
   go_wp2
   go_ret
   rw[HE.out]
   exact⟨rfl,((Below.refl _ _).alloc (Nat.le_refl _) _).trans (zAC _ _ _)⟩
 ·have HE:Hid (m.madeOf ⟨true,3⟩=r3):=E3.out
  clear HV h0 h4 hd0 hd4 E0 E1 E2 E3
  go_enter Tryz.func119,Tryz.ntmps119
  go_wp2
  go_quiet (fail)
  all_goals
   go_wp2
   go_ret
   rw[HE.out]
   exact⟨rfl,((Below.refl _ _).alloc (Nat.le_refl _) _).trans (zAC _ _ _)⟩
theorem zDv (B g:Nat) (m:Q.Mach) (ev:Value) (i:Nat) (w:World) (h:MachIn w B g m ev) (hi:i<m.events.length) (hn:m.events.length<10000) :
  Calls Tryz.prog 146 #[.pointer (some ⟨g,0,none⟩),.int .i64 (i:Int)] w fun e w'=>e=.returned (.int .i64 (m.valueOf i))∧w'=w:=by
 have hg:=h.lt
 obtain⟨a,c,rfl,ha⟩:=h.form
 obtain⟨b,rfl,hb⟩:=ha (by omega)
 obtain⟨c0,c1,c2,c3,c4,c5,c6,c7,c8,c9,c10,c11,c12,c13,cf⟩:=h.facts
 have hr:w.rangeAt b (i*10) (zAb (Q.ev m.events i)).toList:=by
  rw[zDP m.events i hi]
  intro j v hv
  have hj:j<10:=(List.getElem?_eq_some_iff.1 hv).1
  rw[h.evs.cellAt _ (by omega),zDO m.events i hi j hj];exact hv
 have cv:=hr 4 (.int .i64 (Q.ev m.events i).value) rfl
 have HE:Hid (m.valueOf i=(Q.ev m.events i).value):=rfl
 generalize (Q.ev m.events i).value=x at *
 have hil:(i:Int)<(m.events.length:Int):=by omega
 clear c0 c1 c2 c3 c4 c5 c6 c7 c8 c9 c10 c11 c12 h hr ha
 go_enter Tryz.func146,Tryz.ntmps146
 go_wp2
 go_ret
 rw[HE.out];exact⟨rfl,rfl⟩
theorem MachIn.set {w w':World} {B g:Nat} {m m':Q.Mach} {ev:Value} (h:MachIn w B g m ev) (hb:w'.heap[g]?=some (.cells (zCD m' ev) 147 (0,0))) (hk:∀ k,k≠g→w'.heap[k]?=w.heap[k]?) (he:m'.events=m.events) (hr:m'.regs.length=4) (hm:m'.made.length=4):MachIn w' B g m' ev:=by
 refine⟨hb,?_,h.ge,hr,hm⟩
 rw[he]
 refine zAc h.evs (fun k e=>hk k ?_)
 intro ek
 subst ek
 rcases h.evs.2 with ⟨e1,_⟩ | ⟨g',cap,cur,e1,_,hh,_⟩
 ·rw[e1] at e;simp[Value.ownBlock] at e
 ·rw[e1] at e;simp[Value.ownBlock] at e
  subst e
  rw[h.box] at hh;simp at hh
theorem MFrame.set {w:World} {g:Nat} (ev:Value) (l:List (Nat × Value)):MFrame w (l.foldl (fun w p=>w.setCell ⟨g,p.1,none⟩ p.2) w) g ev ev:=by
 induction l generalizing w with
 | nil=>exact MFrame.of (Below.refl _ _) g ev
 | cons p q ih =>
  refine MFrame.trans (w1:=w.setCell ⟨g,p.1,none⟩ p.2) ⟨rfl,rfl,rfl,by simp,fun k _ hk _=>Below.heap_setCell _ _ _ _ hk,Or.inl rfl⟩ ih
theorem zCE (B g:Nat) (m:Q.Mach) (ev:Value) (d v:Int) (s:Nat) (w:World) (h:MachIn w B g m ev) :
  Calls Tryz.prog 142 #[.pointer (some ⟨g,0,none⟩),.int .i64 d,.int .i64 v,.int .u64 (s:Nat)] w fun e w'=>e=.returned (.tuple #[])∧MachIn w' B g (m.give d v s) ev∧MFrame w w' g ev ev:=by
 have hg:=h.lt
 have H:=zAa h
 obtain⟨c0,c1,c2,c3,c4,c5,c6,c7,c8,c9,c10,c11,c12,c13,cf⟩:=h.facts
 by_cases h0:d<0
 ·have HE:Hid (m.give d v s=m):=by unfold Hid Q.Mach.give;rw[if_pos (Or.inl h0)]
  clear c0 c1 c2 c3 c4 c5 c6 c7 c8 c9 c10 c11 c12 c13 h
  go_enter Tryz.func142,Tryz.ntmps142
  go_wp2
  (try simp only[Exit.inBlock,Exit.then]);refine bodyPost_ret (results_none rfl _ _ _) rfl ?_
  rw[HE.out];exact⟨rfl,H.out,MFrame.of (Below.refl _ _) g ev⟩
 have hd0:decide (d<0)=false:=decide_eq_false h0
 by_cases h4:4≤d
 ·have HE:Hid (m.give d v s=m):=by unfold Hid Q.Mach.give;rw[if_pos (Or.inr h4)]
  clear c0 c1 c2 c3 c4 c5 c6 c7 c8 c9 c10 c11 c12 c13 h
  go_enter Tryz.func142,Tryz.ntmps142
  go_wp2
  (try simp only[Exit.inBlock,Exit.then]);refine bodyPost_ret (results_none rfl _ _ _) rfl ?_
  rw[HE.out];exact⟨rfl,H.out,MFrame.of (Below.refl _ _) g ev⟩
 have hd4:decide (4≤d)=false:=decide_eq_false h4
 have hcs:d=0∨d=1∨d=2∨d=3:=by omega
 obtain⟨th,bl,un,rs,md,ak,br,es⟩:=m
 have h1:=h.lr
 have h2:=h.lm
 obtain⟨r0,r1,r2,r3,rfl⟩:∃ a b c d,rs=[a,b,c,d]:=by
  match rs,h1 with
  | [a,b,c,d],_=>exact⟨a,b,c,d,rfl⟩
 obtain⟨m0,m1,m2,m3,rfl⟩:∃ a b c d,md=[a,b,c,d]:=by
  match md,h2 with
  | [a,b,c,d],_=>exact⟨a,b,c,d,rfl⟩
 have hbx:=h.box
 have HBX:=zAa hbx
 simp only[List.getD_cons_zero,List.getD_cons_succ] at c0 c1 c2 c3 c4 c5 c6 c7 c8 c9 c10 c11 c12 c13
 clear h h1 h2 hbx
 rcases hcs with rfl | rfl | rfl | rfl
 ·clear h0 h4 hd0 hd4
  go_enter Tryz.func142,Tryz.ntmps142
  go_wp2
  go_end0
  have FR:=MFrame.set (w:=w) (g:=g) ev [(3,.int .i64 v),(7,.int .u64 (s:Nat))]
  simp only[List.foldl_cons,List.foldl_nil] at FR
  refine⟨rfl,H.out.set ?_ (fun k hk=>by rw[Below.heap_setCell _ _ _ _ hk,Below.heap_setCell _ _ _ _ hk]) rfl rfl rfl,FR⟩
  rw[zAf (zAf HBX.out _ _)];rfl
 ·clear h0 h4 hd0 hd4
  go_enter Tryz.func142,Tryz.ntmps142
  go_wp2
  go_end0
  have FR:=MFrame.set (w:=w) (g:=g) ev [(4,.int .i64 v),(8,.int .u64 (s:Nat))]
  simp only[List.foldl_cons,List.foldl_nil] at FR
  refine⟨rfl,H.out.set ?_ (fun k hk=>by rw[Below.heap_setCell _ _ _ _ hk,Below.heap_setCell _ _ _ _ hk]) rfl rfl rfl,FR⟩
  rw[zAf (zAf HBX.out _ _)];rfl
 ·clear h0 h4 hd0 hd4
  go_enter Tryz.func142,Tryz.ntmps142
  go_wp2
  go_end0
  have FR:=MFrame.set (w:=w) (g:=g) ev [(5,.int .i64 v),(9,.int .u64 (s:Nat))]
  simp only[List.foldl_cons,List.foldl_nil] at FR
  refine⟨rfl,H.out.set ?_ (fun k hk=>by rw[Below.heap_setCell _ _ _ _ hk,Below.heap_setCell _ _ _ _ hk]) rfl rfl rfl,FR⟩
  rw[zAf (zAf HBX.out _ _)];rfl
 ·clear h0 h4 hd0 hd4
  go_enter Tryz.func142,Tryz.ntmps142
  go_wp2
  go_end0
  have FR:=MFrame.set (w:=w) (g:=g) ev [(6,.int .i64 v),(10,.int .u64 (s:Nat))]
  simp only[List.foldl_cons,List.foldl_nil] at FR
  refine⟨rfl,H.out.set ?_ (fun k hk=>by rw[Below.heap_setCell _ _ _ _ hk,Below.heap_setCell _ _ _ _ hk]) rfl rfl rfl,FR⟩
  rw[zAf (zAf HBX.out _ _)];rfl
theorem zCl (B g:Nat) (m:Q.Mach) (ev:Value) (d:Int) (r:Nat) (w:World) (h:MachIn w B g m ev) (hr:r<m.events.length) (hn:m.events.length<10000) :
  Calls Tryz.prog 135 #[.pointer (some ⟨g,0,none⟩),.int .i64 d,.int .i64 (r:Int)] w fun e w'=>e=.returned (.tuple #[])∧MachIn w' B g (m.giveRead d r) ev∧MFrame w w' g ev ev:=by
 have H:=zAa h
 clear h
 go_enter Tryz.func135,Tryz.ntmps135
 go_wp2_with (first
  | (go_at_call 146;refine (zDv B g m ev r _ H.out hr hn).mono ?_;rintro e w' ⟨rfl,hw'⟩;have hw':=hw'.symm;subst hw')
  | (go_at_call 107;refine (zDW _ _).mono ?_;rintro e w' ⟨rfl,hw'⟩;have hw':=hw'.symm;subst hw')
  | (go_at_call 142;refine (zCE B g m ev d _ _ _ H.out).mono ?_;rintro e w1 ⟨rfl,hm,hfr⟩))
 go_end0
 exact⟨rfl,hm,hfr⟩
end Go.Proofs.YtkmebkbpfmoeaaaGreat
