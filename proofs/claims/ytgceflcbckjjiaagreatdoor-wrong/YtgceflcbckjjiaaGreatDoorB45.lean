import Derived.Test.YtgceflcbckjjiaaGreatDoorB42
import Derived.Test.YtgceflcbckjjiaaGreatDoorB44
set_option linter.unusedVariables false
set_option linter.unusedSimpArgs false
namespace Go.Proofs.YtgceflcbckjjiaaGreatDoor
open Go Go.RowKit
set_option maxRecDepth 100000
namespace P
def isOpt (way:Int):Bool:=way==2||way==3
def isFen (way:Int):Bool:=way==1||way==3
def compileW (l:List UInt8) (way:Int):List UInt8 × Int × Int :=
 if way<0∨4≤way then ([],5,0) else if (kernel l).2.1 != 0 then ([],(kernel l).2.1,(kernel l).2.2) else (write (ways (kernel l).1 (isOpt way) (isFen way)),0,0)
structure OkT (n:Nat) (ts:List Thr):Prop where
 len:∀ t∈ts,t.stmts.length<n
 sm:∀ t∈ts,0≤t.block∧t.block<100∧∀ x∈t.stmts,Small x
theorem small_os {st:Stm} (h:Small st) (o s:Int):Small { st with order:=o,scope:=s }:=⟨h.d0,h.d1,h.a0,h.a1,h.b0,h.b1,h.l0,h.l1⟩
theorem small_narrow {st:Stm} (h:Small st) (ts:List Thr):Small (narrowS ts st):=by
 unfold narrowS;split
 ·exact small_os h st.order 0
 ·exact h
theorem small_fence (st:Stm):Small (fenceS st):=⟨by simp[fenceS],by simp[fenceS],by simp[fenceS,Opd.zero],by simp[fenceS,Opd.zero],by simp[fenceS,Opd.zero],by simp[fenceS,Opd.zero],by simp[fenceS],by simp[fenceS]⟩
theorem drop_sub (l:List Stm):∀ c,∀ x∈dropGo c l,x∈l:=by
 induction l with
 | nil=>intro c x h;simp[dropGo] at h
 | cons s r ih =>
  intro c x h
  simp only[dropGo] at h
  split at h
  ·split at h
   ·exact List.mem_cons_of_mem _ (ih _ x h)
   ·rcases List.mem_cons.1 h with h | h
    ·simp[h]
    ·exact List.mem_cons_of_mem _ (ih _ x h)
  ·rcases List.mem_cons.1 h with h | h
   ·simp[h]
   ·exact List.mem_cons_of_mem _ (ih _ x h)
theorem thin_sub (l:List Stm):∀ p,∀ x∈thinGo p l,x∈l:=by
 induction l with
 | nil=>intro c x h;simp[thinGo] at h
 | cons s r ih =>
  intro c x h
  simp only[thinGo] at h
  split at h
  ·exact List.mem_cons_of_mem _ (ih _ x h)
  ·rcases List.mem_cons.1 h with h | h
   ·simp[h]
   ·exact List.mem_cons_of_mem _ (ih _ x h)
theorem OkT.trim {n:Nat} {ts:List Thr} (h:OkT n ts):OkT n (trimmed ts):=by
 refine⟨fun t ht=>?_,fun t ht=>?_⟩
 ·obtain⟨u,hu,rfl⟩:=List.mem_map.1 ht
  have h1:=h.len u hu
  have h2:=thin_len (secondT ts u.block (narrowed ts u.stmts)) none
  have h3:(secondT ts u.block (narrowed ts u.stmts)).length≤u.stmts.length:=by
   unfold secondT
   have e:(narrowed ts u.stmts).length=u.stmts.length:=by simp[narrowed]
   split
   ·have:=drop_len (narrowed ts u.stmts) 0;omega
   ·omega
  simp only[trimT];omega
 ·obtain⟨u,hu,rfl⟩:=List.mem_map.1 ht
  obtain⟨h1,h2,h3⟩:=h.sm u hu
  refine⟨h1,h2,fun x hx=>?_⟩
  have hx:=thin_sub _ _ x hx
  have hy:x∈narrowed ts u.stmts:=by
   unfold secondT at hx
   split at hx
   ·exact drop_sub _ _ x hx
   ·exact hx
  obtain⟨y,hy2,rfl⟩:=List.mem_map.1 hy
  exact small_narrow (h3 y hy2) ts
theorem OkT.fence {n:Nat} {ts:List Thr} (h:OkT n ts):OkT (3*n) (fenced ts):=by
 refine⟨fun t ht=>?_,fun t ht=>?_⟩
 ·obtain⟨u,hu,rfl⟩:=List.mem_map.1 ht
  have h1:=h.len u hu
  have h2:=fencedS_len (isPure ts) u.stmts
  simp only[fencedT];omega
 ·obtain⟨u,hu,rfl⟩:=List.mem_map.1 ht
  obtain⟨h1,h2,h3⟩:=h.sm u hu
  refine⟨h1,h2,?_⟩
  simp only[fencedT]
  generalize isPure ts=pr
  generalize u.stmts=l at h3
  induction l with
  | nil=>intro x hx;simp[fencedS] at hx
  | cons s r ih =>
   intro x hx
   simp only[fencedS,List.mem_append] at hx
   rcases hx with hx | hx
   ·have hs:=h3 s (by simp)
    unfold fenced1 at hx
    split at hx
    ·simp only[List.mem_append] at hx
     rcases hx with (hx | hx) | hx
     ·split at hx
      ·simp at hx;rw[hx];exact small_fence s
      ·simp at hx
     ·simp at hx;rw[hx];exact small_os hs 1 s.scope
     ·split at hx
      ·simp at hx;rw[hx];exact small_fence s
      ·simp at hx
    ·simp at hx;rw[hx];exact hs
   ·exact ih (fun y hy=>h3 y (by simp[hy])) x hx
end P
theorem kernel_ne (l:List UInt8) (h:(P.kernel l).2.1=0):0<(P.kernel l).1.length:=by
 unfold P.kernel at h ⊢
 split at h
 ·simp at h
 ·rename_i h1
  rw[if_neg h1]
  split at h
  ·simp at h
  ·rename_i h2
   rw[if_neg h2]
   split at h
   ·simp at h
   ·rename_i h3
    rw[if_neg h3]
    split at h
    ·simp at h
    ·rename_i h4
     rw[if_neg h4]
     split at h
     ·simp at h
     ·rename_i h5
      rw[if_neg h5]
      have:=(P.lines_ok l (by simpa using h2)).1
      exact List.length_pos_iff.2 this
theorem wpList_load_prog {ops:Array Oper} {rest:List Oper} {op:Oper} {a:Act} {w:World} {Q:Exit→Act→World→Prop} (x:Operand) (hgd:op.guard=none) (ho:op.op=.load 48 x)
  (g:Nat) (v:Value) (hx:a.eval x=.pointer (some ⟨g,0,none⟩)) (hg:w.heap[g]?=some (.cells #[v] 48 (0,0)))
  (h:wpList Tryz.prog ops Q rest (a.put op.dst (.agg #[v])) w):wpList Tryz.prog ops Q (op::rest) a w :=
 wpList_load_row hgd _ x ho g hx _ _ hg _ Tryz.underlying48 rfl (by kernel_rfl) h
theorem progB {w:World} {g:Nat} {v:Value} (h:w.heap[g]?=some (.cells #[v] 48 (0,0))):g<w.heap.size∧w.cell? ⟨g,0,none⟩=some v∧w.frozen? ⟨g,0,none⟩=false:=by
 refine⟨(Array.getElem?_eq_some_iff.1 h).1,?_,?_⟩<;>simp[World.cell?,World.frozen?,h]
theorem boxed {w W w2:World} {g bt n cap:Nat} {v:Value} {ts:List P.Thr} (hbw:Below w.heap.size w W) (hg:W.heap[g]?=some (.cells #[v] 48 (0,0))) (hwg:w.heap.size≤g) (hth:ThreadsAt w2 W.heap.size (.slice (some ⟨bt,0,none⟩) n cap) ts) (hb:Below W.heap.size W w2) :
  ThreadsAt (w2.setCell ⟨g,0,none⟩ (.slice (some ⟨bt,0,none⟩) n cap)) g (.slice (some ⟨bt,0,none⟩) n cap) ts∧Below w.heap.size w (w2.setCell ⟨g,0,none⟩ (.slice (some ⟨bt,0,none⟩) n cap))∧(w2.setCell ⟨g,0,none⟩ (.slice (some ⟨bt,0,none⟩) n cap)).heap[g]?=some (.cells #[.slice (some ⟨bt,0,none⟩) n cap] 48 (0,0))∧w2.cell? ⟨g,0,none⟩=some v∧w2.frozen? ⟨g,0,none⟩=false∧g<w2.heap.size:=by
 have hlt:g<W.heap.size:=(Array.getElem?_eq_some_iff.1 hg).1
 have h2:=(hb.block g hlt).trans hg
 obtain⟨p1,p2,p3⟩:=progB h2
 refine⟨(hth.base (by omega)).set _,(hbw.trans (hb.mono hbw.size)).setCell (p:=⟨g,0,none⟩) hwg _,?_,p2,p3,p1⟩
 rw[setCell_block h2];rfl
set_option maxHeartbeats 6400000 in
theorem compileW_any (s:ByteArray) (way:Int) (w:World) (hs:s.size≤8192) :
  Calls Tryz.prog 15 #[.string s,.int .i64 way] w fun e w'=>∃ t,e=.returned (.tuple #[.string t,.int .i64 (P.compileW s.toList way).2.1,.int .i64 (P.compileW s.toList way).2.2])∧Txt 10000000 t (P.compileW s.toList way).1∧Below w.heap.size w w':=by
 by_cases h1:way<0
 ·have HE:Hid (P.compileW s.toList way=([],5,0)):=by unfold Hid P.compileW;rw[if_pos (Or.inl h1)]
  have hd:decide (way<0)=true:=by simpa using h1
  go_enter Tryz.func15,Tryz.ntmps15
  go_wp2
  go_ret3
  rw[HE.out]
  exact⟨_,rfl,⟨by rw[lit_toList],by simp[lit_size]⟩,Below.refl _ _⟩
 by_cases h2:4≤way
 ·have HE:Hid (P.compileW s.toList way=([],5,0)):=by unfold Hid P.compileW;rw[if_pos (Or.inr h2)]
  have hd:decide (way<0)=false:=by simpa using h1
  have hd2:decide (4≤way)=true:=by simpa using h2
  go_enter Tryz.func15,Tryz.ntmps15
  go_wp2
  go_ret3
  rw[HE.out]
  exact⟨_,rfl,⟨by rw[lit_toList],by simp[lit_size]⟩,Below.refl _ _⟩
 have h3:¬ (way<0∨4≤way):=by omega
 cases hf:((P.kernel s.toList).2.1 != 0)
 rotate_left
 ·have HE:Hid (P.compileW s.toList way=([],(P.kernel s.toList).2.1,(P.kernel s.toList).2.2)):=by unfold Hid P.compileW;rw[if_neg h3,hf];rfl
  have hd:decide (way<0)=false:=by simpa using h1
  have hd2:decide (4≤way)=false:=by simpa using h2
  go_enter Tryz.func15,Tryz.ntmps15
  go_wp2_with (first
   | (go_at_call 23;refine (kernel_any s _ hs).mono ?_;rintro e w1 ⟨tv,rfl,⟨ta,tm,tc,rfl⟩,h2,hb⟩;clear h2))
  go_ret3
  rw[HE.out]
  exact⟨_,rfl,⟨by rw[lit_toList],by simp[lit_size]⟩,hb.alloc hb.size _⟩
 have hf0:(P.kernel s.toList).2.1=0:=by simpa using hf
 have HE:Hid (P.compileW s.toList way=(P.write (P.ways (P.kernel s.toList).1 (P.isOpt way) (P.isFen way)),0,0)):=by unfold Hid P.compileW;rw[if_neg h3,hf];rfl
 have hw4:way=0∨way=1∨way=2∨way=3:=by omega
 clear h1 h2 h3
 have HNE:Hid (0<(P.kernel s.toList).1.length):=kernel_ne s.toList hf0
 rcases hw4 with rfl | rfl | rfl | rfl
 ·go_enter Tryz.func15,Tryz.ntmps15
  go_wp2_with (first
   | (go_at_call 23;refine (kernel_any s _ hs).mono ?_;rintro e w1 ⟨tv,rfl,h1,h2,hb⟩;obtain⟨bt,tc,rfl,hth,k1,k2,k3⟩:=h2 hf0;have HT:=hide hth;have OK0:Hid (P.OkT 3000 (P.kernel s.toList).1):=⟨k2,k3⟩;have hn0:0<(P.kernel s.toList).1.length:=HNE.out;have hB0:Below w.heap.size w (w1.alloc (.cells #[.slice (some ⟨bt,0,none⟩) (P.kernel s.toList).1.length tc] 48)):=hb.alloc hb.size _;have BX0:(w1.alloc (.cells #[.slice (some ⟨bt,0,none⟩) (P.kernel s.toList).1.length tc] 48)).heap[w1.heap.size]?=some (.cells #[.slice (some ⟨bt,0,none⟩) (P.kernel s.toList).1.length tc] 48 (0,0)):=heap_alloc_new w1 _;have TH0:Hid (ThreadsAt (w1.alloc (.cells #[.slice (some ⟨bt,0,none⟩) (P.kernel s.toList).1.length tc] 48)) w.heap.size (.slice (some ⟨bt,0,none⟩) (P.kernel s.toList).1.length tc) (P.kernel s.toList).1):=HT.out.keep (fun k hk=>Below.heap_alloc _ _ _ hk);have hw1:=hb.size;have HBX0:=hide BX0;have HB0:=hide hB0;clear hth k2 k3 h2 BX0 hB0 HT h1)
   | (go_at_call 27;refine (write_any w.heap.size bt _ tc (P.kernel s.toList).1 _ (by exact TH0.out) rfl (by omega) (fun t ht=>by have:=OK0.out.len t ht;omega) OK0.out.sm).mono ?_;rintro e wz ⟨t,rfl,ht,hbz⟩))
  go_ret3
  rw[HE.out]
  exact⟨t,rfl,ht,HB0.out.trans (hbz.mono HB0.out.size)⟩
 ·go_enter Tryz.func15,Tryz.ntmps15
  go_wp2_with (first
   | (go_at_call 23;refine (kernel_any s _ hs).mono ?_;rintro e w1 ⟨tv,rfl,h1,h2,hb⟩;obtain⟨bt,tc,rfl,hth,k1,k2,k3⟩:=h2 hf0;have HT:=hide hth;have OK0:Hid (P.OkT 3000 (P.kernel s.toList).1):=⟨k2,k3⟩;have hn0:0<(P.kernel s.toList).1.length:=HNE.out;have hB0:Below w.heap.size w (w1.alloc (.cells #[.slice (some ⟨bt,0,none⟩) (P.kernel s.toList).1.length tc] 48)):=hb.alloc hb.size _;have BX0:(w1.alloc (.cells #[.slice (some ⟨bt,0,none⟩) (P.kernel s.toList).1.length tc] 48)).heap[w1.heap.size]?=some (.cells #[.slice (some ⟨bt,0,none⟩) (P.kernel s.toList).1.length tc] 48 (0,0)):=heap_alloc_new w1 _;have TH0:Hid (ThreadsAt (w1.alloc (.cells #[.slice (some ⟨bt,0,none⟩) (P.kernel s.toList).1.length tc] 48)) w.heap.size (.slice (some ⟨bt,0,none⟩) (P.kernel s.toList).1.length tc) (P.kernel s.toList).1):=HT.out.keep (fun k hk=>Below.heap_alloc _ _ _ hk);have hw1:=hb.size;have HBX0:=hide BX0;have HB0:=hide hB0;clear hth k2 k3 h2 BX0 hB0 HT h1)
   | (go_at_call 26;refine (fenced_any w.heap.size bt _ tc (P.kernel s.toList).1 _ (by exact TH0.out) rfl (by omega) hn0 (fun t ht=>by have:=OK0.out.len t ht;omega)).mono ?_;rintro e w2 ⟨bt2,tc2,rfl,hth2,hb2⟩;obtain⟨g1,g2,g3,g4,g5,g6⟩:=boxed HB0.out HBX0.out hw1 hth2 hb2;have TH2:=hide g1;have HB2:=hide g2;have BX2:=hide g3;clear g1 g2 g3 hth2)
   | (generalize w2.setCell ⟨w1.heap.size,0,none⟩ (.slice (some ⟨bt2,0,none⟩) (P.kernel s.toList).1.length tc2)=W2 at *;refine wpList_load_prog (.tmp 7) rfl rfl w1.heap.size _ rfl (by exact BX2.out) ?_)
   | (go_at_call 27;refine (write_any w1.heap.size bt2 _ tc2 (P.fenced (P.kernel s.toList).1) _ (by exact TH2.out) (by simp[P.fenced]) (by omega) (fun t ht=>by have:=OK0.out.fence.len t ht;omega) OK0.out.fence.sm).mono ?_;rintro e wz ⟨t,rfl,ht,hbz⟩))
  go_ret3
  rw[HE.out]
  exact⟨t,rfl,ht,HB2.out.trans (hbz.mono HB2.out.size)⟩
 ·go_enter Tryz.func15,Tryz.ntmps15
  go_wp2_with (first
   | (go_at_call 23;refine (kernel_any s _ hs).mono ?_;rintro e w1 ⟨tv,rfl,h1,h2,hb⟩;obtain⟨bt,tc,rfl,hth,k1,k2,k3⟩:=h2 hf0;have HT:=hide hth;have OK0:Hid (P.OkT 3000 (P.kernel s.toList).1):=⟨k2,k3⟩;have hn0:0<(P.kernel s.toList).1.length:=HNE.out;have hB0:Below w.heap.size w (w1.alloc (.cells #[.slice (some ⟨bt,0,none⟩) (P.kernel s.toList).1.length tc] 48)):=hb.alloc hb.size _;have BX0:(w1.alloc (.cells #[.slice (some ⟨bt,0,none⟩) (P.kernel s.toList).1.length tc] 48)).heap[w1.heap.size]?=some (.cells #[.slice (some ⟨bt,0,none⟩) (P.kernel s.toList).1.length tc] 48 (0,0)):=heap_alloc_new w1 _;have TH0:Hid (ThreadsAt (w1.alloc (.cells #[.slice (some ⟨bt,0,none⟩) (P.kernel s.toList).1.length tc] 48)) w.heap.size (.slice (some ⟨bt,0,none⟩) (P.kernel s.toList).1.length tc) (P.kernel s.toList).1):=HT.out.keep (fun k hk=>Below.heap_alloc _ _ _ hk);have hw1:=hb.size;have HBX0:=hide BX0;have HB0:=hide hB0;clear hth k2 k3 h2 BX0 hB0 HT h1)
   | (go_at_call 25;refine (trimmed_any w.heap.size bt _ tc (P.kernel s.toList).1 _ (by exact TH0.out) rfl (by omega) hn0 (fun t ht=>by have:=OK0.out.len t ht;omega)).mono ?_;rintro e w2 ⟨bt2,tc2,rfl,hth2,hb2⟩;obtain⟨g1,g2,g3,g4,g5,g6⟩:=boxed HB0.out HBX0.out hw1 hth2 hb2;have TH2:=hide g1;have HB2:=hide g2;have BX2:=hide g3;clear g1 g2 g3 hth2)
   | (generalize w2.setCell ⟨w1.heap.size,0,none⟩ (.slice (some ⟨bt2,0,none⟩) (P.kernel s.toList).1.length tc2)=W2 at *;refine wpList_load_prog (.tmp 7) rfl rfl w1.heap.size _ rfl (by exact BX2.out) ?_)
   | (go_at_call 27;refine (write_any w1.heap.size bt2 _ tc2 (P.trimmed (P.kernel s.toList).1) _ (by exact TH2.out) (by simp[P.trimmed]) (by omega) (fun t ht=>by have:=OK0.out.trim.len t ht;omega) OK0.out.trim.sm).mono ?_;rintro e wz ⟨t,rfl,ht,hbz⟩))
  go_ret3
  rw[HE.out]
  exact⟨t,rfl,ht,HB2.out.trans (hbz.mono HB2.out.size)⟩
 ·go_enter Tryz.func15,Tryz.ntmps15
  go_wp2_with (first
   | (go_at_call 23;refine (kernel_any s _ hs).mono ?_;rintro e w1 ⟨tv,rfl,h1,h2,hb⟩;obtain⟨bt,tc,rfl,hth,k1,k2,k3⟩:=h2 hf0;have HT:=hide hth;have OK0:Hid (P.OkT 3000 (P.kernel s.toList).1):=⟨k2,k3⟩;have hn0:0<(P.kernel s.toList).1.length:=HNE.out;have hB0:Below w.heap.size w (w1.alloc (.cells #[.slice (some ⟨bt,0,none⟩) (P.kernel s.toList).1.length tc] 48)):=hb.alloc hb.size _;have BX0:(w1.alloc (.cells #[.slice (some ⟨bt,0,none⟩) (P.kernel s.toList).1.length tc] 48)).heap[w1.heap.size]?=some (.cells #[.slice (some ⟨bt,0,none⟩) (P.kernel s.toList).1.length tc] 48 (0,0)):=heap_alloc_new w1 _;have TH0:Hid (ThreadsAt (w1.alloc (.cells #[.slice (some ⟨bt,0,none⟩) (P.kernel s.toList).1.length tc] 48)) w.heap.size (.slice (some ⟨bt,0,none⟩) (P.kernel s.toList).1.length tc) (P.kernel s.toList).1):=HT.out.keep (fun k hk=>Below.heap_alloc _ _ _ hk);have hw1:=hb.size;have HBX0:=hide BX0;have HB0:=hide hB0;clear hth k2 k3 h2 BX0 hB0 HT h1)
   | (go_at_call 25;refine (trimmed_any w.heap.size bt _ tc (P.kernel s.toList).1 _ (by exact TH0.out) rfl (by omega) hn0 (fun t ht=>by have:=OK0.out.len t ht;omega)).mono ?_;rintro e w2 ⟨bt2,tc2,rfl,hth2,hb2⟩;obtain⟨g1,g2,g3,g4,g5,g6⟩:=boxed HB0.out HBX0.out hw1 hth2 hb2;have TH2:=hide g1;have HB2:=hide g2;have BX2:=hide g3;clear g1 g2 g3 hth2)
   | (generalize w2.setCell ⟨w1.heap.size,0,none⟩ (.slice (some ⟨bt2,0,none⟩) (P.kernel s.toList).1.length tc2)=W2 at *;refine wpList_load_prog (.tmp 7) rfl rfl w1.heap.size _ rfl (by exact BX2.out) ?_)
   | (go_at_call 26;refine (fenced_any w1.heap.size bt2 _ tc2 (P.trimmed (P.kernel s.toList).1) _ (by exact TH2.out) (by simp[P.trimmed]) (by omega) hn0 (fun t ht=>by have:=OK0.out.trim.len t ht;omega)).mono ?_;rintro e w3 ⟨bt3,tc3,rfl,hth3,hb3⟩;obtain⟨g1,g2,g3,g7,g8,g9⟩:=boxed HB2.out BX2.out hw1 hth3 hb3;have TH3:=hide g1;have HB3:=hide g2;have BX3:=hide g3;clear g1 g2 g3 hth3)
   | (generalize w3.setCell ⟨w1.heap.size,0,none⟩ (.slice (some ⟨bt3,0,none⟩) (P.kernel s.toList).1.length tc3)=W3 at *;refine wpList_load_prog (.tmp 7) rfl rfl w1.heap.size _ rfl (by exact BX3.out) ?_)
   | (go_at_call 27;refine (write_any w1.heap.size bt3 _ tc3 (P.fenced (P.trimmed (P.kernel s.toList).1)) _ (by exact TH3.out) (by simp[P.trimmed,P.fenced]) (by omega) (fun t ht=>by have:=OK0.out.trim.fence.len t ht;omega) OK0.out.trim.fence.sm).mono ?_;rintro e wz ⟨t,rfl,ht,hbz⟩))
  go_ret3
  rw[HE.out]
  exact⟨t,rfl,ht,HB3.out.trans (hbz.mono HB3.out.size)⟩
end Go.Proofs.YtgceflcbckjjiaaGreatDoor
