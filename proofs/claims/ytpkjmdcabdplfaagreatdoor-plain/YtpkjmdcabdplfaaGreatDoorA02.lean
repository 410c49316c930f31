import Derived.Test.YtpkjmdcabdplfaaGreatDoorProg
import Derived.Handy
import Derived.Lib.Strings
import Derived.Deep.MidRow
import Derived.Test.YtpkjmdcabdplfaaGreatDoorA01
set_option linter.unusedVariables false
set_option linter.unusedSimpArgs false
namespace Go.Proofs.YtpkjmdcabdplfaaGreatDoor
open Go Go.RowKit
set_option maxRecDepth 100000

set_option maxHeartbeats 400000 in
theorem digit_any (c n : Int) (w : World) (hc : 0 ≤ c) (hc2 : c < 256) :
    Calls Tryz.prog 80 #[.int .u8 c, .int .i64 n] w fun e w' => e = .returned (.tuple #[.int .i64 (c - 48), .bool (decide (48 ≤ c) && decide (c - 48 < n))]) ∧ w' = w := by
  go_enter Tryz.func80, Tryz.ntmps80
  go_wp2
  all_goals go_ret2
  all_goals simp [*]
  all_goals omega

set_option maxHeartbeats 400000 in
theorem variable_any (s : ByteArray) (w : World) :
    Calls Tryz.prog 102 #[.string s] w fun e w' => e = .returned (.tuple #[.int .i64 (P.varOf s.toList).1, .bool (P.varOf s.toList).2]) ∧ w' = w := by
  go_enter Tryz.func102, Tryz.ntmps102
  go_wp2
  all_goals go_ret2
  all_goals simp [P.varOf, *]

set_option maxHeartbeats 400000 in
theorem order_any (s : ByteArray) (w : World) :
    Calls Tryz.prog 103 #[.string s] w fun e w' => e = .returned (.tuple #[.int .i64 (P.order s.toList).1, .bool (P.order s.toList).2]) ∧ w' = w := by
  go_enter Tryz.func103, Tryz.ntmps103
  go_wp2
  all_goals go_ret2
  all_goals simp [P.order, *]

set_option maxHeartbeats 400000 in
theorem scope_any (s : ByteArray) (w : World) :
    Calls Tryz.prog 105 #[.string s] w fun e w' => e = .returned (.tuple #[.int .i64 (P.scope s.toList).1, .bool (P.scope s.toList).2]) ∧ w' = w := by
  go_enter Tryz.func105, Tryz.ntmps105
  go_wp2
  all_goals go_ret2
  all_goals simp [P.scope, *]

set_option maxHeartbeats 400000 in
theorem sign_any (s : ByteArray) (w : World) :
    Calls Tryz.prog 106 #[.string s] w fun e w' => e = .returned (.tuple #[.int .i64 (P.sign s.toList).1, .bool (P.sign s.toList).2]) ∧ w' = w := by
  go_enter Tryz.func106, Tryz.ntmps106
  go_wp2
  all_goals go_ret2
  all_goals simp [P.sign, *]

set_option maxHeartbeats 400000 in
theorem allows_any (k o : Int) (w : World) :
    Calls Tryz.prog 104 #[.int .i64 k, .int .i64 o] w fun e w' => e = .returned (.bool (P.allows k o)) ∧ w' = w := by
  go_enter Tryz.func104, Tryz.ntmps104
  go_wp2
  all_goals go_ret
  all_goals simp [P.allows, *]

set_option maxHeartbeats 400000 in
theorem reads_any (k : Int) (w : World) :
    Calls Tryz.prog 51 #[.int .i64 k] w fun e w' => e = .returned (.bool (P.reads k)) ∧ w' = w := by
  go_enter Tryz.func51, Tryz.ntmps51
  go_wp2
  all_goals go_ret
  all_goals simp [P.reads, *]

set_option maxHeartbeats 400000 in
theorem writes_any (k : Int) (w : World) :
    Calls Tryz.prog 52 #[.int .i64 k] w fun e w' => e = .returned (.bool (P.writes k)) ∧ w' = w := by
  go_enter Tryz.func52, Tryz.ntmps52
  go_wp2
  all_goals go_ret
  all_goals simp [P.writes, *]

end Go.Proofs.YtpkjmdcabdplfaaGreatDoor

namespace Go.Proofs.YtpkjmdcabdplfaaGreatDoor
open Go Go.RowKit
set_option maxRecDepth 100000

theorem toList_data (s : ByteArray) : s.toList = s.data.toList := ByteArray.toList_eq s
theorem size_toList (s : ByteArray) : s.toList.length = s.size := by rw [toList_data]; rfl

theorem toList_one (s : ByteArray) (h : s.size = 1) : s.toList = [s[0]] := by
  rw [toList_data]
  rcases s with ⟨⟨l⟩⟩
  match l, h with
  | [a], _ => rfl

theorem toList_two (s : ByteArray) (h : s.size = 2) : s.toList = [s[0], s[1]] := by
  rw [toList_data]
  rcases s with ⟨⟨l⟩⟩
  match l, h with
  | [a, b], _ => rfl

theorem u8_eq (a : UInt8) (n : Nat) (hn : n < 256) : ((a.toNat : Int) == (n : Int)) = (a == UInt8.ofNat n) := by
  rw [Bool.eq_iff_iff]; simp [← UInt8.toNat_inj]; omega

theorem register_two (s : ByteArray) (h : s.size = 2) : P.register s.toList = if ((s[0].toNat : Int) != 114) = true then (0, false) else P.digit s[1] 4 := by
  rw [toList_two s h]
  have e : ((s[0].toNat : Int) != 114) = (s[0] != 114) := by
    have := u8_eq s[0] 114 (by omega)
    simp only [bne]; exact congrArg (!·) this
  rw [e]
  by_cases h1 : s[0] = 114 <;> simp [P.register, h1]

theorem register_no (s : ByteArray) (h : ¬ s.size = 2) : P.register s.toList = (0, false) := by
  have := size_toList s
  unfold P.register
  split
  · simp_all
  · rfl

set_option maxHeartbeats 400000 in
theorem register_any (s : ByteArray) (w : World) :
    Calls Tryz.prog 94 #[.string s] w fun e w' => e = .returned (.tuple #[.int .i64 (P.register s.toList).1, .bool (P.register s.toList).2]) ∧ w' = w := by
  by_cases h2 : s.size = 2
  · have H := register_two s h2
    have hb : s[1].toNat < 256 := UInt8.toNat_lt _
    go_enter Tryz.func94, Tryz.ntmps94
    go_wp2_with (go_at_call 80; refine (digit_any _ _ _ (by omega) (by omega)).mono ?_; rintro e w' ⟨rfl, rfl⟩)
    all_goals go_ret2
    all_goals simp [P.digit, *]
  · have H := register_no s h2
    go_enter Tryz.func94, Tryz.ntmps94
    go_wp2
    go_ret2
    simp [*]

theorem operand_one (s : ByteArray) (h : s.size = 1) : P.operand s.toList = (⟨false, (P.digit s[0] 4).1⟩, (P.digit s[0] 4).2) := by
  rw [toList_one s h]; rfl

theorem operand_no (s : ByteArray) (h : ¬ s.size = 1) : P.operand s.toList = (⟨true, (P.register s.toList).1⟩, (P.register s.toList).2) := by
  have := size_toList s
  unfold P.operand
  split
  · simp_all
  · rfl

set_option maxHeartbeats 400000 in
theorem operand_any (s : ByteArray) (w : World) :
    Calls Tryz.prog 93 #[.string s] w fun e w' => e = .returned (.tuple #[.agg #[.bool (P.operand s.toList).1.reg, .int .i64 (P.operand s.toList).1.n], .bool (P.operand s.toList).2]) ∧ Below w.heap.size w w' := by
  by_cases h2 : s.size = 1
  · have H := operand_one s h2
    have hb : s[0].toNat < 256 := UInt8.toNat_lt _
    go_enter Tryz.func93, Tryz.ntmps93
    go_wp2_with (go_at_call 80; refine (digit_any _ _ _ (by omega) (by omega)).mono ?_; rintro e w' ⟨rfl, rfl⟩)
    go_returns
    exact ⟨by simp [H, P.digit], by go_grown⟩
  · have H := operand_no s h2
    go_enter Tryz.func93, Tryz.ntmps93
    go_wp2_with (go_at_call 94; refine (register_any _ _).mono ?_; rintro e w' ⟨rfl, rfl⟩)
    go_returns
    exact ⟨by simp [H], by go_grown⟩

end Go.Proofs.YtpkjmdcabdplfaaGreatDoor

namespace Go.Proofs.YtpkjmdcabdplfaaGreatDoor
open Go Go.RowKit
set_option maxRecDepth 100000

theorem ba_of (x : ByteArray) (l : List UInt8) (h : x.data.toList = l) : x = ⟨l.toArray⟩ := by
  subst h
  cases x
  simp
theorem mk_toList (l : List UInt8) : (⟨l.toArray⟩ : ByteArray).toList = l := by rw [toList_data]

theorem app_toList (a b : ByteArray) : (a ++ b).toList = a.toList ++ b.toList := by
  rw [toList_data, toList_data, toList_data]; simp
theorem lit_toList (l : Array UInt8) : (⟨l⟩ : ByteArray).toList = l.toList := by rw [toList_data]

theorem lit_size (l : Array UInt8) : (⟨l⟩ : ByteArray).size = l.size := rfl

/-- a string of few bytes -/
def Txt (k : Nat) (s : ByteArray) (l : List UInt8) : Prop := s.toList = l ∧ s.size ≤ k
theorem Txt.size {k : Nat} {s : ByteArray} {l : List UInt8} (h : Txt k s l) : s.size ≤ k := h.2

end Go.Proofs.YtpkjmdcabdplfaaGreatDoor

namespace Go.Proofs.YtpkjmdcabdplfaaGreatDoor
open Go Go.RowKit
set_option maxRecDepth 100000

theorem hide {p : Prop} (h : p) : Hid p := h
theorem unhide {p : Prop} (h : Hid p) : p := h

/- what was written: the block g alone -/
theorem grown_refl (w : World) (r : Option Nat) : w.grownBy w r := ⟨rfl, rfl, rfl, Nat.le_refl _, fun _ _ _ => rfl⟩
theorem grown_trans {a b c : World} {r : Option Nat} (h : a.grownBy b r) (k : b.grownBy c r) : a.grownBy c r :=
  ⟨k.os.trans h.os, k.tape.trans h.tape, k.output.trans h.output, Nat.le_trans h.size k.size, fun i hi hr => (k.block i (Nat.lt_of_lt_of_le hi h.size) hr).trans (h.block i hi hr)⟩
theorem grown_alloc {a w : World} {r : Option Nat} (h : a.grownBy w r) (o : Obj) : a.grownBy (w.alloc o) r := grown_trans h (World.grownBy_alloc _ _ _)
theorem grown_drew {a w : World} {r : Option Nat} (h : a.grownBy w r) : a.grownBy w.drew r := ⟨h.os, h.tape, h.output, h.size, h.block⟩
theorem undrew {w w' : World} {r : Option Nat} (h : w.drew.grownBy w' r) : w.grownBy w' r := ⟨h.os, h.tape, h.output, h.size, h.block⟩
theorem grown_setCell {a w : World} {g : Nat} (h : a.grownBy w (some g)) (i : Nat) (u : Value) : a.grownBy (w.setCell ⟨g, i, none⟩ u) (some g) :=
  grown_trans h ⟨rfl, rfl, rfl, by simp [World.setCell], fun k _ hr => Below.heap_setCell _ _ _ _ (fun e => hr (by rw [e]))⟩
/-- a store into a block that is new -/
theorem grown_setNew {a w : World} {r : Option Nat} (h : a.grownBy w r) {p : Addr} (hp : a.heap.size ≤ p.block) (u : Value) : a.grownBy (w.setCell p u) r :=
  ⟨h.os, h.tape, h.output, by have := h.size; simp [World.setCell]; exact this, fun k hk hr => by rw [Below.heap_setCell _ _ _ _ (by omega)]; exact h.block k hk hr⟩
theorem grown_of_below {w w' : World} (h : Below w.heap.size w w') (r : Option Nat) : w.grownBy w' r := ⟨h.os, h.tape, h.output, h.size, fun k hk _ => h.block k hk⟩
theorem below_of_grown {w w' : World} (h : w.grownBy w' none) : Below w.heap.size w w' := ⟨h.os, h.tape, h.output, h.size, fun k hk => h.block k hk (by simp)⟩
/-- the written block is new: nothing old has turned -/
theorem below_of_new {w w1 w' : World} {g : Nat} (h : Below w.heap.size w w1) (k : w1.grownBy w' (some g)) (hg : w.heap.size ≤ g) : Below w.heap.size w w' :=
  h.trans ⟨k.os, k.tape, k.output, k.size, fun i hi => k.block i (Nat.lt_of_lt_of_le hi h.size) (by simp; omega)⟩

theorem setCell_block {w : World} {g : Nat} {cur : Array Value} {e : TypeId} {fr : Nat × Nat} (h : w.heap[g]? = some (.cells cur e fr)) (i : Nat) (u : Value) :
    (w.setCell ⟨g, i, none⟩ u).heap[g]? = some (.cells (cur.setIfInBounds i u) e fr) := by
  simp only [World.setCell, Array.getElem?_modify]
  simp [h]

theorem cell_set_ne {w : World} {g i b o : Nat} {u : Value} (h : b ≠ g) : (w.setCell ⟨g, i, none⟩ u).cell? ⟨b, o, none⟩ = w.cell? ⟨b, o, none⟩ :=
  World.cell?_of_block (w := w) (a := ⟨b, o, none⟩) (Below.heap_setCell _ _ _ _ h)

def stmCells (st : P.Stm) : Array Value := #[.int .i64 st.kind, .int .i64 st.line, .int .i64 st.dest, .int .i64 st.var, .bool st.a.reg, .int .i64 st.a.n, .bool st.b.reg, .int .i64 st.b.n, .int .i64 st.order, .int .i64 st.scope, .int .i64 st.label]

/-- block g holds the statement st. -/
def StmAt (w : World) (g : Nat) (st : P.Stm) : Prop := w.heap[g]? = some (.cells (stmCells st) 80 (0, 0))

theorem StmAt.lt {w : World} {g : Nat} {st : P.Stm} (h : StmAt w g st) : g < w.heap.size := (Array.getElem?_eq_some_iff.1 h).1

theorem StmAt.cell {w : World} {g : Nat} {st : P.Stm} (h : StmAt w g st) (i : Nat) : w.cell? ⟨g, i, none⟩ = (stmCells st)[i]? := by
  unfold StmAt at h
  simp [World.cell?, h]

theorem StmAt.free {w : World} {g : Nat} {st : P.Stm} (h : StmAt w g st) (i : Nat) : w.frozen? ⟨g, i, none⟩ = false := by
  unfold StmAt at h
  simp [World.frozen?, h]

/-- all that a walk wants of a statement's block -/
theorem StmAt.facts {w : World} {g : Nat} {st : P.Stm} (h : StmAt w g st) : g < w.heap.size ∧ (∀ i, w.frozen? ⟨g, i, none⟩ = false) ∧
    w.cell? ⟨g, 0, none⟩ = some (.int .i64 st.kind) ∧ w.cell? ⟨g, 1, none⟩ = some (.int .i64 st.line) ∧ w.cell? ⟨g, 2, none⟩ = some (.int .i64 st.dest) ∧ w.cell? ⟨g, 3, none⟩ = some (.int .i64 st.var) ∧
    w.cell? ⟨g, 4, none⟩ = some (.bool st.a.reg) ∧ w.cell? ⟨g, 5, none⟩ = some (.int .i64 st.a.n) ∧ w.cell? ⟨g, 6, none⟩ = some (.bool st.b.reg) ∧ w.cell? ⟨g, 7, none⟩ = some (.int .i64 st.b.n) ∧
    w.cell? ⟨g, 8, none⟩ = some (.int .i64 st.order) ∧ w.cell? ⟨g, 9, none⟩ = some (.int .i64 st.scope) ∧ w.cell? ⟨g, 10, none⟩ = some (.int .i64 st.label) :=
  ⟨h.lt, h.free, h.cell 0, h.cell 1, h.cell 2, h.cell 3, h.cell 4, h.cell 5, h.cell 6, h.cell 7, h.cell 8, h.cell 9, h.cell 10⟩

/-- the same, in fewer words: for a block that is only written -/
theorem StmAt.there {w : World} {g : Nat} {st : P.Stm} (h : StmAt w g st) : g < w.heap.size ∧ (∀ i, w.frozen? ⟨g, i, none⟩ = false) ∧
    w.cell? ⟨g, 0, none⟩ = some (.int .i64 st.kind) ∧ w.cell? ⟨g, 1, none⟩ = some (.int .i64 st.line) ∧ w.cell? ⟨g, 2, none⟩ = some (.int .i64 st.dest) ∧ w.cell? ⟨g, 3, none⟩ = some (.int .i64 st.var) ∧
    w.cell? ⟨g, 4, none⟩ = some (.bool st.a.reg) ∧ w.cell? ⟨g, 5, none⟩ = some (.int .i64 st.a.n) ∧ w.cell? ⟨g, 6, none⟩ = some (.bool st.b.reg) ∧ w.cell? ⟨g, 7, none⟩ = some (.int .i64 st.b.n) ∧
    w.cell? ⟨g, 8, none⟩ = some (.int .i64 st.order) ∧ w.cell? ⟨g, 9, none⟩ = some (.int .i64 st.scope) ∧ w.cell? ⟨g, 10, none⟩ = some (.int .i64 st.label) := h.facts

theorem StmAt.of_block {w w' : World} {g : Nat} {st : P.Stm} (h : StmAt w g st) (e : w'.heap[g]? = w.heap[g]?) : StmAt w' g st := by
  unfold StmAt at *; rw [e]; exact h
theorem StmAt.below {w w' : World} {g : Nat} {st : P.Stm} (h : StmAt w g st) (hb : Below w.heap.size w w') : StmAt w' g st := h.of_block (hb.block g h.lt)
theorem StmAt.alloc {w : World} {g : Nat} {st : P.Stm} (h : StmAt w g st) (o : Obj) : StmAt (w.alloc o) g st := h.of_block (Below.heap_alloc _ _ _ h.lt)
theorem StmAt.drew {w : World} {g : Nat} {st : P.Stm} (h : StmAt w g st) : StmAt w.drew g st := h
theorem StmAt.set {w : World} {g : Nat} {st : P.Stm} (st' : P.Stm) (h : StmAt w g st) (i : Nat) (u : Value) (e : (stmCells st).setIfInBounds i u = stmCells st') : StmAt (w.setCell ⟨g, i, none⟩ u) g st' := by
  unfold StmAt at *
  rw [setCell_block h, e]
theorem StmAt.new (w : World) (st : P.Stm) : StmAt (w.alloc (.cells (stmCells st) 80)) w.heap.size st := by
  unfold StmAt; exact heap_alloc_new w _
theorem StmAt.setKind {w : World} {g : Nat} {st : P.Stm} (h : StmAt w g st) (x : Int) : StmAt (w.setCell ⟨g, 0, none⟩ (.int .i64 x)) g { st with kind := x } := h.set _ 0 _ rfl
theorem StmAt.setLine {w : World} {g : Nat} {st : P.Stm} (h : StmAt w g st) (x : Int) : StmAt (w.setCell ⟨g, 1, none⟩ (.int .i64 x)) g { st with line := x } := h.set _ 1 _ rfl
theorem StmAt.setVar {w : World} {g : Nat} {st : P.Stm} (h : StmAt w g st) (x : Int) : StmAt (w.setCell ⟨g, 3, none⟩ (.int .i64 x)) g { st with var := x } := h.set _ 3 _ rfl
theorem StmAt.setA {w : World} {g : Nat} {st : P.Stm} (h : StmAt w g st) (x : P.Opd) : StmAt ((w.setCell ⟨g, 4, none⟩ (.bool x.reg)).setCell ⟨g, 5, none⟩ (.int .i64 x.n)) g { st with a := x } :=
  (h.set { st with a := ⟨x.reg, st.a.n⟩ } 4 _ rfl).set _ 5 _ rfl
theorem StmAt.setB {w : World} {g : Nat} {st : P.Stm} (h : StmAt w g st) (x : P.Opd) : StmAt ((w.setCell ⟨g, 6, none⟩ (.bool x.reg)).setCell ⟨g, 7, none⟩ (.int .i64 x.n)) g { st with b := x } :=
  (h.set { st with b := ⟨x.reg, st.b.n⟩ } 6 _ rfl).set _ 7 _ rfl
theorem StmAt.setOrder {w : World} {g : Nat} {st : P.Stm} (h : StmAt w g st) (x : Int) : StmAt (w.setCell ⟨g, 8, none⟩ (.int .i64 x)) g { st with order := x } := h.set _ 8 _ rfl
theorem StmAt.setScope {w : World} {g : Nat} {st : P.Stm} (h : StmAt w g st) (x : Int) : StmAt (w.setCell ⟨g, 9, none⟩ (.int .i64 x)) g { st with scope := x } := h.set _ 9 _ rfl
theorem StmAt.setLabel {w : World} {g : Nat} {st : P.Stm} (h : StmAt w g st) (x : Int) : StmAt (w.setCell ⟨g, 10, none⟩ (.int .i64 x)) g { st with label := x } := h.set _ 10 _ rfl

/-- the words ws lie in block b from place off on -/
def WordsAt (w : World) (b off : Nat) (ws : List ByteArray) : Prop := ∀ i s, ws[i]? = some s → w.cell? ⟨b, off + i, none⟩ = some (.string s)

theorem WordsAt.head {w : World} {b off : Nat} {s : ByteArray} {r : List ByteArray} (h : WordsAt w b off (s :: r)) : w.cell? ⟨b, off, none⟩ = some (.string s) ∧ b < w.heap.size ∧ WordsAt w b (off + 1) r := by
  have h0 := h 0 s rfl
  refine ⟨h0, World.block_lt_of_cell? w _ h0, fun i t ht => ?_⟩
  have := h (i + 1) t (by simpa using ht)
  rw [show off + 1 + i = off + (i + 1) by omega]; exact this
theorem WordsAt.kept {w w' : World} {b off : Nat} {ws : List ByteArray} (h : WordsAt w b off ws) (e : b < w.heap.size → w'.heap[b]? = w.heap[b]?) : WordsAt w' b off ws := by
  intro i s hs
  have h1 := h i s hs
  rw [World.cell?_of_block (w := w) (e (World.block_lt_of_cell? w _ h1))]; exact h1
theorem WordsAt.below {w w' : World} {b off : Nat} {ws : List ByteArray} (h : WordsAt w b off ws) (hb : Below w.heap.size w w') : WordsAt w' b off ws := h.kept (fun e => hb.block b e)
theorem WordsAt.grown {w w' : World} {b off g : Nat} {ws : List ByteArray} (h : WordsAt w b off ws) (hb : w.grownBy w' (some g)) (hne : b ≠ g) : WordsAt w' b off ws := h.kept (fun e => hb.block b e (by simpa using hne))
theorem WordsAt.set {w : World} {b off g : Nat} {ws : List ByteArray} (h : WordsAt w b off ws) (hne : b ≠ g) (i : Nat) (u : Value) : WordsAt (w.setCell ⟨g, i, none⟩ u) b off ws := h.kept (fun _ => Below.heap_setCell _ _ _ _ hne)
theorem WordsAt.alloc {w : World} {b off : Nat} {ws : List ByteArray} (h : WordsAt w b off ws) (o : Obj) : WordsAt (w.alloc o) b off ws := h.kept (fun e => Below.heap_alloc _ _ _ e)
theorem WordsAt.drew {w : World} {b off : Nat} {ws : List ByteArray} (h : WordsAt w b off ws) : WordsAt w.drew b off ws := h.kept (fun _ => rfl)
theorem WordsAt.nil (w : World) (b off : Nat) : WordsAt w b off [] := fun _ _ h => by simp at h
end Go.Proofs.YtpkjmdcabdplfaaGreatDoor

namespace Go.Proofs.YtpkjmdcabdplfaaGreatDoor
open Go Go.RowKit
set_option maxRecDepth 100000

def setRange (cur : Array Value) (o : Nat) : List Value → Array Value
  | [] => cur
  | v :: r => setRange (cur.setIfInBounds o v) (o + 1) r

theorem setCells_block {g : Nat} {e : TypeId} {fr : Nat × Nat} : ∀ (vs : List Value) (o : Nat) (w : World) (cur : Array Value), w.heap[g]? = some (.cells cur e fr) → (w.setCells g o vs).heap[g]? = some (.cells (setRange cur o vs) e fr)
  | [], _, _, _, h => h
  | v :: r, o, w, cur, h => by
    rw [World.setCells]
    exact setCells_block r (o + 1) _ _ (setCell_block h o v)

theorem setCells_grown {g : Nat} : ∀ (vs : List Value) (o : Nat) (w : World), w.grownBy (w.setCells g o vs) (some g)
  | [], _, w => grown_refl w _
  | v :: r, o, w => by
    rw [World.setCells]
    exact grown_trans (grown_setCell (grown_refl _ _) _ _) (setCells_grown r (o + 1) _)

theorem setRange_size (vs : List Value) : ∀ (o : Nat) (cur : Array Value), (setRange cur o vs).size = cur.size := by
  induction vs with
  | nil => intro o cur; rfl
  | cons v r ih => intro o cur; rw [setRange, ih]; simp

theorem setRange_get (vs : List Value) : ∀ (o : Nat) (cur : Array Value) (j : Nat), o + vs.length ≤ cur.size → (setRange cur o vs)[j]? = if o ≤ j ∧ j < o + vs.length then vs[j - o]? else cur[j]? := by
  induction vs with
  | nil => intro o cur j _; simp [setRange]; omega
  | cons v r ih =>
    intro o cur j h
    simp at h
    rw [setRange, ih _ _ _ (by simp; omega)]
    by_cases h1 : o = j
    · subst h1
      rw [if_neg (by omega), if_pos (by simp)]
      simp [Array.getElem?_setIfInBounds]; omega
    · by_cases h2 : o + 1 ≤ j ∧ j < o + 1 + r.length
      · rw [if_pos h2, if_pos (by simp; omega)]
        rw [show j - o = (j - (o + 1)) + 1 by omega]; simp
      · rw [if_neg h2, if_neg (by simp; omega)]
        simp [h1]

theorem setRange_all (cur new : Array Value) (h : cur.size = new.size) : setRange cur 0 new.toList = new := by
  apply Array.ext_getElem?
  intro j
  rw [setRange_get _ _ _ _ (by simp; omega)]
  by_cases h1 : j < new.size
  · rw [if_pos (by simp; omega)]; simp
  · rw [if_neg (by simp; omega), Array.getElem?_eq_none (by omega), Array.getElem?_eq_none (by omega)]

theorem range_of_block {w : World} {g : Nat} {cs : Array Value} {e : TypeId} (hg : w.heap[g]? = some (.cells cs e (0, 0))) : w.rangeAt g 0 cs.toList := by
  intro j v hv
  simp [World.cell?, hg]
  simpa using hv

theorem there_of_block {w : World} {g : Nat} {cs : Array Value} {e : TypeId} (hg : w.heap[g]? = some (.cells cs e (0, 0))) (n : Nat) (hn : n ≤ cs.size) : w.there g 0 n := by
  intro j hj
  simp [World.cell?, World.frozen?, hg]
  omega

variable {Pg : Program}

theorem run_loadVar_row (w : World) (g : Nat) (ty : TypeId) (cs : Array Value) (e : TypeId) (hg : w.heap[g]? = some (.cells cs e (0, 0))) (d : TypeDesc) (hu : Pg.underlying ty = some d) (hd : d.isRow = true) (hi : (Pg.info? ty).map (·.size) = some cs.size) :
    (loadVar ty ⟨g, 0, none⟩).run Pg w = .ok (.agg cs) w := by
  have := run_loadVar_mid (P := Pg) w g 0 ty cs.toList d (range_of_block hg) hu hd (by simpa using hi)
  simpa using this

theorem wpList_load_row {ops : Array Oper} {rest : List Oper} {op : Oper} {a : Act} {w : World} {Q : Exit → Act → World → Prop} (hgd : op.guard = none) (ty : TypeId) (x : Operand) (ho : op.op = .load ty x)
    (g : Nat) (hx : a.eval x = .pointer (some ⟨g, 0, none⟩)) (cs : Array Value) (e : TypeId) (hg : w.heap[g]? = some (.cells cs e (0, 0))) (d : TypeDesc)
    (hu : Pg.underlying ty = some d) (hd : d.isRow = true) (hi : (Pg.info? ty).map (·.size) = some cs.size)
    (h : wpList Pg ops Q rest (a.put op.dst (.agg cs)) w) : wpList Pg ops Q (op :: rest) a w :=
  wpList_load_mid hgd ty x ho g 0 hx cs.toList d (range_of_block hg) hu hd (by simpa using hi) (by simpa using h)

theorem wpList_store_row {ops : Array Oper} {rest : List Oper} {op : Oper} {a : Act} {w : World} {Q : Exit → Act → World → Prop} (hgd : op.guard = none) (ty : TypeId) (x y : Operand) (ho : op.op = .store ty x y)
    (g : Nat) (cells cs : Array Value) (e : TypeId) (hx : a.eval x = .pointer (some ⟨g, 0, none⟩)) (hy : a.eval y = .agg cells) (hg : w.heap[g]? = some (.cells cs e (0, 0))) (hsz : cs.size = cells.size)
    (hi : (Pg.info? ty).map (·.size) = some cells.size) (h1 : cells.all (·.oneCell') = true)
    (h : ∀ w', w'.heap[g]? = some (.cells cells e (0, 0)) → w.grownBy w' (some g) → wpList Pg ops Q rest (a.put op.dst undef) w') : wpList Pg ops Q (op :: rest) a w := by
  refine wpList_store_mid hgd ty x y ho g 0 cells hx hy (there_of_block hg _ (by omega)) hi h1 ?_
  have hb := setCells_block cells.toList 0 w cs hg
  rw [setRange_all cs cells hsz] at hb
  exact h _ hb (setCells_grown _ _ _)

/- statements -/
theorem wpList_load_stm {ops : Array Oper} {rest : List Oper} {op : Oper} {a : Act} {w : World} {Q : Exit → Act → World → Prop} (x : Operand) (hgd : op.guard = none) (ho : op.op = .load 80 x)
    (g : Nat) (st : P.Stm) (hx : a.eval x = .pointer (some ⟨g, 0, none⟩)) (hg : StmAt w g st)
    (h : wpList Tryz.prog ops Q rest (a.put op.dst (.agg (stmCells st))) w) : wpList Tryz.prog ops Q (op :: rest) a w :=
  wpList_load_row hgd _ x ho g hx _ _ hg _ Tryz.underlying80 rfl (by kernel_rfl) h

theorem wpList_store_stm {ops : Array Oper} {rest : List Oper} {op : Oper} {a : Act} {w : World} {Q : Exit → Act → World → Prop} (x y : Operand) (hgd : op.guard = none) (ho : op.op = .store 80 x y)
    (g : Nat) (st t : P.Stm) (hx : a.eval x = .pointer (some ⟨g, 0, none⟩)) (hy : a.eval y = .agg (stmCells t)) (hg : StmAt w g st)
    (h : ∀ w', StmAt w' g t → w.grownBy w' (some g) → wpList Tryz.prog ops Q rest (a.put op.dst undef) w') : wpList Tryz.prog ops Q (op :: rest) a w :=
  wpList_store_row hgd _ x y ho g (stmCells t) (stmCells st) _ hx hy hg rfl (by kernel_rfl) (by simp [stmCells, Value.oneCell']) h

theorem stm_load {w : World} {g : Nat} {st : P.Stm} (h : StmAt w g st) : (loadVar 80 ⟨g, 0, none⟩).run Tryz.prog w = .ok (.agg (stmCells st)) w :=
  run_loadVar_row w g _ _ _ h _ Tryz.underlying80 rfl (by kernel_rfl)

def stmVal (r : P.Stm × Bool) : Value := .tuple #[.agg (stmCells r.1), .bool r.2]

theorem ret_stm {fn : Func} {R : Ending → World → Prop} {a : Act} {w : World} {p u : Tmp} (g : Nat) (st : P.Stm) (ok : Bool) (hres : fn.results = #[.cell p 80, .tmp u])
    (hp : a.tmps.getD p undef = .pointer (some ⟨g, 0, none⟩)) (hu : a.tmps.getD u undef = .bool ok) (h : StmAt w g st) (hd : a.defers = []) (hR : R (.returned (stmVal (st, ok))) w) : bodyPost Tryz.prog fn R .ret a w := by
  refine bodyPost_ret (v := stmVal (st, ok)) ?_ hd hR
  rw [results_cell_tmp hres, hp, hu]
  have : (asAddr (.pointer (some ⟨g, 0, none⟩))).run Tryz.prog w = .ok ⟨g, 0, none⟩ w := rfl
  rw [this, Result.andThen_ok, stm_load h, Result.andThen_ok]
  rfl
end Go.Proofs.YtpkjmdcabdplfaaGreatDoor
