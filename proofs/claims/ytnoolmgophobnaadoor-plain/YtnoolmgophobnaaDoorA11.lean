import Derived.Test.YtnoolmgophobnaaDoorA10
import Derived.Test.YtnoolmgophobnaaDoorA06
import Derived.Test.YtnoolmgophobnaaDoorA01
set_option linter.unusedVariables false
set_option linter.unusedSimpArgs false
namespace Go.Proofs.YtnoolmgophobnaaDoor
open Go Go.RowKit
set_option maxRecDepth 100000

theorem takes_thread (r : P.Rd) (c : List UInt8) (rs : List (List UInt8)) (h : (c == [116, 104, 114, 101, 97, 100]) = true) : P.takes r (c :: rs) = P.begins r (c :: rs) := by
  have : c = [116, 104, 114, 101, 97, 100] := by simpa using h
  simp [P.takes, this]
theorem takes_none (r : P.Rd) (c : List UInt8) (rs : List (List UInt8)) (h : (c == [116, 104, 114, 101, 97, 100]) = false) (ht : r.threads = []) : P.takes r (c :: rs) = (r, false) := by
  have : ¬ c = [116, 104, 114, 101, 97, 100] := by simpa using h
  simp [P.takes, this, ht]
theorem takes_bad (r : P.Rd) (c : List UInt8) (rs : List (List UInt8)) (h : (c == [116, 104, 114, 101, 97, 100]) = false) (ht : r.threads ≠ []) (hs : (P.statement (c :: rs)).2 = false) : P.takes r (c :: rs) = (r, false) := by
  have : ¬ c = [116, 104, 114, 101, 97, 100] := by simpa using h
  simp [P.takes, this, ht, hs]
theorem takes_end (r : P.Rd) (c : List UInt8) (rs : List (List UInt8)) (h : (c == [116, 104, 114, 101, 97, 100]) = false) (ht : r.threads ≠ []) (hs : (P.statement (c :: rs)).2 = true) (hk : ((P.statement (c :: rs)).1.kind == 11) = true) :
    P.takes r (c :: rs) = P.ends r { (P.statement (c :: rs)).1 with line := r.line } := by
  have : ¬ c = [116, 104, 114, 101, 97, 100] := by simpa using h
  have hk' : (P.statement (c :: rs)).1.kind = 11 := by simpa using hk
  simp [P.takes, this, ht, hs, hk']
theorem takes_many (r : P.Rd) (c : List UInt8) (rs : List (List UInt8)) (h : (c == [116, 104, 114, 101, 97, 100]) = false) (ht : r.threads ≠ []) (hs : (P.statement (c :: rs)).2 = true) (hk : ((P.statement (c :: rs)).1.kind == 11) = false) (h8 : 8 ≤ r.count) :
    P.takes r (c :: rs) = (r, false) := by
  have : ¬ c = [116, 104, 114, 101, 97, 100] := by simpa using h
  have hk' : ¬ (P.statement (c :: rs)).1.kind = 11 := by simpa using hk
  simp [P.takes, this, ht, hs, hk', h8]
theorem takes_deep (r : P.Rd) (c : List UInt8) (rs : List (List UInt8)) (h : (c == [116, 104, 114, 101, 97, 100]) = false) (ht : r.threads ≠ []) (hs : (P.statement (c :: rs)).2 = true) (h8 : r.count < 8) (hb : ((P.statement (c :: rs)).1.kind == 10) = true) (ho : 2 ≤ r.opn.length) :
    P.takes r (c :: rs) = ({ r with count := r.count + 1 }, false) := by
  have : ¬ c = [116, 104, 114, 101, 97, 100] := by simpa using h
  have hb' : (P.statement (c :: rs)).1.kind = 10 := by simpa using hb
  have h8' : ¬ 8 ≤ r.count := by omega
  simp [P.takes, this, ht, hs, hb', h8', ho]
theorem takes_if (r : P.Rd) (c : List UInt8) (rs : List (List UInt8)) (h : (c == [116, 104, 114, 101, 97, 100]) = false) (ht : r.threads ≠ []) (hs : (P.statement (c :: rs)).2 = true) (h8 : r.count < 8) (hb : ((P.statement (c :: rs)).1.kind == 10) = true) (ho : r.opn.length < 2) :
    P.takes r (c :: rs) = P.branch { r with count := r.count + 1 } { (P.statement (c :: rs)).1 with line := r.line } := by
  have : ¬ c = [116, 104, 114, 101, 97, 100] := by simpa using h
  have hb' : (P.statement (c :: rs)).1.kind = 10 := by simpa using hb
  have h8' : ¬ 8 ≤ r.count := by omega
  have ho' : ¬ 2 ≤ r.opn.length := by omega
  simp [P.takes, this, ht, hs, hb', h8', ho']
theorem takes_put (r : P.Rd) (c : List UInt8) (rs : List (List UInt8)) (h : (c == [116, 104, 114, 101, 97, 100]) = false) (ht : r.threads ≠ []) (hs : (P.statement (c :: rs)).2 = true) (hk : ((P.statement (c :: rs)).1.kind == 11) = false) (h8 : r.count < 8) (hb : ((P.statement (c :: rs)).1.kind == 10) = false) :
    P.takes r (c :: rs) = (P.put { r with count := r.count + 1 } { (P.statement (c :: rs)).1 with line := r.line }, true) := by
  have : ¬ c = [116, 104, 114, 101, 97, 100] := by simpa using h
  have hk' : ¬ (P.statement (c :: rs)).1.kind = 11 := by simpa using hk
  have hb' : ¬ (P.statement (c :: rs)).1.kind = 10 := by simpa using hb
  have h8' : ¬ 8 ≤ r.count := by omega
  simp [P.takes, this, ht, hs, hk', hb', h8']

end Go.Proofs.YtnoolmgophobnaaDoor

namespace Go.Proofs.YtnoolmgophobnaaDoor
open Go Go.RowKit
set_option maxRecDepth 100000

theorem RdIn.forms {w : World} {B g : Nat} {r : P.Rd} {tv ov : Value} {vs : List Value} (h : RdIn w B g r tv ov vs) : ∃ ta tc oa oc, tv = .slice ta r.threads.length tc ∧ ov = .slice oa r.opn.length oc := by
  have h1 : ∃ a c, ov = .slice a r.opn.length c := by
    rcases h.opn.2 with ⟨e, h0⟩ | ⟨k, c, cur, e, _⟩
    · exact ⟨none, 0, by rw [e, h0]⟩
    · exact ⟨_, c, e⟩
  have h2 : ∃ a c, tv = .slice a r.threads.length c := by
    rcases h.threads.2 with ⟨e, h0⟩ | ⟨k, c, cur, e, _⟩
    · exact ⟨none, 0, by rw [e, h0]⟩
    · exact ⟨_, c, e⟩
  obtain ⟨oa, oc, e1⟩ := h1
  obtain ⟨ta, tc, e2⟩ := h2
  exact ⟨ta, tc, oa, oc, e2, e1⟩

/-- the reader with another count, and a new block behind it -/
theorem RdAt.counted {w : World} {B g : Nat} {r : P.Rd} (h : RdAt w B g r) (x : Int) : RdAt (w.setCell ⟨g, 2, none⟩ (.int .i64 x)) B g { r with count := x } := by
  obtain ⟨tv, ov, vs, h⟩ := h
  exact ⟨tv, ov, vs, h.setG { r with count := x } ov 2 (.int .i64 x) rfl h.opn rfl⟩
theorem RdAt.lined {w : World} {B g : Nat} {r : P.Rd} (h : RdAt w B g r) (x : Int) : RdAt (w.setCell ⟨g, 1, none⟩ (.int .i64 x)) B g { r with line := x } := by
  obtain ⟨tv, ov, vs, h⟩ := h
  exact ⟨tv, ov, vs, h.setG { r with line := x } ov 1 (.int .i64 x) rfl h.opn rfl⟩
theorem RdAt.alloc {w : World} {B g : Nat} {r : P.Rd} (h : RdAt w B g r) (o : Obj) : RdAt (w.alloc o) B g r := h.below ((Below.refl _ _).alloc (Nat.le_refl _) _)

theorem branch_deep (B g : Nat) (r : P.Rd) (st : P.Stm) (w : World) (h : RdAt w B g r) (hB : B ≤ w.heap.size) (ho : 2 ≤ r.opn.length) :
    Calls Tryd.prog 65 #[.pointer (some ⟨g, 0, none⟩), .agg (stmCells st)] w fun e w' => e = .returned (.bool false) ∧ RdAt w' B g r ∧ Below B w w' := by
  have hA := hide h
  obtain ⟨tv, ov, vs, h⟩ := h
  obtain ⟨ta, tc, oa, oc, rfl, rfl⟩ := h.forms
  obtain ⟨glt, gfr, g0, g1, g2, g3, g4⟩ := h.facts
  have ho' : (2 : Int) ≤ (r.opn.length : Int) := by omega
  clear h
  go_enter Tryd.func65, Tryd.ntmps65
  go_wp2
  go_ret
  exact ⟨rfl, hA.out.alloc _, (Below.refl _ _).alloc hB _⟩

set_option maxHeartbeats 3200000 in
theorem takes_any (B g N b off n cap : Nat) (r : P.Rd) (c : ByteArray) (rs : List ByteArray) (w : World) (h : RdAt w B g r) (hw : WordsAt w b off (c :: rs)) (hn : rs.length = n - 1) (hn1 : 1 ≤ n) (hnb : n < 10000) (hc : n ≤ cap) (hblt : b < w.heap.size)
    (hF : Few N r) (hN : N < 10000) (hB : B ≤ w.heap.size) (hBg : B ≤ g) (ho9 : r.opn.length < 10) (hi0 : 0 ≤ r.ifs) (hi1 : r.ifs < 10000) (hc0 : 0 ≤ r.count) :
    Calls Tryd.prog 44 #[.pointer (some ⟨g, 0, none⟩), .slice (some ⟨b, off, none⟩) n cap] w fun e w' => e = .returned (.bool (P.takes r (c.toList :: rs.map ByteArray.toList)).2) ∧ RdAt w' B g (P.takes r (c.toList :: rs.map ByteArray.toList)).1 ∧ Below B w w' := by
  have hA := hide h
  obtain ⟨hd, _, _⟩ := hw.head
  have hnp : (0 : Int) < (n : Int) := by omega
  have hnp' : 0 < n := by omega
  cases ht : c.toList == [116, 104, 114, 101, 97, 100]
  rotate_left
  · have HE := hide (takes_thread r c.toList (rs.map ByteArray.toList) ht)
    go_enter Tryd.func44, Tryd.ntmps44
    go_wp2_with (first | (go_at_call 62; refine (begins_any B g _ _ _ _ r (c :: rs) _ hA.out hw (by simp; omega) hnb hB hBg (by have := hF.1; omega) ho9).mono ?_; rintro e w1 ⟨rfl, hr1, hb1⟩))
    go_ret
    rw [unhide HE]
    exact ⟨rfl, hr1, hb1⟩
  obtain ⟨tv, ov, vs, h⟩ := h
  obtain ⟨ta, tc, oa, oc, rfl, rfl⟩ := h.forms
  obtain ⟨glt, gfr, g0, g1, g2, g3, g4⟩ := h.facts
  clear h
  by_cases hne : r.threads = []
  · have HE := hide (takes_none r c.toList (rs.map ByteArray.toList) ht hne)
    have hz : ((r.threads.length : Int) == 0) = true := by simp [hne]
    clear hne
    go_enter Tryd.func44, Tryd.ntmps44
    go_wp2
    go_ret
    rw [unhide HE]
    exact ⟨rfl, hA.out, Below.refl _ _⟩
  have hz : ((r.threads.length : Int) == 0) = false := by simpa using hne
  cases hs : (P.statement (c.toList :: rs.map ByteArray.toList)).2
  · have HE := hide (takes_bad r c.toList (rs.map ByteArray.toList) ht hne hs)
    go_enter Tryd.func44, Tryd.ntmps44
    go_wp2_with (first | (go_at_call 63; refine (statement_any _ _ _ _ c rs _ hw hn hn1 hc hblt).mono ?_; rintro e w1 ⟨he, hb⟩; simp only [stmVal, stmCells, List.map_cons] at he; subst he; obtain ⟨tv', ov', vs', h1⟩ := hA.out.below hb; obtain ⟨glt1, gfr1, q0, q1, q2, q3, q4⟩ := h1.facts; clear h1))
    go_ret
    rw [unhide HE]
    exact ⟨rfl, (hA.out.below hb).alloc _, (hb.mono hB).alloc (by have := hb.size; omega) _⟩
  cases hk : ((P.statement (c.toList :: rs.map ByteArray.toList)).1.kind == 11)
  rotate_left
  · have HE := hide (takes_end r c.toList (rs.map ByteArray.toList) ht hne hs hk)
    go_enter Tryd.func44, Tryd.ntmps44
    go_wp2_with (first | (go_at_call 63; refine (statement_any _ _ _ _ c rs _ hw hn hn1 hc hblt).mono ?_; rintro e w1 ⟨he, hb⟩; simp only [stmVal, stmCells, List.map_cons] at he; subst he; obtain ⟨tv', ov', vs', h1⟩ := hA.out.below hb; obtain ⟨glt1, gfr1, q0, q1, q2, q3, q4⟩ := h1.facts; clear h1) | (go_at_call 64; refine (ends_any B g N r { (P.statement (c.toList :: rs.map ByteArray.toList)).1 with line := r.line } _ (by exact (hA.out.below hb).alloc (.cells (stmCells { (P.statement (c.toList :: rs.map ByteArray.toList)).1 with line := r.line }) 80)) hne hF hN (by have := hb.size; simp; omega) hBg ho9).mono ?_; rintro e w2 ⟨rfl, hr1, hb1⟩))
    go_ret
    rw [unhide HE]
    exact ⟨rfl, hr1, ((hb.mono hB).alloc (by have := hb.size; omega) _).trans hb1⟩
  by_cases h8 : 8 ≤ r.count
  · have HE := hide (takes_many r c.toList (rs.map ByteArray.toList) ht hne hs hk h8)
    go_enter Tryd.func44, Tryd.ntmps44
    go_wp2_with (first | (go_at_call 63; refine (statement_any _ _ _ _ c rs _ hw hn hn1 hc hblt).mono ?_; rintro e w1 ⟨he, hb⟩; simp only [stmVal, stmCells, List.map_cons] at he; subst he; obtain ⟨tv', ov', vs', h1⟩ := hA.out.below hb; obtain ⟨glt1, gfr1, q0, q1, q2, q3, q4⟩ := h1.facts; clear h1))
    go_ret
    rw [unhide HE]
    exact ⟨rfl, (hA.out.below hb).alloc _, (hb.mono hB).alloc (by have := hb.size; omega) _⟩
  have h8' : r.count < 8 := by omega
  cases hbk : ((P.statement (c.toList :: rs.map ByteArray.toList)).1.kind == 10)
  · have HE := hide (takes_put r c.toList (rs.map ByteArray.toList) ht hne hs hk h8' hbk)
    go_enter Tryd.func44, Tryd.ntmps44
    go_wp2_with (first | (go_at_call 63; refine (statement_any _ _ _ _ c rs _ hw hn hn1 hc hblt).mono ?_; rintro e w1 ⟨he, hb⟩; simp only [stmVal, stmCells, List.map_cons] at he; subst he; obtain ⟨tv', ov', vs', h1⟩ := hA.out.below hb; obtain ⟨glt1, gfr1, q0, q1, q2, q3, q4⟩ := h1.facts; clear h1) | (go_at_call 66; refine (put_any B g N { r with count := r.count + 1 } { (P.statement (c.toList :: rs.map ByteArray.toList)).1 with line := r.line } _ (by exact ((hA.out.below hb).counted (r.count + 1)).alloc (.cells (stmCells { (P.statement (c.toList :: rs.map ByteArray.toList)).1 with line := r.line }) 80)) hne hF hN (by have := hb.size; simp; omega)).mono ?_; rintro e w2 ⟨rfl, hr1, hb1⟩))
    go_ret
    rw [unhide HE]
    exact ⟨rfl, hr1, (((hb.mono hB).setCell hBg _).alloc (by have := hb.size; simp; omega) _).trans hb1⟩
  by_cases ho : 2 ≤ r.opn.length
  · have HE := hide (takes_deep r c.toList (rs.map ByteArray.toList) ht hne hs h8' hbk ho)
    go_enter Tryd.func44, Tryd.ntmps44
    go_wp2_with (first | (go_at_call 63; refine (statement_any _ _ _ _ c rs _ hw hn hn1 hc hblt).mono ?_; rintro e w1 ⟨he, hb⟩; simp only [stmVal, stmCells, List.map_cons] at he; subst he; obtain ⟨tv', ov', vs', h1⟩ := hA.out.below hb; obtain ⟨glt1, gfr1, q0, q1, q2, q3, q4⟩ := h1.facts; clear h1) | (go_at_call 65; refine (branch_deep B g { r with count := r.count + 1 } { (P.statement (c.toList :: rs.map ByteArray.toList)).1 with line := r.line } _ (by exact ((hA.out.below hb).counted (r.count + 1)).alloc (.cells (stmCells { (P.statement (c.toList :: rs.map ByteArray.toList)).1 with line := r.line }) 80)) (by have := hb.size; simp; omega) (by simp; omega)).mono ?_; rintro e w2 ⟨rfl, hr1, hb1⟩))
    go_ret
    rw [unhide HE]
    exact ⟨rfl, hr1, (((hb.mono hB).setCell hBg _).alloc (by have := hb.size; simp; omega) _).trans hb1⟩
  · have HE := hide (takes_if r c.toList (rs.map ByteArray.toList) ht hne hs h8' hbk (by omega))
    go_enter Tryd.func44, Tryd.ntmps44
    go_wp2_with (first | (go_at_call 63; refine (statement_any _ _ _ _ c rs _ hw hn hn1 hc hblt).mono ?_; rintro e w1 ⟨he, hb⟩; simp only [stmVal, stmCells, List.map_cons] at he; subst he; obtain ⟨tv', ov', vs', h1⟩ := hA.out.below hb; obtain ⟨glt1, gfr1, q0, q1, q2, q3, q4⟩ := h1.facts; clear h1) | (go_at_call 65; refine (branch_any B g N { r with count := r.count + 1 } { (P.statement (c.toList :: rs.map ByteArray.toList)).1 with line := r.line } _ (by exact ((hA.out.below hb).counted (r.count + 1)).alloc (.cells (stmCells { (P.statement (c.toList :: rs.map ByteArray.toList)).1 with line := r.line }) 80)) hne hF hN (by have := hb.size; simp; omega) hBg (by simp; omega) hi0 hi1).mono ?_; rintro e w2 ⟨rfl, hr1, hb1⟩))
    go_ret
    rw [unhide HE]
    exact ⟨rfl, hr1, (((hb.mono hB).setCell hBg _).alloc (by have := hb.size; simp; omega) _).trans hb1⟩
end Go.Proofs.YtnoolmgophobnaaDoor

namespace Go.Proofs.YtnoolmgophobnaaDoor
open Go Go.RowKit
set_option maxRecDepth 100000

def ThreadsAt (w : World) (B : Nat) (tv : Value) (ts : List P.Thr) : Prop := ∃ vs, w.ownsRow B 73 3 tv ts.length (thrCells ts vs) ∧ StmtsAt w B ts vs

theorem ThreadsAt.keep {w w' : World} {B : Nat} {tv : Value} {ts : List P.Thr} (h : ThreadsAt w B tv ts) (hb : ∀ k, k < w.heap.size → w'.heap[k]? = w.heap[k]?) : ThreadsAt w' B tv ts := by
  obtain ⟨vs, h1, h2⟩ := h
  exact ⟨vs, ownsRow_keep h1 (fun k e => hb k (h1.lt k e).2), h2.keep (fun v hv k e => by obtain ⟨n, xs, ho⟩ := h2.mem v hv; exact hb k (ho.lt k e).2)⟩
theorem ThreadsAt.nil (w : World) (B : Nat) : ThreadsAt w B (.slice none 0 0) [] := ⟨[], World.ownsRow_nil _ _ _ _, trivial⟩

/-- the invariant of the loop -/
structure LoopAt (s : ByteArray) (k m : Nat) (rows : List ByteArray) (r : P.Rd) : Prop where
  cut : P.splitAt 10 (s.toList.take k) = rows.map ByteArray.toList ++ [(s.toList.take k).drop m]
  run : P.runLines P.Rd.zero (rows.map ByteArray.toList) = (r, true)
  good : P.Good k r
  lin : r.line ≤ k

theorem loop_stay {s : ByteArray} {k m : Nat} {rows : List ByteArray} {r : P.Rd} (h : LoopAt s k m rows r) (hk : k < s.size) (hm : m ≤ k) (hc : ¬ s[k] = 10) : LoopAt s (k + 1) m rows r :=
  ⟨split_stay 10 s k m rows hk hm h.cut hc, h.run, P.good_mono h.good, by have := h.lin; omega⟩

theorem loop_step {s : ByteArray} {k m : Nat} {rows : List ByteArray} {r : P.Rd} (h : LoopAt s k m rows r) (hk : k < s.size) (hc : s[k] = 10) (ht : (P.takes { r with line := r.line + 1 } (P.splitAt 32 (s.extract m k).toList)).2 = true) :
    LoopAt s (k + 1) (k + 1) (rows ++ [s.extract m k]) (P.takes { r with line := r.line + 1 } (P.splitAt 32 (s.extract m k).toList)).1 := by
  refine ⟨split_step 10 s k m rows hk h.cut hc, ?_, P.good_takes _ h.good (by have := h.lin; omega), (P.good_takes _ h.good (by have := h.lin; omega)).lin1⟩
  rw [List.map_append, List.map_cons, List.map_nil, P.runLines_snoc _ _ _ _ h.run, ← ht]

theorem loop_fail {s : ByteArray} {k m : Nat} {rows : List ByteArray} {r : P.Rd} (h : LoopAt s k m rows r) (hk : k < s.size) (hc : s[k] = 10) (ht : (P.takes { r with line := r.line + 1 } (P.splitAt 32 (s.extract m k).toList)).2 = false) :
    P.lines s.toList = ([], (P.takes { r with line := r.line + 1 } (P.splitAt 32 (s.extract m k).toList)).1.line) := by
  have hcut := split_step 10 s k m rows hk h.cut hc
  obtain ⟨t, h1, h2⟩ := P.splitAt_append 10 (s.toList.take (k + 1)) (s.toList.drop (k + 1)) _ _ hcut
  rw [List.take_append_drop] at h1
  have hrun : P.runLines P.Rd.zero ((rows ++ [s.extract m k]).map ByteArray.toList) = P.takes { r with line := r.line + 1 } (P.splitAt 32 (s.extract m k).toList) := by
    rw [List.map_append, List.map_cons, List.map_nil, P.runLines_snoc _ _ _ _ h.run]
  have hd : (P.splitAt 10 s.toList).dropLast = (rows ++ [s.extract m k]).map ByteArray.toList ++ t.dropLast := by rw [h1, List.dropLast_append_of_ne_nil h2]
  have := P.runLines_more _ P.Rd.zero t.dropLast (by rw [hrun]; exact ht)
  unfold P.lines
  simp only [hd, this, hrun, ht]
  simp

theorem loop_end {s : ByteArray} {m : Nat} {rows : List ByteArray} {r : P.Rd} (h : LoopAt s s.size m rows r) (hm : m ≤ s.size) :
    P.lines s.toList = if m < s.size ∨ 0 < r.opn.length ∨ r.threads.length = 0 then ([], r.line + 1) else (r.threads, 0) := by
  have hcut := h.cut
  rw [List.take_of_length_le (by rw [size_toList]; exact Nat.le_refl _)] at hcut
  have e1 : (s.toList.drop m = []) ↔ ¬ m < s.size := by
    rw [List.drop_eq_nil_iff, size_toList]; omega
  unfold P.lines
  simp only [hcut, List.dropLast_concat, h.run, List.getLast?_concat, if_true]
  congr 1
  simp only [ne_eq, Option.some.injEq, e1, eq_iff_iff]
  rw [Classical.not_not]
  simp [List.length_pos_iff]
end Go.Proofs.YtnoolmgophobnaaDoor
