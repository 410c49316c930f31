import Derived.Test.YtpkjmdcabdplfaaGreatDoorA10
import Derived.Test.YtpkjmdcabdplfaaGreatDoorA06
import Derived.Test.YtpkjmdcabdplfaaGreatDoorA01
set_option linter.unusedVariables false
set_option linter.unusedSimpArgs false
namespace Go.Proofs.YtpkjmdcabdplfaaGreatDoor
open Go Go.RowKit
set_option maxRecDepth 100000

theorem takes_thread (r : P.Rd) (c : List UInt8) (rs : List (List UInt8)) (h : (c == [116, 104, 114, 101, 97, 100]) = true) : P.takes r (c :: rs) = P.begins r (c :: rs) := by
  have : c = [116, 104, 114, 101, 97, 100] := by simpa using h
  simp [P.takes, this]

theorem RdIn.forms {w : World} {B g : Nat} {r : P.Rd} {tv ov : Value} {vs : List Value} (h : RdIn w B g r tv ov vs) : ∃ ta tc oa oc, tv = .slice ta r.threads.length tc ∧ ov = .slice oa r.opn.length oc := by
  have h1 : ∃ a c, ov = .slice a r.opn.length c := by
    rcases h.opn.2 with ⟨e, h0⟩ | ⟨k, c, cur, e, _⟩
    · exact ⟨none, 0, by rw [e, h0]⟩
    · exact ⟨_, c, e⟩
  have h2 : ∃ a c, tv = .slice a r.threads.length c := by
    rcases h.threads.2 with ⟨e, h0⟩ | ⟨k, c, cur, e, _⟩
    · exact ⟨none, 0, by rw [e, h0]⟩
    · exact ⟨_, c, e⟩
  obtain ⟨oa, oc, e1⟩ := h1
  obtain ⟨ta, tc, e2⟩ := h2
  exact ⟨ta, tc, oa, oc, e2, e1⟩

/-- the reader with another count, and a new block behind it -/
theorem RdAt.counted {w : World} {B g : Nat} {r : P.Rd} (h : RdAt w B g r) (x : Int) : RdAt (w.setCell ⟨g, 2, none⟩ (.int .i64 x)) B g { r with count := x } := by
  obtain ⟨tv, ov, vs, h⟩ := h
  exact ⟨tv, ov, vs, h.setG { r with count := x } ov 2 (.int .i64 x) rfl h.opn rfl⟩
/-- the line is not in memory -/
theorem RdAt.lined {w : World} {B g : Nat} {r : P.Rd} (h : RdAt w B g r) (x : Int) : RdAt w B g { r with line := x } := by
  obtain ⟨tv, ov, vs, h⟩ := h
  exact ⟨tv, ov, vs, ⟨h.cells, h.threads, h.opn, h.stmts⟩⟩
theorem RdAt.alloc {w : World} {B g : Nat} {r : P.Rd} (h : RdAt w B g r) (o : Obj) : RdAt (w.alloc o) B g r := h.below ((Below.refl _ _).alloc (Nat.le_refl _) _)
theorem RdAt.drew {w : World} {B g : Nat} {r : P.Rd} (h : RdAt w B g r) : RdAt w.drew B g r := h.below (Below.refl _ _).drew

theorem branch_deep (B g : Nat) (r : P.Rd) (st : P.Stm) (w : World) (h : RdAt w B g r) (hB : B ≤ w.heap.size) (ho : 2 ≤ r.opn.length) :
    Calls Tryz.prog 87 #[.pointer (some ⟨g, 0, none⟩), .agg (stmCells st)] w fun e w' => e = .returned (.bool false) ∧ RdAt w' B g r ∧ BelowX B g w w' := by
  have hA := hide h
  obtain ⟨tv, ov, vs, h⟩ := h
  obtain ⟨ta, tc, oa, oc, rfl, rfl⟩ := h.forms
  obtain ⟨glt, gfr, g0, g1, g2, g3, g4⟩ := h.facts
  have ho' : (2 : Int) ≤ (r.opn.length : Int) := by omega
  clear h
  go_enter Tryz.func87, Tryz.ntmps87
  go_wp2
  go_ret
  exact ⟨rfl, hA.out.alloc _, (BelowX.refl _ _ _).alloc hB _⟩

theorem putD_none (r : P.Rd) (st : P.Stm) (h : r.threads = []) : P.putD r st = (r, false) := by simp [P.putD, h]
theorem putD_end (r : P.Rd) (st : P.Stm) (h : r.threads ≠ []) (hk : (st.kind == 11) = true) : P.putD r st = P.ends r st := by simp [P.putD, h, show st.kind = 11 by simpa using hk]
theorem putD_many (r : P.Rd) (st : P.Stm) (h : r.threads ≠ []) (hk : (st.kind == 11) = false) (hc : r.most ≤ r.count) : P.putD r st = (r, false) := by
  simp [P.putD, h, show ¬ st.kind = 11 by simpa using hk, hc]
theorem putD_deep (r : P.Rd) (st : P.Stm) (h : r.threads ≠ []) (hc : ¬ r.most ≤ r.count) (hb : (st.kind == 10) = true) (ho : 2 ≤ r.opn.length) : P.putD r st = ({ r with count := r.count + 1 }, false) := by
  simp [P.putD, h, show st.kind = 10 by simpa using hb, hc, ho]
theorem putD_if (r : P.Rd) (st : P.Stm) (h : r.threads ≠ []) (hc : ¬ r.most ≤ r.count) (hb : (st.kind == 10) = true) (ho : ¬ 2 ≤ r.opn.length) : P.putD r st = P.branch { r with count := r.count + 1 } st := by
  simp [P.putD, h, show st.kind = 10 by simpa using hb, hc, ho]
theorem putD_put (r : P.Rd) (st : P.Stm) (h : r.threads ≠ []) (hk : (st.kind == 11) = false) (hc : ¬ r.most ≤ r.count) (hb : (st.kind == 10) = false) : P.putD r st = (P.put { r with count := r.count + 1 } st, true) := by
  simp [P.putD, h, show ¬ st.kind = 11 by simpa using hk, show ¬ st.kind = 10 by simpa using hb, hc]

set_option maxHeartbeats 3200000 in
theorem putD_any (B g N : Nat) (r : P.Rd) (st : P.Stm) (w : World) (h : RdAt w B g r) (hF : Few N r) (hN : N < 10000) (hB : B ≤ w.heap.size) (ho9 : r.opn.length < 10) (hi0 : 0 ≤ r.ifs) (hi1 : r.ifs < 10000) (hc0 : 0 ≤ r.count) (hc1 : r.count < 10000) :
    Calls Tryz.prog 69 #[.pointer (some ⟨g, 0, none⟩), .agg (stmCells st)] w fun e w' => e = .returned (.bool (P.putD r st).2) ∧ RdAt w' B g (P.putD r st).1 ∧ BelowX B g w w' := by
  have hA := hide (h.alloc (.cells (stmCells st) 80))
  have HA2 := hide (((h.counted (r.count + 1)).alloc (.cells (stmCells st) 80)).drew)
  obtain ⟨tv, ov, vs, h⟩ := h
  obtain ⟨ta, tc, oa, oc, rfl, rfl⟩ := h.forms
  obtain ⟨glt, gfr, g0, g1, g2, g3, g4⟩ := h.facts
  have hSt := hide (StmAt.new w st)
  have hBl : BelowX B g w (w.alloc (.cells (stmCells st) 80)) := (BelowX.refl _ _ _).alloc hB _
  clear h
  by_cases hne : r.threads = []
  · have HE := hide (putD_none r st hne)
    have hz : ((r.threads.length : Int) == 0) = true := by simp [hne]
    clear hne
    simp only [stmCells]
    go_enter Tryz.func69, Tryz.ntmps69
    go_wp2
    go_ret
    rw [unhide HE]
    exact ⟨rfl, hA.out, hBl⟩
  have hz : ((r.threads.length : Int) == 0) = false := by simpa using hne
  cases hk : (st.kind == 11)
  rotate_left
  · have HE := hide (putD_end r st hne hk)
    simp only [stmCells]
    go_enter Tryz.func69, Tryz.ntmps69
    go_wp2_with (first
      | (refine wpList_load_stm (.tmp 3) rfl rfl w.heap.size st rfl (by exact hSt.out) ?_)
      | (go_at_call 86; refine (ends_any B g N r st _ (by exact hA.out) hne hF hN (by simp; omega) ho9).mono ?_; rintro e w2 ⟨rfl, hr1, hb1⟩))
    go_ret
    rw [unhide HE]
    exact ⟨rfl, hr1, hBl.trans hb1⟩
  by_cases h8 : r.most ≤ r.count
  · have HE := hide (putD_many r st hne hk h8)
    simp only [stmCells]
    go_enter Tryz.func69, Tryz.ntmps69
    go_wp2
    go_region
    all_goals go_wp2
    go_ret
    rw [unhide HE]
    exact ⟨rfl, hA.out.drew, hBl.drew⟩
  have hSt2 : Hid (StmAt ((w.setCell ⟨g, 2, none⟩ (.int .i64 (r.count + 1))).alloc (.cells (stmCells st) 80)).drew w.heap.size st) := by
    unfold Hid
    have := (StmAt.new (w.setCell ⟨g, 2, none⟩ (.int .i64 (r.count + 1))) st).drew
    simpa using this
  have hBl2 : BelowX B g w ((w.setCell ⟨g, 2, none⟩ (.int .i64 (r.count + 1))).alloc (.cells (stmCells st) 80)).drew := (((BelowX.refl _ _ _).setCell _).alloc (by simp; exact hB) _).drew
  cases hbk : (st.kind == 10)
  · have HE := hide (putD_put r st hne hk h8 hbk)
    simp only [stmCells]
    go_enter Tryz.func69, Tryz.ntmps69
    go_wp2
    go_region
    all_goals
      go_wp2_with (first
        | (refine wpList_load_stm (.tmp 3) rfl rfl w.heap.size st rfl (by exact hSt2.out) ?_)
        | (go_at_call 88; refine (put_any B g N { r with count := r.count + 1 } st _ (by exact HA2.out) hne hF hN (by simp; omega)).mono ?_; rintro e w2 ⟨rfl, hr1, hb1⟩))
      go_ret
      rw [unhide HE]
      exact ⟨rfl, hr1, hBl2.trans (BelowX.of hb1)⟩
  by_cases ho : 2 ≤ r.opn.length
  · have HE := hide (putD_deep r st hne h8 hbk ho)
    simp only [stmCells]
    go_enter Tryz.func69, Tryz.ntmps69
    go_wp2
    go_region
    all_goals
      go_wp2_with (first
        | (refine wpList_load_stm (.tmp 3) rfl rfl w.heap.size st rfl (by exact hSt2.out) ?_)
        | (go_at_call 87; refine (branch_deep B g { r with count := r.count + 1 } st _ (by exact HA2.out) (by simp; omega) ho).mono ?_; rintro e w2 ⟨rfl, hr1, hb1⟩))
      go_ret
      rw [unhide HE]
      exact ⟨rfl, hr1, hBl2.trans hb1⟩
  · have HE := hide (putD_if r st hne h8 hbk ho)
    simp only [stmCells]
    go_enter Tryz.func69, Tryz.ntmps69
    go_wp2
    go_region
    all_goals
      go_wp2_with (first
        | (refine wpList_load_stm (.tmp 3) rfl rfl w.heap.size st rfl (by exact hSt2.out) ?_)
        | (go_at_call 87; refine (branch_any B g N { r with count := r.count + 1 } st _ (by exact HA2.out) hne hF hN (by simp; omega) (by simp; omega) hi0 hi1).mono ?_; rintro e w2 ⟨rfl, hr1, hb1⟩))
      go_ret
      rw [unhide HE]
      exact ⟨rfl, hr1, hBl2.trans hb1⟩
end Go.Proofs.YtpkjmdcabdplfaaGreatDoor

namespace Go.Proofs.YtpkjmdcabdplfaaGreatDoor
open Go Go.RowKit
set_option maxRecDepth 100000

set_option maxHeartbeats 3200000 in
theorem takes_any (B g N b off n cap : Nat) (r : P.Rd) (c : ByteArray) (rs : List ByteArray) (w : World) (h : RdAt w B g r) (hw : WordsAt w b off (c :: rs)) (hn : rs.length = n - 1) (hn1 : 1 ≤ n) (hnb : n < 10000) (hc : n ≤ cap) (hblt : b < w.heap.size) (hm8 : r.most = 8)
    (hF : Few N r) (hN : N < 10000) (hB : B ≤ w.heap.size) (ho9 : r.opn.length < 10) (hi0 : 0 ≤ r.ifs) (hi1 : r.ifs < 10000) (hc0 : 0 ≤ r.count) (hc1 : r.count < 10000) :
    Calls Tryz.prog 46 #[.pointer (some ⟨g, 0, none⟩), .slice (some ⟨b, off, none⟩) n cap, .int .i64 r.line] w fun e w' => e = .returned (.bool (P.takes r (c.toList :: rs.map ByteArray.toList)).2) ∧ RdAt w' B g (P.takes r (c.toList :: rs.map ByteArray.toList)).1 ∧ BelowX B g w w' := by
  have hA := hide h
  obtain ⟨hd, _, _⟩ := hw.head
  have hnp : (0 : Int) < (n : Int) := by omega
  have hnp' : 0 < n := by omega
  cases ht : c.toList == [116, 104, 114, 101, 97, 100]
  rotate_left
  · have HE := hide (takes_thread r c.toList (rs.map ByteArray.toList) ht)
    go_enter Tryz.func46, Tryz.ntmps46
    go_wp2_with (first | (go_at_call 67; refine (begins_any B g _ _ _ _ r (c :: rs) _ hA.out hw (by simp; omega) hnb hB (by have := hF.1; omega) ho9).mono ?_; rintro e w1 ⟨rfl, hr1, hb1⟩))
    go_ret
    rw [unhide HE]
    exact ⟨rfl, hr1, hb1⟩
  have HD := hide (P.takes_D r c.toList (rs.map ByteArray.toList) ht hm8)
  clear h
  cases hs : (P.statement (c.toList :: rs.map ByteArray.toList)).2
  · have HE : Hid (P.takes r (c.toList :: rs.map ByteArray.toList) = (r, false)) := by unfold Hid; rw [HD.out, hs]; rfl
    clear HD
    go_enter Tryz.func46, Tryz.ntmps46
    go_wp2_with (first | (go_at_call 68; refine (statement_any _ _ _ _ c rs _ hw hn hn1 hc hblt).mono ?_; rintro e w1 ⟨he, hb⟩; simp only [stmVal, stmCells, List.map_cons] at he; subst he))
    go_ret
    rw [unhide HE]
    exact ⟨rfl, (hA.out.below hb).alloc _, BelowX.of ((hb.mono hB).alloc (by have := hb.size; omega) _)⟩
  · have HE : Hid (P.takes r (c.toList :: rs.map ByteArray.toList) = P.putD r { (P.statement (c.toList :: rs.map ByteArray.toList)).1 with line := r.line }) := by unfold Hid; rw [HD.out, hs]; rfl
    clear HD
    go_enter Tryz.func46, Tryz.ntmps46
    go_wp2_with (first | (go_at_call 68; refine (statement_any _ _ _ _ c rs _ hw hn hn1 hc hblt).mono ?_; rintro e w1 ⟨he, hb⟩; simp only [stmVal, stmCells, List.map_cons] at he; subst he) | (go_at_call 69; refine (putD_any B g N r { (P.statement (c.toList :: rs.map ByteArray.toList)).1 with line := r.line } _ (by exact (hA.out.below hb).alloc (.cells (stmCells { (P.statement (c.toList :: rs.map ByteArray.toList)).1 with line := r.line }) 80)) hF hN (by have := hb.size; simp; omega) ho9 hi0 hi1 hc0 hc1).mono ?_; rintro e w2 ⟨rfl, hr1, hb1⟩))
    go_ret
    rw [unhide HE]
    exact ⟨rfl, hr1, (BelowX.of ((hb.mono hB).alloc (by have := hb.size; omega) _)).trans hb1⟩
end Go.Proofs.YtpkjmdcabdplfaaGreatDoor

namespace Go.Proofs.YtpkjmdcabdplfaaGreatDoor
open Go Go.RowKit
set_option maxRecDepth 100000

def ThreadsAt (w : World) (B : Nat) (tv : Value) (ts : List P.Thr) : Prop := ∃ vs, w.ownsRow B 73 3 tv ts.length (thrCells ts vs) ∧ StmtsAt w B ts vs

theorem ThreadsAt.keep {w w' : World} {B : Nat} {tv : Value} {ts : List P.Thr} (h : ThreadsAt w B tv ts) (hb : ∀ k, k < w.heap.size → w'.heap[k]? = w.heap[k]?) : ThreadsAt w' B tv ts := by
  obtain ⟨vs, h1, h2⟩ := h
  exact ⟨vs, ownsRow_keep h1 (fun k e => hb k (h1.lt k e).2), h2.keep (fun v hv k e => by obtain ⟨n, xs, ho⟩ := h2.mem v hv; exact hb k (ho.lt k e).2)⟩
theorem ThreadsAt.nil (w : World) (B : Nat) : ThreadsAt w B (.slice none 0 0) [] := ⟨[], World.ownsRow_nil _ _ _ _, trivial⟩

theorem P.splitAt_le (c : UInt8) (l : List UInt8) : ∀ x ∈ P.splitAt c l, x.length ≤ l.length := by
  induction l with
  | nil => intro x hx; simp [P.splitAt] at hx; simp [hx]
  | cons y r ih =>
    intro x hx
    by_cases hy : y = c
    · subst hy
      rw [P.splitAt_cons_eq] at hx
      rcases List.mem_cons.1 hx with rfl | hx
      · simp
      · have := ih x hx; simp; omega
    · cases hs : P.splitAt c r with
      | nil => exact absurd hs (P.splitAt_ne _ _)
      | cons a b =>
        rw [P.splitAt_cons_ne c y r hy a b hs] at hx
        rcases List.mem_cons.1 hx with rfl | hx
        · have := ih a (by rw [hs]; simp); simp; omega
        · have := ih x (by rw [hs]; simp [hx]); simp; omega

theorem P.run_keep (xs : List (List UInt8)) : ∀ (r : P.Rd), r.most = 8 → (P.runLines r xs).2 = true → (P.runLines r xs).1.line = r.line + xs.length ∧ (P.runLines r xs).1.most = 8 := by
  induction xs with
  | nil => intro r h _; simp [P.runLines, h]
  | cons x q ih =>
    intro r h ht
    have hk := P.takes_keep { r with line := r.line + 1 } (P.splitAt 32 x) h
    simp only [P.runLines] at ht ⊢
    cases hx : (P.takes { r with line := r.line + 1 } (P.splitAt 32 x)).2
    · rw [hx] at ht; simp at ht
    · rw [hx, if_pos rfl] at ht
      rw [if_pos rfl]
      have := ih _ hk.2 ht
      rw [hk.1] at this
      refine ⟨?_, this.2⟩
      rw [this.1]; simp; omega

theorem P.takes_count (r : P.Rd) (ws : List (List UInt8)) (h0 : 0 ≤ r.count) : (P.takes r ws).1.count ≤ r.count + 1 := by
  unfold P.takes
  split
  · unfold P.begins
    split
    · (simp <;> omega)
    · split
      · split
        · (simp <;> omega)
        · (simp <;> omega)
      · (simp <;> omega)
  · split
    · (simp <;> omega)
    · simp only []
      split
      · split
        · unfold P.ends
          split
          · (simp <;> omega)
          · (simp [P.put] <;> omega)
        · split
          · (simp <;> omega)
          · split
            · split
              · (simp <;> omega)
              · unfold P.branch
                split
                · (simp <;> omega)
                · (simp [P.put] <;> omega)
            · (simp [P.put] <;> omega)
      · (simp <;> omega)

/-- the invariant of the loop: the first k rows are read -/
structure LoopAt (rows : List ByteArray) (k : Nat) (r : P.Rd) : Prop where
  run : P.runLines P.Rd.zero ((rows.take k).map ByteArray.toList) = (r, true)
  good : P.Good k r
  lin : r.line = k
  most : r.most = 8
  cn : r.count ≤ k

theorem take_map_snoc (rows : List ByteArray) (k : Nat) (hk : k < rows.length) : (rows.take (k + 1)).map ByteArray.toList = (rows.take k).map ByteArray.toList ++ [rows[k].toList] := by
  rw [List.take_succ_eq_append_getElem hk, List.map_append, List.map_cons, List.map_nil]

theorem loop_start (rows : List ByteArray) : LoopAt rows 0 P.Rd.zero := ⟨by simp [P.runLines], P.good_zero, rfl, rfl, by simp [P.Rd.zero]⟩

theorem loop_step {rows : List ByteArray} {k : Nat} {r : P.Rd} (h : LoopAt rows k r) (hk : k < rows.length) (ht : (P.takes { r with line := r.line + 1 } (P.splitAt 32 rows[k].toList)).2 = true) :
    LoopAt rows (k + 1) (P.takes { r with line := r.line + 1 } (P.splitAt 32 rows[k].toList)).1 := by
  have hkp := P.takes_keep { r with line := r.line + 1 } (P.splitAt 32 rows[k].toList) h.most
  refine ⟨?_, P.good_takes _ h.good (by have := h.lin; omega), ?_, hkp.2, ?_⟩
  · rw [take_map_snoc rows k hk, P.runLines_snoc _ _ _ _ h.run, ← ht]
  · rw [hkp.1]; have := h.lin; simp; omega
  · have := P.takes_count { r with line := r.line + 1 } (P.splitAt 32 rows[k].toList) h.good.cnt
    have h2 := h.cn
    simp at this ⊢; omega

theorem loop_fail {s : ByteArray} {rows : List ByteArray} {last : ByteArray} {k : Nat} {r : P.Rd} (hc : rows.map ByteArray.toList ++ [last.toList] = P.splitAt 10 s.toList) (h : LoopAt rows k r) (hk : k < rows.length) (ht : (P.takes { r with line := r.line + 1 } (P.splitAt 32 rows[k].toList)).2 = false) :
    P.lines s.toList = ([], (k : Int) + 1) := by
  have hkp := P.takes_keep { r with line := r.line + 1 } (P.splitAt 32 rows[k].toList) h.most
  have hrun : P.runLines P.Rd.zero ((rows.take (k + 1)).map ByteArray.toList) = P.takes { r with line := r.line + 1 } (P.splitAt 32 rows[k].toList) := by
    rw [take_map_snoc rows k hk, P.runLines_snoc _ _ _ _ h.run]
  have hd : (P.splitAt 10 s.toList).dropLast = (rows.take (k + 1)).map ByteArray.toList ++ (rows.drop (k + 1)).map ByteArray.toList := by
    rw [← hc, List.dropLast_concat, ← List.map_append, List.take_append_drop]
  have := P.runLines_more _ P.Rd.zero ((rows.drop (k + 1)).map ByteArray.toList) (by rw [hrun]; exact ht)
  unfold P.lines
  simp only [hd, this, hrun, ht]
  simp only [Bool.false_eq_true, if_false]
  rw [hkp.1, h.lin]

theorem loop_end {s : ByteArray} {rows : List ByteArray} {last : ByteArray} {r : P.Rd} (hc : rows.map ByteArray.toList ++ [last.toList] = P.splitAt 10 s.toList) (h : LoopAt rows rows.length r) :
    P.lines s.toList = if last.toList.isEmpty = false ∨ r.threads.length = 0 ∨ 0 < r.opn.length then ([], (rows.length : Int) + 1) else (r.threads, 0) := by
  have hrun := h.run
  rw [List.take_length] at hrun
  have e1 : last.toList = [] ↔ last.toList.isEmpty = true := by rw [List.isEmpty_iff]
  unfold P.lines
  simp only [← hc, List.dropLast_concat, hrun, List.getLast?_concat, if_true, h.lin]
  congr 1
  simp only [ne_eq, Option.some.injEq, e1, eq_iff_iff]
  simp [List.length_pos_iff, or_comm]
end Go.Proofs.YtpkjmdcabdplfaaGreatDoor
