import Derived.Test.YtpkjmdcabdplfaaGreatDoorA27
set_option linter.unusedVariables false
set_option linter.unusedSimpArgs false
namespace Go.Proofs.YtpkjmdcabdplfaaGreatDoor
open Go Go.RowKit
set_option maxRecDepth 100000

namespace R
/-- one thread more -/
theorem uneven_zero (f0 f1 : Int) (t : Th) (r : List Th) (h : t.block = 0) : unevenGo f0 f1 (t :: r) = if (if f0 < 0 then numL isB t.body else f0) != numL isB t.body || decide (2 < numL isB t.body) then t.row else unevenGo (if f0 < 0 then numL isB t.body else f0) f1 r := by
  simp [unevenGo, h]
theorem uneven_one (f0 f1 : Int) (t : Th) (r : List Th) (h : t.block = 1) : unevenGo f0 f1 (t :: r) = if (if f1 < 0 then numL isB t.body else f1) != numL isB t.body || decide (2 < numL isB t.body) then t.row else unevenGo f0 (if f1 < 0 then numL isB t.body else f1) r := by
  simp [unevenGo, h]
end R

theorem pair_facts {w : World} {g : Nat} {a b : Value} (h : w.heap[g]? = some (.cells #[a, b] 3 (0, 0))) : w.cell? ⟨g, 0, none⟩ = some a ∧ w.cell? ⟨g, 1, none⟩ = some b ∧ w.frozen? ⟨g, 0, none⟩ = false ∧ w.frozen? ⟨g, 1, none⟩ = false := by
  refine ⟨by simp [World.cell?, h], by simp [World.cell?, h], by simp [World.frozen?, h], by simp [World.frozen?, h]⟩

set_option maxHeartbeats 3200000 in
theorem unevenR_any (B bt n cap : Nat) (ts : List R.Th) (vs : List Value) (Fs : List (List Nat)) (w : World) (h : ThsAt w B (.slice (some ⟨bt, 0, none⟩) n cap) ts vs Fs) (hn : n = ts.length) (hnb : n < 10) (hs : ∀ t ∈ ts, R.sizeL t.body < 10000) (hb : ∀ t ∈ ts, t.block = 0 ∨ t.block = 1) :
    Calls Tryz.prog 17 #[.slice (some ⟨bt, 0, none⟩) n cap] w fun e w' => e = .returned (.int .i64 (R.uneven ts)) ∧ Below w.heap.size w w' := by
  have HA := hide h
  have HN := hide hn
  have HS := hide hs
  have HB := hide hb
  clear h hn hs hb
  go_enter Tryz.func17, Tryz.ntmps17
  go_wp2
  go_loopw [4] (fun i wr => ∃ (k : Nat) (f0 f1 : Int), k ≤ n ∧ i = .int .i64 k ∧ Hid (R.uneven ts = R.unevenGo f0 f1 (ts.drop k)) ∧ (-1 ≤ f0 ∧ f0 < 10000 ∧ -1 ≤ f1 ∧ f1 < 10000) ∧ wr.heap[w.heap.size]? = some (.cells #[.int .i64 f0, .int .i64 f1] 3 (0, 0)) ∧ Below w.heap.size w wr) (fun i _ => n - (intOf i).toNat)
  case atStart => exact ⟨0, -1, -1, Nat.zero_le _, rfl, rfl, by decide, heap_alloc_new w _, (Below.refl _ _).alloc (Nat.le_refl _) _⟩
  case round =>
    obtain ⟨k, f0, f1, hk, rfl, HU, hf, hcur, hbel⟩ := hrel
    by_cases hlt : k < n
    · have hkl : k < ts.length := by rw [← HN.out]; exact hlt
      obtain ⟨hbt, u, c0, c1, c2, HC⟩ := HA.out.get HN.out HS.out k hkl
      have d0 := (hbel.cell (p := ⟨bt, k * 3, none⟩) hbt).trans c0
      have d1 := (hbel.cell (p := ⟨bt, k * 3 + 1, none⟩) hbt).trans c1
      have d2 := (hbel.cell (p := ⟨bt, k * 3 + 2, none⟩) hbt).trans c2
      have hz := HS.out ts[k] (List.getElem_mem hkl)
      unfold R.sizeL at hz
      have e1 := R.numL_bd R.isB ts[k].body
      have HD := hide (P.drop_cons ts k hkl)
      have C1 : Hid (Calls Tryz.prog 35 #[u, .string ⟨#[98, 97, 114, 114, 105, 101, 114]⟩, .string ⟨#[]⟩] wr fun e w' => e = .returned (.int .i64 (R.numL R.isB ts[k].body)) ∧ Below wr.heap.size wr w') := by
        have := HC.out ⟨#[98, 97, 114, 114, 105, 101, 114]⟩ ⟨#[]⟩ wr hbel
        rw [lit_toList, lit_toList] at this
        rw [R.isB_num]; exact this
      have hblk := HB.out ts[k] (List.getElem_mem hkl)
      have hws : w.heap.size < wr.heap.size := by
        have := Array.getElem?_eq_some_iff.1 hcur
        exact this.1
      have hin : (k : Int) < (n : Int) := by omega
      generalize ts[k] = t at *
      generalize hN : R.numL R.isB t.body = nb at *
      have hnbd : 0 ≤ nb ∧ nb < 10000 := by omega
      clear c0 c1 c2 HC hz e1
      rcases hblk with hbk | hbk
      · have hU := R.uneven_zero f0 f1 t (ts.drop (k + 1)) hbk
        rw [hN, ← HD.out, ← HU.out] at hU
        rw [hbk] at d0
        by_cases hneg : f0 < 0
        · rw [if_pos hneg] at hU
          by_cases hbig : 2 < nb
          · have HR : Hid (R.uneven ts = t.row) := by unfold Hid; rw [hU]; simp [hbig]
            clear hU
            go_wp2_with (first | (go_at_call 35; refine C1.out.mono ?_; rintro e w1 ⟨rfl, hb1⟩; have q1 := (hb1.cell (p := ⟨bt, k * 3, none⟩) (by show bt < _; omega)).trans d0; have q2 := (hb1.cell (p := ⟨bt, k * 3 + 2, none⟩) (by show bt < _; omega)).trans d2; have q3 := (hb1.block w.heap.size hws).trans hcur; obtain ⟨p1, p2, p3, p4⟩ := pair_facts q3; have hne : bt ≠ w.heap.size := (by omega); have q5 := fun u : Value => (cell_set_ne (w := w1) (g := w.heap.size) (i := 0) (b := bt) (o := k * 3 + 2) (u := u) hne).trans q2; have hw1 := hb1.size; have hb2 : Below w.heap.size w w1 := hbel.trans (hb1.mono (by omega))))
            go_ret
            rw [HR.out]
            exact ⟨rfl, hb2.setCell (Nat.le_refl _) _⟩
          · have HR : Hid (R.uneven ts = R.unevenGo nb f1 (ts.drop (k + 1))) := by unfold Hid; rw [hU]; simp [hbig]
            clear hU
            go_wp2_with (first | (go_at_call 35; refine C1.out.mono ?_; rintro e w1 ⟨rfl, hb1⟩; have q1 := (hb1.cell (p := ⟨bt, k * 3, none⟩) (by show bt < _; omega)).trans d0; have q2 := (hb1.cell (p := ⟨bt, k * 3 + 2, none⟩) (by show bt < _; omega)).trans d2; have q3 := (hb1.block w.heap.size hws).trans hcur; obtain ⟨p1, p2, p3, p4⟩ := pair_facts q3; have hne : bt ≠ w.heap.size := (by omega); have q5 := fun u : Value => (cell_set_ne (w := w1) (g := w.heap.size) (i := 0) (b := bt) (o := k * 3 + 2) (u := u) hne).trans q2; have hw1 := hb1.size; have hb2 : Below w.heap.size w w1 := hbel.trans (hb1.mono (by omega))))
            go_roundw
            case rel => exact ⟨k + 1, nb, f1, by omega, by go_num, HR, by omega, by rw [setCell_block q3]; rfl, hb2.setCell (Nat.le_refl _) _⟩
            case measure => simp [intOf]; omega
        · rw [if_neg hneg] at hU
          by_cases hdiff : f0 = nb
          · by_cases hbig : 2 < nb
            · have HR : Hid (R.uneven ts = t.row) := by unfold Hid; rw [hU]; simp [hbig]
              clear hU
              go_wp2_with (first | (go_at_call 35; refine C1.out.mono ?_; rintro e w1 ⟨rfl, hb1⟩; have q1 := (hb1.cell (p := ⟨bt, k * 3, none⟩) (by show bt < _; omega)).trans d0; have q2 := (hb1.cell (p := ⟨bt, k * 3 + 2, none⟩) (by show bt < _; omega)).trans d2; have q3 := (hb1.block w.heap.size hws).trans hcur; obtain ⟨p1, p2, p3, p4⟩ := pair_facts q3; have hne : bt ≠ w.heap.size := (by omega); have q5 := fun u : Value => (cell_set_ne (w := w1) (g := w.heap.size) (i := 0) (b := bt) (o := k * 3 + 2) (u := u) hne).trans q2; have hw1 := hb1.size; have hb2 : Below w.heap.size w w1 := hbel.trans (hb1.mono (by omega))))
              go_ret
              rw [HR.out]
              exact ⟨rfl, hb2⟩
            · have HR : Hid (R.uneven ts = R.unevenGo f0 f1 (ts.drop (k + 1))) := by unfold Hid; rw [hU]; simp [hbig, hdiff]
              clear hU
              go_wp2_with (first | (go_at_call 35; refine C1.out.mono ?_; rintro e w1 ⟨rfl, hb1⟩; have q1 := (hb1.cell (p := ⟨bt, k * 3, none⟩) (by show bt < _; omega)).trans d0; have q2 := (hb1.cell (p := ⟨bt, k * 3 + 2, none⟩) (by show bt < _; omega)).trans d2; have q3 := (hb1.block w.heap.size hws).trans hcur; obtain ⟨p1, p2, p3, p4⟩ := pair_facts q3; have hne : bt ≠ w.heap.size := (by omega); have q5 := fun u : Value => (cell_set_ne (w := w1) (g := w.heap.size) (i := 0) (b := bt) (o := k * 3 + 2) (u := u) hne).trans q2; have hw1 := hb1.size; have hb2 : Below w.heap.size w w1 := hbel.trans (hb1.mono (by omega))))
              go_roundw
              case rel => exact ⟨k + 1, f0, f1, by omega, by go_num, HR, hf, q3, hb2⟩
              case measure => simp [intOf]; omega
          · have HR : Hid (R.uneven ts = t.row) := by unfold Hid; rw [hU]; simp [hdiff]
            clear hU
            go_wp2_with (first | (go_at_call 35; refine C1.out.mono ?_; rintro e w1 ⟨rfl, hb1⟩; have q1 := (hb1.cell (p := ⟨bt, k * 3, none⟩) (by show bt < _; omega)).trans d0; have q2 := (hb1.cell (p := ⟨bt, k * 3 + 2, none⟩) (by show bt < _; omega)).trans d2; have q3 := (hb1.block w.heap.size hws).trans hcur; obtain ⟨p1, p2, p3, p4⟩ := pair_facts q3; have hne : bt ≠ w.heap.size := (by omega); have q5 := fun u : Value => (cell_set_ne (w := w1) (g := w.heap.size) (i := 0) (b := bt) (o := k * 3 + 2) (u := u) hne).trans q2; have hw1 := hb1.size; have hb2 : Below w.heap.size w w1 := hbel.trans (hb1.mono (by omega))))
            go_ret
            rw [HR.out]
            exact ⟨rfl, hb2⟩
      · have hU := R.uneven_one f0 f1 t (ts.drop (k + 1)) hbk
        rw [hN, ← HD.out, ← HU.out] at hU
        rw [hbk] at d0
        by_cases hneg : f1 < 0
        · rw [if_pos hneg] at hU
          by_cases hbig : 2 < nb
          · have HR : Hid (R.uneven ts = t.row) := by unfold Hid; rw [hU]; simp [hbig]
            clear hU
            go_wp2_with (first | (go_at_call 35; refine C1.out.mono ?_; rintro e w1 ⟨rfl, hb1⟩; have q1 := (hb1.cell (p := ⟨bt, k * 3, none⟩) (by show bt < _; omega)).trans d0; have q2 := (hb1.cell (p := ⟨bt, k * 3 + 2, none⟩) (by show bt < _; omega)).trans d2; have q3 := (hb1.block w.heap.size hws).trans hcur; obtain ⟨p1, p2, p3, p4⟩ := pair_facts q3; have hne : bt ≠ w.heap.size := (by omega); have q5 := fun u : Value => (cell_set_ne (w := w1) (g := w.heap.size) (i := 1) (b := bt) (o := k * 3 + 2) (u := u) hne).trans q2; have hw1 := hb1.size; have hb2 : Below w.heap.size w w1 := hbel.trans (hb1.mono (by omega))))
            go_ret
            rw [HR.out]
            exact ⟨rfl, hb2.setCell (Nat.le_refl _) _⟩
          · have HR : Hid (R.uneven ts = R.unevenGo f0 nb (ts.drop (k + 1))) := by unfold Hid; rw [hU]; simp [hbig]
            clear hU
            go_wp2_with (first | (go_at_call 35; refine C1.out.mono ?_; rintro e w1 ⟨rfl, hb1⟩; have q1 := (hb1.cell (p := ⟨bt, k * 3, none⟩) (by show bt < _; omega)).trans d0; have q2 := (hb1.cell (p := ⟨bt, k * 3 + 2, none⟩) (by show bt < _; omega)).trans d2; have q3 := (hb1.block w.heap.size hws).trans hcur; obtain ⟨p1, p2, p3, p4⟩ := pair_facts q3; have hne : bt ≠ w.heap.size := (by omega); have q5 := fun u : Value => (cell_set_ne (w := w1) (g := w.heap.size) (i := 1) (b := bt) (o := k * 3 + 2) (u := u) hne).trans q2; have hw1 := hb1.size; have hb2 : Below w.heap.size w w1 := hbel.trans (hb1.mono (by omega))))
            go_roundw
            case rel => exact ⟨k + 1, f0, nb, by omega, by go_num, HR, by omega, by rw [setCell_block q3]; rfl, hb2.setCell (Nat.le_refl _) _⟩
            case measure => simp [intOf]; omega
        · rw [if_neg hneg] at hU
          by_cases hdiff : f1 = nb
          · by_cases hbig : 2 < nb
            · have HR : Hid (R.uneven ts = t.row) := by unfold Hid; rw [hU]; simp [hbig]
              clear hU
              go_wp2_with (first | (go_at_call 35; refine C1.out.mono ?_; rintro e w1 ⟨rfl, hb1⟩; have q1 := (hb1.cell (p := ⟨bt, k * 3, none⟩) (by show bt < _; omega)).trans d0; have q2 := (hb1.cell (p := ⟨bt, k * 3 + 2, none⟩) (by show bt < _; omega)).trans d2; have q3 := (hb1.block w.heap.size hws).trans hcur; obtain ⟨p1, p2, p3, p4⟩ := pair_facts q3; have hne : bt ≠ w.heap.size := (by omega); have q5 := fun u : Value => (cell_set_ne (w := w1) (g := w.heap.size) (i := 1) (b := bt) (o := k * 3 + 2) (u := u) hne).trans q2; have hw1 := hb1.size; have hb2 : Below w.heap.size w w1 := hbel.trans (hb1.mono (by omega))))
              go_ret
              rw [HR.out]
              exact ⟨rfl, hb2⟩
            · have HR : Hid (R.uneven ts = R.unevenGo f0 f1 (ts.drop (k + 1))) := by unfold Hid; rw [hU]; simp [hbig, hdiff]
              clear hU
              go_wp2_with (first | (go_at_call 35; refine C1.out.mono ?_; rintro e w1 ⟨rfl, hb1⟩; have q1 := (hb1.cell (p := ⟨bt, k * 3, none⟩) (by show bt < _; omega)).trans d0; have q2 := (hb1.cell (p := ⟨bt, k * 3 + 2, none⟩) (by show bt < _; omega)).trans d2; have q3 := (hb1.block w.heap.size hws).trans hcur; obtain ⟨p1, p2, p3, p4⟩ := pair_facts q3; have hne : bt ≠ w.heap.size := (by omega); have q5 := fun u : Value => (cell_set_ne (w := w1) (g := w.heap.size) (i := 1) (b := bt) (o := k * 3 + 2) (u := u) hne).trans q2; have hw1 := hb1.size; have hb2 : Below w.heap.size w w1 := hbel.trans (hb1.mono (by omega))))
              go_roundw
              case rel => exact ⟨k + 1, f0, f1, by omega, by go_num, HR, hf, q3, hb2⟩
              case measure => simp [intOf]; omega
          · have HR : Hid (R.uneven ts = t.row) := by unfold Hid; rw [hU]; simp [hdiff]
            clear hU
            go_wp2_with (first | (go_at_call 35; refine C1.out.mono ?_; rintro e w1 ⟨rfl, hb1⟩; have q1 := (hb1.cell (p := ⟨bt, k * 3, none⟩) (by show bt < _; omega)).trans d0; have q2 := (hb1.cell (p := ⟨bt, k * 3 + 2, none⟩) (by show bt < _; omega)).trans d2; have q3 := (hb1.block w.heap.size hws).trans hcur; obtain ⟨p1, p2, p3, p4⟩ := pair_facts q3; have hne : bt ≠ w.heap.size := (by omega); have q5 := fun u : Value => (cell_set_ne (w := w1) (g := w.heap.size) (i := 1) (b := bt) (o := k * 3 + 2) (u := u) hne).trans q2; have hw1 := hb1.size; have hb2 : Below w.heap.size w w1 := hbel.trans (hb1.mono (by omega))))
            go_ret
            rw [HR.out]
            exact ⟨rfl, hb2⟩
    · have HU' : Hid (R.uneven ts = 0) := by
        unfold Hid; rw [HU.out, List.drop_eq_nil_of_le (by have := HN.out; omega)]; rfl
      go_wp2
      go_ret
      rw [HU'.out]
      exact ⟨rfl, hbel⟩
end Go.Proofs.YtpkjmdcabdplfaaGreatDoor
