import Derived.Lib.ItoaNum
import Derived.Lib.ItoaWalk
import Derived.Test.YtnoolmgophobnaaDoorA15
import Derived.Test.YtnoolmgophobnaaDoorA02
import Derived.Test.YtnoolmgophobnaaDoorA01
set_option linter.unusedVariables false
set_option linter.unusedSimpArgs false
namespace Go.Proofs.YtnoolmgophobnaaDoor
open Go Go.RowKit
set_option maxRecDepth 100000

set_option maxHeartbeats 2000000 in
theorem small_any (i : Nat) (w : World) (h : i < 100) :
    Calls Tryd.prog 80 #[.int .i64 (i : Int)] w fun e w' => e = .returned (.string ⟨(Lib.decDigits i).toArray⟩) ∧ w' = w := by
  go_enter Tryd.func80, Tryd.ntmps80
  go_name_bytes_deep 45 SM hSM
  have eSM : SM = Lib.smalls := by rw [← hSM]; decide +kernel
  subst eSM
  clear hSM
  go_name_bytes_deep 30 DG hDG
  have eDG : DG = Lib.digits36 := by rw [← hDG]; decide +kernel
  subst eDG
  clear hDG
  by_cases h10 : i < 10
  · have hsl : ∀ w, (Instr.slice 9 (.string Lib.digits36) (some (.int .i64 (i : Int))) (some (.int .i64 ((i : Int) + 1))) none).run Tryd.prog w = .ok (.string (Lib.digits36.extract i (i + 1))) w := fun w => by
      rw [run_slice_string w 9 Lib.digits36 .i64 .i64 _ _ Tryd.underlying9 (by omega) (by omega) (by rw [Lib.digits36_size]; omega), show ((i : Int)).toNat = i by omega, show ((i : Int) + 1).toNat = i + 1 by omega]
    go_wp2
    go_ret
    refine ⟨?_, rfl⟩
    show Ending.returned (Value.string (Lib.digits36.extract i (i + 1))) = _
    rw [ba_of (Lib.digits36.extract i (i + 1)) (Lib.decDigits i) (by rw [Lib.extract_data]; exact Lib.digits36_piece h10)]
  · have hsl : ∀ w, (Instr.slice 9 (.string Lib.smalls) (some (.int .i64 ((i : Int) * 2))) (some (.int .i64 ((i : Int) * 2 + 2))) none).run Tryd.prog w = .ok (.string (Lib.smalls.extract (i * 2) (i * 2 + 2))) w := fun w => by
      rw [run_slice_string w 9 Lib.smalls .i64 .i64 _ _ Tryd.underlying9 (by omega) (by omega) (by rw [Lib.smalls_size]; omega), show ((i : Int) * 2).toNat = i * 2 by omega, show ((i : Int) * 2 + 2).toNat = i * 2 + 2 by omega]
    go_wp2
    go_ret
    refine ⟨?_, rfl⟩
    show Ending.returned (Value.string (Lib.smalls.extract (i * 2) (i * 2 + 2))) = _
    rw [ba_of (Lib.smalls.extract (i * 2) (i * 2 + 2)) (Lib.decDigits i) (by rw [Lib.extract_data]; exact Lib.smalls_piece h10 h)]

set_option maxHeartbeats 2000000 in
theorem format_any (i : Nat) (w : World) (h : i < 100) :
    Calls Tryd.prog 72 #[.int .i64 (i : Int), .int .i64 10] w fun e w' => e = .returned (.string ⟨(Lib.decDigits i).toArray⟩) ∧ w' = w := by
  have h1 : (0 : Int) ≤ (i : Int) := by omega
  have h2 : (i : Int) < 100 := by omega
  go_enter Tryd.func72, Tryd.ntmps72
  go_wp2_with (first | (go_at_call 80; refine (small_any i _ h).mono ?_; rintro e w' ⟨rfl, rfl⟩))
  go_ret
  exact ⟨rfl, rfl⟩

theorem itoa_any (n : Int) (w : World) (h0 : 0 ≤ n) (h : n < 100) :
    Calls Tryd.prog 32 #[.int .i64 n] w fun e w' => e = .returned (.string ⟨(Lib.decDigits n.toNat).toArray⟩) ∧ w' = w := by
  obtain ⟨i, rfl⟩ := Int.eq_ofNat_of_zero_le h0
  rw [Int.toNat_natCast]
  go_enter Tryd.func32, Tryd.ntmps32
  go_wp2_with (first | (go_at_call 72; refine (format_any i _ (by omega)).mono ?_; rintro e w' ⟨rfl, rfl⟩) | go_in)
  go_ret
  exact ⟨rfl, rfl⟩
end Go.Proofs.YtnoolmgophobnaaDoor

namespace Go.Proofs.YtnoolmgophobnaaDoor
open Go Go.RowKit
set_option maxRecDepth 100000

theorem itoa_txt (n : Int) (w : World) (h0 : 0 ≤ n) (h : n < 100) :
    Calls Tryd.prog 32 #[.int .i64 n] w fun e w' => ∃ s, e = .returned (.string s) ∧ Txt 2 s (P.dec n) ∧ w' = w := by
  refine (itoa_any n w h0 h).mono ?_
  rintro e w' ⟨rfl, rfl⟩
  refine ⟨_, rfl, ⟨mk_toList _, ?_⟩, rfl⟩
  have := P.dec_len n h
  rw [← size_toList, mk_toList]; exact this

set_option maxHeartbeats 400000 in
theorem regA_any (n : Int) (w : World) (h0 : 0 ≤ n) (h : n < 100) :
    Calls Tryd.prog 57 #[.int .i64 n] w fun e w' => ∃ s, e = .returned (.string s) ∧ Txt 4 s (P.regT n) ∧ w' = w := by
  go_enter Tryd.func57, Tryd.ntmps57
  go_wp2_with (first | (go_at_call 32; refine (itoa_txt n _ h0 h).mono ?_; rintro e w' ⟨s, rfl, hs, rfl⟩; have hsz := hs.size))
  go_ret
  refine ⟨_, rfl, ⟨?_, ?_⟩, rfl⟩
  · simp [app_toList, lit_toList, hs.1, P.regT]
  · simp [lit_size]; omega

set_option maxHeartbeats 400000 in
theorem varA_any (n : Int) (w : World) :
    Calls Tryd.prog 58 #[.int .i64 n] w fun e w' => ∃ s, e = .returned (.string s) ∧ Txt 1 s (P.varT n) ∧ w' = w := by
  go_enter Tryd.func58, Tryd.ntmps58
  go_wp2
  all_goals go_ret
  all_goals refine ⟨_, rfl, ⟨?_, by simp [lit_size]⟩, rfl⟩
  all_goals simp [P.varT, lit_toList, *]

set_option maxHeartbeats 400000 in
theorem ordA_any (n : Int) (w : World) :
    Calls Tryd.prog 73 #[.int .i64 n] w fun e w' => ∃ s, e = .returned (.string s) ∧ Txt 7 s (P.ordT n) ∧ w' = w := by
  go_enter Tryd.func73, Tryd.ntmps73
  go_wp2
  all_goals go_ret
  all_goals refine ⟨_, rfl, ⟨?_, by simp [lit_size]⟩, rfl⟩
  all_goals simp [P.ordT, lit_toList, *]

set_option maxHeartbeats 400000 in
theorem opdA_any (o : P.Opd) (w : World) (h0 : 0 ≤ o.n) (h : o.n < 100) :
    Calls Tryd.prog 59 #[.agg #[.bool o.reg, .int .i64 o.n]] w fun e w' => ∃ s, e = .returned (.string s) ∧ Txt 4 s (P.opdT o) ∧ Below w.heap.size w w' := by
  cases hr : o.reg
  · go_enter Tryd.func59, Tryd.ntmps59
    go_wp2_with (first | (go_at_call 32; refine (itoa_txt o.n _ h0 h).mono ?_; rintro e w' ⟨s, rfl, hs, rfl⟩; have hsz := hs.size))
    go_ret
    refine ⟨_, rfl, ⟨?_, by omega⟩, (Below.refl _ _).alloc (Nat.le_refl _) _⟩
    rw [hs.1]; simp [P.opdT, hr]
  · go_enter Tryd.func59, Tryd.ntmps59
    go_wp2_with (first | (go_at_call 57; refine (regA_any o.n _ h0 h).mono ?_; rintro e w' ⟨s, rfl, hs, rfl⟩; have hsz := hs.size))
    go_ret
    refine ⟨_, rfl, ⟨?_, by omega⟩, (Below.refl _ _).alloc (Nat.le_refl _) _⟩
    rw [hs.1]; simp [P.opdT, hr]

set_option maxHeartbeats 800000 in
theorem sufA_any (st : P.Stm) (w : World) :
    Calls Tryd.prog 60 #[.agg (stmCells st)] w fun e w' => ∃ s, e = .returned (.string s) ∧ Txt 20 s (P.sufT st) ∧ Below w.heap.size w w' := by
  simp only [stmCells]
  cases h0 : (st.order == 0)
  · cases h1 : (st.scope == 0)
    all_goals
      go_enter Tryd.func60, Tryd.ntmps60
      go_wp2_with (first | (go_at_call 73; refine (ordA_any st.order _).mono ?_; rintro e w' ⟨s, rfl, hs, rfl⟩; have hsz := hs.size))
      go_ret
      refine ⟨_, rfl, ⟨?_, ?_⟩, (Below.refl _ _).alloc (Nat.le_refl _) _⟩
      · simp [app_toList, lit_toList, hs.1, P.sufT, h0, h1]
      · simp [lit_size]; omega
  · go_enter Tryd.func60, Tryd.ntmps60
    go_wp2
    go_ret
    refine ⟨_, rfl, ⟨?_, by simp [lit_size]⟩, (Below.refl _ _).alloc (Nat.le_refl _) _⟩
    simp [lit_toList, P.sufT, h0]
end Go.Proofs.YtnoolmgophobnaaDoor
