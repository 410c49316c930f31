import Derived.Test.YtpkjmdcabdplfaaGreatDoorA20
set_option linter.unusedVariables false
set_option linter.unusedSimpArgs false
namespace Go.Proofs.YtpkjmdcabdplfaaGreatDoor
open Go Go.RowKit
set_option maxRecDepth 100000

set_option maxHeartbeats 3200000 in
theorem rst_load (b off n cap : Nat) (c e d p : ByteArray) (r : List ByteArray) (w : World) (hw : WordsAt w b off (c :: e :: d :: p :: r)) (hn : (c :: e :: d :: p :: r).length = n) (hc : n ≤ cap) (hblt : b < w.heap.size) (hmin : 5 ≤ n) (hk0 : (c.toList == [98, 97, 114, 114, 105, 101, 114]) = false) (hk1 : (c.toList == [102, 101, 110, 99, 101]) = false) (hks : (c.toList == [115, 116, 111, 114, 101] && decide (4 ≤ n)) = false) (he : (e.toList == [61]) = true) (hd : (d.toList == [108, 111, 97, 100]) = true) :
    Calls Tryz.prog 16 #[.slice (some ⟨b, off, none⟩) n cap] w fun e w' => e = .returned (lnVal (R.stLoad c p r)) ∧ Below w.heap.size w w' := by
  obtain ⟨hd0, _, hw1⟩ := hw.head
  have hi0 : 0 < n := by omega
  have hi1 : (1 : Int) < (n : Int) := by omega
  have hi2 : (2 : Int) < (n : Int) := by omega
  have hi3 : (3 : Int) < (n : Int) := by omega
  have hi4 : (4 : Int) < (n : Int) := by omega
  have hi3' : ¬ (n : Int) < 3 := by omega
  have hrl : r.length = n - 4 := by simp at hn; omega
  have hcap : ¬ cap = 4 := by omega
  have hks' : (c.toList == [115, 116, 111, 114, 101]) = false := by
    have h4 : decide (4 ≤ n) = true := by simp; omega
    rw [h4] at hks; simpa using hks
  have S0 := hide (StAt.start w b off (c :: e :: d :: p :: r) R.x0 hw)
  obtain ⟨hd1, _, _⟩ := hw1.head
  have hbd := R.inn_bd c.toList R.regs
  clear hn hw hw1
  go_enter Tryz.func16, Tryz.ntmps16
  go_wp2_with fail
  refine (in_lst c R.regs _ _ rfl (by simp)).mono ?_
  rintro e w1 ⟨rfl, hb1⟩
  have s1 := StAt.below S0.out hb1
  obtain ⟨f1, f2, c0, c1, c2, c3, c4, c5, c6, c7, c8⟩ := s1.xat.facts
  have d2 := s1.words 2 d rfl
  have d3 := s1.words 3 p rfl
  have hbl1 : b < w1.heap.size := by have := s1.bel.size; omega
  have S1 := hide s1
  clear s1 hb1 S0 hd1
  go_wp2_with fail
  have s2 := (S1.out.set { R.x0 with reg := R.inn c.toList R.regs } hblt 1 (.int .i64 (R.inn c.toList R.regs)) rfl).set { R.x0 with reg := R.inn c.toList R.regs, op := R.sLoad } hblt 0 (.string R.sLoad) rfl
  refine (in_lst p R.vars _ _ rfl (by simp)).mono ?_
  rintro e w2 ⟨rfl, hb2⟩
  have s3 := s2.below hb2
  clear c0 c1 c2 c3 c4 c5 c6 c7 c8 f1 f2
  obtain ⟨f1, f2, c0, c1, c2, c3, c4, c5, c6, c7, c8⟩ := s3.xat.facts
  have S3 := hide s3
  have hbl2 : b < w2.heap.size := by have := s3.bel.size; omega
  clear s3 s2 hb2 S1 d2 d3 hbl1
  go_wp2_with fail
  have s5 := S3.out.set { R.x0 with reg := R.inn c.toList R.regs, op := R.sLoad, var := R.inn p.toList R.vars } hblt 2 (.int .i64 (R.inn p.toList R.vars)) rfl
  refine (how_any (w.heap.size + 1) b _ _ _ { R.x0 with reg := R.inn c.toList R.regs, op := R.sLoad, var := R.inn p.toList R.vars } (.slice none 0 0) R.oLoad _ r _ (by exact s5.xat) (by exact s5.words.drop 4) hrl (by omega) rfl (by simp)).mono ?_
  rintro e w5 ⟨rfl, hx5, hgr5⟩
  have s6 := s5.how hblt hx5 hgr5
  clear c0 c1 c2 c3 c4 c5 c6 c7 c8 f1 f2
  clear s5 hx5 hgr5
  obtain ⟨f1, f2, c0, c1, c2, c3, c4, c5, c6, c7, c8⟩ := s6.xat.facts
  obtain ⟨e1, e2, r0, r1, r2, r3, r4, r5, r6, r7, r8⟩ := s6.res.facts
  have S4 := hide s6
  clear s6
  have hv := how_var { R.x0 with reg := R.inn c.toList R.regs, op := R.sLoad, var := R.inn p.toList R.vars } R.oLoad r
  have HE : Hid (R.stLoad c p r = ((R.how { R.x0 with reg := R.inn c.toList R.regs, op := R.sLoad, var := R.inn p.toList R.vars } R.oLoad r).1, decide (0 ≤ R.inn c.toList R.regs) && (R.how { R.x0 with reg := R.inn c.toList R.regs, op := R.sLoad, var := R.inn p.toList R.vars } R.oLoad r).2 && decide (0 ≤ R.inn p.toList R.vars))) := rfl
  generalize R.how { R.x0 with reg := R.inn c.toList R.regs, op := R.sLoad, var := R.inn p.toList R.vars } R.oLoad r = H at *
  generalize R.inn p.toList R.vars = iv at *
  generalize R.inn c.toList R.regs = ir at *
  have HV := hide hv
  clear hv hd0 hi0 hi1 hi2 hi3 hi4 hi3' hrl hcap hk0 hk1 hks hks' he
  generalize hH2 : H.2 = h2 at *
  have HH2 := hide hH2
  clear hH2
  by_cases hir : 0 ≤ ir
  rotate_left
  · have hird : decide (0 ≤ ir) = false := decide_eq_false hir
    go_wp2_with fail
    go_region
    all_goals go_wp2
    all_goals exact ret_ln (p := 2) (u := 3) w.heap.size H.1 _ (by kernel_rfl) rfl rfl (by exact (S4.out.res.setAll H.1 (.slice none 0 0)).drew) rfl ⟨by rw [HE.out]; simp [hird], (below_all H.1 (.slice none 0 0) S4.out.bel (Nat.le_refl _)).drew⟩
  have hird : decide (0 ≤ ir) = true := decide_eq_true hir
  cases h2
  · go_wp2_with fail
    go_region
    all_goals go_wp2
    all_goals exact ret_ln (p := 2) (u := 3) w.heap.size H.1 _ (by kernel_rfl) rfl rfl (by exact (S4.out.res.setAll H.1 (.slice none 0 0)).drew) rfl ⟨by rw [HE.out]; simp [hird], (below_all H.1 (.slice none 0 0) S4.out.bel (Nat.le_refl _)).drew⟩
  by_cases hiv : 0 ≤ H.1.var
  · have hivd : decide (0 ≤ H.1.var) = true := decide_eq_true hiv
    go_wp2_with fail
    go_region
    all_goals go_wp2
    all_goals exact ret_ln (p := 2) (u := 3) w.heap.size H.1 _ (by kernel_rfl) rfl rfl (by exact (S4.out.res.setAll H.1 (.slice none 0 0)).drew) rfl ⟨by have := HV.out; rw [HE.out, ← this]; simp [hird, hivd], (below_all H.1 (.slice none 0 0) S4.out.bel (Nat.le_refl _)).drew⟩
  · have hivd : decide (0 ≤ H.1.var) = false := decide_eq_false hiv
    go_wp2_with fail
    go_region
    all_goals go_wp2
    all_goals exact ret_ln (p := 2) (u := 3) w.heap.size H.1 _ (by kernel_rfl) rfl rfl (by exact (S4.out.res.setAll H.1 (.slice none 0 0)).drew) rfl ⟨by have := HV.out; rw [HE.out, ← this]; simp [hird, hivd], (below_all H.1 (.slice none 0 0) S4.out.bel (Nat.le_refl _)).drew⟩
end Go.Proofs.YtpkjmdcabdplfaaGreatDoor

namespace Go.Proofs.YtpkjmdcabdplfaaGreatDoor
open Go Go.RowKit
set_option maxRecDepth 100000

set_option maxHeartbeats 3200000 in
theorem rst_add (b off n cap : Nat) (c e d p v : ByteArray) (r : List ByteArray) (w : World) (hw : WordsAt w b off (c :: e :: d :: p :: v :: r)) (hn : (c :: e :: d :: p :: v :: r).length = n) (hc : n ≤ cap) (hblt : b < w.heap.size) (hmin : 6 ≤ n) (hk0 : (c.toList == [98, 97, 114, 114, 105, 101, 114]) = false) (hk1 : (c.toList == [102, 101, 110, 99, 101]) = false) (hks : (c.toList == [115, 116, 111, 114, 101] && decide (4 ≤ n)) = false) (he : (e.toList == [61]) = true) (hdl : (d.toList == [108, 111, 97, 100]) = false) (hd : (d.toList == [97, 100, 100]) = true) :
    Calls Tryz.prog 16 #[.slice (some ⟨b, off, none⟩) n cap] w fun e w' => e = .returned (lnVal (R.stStep c d p v r)) ∧ Below w.heap.size w w' := by
  obtain ⟨hd0, _, hw1⟩ := hw.head
  have hi0 : 0 < n := by omega
  have hi1 : (1 : Int) < (n : Int) := by omega
  have hi2 : (2 : Int) < (n : Int) := by omega
  have hi3 : (3 : Int) < (n : Int) := by omega
  have hi4 : (4 : Int) < (n : Int) := by omega
  have hi5 : (5 : Int) < (n : Int) := by omega
  have hi3' : ¬ (n : Int) < 3 := by omega
  have hrl : r.length = n - 5 := by simp at hn; omega
  have hcap : ¬ cap = 5 := by omega
  have hks' : (c.toList == [115, 116, 111, 114, 101]) = false := by
    have h4 : decide (4 ≤ n) = true := by simp; omega
    rw [h4] at hks; simpa using hks
  have S0 := hide (StAt.start w b off (c :: e :: d :: p :: v :: r) R.x0 hw)
  obtain ⟨hd1, _, _⟩ := hw1.head
  have hbd := R.inn_bd c.toList R.regs
  clear hn hw hw1
  go_enter Tryz.func16, Tryz.ntmps16
  go_wp2_with fail
  refine (in_lst c R.regs _ _ rfl (by simp)).mono ?_
  rintro e w1 ⟨rfl, hb1⟩
  have s1 := StAt.below S0.out hb1
  obtain ⟨f1, f2, c0, c1, c2, c3, c4, c5, c6, c7, c8⟩ := s1.xat.facts
  have d2 := s1.words 2 d rfl
  have d3 := s1.words 3 p rfl
  have hbl1 : b < w1.heap.size := by have := s1.bel.size; omega
  have S1 := hide s1
  clear s1 hb1 S0 hd1
  go_wp2_with fail
  have s2 := (S1.out.set { R.x0 with reg := R.inn c.toList R.regs } hblt 1 (.int .i64 (R.inn c.toList R.regs)) rfl).set { R.x0 with reg := R.inn c.toList R.regs, op := d } hblt 0 (.string d) rfl
  refine (in_lst p R.vars _ _ rfl (by simp)).mono ?_
  rintro e w2 ⟨rfl, hb2⟩
  have s3 := s2.below hb2
  clear c0 c1 c2 c3 c4 c5 c6 c7 c8 f1 f2
  obtain ⟨f1, f2, c0, c1, c2, c3, c4, c5, c6, c7, c8⟩ := s3.xat.facts
  have d4 := s3.words 4 v rfl
  have S3 := hide s3
  have hbl2 : b < w2.heap.size := by have := s3.bel.size; omega
  clear s3 s2 hb2 S1 d2 d3 hbl1
  go_wp2_with fail
  have s4 := S3.out.set { R.x0 with reg := R.inn c.toList R.regs, op := d, var := R.inn p.toList R.vars } hblt 2 (.int .i64 (R.inn p.toList R.vars)) rfl
  refine (opdR_any v _).mono ?_
  rintro e w3 ⟨rfl, hb3⟩
  have s4b := s4.below hb3
  clear c0 c1 c2 c3 c4 c5 c6 c7 c8 f1 f2
  obtain ⟨f1, f2, c0, c1, c2, c3, c4, c5, c6, c7, c8⟩ := s4b.xat.facts
  have S4b := hide s4b
  clear s4 s4b hb3 S3 d4 hbl2
  go_wp2_with fail
  have s5 := S4b.out.set { R.x0 with reg := R.inn c.toList R.regs, op := d, var := R.inn p.toList R.vars, a := (R.opd v.toList).1 } hblt 3 (.int .i64 (R.opd v.toList).1) rfl
  refine (how_any (w.heap.size + 1) b _ _ _ { R.x0 with reg := R.inn c.toList R.regs, op := d, var := R.inn p.toList R.vars, a := (R.opd v.toList).1 } (.slice none 0 0) R.oStep _ r _ (by exact s5.xat) (by exact s5.words.drop 5) hrl (by omega) rfl (by simp)).mono ?_
  rintro e w5 ⟨rfl, hx5, hgr5⟩
  have s6 := s5.how hblt hx5 hgr5
  clear c0 c1 c2 c3 c4 c5 c6 c7 c8 f1 f2
  clear s5 hx5 hgr5
  obtain ⟨f1, f2, c0, c1, c2, c3, c4, c5, c6, c7, c8⟩ := s6.xat.facts
  obtain ⟨e1, e2, r0, r1, r2, r3, r4, r5, r6, r7, r8⟩ := s6.res.facts
  have S4 := hide s6
  clear s6
  have hv := how_var { R.x0 with reg := R.inn c.toList R.regs, op := d, var := R.inn p.toList R.vars, a := (R.opd v.toList).1 } R.oStep r
  have HE : Hid (R.stStep c d p v r = ((R.how { R.x0 with reg := R.inn c.toList R.regs, op := d, var := R.inn p.toList R.vars, a := (R.opd v.toList).1 } R.oStep r).1, decide (0 ≤ R.inn c.toList R.regs) && (R.how { R.x0 with reg := R.inn c.toList R.regs, op := d, var := R.inn p.toList R.vars, a := (R.opd v.toList).1 } R.oStep r).2 && (R.opd v.toList).2 && decide (0 ≤ R.inn p.toList R.vars))) := rfl
  generalize R.how { R.x0 with reg := R.inn c.toList R.regs, op := d, var := R.inn p.toList R.vars, a := (R.opd v.toList).1 } R.oStep r = H at *
  generalize R.inn p.toList R.vars = iv at *
  generalize R.inn c.toList R.regs = ir at *
  generalize (R.opd v.toList).2 = okv at *
  have HV := hide hv
  clear hv hd0 hi0 hi1 hi2 hi3 hi4 hi3' hrl hcap hk0 hk1 hks hks' he
  generalize hH2 : H.2 = h2 at *
  have HH2 := hide hH2
  clear hH2
  by_cases hir : 0 ≤ ir
  rotate_left
  · have hird : decide (0 ≤ ir) = false := decide_eq_false hir
    go_wp2_with fail
    go_region
    all_goals go_wp2
    all_goals exact ret_ln (p := 2) (u := 3) w.heap.size H.1 _ (by kernel_rfl) rfl rfl (by exact (S4.out.res.setAll H.1 (.slice none 0 0)).drew) rfl ⟨by rw [HE.out]; simp [hird], (below_all H.1 (.slice none 0 0) S4.out.bel (Nat.le_refl _)).drew⟩
  have hird : decide (0 ≤ ir) = true := decide_eq_true hir
  cases h2
  · go_wp2_with fail
    go_region
    all_goals go_wp2
    all_goals exact ret_ln (p := 2) (u := 3) w.heap.size H.1 _ (by kernel_rfl) rfl rfl (by exact (S4.out.res.setAll H.1 (.slice none 0 0)).drew) rfl ⟨by rw [HE.out]; simp [hird], (below_all H.1 (.slice none 0 0) S4.out.bel (Nat.le_refl _)).drew⟩
  cases okv
  · go_wp2_with fail
    go_region
    all_goals go_wp2
    all_goals exact ret_ln (p := 2) (u := 3) w.heap.size H.1 _ (by kernel_rfl) rfl rfl (by exact (S4.out.res.setAll H.1 (.slice none 0 0)).drew) rfl ⟨by rw [HE.out]; simp [hird], (below_all H.1 (.slice none 0 0) S4.out.bel (Nat.le_refl _)).drew⟩
  by_cases hiv : 0 ≤ H.1.var
  · have hivd : decide (0 ≤ H.1.var) = true := decide_eq_true hiv
    go_wp2_with fail
    go_region
    all_goals go_wp2
    all_goals exact ret_ln (p := 2) (u := 3) w.heap.size H.1 _ (by kernel_rfl) rfl rfl (by exact (S4.out.res.setAll H.1 (.slice none 0 0)).drew) rfl ⟨by have := HV.out; rw [HE.out, ← this]; simp [hird, hivd], (below_all H.1 (.slice none 0 0) S4.out.bel (Nat.le_refl _)).drew⟩
  · have hivd : decide (0 ≤ H.1.var) = false := decide_eq_false hiv
    go_wp2_with fail
    go_region
    all_goals go_wp2
    all_goals exact ret_ln (p := 2) (u := 3) w.heap.size H.1 _ (by kernel_rfl) rfl rfl (by exact (S4.out.res.setAll H.1 (.slice none 0 0)).drew) rfl ⟨by have := HV.out; rw [HE.out, ← this]; simp [hird, hivd], (below_all H.1 (.slice none 0 0) S4.out.bel (Nat.le_refl _)).drew⟩
end Go.Proofs.YtpkjmdcabdplfaaGreatDoor
