import Derived.Test.YtpkjmdcabdplfaaGreatDoorA19
set_option linter.unusedVariables false
set_option linter.unusedSimpArgs false
namespace Go.Proofs.YtpkjmdcabdplfaaGreatDoor
open Go Go.RowKit
set_option maxRecDepth 100000

set_option maxHeartbeats 3200000 in
theorem rst_barrier (b off n cap : Nat) (c : ByteArray) (r : List ByteArray) (w : World) (hw : WordsAt w b off (c :: r)) (hn : (c :: r).length = n) (hblt : b < w.heap.size) (hk : (c.toList == [98, 97, 114, 114, 105, 101, 114]) = true) :
    Calls Tryz.prog 16 #[.slice (some ⟨b, off, none⟩) n cap] w fun e w' => e = .returned (lnVal (({ R.x0 with op := R.sBarrier }, r.isEmpty))) ∧ Below w.heap.size w w' := by
  obtain ⟨hd, _, _⟩ := hw.head
  have hr1 : ((n : Int) == 1) = r.isEmpty := by
    cases r with
    | nil => simp at hn; simp; omega
    | cons a q => simp at hn; simp; omega
  have hi0 : 0 < n := by simp at hn; omega
  clear hn hw
  go_enter Tryz.func16, Tryz.ntmps16
  go_wp2_with fail
  exact ret_ln (p := 2) (u := 3) w.heap.size { R.x0 with op := R.sBarrier } r.isEmpty (by kernel_rfl) rfl rfl (by exact (LnAt.new w { R.x0 with op := R.sBarrier } _).alloc _) rfl ⟨rfl, ((Below.refl _ _).alloc (Nat.le_refl _) _).alloc (by simp) _⟩

set_option maxHeartbeats 3200000 in
theorem rst_fence (b off n cap : Nat) (c : ByteArray) (r : List ByteArray) (w : World) (hw : WordsAt w b off (c :: r)) (hn : (c :: r).length = n) (hc : n ≤ cap) (hblt : b < w.heap.size) (hk0 : (c.toList == [98, 97, 114, 114, 105, 101, 114]) = false) (hk : (c.toList == [102, 101, 110, 99, 101]) = true) :
    Calls Tryz.prog 16 #[.slice (some ⟨b, off, none⟩) n cap] w fun e w' => e = .returned (lnVal (R.how { R.x0 with op := R.sFence } R.oFence r)) ∧ Below w.heap.size w w' := by
  obtain ⟨hd, _, hw1⟩ := hw.head
  have hi0 : 0 < n := by simp at hn; omega
  have hrl : r.length = n - 1 := by simp at hn; omega
  have S0 := hide (StAt.start w b off (c :: r) { R.x0 with op := R.sFence } hw)
  have hw2 := hide hw1
  clear hn hw hw1
  by_cases hcap : cap = 1
  · have hr : r = [] := List.eq_nil_of_length_eq_zero (by omega)
    subst hr
    go_enter Tryz.func16, Tryz.ntmps16
    go_wp2_with fail
    refine (how_any (w.heap.size + 1) b _ _ _ { R.x0 with op := R.sFence } (.slice none 0 0) R.oFence _ [] _ (by exact S0.out.xat) (WordsAt.nil _ _ _) (by simp; omega) (by omega) rfl (by simp)).mono ?_
    rintro e w1 ⟨rfl, hx1, hgr1⟩
    have S := StAt.how S0.out hblt hx1 hgr1
    clear hx1 hgr1 S0
    go_wp2_with (first | (refine wpList_load_ln (.tmp 4) rfl rfl (w.heap.size + 1) _ (.slice none 0 0) rfl S.xat ?_) | (refine wpList_store_ln (.tmp 2) (.tmp 41) rfl rfl w.heap.size _ _ (.slice none 0 0) (.slice none 0 0) rfl rfl rfl (by exact S.res) ?_; intro w9 hs9 hgr9))
    exact ret_ln (p := 2) (u := 3) w.heap.size _ _ (by kernel_rfl) rfl rfl hs9 rfl ⟨rfl, S.done hgr9⟩
  · go_enter Tryz.func16, Tryz.ntmps16
    go_wp2_with fail
    refine (how_any (w.heap.size + 1) b _ _ _ { R.x0 with op := R.sFence } (.slice none 0 0) R.oFence _ r _ (by exact S0.out.xat) (by exact (hw2.out.alloc _).alloc _) hrl (by omega) rfl (by simp)).mono ?_
    rintro e w1 ⟨rfl, hx1, hgr1⟩
    have S := StAt.how S0.out hblt hx1 hgr1
    clear hx1 hgr1 S0
    go_wp2_with (first | (refine wpList_load_ln (.tmp 4) rfl rfl (w.heap.size + 1) _ (.slice none 0 0) rfl S.xat ?_) | (refine wpList_store_ln (.tmp 2) (.tmp 41) rfl rfl w.heap.size _ _ (.slice none 0 0) (.slice none 0 0) rfl rfl rfl (by exact S.res) ?_; intro w9 hs9 hgr9))
    exact ret_ln (p := 2) (u := 3) w.heap.size _ _ (by kernel_rfl) rfl rfl hs9 rfl ⟨rfl, S.done hgr9⟩

set_option maxHeartbeats 3200000 in
theorem rst_short (b off n cap : Nat) (c : ByteArray) (r : List ByteArray) (w : World) (hw : WordsAt w b off (c :: r)) (hn : (c :: r).length = n) (hblt : b < w.heap.size) (hk0 : (c.toList == [98, 97, 114, 114, 105, 101, 114]) = false) (hk1 : (c.toList == [102, 101, 110, 99, 101]) = false) (h3 : n < 3) :
    Calls Tryz.prog 16 #[.slice (some ⟨b, off, none⟩) n cap] w fun e w' => e = .returned (lnVal ((R.x0, false))) ∧ Below w.heap.size w w' := by
  obtain ⟨hd, _, _⟩ := hw.head
  have hi0 : 0 < n := by simp at hn; omega
  have h3' : (n : Int) < 3 := by omega
  clear hn hw
  go_enter Tryz.func16, Tryz.ntmps16
  go_wp2_with fail
  all_goals exact ret_ln (p := 2) (u := 3) w.heap.size R.x0 false (by kernel_rfl) rfl rfl (by exact (LnAt.new w R.x0 _).alloc _) rfl ⟨rfl, ((Below.refl _ _).alloc (Nat.le_refl _) _).alloc (by simp) _⟩

set_option maxHeartbeats 3200000 in
theorem rst_noeq (b off n cap : Nat) (c e d : ByteArray) (r : List ByteArray) (w : World) (hw : WordsAt w b off (c :: e :: d :: r)) (hn : (c :: e :: d :: r).length = n) (hblt : b < w.heap.size) (hk0 : (c.toList == [98, 97, 114, 114, 105, 101, 114]) = false) (hk1 : (c.toList == [102, 101, 110, 99, 101]) = false) (hs : (c.toList == [115, 116, 111, 114, 101] && decide (4 ≤ n)) = false) (he : (e.toList == [61]) = false) :
    Calls Tryz.prog 16 #[.slice (some ⟨b, off, none⟩) n cap] w fun e w' => e = .returned (lnVal ((R.x0, false))) ∧ Below w.heap.size w w' := by
  obtain ⟨hd, _, hw1⟩ := hw.head
  obtain ⟨hd1, _, _⟩ := hw1.head
  have hi0 : 0 < n := by simp at hn; omega
  have h3' : ¬ (n : Int) < 3 := by simp at hn; omega
  have hi1 : (1 : Int) < (n : Int) := by simp at hn; omega
  have hd3 : decide ((n : Int) < 3) = false := decide_eq_false h3'
  clear hn hw hw1
  cases hst : (c.toList == [115, 116, 111, 114, 101])
  · go_enter Tryz.func16, Tryz.ntmps16
    go_wp2_with fail
    all_goals exact ret_ln (p := 2) (u := 3) w.heap.size R.x0 false (by kernel_rfl) rfl rfl (by exact (LnAt.new w R.x0 _).alloc _) rfl ⟨rfl, ((Below.refl _ _).alloc (Nat.le_refl _) _).alloc (by simp) _⟩
  · have h4 : ¬ (3 : Int) < (n : Int) := by simp [hst] at hs; omega
    go_enter Tryz.func16, Tryz.ntmps16
    go_wp2_with fail
    all_goals exact ret_ln (p := 2) (u := 3) w.heap.size R.x0 false (by kernel_rfl) rfl rfl (by exact (LnAt.new w R.x0 _).alloc _) rfl ⟨rfl, ((Below.refl _ _).alloc (Nat.le_refl _) _).alloc (by simp) _⟩
end Go.Proofs.YtpkjmdcabdplfaaGreatDoor

namespace Go.Proofs.YtpkjmdcabdplfaaGreatDoor
open Go Go.RowKit
set_option maxRecDepth 100000

theorem LnAt.setAll {w : World} {g : Nat} {z : R.Lh} {bz : Value} (t : R.Lh) (bt : Value) (h : LnAt w g z bz) :
    LnAt (((((((((w.setCell ⟨g, 0, none⟩ (.string t.op)).setCell ⟨g, 1, none⟩ (.int .i64 t.reg)).setCell ⟨g, 2, none⟩ (.int .i64 t.var)).setCell ⟨g, 3, none⟩ (.int .i64 t.a)).setCell ⟨g, 4, none⟩ (.int .i64 t.b)).setCell ⟨g, 5, none⟩ (.string t.sign)).setCell ⟨g, 6, none⟩ (.string t.ord)).setCell ⟨g, 7, none⟩ (.string t.scope)).setCell ⟨g, 8, none⟩ bt) g t bt := by
  unfold LnAt at *
  have h0 := setCell_block h 0 (.string t.op)
  have h1 := setCell_block h0 1 (.int .i64 t.reg)
  have h2 := setCell_block h1 2 (.int .i64 t.var)
  have h3 := setCell_block h2 3 (.int .i64 t.a)
  have h4 := setCell_block h3 4 (.int .i64 t.b)
  have h5 := setCell_block h4 5 (.string t.sign)
  have h6 := setCell_block h5 6 (.string t.ord)
  have h7 := setCell_block h6 7 (.string t.scope)
  have h8 := setCell_block h7 8 bt
  have e : (((((((((lnCells z bz).setIfInBounds 0 (.string t.op)).setIfInBounds 1 (.int .i64 t.reg)).setIfInBounds 2 (.int .i64 t.var)).setIfInBounds 3 (.int .i64 t.a)).setIfInBounds 4 (.int .i64 t.b)).setIfInBounds 5 (.string t.sign)).setIfInBounds 6 (.string t.ord)).setIfInBounds 7 (.string t.scope)).setIfInBounds 8 bt = lnCells t bt := by simp [lnCells]
  rw [e] at h8
  exact h8
theorem below_all {w0 w : World} {B g : Nat} (t : R.Lh) (bt : Value) (h : Below B w0 w) (hp : B ≤ g) : Below B w0 (((((((((w.setCell ⟨g, 0, none⟩ (.string t.op)).setCell ⟨g, 1, none⟩ (.int .i64 t.reg)).setCell ⟨g, 2, none⟩ (.int .i64 t.var)).setCell ⟨g, 3, none⟩ (.int .i64 t.a)).setCell ⟨g, 4, none⟩ (.int .i64 t.b)).setCell ⟨g, 5, none⟩ (.string t.sign)).setCell ⟨g, 6, none⟩ (.string t.ord)).setCell ⟨g, 7, none⟩ (.string t.scope)).setCell ⟨g, 8, none⟩ bt) :=
  Below.setCell (Below.setCell (Below.setCell (Below.setCell (Below.setCell (Below.setCell (Below.setCell (Below.setCell (Below.setCell h hp _) hp _) hp _) hp _) hp _) hp _) hp _) hp _) hp _

theorem how_var (x : R.Lh) (o : List UInt8) (ws : List ByteArray) : (R.how x o ws).1.var = x.var := by
  unfold R.how
  split
  · rfl
  · split
    · rfl
    · split
      · rfl
      · split <;> rfl

set_option maxHeartbeats 1600000 in
theorem rst_store (b off n cap : Nat) (c p v : ByteArray) (r : List ByteArray) (w : World) (hw : WordsAt w b off (c :: p :: v :: r)) (hn : (c :: p :: v :: r).length = n) (hc : n ≤ cap) (hblt : b < w.heap.size) (h4 : 4 ≤ n) (hk0 : (c.toList == [98, 97, 114, 114, 105, 101, 114]) = false) (hk1 : (c.toList == [102, 101, 110, 99, 101]) = false) (hk : (c.toList == [115, 116, 111, 114, 101]) = true) :
    Calls Tryz.prog 16 #[.slice (some ⟨b, off, none⟩) n cap] w fun e w' => e = .returned (lnVal (R.stStore p v r)) ∧ Below w.heap.size w w' := by
  obtain ⟨hd, _, hw1⟩ := hw.head
  have hi0 : 0 < n := by omega
  have hi1 : (1 : Int) < (n : Int) := by omega
  have hi2 : (2 : Int) < (n : Int) := by omega
  have hi3 : (3 : Int) < (n : Int) := by omega
  have hrl : r.length = n - 3 := by simp at hn; omega
  have hcap : ¬ cap = 3 := by omega
  have S0 := hide (StAt.start w b off (c :: p :: v :: r) { R.x0 with op := R.sStore } hw)
  obtain ⟨hd1, _, _⟩ := hw1.head
  clear hn hw hw1
  go_enter Tryz.func16, Tryz.ntmps16
  go_wp2_with fail
  refine (in_lst p R.vars _ _ rfl (by simp)).mono ?_
  rintro e w1 ⟨rfl, hb1⟩
  have s1 := StAt.below S0.out hb1
  obtain ⟨f1, f2, c0, c1, c2, c3, c4, c5, c6, c7, c8⟩ := s1.xat.facts
  have d2 := s1.words 2 v rfl
  have hbl1 : b < w1.heap.size := by have := s1.bel.size; omega
  have S1 := hide s1
  clear s1 hb1 S0
  go_wp2_with fail
  refine (opdR_any v _).mono ?_
  rintro e w2 ⟨rfl, hb2⟩
  have s2 := ((S1.out.set { R.x0 with op := R.sStore, var := R.inn p.toList R.vars } hblt 2 _ rfl).below hb2)
  clear c0 c1 c2 c3 c4 c5 c6 c7 c8 d2 f1 f2
  obtain ⟨f1, f2, c0, c1, c2, c3, c4, c5, c6, c7, c8⟩ := s2.xat.facts
  have S2 := hide s2
  clear s2 hb2 S1
  go_wp2_with fail
  have s3 := S2.out.set { R.x0 with op := R.sStore, var := R.inn p.toList R.vars, a := (R.opd v.toList).1 } hblt 3 (.int .i64 (R.opd v.toList).1) rfl
  refine (how_any (w.heap.size + 1) b _ _ _ { R.x0 with op := R.sStore, var := R.inn p.toList R.vars, a := (R.opd v.toList).1 } (.slice none 0 0) R.oStore _ r _ (by exact s3.xat) (by exact s3.words.drop 3) hrl (by omega) rfl (by simp)).mono ?_
  rintro e w3 ⟨rfl, hx3, hgr3⟩
  have s4 := s3.how hblt hx3 hgr3
  clear c0 c1 c2 c3 c4 c5 c6 c7 c8 f1 f2 s3 hx3 hgr3 S2
  obtain ⟨f1, f2, c0, c1, c2, c3, c4, c5, c6, c7, c8⟩ := s4.xat.facts
  obtain ⟨e1, e2, r0, r1, r2, r3, r4, r5, r6, r7, r8⟩ := s4.res.facts
  have S4 := hide s4
  clear s4
  have hv := how_var { R.x0 with op := R.sStore, var := R.inn p.toList R.vars, a := (R.opd v.toList).1 } R.oStore r
  have HE : Hid (R.stStore p v r = ((R.how { R.x0 with op := R.sStore, var := R.inn p.toList R.vars, a := (R.opd v.toList).1 } R.oStore r).1, (R.opd v.toList).2 && (R.how { R.x0 with op := R.sStore, var := R.inn p.toList R.vars, a := (R.opd v.toList).1 } R.oStore r).2 && decide (0 ≤ R.inn p.toList R.vars))) := rfl
  generalize R.how { R.x0 with op := R.sStore, var := R.inn p.toList R.vars, a := (R.opd v.toList).1 } R.oStore r = H at *
  generalize R.inn p.toList R.vars = iv at *
  generalize (R.opd v.toList).2 = ok at *
  have HV := hide hv
  clear hv hd hd1 hi0 hi1 hi2 hi3 hrl hcap hk0 hk1 hk hbl1
  cases ok
  · go_wp2_with fail
    go_region
    all_goals go_wp2
    all_goals exact ret_ln (p := 2) (u := 3) w.heap.size H.1 _ (by kernel_rfl) rfl rfl (by exact (S4.out.res.setAll H.1 (.slice none 0 0)).drew) rfl ⟨by rw [HE.out]; rfl, (below_all H.1 (.slice none 0 0) S4.out.bel (Nat.le_refl _)).drew⟩
  generalize hH2 : H.2 = h2 at *
  have HH2 := hide hH2
  clear hH2
  cases h2
  · go_wp2_with fail
    go_region
    all_goals go_wp2
    all_goals exact ret_ln (p := 2) (u := 3) w.heap.size H.1 _ (by kernel_rfl) rfl rfl (by exact (S4.out.res.setAll H.1 (.slice none 0 0)).drew) rfl ⟨by rw [HE.out]; simp, (below_all H.1 (.slice none 0 0) S4.out.bel (Nat.le_refl _)).drew⟩
  by_cases hiv : 0 ≤ H.1.var
  · go_wp2_with fail
    go_region
    all_goals go_wp2
    all_goals exact ret_ln (p := 2) (u := 3) w.heap.size H.1 _ (by kernel_rfl) rfl rfl (by exact (S4.out.res.setAll H.1 (.slice none 0 0)).drew) rfl ⟨by have := HV.out; rw [HE.out, ← this]; simp [hiv], (below_all H.1 (.slice none 0 0) S4.out.bel (Nat.le_refl _)).drew⟩
  · go_wp2_with fail
    go_region
    all_goals go_wp2
    all_goals exact ret_ln (p := 2) (u := 3) w.heap.size H.1 _ (by kernel_rfl) rfl rfl (by exact (S4.out.res.setAll H.1 (.slice none 0 0)).drew) rfl ⟨by have := HV.out; rw [HE.out, ← this]; simp, (below_all H.1 (.slice none 0 0) S4.out.bel (Nat.le_refl _)).drew⟩
end Go.Proofs.YtpkjmdcabdplfaaGreatDoor
