import Derived.Test.YtpkjmdcabdplfaaGreatDoorA05
set_option linter.unusedVariables false
set_option linter.unusedSimpArgs false
namespace Go.Proofs.YtpkjmdcabdplfaaGreatDoor
open Go Go.RowKit
set_option maxRecDepth 100000

set_option maxHeartbeats 1600000 in
theorem statement_any (b off n cap : Nat) (c : ByteArray) (r : List ByteArray) (w : World) (hw : WordsAt w b off (c :: r)) (hn : r.length = n - 1) (hn1 : 1 ≤ n) (hc : n ≤ cap) (hblt : b < w.heap.size) :
    Calls Tryz.prog 68 #[.slice (some ⟨b, off, none⟩) n cap] w fun e w' => e = .returned (stmVal (P.statement ((c :: r).map ByteArray.toList))) ∧ Below w.heap.size w w' := by
  obtain ⟨hd, _, _⟩ := hw.head
  have hn0 : (c :: r).length = n := by simp; omega
  have hr1 : ((n : Int) == 1) = (r.map ByteArray.toList).isEmpty := by
    cases r with
    | nil => simp at hn; simp; omega
    | cons a q => simp at hn; simp; omega
  have hz : ((n : Int) == 0) = false := by simp; omega
  cases h1 : c.toList == [115, 116, 111, 114, 101]
  rotate_left
  · have HE : Hid (P.statement (c.toList :: r.map ByteArray.toList) = P.store (c.toList :: r.map ByteArray.toList)) := by
      unfold Hid; simp [P.statement, h1]
    go_enter Tryz.func68, Tryz.ntmps68
    go_wp2_with (first
      | (go_at_call 82; refine (store_any _ _ _ _ (c :: r) _ (by exact hw.alloc _) hn0 hc (by simp; omega)).mono ?_; rintro e w1 ⟨he, hb⟩; rw [stmVal] at he; subst he; have hr := (StmAt.new w P.Stm.zero).below hb)
      | (refine wpList_store_stm (.tmp 2) (.tmp 15) rfl rfl w.heap.size _ _ rfl rfl (by exact hr) ?_; intro w2 hs2 hgr2))
    try simp only [List.map_cons]
    rw [unhide HE]
    refine ret_stm (p := 2) (u := 3) w.heap.size _ _ (by kernel_rfl) rfl rfl hs2 rfl ⟨rfl, ?_⟩
    exact below_of_new (((Below.refl _ _).alloc (Nat.le_refl _) _).trans (hb.mono (by simp))) hgr2 (Nat.le_refl _)
  cases h2 : c.toList == [102, 101, 110, 99, 101]
  rotate_left
  · have HE : Hid (P.statement (c.toList :: r.map ByteArray.toList) = P.fence (c.toList :: r.map ByteArray.toList)) := by
      unfold Hid; simp [P.statement, h1, h2]
    go_enter Tryz.func68, Tryz.ntmps68
    go_wp2_with (first
      | (go_at_call 83; refine (fence_any _ _ _ _ c r _ (by exact hw.alloc _) hn hn1 hc).mono ?_; rintro e w1 ⟨he, hb⟩; rw [stmVal] at he; subst he; have hr := (StmAt.new w P.Stm.zero).below hb)
      | (refine wpList_store_stm (.tmp 2) (.tmp 21) rfl rfl w.heap.size _ _ rfl rfl (by exact hr) ?_; intro w2 hs2 hgr2))
    try simp only [List.map_cons]
    rw [unhide HE]
    refine ret_stm (p := 2) (u := 3) w.heap.size _ _ (by kernel_rfl) rfl rfl hs2 rfl ⟨rfl, ?_⟩
    exact below_of_new (((Below.refl _ _).alloc (Nat.le_refl _) _).trans (hb.mono (by simp))) hgr2 (Nat.le_refl _)
  cases h3 : c.toList == [98, 97, 114, 114, 105, 101, 114]
  rotate_left
  · have HE : Hid (P.statement (c.toList :: r.map ByteArray.toList) = ({ P.Stm.zero with kind := 5 }, (r.map ByteArray.toList).isEmpty)) := by
      unfold Hid; simp [P.statement, h1, h2, h3]
    go_enter Tryz.func68, Tryz.ntmps68
    go_wp2_with (first
      | (refine wpList_store_stm (.tmp 2) (.tmp 25) rfl rfl w.heap.size _ { P.Stm.zero with kind := 5 } rfl rfl (by exact StmAt.new w P.Stm.zero) ?_; intro w2 hs2 hgr2))
    try simp only [List.map_cons]
    rw [unhide HE]
    refine ret_stm (p := 2) (u := 3) w.heap.size { P.Stm.zero with kind := 5 } _ (by kernel_rfl) rfl (by simp) hs2 rfl ⟨rfl, ?_⟩
    exact below_of_new ((Below.refl _ _).alloc (Nat.le_refl _) _) hgr2 (Nat.le_refl _)
  cases h4 : c.toList == [105, 102]
  rotate_left
  · have HE : Hid (P.statement (c.toList :: r.map ByteArray.toList) = P.condition (c.toList :: r.map ByteArray.toList)) := by
      unfold Hid; simp [P.statement, h1, h2, h3, h4]
    go_enter Tryz.func68, Tryz.ntmps68
    go_wp2_with (first
      | (go_at_call 84; refine (condition_any _ _ _ _ (c :: r) _ (by exact hw.alloc _) hn0).mono ?_; rintro e w1 ⟨he, hb⟩; rw [stmVal] at he; subst he; have hr := (StmAt.new w P.Stm.zero).below hb)
      | (refine wpList_store_stm (.tmp 2) (.tmp 33) rfl rfl w.heap.size _ _ rfl rfl (by exact hr) ?_; intro w2 hs2 hgr2))
    try simp only [List.map_cons]
    rw [unhide HE]
    refine ret_stm (p := 2) (u := 3) w.heap.size _ _ (by kernel_rfl) rfl rfl hs2 rfl ⟨rfl, ?_⟩
    exact below_of_new (((Below.refl _ _).alloc (Nat.le_refl _) _).trans (hb.mono (by simp))) hgr2 (Nat.le_refl _)
  cases h5 : c.toList == [101, 110, 100]
  rotate_left
  · have HE : Hid (P.statement (c.toList :: r.map ByteArray.toList) = ({ P.Stm.zero with kind := 11 }, (r.map ByteArray.toList).isEmpty)) := by
      unfold Hid; simp [P.statement, h1, h2, h3, h4, h5]
    go_enter Tryz.func68, Tryz.ntmps68
    go_wp2_with (first
      | (refine wpList_store_stm (.tmp 2) (.tmp 37) rfl rfl w.heap.size _ { P.Stm.zero with kind := 11 } rfl rfl (by exact StmAt.new w P.Stm.zero) ?_; intro w2 hs2 hgr2))
    try simp only [List.map_cons]
    rw [unhide HE]
    refine ret_stm (p := 2) (u := 3) w.heap.size { P.Stm.zero with kind := 11 } _ (by kernel_rfl) rfl (by simp) hs2 rfl ⟨rfl, ?_⟩
    exact below_of_new ((Below.refl _ _).alloc (Nat.le_refl _) _) hgr2 (Nat.le_refl _)
  have HE : Hid (P.statement (c.toList :: r.map ByteArray.toList) = P.assignment (c.toList :: r.map ByteArray.toList)) := by
    unfold Hid; simp [P.statement, h1, h2, h3, h4, h5]
  go_enter Tryz.func68, Tryz.ntmps68
  go_wp2_with (first
    | (go_at_call 85; refine (assignment_any _ _ _ _ (c :: r) _ (by exact hw.alloc _) hn0 hc (by simp; omega)).mono ?_; rintro e w1 ⟨he, hb⟩; rw [stmVal] at he; subst he; have hr := (StmAt.new w P.Stm.zero).below hb)
    | (refine wpList_store_stm (.tmp 2) (.tmp 43) rfl rfl w.heap.size _ _ rfl rfl (by exact hr) ?_; intro w2 hs2 hgr2))
  simp only [List.map_cons]
  rw [unhide HE]
  refine ret_stm (p := 2) (u := 3) w.heap.size _ _ (by kernel_rfl) rfl rfl hs2 rfl ⟨rfl, ?_⟩
  exact below_of_new (((Below.refl _ _).alloc (Nat.le_refl _) _).trans (hb.mono (by simp))) hgr2 (Nat.le_refl _)

end Go.Proofs.YtpkjmdcabdplfaaGreatDoor
