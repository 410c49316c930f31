import Derived.Test.YtpkjmdcabdplfaaGreatDoorA30
import Derived.Test.YtpkjmdcabdplfaaGreatDoorA38
import Derived.Test.YtpkjmdcabdplfaaGreatDoorA51
import Derived.Test.YtpkjmdcabdplfaaGreatDoorA50
import Derived.Test.YtpkjmdcabdplfaaGreatDoorA25
import Derived.Test.YtpkjmdcabdplfaaGreatDoorA17
set_option linter.unusedVariables false
set_option linter.unusedSimpArgs false
namespace Go.Proofs.YtpkjmdcabdplfaaGreatDoor
open Go Go.RowKit
set_option maxRecDepth 100000

theorem ThsAt.getL {w : World} {B bt n cap : Nat} {ts : List R.Th} {vs : List Value} {Fs : List (List Nat)} (h : ThsAt w B (.slice (some ⟨bt, 0, none⟩) n cap) ts vs Fs) (hn : n = ts.length) (k : Nat) (hk : k < ts.length) :
    bt < w.heap.size ∧ ∃ u F, w.cell? ⟨bt, k * 3, none⟩ = some (.int .i64 ts[k].block) ∧ w.cell? ⟨bt, k * 3 + 1, none⟩ = some u ∧ LinesAt w B u ts[k].body F := by
  have hv : k < vs.length := by rw [h.lv]; exact hk
  have hF : k < Fs.length := by rw [h.lF]; exact hk
  have ho := h.own
  rw [← hn] at ho
  obtain ⟨c0, c1, c2⟩ := thCells_at ts vs h.lv k ts[k] vs[k] (by simp [hk]) (by simp [hv])
  refine ⟨(ho.lt bt rfl).2, vs[k], Fs[k], ?_, ?_, h.kid k ts[k] vs[k] Fs[k] (by simp [hk]) (by simp [hv]) (by simp [hF])⟩
  · rw [ho.cellAt _ (by omega)]; exact c0
  · rw [ho.cellAt _ (by omega)]; exact c1

/-- one Boolean more -/
theorem pure_fin {w w1 w3 : World} {pv : Value} {k : Nat} {xs : List Value} {P : Bool} (hwr : WrAt w1 w.heap.size ⟨#[]⟩ 0 pv) (hown : w1.ownsRow w.heap.size 4 1 pv k xs) (hb : Below w.heap.size w w1) (g1 cap1 : Nat) (hown3 : w3.ownsRow w.heap.size 4 1 (.slice (some ⟨g1, 0, none⟩) (k + 1) cap1) (k + 1) (xs ++ [.bool P])) (hgrow : (w1.drew.alloc (.cells #[.bool P] 4)).grownBy w3 pv.ownBlock) :
    WrAt (w3.setCell ⟨w.heap.size, 2, none⟩ (.slice (some ⟨g1, 0, none⟩) (k + 1) cap1)) w.heap.size ⟨#[]⟩ 0 (.slice (some ⟨g1, 0, none⟩) (k + 1) cap1) ∧ (w3.setCell ⟨w.heap.size, 2, none⟩ (.slice (some ⟨g1, 0, none⟩) (k + 1) cap1)).ownsRow w.heap.size 4 1 (.slice (some ⟨g1, 0, none⟩) (k + 1) cap1) (k + 1) (xs ++ [.bool P]) ∧ Below w.heap.size w (w3.setCell ⟨w.heap.size, 2, none⟩ (.slice (some ⟨g1, 0, none⟩) (k + 1) cap1)) := by
  have hlt := hwr.lt
  have hne : some w.heap.size ≠ pv.ownBlock := Ne.symm (own_ne_blk hown hwr (by decide))
  have e1 : w3.heap[w.heap.size]? = w1.heap[w.heap.size]? := by
    rw [hgrow.block w.heap.size (by simp; omega) hne]
    exact Below.heap_alloc _ _ _ hlt
  have h3 : WrAt w3 w.heap.size ⟨#[]⟩ 0 pv := hwr.of_block e1
  refine ⟨h3.setP _, ownsRow_keep hown3 (fun j hj => Below.heap_setCell _ _ _ _ (fun e => ?_)), ?_⟩
  · simp at e; subst e
    obtain ⟨c, hc⟩ := own_type hown3 hj
    unfold WrAt at h3
    rw [h3] at hc; simp at hc
  · exact Below.setCell (Below.grown ((hb.drew).alloc hb.size _) hgrow (by simp; omega) (fun j hj => (hown.lt j hj).1)) (Nat.le_refl _) _

set_option maxHeartbeats 12800000 in
theorem compiled_any (B bt n cap : Nat) (ts : List R.Th) (vs : List Value) (Fs : List (List Nat)) (w : World) (h : ThsAt w B (.slice (some ⟨bt, 0, none⟩) n cap) ts vs Fs) (hn : n = ts.length) (hm : R.Sm ts) (hok : ∀ t ∈ ts, R.okL t.body) :
    Calls Tryz.prog 8 #[.slice (some ⟨bt, 0, none⟩) n cap, .int .i64 0] w fun e w' => ∃ s, e = .returned (.string s) ∧ s.toList = R.textTs 0 ts ∧ Below w.heap.size w w' := by
  have hnb : n ≤ 4 := by rw [hn]; exact hm.nth
  have HA := hide h
  have HN := hide hn
  have HM := hide hm
  have HOK := hide hok
  clear h hn hm hok
  go_enter Tryz.func8, Tryz.ntmps8
  go_wp2
  go_loopw [6] (fun i wr => ∃ (k : Nat) (pv : Value) (xs : List Value), k ≤ 3 ∧ i = .int .i64 k ∧ WrAt wr w.heap.size ⟨#[]⟩ 0 pv ∧ wr.ownsRow w.heap.size 4 1 pv k xs ∧ Below w.heap.size w wr) (fun i _ => 3 - (intOf i).toNat)
  case atStart => exact ⟨0, .slice none 0 0, [], Nat.zero_le _, rfl, heap_alloc_new w _, World.ownsRow_nil _ _ _ _, (Below.refl _ _).alloc (Nat.le_refl _) _⟩
  case round =>
    obtain ⟨k, pv, xs, hk, rfl, hwr, hown, hbel⟩ := hrel
    by_cases hlt : k < 3
    · have hin : (k : Int) < 3 := by omega
      have HT : Hid (ThsAt wr B (.slice (some ⟨bt, 0, none⟩) n cap) ts vs Fs) := HA.out.keep (fun j hj => hbel.block j hj)
      have hws : w.heap.size < wr.heap.size := hwr.lt
      have HW := hide hwr
      have HOW := hide hown
      have HBL := hide hbel
      clear hwr hown hbel
      go_wp2_with (first | (go_at_call 20; refine (touched_any B bt n cap (k : Int) ts vs Fs _ HT.out HN.out (by omega) HM.out.all HM.out.blk).mono ?_; rintro e w1 ⟨b0, b1, p, q, rfl, hpair, hb1⟩))
      have hw1 := hb1.size
      have hlt1 : wr.heap.size < w1.heap.size := (Array.getElem?_eq_some_iff.1 hpair).1
      obtain ⟨p1, p2, p3, p4⟩ := pairB_facts hpair
      have hwr1 := HW.out.below hb1
      obtain ⟨glt, gfr, g0, g1, g2, g3⟩ := hwr1.facts
      have hown1 : w1.ownsRow w.heap.size 4 1 pv k xs := ownsRow_keep HOW.out (fun j hj => hb1.block j (HOW.out.lt j hj).2)
      have hne : some w.heap.size ≠ pv.ownBlock := Ne.symm (own_ne_blk hown1 hwr1 (by decide))
      have hb2 : Below w.heap.size w w1 := HBL.out.trans (hb1.mono (by omega))
      have hne2 : some wr.heap.size ≠ pv.ownBlock := fun e => by have := (HOW.out.lt _ e.symm).2; omega
      rcases p with _ | _
      · rcases b0 with _ | _
        · refine PureRegB b1 q w1 w.heap.size w.heap.size wr.heap.size k pv xs hwr1 hpair hown1 hlt (by omega) (by omega) hne2 _ (fun _ _ d _ _ h => by cases d <;> exact h) _ _ _ _ _ _ _ _ _ _ _ _ _ _ _ _ _ _ _ _ _ _ _ _ _ _ _ _ _ _ _ _ _ _ _ _ _ _ _ _ _ _ _ _ _ _ _ _ _ _ _ _ _ _ _ _ _ _ _ _ _ _ _ _ _ _ _ _ _ _ _ _ _ _ _ _ _ _ _ _ _ _ _ _ _ _ _ ?_
          intro x32 x33 x34 x35 x36 x37 x38 x39 x40 x41 x42 x43 x44 x45 x46 x47 x48 x49 x50 x51 x52 x53 x54 x55 x56 g1 cap1 w3 hown3 hgrow
          obtain ⟨q1, q2, q3⟩ := pure_fin hwr1 hown1 hb2 g1 cap1 hown3 hgrow
          have Q1 := hide q1
          have Q2 := hide q2
          clear q1 q2 hown3 hgrow
          go_wp2
          go_roundw
          case rel => exact ⟨k + 1, _, _, by omega, by go_num, Q1.out, Q2.out, q3⟩
          case measure => simp [intOf]; omega
        · rcases b1 with _ | _
          · refine PureRegC q w1 w.heap.size w.heap.size wr.heap.size k pv xs hwr1 hpair hown1 hlt (by omega) (by omega) hne2 _ (fun _ _ d _ _ h => by cases d <;> exact h) _ _ _ _ _ _ _ _ _ _ _ _ _ _ _ _ _ _ _ _ _ _ _ _ _ _ _ _ _ _ _ _ _ _ _ _ _ _ _ _ _ _ _ _ _ _ _ _ _ _ _ _ _ _ _ _ _ _ _ _ _ _ _ _ _ _ _ _ _ _ _ _ _ _ _ _ _ _ _ _ _ _ _ _ _ _ _ ?_
            intro x32 x33 x34 x35 x36 x37 x38 x39 x40 x41 x42 x43 x44 x45 x46 x47 x48 x49 x50 x51 x52 x53 x54 x55 x56 g1 cap1 w3 hown3 hgrow
            obtain ⟨q1, q2, q3⟩ := pure_fin hwr1 hown1 hb2 g1 cap1 hown3 hgrow
            have Q1 := hide q1
            have Q2 := hide q2
            clear q1 q2 hown3 hgrow
            go_wp2
            go_roundw
            case rel => exact ⟨k + 1, _, _, by omega, by go_num, Q1.out, Q2.out, q3⟩
            case measure => simp [intOf]; omega
          · rcases q with _ | _
            · refine PureRegD  w1 w.heap.size w.heap.size wr.heap.size k pv xs hwr1 hpair hown1 hlt (by omega) (by omega) hne2 _ (fun _ _ d _ _ h => by cases d <;> exact h) _ _ _ _ _ _ _ _ _ _ _ _ _ _ _ _ _ _ _ _ _ _ _ _ _ _ _ _ _ _ _ _ _ _ _ _ _ _ _ _ _ _ _ _ _ _ _ _ _ _ _ _ _ _ _ _ _ _ _ _ _ _ _ _ _ _ _ _ _ _ _ _ _ _ _ _ _ _ _ _ _ _ _ _ _ _ _ ?_
              intro x32 x33 x34 x35 x36 x37 x38 x39 x40 x41 x42 x43 x44 x45 x46 x47 x48 x49 x50 x51 x52 x53 x54 x55 x56 g1 cap1 w3 hown3 hgrow
              obtain ⟨q1, q2, q3⟩ := pure_fin hwr1 hown1 hb2 g1 cap1 hown3 hgrow
              have Q1 := hide q1
              have Q2 := hide q2
              clear q1 q2 hown3 hgrow
              go_wp2
              go_roundw
              case rel => exact ⟨k + 1, _, _, by omega, by go_num, Q1.out, Q2.out, q3⟩
              case measure => simp [intOf]; omega
            · refine PureRegE  w1 w.heap.size w.heap.size wr.heap.size k pv xs hwr1 hpair hown1 hlt (by omega) (by omega) hne2 _ (fun _ _ d _ _ h => by cases d <;> exact h) _ _ _ _ _ _ _ _ _ _ _ _ _ _ _ _ _ _ _ _ _ _ _ _ _ _ _ _ _ _ _ _ _ _ _ _ _ _ _ _ _ _ _ _ _ _ _ _ _ _ _ _ _ _ _ _ _ _ _ _ _ _ _ _ _ _ _ _ _ _ _ _ _ _ _ _ _ _ _ _ _ _ _ _ _ _ _ ?_
              intro x32 x33 x34 x35 x36 x37 x38 x39 x40 x41 x42 x43 x44 x45 x46 x47 x48 x49 x50 x51 x52 x53 x54 x55 x56 g1 cap1 w3 hown3 hgrow
              obtain ⟨q1, q2, q3⟩ := pure_fin hwr1 hown1 hb2 g1 cap1 hown3 hgrow
              have Q1 := hide q1
              have Q2 := hide q2
              clear q1 q2 hown3 hgrow
              go_wp2
              go_roundw
              case rel => exact ⟨k + 1, _, _, by omega, by go_num, Q1.out, Q2.out, q3⟩
              case measure => simp [intOf]; omega
      · refine PureRegA b0 b1 q w1 w.heap.size w.heap.size wr.heap.size k pv xs hwr1 hpair hown1 hlt (by omega) (by omega) hne2 _ (fun _ _ d _ _ h => by cases d <;> exact h) _ _ _ _ _ _ _ _ _ _ _ _ _ _ _ _ _ _ _ _ _ _ _ _ _ _ _ _ _ _ _ _ _ _ _ _ _ _ _ _ _ _ _ _ _ _ _ _ _ _ _ _ _ _ _ _ _ _ _ _ _ _ _ _ _ _ _ _ _ _ _ _ _ _ _ _ _ _ _ _ _ _ _ _ _ _ _ ?_
        intro x32 x33 x34 x35 x36 x37 x38 x39 x40 x41 x42 x43 x44 x45 x46 x47 x48 x49 x50 x51 x52 x53 x54 x55 x56 g1 cap1 w3 hown3 hgrow
        obtain ⟨q1, q2, q3⟩ := pure_fin hwr1 hown1 hb2 g1 cap1 hown3 hgrow
        have Q1 := hide q1
        have Q2 := hide q2
        clear q1 q2 hown3 hgrow
        go_wp2
        go_roundw
        case rel => exact ⟨k + 1, _, _, by omega, by go_num, Q1.out, Q2.out, q3⟩
        case measure => simp [intOf]; omega
    · have hk3 : k = 3 := by omega
      subst hk3
      have HBL := hide hbel
      have HW := hide hwr
      clear hown
      go_wp2
      go_loopw [10] (fun i wr => ∃ (k : Nat) (u : ByteArray) (lk : Int), k ≤ n ∧ i = .int .i64 k ∧ WrAt wr w.heap.size u lk pv ∧ Hid (u.toList ++ R.textTs lk (ts.drop k) = R.textTs 0 ts) ∧ (0 ≤ lk ∧ lk ≤ 8 * (k : Int)) ∧ (u.size : Int) ≤ (k : Int) * 200000 ∧ Below w.heap.size w wr) (fun i _ => n - (intOf i).toNat)
      case atStart => exact ⟨0, ⟨#[]⟩, 0, Nat.zero_le _, rfl, HW.out, by unfold Hid; simp [lit_toList], by omega, by simp [lit_size], HBL.out⟩
      case round =>
        clear HW HBL hwr hbel
        obtain ⟨k, u, lk, hk, rfl, hwr, HU, hlk, husz, hbel⟩ := hrel
        by_cases hlt : k < n
        · have hkl : k < ts.length := by rw [← HN.out]; exact hlt
          have hin : (k : Int) < (n : Int) := by omega
          obtain ⟨hbt, uv, F, c0, c1, L⟩ := HA.out.getL HN.out k hkl
          have hF := L.bound
          have hsz := HM.out.all ts[k] (List.getElem_mem hkl)
          have hblk := HM.out.blk ts[k] (List.getElem_mem hkl)
          have hok := HOK.out ts[k] (List.getElem_mem hkl)
          have HD := hide (P.drop_cons ts k hkl)
          have hnn := R.sizeL_nn ts[k].body
          have hla := R.text_lab.2 ts[k].body lk
          have HC : Hid (∀ (w2 : World) (u2 : ByteArray), Below w.heap.size w w2 → WrAt w2 w.heap.size u2 lk pv → (u2.size : Int) ≤ 1000000 → Calls Tryz.prog 22 #[.pointer (some ⟨w.heap.size, 0, none⟩), uv] w2 fun e w' => e = .returned (.tuple #[]) ∧ w2.grownBy w' (some w.heap.size) ∧ ∃ t', WrAt w' w.heap.size t' (R.textL lk ts[k].body).2 pv ∧ t'.toList = u2.toList ++ (R.textL lk ts[k].body).1 ∧ (t'.size : Int) ≤ u2.size + 20000 * R.sizeL ts[k].body) := fun w2 u2 hb2 hw2 hz2 =>
            linesR_any L (by omega) hok w2 w.heap.size u2 lk pv (fun j hj => hb2.block j (hF j hj).2) (fun hj => by have := (hF _ hj).2; omega) hw2 hlk.1 (by omega) (by omega)
          generalize ts[k] = t at *
          have d0 := (hbel.cell (p := ⟨bt, k * 3, none⟩) hbt).trans c0
          have hbtne : bt ≠ w.heap.size := by omega
          have HW := hide hwr
          have HBL := hide hbel
          have hws := hwr.lt
          clear hwr hbel hF L hok c0
          go_wp2_with (first
            | (go_at_call 21; refine (decR_any t.block _ (by omega) (by omega)).mono ?_; rintro e w1 ⟨sd, rfl, hsd, hb1⟩; have zd := hsd.size; have HW1 := hide (HW.out.below hb1); obtain ⟨glt, gfr, g0, g1, g2, g3⟩ := HW1.out.facts; have hb2 : Below w.heap.size w w1 := HBL.out.trans (hb1.mono (by omega)); have d1 := (hb2.cell (p := ⟨bt, k * 3 + 1, none⟩) hbt).trans c1; have q1 := fun u' : Value => (cell_set_ne (w := w1) (g := w.heap.size) (i := 0) (b := bt) (o := k * 3 + 1) (u := u') hbtne).trans d1)
            | (go_at_call 22; refine (HC.out _ _ (hb2.setCell (Nat.le_refl _) _) (HW1.out.setT _) (by simp [lit_size]; omega)).mono ?_; rintro e w2 ⟨rfl, hg2, t', hw2, ht2, hz2⟩))
          go_roundw
          case rel =>
            refine ⟨_, _, _, _, _, _, _, _, _, _, _, _, _, _, _, _, _, _, _, _, _, _, _, _, _, _, _, _, _, _, _, _, ⟨k + 1, t', _, by omega, by go_num, hw2, ?_, by omega, ?_, below_of_new (hb2.setCell (Nat.le_refl _) _) hg2 (Nat.le_refl _)⟩, rfl⟩
            · unfold Hid; rw [ht2, ← HU.out, HD.out]; simp [app_toList, lit_toList, hsd.1, R.textTs]
            · simp [lit_size] at hz2; push_cast; omega
          case measure => simp [intOf]; omega
        · have hkn : k = n := by omega
          subst hkn
          obtain ⟨glt, gfr, g0, g1, g2, g3⟩ := hwr.facts
          have HE : Hid (u.toList = R.textTs 0 ts) := by
            unfold Hid
            have h1 := HU.out
            rw [List.drop_eq_nil_of_le (by have := HN.out; omega)] at h1
            simpa [R.textTs] using h1
          go_wp2
          go_ret
          exact ⟨u, rfl, HE.out, hbel⟩
end Go.Proofs.YtpkjmdcabdplfaaGreatDoor

namespace Go.Proofs.YtpkjmdcabdplfaaGreatDoor
open Go Go.RowKit
set_option maxRecDepth 100000


set_option maxHeartbeats 6400000 in
theorem law_any (s : ByteArray) (w : World) (hs : s.size ≤ 8192) :
    Calls Tryz.prog 5 #[.string s, .int .i64 0] w fun e w' => ∃ t, e = .returned (.tuple #[.string t, .bool true]) ∧ Below w.heap.size w w' := by
  have HC := hide (compile_read s.toList)
  have HSM := hide (R.read_sz s.toList)
  have HOK := hide (R.read_ok s.toList)
  by_cases hf : (R.read s.toList).2.1 = 0
  · have HP : Hid (P.compile s.toList = (R.textTs 0 (R.read s.toList).1, 0, 0)) := by unfold Hid; rw [HC.out, hf]; rfl
    go_enter Tryz.func5, Tryz.ntmps5
    go_wp2_with (first
      | (go_at_call 6; refine (compile_any s _ hs).mono ?_; rw [HP.out]; rintro e w1 ⟨t, rfl, ht, hb1⟩; dsimp only)
      | (go_at_call 7; refine (read_any s _ hs).mono ?_; rintro e w2 ⟨tv, rfl, hth, _, hb2⟩; obtain ⟨bt, cap, B, vs, Fs, rfl, hT⟩ := hth hf; have HT := hide hT; have hb3 := hb1.trans (hb2.mono hb1.size); rw [hf]; clear hth hT; dsimp only)
      | (go_at_call 8; refine (compiled_any B bt _ cap (R.read s.toList).1 vs Fs _ HT.out rfl HSM.out HOK.out).mono ?_; rintro e w3 ⟨u, rfl, hu, hb4⟩; have htt := ht.1; have hb5 := hb3.trans (hb4.mono hb3.size); dsimp only))
    go_ret2
    exact ⟨⟨t, rfl⟩, hb5⟩
  · have HP : Hid (P.compile s.toList = ([], (R.read s.toList).2.1, (R.read s.toList).2.2)) := by
      unfold Hid; rw [HC.out, if_pos (by simpa using hf)]
    have hfb : ((R.read s.toList).2.1 == 0) = false := by simpa using hf
    have hfn : ((R.read s.toList).2.1 != 0) = true := by simpa using hf
    go_enter Tryz.func5, Tryz.ntmps5
    go_wp2_with (first
      | (go_at_call 6; refine (compile_any s _ hs).mono ?_; rw [HP.out]; rintro e w1 ⟨t, rfl, ht, hb1⟩; have htl : (t.toList == []) = true := (by rw [ht.1]; rfl); dsimp only)
      | (go_at_call 7; refine (read_any s _ hs).mono ?_; rintro e w2 ⟨tv, rfl, hth, ⟨ta, q, tc, rfl⟩, hb2⟩; have hb3 := hb1.trans (hb2.mono hb1.size); clear hth; dsimp only))
    go_ret2
    exact ⟨⟨_, rfl⟩, hb3⟩

set_option maxHeartbeats 1600000 in
theorem plain_any (s : ByteArray) (w : World) :
    Calls Tryz.prog 3 #[.string s] w fun e w' => e = .returned (.bool true) ∧ Below w.heap.size w w' := by
  by_cases hs : s.size ≤ 8192
  · have h' : ¬ (8192 : Int) < (s.size : Int) := by omega
    go_enter Tryz.func3, Tryz.ntmps3
    go_wp2_with (first | (go_at_call 5; refine (law_any s _ hs).mono ?_; rintro e w1 ⟨t, rfl, hb⟩; dsimp only))
    go_ret
    exact ⟨rfl, hb⟩
  · have h' : (8192 : Int) < (s.size : Int) := by omega
    go_enter Tryz.func3, Tryz.ntmps3
    go_wp2
    go_ret
    exact ⟨rfl, Below.refl _ _⟩
end Go.Proofs.YtpkjmdcabdplfaaGreatDoor
