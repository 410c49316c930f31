import Derived.Test.YtpkjmdcabdplfaaGreatDoorA16
import Derived.Test.YtpkjmdcabdplfaaGreatDoorA01
set_option linter.unusedVariables false
set_option linter.unusedSimpArgs false
namespace Go.Proofs.YtpkjmdcabdplfaaGreatDoor
open Go Go.RowKit
set_option maxRecDepth 100000

theorem isAccA_any (k : Int) (w : World) :
    Calls Tryz.prog 56 #[.int .i64 k] w fun e w' => e = .returned (.bool (k == 0 || k == 1 || k == 2 || k == 3)) ∧ w' = w := by
  go_enter Tryz.func56, Tryz.ntmps56
  go_wp2
  all_goals go_ret
  all_goals simp [*]

set_option maxHeartbeats 400000 in
theorem isOrd_any (k : Int) (w : World) :
    Calls Tryz.prog 63 #[.int .i64 k] w fun e w' => e = .returned (.bool (P.isOrd k)) ∧ w' = w := by
  cases h1 : (k == 0 || k == 1 || k == 2 || k == 3)
  · go_enter Tryz.func63, Tryz.ntmps63
    go_wp2_with (first | (go_at_call 56; refine (isAccA_any _ _).mono ?_; rintro e w' ⟨rfl, rfl⟩; rw [h1]))
    go_ret
    refine ⟨?_, rfl⟩
    simp [P.isOrd, h1]
  · go_enter Tryz.func63, Tryz.ntmps63
    go_wp2_with (first | (go_at_call 56; refine (isAccA_any _ _).mono ?_; rintro e w' ⟨rfl, rfl⟩; rw [h1]))
    go_ret
    refine ⟨?_, rfl⟩
    simp [P.isOrd, h1]

set_option maxHeartbeats 1600000 in
theorem partA_any (st : P.Stm) (c : UInt8) (w : World) (hS : P.Small st) :
    Calls Tryz.prog 65 #[.agg (stmCells st), .int .u8 (c.toNat : Int)] w fun e w' => ∃ s, e = .returned (.string s) ∧ Txt 10 s (P.partT st c) ∧ Below w.heap.size w w' := by
  have hc : c.toNat < 256 := UInt8.toNat_lt c
  simp only [stmCells]
  cases h1 : ((c.toNat : Int) == 100)
  rotate_left
  · have HE : Hid (P.partT st c = P.regT st.dest) := by unfold Hid P.partT; rw [if_pos (show c = 100 from (byte_eq c 100 (by omega)).1 h1)]
    go_enter Tryz.func65, Tryz.ntmps65
    go_wp2_with (first | (go_at_call 77; refine (regA_any _ _ hS.d0 hS.d1).mono ?_; rintro e w' ⟨s, rfl, hs, rfl⟩))
    go_ret
    rw [unhide HE]
    exact ⟨_, rfl, ⟨hs.1, by have := hs.size; omega⟩, (Below.refl _ _).alloc (Nat.le_refl _) _⟩
  have n1 : ¬ c = 100 := fun e => by subst e; simp at h1
  cases h2 : ((c.toNat : Int) == 118)
  rotate_left
  · have HE : Hid (P.partT st c = P.celT st.var) := by unfold Hid P.partT; rw [if_neg n1, if_pos (show c = 118 from (byte_eq c 118 (by omega)).1 h2)]
    go_enter Tryz.func65, Tryz.ntmps65
    go_wp2_with (first | (go_at_call 78; refine (varA_any _ _).mono ?_; rintro e w' ⟨s, rfl, hs, rfl⟩))
    go_ret
    rw [unhide HE]
    exact ⟨_, rfl, ⟨hs.1, by have := hs.size; omega⟩, (Below.refl _ _).alloc (Nat.le_refl _) _⟩
  have n2 : ¬ c = 118 := fun e => by subst e; simp at h2
  cases h3 : ((c.toNat : Int) == 97)
  rotate_left
  · have HE : Hid (P.partT st c = P.opdT st.a) := by unfold Hid P.partT; rw [if_neg n1, if_neg n2, if_pos (show c = 97 from (byte_eq c 97 (by omega)).1 h3)]
    go_enter Tryz.func65, Tryz.ntmps65
    go_wp2_with (first | (go_at_call 79; refine (opdA_any st.a _ hS.a0 hS.a1).mono ?_; rintro e w1 ⟨s, rfl, hs, hb⟩))
    go_ret
    rw [unhide HE]
    exact ⟨_, rfl, ⟨hs.1, by have := hs.size; omega⟩, ((Below.refl _ _).alloc (Nat.le_refl _) _).trans (hb.mono (by simp))⟩
  have n3 : ¬ c = 97 := fun e => by subst e; simp at h3
  cases h4 : ((c.toNat : Int) == 98)
  rotate_left
  · have HE : Hid (P.partT st c = P.opdT st.b) := by unfold Hid P.partT; rw [if_neg n1, if_neg n2, if_neg n3, if_pos (show c = 98 from (byte_eq c 98 (by omega)).1 h4)]
    go_enter Tryz.func65, Tryz.ntmps65
    go_wp2_with (first | (go_at_call 79; refine (opdA_any st.b _ hS.b0 hS.b1).mono ?_; rintro e w1 ⟨s, rfl, hs, hb⟩))
    go_ret
    rw [unhide HE]
    exact ⟨_, rfl, ⟨hs.1, by have := hs.size; omega⟩, ((Below.refl _ _).alloc (Nat.le_refl _) _).trans (hb.mono (by simp))⟩
  have n4 : ¬ c = 98 := fun e => by subst e; simp at h4
  have HE : Hid (P.partT st c = P.labT st.label) := by unfold Hid P.partT; rw [if_neg n1, if_neg n2, if_neg n3, if_neg n4]
  go_enter Tryz.func65, Tryz.ntmps65
  go_wp2_with (first | (go_at_call 61; refine (labA_any _ _ hS.l0 hS.l1).mono ?_; rintro e w' ⟨s, rfl, hs, rfl⟩))
  go_ret
  rw [unhide HE]
  exact ⟨_, rfl, ⟨hs.1, by have := hs.size; omega⟩, (Below.refl _ _).alloc (Nat.le_refl _) _⟩

theorem toList_take_snoc (s : ByteArray) (k : Nat) (h : k < s.size) : s.toList.take (k + 1) = s.toList.take k ++ [s[k]] := take_snoc s k h

set_option maxHeartbeats 3200000 in
theorem instr_any (st : P.Stm) (w : World) (hS : P.Small st) :
    Calls Tryz.prog 33 #[.agg (stmCells st)] w fun e w' => ∃ s, e = .returned (.string s) ∧ Txt 80 s (P.instr st) ∧ Below w.heap.size w w' := by
  cases hk : (st.kind == 11)
  rotate_left
  · have HE := hide (P.instr_end st hk)
    simp only [stmCells]
    go_enter Tryz.func33, Tryz.ntmps33
    go_wp2_with (first | (go_at_call 61; refine (labA_any _ _ hS.l0 hS.l1).mono ?_; rintro e w' ⟨s, rfl, hs, rfl⟩; have hsz := hs.size))
    go_ret
    rw [unhide HE]
    refine ⟨_, rfl, ⟨?_, ?_⟩, (Below.refl _ _).alloc (Nat.le_refl _) _⟩
    · simp [app_toList, lit_toList, hs.1]
    · simp [lit_size]; omega
  have HE := hide (P.instr_lay st hk)
  have hSt := hide (StmAt.new w st)
  have hBl : Hid (Below w.heap.size w (w.alloc (.cells (stmCells st) 80))) := (Below.refl _ _).alloc (Nat.le_refl _) _
  cases ho : P.isOrd st.kind
  all_goals
    simp only [stmCells]
    go_enter Tryz.func33, Tryz.ntmps33
    go_wp2_with (first
      | (go_at_call 62; refine (layA_any _ _).mono ?_; rintro e w' ⟨sl, so, rfl, hsl, hso, rfl⟩; have hz1 := hsl.size; have hz2 := hso.size)
      | (go_at_call 63; refine (isOrd_any _ _).mono ?_; rintro e w' ⟨rfl, rfl⟩; rw [ho])
      | (go_at_call 64; refine (sufA_any _ _ _).mono ?_; rintro e w' ⟨ss, rfl, hss, rfl⟩; have hz3 := hss.size))
  · have HB : Hid (sl.toList = (P.layT st.kind).1 ++ (if P.isOrd st.kind then P.sufO st.order st.scope else [])) := by unfold Hid; rw [ho, hsl.1]; simp
    have hz4 : sl.size ≤ 40 := by omega
    go_loopw [3, 5, 6] (fun a b i wr => ∃ k : Nat, ∃ ln bt : ByteArray, k ≤ so.size ∧ i = .int .i64 k ∧ a = .string ln ∧ b = .string bt ∧ ln.size ≤ 40 + k * 12 ∧ bt.size ≤ 2 ∧ Hid (ln.toList = (P.layT st.kind).1 ++ (if P.isOrd st.kind then P.sufO st.order st.scope else []) ++ P.joinT st (so.toList.take k)) ∧ Hid (bt.toList = P.betT (so.toList.take k)) ∧
        Hid (StmAt wr w.heap.size st) ∧ Hid (Below w.heap.size w wr)) (fun _ _ i _ => so.size - (intOf i).toNat)
    case atStart => exact ⟨0, _, _, Nat.zero_le _, rfl, rfl, rfl, by omega, by simp [lit_size], by unfold Hid; rw [HB.out]; simp [P.joinT], by unfold Hid; simp [P.betT, lit_toList], hSt, hBl⟩
    case round =>
      obtain ⟨k, ln, bt, hk, rfl, rfl, rfl, hlz, hbz, HL, HT, HS1, HB1⟩ := hrel
      by_cases hlt : k < so.size
      · have HSn := hide (take_snoc so k hlt)
        obtain ⟨f1, f2, c0, c1, c2, c3, c4, c5, c6, c7, c8, c9, c10⟩ := HS1.out.facts
        go_wp2
        go_region_with (go_at_call 65; refine (partA_any st so[k] _ hS).mono ?_; rintro e w3 ⟨sp, rfl, hsp, hb3⟩; have hz5 := hsp.size; have G3 := hide (HS1.out.drew.below hb3); have B3 := hide ((HB1.out.drew).trans (hb3.mono (by have := HB1.out.size; simp; omega))))
        all_goals
          go_wp2
          go_roundw
          case rel =>
            refine ⟨k + 1, _, _, by omega, by go_num, rfl, rfl, ?_, by simp [lit_size], ?_, ?_, G3, B3⟩
            · simp; omega
            · unfold Hid; rw [HSn.out, P.joinT_snoc]; simp [app_toList, HL.out, HT.out, hsp.1]
            · unfold Hid; rw [HSn.out]; simp [lit_toList, P.betT]
          case measure => simp [intOf]; omega
      · have hks : k = so.size := by omega
        have HX : Hid (so.toList.take k = (P.layT st.kind).2) := by unfold Hid; rw [List.take_of_length_le (by rw [size_toList]; omega), hso.1]
        go_wp2
        go_ret
        rw [unhide HE]
        refine ⟨_, rfl, ⟨?_, by omega⟩, HB1.out⟩
        rw [HL.out, HX.out]
  · have HB : Hid ((sl ++ ss).toList = (P.layT st.kind).1 ++ (if P.isOrd st.kind then P.sufO st.order st.scope else [])) := by unfold Hid; rw [ho, app_toList, hsl.1, hss.1]; simp
    have hz4 : (sl ++ ss).size ≤ 40 := by simp; omega
    go_loopw [3, 5, 6] (fun a b i wr => ∃ k : Nat, ∃ ln bt : ByteArray, k ≤ so.size ∧ i = .int .i64 k ∧ a = .string ln ∧ b = .string bt ∧ ln.size ≤ 40 + k * 12 ∧ bt.size ≤ 2 ∧ Hid (ln.toList = (P.layT st.kind).1 ++ (if P.isOrd st.kind then P.sufO st.order st.scope else []) ++ P.joinT st (so.toList.take k)) ∧ Hid (bt.toList = P.betT (so.toList.take k)) ∧
        Hid (StmAt wr w.heap.size st) ∧ Hid (Below w.heap.size w wr)) (fun _ _ i _ => so.size - (intOf i).toNat)
    case atStart => exact ⟨0, _, _, Nat.zero_le _, rfl, rfl, rfl, by omega, by simp [lit_size], by unfold Hid; rw [HB.out]; simp [P.joinT], by unfold Hid; simp [P.betT, lit_toList], hSt, hBl⟩
    case round =>
      obtain ⟨k, ln, bt, hk, rfl, rfl, rfl, hlz, hbz, HL, HT, HS1, HB1⟩ := hrel
      by_cases hlt : k < so.size
      · have HSn := hide (take_snoc so k hlt)
        obtain ⟨f1, f2, c0, c1, c2, c3, c4, c5, c6, c7, c8, c9, c10⟩ := HS1.out.facts
        go_wp2
        go_region_with (go_at_call 65; refine (partA_any st so[k] _ hS).mono ?_; rintro e w3 ⟨sp, rfl, hsp, hb3⟩; have hz5 := hsp.size; have G3 := hide (HS1.out.drew.below hb3); have B3 := hide ((HB1.out.drew).trans (hb3.mono (by have := HB1.out.size; simp; omega))))
        all_goals
          go_wp2
          go_roundw
          case rel =>
            refine ⟨k + 1, _, _, by omega, by go_num, rfl, rfl, ?_, by simp [lit_size], ?_, ?_, G3, B3⟩
            · simp; omega
            · unfold Hid; rw [HSn.out, P.joinT_snoc]; simp [app_toList, HL.out, HT.out, hsp.1]
            · unfold Hid; rw [HSn.out]; simp [lit_toList, P.betT]
          case measure => simp [intOf]; omega
      · have hks : k = so.size := by omega
        have HX : Hid (so.toList.take k = (P.layT st.kind).2) := by unfold Hid; rw [List.take_of_length_le (by rw [size_toList]; omega), hso.1]
        go_wp2
        go_ret
        rw [unhide HE]
        refine ⟨_, rfl, ⟨?_, by omega⟩, HB1.out⟩
        rw [HL.out, HX.out]
end Go.Proofs.YtpkjmdcabdplfaaGreatDoor

namespace Go.Proofs.YtpkjmdcabdplfaaGreatDoor
open Go Go.RowKit
set_option maxRecDepth 100000

namespace P
theorem write_append (a b : List Thr) : write (a ++ b) = write a ++ write b := by
  induction a with
  | nil => rfl
  | cons t r ih => simp [write, ih]
theorem write_snoc (l : List Thr) (k : Nat) (h : k < l.length) : write (l.take (k + 1)) = write (l.take k) ++ writeT l[k] := by
  rw [List.take_succ_eq_append_getElem h, write_append]; simp [write]
theorem writeS_append (a b : List Stm) : writeS (a ++ b) = writeS a ++ writeS b := by
  induction a with
  | nil => rfl
  | cons t r ih => simp [writeS, ih]
theorem writeS_snoc (l : List Stm) (k : Nat) (h : k < l.length) : writeS (l.take (k + 1)) = writeS (l.take k) ++ (instr l[k] ++ [10]) := by
  rw [List.take_succ_eq_append_getElem h, writeS_append]; simp [writeS]
end P

set_option maxHeartbeats 3200000 in
theorem write_any (B bt n cap : Nat) (ts : List P.Thr) (w : World) (h : ThreadsAt w B (.slice (some ⟨bt, 0, none⟩) n cap) ts) (hn : n = ts.length) (hnb : n < 10) (hst : ∀ t ∈ ts, t.stmts.length < 10000) (hsm : ∀ t ∈ ts, 0 ≤ t.block ∧ t.block < 100 ∧ ∀ s ∈ t.stmts, P.Small s) :
    Calls Tryz.prog 12 #[.agg #[.slice (some ⟨bt, 0, none⟩) n cap]] w fun e w' => ∃ s, e = .returned (.string s) ∧ Txt 10000000 s (P.write ts) ∧ Below w.heap.size w w' := by
  have HA := hide h
  have HN := hide hn
  have HS := hide hst
  have HM := hide hsm
  clear h hn hst hsm
  go_enter Tryz.func12, Tryz.ntmps12
  go_wp2
  go_loopw [3, 11] (fun a i wr => ∃ k : Nat, ∃ s : ByteArray, k ≤ n ∧ i = .int .i64 k ∧ a = .string s ∧ s.size ≤ k * 1000000 ∧ Hid (s.toList = P.write (ts.take k)) ∧ Below w.heap.size w wr) (fun _ i _ => n - (intOf i).toNat)
  case atStart => exact ⟨0, ⟨#[]⟩, Nat.zero_le _, rfl, rfl, by simp [lit_size], by unfold Hid; simp [lit_toList, P.write], (Below.refl _ _).alloc (Nat.le_refl _) _⟩
  case round =>
    obtain ⟨k, s, hk, rfl, rfl, hsz, HW, hbel⟩ := hrel
    by_cases hlt : k < n
    · have hkl : k < ts.length := by rw [← HN.out]; exact hlt
      obtain ⟨hbt, sa, sc, c0, c1, c2, ho⟩ := thr_at HA.out HN.out k hkl
      have d0 := (hbel.cell (p := ⟨bt, k * 3, none⟩) hbt).trans c0
      have d1 := (hbel.cell (p := ⟨bt, k * 3 + 1, none⟩) hbt).trans c1
      have d2 := (hbel.cell (p := ⟨bt, k * 3 + 2, none⟩) hbt).trans c2
      have hls := HS.out ts[k] (List.getElem_mem hkl)
      obtain ⟨hb0, hb1, hms⟩ := HM.out ts[k] (List.getElem_mem hkl)
      have HMS := hide hms
      have HX := hide (P.write_snoc ts k hkl)
      have HO := hide ho
      generalize hst : ts[k] = t at *
      have hsa : 0 < t.stmts.length → ∃ b, sa = some ⟨b, 0, none⟩ ∧ b < w.heap.size := fun h0 => by
        rcases ho.2 with ⟨e, h0'⟩ | ⟨b', c', cur, e, hb', hg', _⟩
        · omega
        · simp only [Value.slice.injEq] at e
          exact ⟨b', e.1, (Array.getElem?_eq_some_iff.1 hg').1⟩
      clear hst c0 c1 c2 ho hms
      have hws : w.heap.size ≤ wr.heap.size := hbel.size
      have HB1 : Hid (Below w.heap.size w (wr.alloc (.cells #[.int .i64 t.block, .int .i64 t.line, .slice sa t.stmts.length sc] 73))) := hbel.alloc hws _
      clear hbel
      go_wp2_with (first | (go_at_call 32; refine (thrA_any t.block _ hb0 hb1).mono ?_; rintro e w' ⟨sn, rfl, hsn, rfl⟩; have zn := hsn.size))
      go_loopw [3, 24] (fun a j w2 => ∃ q : Nat, ∃ u : ByteArray, q ≤ t.stmts.length ∧ j = .int .i64 q ∧ a = .string u ∧ u.size ≤ k * 1000000 + 20 + q * 81 ∧ Hid (u.toList = P.write (ts.take k) ++ ([46, 116, 104, 114, 101, 97, 100, 32] ++ P.dec t.block ++ [10]) ++ P.writeS (t.stmts.take q)) ∧ Below w.heap.size w w2) (fun _ j _ => t.stmts.length - (intOf j).toNat)
      case atStart => 
        refine ⟨0, _, Nat.zero_le _, rfl, rfl, ?_, ?_, HB1.out⟩
        · simp [lit_size]; omega
        · unfold Hid; simp [app_toList, lit_toList, hsn.1, HW.out, P.writeS]
      case round =>
        obtain ⟨q, u, hq, rfl, rfl, husz, HU, hbel⟩ := hrel
        by_cases hql : q < t.stmts.length
        · obtain ⟨b, rfl, hblt⟩ := hsa (by omega)
          have hr := hide (rangeAt_keep (range_stm HO.out rfl q hql) (hbel.block b hblt))
          have hsmq := HMS.out t.stmts[q] (List.getElem_mem hql)
          have KS := hide (P.writeS_snoc t.stmts q hql)
          generalize hst : t.stmts[q] = st at hr KS hsmq
          clear hst
          have hws2 := hbel.size
          go_wp2_with (first | (refine wpList_load_at (.tmp 26) rfl rfl b (q * 11) st rfl hr.out ?_) | (go_at_call 33; refine (instr_any st _ hsmq).mono ?_; rintro e w3 ⟨si, rfl, hsi, hb3⟩; have zi := hsi.size))
          go_roundw
          case rel => 
            refine ⟨q + 1, _, by omega, by go_num, rfl, ?_, ?_, (hbel.alloc hws2 _).trans (hb3.mono (by simp; omega))⟩
            · simp [lit_size]; omega
            · unfold Hid; rw [KS.out]; simp [app_toList, lit_toList, hsi.1, HU.out]
          case measure => simp [intOf]; omega
        · have hqq : q = t.stmts.length := by omega
          subst hqq
          have HT : Hid (t.stmts.take t.stmts.length = t.stmts) := List.take_length
          go_wp2
          go_roundw
          case rel => 
            refine ⟨k + 1, u, by omega, by go_num, rfl, by omega, ?_, hbel⟩
            unfold Hid; rw [HX.out, HU.out, HT.out]; simp [P.writeT]
          case measure => simp [intOf]; omega
    · have hkn : k = n := by omega
      subst hkn
      have HT : Hid (ts.take k = ts) := List.take_of_length_le (by have := HN.out; omega)
      go_wp2
      go_ret
      exact ⟨s, rfl, ⟨by rw [HW.out, HT.out], by omega⟩, hbel⟩
end Go.Proofs.YtpkjmdcabdplfaaGreatDoor

namespace Go.Proofs.YtpkjmdcabdplfaaGreatDoor
open Go Go.RowKit
set_option maxRecDepth 100000

namespace P
def compile (l : List UInt8) : List UInt8 × Int × Int :=
  if (kernel l).2.1 != 0 then ([], (kernel l).2.1, (kernel l).2.2) else (write (kernel l).1, 0, 0)
end P

/-- what Kernel answers, in one: a fault, or threads -/
theorem kernel_any (s : ByteArray) (w : World) (hs : s.size ≤ 8192) :
    Calls Tryz.prog 9 #[.string s] w fun e w' => ∃ tv, e = .returned (.tuple #[.agg #[tv], .int .i64 (P.kernel s.toList).2.1, .int .i64 (P.kernel s.toList).2.2]) ∧ (∃ a m c, tv = .slice a m c) ∧
      ((P.kernel s.toList).2.1 = 0 → ∃ bt tc, tv = .slice (some ⟨bt, 0, none⟩) (P.kernel s.toList).1.length tc ∧ ThreadsAt w' w.heap.size tv (P.kernel s.toList).1 ∧ (P.kernel s.toList).1.length ≤ 4 ∧ (∀ t ∈ (P.kernel s.toList).1, t.stmts.length < 3000) ∧ ∀ t ∈ (P.kernel s.toList).1, 0 ≤ t.block ∧ t.block < 100 ∧ ∀ x ∈ t.stmts, P.Small x) ∧ Below w.heap.size w w' := by
  unfold P.kernel
  rw [size_toList]
  by_cases h1 : 2000 < s.size
  · rw [if_pos h1]
    refine (kernel_long s w hs h1).mono ?_
    rintro e w' ⟨rfl, hb⟩
    exact ⟨_, rfl, ⟨_, _, _, rfl⟩, fun h => by simp at h, hb⟩
  rw [if_neg h1]
  cases h2 : ((P.lines s.toList).2 != 0)
  rotate_left
  · refine (kernel_line2 s w hs (by omega) h2).mono ?_
    rintro e w' ⟨rfl, hb⟩
    exact ⟨_, rfl, ⟨_, _, _, rfl⟩, fun h => by simp at h, hb⟩
  simp only [Bool.false_eq_true, if_false]
  cases h3 : (P.innerB (P.lines s.toList).1 != 0)
  rotate_left
  · refine (kernel_inner s w hs (by omega) h2 h3).mono ?_
    rintro e w' ⟨rfl, hb⟩
    exact ⟨_, rfl, ⟨_, _, _, rfl⟩, fun h => by simp at h, hb⟩
  simp only [Bool.false_eq_true, if_false]
  cases h4 : (P.unevenIn (P.lines s.toList).1 (P.lines s.toList).1 != 0)
  rotate_left
  · refine (kernel_uneven s w hs (by omega) h2 h3 h4).mono ?_
    rintro e w' ⟨rfl, hb⟩
    exact ⟨_, rfl, ⟨_, _, _, rfl⟩, fun h => by simp at h, hb⟩
  simp only [Bool.false_eq_true, if_false]
  cases h5 : P.over (P.lines s.toList).1
  rotate_left
  · refine (kernel_over s w hs (by omega) h2 h3 h4 h5).mono ?_
    rintro e w' ⟨rfl, hb⟩
    exact ⟨_, rfl, ⟨_, _, _, rfl⟩, fun h => by simp at h, hb⟩
  · refine (kernel_ok s w hs (by omega) h2 h3 h4 h5).mono ?_
    rintro e w' ⟨bt, tc, rfl, hth, hb⟩
    obtain ⟨_, k2, k3⟩ := P.lines_ok s.toList (by simpa using h2)
    exact ⟨_, rfl, ⟨_, _, _, rfl⟩, fun _ => ⟨bt, tc, rfl, hth, k2, fun t ht => by have := k3 t ht; rw [size_toList] at this; omega, P.lines_small s.toList⟩, hb⟩

end Go.Proofs.YtpkjmdcabdplfaaGreatDoor

namespace Go.Proofs.YtpkjmdcabdplfaaGreatDoor
open Go Go.RowKit
set_option maxRecDepth 100000

set_option maxHeartbeats 1600000 in
theorem compile_any (s : ByteArray) (w : World) (hs : s.size ≤ 8192) :
    Calls Tryz.prog 6 #[.string s, .int .i64 0] w fun e w' => ∃ t, e = .returned (.tuple #[.string t, .int .i64 (P.compile s.toList).2.1, .int .i64 (P.compile s.toList).2.2]) ∧ Txt 10000000 t (P.compile s.toList).1 ∧ Below w.heap.size w w' := by
  cases hf : ((P.kernel s.toList).2.1 != 0)
  · have hf0 : (P.kernel s.toList).2.1 = 0 := by simpa using hf
    have HE : Hid (P.compile s.toList = (P.write (P.kernel s.toList).1, 0, 0)) := by unfold Hid P.compile; rw [hf]; rfl
    go_enter Tryz.func6, Tryz.ntmps6
    go_wp2_with (first
      | (go_at_call 9; refine (kernel_any s _ hs).mono ?_; rintro e w1 ⟨tv, rfl, h1, h2, hb⟩; obtain ⟨bt, tc, rfl, hth, k1, k2, k3⟩ := h2 hf0; have HT := hide hth; have HK2 := hide k2; have HK3 := hide k3; clear hth k2 k3 h2)
      | (go_at_call 12; refine (write_any w.heap.size bt _ tc (P.kernel s.toList).1 _ (by exact HT.out.keep (fun k hk => Below.heap_alloc _ _ _ hk)) rfl (by omega) (fun t ht => Nat.lt_trans (HK2.out t ht) (by decide)) HK3.out).mono ?_; rintro e w2 ⟨t, rfl, ht, hb2⟩))
    go_ret3
    rw [HE.out]
    exact ⟨t, rfl, ht, (hb.alloc hb.size _).trans (hb2.mono (by have := hb.size; simp; omega))⟩
  · have HE : Hid (P.compile s.toList = ([], (P.kernel s.toList).2.1, (P.kernel s.toList).2.2)) := by unfold Hid P.compile; rw [hf]; rfl
    go_enter Tryz.func6, Tryz.ntmps6
    go_wp2_with (first
      | (go_at_call 9; refine (kernel_any s _ hs).mono ?_; rintro e w1 ⟨tv, rfl, ⟨ta, tm, tc, rfl⟩, h2, hb⟩; clear h2))
    go_ret3
    rw [HE.out]
    exact ⟨_, rfl, ⟨by rw [lit_toList], by simp [lit_size]⟩, hb.alloc hb.size _⟩
end Go.Proofs.YtpkjmdcabdplfaaGreatDoor
