import Derived.Test.YtpkjmdcabdplfaaGreatDoorA26
set_option linter.unusedVariables false
set_option linter.unusedSimpArgs false
namespace Go.Proofs.YtpkjmdcabdplfaaGreatDoor
open Go Go.RowKit
set_option maxRecDepth 100000

namespace R
def pLoad : Lh → Bool := numP [108, 111, 97, 100] []
def pStore : Lh → Bool := numP [115, 116, 111, 114, 101] []
def pAdd : Lh → Bool := numP [97, 100, 100] []
def pSwap : Lh → Bool := numP [115, 119, 97, 112] []
def pFence : Lh → Bool := numP [102, 101, 110, 99, 101] [115, 99]

theorem isR_num (l : List Tree) : numL isR l = numL pLoad l + numL pAdd l + numL pSwap l := by
  have h1 := (num_split isR pLoad (fun x => pAdd x || pSwap x) (fun x => by
    simp only [isR, pLoad, pAdd, pSwap, numP, List.isEmpty_nil, Bool.true_or, Bool.and_true, sLoad, lit_toList, lAdd, lSwap]
    by_cases h : x.op.toList = [108, 111, 97, 100]
    · rw [h]; decide
    · simp [h])).2 l
  have h2 := (num_split (fun x => pAdd x || pSwap x) pAdd pSwap (fun x => by
    simp only [pAdd, pSwap, numP, List.isEmpty_nil, Bool.true_or, Bool.and_true]
    by_cases h : x.op.toList = [97, 100, 100]
    · rw [h]; decide
    · simp [h])).2 l
  rw [h1, h2]; omega
theorem isW_num (l : List Tree) : numL isW l = numL pStore l + numL pAdd l + numL pSwap l := by
  have h1 := (num_split isW pStore (fun x => pAdd x || pSwap x) (fun x => by
    simp only [isW, pStore, pAdd, pSwap, numP, List.isEmpty_nil, Bool.true_or, Bool.and_true, sStore, lit_toList, lAdd, lSwap]
    by_cases h : x.op.toList = [115, 116, 111, 114, 101]
    · rw [h]; decide
    · simp [h])).2 l
  have h2 := (num_split (fun x => pAdd x || pSwap x) pAdd pSwap (fun x => by
    simp only [pAdd, pSwap, numP, List.isEmpty_nil, Bool.true_or, Bool.and_true]
    by_cases h : x.op.toList = [97, 100, 100]
    · rw [h]; decide
    · simp [h])).2 l
  rw [h1, h2]; omega
theorem isF_num : isF = pFence := by
  funext x
  simp [isF, pFence, numP, sFence, lit_toList, oS]
theorem isB_num : isB = numP [98, 97, 114, 114, 105, 101, 114] [] := by
  funext x
  simp [isB, numP, sBarrier, lit_toList]
end R

/-- what a thread's cells hold, and what number tells of its lines -/
theorem ThsAt.get {w : World} {B bt n cap : Nat} {ts : List R.Th} {vs : List Value} {Fs : List (List Nat)} (h : ThsAt w B (.slice (some ⟨bt, 0, none⟩) n cap) ts vs Fs) (hn : n = ts.length) (hs : ∀ t ∈ ts, R.sizeL t.body < 10000) (k : Nat) (hk : k < ts.length) :
    bt < w.heap.size ∧ ∃ u, w.cell? ⟨bt, k * 3, none⟩ = some (.int .i64 ts[k].block) ∧ w.cell? ⟨bt, k * 3 + 1, none⟩ = some u ∧ w.cell? ⟨bt, k * 3 + 2, none⟩ = some (.int .i64 ts[k].row) ∧
      Hid (∀ (op ord : ByteArray) (w2 : World), Below w.heap.size w w2 → Calls Tryz.prog 35 #[u, .string op, .string ord] w2 fun e w' => e = .returned (.int .i64 (R.numL (R.numP op.toList ord.toList) ts[k].body)) ∧ Below w2.heap.size w2 w') := by
  have hv : k < vs.length := by rw [h.lv]; exact hk
  have hF : k < Fs.length := by rw [h.lF]; exact hk
  have ho := h.own
  rw [← hn] at ho
  obtain ⟨c0, c1, c2⟩ := thCells_at ts vs h.lv k ts[k] vs[k] (by simp [hk]) (by simp [hv])
  refine ⟨(ho.lt bt rfl).2, vs[k], ?_, ?_, ?_, ?_⟩
  · rw [ho.cellAt _ (by omega)]; exact c0
  · rw [ho.cellAt _ (by omega)]; exact c1
  · rw [ho.cellAt _ (by omega)]; exact c2
  · intro op ord w2 hb
    have L := h.kid k ts[k] vs[k] Fs[k] (by simp [hk]) (by simp [hv]) (by simp [hF])
    refine (number_any op ord L (hs _ (List.getElem_mem hk)) w2 (fun j hj => hb.block j (L.bound j hj).2)).mono ?_
    rintro e w' ⟨rfl, h2⟩
    exact ⟨rfl, h2⟩

set_option maxHeartbeats 3200000 in
theorem within_any (B bt n cap : Nat) (ts : List R.Th) (vs : List Value) (Fs : List (List Nat)) (w : World) (h : ThsAt w B (.slice (some ⟨bt, 0, none⟩) n cap) ts vs Fs) (hn : n = ts.length) (hnb : n < 10) (hs : ∀ t ∈ ts, R.sizeL t.body < 10000) :
    Calls Tryz.prog 18 #[.slice (some ⟨bt, 0, none⟩) n cap] w fun e w' => e = .returned (.bool (R.within ts)) ∧ Below w.heap.size w w' := by
  have HA := hide h
  have HN := hide hn
  have HS := hide hs
  clear h hn hs
  go_enter Tryz.func18, Tryz.ntmps18
  go_wp2
  go_loopw [3, 4, 5, 6] (fun a b c i wr => ∃ k : Nat, k ≤ n ∧ i = .int .i64 k ∧ a = .int .i64 (R.totT R.isR (ts.take k)) ∧ b = .int .i64 (R.totT R.isW (ts.take k)) ∧ c = .int .i64 (R.totT R.isF (ts.take k)) ∧ Below w.heap.size w wr) (fun _ _ _ i _ => n - (intOf i).toNat)
  case atStart => exact ⟨0, Nat.zero_le _, rfl, rfl, rfl, rfl, Below.refl _ _⟩
  case round =>
    obtain ⟨k, hk, rfl, rfl, rfl, rfl, hbel⟩ := hrel
    have hsk : ∀ t ∈ ts.take k, R.sizeL t.body < 10000 := fun t ht => HS.out t (List.mem_of_mem_take ht)
    have hlk : ((ts.take k).length : Int) ≤ 10 := by have := List.length_take_le k ts; omega
    have b1 : 0 ≤ R.totT R.isR (ts.take k) ∧ R.totT R.isR (ts.take k) ≤ 100000 := by have := R.totT_bd R.isR _ hsk; omega
    have b2 : 0 ≤ R.totT R.isW (ts.take k) ∧ R.totT R.isW (ts.take k) ≤ 100000 := by have := R.totT_bd R.isW _ hsk; omega
    have b3 : 0 ≤ R.totT R.isF (ts.take k) ∧ R.totT R.isF (ts.take k) ≤ 100000 := by have := R.totT_bd R.isF _ hsk; omega
    by_cases hlt : k < n
    · have hkl : k < ts.length := by rw [← HN.out]; exact hlt
      obtain ⟨hbt, u, c0, c1, c2, HC⟩ := HA.out.get HN.out HS.out k hkl
      have d1 := (hbel.cell (p := ⟨bt, k * 3 + 1, none⟩) hbt).trans c1
      have s1 := R.totT_snoc R.isR ts k hkl
      have s2 := R.totT_snoc R.isW ts k hkl
      have s3 := R.totT_snoc R.isF ts k hkl
      rw [R.isR_num] at s1
      rw [R.isW_num] at s2
      rw [R.isF_num] at s3
      have hz := HS.out ts[k] (List.getElem_mem hkl)
      unfold R.sizeL at hz
      have e1 := R.numL_bd R.pLoad ts[k].body
      have e2 := R.numL_bd R.pStore ts[k].body
      have e3 := R.numL_bd R.pAdd ts[k].body
      have e4 := R.numL_bd R.pSwap ts[k].body
      have e5 := R.numL_bd R.pFence ts[k].body
      obtain ⟨NN, hNN⟩ : ∃ f : ByteArray → ByteArray → Int, ∀ op ord, f op ord = R.numL (R.numP op.toList ord.toList) ts[k].body := ⟨_, fun _ _ => rfl⟩
      have HC' : Hid (∀ (op ord : ByteArray) (w2 : World), Below w.heap.size w w2 → Calls Tryz.prog 35 #[u, .string op, .string ord] w2 fun e w' => e = .returned (.int .i64 (NN op ord)) ∧ Below w.heap.size w w') := fun op ord w2 hb => by
        rw [hNN]
        refine (HC.out op ord w2 hb).mono ?_
        rintro e w' ⟨rfl, h2⟩
        exact ⟨rfl, hb.trans (h2.mono hb.size)⟩
      have N1 : R.numL R.pLoad ts[k].body = NN ⟨#[108, 111, 97, 100]⟩ ⟨#[]⟩ := by rw [hNN, lit_toList, lit_toList]; rfl
      have N2 : R.numL R.pStore ts[k].body = NN ⟨#[115, 116, 111, 114, 101]⟩ ⟨#[]⟩ := by rw [hNN, lit_toList, lit_toList]; rfl
      have N3 : R.numL R.pAdd ts[k].body = NN ⟨#[97, 100, 100]⟩ ⟨#[]⟩ := by rw [hNN, lit_toList, lit_toList]; rfl
      have N4 : R.numL R.pSwap ts[k].body = NN ⟨#[115, 119, 97, 112]⟩ ⟨#[]⟩ := by rw [hNN, lit_toList, lit_toList]; rfl
      have N5 : R.numL R.pFence ts[k].body = NN ⟨#[102, 101, 110, 99, 101]⟩ ⟨#[115, 99]⟩ := by rw [hNN, lit_toList, lit_toList]; rfl
      rw [N1] at e1 s1
      rw [N2] at e2 s2
      rw [N3] at e3 s1 s2
      rw [N4] at e4 s1 s2
      rw [N5] at e5 s3
      have f1 : 0 ≤ NN ⟨#[108, 111, 97, 100]⟩ ⟨#[]⟩ ∧ NN ⟨#[108, 111, 97, 100]⟩ ⟨#[]⟩ < 10000 := by omega
      have f2 : 0 ≤ NN ⟨#[115, 116, 111, 114, 101]⟩ ⟨#[]⟩ ∧ NN ⟨#[115, 116, 111, 114, 101]⟩ ⟨#[]⟩ < 10000 := by omega
      have f3 : 0 ≤ NN ⟨#[97, 100, 100]⟩ ⟨#[]⟩ ∧ NN ⟨#[97, 100, 100]⟩ ⟨#[]⟩ < 10000 := by omega
      have f4 : 0 ≤ NN ⟨#[115, 119, 97, 112]⟩ ⟨#[]⟩ ∧ NN ⟨#[115, 119, 97, 112]⟩ ⟨#[]⟩ < 10000 := by omega
      have f5 : 0 ≤ NN ⟨#[102, 101, 110, 99, 101]⟩ ⟨#[115, 99]⟩ ∧ NN ⟨#[102, 101, 110, 99, 101]⟩ ⟨#[115, 99]⟩ < 10000 := by omega
      clear HC c0 c1 c2 N1 N2 N3 N4 N5 hNN
      have S1 := hide s1
      have S2 := hide s2
      have S3 := hide s3
      clear s1 s2 s3 e1 e2 e3 e4 e5 hz
      rw [R.isF_num] at *
      generalize R.totT R.isR (ts.take k) = t1 at *
      generalize R.totT R.isW (ts.take k) = t2 at *
      generalize R.totT R.pFence (ts.take k) = t3 at *
      have hin : (k : Int) < (n : Int) := by omega
      go_wp2_with (first | (go_at_call 35; refine (HC'.out _ _ _ (by assumption)).mono ?_; rintro e w1 ⟨rfl, hb1⟩))
      go_roundw
      case rel => exact ⟨k + 1, by omega, by go_num, by rw [S1.out]; congr 1; omega, by rw [S2.out]; congr 1; omega, by rw [S3.out], by assumption⟩
      case measure => simp [intOf]; omega
    · have hkn : k = n := by omega
      subst hkn
      have HT : Hid (ts.take k = ts) := List.take_of_length_le (by have := HN.out; omega)
      rw [HT.out] at *
      have HW : Hid (R.within ts = (decide (R.totT R.isR ts ≤ 4) && decide (R.totT R.isW ts ≤ 3) && decide (R.totT R.isF ts ≤ 3))) := rfl
      generalize R.totT R.isR ts = t1 at *
      generalize R.totT R.isW ts = t2 at *
      generalize R.totT R.isF ts = t3 at *
      by_cases g1 : t1 ≤ 4
      · by_cases g2 : t2 ≤ 3
        · by_cases g3 : t3 ≤ 3
          · go_wp2
            go_ret
            rw [HW.out]; simp [g1, g2, g3]; exact hbel
          · go_wp2
            go_ret
            rw [HW.out]; simp [g1, g2, g3]; exact hbel
        · go_wp2
          go_ret
          rw [HW.out, decide_eq_false (show ¬ t2 ≤ 3 by omega)]; simp; exact hbel
      · go_wp2
        go_ret
        rw [HW.out, decide_eq_false (show ¬ t1 ≤ 4 by omega)]; simp; exact hbel
end Go.Proofs.YtpkjmdcabdplfaaGreatDoor
