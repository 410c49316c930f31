import Derived.Test.YtpkjmdcabdplfaaGreatDoorA02
import Derived.Test.YtpkjmdcabdplfaaGreatDoorA07
import Derived.Test.YtpkjmdcabdplfaaGreatDoorA01
set_option linter.unusedVariables false
set_option linter.unusedSimpArgs false
namespace Go.Proofs.YtpkjmdcabdplfaaGreatDoor
open Go Go.RowKit
set_option maxRecDepth 100000

theorem cut_same (c : UInt8) (s : ByteArray) (k : Nat) (bs : List ByteArray) (cur : ByteArray) (hk : k < s.size) (h : P.splitAt c (s.toList.take k) = (bs ++ [cur]).map ByteArray.toList) (hc : s[k] = c) :
    P.splitAt c (s.toList.take (k + 1)) = (bs ++ [cur] ++ [(⟨#[]⟩ : ByteArray)]).map ByteArray.toList := by
  rw [take_snoc s k hk, P.splitAt_snoc _ _ _ (bs.map ByteArray.toList) cur.toList (by simpa using h), if_pos hc]
  simp [lit_toList]
theorem cut_more (c : UInt8) (s : ByteArray) (k : Nat) (bs : List ByteArray) (cur : ByteArray) (hk : k < s.size) (h : P.splitAt c (s.toList.take k) = (bs ++ [cur]).map ByteArray.toList) (hc : ¬ s[k] = c) :
    P.splitAt c (s.toList.take (k + 1)) = (bs ++ [cur ++ s.extract k (k + 1)]).map ByteArray.toList := by
  rw [take_snoc s k hk, P.splitAt_snoc _ _ _ (bs.map ByteArray.toList) cur.toList (by simpa using h), if_neg hc]
  have : (s.extract k (k + 1)).toList = [s[k]] := by
    rw [extract_toList, take_snoc s k hk, List.drop_append_of_le_length (by rw [List.length_take, size_toList]; omega), List.drop_of_length_le (by rw [List.length_take, size_toList]; omega)]; rfl
  simp [app_toList, this]

theorem byte_cmp (a c : UInt8) : ((a.toNat : Int) == (c.toNat : Int)) = decide (a = c) := by
  rw [Bool.eq_iff_iff]; simp [← UInt8.toNat_inj]; omega

theorem set_last {w : World} {B g n cap : Nat} {e : TypeId} {xs : List Value} {x y : Value} (h : w.ownsRow B e 1 (.slice (some ⟨g, 0, none⟩) (n + 1) cap) (n + 1) (xs ++ [x])) : (w.setCell ⟨g, n, none⟩ y).ownsRow B e 1 (.slice (some ⟨g, 0, none⟩) (n + 1) cap) (n + 1) (xs ++ [y]) := by
  have h1 := (h.stored n y).1
  have hl : xs.length = n := by have := h.1; simp at this; omega
  have : (xs ++ [x]).set n y = xs ++ [y] := by rw [List.set_append_right _ _ (by omega), hl, Nat.sub_self]; rfl
  rw [this] at h1; exact h1

set_option maxHeartbeats 3200000 in
theorem cut_any (s : ByteArray) (c : UInt8) (w : World) (hs : s.size ≤ 8192) :
    Calls Tryz.prog 13 #[.string s, .int .u8 (c.toNat : Int)] w fun e w' => ∃ g cap n d rs, e = .returned (.slice (some ⟨g, 0, none⟩) n cap) ∧ Hid (d.toList :: rs.map ByteArray.toList = P.splitAt c s.toList) ∧ w'.ownsRow w.heap.size 9 1 (.slice (some ⟨g, 0, none⟩) n cap) n ((d :: rs).map Value.string) ∧ rs.length = n - 1 ∧ 1 ≤ n ∧ n < 10000 ∧ Below w.heap.size w w' := by
  obtain ⟨i0, hi, hz0, hz1, hz2⟩ := info_parts Tryz.infoStr
  have hcb : c.toNat < 256 := UInt8.toNat_lt c
  go_enter Tryz.func13, Tryz.ntmps13
  go_wp2
  go_loopw [5, 6] (fun v i wr => ∃ k n g cap : Nat, ∃ bs : List ByteArray, ∃ cur : ByteArray, k ≤ s.size ∧ i = .int .i64 k ∧ v = .slice (some ⟨g, 0, none⟩) (n + 1) cap ∧ bs.length = n ∧ n ≤ k ∧ cur.size ≤ k ∧ Hid (P.splitAt c (s.toList.take k) = (bs ++ [cur]).map ByteArray.toList) ∧ wr.ownsRow w.heap.size 9 1 (.slice (some ⟨g, 0, none⟩) (n + 1) cap) (n + 1) (bs.map Value.string ++ [.string cur]) ∧ Below w.heap.size w wr) (fun _ i _ => s.size - (intOf i).toNat)
  case atStart =>
    refine ⟨0, 0, w.heap.size, 1, [], ⟨#[]⟩, Nat.zero_le _, rfl, rfl, rfl, Nat.le_refl _, by simp [lit_size], by unfold Hid; simp [P.splitAt, lit_toList], ?_, (Below.refl _ _).alloc (Nat.le_refl _) _⟩
    refine ⟨by simp, .inr ⟨w.heap.size, 1, #[.string ⟨#[]⟩], rfl, Nat.le_refl _, heap_alloc_new w _, by omega, by unfold maxLen; omega, rfl, rfl⟩⟩
  case round =>
    obtain ⟨k, n, g, cap, bs, cur, hk, rfl, rfl, hbl, hnk, hcs, HS, hown, hbel⟩ := hrel
    have HBL := hide hbl
    clear hbl
    have hws := hbel.size
    by_cases hlt : k < s.size
    · by_cases hc : s[k] = c
      · have hc' : ((s[k].toNat : Int) == (c.toNat : Int)) = true := by rw [byte_cmp]; simpa using hc
        have HR := hide (cut_same c s k bs cur hlt HS.out hc)
        clear hc
        go_wp2_with (first
          | (at_builtin; refine wpList_append_lies _ rfl (.tmp 20) (.tmp 21) 40 rfl w.heap.size 9 i0 (.string ByteArray.empty) 1 16 Tryz.underlying40 hi hz0 hz1 hz2 rfl (by decide) _ _ _ rfl (hown.alloc _) ⟨wr.heap.size, 0, none⟩ 1 1 [.string ⟨#[]⟩] rfl rfl ?c1 ?c2 (by decide) ?c3 ?c4 ?c5 _ rfl ?_))
        case c1 =>
          intro j u hj
          match j, hj with
          | 0, hj => simp at hj; subst hj; simp [Addr.add]
        case c2 => intro u hu; simp at hu; subst hu; rfl
        case c3 => unfold maxLen; omega
        case c4 => omega
        case c5 => simp; omega
        intro gn cn w1 hown' hgrow hat hglt
        have hb1 : Below w.heap.size w w1 := (hbel.alloc hws _).grown hgrow (by simp; omega) (fun j hj => (hown.lt j hj).1)
        clear hgrow hat HS
        go_wp2
        go_roundw
        case rel => exact ⟨k + 1, n + 1, gn, cn, bs ++ [cur], ⟨#[]⟩, by omega, by go_num, rfl, by have := HBL.out; simp; omega, by omega, by simp [lit_size], HR, by simpa using hown', hb1⟩
        case measure => simp [intOf]; omega
      · have hc' : ((s[k].toNat : Int) == (c.toNat : Int)) = false := by rw [byte_cmp]; simpa using hc
        have HR := hide (cut_more c s k bs cur hlt HS.out hc)
        have hcell : wr.cell? ⟨g, n, none⟩ = some (.string cur) := by
          rw [hown.cellAt n (by omega), List.getElem?_append_right (by rw [List.length_map, HBL.out]; exact Nat.le_refl _), List.length_map, HBL.out]; simp
        have hfro := hown.frozenAt n
        have hglt : g < wr.heap.size := (hown.lt g rfl).2
        have hin : (n : Int) < (n : Int) + 1 := by omega
        have hex : (s.extract k (k + 1)).size ≤ 1 := by simp [ByteArray.size_extract]; omega
        have HOW := hide (set_last (y := .string (cur ++ s.extract k (k + 1))) hown)
        have hBg : w.heap.size ≤ g := (hown.lt g rfl).1
        have hsl : ∀ w, (Instr.slice 9 (.string s) (some (.int .i64 (k : Int))) (some (.int .i64 ((k : Int) + 1))) none).run Tryz.prog w = .ok (.string (s.extract k (k + 1))) w := fun w => by
          rw [run_slice_string w 9 s .i64 .i64 _ _ Tryz.underlying9 (by omega) (by omega) (by omega), show ((k : Int)).toNat = k by omega, show ((k : Int) + 1).toNat = k + 1 by omega]
        have hwr : IntKind.i64.wrap ((k : Int) + 1) = (k : Int) + 1 := by rw [IntKind.wrap_i64]; omega
        clear HS hown hc
        go_wp2
        go_region
        all_goals go_wp2
        all_goals go_roundw
        case rel => exact ⟨k + 1, n, g, cap, bs, cur ++ s.extract k (k + 1), by omega, by go_num, rfl, HBL.out, by omega, by simp; omega, HR, HOW.out.drew, (hbel.setCell hBg _).drew⟩
        case measure => simp [intOf]; omega
    · have hks : k = s.size := by omega
      subst hks
      have HS2 : Hid (P.splitAt c s.toList = (bs ++ [cur]).map ByteArray.toList) := by
        unfold Hid
        have := HS.out
        rw [List.take_of_length_le (by rw [size_toList]; exact Nat.le_refl _)] at this
        exact this
      have hl := HBL.out
      clear HBL
      go_wp2
      go_ret
      obtain ⟨d, rs, hd⟩ : ∃ d rs, bs ++ [cur] = d :: rs := by
        cases bs with
        | nil => exact ⟨cur, [], rfl⟩
        | cons a r => exact ⟨a, r ++ [cur], rfl⟩
      refine ⟨g, cap, n + 1, d, rs, rfl, ?_, ?_, ?_, by omega, by omega, hbel⟩
      · unfold Hid; rw [HS2.out, hd]; rfl
      · rw [← hd]; simpa using hown
      · have := congrArg List.length hd; simp at this; omega
end Go.Proofs.YtpkjmdcabdplfaaGreatDoor

namespace Go.Proofs.YtpkjmdcabdplfaaGreatDoor
open Go Go.RowKit
set_option maxRecDepth 100000

namespace R
def idxFrom (w : List UInt8) (k : Int) : List (List UInt8) → Int
  | [] => -1
  | x :: r => if x == w && w != [] then k else idxFrom w (k + 1) r
def inn (w l : List UInt8) : Int := idxFrom w 0 (P.splitAt 32 l)
theorem idx_bd (w : List UInt8) (l : List (List UInt8)) : ∀ k, idxFrom w k l = -1 ∨ (k ≤ idxFrom w k l ∧ idxFrom w k l < k + l.length) := by
  induction l with
  | nil => intro k; left; rfl
  | cons x r ih =>
    intro k
    simp only [idxFrom]
    split
    · right; simp; omega
    · rcases ih (k + 1) with h | h
      · left; exact h
      · right; simp at h ⊢; omega
end R

theorem own_words2 {w : World} {B g cap n : Nat} {ws : List ByteArray} (h : w.ownsRow B 9 1 (.slice (some ⟨g, 0, none⟩) n cap) n (ws.map Value.string)) (hn : ws.length = n) : WordsAt w g 0 ws ∧ n ≤ cap ∧ g < w.heap.size := by
  subst hn; exact own_words h

theorem WordsAt.get {w : World} {b off : Nat} {ws : List ByteArray} (h : WordsAt w b off ws) (k : Nat) (hk : k < ws.length) : w.cell? ⟨b, off + k, none⟩ = some (.string ws[k]) := h k _ (List.getElem?_eq_getElem hk)

set_option maxHeartbeats 3200000 in
theorem in_any (v l : ByteArray) (w : World) (hs : l.size ≤ 8192) :
    Calls Tryz.prog 14 #[.string v, .string l] w fun e w' => e = .returned (.int .i64 (R.inn v.toList l.toList)) ∧ Below w.heap.size w w' := by
  go_enter Tryz.func14, Tryz.ntmps14
  go_wp2_with (first | (go_at_call 13; refine (cut_any l 32 _ hs).mono ?_; rintro e w1 ⟨g, cap, n, d, rs, rfl, HW, hown, hrn, hn1, hnb, hb1⟩; obtain ⟨hwa, hnc, hglt⟩ := own_words2 hown (by simp; omega); have HWA := hide hwa; have HRN : Hid ((d :: rs).length = n) := (by simp [Hid]; omega); clear hown hwa hrn))
  go_loopw [6] (fun i wr => ∃ k : Nat, k ≤ n ∧ i = .int .i64 k ∧ Hid (R.inn v.toList l.toList = R.idxFrom v.toList k (((d :: rs).map ByteArray.toList).drop k)) ∧ wr = w1) (fun i _ => n - (intOf i).toNat)
  case atStart => exact ⟨0, Nat.zero_le _, rfl, by unfold Hid R.inn; rw [← HW.out]; rfl, rfl⟩
  case round =>
    obtain ⟨k, hk, rfl, HI, rfl⟩ := hrel
    by_cases hlt : k < n
    · have hkl : k < (d :: rs).length := by rw [HRN.out]; exact hlt
      have hc := HWA.out.get k hkl
      rw [Nat.zero_add] at hc
      have HD := hide (P.drop_cons ((d :: rs).map ByteArray.toList) k (by simpa using hkl))
      have HX : Hid (((d :: rs).map ByteArray.toList).drop k = ((d :: rs)[k]).toList :: ((d :: rs).map ByteArray.toList).drop (k + 1)) := by
        have := HD.out; unfold Hid; rw [this, List.getElem_map]
      generalize hx : (d :: rs)[k] = x at *
      clear hx HD hkl
      have hin : (k : Int) < (n : Int) := by omega
      by_cases e1 : x.toList = v.toList
      · cases e2 : v.toList.isEmpty
        · have HI' : Hid (R.inn v.toList l.toList = (k : Int)) := by
            have hv : v.toList ≠ [] := by simpa using e2
            unfold Hid; rw [HI.out, HX.out, R.idxFrom, if_pos (by simp [e1, hv])]
          clear HX
          go_wp2
          go_ret
          rw [HI'.out]
          exact ⟨rfl, hb1⟩
        · have HI' : Hid (R.inn v.toList l.toList = R.idxFrom v.toList ((k + 1 : Nat) : Int) (((d :: rs).map ByteArray.toList).drop (k + 1))) := by
            unfold Hid; rw [HI.out, HX.out, R.idxFrom, if_neg (by simp [List.isEmpty_iff.1 e2])]; rfl
          clear HX
          go_wp2
          go_roundw
          case rel => exact ⟨k + 1, by omega, by go_num, HI', trivial⟩
          case measure => simp [intOf]; omega
      · have HI' : Hid (R.inn v.toList l.toList = R.idxFrom v.toList ((k + 1 : Nat) : Int) (((d :: rs).map ByteArray.toList).drop (k + 1))) := by
          unfold Hid; rw [HI.out, HX.out, R.idxFrom, if_neg (by simp [e1])]; rfl
        clear HX
        go_wp2
        go_roundw
        case rel => exact ⟨k + 1, by omega, by go_num, HI', trivial⟩
        case measure => simp [intOf]; omega
    · have HI' : Hid (R.inn v.toList l.toList = -1) := by
        unfold Hid; rw [HI.out, List.drop_eq_nil_of_le (by have := HRN.out; simp at this ⊢; omega)]; rfl
      go_wp2
      go_ret
      rw [HI'.out]
      exact ⟨rfl, hb1⟩

namespace R
def regs : List UInt8 := [114, 48, 32, 114, 49, 32, 114, 50, 32, 114, 51]
def nums : List UInt8 := [48, 32, 49, 32, 50, 32, 51]
def vars : List UInt8 := [120, 32, 121, 32, 122]
def scopes : List UInt8 := [98, 108, 111, 99, 107, 32, 100, 101, 118, 105, 99, 101]
def signs : List UInt8 := [43, 32, 45, 32, 61, 61]
def opd (v : List UInt8) : Int × Bool := if 0 ≤ inn v regs then (-1 - inn v regs, true) else (inn v nums, decide (0 ≤ inn v nums))
theorem inn_bd (v l : List UInt8) : -1 ≤ inn v l ∧ inn v l ≤ l.length := by
  have h := idx_bd v (P.splitAt 32 l) 0
  have h2 := P.splitAt_length 32 l
  unfold inn
  omega
end R

theorem in_lst (v : ByteArray) (L : List UInt8) (a : Array UInt8) (w : World) (h : a.toList = L) (hs : a.size ≤ 8192) :
    Calls Tryz.prog 14 #[.string v, .string ⟨a⟩] w fun e w' => e = .returned (.int .i64 (R.inn v.toList L)) ∧ Below w.heap.size w w' := by
  have := in_any v ⟨a⟩ w hs
  rw [lit_toList a, h] at this
  exact this

set_option maxHeartbeats 800000 in
theorem opdR_any (v : ByteArray) (w : World) :
    Calls Tryz.prog 15 #[.string v] w fun e w' => e = .returned (.tuple #[.int .i64 (R.opd v.toList).1, .bool (R.opd v.toList).2]) ∧ Below w.heap.size w w' := by
  have h1 := R.inn_bd v.toList R.regs
  have h2 := R.inn_bd v.toList R.nums
  have l1 : R.regs.length = 11 := rfl
  have l2 : R.nums.length = 7 := rfl
  rw [l1] at h1
  rw [l2] at h2
  have HO : Hid (R.opd v.toList = if 0 ≤ R.inn v.toList R.regs then (-1 - R.inn v.toList R.regs, true) else (R.inn v.toList R.nums, decide (0 ≤ R.inn v.toList R.nums))) := rfl
  generalize hr : R.inn v.toList R.regs = r at *
  generalize hn : R.inn v.toList R.nums = n at *
  have HR := hide hr
  have HN := hide hn
  clear hr hn l1 l2
  go_enter Tryz.func15, Tryz.ntmps15
  go_wp2_with fail
  refine (in_lst v R.regs _ _ rfl (by simp)).mono ?_
  rintro e w1 ⟨rfl, hb1⟩
  rw [HR.out]
  go_wp2_with fail
  refine (in_lst v R.nums _ _ rfl (by simp)).mono ?_
  rintro e w2 ⟨rfl, hb2⟩
  rw [HN.out]
  have hbl := hb1.trans (hb2.mono hb1.size)
  by_cases h0 : 0 ≤ r
  · go_wp2
    go_ret2
    rw [HO.out, if_pos h0]
    exact ⟨by simp, hbl⟩
  · go_wp2
    go_ret2
    rw [HO.out, if_neg (by omega)]
    exact ⟨by simp, hbl⟩
end Go.Proofs.YtpkjmdcabdplfaaGreatDoor

namespace Go.Proofs.YtpkjmdcabdplfaaGreatDoor
open Go Go.RowKit
set_option maxRecDepth 100000

namespace R
structure Lh where
  op : ByteArray
  reg : Int
  var : Int
  a : Int
  b : Int
  sign : ByteArray
  ord : ByteArray
  scope : ByteArray

def weak : List UInt8 := [119, 101, 97, 107]
def how (x : Lh) (orders : List UInt8) : List ByteArray → Lh × Bool
  | [] => (x, false)
  | o :: r =>
    if o.toList == weak then ({ x with ord := o }, decide (0 ≤ inn o.toList orders) && r.isEmpty)
    else if inn o.toList orders < 0 then ({ x with ord := o }, false)
    else match r with
      | [s] => ({ x with ord := o, scope := s }, decide (0 ≤ inn s.toList scopes))
      | _ => ({ x with ord := o }, false)
theorem how_weak (x : Lh) (orders : List UInt8) (o : ByteArray) (r : List ByteArray) (h : (o.toList == weak) = true) : how x orders (o :: r) = ({ x with ord := o }, decide (0 ≤ inn o.toList orders) && r.isEmpty) := by simp [how, h]
theorem how_no (x : Lh) (orders : List UInt8) (o : ByteArray) (r : List ByteArray) (h : (o.toList == weak) = false) (h2 : inn o.toList orders < 0) : how x orders (o :: r) = ({ x with ord := o }, false) := by simp [how, h, h2]
theorem how_len (x : Lh) (orders : List UInt8) (o : ByteArray) (r : List ByteArray) (h : (o.toList == weak) = false) (h2 : ¬ r.length = 1) : how x orders (o :: r) = ({ x with ord := o }, false) := by
  match r, h2 with
  | [], _ => simp [how, h]
  | [_], h2 => simp at h2
  | _ :: _ :: _, _ => simp [how, h]
theorem how_two (x : Lh) (orders : List UInt8) (o s : ByteArray) (h : (o.toList == weak) = false) (h2 : 0 ≤ inn o.toList orders) : how x orders [o, s] = ({ x with ord := o, scope := s }, decide (0 ≤ inn s.toList scopes)) := by
  have : ¬ inn o.toList orders < 0 := by omega
  simp [how, h, this]
end R

def lnCells (x : R.Lh) (bv : Value) : Array Value := #[.string x.op, .int .i64 x.reg, .int .i64 x.var, .int .i64 x.a, .int .i64 x.b, .string x.sign, .string x.ord, .string x.scope, bv]

/-- block g holds the line x, with that body. -/
def LnAt (w : World) (g : Nat) (x : R.Lh) (bv : Value) : Prop := w.heap[g]? = some (.cells (lnCells x bv) 49 (0, 0))

theorem LnAt.facts {w : World} {g : Nat} {x : R.Lh} {bv : Value} (h : LnAt w g x bv) : g < w.heap.size ∧ (∀ i, w.frozen? ⟨g, i, none⟩ = false) ∧
    w.cell? ⟨g, 0, none⟩ = some (.string x.op) ∧ w.cell? ⟨g, 1, none⟩ = some (.int .i64 x.reg) ∧ w.cell? ⟨g, 2, none⟩ = some (.int .i64 x.var) ∧ w.cell? ⟨g, 3, none⟩ = some (.int .i64 x.a) ∧ w.cell? ⟨g, 4, none⟩ = some (.int .i64 x.b) ∧
    w.cell? ⟨g, 5, none⟩ = some (.string x.sign) ∧ w.cell? ⟨g, 6, none⟩ = some (.string x.ord) ∧ w.cell? ⟨g, 7, none⟩ = some (.string x.scope) ∧ w.cell? ⟨g, 8, none⟩ = some bv := by
  have h1 : ∀ i, w.cell? ⟨g, i, none⟩ = (lnCells x bv)[i]? := fun i => by unfold LnAt at h; simp [World.cell?, h]
  have h2 : ∀ i, w.frozen? ⟨g, i, none⟩ = false := fun i => by unfold LnAt at h; simp [World.frozen?, h]
  exact ⟨(Array.getElem?_eq_some_iff.1 h).1, h2, h1 0, h1 1, h1 2, h1 3, h1 4, h1 5, h1 6, h1 7, h1 8⟩
theorem LnAt.lt {w : World} {g : Nat} {x : R.Lh} {bv : Value} (h : LnAt w g x bv) : g < w.heap.size := (Array.getElem?_eq_some_iff.1 h).1
theorem LnAt.of_block {w w' : World} {g : Nat} {x : R.Lh} {bv : Value} (h : LnAt w g x bv) (e : w'.heap[g]? = w.heap[g]?) : LnAt w' g x bv := by
  unfold LnAt at *; rw [e]; exact h
theorem LnAt.below {w w' : World} {g : Nat} {x : R.Lh} {bv : Value} (h : LnAt w g x bv) (hb : Below w.heap.size w w') : LnAt w' g x bv := h.of_block (hb.block g h.lt)
theorem LnAt.alloc {w : World} {g : Nat} {x : R.Lh} {bv : Value} (h : LnAt w g x bv) (o : Obj) : LnAt (w.alloc o) g x bv := h.of_block (Below.heap_alloc _ _ _ h.lt)
theorem LnAt.drew {w : World} {g : Nat} {x : R.Lh} {bv : Value} (h : LnAt w g x bv) : LnAt w.drew g x bv := h
theorem LnAt.new (w : World) (x : R.Lh) (bv : Value) : LnAt (w.alloc (.cells (lnCells x bv) 49)) w.heap.size x bv := heap_alloc_new w _
theorem LnAt.set {w : World} {g : Nat} {x : R.Lh} {bv : Value} (y : R.Lh) (h : LnAt w g x bv) (i : Nat) (u : Value) (e : (lnCells x bv).setIfInBounds i u = lnCells y bv) : LnAt (w.setCell ⟨g, i, none⟩ u) g y bv := by
  unfold LnAt at *
  rw [setCell_block h, e]
theorem LnAt.setOp {w : World} {g : Nat} {x : R.Lh} {bv : Value} (h : LnAt w g x bv) (s : ByteArray) : LnAt (w.setCell ⟨g, 0, none⟩ (.string s)) g { x with op := s } bv := h.set _ 0 _ rfl
theorem LnAt.setReg {w : World} {g : Nat} {x : R.Lh} {bv : Value} (h : LnAt w g x bv) (n : Int) : LnAt (w.setCell ⟨g, 1, none⟩ (.int .i64 n)) g { x with reg := n } bv := h.set _ 1 _ rfl
theorem LnAt.setVar {w : World} {g : Nat} {x : R.Lh} {bv : Value} (h : LnAt w g x bv) (n : Int) : LnAt (w.setCell ⟨g, 2, none⟩ (.int .i64 n)) g { x with var := n } bv := h.set _ 2 _ rfl
theorem LnAt.setA {w : World} {g : Nat} {x : R.Lh} {bv : Value} (h : LnAt w g x bv) (n : Int) : LnAt (w.setCell ⟨g, 3, none⟩ (.int .i64 n)) g { x with a := n } bv := h.set _ 3 _ rfl
theorem LnAt.setB {w : World} {g : Nat} {x : R.Lh} {bv : Value} (h : LnAt w g x bv) (n : Int) : LnAt (w.setCell ⟨g, 4, none⟩ (.int .i64 n)) g { x with b := n } bv := h.set _ 4 _ rfl
theorem LnAt.setSign {w : World} {g : Nat} {x : R.Lh} {bv : Value} (h : LnAt w g x bv) (s : ByteArray) : LnAt (w.setCell ⟨g, 5, none⟩ (.string s)) g { x with sign := s } bv := h.set _ 5 _ rfl
theorem LnAt.setOrd {w : World} {g : Nat} {x : R.Lh} {bv : Value} (h : LnAt w g x bv) (s : ByteArray) : LnAt (w.setCell ⟨g, 6, none⟩ (.string s)) g { x with ord := s } bv := h.set _ 6 _ rfl
theorem LnAt.setScope {w : World} {g : Nat} {x : R.Lh} {bv : Value} (h : LnAt w g x bv) (s : ByteArray) : LnAt (w.setCell ⟨g, 7, none⟩ (.string s)) g { x with scope := s } bv := h.set _ 7 _ rfl

set_option maxHeartbeats 1600000 in
theorem how_any (g b off n cap : Nat) (x : R.Lh) (bv : Value) (orders : List UInt8) (oa : Array UInt8) (ws : List ByteArray) (w : World) (hg : LnAt w g x bv) (hw : WordsAt w b off ws) (hn : ws.length = n) (hbg : b ≠ g) (hoa : oa.toList = orders) (hos : oa.size ≤ 8192) :
    Calls Tryz.prog 34 #[.pointer (some ⟨g, 0, none⟩), .slice (some ⟨b, off, none⟩) n cap, .string ⟨oa⟩] w fun e w' => e = .returned (.bool (R.how x orders ws).2) ∧ LnAt w' g (R.how x orders ws).1 bv ∧ w.grownBy w' (some g) := by
  cases ws with
  | nil =>
    simp at hn; subst hn
    go_enter Tryz.func34, Tryz.ntmps34
    go_wp2
    go_ret
    exact ⟨rfl, hg, grown_refl _ _⟩
  | cons o r =>
    obtain ⟨hd, hblt, hw'⟩ := hw.head
    have hnz : ((n : Int) == 0) = false := by simp at hn; simp; omega
    have hi0 : 0 < n := by simp at hn; omega
    have hrl : r.length = n - 1 := by simp at hn; omega
    clear hn
    have HOA := hide hoa
    clear hoa
    have AFT : Hid (∀ w1 : World, Below w.heap.size w w1 → LnAt w1 g x bv ∧ w1.cell? ⟨b, off, none⟩ = some (.string o) ∧ b < w1.heap.size ∧ WordsAt w1 b (off + 1) r) := fun w1 hb1 =>
      ⟨hg.below hb1, (hb1.cell (p := ⟨b, off, none⟩) hblt).trans hd, Nat.lt_of_lt_of_le hblt hb1.size, hw'.below hb1⟩
    cases hwk : (o.toList == R.weak)
    rotate_left
    · have HE := hide (R.how_weak x orders o r hwk)
      have hwk' : (o.toList == [119, 101, 97, 107]) = true := hwk
      have hr1 : ((n : Int) == 1) = r.isEmpty := by
        cases r with
        | nil => simp at hrl; simp; omega
        | cons a q => simp at hrl; simp; omega
      by_cases hk : 0 ≤ R.inn o.toList orders
      · go_enter Tryz.func34, Tryz.ntmps34
        go_wp2_with (first | (go_at_call 14; refine (in_lst o orders oa _ HOA.out hos).mono ?_; rintro e w1 ⟨rfl, hb1⟩; obtain ⟨k1, k2, k3, k4⟩ := AFT.out w1 hb1; obtain ⟨f1, f2, c0, c1, c2, c3, c4, c5, c6, c7, c8⟩ := k1.facts; have K1 := hide k1; clear k1))
        go_ret
        rw [unhide HE]
        exact ⟨by simp [hk], K1.out.setOrd _, grown_setCell (grown_of_below hb1 _) _ _⟩
      · go_enter Tryz.func34, Tryz.ntmps34
        go_wp2_with (first | (go_at_call 14; refine (in_lst o orders oa _ HOA.out hos).mono ?_; rintro e w1 ⟨rfl, hb1⟩; obtain ⟨k1, k2, k3, k4⟩ := AFT.out w1 hb1; obtain ⟨f1, f2, c0, c1, c2, c3, c4, c5, c6, c7, c8⟩ := k1.facts; have K1 := hide k1; clear k1))
        go_ret
        rw [unhide HE]
        have hk' : ¬ 0 ≤ R.inn o.toList orders := by omega
        exact ⟨by simp [hk'], K1.out.setOrd _, grown_setCell (grown_of_below hb1 _) _ _⟩
    have hwk' : (o.toList == [119, 101, 97, 107]) = false := hwk
    by_cases hk : R.inn o.toList orders < 0
    · have HE := hide (R.how_no x orders o r hwk hk)
      go_enter Tryz.func34, Tryz.ntmps34
      go_wp2_with (first | (go_at_call 14; refine (in_lst o orders oa _ HOA.out hos).mono ?_; rintro e w1 ⟨rfl, hb1⟩; obtain ⟨k1, k2, k3, k4⟩ := AFT.out w1 hb1; obtain ⟨f1, f2, c0, c1, c2, c3, c4, c5, c6, c7, c8⟩ := k1.facts; have K1 := hide k1; clear k1))
      go_ret
      rw [unhide HE]
      exact ⟨rfl, K1.out.setOrd _, grown_setCell (grown_of_below hb1 _) _ _⟩
    have hk0 : 0 ≤ R.inn o.toList orders := by omega
    have hkd : decide (R.inn o.toList orders < 0) = false := decide_eq_false hk
    by_cases h2 : n = 2
    · subst h2
      obtain ⟨s, rfl⟩ : ∃ s, r = [s] := by
        match r, hrl with
        | [s], _ => exact ⟨s, rfl⟩
      have HE := hide (R.how_two x orders o s hwk hk0)
      clear hrl
      go_enter Tryz.func34, Tryz.ntmps34
      go_wp2_with fail
      refine (in_lst o orders oa _ HOA.out hos).mono ?_
      rintro e w1 ⟨rfl, hb1⟩
      obtain ⟨k1, k2, k3, k4⟩ := AFT.out w1 hb1
      obtain ⟨f1, f2, c0, c1, c2, c3, c4, c5, c6, c7, c8⟩ := k1.facts
      obtain ⟨k5, _, _⟩ := k4.head
      have K1 := hide k1
      clear k1
      go_wp2_with fail
      refine (in_lst s R.scopes _ _ rfl (by simp)).mono ?_
      rintro e w2 ⟨rfl, hb2⟩
      have k6 := (K1.out.setOrd o).below hb2
      have k7 : w2.cell? ⟨b, off + 1, none⟩ = some (.string s) := (hb2.cell (p := ⟨b, off + 1, none⟩) (by simp; omega)).trans ((cell_set_ne hbg).trans k5)
      have k8 : b < w2.heap.size := by have := hb2.size; simp at this; omega
      have hgr : w.grownBy w2 (some g) := grown_trans (grown_setCell (grown_of_below hb1 _) _ _) (grown_of_below hb2 _)
      have K6 := hide k6
      clear c0 c1 c2 c3 c4 c5 c6 c7 c8 f1 f2 k2 k3 k4 k5 hb1 hb2
      obtain ⟨f1, f2, c0, c1, c2, c3, c4, c5, c6, c7, c8⟩ := k6.facts
      clear k6
      go_wp2
      go_ret
      rw [unhide HE]
      exact ⟨rfl, K6.out.setScope _, grown_setCell hgr _ _⟩
    · have HE := hide (R.how_len x orders o r hwk (by omega))
      have hx : ((n : Int) != 2) = true := by rw [bne_iff_ne]; omega
      go_enter Tryz.func34, Tryz.ntmps34
      go_wp2_with (first | (go_at_call 14; refine (in_lst o orders oa _ HOA.out hos).mono ?_; rintro e w1 ⟨rfl, hb1⟩; obtain ⟨k1, k2, k3, k4⟩ := AFT.out w1 hb1; obtain ⟨f1, f2, c0, c1, c2, c3, c4, c5, c6, c7, c8⟩ := k1.facts; have K1 := hide k1; clear k1))
      go_ret
      rw [unhide HE]
      exact ⟨rfl, K1.out.setOrd _, grown_setCell (grown_of_below hb1 _) _ _⟩
end Go.Proofs.YtpkjmdcabdplfaaGreatDoor
