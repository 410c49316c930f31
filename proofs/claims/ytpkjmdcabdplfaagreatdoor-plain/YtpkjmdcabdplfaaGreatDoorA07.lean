import Derived.Deep.AppendLies
import Derived.Deep.RegionLaw
import Derived.Test.YtpkjmdcabdplfaaGreatDoorA02
import Derived.Test.YtpkjmdcabdplfaaGreatDoorA01
set_option linter.unusedVariables false
set_option linter.unusedSimpArgs false
namespace Go.Proofs.YtpkjmdcabdplfaaGreatDoor
open Go Go.RowKit
set_option maxRecDepth 100000

theorem extract_toList (s : ByteArray) (m k : Nat) : (s.extract m k).toList = (s.toList.take k).drop m := by
  rw [toList_data, toList_data, List.drop_take]
  simp
theorem take_snoc (s : ByteArray) (k : Nat) (h : k < s.size) : s.toList.take (k + 1) = s.toList.take k ++ [s[k]] := by
  rw [toList_data, List.take_succ_eq_append_getElem (by simpa using h)]; rfl

theorem Tryz.infoStr : (Tryz.prog.info? 9).map (fun i => (i.zero, i.size, i.bytes)) = some (some (.string ByteArray.empty), 1, 16) := by kernel_rfl

/-- a cut within the loop -/
theorem split_step (c : UInt8) (s : ByteArray) (k m : Nat) (bs : List ByteArray) (hk : k < s.size) (h : P.splitAt c (s.toList.take k) = bs.map ByteArray.toList ++ [(s.toList.take k).drop m]) (hc : s[k] = c) :
    P.splitAt c (s.toList.take (k + 1)) = (bs ++ [s.extract m k]).map ByteArray.toList ++ [(s.toList.take (k + 1)).drop (k + 1)] := by
  rw [take_snoc s k hk, P.splitAt_snoc _ _ _ _ _ h, if_pos hc]
  simp [extract_toList]
  omega
theorem split_stay (c : UInt8) (s : ByteArray) (k m : Nat) (bs : List ByteArray) (hk : k < s.size) (hm : m ≤ k) (h : P.splitAt c (s.toList.take k) = bs.map ByteArray.toList ++ [(s.toList.take k).drop m]) (hc : ¬ s[k] = c) :
    P.splitAt c (s.toList.take (k + 1)) = bs.map ByteArray.toList ++ [(s.toList.take (k + 1)).drop m] := by
  rw [take_snoc s k hk, P.splitAt_snoc _ _ _ _ _ h, if_neg hc]
  have : m ≤ (s.toList.take k).length := by rw [List.length_take, size_toList]; omega
  rw [List.drop_append_of_le_length this]

theorem byte_eq (a : UInt8) (n : Nat) (hn : n < 256) : (((a.toNat : Int) == (n : Int)) = true) ↔ a = UInt8.ofNat n := by
  rw [u8_eq a n hn]; simp

theorem one_eq (s : ByteArray) (c : UInt8) (k : Nat) (h : k < s.size) : ((s.extract k (k + 1)).toList == (⟨#[c]⟩ : ByteArray).toList) = decide (s[k] = c) := by
  have e : (s.extract k (k + 1)).toList = [s[k]] := by
    rw [extract_toList, take_snoc s k h, List.drop_append_of_le_length (by rw [List.length_take, size_toList]; omega), List.drop_of_length_le (by rw [List.length_take]; omega)]
    rfl
  have e2 : (⟨#[c]⟩ : ByteArray).toList = [c] := by rw [toList_data]
  rw [e, e2]
  by_cases hc : s[k] = c <;> simp [hc]

set_option maxHeartbeats 1600000 in
theorem split_any (c : UInt8) (s : ByteArray) (w : World) (hs : s.size ≤ 8192) :
    Calls Tryz.prog 45 #[.string s, .string ⟨#[c]⟩] w fun e w' => ∃ g cap, ∃ ws : List ByteArray, e = .returned (.slice (some ⟨g, 0, none⟩) ws.length cap) ∧ ws.map ByteArray.toList = P.splitAt c s.toList ∧ 
      w'.ownsRow w.heap.size 9 1 (.slice (some ⟨g, 0, none⟩) ws.length cap) ws.length (ws.map Value.string) ∧ Below w.heap.size w w' := by
  obtain ⟨i0, hi, hz0, hz1, hz2⟩ := info_parts Tryz.infoStr
  have hone : (⟨#[c]⟩ : ByteArray).size = 1 := rfl
  generalize hbet : (⟨#[c]⟩ : ByteArray) = bet at *
  go_enter Tryz.func45, Tryz.ntmps45
  go_wp2
  go_loopw [5, 6, 7] (fun v f i wr => ∃ k m : Nat, ∃ bs : List ByteArray, k ≤ s.size ∧ m ≤ k ∧ i = .int .i64 k ∧ f = .int .i64 m ∧ bs.length ≤ k ∧ Hid (P.splitAt c (s.toList.take k) = bs.map ByteArray.toList ++ [(s.toList.take k).drop m]) ∧
      wr.ownsRow w.heap.size 9 1 v bs.length (bs.map Value.string) ∧ Below w.heap.size w wr) (fun _ _ i _ => s.size - (intOf i).toNat)
  case atStart => exact ⟨0, 0, [], Nat.zero_le _, Nat.le_refl _, rfl, rfl, Nat.le_refl _, by unfold Hid; simp [P.splitAt], World.ownsRow_nil _ _ _ _, Below.refl _ _⟩
  case round =>
    obtain ⟨k, m, bs, hk, hm, rfl, rfl, hbl, HS, hown, hbel⟩ := hrel
    have hmk : (m : Int) ≤ (k : Int) := by omega
    by_cases hlt : k < s.size
    · have hlt' : (k : Int) + 1 ≤ (s.size : Int) := by omega
      have hex : ∀ wx, (Instr.slice 9 (.string s) (some (.int .i64 (k : Int))) (some (.int .i64 ((k : Int) + 1))) none).run Tryz.prog wx = .ok (.string (s.extract k (k + 1))) wx := fun wx => by
        rw [run_slice_string wx 9 s .i64 .i64 _ _ Tryz.underlying9 (by omega) (by omega) (by omega), show ((k : Int)).toNat = k by omega, show ((k : Int) + 1).toNat = k + 1 by omega]
      by_cases hc : s[k] = c
      · have hq : ((s.extract k (k + 1)).toList == bet.toList) = true := by rw [← hbet, one_eq s c k hlt]; simpa using hc
        have HC := hide hc
        clear hc
        go_wp2_with (first
          | (at_builtin; refine wpList_append_lies _ rfl (.tmp 38) (.tmp 43) 40 rfl w.heap.size 9 i0 (.string ByteArray.empty) 1 16 Tryz.underlying40 hi hz0 hz1 hz2 rfl (by decide) _ _ _ rfl (hown.alloc _) ⟨wr.heap.size, 0, none⟩ 1 1 [.string (s.extract m k)] rfl rfl ?c1 ?c2 (by decide) ?c3 ?c4 ?c5 _ rfl ?_))
        case c1 =>
          intro j u hj
          match j, hj with
          | 0, hj => simp at hj; subst hj; simp [Addr.add]
        case c2 => intro u hu; simp at hu; subst hu; rfl
        case c3 => unfold maxLen; omega
        case c4 => omega
        case c5 => have := hbel.size; simp; omega
        intro g cap w1 hown' hgrow hat hglt
        have R := split_step c s k m bs hlt HS.out HC.out
        have HR := hide R
        have hb1 : Below w.heap.size w w1 := (hbel.alloc hbel.size _).grown hgrow (by have := hbel.size; simp; omega) (fun j hj => (hown.lt j hj).1)
        clear R hown hgrow hat HS
        go_wp2
        go_roundw
        case rel => exact ⟨k + 1, k + 1, bs ++ [s.extract m k], by omega, Nat.le_refl _, by go_num, by go_num, by simp; omega, HR, by simpa using hown', hb1⟩
        case measure => simp [intOf]; omega
      · have hq : ((s.extract k (k + 1)).toList == bet.toList) = false := by rw [← hbet, one_eq s c k hlt]; simpa using hc
        have HR := hide (split_stay c s k m bs hlt hm HS.out hc)
        clear HS hc
        go_wp2
        go_roundw
        case rel => exact ⟨k + 1, m, bs, by omega, by omega, by go_num, rfl, by omega, HR, hown, hbel⟩
        case measure => simp [intOf]; omega
    · have hlt' : ¬ ((k : Int) + 1 ≤ (s.size : Int)) := by omega
      have HS2 : Hid ((bs ++ [s.extract m s.size]).map ByteArray.toList = P.splitAt c s.toList) := by
        have hks : k = s.size := by omega
        subst hks
        unfold Hid
        have := HS.out
        rw [List.take_of_length_le (by rw [size_toList]; exact Nat.le_refl _)] at this
        rw [this]; simp [extract_toList, List.take_of_length_le, size_toList]
      clear HS
      go_wp2_with (first
          | (at_builtin; refine wpList_append_lies _ rfl (.tmp 49) (.tmp 53) 40 rfl w.heap.size 9 i0 (.string ByteArray.empty) 1 16 Tryz.underlying40 hi hz0 hz1 hz2 rfl (by decide) _ _ _ rfl (hown.alloc _) ⟨wr.heap.size, 0, none⟩ 1 1 [.string (s.extract m s.size)] rfl rfl ?d1 ?d2 (by decide) ?d3 ?d4 ?d5 _ rfl ?_))
      case d2 => first | rfl | (intro u hu; simp at hu; subst hu; rfl)
      case d3 => unfold maxLen; omega
      case d4 => omega
      case d5 => have := hbel.size; simp; omega
      intro g cap w1 hown' hgrow hat hglt
      have hb1 : Below w.heap.size w w1 := (hbel.alloc hbel.size _).grown hgrow (by have := hbel.size; simp; omega) (fun j hj => (hown.lt j hj).1)
      clear hown hgrow hat
      go_wp2
      go_ret
      exact ⟨g, cap, bs ++ [s.extract m s.size], by simp, HS2.out, by simpa using hown', hb1⟩
theorem own_words {w : World} {B g cap : Nat} {ws : List ByteArray} (h : w.ownsRow B 9 1 (.slice (some ⟨g, 0, none⟩) ws.length cap) ws.length (ws.map Value.string)) : WordsAt w g 0 ws ∧ ws.length ≤ cap ∧ g < w.heap.size := by
  refine ⟨fun i s hs => ?_, ?_, (h.lt g rfl).2⟩
  · have hi := (List.getElem?_eq_some_iff.1 hs).1
    rw [Nat.zero_add, h.cellAt i (by omega)]
    simp [hs]
  · rcases h.2 with ⟨h', _⟩ | ⟨g', cap', cur, h', hb, hg, hnc, _⟩
    · simp at h'
    · simp only [Value.slice.injEq] at h'; omega
end Go.Proofs.YtpkjmdcabdplfaaGreatDoor

namespace Go.Proofs.YtpkjmdcabdplfaaGreatDoor
open Go Go.RowKit
set_option maxRecDepth 100000

def thrCells : List P.Thr → List Value → List Value
  | t :: ts, v :: vs => .int .i64 t.block :: .int .i64 t.line :: v :: thrCells ts vs
  | _, _ => []

def flatStm (l : List P.Stm) : List Value := l.flatMap (fun s => (stmCells s).toList)

theorem flatStm_length (l : List P.Stm) : (flatStm l).length = l.length * 11 := by
  induction l with
  | nil => rfl
  | cons a r ih => simp [flatStm, stmCells] at *; omega
theorem flatStm_snoc (l : List P.Stm) (s : P.Stm) : flatStm (l ++ [s]) = flatStm l ++ (stmCells s).toList := by simp [flatStm]

def StmtsAt (w : World) (B : Nat) : List P.Thr → List Value → Prop
  | [], [] => True
  | t :: ts, v :: vs => w.ownsRow B 80 11 v t.stmts.length (flatStm t.stmts) ∧ (∀ u ∈ vs, v.ownBlock = none ∨ v.ownBlock ≠ u.ownBlock) ∧ StmtsAt w B ts vs
  | _, _ => False

structure RdIn (w : World) (B g : Nat) (r : P.Rd) (tv ov : Value) (vs : List Value) : Prop where
  cells : w.heap[g]? = some (.cells #[tv, .int .i64 r.most, .int .i64 r.count, .int .i64 r.ifs, ov] 93 (0, 0))
  threads : w.ownsRow B 73 3 tv r.threads.length (thrCells r.threads vs)
  opn : w.ownsRow B 3 1 ov r.opn.length (r.opn.map (Value.int .i64))
  stmts : StmtsAt w B r.threads vs

def RdAt (w : World) (B g : Nat) (r : P.Rd) : Prop := ∃ tv ov vs, RdIn w B g r tv ov vs

theorem ownsRow_keep {w w' : World} {B : Nat} {e : TypeId} {sz : Nat} {v : Value} {n : Nat} {xs : List Value} (h : w.ownsRow B e sz v n xs) (hk : ∀ k, v.ownBlock = some k → w'.heap[k]? = w.heap[k]?) : w'.ownsRow B e sz v n xs := by
  refine ⟨h.1, ?_⟩
  rcases h.2 with hn | ⟨g, cap, cur, rfl, hb, hgg, rest⟩
  · exact .inl hn
  · exact .inr ⟨g, cap, cur, rfl, hb, by rw [hk g rfl]; exact hgg, rest⟩

theorem StmtsAt.length {w : World} {B : Nat} : ∀ {ts : List P.Thr} {vs : List Value}, StmtsAt w B ts vs → vs.length = ts.length
  | [], [], _ => rfl
  | _ :: _, _ :: _, h => by simp [StmtsAt.length h.2.2]

theorem StmtsAt.keep {w w' : World} {B : Nat} : ∀ {ts : List P.Thr} {vs : List Value}, StmtsAt w B ts vs → (∀ v ∈ vs, ∀ k, v.ownBlock = some k → w'.heap[k]? = w.heap[k]?) → StmtsAt w' B ts vs
  | [], [], _, _ => trivial
  | _ :: _, v :: _, h, hk => ⟨ownsRow_keep h.1 (hk v (by simp)), h.2.1, StmtsAt.keep h.2.2 (fun u hu => hk u (by simp [hu]))⟩

theorem StmtsAt.mem {w : World} {B : Nat} : ∀ {ts : List P.Thr} {vs : List Value}, StmtsAt w B ts vs → ∀ v ∈ vs, ∃ n xs, w.ownsRow B 80 11 v n xs
  | [], [], _, u, hu => by simp at hu
  | _ :: _, v :: _, h, u, hu => by
    rcases List.mem_cons.1 hu with rfl | hu
    · exact ⟨_, _, h.1⟩
    · exact StmtsAt.mem h.2.2 u hu

theorem RdIn.lt {w : World} {B g : Nat} {r : P.Rd} {tv ov : Value} {vs : List Value} (h : RdIn w B g r tv ov vs) : g < w.heap.size := (Array.getElem?_eq_some_iff.1 h.cells).1

theorem RdIn.keep {w w' : World} {B g : Nat} {r : P.Rd} {tv ov : Value} {vs : List Value} (h : RdIn w B g r tv ov vs) (hk : ∀ k, k < w.heap.size → w'.heap[k]? = w.heap[k]?) : RdIn w' B g r tv ov vs :=
  ⟨by rw [hk g h.lt]; exact h.cells, ownsRow_keep h.threads (fun k e => hk k (h.threads.lt k e).2), ownsRow_keep h.opn (fun k e => hk k (h.opn.lt k e).2),
   h.stmts.keep (fun v hv k e => by obtain ⟨n, xs, ho⟩ := h.stmts.mem v hv; exact hk k (ho.lt k e).2)⟩

theorem RdAt.below {w w' : World} {B g : Nat} {r : P.Rd} (h : RdAt w B g r) (hb : Below w.heap.size w w') : RdAt w' B g r := by
  obtain ⟨tv, ov, vs, h⟩ := h
  exact ⟨tv, ov, vs, h.keep hb.block⟩

/-- the block that a value owns is of that element type -/
theorem own_type {w : World} {B : Nat} {e : TypeId} {sz : Nat} {v : Value} {n : Nat} {xs : List Value} (h : w.ownsRow B e sz v n xs) {k : Nat} (hk : v.ownBlock = some k) : ∃ cur, w.heap[k]? = some (.cells cur e (0, 0)) := by
  rcases h.2 with ⟨rfl, _⟩ | ⟨g, cap, cur, rfl, hb, hgg, rest⟩
  · simp [Value.ownBlock] at hk
  · simp [Value.ownBlock] at hk; subst hk; exact ⟨cur, hgg⟩

theorem own_ne {w : World} {B B' : Nat} {e e' : TypeId} {sz sz' : Nat} {v v' : Value} {n n' : Nat} {xs xs' : List Value} (h : w.ownsRow B e sz v n xs) (h' : w.ownsRow B' e' sz' v' n' xs') (hne : e ≠ e') {k : Nat} (hk : v.ownBlock = some k) : v'.ownBlock ≠ some k := by
  intro hk'
  obtain ⟨c, hc⟩ := own_type h hk
  obtain ⟨c', hc'⟩ := own_type h' hk'
  rw [hc] at hc'; simp at hc'; exact hne hc'.2
theorem own_ne_blk {w : World} {B : Nat} {e e' : TypeId} {sz : Nat} {v : Value} {n : Nat} {xs : List Value} {g : Nat} {cs : Array Value} {fr : Nat × Nat} (h : w.ownsRow B e sz v n xs) (h' : w.heap[g]? = some (.cells cs e' fr)) (hne : e ≠ e') : v.ownBlock ≠ some g := by
  intro hk
  obtain ⟨c, hc⟩ := own_type h hk
  rw [hc] at h'; simp at h'; exact hne h'.2.1

theorem thrCells_snoc : ∀ (ts : List P.Thr) (vs : List Value) (t : P.Thr) (v : Value), vs.length = ts.length → thrCells (ts ++ [t]) (vs ++ [v]) = thrCells ts vs ++ [.int .i64 t.block, .int .i64 t.line, v]
  | [], [], _, _, _ => rfl
  | a :: r, b :: q, t, v, h => by simp [thrCells, thrCells_snoc r q t v (by simpa using h)]
theorem thrCells_length : ∀ (ts : List P.Thr) (vs : List Value), vs.length = ts.length → (thrCells ts vs).length = ts.length * 3
  | [], [], _ => rfl
  | a :: r, b :: q, h => by simp [thrCells, thrCells_length r q (by simpa using h)]; omega

theorem StmtsAt_snoc {w : World} {B : Nat} : ∀ (ts : List P.Thr) (vs : List Value) (t : P.Thr) (v : Value), StmtsAt w B (ts ++ [t]) (vs ++ [v]) ↔ StmtsAt w B ts vs ∧ w.ownsRow B 80 11 v t.stmts.length (flatStm t.stmts) ∧ ∀ u ∈ vs, u.ownBlock = none ∨ u.ownBlock ≠ v.ownBlock
  | [], [], t, v => by simp [StmtsAt]
  | [], b :: q, t, v => by
    cases q with
    | nil => simp [StmtsAt]
    | cons c q => simp [StmtsAt]
  | a :: r, [], t, v => by
    cases r with
    | nil => simp [StmtsAt]
    | cons c q => simp [StmtsAt]
  | a :: r, b :: q, t, v => by
    have ih := StmtsAt_snoc (w := w) (B := B) r q t v
    simp only [List.cons_append, StmtsAt, ih]
    constructor
    · rintro ⟨h1, h2, h3, h4, h5⟩
      refine ⟨⟨h1, fun u hu => h2 u (by simp [hu]), h3⟩, h4, fun u hu => ?_⟩
      rcases List.mem_cons.1 hu with rfl | hu
      · exact h2 v (by simp)
      · exact h5 u hu
    · rintro ⟨⟨h1, h2, h3⟩, h4, h5⟩
      refine ⟨h1, fun u hu => ?_, h3, h4, fun u hu => h5 u (by simp [hu])⟩
      rcases List.mem_append.1 hu with hu | hu
      · exact h2 u hu
      · simp at hu; subst hu; exact h5 b (by simp)

theorem snoc_of {α : Type} (l : List α) (h : l ≠ []) : ∃ a b, l = a ++ [b] := ⟨l.dropLast, l.getLast h, (List.dropLast_concat_getLast h).symm⟩
end Go.Proofs.YtpkjmdcabdplfaaGreatDoor

namespace Go.Proofs.YtpkjmdcabdplfaaGreatDoor
open Go Go.RowKit
/-- below B the world is as it was, but for block g -/
structure BelowX (B g : Nat) (w w' : World) : Prop where
  os : w'.os = w.os
  tape : w'.tape = w.tape
  output : w'.output = w.output
  size : w.heap.size ≤ w'.heap.size
  block : ∀ k, k < B → k ≠ g → w'.heap[k]? = w.heap[k]?
theorem BelowX.refl (B g : Nat) (w : World) : BelowX B g w w := ⟨rfl, rfl, rfl, Nat.le_refl _, fun _ _ _ => rfl⟩
theorem BelowX.of {B g : Nat} {w w' : World} (h : Below B w w') : BelowX B g w w' := ⟨h.os, h.tape, h.output, h.size, fun k hk _ => h.block k hk⟩
theorem BelowX.trans {B g : Nat} {a b c : World} (h : BelowX B g a b) (k : BelowX B g b c) : BelowX B g a c :=
  ⟨k.os.trans h.os, k.tape.trans h.tape, k.output.trans h.output, Nat.le_trans h.size k.size, fun i hi hg => (k.block i hi hg).trans (h.block i hi hg)⟩
theorem BelowX.drew {B g : Nat} {a w : World} (h : BelowX B g a w) : BelowX B g a w.drew := ⟨h.os, h.tape, h.output, h.size, h.block⟩
theorem BelowX.alloc {B g : Nat} {a w : World} (h : BelowX B g a w) (hB : B ≤ w.heap.size) (o : Obj) : BelowX B g a (w.alloc o) :=
  h.trans (BelowX.of ((Below.refl _ _).alloc hB _))
theorem BelowX.setCell {B g : Nat} {a w : World} (h : BelowX B g a w) {i : Nat} (u : Value) : BelowX B g a (w.setCell ⟨g, i, none⟩ u) :=
  h.trans ⟨rfl, rfl, rfl, by simp [World.setCell], fun k _ hg => Below.heap_setCell _ _ _ _ hg⟩
theorem BelowX.grown {B g : Nat} {a w w' : World} {row : Option Nat} (h : BelowX B g a w) (hg : w.grownBy w' row) (hB : B ≤ w.heap.size) (hr : ∀ k, row = some k → B ≤ k) : BelowX B g a w' :=
  h.trans (BelowX.of ((Below.refl _ _).grown hg hB hr))
theorem BelowX.below {B B' g : Nat} {w w' : World} (h : BelowX B g w w') (h1 : B' ≤ B) (h2 : B' ≤ g) : Below B' w w' := ⟨h.os, h.tape, h.output, h.size, fun k hk => h.block k (by omega) (by omega)⟩
end Go.Proofs.YtpkjmdcabdplfaaGreatDoor

namespace Go.Proofs.YtpkjmdcabdplfaaGreatDoor
open Go Go.RowKit
set_option maxRecDepth 100000

theorem Tryz.infoStm : (Tryz.prog.info? 80).map (fun i => (i.zero, i.size, i.bytes)) = some (some (.agg (stmCells P.Stm.zero)), 11, 88) := by kernel_rfl

/-- what put leaves -/
theorem put_mem {w W0 w1 : World} {B g bt n capT m g1 cap1 : Nat} {r : P.Rd} {ts : List P.Thr} {t : P.Thr} {vs : List Value} {sv ov : Value} {st : P.Stm}
    (hr : r.threads = ts ++ [t]) (hn : ts.length = n) (hm : t.stmts.length = m)
    (h : RdIn w B g r (.slice (some ⟨bt, 0, none⟩) (n + 1) capT) ov (vs ++ [sv]))
    (hk : ∀ k, k < w.heap.size → W0.heap[k]? = w.heap[k]?) (hsz : w.heap.size ≤ W0.heap.size) (hos : W0.os = w.os) (htp : W0.tape = w.tape) (hou : W0.output = w.output) (hB : B ≤ w.heap.size) 
    (hown : w1.ownsRow B 80 11 (.slice (some ⟨g1, 0, none⟩) (m + 1) cap1) (m + 1) (flatStm t.stmts ++ (stmCells st).toList)) (hgrow : W0.grownBy w1 sv.ownBlock) (hat : sv.ownBlock = some g1 ∨ g1 = W0.heap.size) :
    RdAt (w1.setCell ⟨bt, n * 3 + 2, none⟩ (.slice (some ⟨g1, 0, none⟩) (m + 1) cap1)) B g (P.put r st) ∧ Below B w (w1.setCell ⟨bt, n * 3 + 2, none⟩ (.slice (some ⟨g1, 0, none⟩) (m + 1) cap1)) := by
  have hst := h.stmts
  rw [hr, StmtsAt_snoc] at hst
  obtain ⟨hs0, hsv, hpw⟩ := hst
  have hthr := h.threads
  have hbtT := own_type hthr (k := bt) rfl
  obtain ⟨cur, hcur⟩ := hbtT
  have hbtlt : bt < w.heap.size := (Array.getElem?_eq_some_iff.1 hcur).1
  have hlv : vs.length = ts.length := hs0.length
  have svne : ∀ k c e fr, w.heap[k]? = some (.cells c e fr) → e ≠ 80 → sv.ownBlock ≠ some k := fun k c e fr hc he => own_ne_blk hsv hc (Ne.symm he)
  -- a block of w that is neither sv's nor bt
  have same : ∀ k, k < w.heap.size → sv.ownBlock ≠ some k → k ≠ bt → (w1.setCell ⟨bt, n * 3 + 2, none⟩ (.slice (some ⟨g1, 0, none⟩) (m + 1) cap1)).heap[k]? = w.heap[k]? := fun k hlt h1 h2 => by
    rw [Below.heap_setCell _ _ _ _ h2, hgrow.block k (by omega) (Ne.symm h1), hk k hlt]
  have hg1bt : g1 ≠ bt := by
    intro e; subst e
    rcases hat with ha | ha
    · exact svne g1 cur _ _ hcur (by decide) ha
    · omega
  refine ⟨⟨.slice (some ⟨bt, 0, none⟩) (n + 1) capT, ov, vs ++ [.slice (some ⟨g1, 0, none⟩) (m + 1) cap1], ?_, ?_, ?_, ?_⟩, ?_⟩
  · have hgne : g ≠ bt := fun e => by subst e; rw [h.cells] at hcur; simp at hcur
    rw [same g h.lt (svne g _ _ _ h.cells (by decide)) hgne]
    exact h.cells
  · have h1 : w1.ownsRow B 73 3 (.slice (some ⟨bt, 0, none⟩) (n + 1) capT) (n + 1) (thrCells r.threads (vs ++ [sv])) := by
      have e : r.threads.length = n + 1 := by rw [hr]; simp; omega
      rw [e] at hthr
      exact ownsRow_keep hthr (fun k hk' => by
        simp [Value.ownBlock] at hk'; subst hk'
        rw [hgrow.block bt (by omega) (Ne.symm (svne bt cur _ _ hcur (by decide))), hk bt hbtlt])
    have h2 := (h1.stored (n * 3 + 2) (.slice (some ⟨g1, 0, none⟩) (m + 1) cap1)).1
    have e1 : (P.put r st).threads = ts ++ [{ t with stmts := t.stmts ++ [st] }] := by simp only [P.put, hr, P.putLast_snoc]
    rw [e1, thrCells_snoc _ _ _ _ hlv]
    rw [hr, thrCells_snoc _ _ _ _ hlv] at h2
    have e2 : (thrCells ts vs ++ [Value.int .i64 t.block, .int .i64 t.line, sv]).set (n * 3 + 2) (.slice (some ⟨g1, 0, none⟩) (m + 1) cap1) = thrCells ts vs ++ [.int .i64 t.block, .int .i64 t.line, .slice (some ⟨g1, 0, none⟩) (m + 1) cap1] := by
      rw [List.set_append_right _ _ (by rw [thrCells_length _ _ hlv]; omega), thrCells_length _ _ hlv, show n * 3 + 2 - ts.length * 3 = 2 by omega]
      rfl
    rw [e2] at h2
    simpa [hn] using h2
  · refine ownsRow_keep h.opn (fun k hk' => ?_)
    have hl := h.opn.lt k hk'
    refine same k hl.2 ?_ ?_
    · exact own_ne h.opn hsv (by decide) hk'
    · intro e; subst e
      exact own_ne h.opn hthr (by decide) hk' rfl
  · have e1 : (P.put r st).threads = ts ++ [{ t with stmts := t.stmts ++ [st] }] := by simp only [P.put, hr, P.putLast_snoc]
    rw [e1, StmtsAt_snoc]
    refine ⟨hs0.keep (fun u hu k hk' => ?_), ?_, fun u hu => ?_⟩
    · obtain ⟨n', xs', hu'⟩ := hs0.mem u hu
      have hlt := (hu'.lt k hk').2
      refine same k hlt (fun e => ?_) (fun e => ?_)
      · rcases hpw u hu with hp | hp
        · rw [hp] at hk'; cases hk'
        · exact hp (by rw [hk', e])
      · subst e
        exact own_ne hu' hthr (by decide) hk' rfl
    · have := hown
      rw [← flatStm_snoc] at this
      refine ownsRow_keep (by simpa [hm] using this) (fun k hk' => ?_)
      simp [Value.ownBlock] at hk'; subst hk'
      exact Below.heap_setCell _ _ _ _ hg1bt
    · rcases hpw u hu with hp | hp
      · exact .inl hp
      · rcases hat with ha | ha
        · exact .inr (by rw [ha] at hp; exact hp)
        · refine .inr (fun e => ?_)
          obtain ⟨n', xs', hu'⟩ := hs0.mem u hu
          have := (hu'.lt g1 e).2
          omega
  · refine ⟨hgrow.os.trans hos, hgrow.tape.trans htp, hgrow.output.trans hou, ?_, fun k hk' => ?_⟩
    · have := hgrow.size; simp [World.setCell]; omega
    · refine same k (by omega) (fun e => ?_) (fun e => ?_)
      · have := (hsv.lt k e).1; omega
      · have := (hthr.lt bt rfl).1; omega
end Go.Proofs.YtpkjmdcabdplfaaGreatDoor
