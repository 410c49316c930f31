import Derived.Test.YtpkjmdcabdplfaaGreatDoorA19
import Derived.Test.YtpkjmdcabdplfaaGreatDoorA28
set_option linter.unusedVariables false
set_option linter.unusedSimpArgs false
namespace Go.Proofs.YtpkjmdcabdplfaaGreatDoor
open Go

namespace R
structure Ok (x : Lh) : Prop where
  r0 : -1 ≤ x.reg
  r1 : x.reg < 4
  v0 : -1 ≤ x.var
  v1 : x.var < 3
  a0 : -5 ≤ x.a
  a1 : x.a < 4
  b0 : -5 ≤ x.b
  b1 : x.b < 4
  o : x.ord.size ≤ 10
  s : x.scope.size ≤ 10

theorem idx_mem (v : List UInt8) (l : List (List UInt8)) : ∀ k, 0 ≤ k → 0 ≤ idxFrom v k l → v ∈ l := by
  induction l with
  | nil => intro k _ h; simp [idxFrom] at h
  | cons x r ih =>
    intro k hk h
    simp only [idxFrom] at h
    split at h
    · rename_i hc
      simp at hc
      simp [hc.1]
    · exact List.mem_cons_of_mem _ (ih (k + 1) (by omega) h)
theorem inn_mem (v l : List UInt8) (h : 0 ≤ inn v l) : v ∈ P.splitAt 32 l := idx_mem v _ 0 (by omega) h

theorem regs_bd (v : List UInt8) : -1 ≤ inn v regs ∧ inn v regs < 4 := by rw [inn_regs]; (repeat' split) <;> omega
theorem nums_bd (v : List UInt8) : -1 ≤ inn v nums ∧ inn v nums < 4 := by rw [inn_nums]; (repeat' split) <;> omega
theorem vars_bd (v : List UInt8) : -1 ≤ inn v vars ∧ inn v vars < 3 := by rw [inn_vars]; (repeat' split) <;> omega
theorem opd_bd (v : List UInt8) : -5 ≤ (opd v).1 ∧ (opd v).1 < 4 := by
  have h1 := regs_bd v
  have h2 := nums_bd v
  unfold opd
  split <;> simp only [] <;> omega

theorem ok_x0 : Ok x0 := ⟨by decide, by decide, by decide, by decide, by decide, by decide, by decide, by decide, by decide, by decide⟩
theorem ok_if (a : Int) (h0 : -5 ≤ a) (h1 : a < 4) : Ok (lIf a) := ⟨ok_x0.r0, ok_x0.r1, ok_x0.v0, ok_x0.v1, h0, h1, ok_x0.b0, ok_x0.b1, ok_x0.o, ok_x0.s⟩

theorem how_ok (x : Lh) (orders : List UInt8) (ws : List ByteArray) (hx : Ok x) (ho : ∀ y ∈ P.splitAt 32 orders, y.length ≤ 10) (h : (how x orders ws).2 = true) : Ok (how x orders ws).1 := by
  have hs : ∀ y ∈ P.splitAt 32 scopes, y.length ≤ 10 := by decide
  unfold how at h ⊢
  split at h
  · simp at h
  · split at h
    · rename_i o r hw
      simp only [Bool.and_eq_true, decide_eq_true_eq] at h
      have := ho _ (inn_mem _ _ h.1)
      rw [if_pos hw]
      exact ⟨hx.r0, hx.r1, hx.v0, hx.v1, hx.a0, hx.a1, hx.b0, hx.b1, by rw [size_toList] at this; exact this, hx.s⟩
    · rename_i o r hw
      rw [if_neg hw]
      split at h
      · simp at h
      · rename_i hi
        rw [if_neg hi]
        have h1 := ho _ (inn_mem o.toList orders (by omega))
        split at h
        · rename_i s
          simp only [decide_eq_true_eq] at h
          have h2 := hs _ (inn_mem _ _ h)
          exact ⟨hx.r0, hx.r1, hx.v0, hx.v1, hx.a0, hx.a1, hx.b0, hx.b1, by rw [size_toList] at h1; exact h1, by rw [size_toList] at h2; exact h2⟩
        · simp at h

theorem assign_ok (d c : ByteArray) (r : List ByteArray) (h : (assign d c r).2 = true) : Ok (assign d c r).1 := by
  have hL : ∀ y ∈ P.splitAt 32 oLoad, y.length ≤ 10 := by decide
  have hS : ∀ y ∈ P.splitAt 32 oStep, y.length ≤ 10 := by decide
  have z := ok_x0
  have rd := regs_bd d.toList
  unfold assign at h ⊢
  split at h
  · rename_i hc
    rw [if_pos hc]
    split at h
    · rename_i p q
      have v := vars_bd p.toList
      simp only [stLoad, Bool.and_eq_true] at h ⊢
      exact how_ok _ _ _ ⟨rd.1, rd.2, v.1, v.2, z.a0, z.a1, z.b0, z.b1, z.o, z.s⟩ hL h.1.2
    · simp at h
  · rename_i hc
    rw [if_neg hc]
    split at h
    · rename_i hc
      rw [if_pos hc]
      split at h
      · rename_i p u q _
        have v := vars_bd p.toList
        have o := opd_bd u.toList
        simp only [stStep, Bool.and_eq_true] at h ⊢
        exact how_ok _ _ _ ⟨rd.1, rd.2, v.1, v.2, o.1, o.2, z.b0, z.b1, z.o, z.s⟩ hS h.1.1.2
      · simp at h
    · rename_i hc
      rw [if_neg hc]
      have o := opd_bd c.toList
      split at h
      · exact ⟨rd.1, rd.2, z.v0, z.v1, o.1, o.2, z.b0, z.b1, z.o, z.s⟩
      · rename_i s b _
        have o2 := opd_bd b.toList
        exact ⟨rd.1, rd.2, z.v0, z.v1, o.1, o.2, o2.1, o2.2, z.o, z.s⟩
      · exact ⟨rd.1, rd.2, z.v0, z.v1, o.1, o.2, z.b0, z.b1, z.o, z.s⟩

theorem stmt_ok (c : ByteArray) (w : List ByteArray) (h : (stmt c w).2 = true) : Ok (stmt c w).1 := by
  have hF : ∀ y ∈ P.splitAt 32 oFence, y.length ≤ 10 := by decide
  have hS : ∀ y ∈ P.splitAt 32 oStore, y.length ≤ 10 := by decide
  have z := ok_x0
  unfold stmt at h ⊢
  split at h
  · rename_i hc
    rw [if_pos hc]
    exact ⟨z.r0, z.r1, z.v0, z.v1, z.a0, z.a1, z.b0, z.b1, z.o, z.s⟩
  · rename_i hc
    rw [if_neg hc]
    split at h
    · rename_i hc
      rw [if_pos hc]
      exact how_ok _ _ _ ⟨z.r0, z.r1, z.v0, z.v1, z.a0, z.a1, z.b0, z.b1, z.o, z.s⟩ hF h
    · rename_i hc
      rw [if_neg hc]
      split at h
      · rename_i hc
        rw [if_pos hc]
        split at h
        · rename_i p v q
          have hv := vars_bd p.toList
          have o := opd_bd v.toList
          simp only [stStore, Bool.and_eq_true] at h ⊢
          exact how_ok _ _ _ ⟨z.r0, z.r1, hv.1, hv.2, o.1, o.2, z.b0, z.b1, z.o, z.s⟩ hS h.1.2
        · simp at h
      · rename_i hc
        rw [if_neg hc]
        split at h
        · split at h
          · rename_i hc
            rw [if_pos hc]
            exact assign_ok _ _ _ h
          · simp at h
        · simp at h

def opsL : List (List UInt8) := [[108, 111, 97, 100], [115, 116, 111, 114, 101], [97, 100, 100], [115, 119, 97, 112], [102, 101, 110, 99, 101], [98, 97, 114, 114, 105, 101, 114], [115, 101, 116], [105, 102]]
theorem how_op (x : Lh) (orders : List UInt8) (ws : List ByteArray) : (how x orders ws).1.op = x.op := by
  unfold how
  repeat' split
  all_goals rfl
theorem assign_op (d c : ByteArray) (r : List ByteArray) (h : (assign d c r).2 = true) : (assign d c r).1.op.toList ∈ opsL := by
  unfold assign at h ⊢
  split at h
  · rename_i hc
    rw [if_pos hc]
    split at h
    · simp only [stLoad, how_op, sLoad, lit_toList]; decide
    · simp at h
  · rename_i hc
    rw [if_neg hc]
    split at h
    · rename_i hc
      rw [if_pos hc]
      split at h
      · simp only [stStep, how_op]
        simp only [Bool.and_eq_true, Bool.or_eq_true, beq_iff_eq] at hc
        rcases hc.1 with e | e <;> rw [e] <;> decide
      · simp at h
    · rename_i hc
      rw [if_neg hc]
      split <;> simp only [stOne, stTwo, stElse, sSet, lit_toList] <;> decide
theorem stmt_op (c : ByteArray) (w : List ByteArray) (h : (stmt c w).2 = true) : (stmt c w).1.op.toList ∈ opsL := by
  unfold stmt at h ⊢
  split at h
  · rename_i hc
    rw [if_pos hc]
    simp only [sBarrier, lit_toList]; decide
  · rename_i hc
    rw [if_neg hc]
    split at h
    · rename_i hc
      rw [if_pos hc, how_op]
      simp only [sFence, lit_toList]; decide
    · rename_i hc
      rw [if_neg hc]
      split at h
      · rename_i hc
        rw [if_pos hc]
        split at h
        · simp only [stStore, how_op, sStore, lit_toList]; decide
        · simp at h
      · rename_i hc
        rw [if_neg hc]
        split at h
        · split at h
          · rename_i hc
            rw [if_pos hc]
            exact assign_op _ _ _ h
          · simp at h
        · simp at h

structure Fit (x : Lh) : Prop where
  ok : Ok x
  op : x.op.toList ∈ opsL

def okL : List Tree → Prop
  | [] => True
  | ⟨x, b⟩ :: r => (Fit x ∧ okL b) ∧ okL r
def okT (t : Tree) : Prop := Fit t.x ∧ okL t.body
theorem okL_nil : okL [] = True := by simp only [okL]
theorem okL_cons (t : Tree) (r : List Tree) : okL (t :: r) = (okT t ∧ okL r) := by cases t; simp only [okL, okT]
theorem okL_append (a b : List Tree) : okL (a ++ b) ↔ okL a ∧ okL b := by
  induction a with
  | nil => simp [okL_nil, okL_cons]
  | cons t r ih => simp [okL_nil, okL_cons, ih, and_assoc]

structure OkS (s : St) : Prop where
  ts : ∀ t ∈ s.ts, okL t.body
  fs : ∀ f ∈ s.opn, okL f.l ∧ -5 ≤ f.a ∧ f.a < 4

theorem addLast_ok (ts : List Th) (x : Tree) (h : ∀ t ∈ ts, okL t.body) (hx : okT x) : ∀ t ∈ addLast ts x, okL t.body := by
  match ts, h with
  | [], _ => simp [addLast]
  | [t], h =>
    intro u hu
    simp [addLast] at hu
    subst hu
    exact (okL_append _ _).2 ⟨h t (by simp), by simpa [okL_nil, okL_cons] using hx⟩
  | t :: v :: r, h =>
    intro u hu
    simp only [addLast, List.mem_cons] at hu
    rcases hu with rfl | hu
    · exact h u (by simp)
    · exact addLast_ok (v :: r) x (fun t ht => h t (List.mem_cons_of_mem _ ht)) hx u hu
theorem addTop_ok (ts : List Fr) (x : Tree) (h : ∀ f ∈ ts, okL f.l ∧ -5 ≤ f.a ∧ f.a < 4) (hx : okT x) : ∀ f ∈ addTop ts x, okL f.l ∧ -5 ≤ f.a ∧ f.a < 4 := by
  match ts, h with
  | [], _ => simp [addTop]
  | [t], h =>
    intro u hu
    simp [addTop] at hu
    subst hu
    exact ⟨(okL_append _ _).2 ⟨(h t (by simp)).1, by simpa [okL_nil, okL_cons] using hx⟩, (h t (by simp)).2⟩
  | t :: v :: r, h =>
    intro u hu
    simp only [addTop, List.mem_cons] at hu
    rcases hu with rfl | hu
    · exact h u (by simp)
    · exact addTop_ok (v :: r) x (fun t ht => h t (List.mem_cons_of_mem _ ht)) hx u hu
theorem put_ok (s : St) (x : Tree) (h : OkS s) (hx : okT x) : OkS (put s x) := by
  unfold put
  split
  · exact ⟨addLast_ok _ _ h.ts hx, h.fs⟩
  · exact ⟨h.ts, addTop_ok _ _ h.fs hx⟩

theorem step_ok {s s' : St} {i : Int} {c : ByteArray} {w : List ByteArray} (hs : OkS s) (h : step s i c w = some s') : OkS s' := by
  unfold step at h
  split at h
  · unfold begins at h
    split at h
    · split at h
      · simp at h
        rw [← h]
        refine ⟨fun t ht => ?_, hs.fs⟩
        simp at ht
        rcases ht with ht | rfl
        · exact hs.ts t ht
        · simp [okL_nil, okL_cons]
      · simp at h
    · simp at h
  · split at h
    · simp at h
    · split at h
      · unfold ends at h
        split at h
        · simp at h
        · rename_i f hf
          split at h
          · simp at h
            rw [← h]
            have hm := hs.fs f (List.mem_of_getLast? hf)
            exact put_ok _ _ ⟨hs.ts, fun f hf => hs.fs f (List.dropLast_subset _ hf)⟩ (by simp only [okT]; exact ⟨⟨ok_if _ hm.2.1 hm.2.2, by simp only [lIf, sIf, lit_toList]; decide⟩, hm.1⟩)
          · simp at h
      · split at h
        · unfold branch at h
          split at h
          · rename_i a
            split at h
            · simp at h
              rw [← h]
              refine ⟨hs.ts, fun f hf => ?_⟩
              simp at hf
              rcases hf with hf | rfl
              · exact hs.fs f hf
              · exact ⟨by simp [okL_nil, okL_cons], opd_bd _⟩
            · simp at h
          · simp at h
        · unfold one at h
          split at h
          · rename_i hc
            simp only [Bool.and_eq_true] at hc
            simp at h
            rw [← h]
            exact put_ok _ _ ⟨hs.ts, hs.fs⟩ (by simp only [okT, okL_nil, okL_cons]; exact ⟨⟨stmt_ok _ _ hc.2, stmt_op _ _ hc.2⟩, trivial⟩)
          · simp at h

theorem run_ok (xs : List (List UInt8)) : ∀ (s s' : St) (i : Int), OkS s → (run s i xs).1 = some s' → OkS s' := by
  induction xs with
  | nil => intro s s' i hs h; simp [run] at h; rw [← h]; exact hs
  | cons x xs ih =>
    intro s s' i hs h
    simp only [run] at h
    cases hw : (P.splitAt 32 x).map mkB with
    | nil => rw [hw] at h; simp at h
    | cons c w =>
      rw [hw] at h
      simp only [] at h
      cases hst : step s (i + 1) c w with
      | none => rw [hst] at h; simp at h
      | some s2 =>
        rw [hst] at h
        exact ih s2 s' (i + 1) (step_ok hs hst) h

theorem read_ok (l : List UInt8) : ∀ t ∈ (read l).1, okL t.body := by
  unfold read
  split
  · simp
  · have R0 := run_ok (P.splitAt 10 l).dropLast St.zero
    have R1 := fun s' => R0 s' 0 ⟨by simp [St.zero], by simp [St.zero]⟩
    clear R0
    generalize run St.zero 0 (P.splitAt 10 l).dropLast = o at R1 ⊢
    obtain ⟨o, n⟩ := o
    cases o with
    | none => simp
    | some s =>
      have := R1 s rfl
      have e : ∀ t : Th, t ∈ ([] : List Th) → okL t.body := fun t ht => by simp at ht
      simp only []
      repeat' split
      all_goals first | exact this.ts | exact e
end R
end Go.Proofs.YtpkjmdcabdplfaaGreatDoor

namespace Go.Proofs.YtpkjmdcabdplfaaGreatDoor
open Go

namespace R
def opnSz : List Fr → Int
  | [] => 0
  | f :: r => (1 + sizeL f.l) + opnSz r
def lastSz : List Th → Int
  | [] => 0
  | [t] => sizeL t.body
  | _ :: u :: r => lastSz (u :: r)
theorem lastSz_snoc (ts : List Th) (t : Th) : lastSz (ts ++ [t]) = sizeL t.body := by
  induction ts with
  | nil => rfl
  | cons a r ih => cases r with
    | nil => rfl
    | cons b q => simpa [lastSz] using ih
theorem opnSz_snoc (fs : List Fr) (f : Fr) : opnSz (fs ++ [f]) = opnSz fs + (1 + sizeL f.l) := by
  induction fs with
  | nil => simp [opnSz]
  | cons a r ih => simp only [List.cons_append, opnSz, ih]; omega
theorem sizeL_nn (l : List Tree) : 0 ≤ sizeL l := (numL_bd (fun _ => true) l).1
theorem opnSz_nn (fs : List Fr) : 0 ≤ opnSz fs := by
  induction fs with
  | nil => simp [opnSz]
  | cons f r ih => have := sizeL_nn f.l; simp only [opnSz]; omega
theorem lastSz_nn : ∀ ts : List Th, 0 ≤ lastSz ts
  | [] => by simp [lastSz]
  | [t] => by simpa [lastSz] using sizeL_nn t.body
  | _ :: u :: r => by simpa [lastSz] using lastSz_nn (u :: r)
theorem sizeL_snoc (l : List Tree) (x : Lh) (b : List Tree) : sizeL (l ++ [.mk x b]) = sizeL l + (1 + sizeL b) := by
  unfold sizeL
  rw [numL_append]
  simp [numL_nil, numL_cons, numT]

structure SzS (s : St) : Prop where
  all : ∀ t ∈ s.ts, sizeL t.body ≤ 8
  sum : lastSz s.ts + opnSz s.opn ≤ s.count
  cnt : s.count ≤ 8
  nth : s.ts.length ≤ 4
  nop : s.opn.length ≤ 2
  blk : ∀ t ∈ s.ts, t.block = 0 ∨ t.block = 1

theorem SzS.zero : SzS St.zero := ⟨by simp [St.zero], by simp [St.zero, lastSz, opnSz], by simp [St.zero], by simp [St.zero], by simp [St.zero], by simp [St.zero]⟩

theorem put_sz (s : St) (x : Lh) (b : List Tree) (hts : s.ts ≠ []) (h1 : ∀ t ∈ s.ts, sizeL t.body ≤ 8) (h2 : lastSz s.ts + opnSz s.opn + (1 + sizeL b) ≤ s.count) (h3 : s.count ≤ 8) (h4 : s.ts.length ≤ 4) (h5 : s.opn.length ≤ 2) (h6 : ∀ t ∈ s.ts, t.block = 0 ∨ t.block = 1) : SzS (put s (.mk x b)) := by
  obtain ⟨us, t, e⟩ := snoc_of s.ts hts
  have hb := sizeL_nn b
  have ho := opnSz_nn s.opn
  unfold put
  cases hop : s.opn.isEmpty
  · obtain ⟨fs, f, ef⟩ := snoc_of s.opn (by intro h; simp [h] at hop)
    simp only [Bool.false_eq_true, if_false]
    rw [ef, addTop_snoc]
    rw [ef, opnSz_snoc] at h2
    refine ⟨h1, ?_, h3, h4, ?_, h6⟩
    · show lastSz s.ts + opnSz (fs ++ [_]) ≤ s.count
      rw [opnSz_snoc, sizeL_snoc]; omega
    · rw [ef] at h5; simpa using h5
  · simp only [if_true]
    rw [e, addLast_snoc]
    rw [e, lastSz_snoc] at h2
    rw [e] at h1 h4 h6
    have hz : sizeL (t.body ++ [.mk x b]) ≤ 8 := by rw [sizeL_snoc]; omega
    refine ⟨fun u hu => ?_, ?_, h3, by simpa using h4, h5, fun u hu => ?_⟩
    · simp at hu
      rcases hu with hu | rfl
      · exact h1 u (by simp [hu])
      · exact hz
    · show lastSz (us ++ [_]) + opnSz s.opn ≤ s.count
      rw [lastSz_snoc, sizeL_snoc]; omega
    · simp at hu
      rcases hu with hu | rfl
      · exact h6 u (by simp [hu])
      · exact h6 t (by simp)

theorem bl_bd (v : List UInt8) : -1 ≤ inn v bl ∧ inn v bl < 2 := by
  rw [inn_bl]; (repeat' split) <;> omega

theorem step_sz {s s' : St} {i : Int} {c : ByteArray} {w : List ByteArray} (hs : SzS s) (h : step s i c w = some s') : SzS s' := by
  have ho := opnSz_nn s.opn
  have hl := lastSz_nn s.ts
  unfold step at h
  split at h
  · unfold begins at h
    split at h
    · rename_i d
      split at h
      · rename_i hc
        simp at h hc
        rw [← h]
        have hb := bl_bd d.toList
        refine ⟨fun t ht => ?_, ?_, by simp, ?_, hs.nop, fun t ht => ?_⟩
        · simp at ht
          rcases ht with ht | rfl
          · exact hs.all t ht
          · simp [sizeL, numL_nil, numL_cons]
        · show lastSz (s.ts ++ [_]) + opnSz s.opn ≤ 0
          rw [lastSz_snoc, hc.1.2]; simp [sizeL, numL_nil, numL_cons, opnSz]
        · have := hs.nth
          simp; omega
        · simp at ht
          rcases ht with ht | rfl
          · exact hs.blk t ht
          · have := hc.1.1; simp only []; omega
      · simp at h
    · simp at h
  · split at h
    · simp at h
    · rename_i hne
      have hts : s.ts ≠ [] := by intro e; simp [e] at hne
      split at h
      · unfold ends at h
        split at h
        · simp at h
        · rename_i f hf
          split at h
          · simp at h
            rw [← h]
            obtain ⟨fs, g, e⟩ := snoc_of s.opn (by intro e; rw [e] at hf; simp at hf)
            rw [e] at hf
            simp at hf
            subst hf
            have h2 := hs.sum
            have h5 := hs.nop
            rw [e, opnSz_snoc] at h2
            rw [e] at h5
            refine put_sz _ _ _ hts hs.all ?_ hs.cnt hs.nth ?_ hs.blk
            · simp only [e, List.dropLast_concat]; omega
            · simp only [e, List.dropLast_concat]; simp at h5; omega
          · simp at h
      · split at h
        · unfold branch at h
          split at h
          · rename_i a
            split at h
            · rename_i hc
              simp at h hc
              rw [← h]
              refine ⟨hs.all, ?_, ?_, hs.nth, ?_, hs.blk⟩
              · show lastSz s.ts + opnSz (s.opn ++ [_]) ≤ s.count + 1
                have := hs.sum
                rw [opnSz_snoc]; simp [sizeL, numL_nil, numL_cons]; omega
              · show s.count + 1 ≤ 8
                omega
              · simp; omega
            · simp at h
          · simp at h
        · unfold one at h
          split at h
          · rename_i hc
            simp only [Bool.and_eq_true, decide_eq_true_eq] at hc
            simp at h
            rw [← h]
            have := hs.sum
            refine put_sz _ _ _ hts hs.all ?_ ?_ hs.nth hs.nop hs.blk
            · simp [sizeL, numL_nil, numL_cons]; omega
            · simp only []; omega
          · simp at h

theorem run_sz (xs : List (List UInt8)) : ∀ (s s' : St) (i : Int), SzS s → (run s i xs).1 = some s' → SzS s' := by
  induction xs with
  | nil => intro s s' i hs h; simp [run] at h; rw [← h]; exact hs
  | cons x xs ih =>
    intro s s' i hs h
    simp only [run] at h
    cases hw : (P.splitAt 32 x).map mkB with
    | nil => rw [hw] at h; simp at h
    | cons c w =>
      rw [hw] at h
      simp only [] at h
      cases hst : step s (i + 1) c w with
      | none => rw [hst] at h; simp at h
      | some s2 =>
        rw [hst] at h
        exact ih s2 s' (i + 1) (step_sz hs hst) h

structure Sm (ts : List Th) : Prop where
  all : ∀ t ∈ ts, sizeL t.body ≤ 8
  nth : ts.length ≤ 4
  blk : ∀ t ∈ ts, t.block = 0 ∨ t.block = 1

theorem read_sz (l : List UInt8) : Sm (read l).1 := by
  have z : Sm [] := ⟨by simp, by simp, by simp⟩
  unfold read
  split
  · exact z
  · have R1 := fun s' => run_sz (P.splitAt 10 l).dropLast St.zero s' 0 SzS.zero
    generalize run St.zero 0 (P.splitAt 10 l).dropLast = o at R1 ⊢
    obtain ⟨o, n⟩ := o
    cases o with
    | none => exact z
    | some s =>
      have := R1 s rfl
      simp only []
      repeat' split
      all_goals first | exact ⟨this.all, this.nth, this.blk⟩ | exact z
end R
end Go.Proofs.YtpkjmdcabdplfaaGreatDoor

namespace Go.Proofs.YtpkjmdcabdplfaaGreatDoor
open Go Go.RowKit
set_option maxRecDepth 100000

namespace R
theorem textL_append (a b : List Tree) : ∀ n : Int, textL n (a ++ b) = ((textL n a).1 ++ (textL (textL n a).2 b).1, (textL (textL n a).2 b).2) := by
  induction a with
  | nil => intro n; simp [textL_nil, textL_cons]
  | cons t r ih => intro n; simp only [List.cons_append, textL_nil, textL_cons, ih, List.append_assoc]
theorem textL_snoc (n : Int) (l : List Tree) (k : Nat) (h : k < l.length) : textL n (l.take (k + 1)) = ((textL n (l.take k)).1 ++ (textT (textL n (l.take k)).2 l[k]).1, (textT (textL n (l.take k)).2 l[k]).2) := by
  rw [List.take_succ_eq_append_getElem h, textL_append]
  simp [textL_nil, textL_cons]

theorem text_lab : (∀ (t : Tree) (n : Int), n ≤ (textT n t).2 ∧ (textT n t).2 ≤ n + numT (fun _ => true) t) ∧ ∀ (l : List Tree) (n : Int), n ≤ (textL n l).2 ∧ (textL n l).2 ≤ n + sizeL l := by
  have hl : ∀ (l : List Tree) (n : Int), n ≤ (textL n l).2 ∧ (textL n l).2 ≤ n + sizeL l := by
    intro l
    induction l using numL.induct with
    | case1 => intro n; simp [textL_nil, sizeL, numL_nil]
    | case2 x b r h1 h2 =>
      intro n
      simp only [textL_cons, sizeL, numL_cons, textT, numT, if_true] at *
      have hb := (numL_bd (fun _ => true) b).1
      split
      · have a := h1 (n + 1)
        have c := h2 (textL (n + 1) b).2
        simp only []; omega
      · have c := h2 n
        simp only []; omega
  refine ⟨fun t n => ?_, hl⟩
  cases t with
  | mk x b =>
    simp only [textT, numT, if_true]
    have := (numL_bd (fun _ => true) b).1
    split
    · have h := hl b (n + 1)
      unfold sizeL at h
      simp only []; omega
    · simp only []; omega

theorem okL_get (l : List Tree) : okL l → ∀ (k : Nat) (h : k < l.length), Fit l[k].x ∧ okL l[k].body := by
  induction l with
  | nil => intro _ k h; simp at h
  | cons t r ih =>
    intro h k hk
    simp only [okL_nil, okL_cons] at h
    cases k with
    | zero =>
      cases t with
      | mk x b => simp only [okT] at h; exact h.1
    | succ k => exact ih h.2 k (by simpa using hk)

theorem signs_bd (v : List UInt8) : inn v signs < 0 ∨ inn v signs = 0 ∨ inn v signs = 1 ∨ inn v signs = 2 := by
  rw [inn_lit v signs [[43], [45], [61, 61]] (by decide)]
  by_cases h1 : v = [43]
  · subst h1; decide
  by_cases h2 : v = [45]
  · subst h2; decide
  by_cases h3 : v = [61, 61]
  · subst h3; decide
  simp [idxFrom, Ne.symm h1, Ne.symm h2, Ne.symm h3]
end R

namespace R
theorem op_facts (x : Lh) (o : List UInt8) (h : x.op.toList = o) : (x.op.toList == [108, 111, 97, 100]) = (o == [108, 111, 97, 100]) ∧ (x.op.toList == [115, 116, 111, 114, 101]) = (o == [115, 116, 111, 114, 101]) ∧ (x.op.toList == [97, 100, 100]) = (o == [97, 100, 100]) ∧ (x.op.toList == [115, 119, 97, 112]) = (o == [115, 119, 97, 112]) ∧ (x.op.toList == [102, 101, 110, 99, 101]) = (o == [102, 101, 110, 99, 101]) ∧ (x.op.toList == [98, 97, 114, 114, 105, 101, 114]) = (o == [98, 97, 114, 114, 105, 101, 114]) ∧ (x.op.toList == [115, 101, 116]) = (o == [115, 101, 116]) ∧ (x.op.toList == [105, 102]) = (o == [105, 102]) := by
  rw [h]; exact ⟨rfl, rfl, rfl, rfl, rfl, rfl, rfl, rfl⟩
theorem line_load (x : Lh) (h : x.op.toList = [108, 111, 97, 100]) : lineT x = [108, 100, 46] ++ scopd x.ord.toList x.scope.toList ++ [32] ++ regT x ++ [44, 32] ++ celT x.var := by
  unfold lineT
  simp [h, sLoad, sStore, sFence, sBarrier, lAdd, lSwap, lit_toList]
theorem line_store (x : Lh) (h : x.op.toList = [115, 116, 111, 114, 101]) : lineT x = [115, 116, 46] ++ scopd x.ord.toList x.scope.toList ++ [32] ++ celT x.var ++ [44, 32] ++ shown x.a := by
  unfold lineT
  simp [h, sLoad, sStore, sFence, sBarrier, lAdd, lSwap, lit_toList]
theorem line_add (x : Lh) (h : x.op.toList = [97, 100, 100]) : lineT x = [97, 116, 111, 109, 46, 97, 100, 100, 46] ++ scopd x.ord.toList x.scope.toList ++ [32] ++ regT x ++ [44, 32] ++ celT x.var ++ [44, 32] ++ shown x.a := by
  unfold lineT
  simp [h, sLoad, sStore, sFence, sBarrier, lAdd, lSwap, lit_toList]
theorem line_swap (x : Lh) (h : x.op.toList = [115, 119, 97, 112]) : lineT x = [97, 116, 111, 109, 46, 101, 120, 99, 104, 46] ++ scopd x.ord.toList x.scope.toList ++ [32] ++ regT x ++ [44, 32] ++ celT x.var ++ [44, 32] ++ shown x.a := by
  unfold lineT
  simp [h, sLoad, sStore, sFence, sBarrier, lAdd, lSwap, lit_toList]
theorem line_fence (x : Lh) (h : x.op.toList = [102, 101, 110, 99, 101]) : lineT x = [102, 101, 110, 99, 101, 46] ++ scopd x.ord.toList x.scope.toList := by
  unfold lineT
  simp [h, sLoad, sStore, sFence, sBarrier, lAdd, lSwap, lit_toList]
theorem line_barrier (x : Lh) (h : x.op.toList = [98, 97, 114, 114, 105, 101, 114]) : lineT x = [98, 97, 114, 46, 115, 121, 110, 99] := by
  unfold lineT
  simp [h, sLoad, sStore, sFence, sBarrier, lAdd, lSwap, lit_toList]
theorem line_mov (x : Lh) (h : x.op.toList = [115, 101, 116]) (hs : inn x.sign.toList signs < 0) : lineT x = [109, 111, 118, 32] ++ regT x ++ [44, 32] ++ shown x.a := by
  unfold lineT
  simp [h, hs, sLoad, sStore, sFence, sBarrier, lAdd, lSwap, lit_toList]
theorem line_set (x : Lh) (q : Int) (h : x.op.toList = [115, 101, 116]) (hq : inn x.sign.toList signs = q) (hs : ¬ q < 0) : lineT x = (if q == 0 then [97, 100, 100] else if q == 1 then [115, 117, 98] else [115, 101, 116, 101, 113]) ++ [32] ++ regT x ++ [44, 32] ++ shown x.a ++ [44, 32] ++ shown x.b := by
  unfold lineT
  simp [h, hq, hs, sLoad, sStore, sFence, sBarrier, lAdd, lSwap, lit_toList]
theorem text_leaf (n : Int) (t : Tree) (h : (t.x.op.toList == [105, 102]) = false) : textT n t = (lineT t.x ++ [10], n) := by
  cases t with
  | mk x b =>
    simp only [] at h ⊢
    simp only [textT, h, Bool.false_eq_true, if_false]
theorem text_if (n : Int) (t : Tree) (h : (t.x.op.toList == [105, 102]) = true) : textT n t = ([98, 122, 32] ++ shown t.x.a ++ [44, 32] ++ P.labT (n + 1) ++ [10] ++ (textL (n + 1) t.body).1 ++ P.labT (n + 1) ++ [58, 10], (textL (n + 1) t.body).2) := by
  cases t with
  | mk x b =>
    simp only [] at h ⊢
    simp only [textT, h, if_true]
end R

/-- block g holds the writer, without fences -/
def WrAt (w : World) (g : Nat) (t : ByteArray) (n : Int) (pv : Value) : Prop := w.heap[g]? = some (.cells #[.string t, .int .i64 n, pv, .bool false] 62 (0, 0))

theorem WrAt.facts {w : World} {g : Nat} {t : ByteArray} {n : Int} {pv : Value} (h : WrAt w g t n pv) : g < w.heap.size ∧ (∀ i, w.frozen? ⟨g, i, none⟩ = false) ∧ w.cell? ⟨g, 0, none⟩ = some (.string t) ∧ w.cell? ⟨g, 1, none⟩ = some (.int .i64 n) ∧ w.cell? ⟨g, 2, none⟩ = some pv ∧ w.cell? ⟨g, 3, none⟩ = some (.bool false) := by
  unfold WrAt at h
  refine ⟨(Array.getElem?_eq_some_iff.1 h).1, fun i => ?_, ?_, ?_, ?_, ?_⟩ <;> simp [World.cell?, World.frozen?, h]
theorem WrAt.lt {w : World} {g : Nat} {t : ByteArray} {n : Int} {pv : Value} (h : WrAt w g t n pv) : g < w.heap.size := h.facts.1
theorem WrAt.of_block {w w' : World} {g : Nat} {t : ByteArray} {n : Int} {pv : Value} (h : WrAt w g t n pv) (e : w'.heap[g]? = w.heap[g]?) : WrAt w' g t n pv := by
  unfold WrAt at *; rw [e]; exact h
theorem WrAt.below {w w' : World} {g : Nat} {t : ByteArray} {n : Int} {pv : Value} (h : WrAt w g t n pv) (hb : Below w.heap.size w w') : WrAt w' g t n pv := h.of_block (hb.block g h.lt)
theorem WrAt.alloc {w : World} {g : Nat} {t : ByteArray} {n : Int} {pv : Value} (h : WrAt w g t n pv) (o : Obj) : WrAt (w.alloc o) g t n pv := h.of_block (Below.heap_alloc _ _ _ h.lt)
theorem WrAt.setT {w : World} {g : Nat} {t : ByteArray} {n : Int} {pv : Value} (h : WrAt w g t n pv) (t' : ByteArray) : WrAt (w.setCell ⟨g, 0, none⟩ (.string t')) g t' n pv := by
  unfold WrAt at *; rw [setCell_block h]; rfl
theorem WrAt.setN {w : World} {g : Nat} {t : ByteArray} {n : Int} {pv : Value} (h : WrAt w g t n pv) (n' : Int) : WrAt (w.setCell ⟨g, 1, none⟩ (.int .i64 n')) g t n' pv := by
  unfold WrAt at *; rw [setCell_block h]; rfl
theorem WrAt.setP {w : World} {g : Nat} {t : ByteArray} {n : Int} {pv : Value} (h : WrAt w g t n pv) (p' : Value) : WrAt (w.setCell ⟨g, 2, none⟩ p') g t n p' := by
  unfold WrAt at *; rw [setCell_block h]; rfl
end Go.Proofs.YtpkjmdcabdplfaaGreatDoor

namespace Go.Proofs.YtpkjmdcabdplfaaGreatDoor
open Go Go.RowKit

theorem own_one {w : World} {B : Nat} {e : TypeId} {sz : Nat} {v : Value} {n : Nat} {xs ys : List Value} (h : w.ownsRow B e sz v n xs) (k : w.ownsRow B e sz v n ys) : xs = ys := by
  rcases h.2 with ⟨e1, h0⟩ | ⟨g, c, cur, e1, _, hg, _, _, _, ht⟩
  · have a := h.1
    have b := k.1
    rw [h0] at a b
    simp at a b
    rw [a, b]
  · rcases k.2 with ⟨e2, _⟩ | ⟨g', c', cur', e2, _, hg', _, _, _, ht'⟩
    · rw [e1] at e2; simp at e2
    · rw [e1] at e2
      simp at e2
      obtain ⟨rfl, rfl⟩ := e2
      rw [hg] at hg'
      simp at hg'
      rw [← ht, ← ht', hg']

theorem own_popN {w : World} {B : Nat} {e : TypeId} {sz k n cap : Nat} {xs ys : List Value} (h : w.ownsRow B e sz (.slice (some ⟨k, 0, none⟩) (n + 1) cap) (n + 1) (xs ++ ys)) (hx : xs.length = n * sz) : w.ownsRow B e sz (.slice (some ⟨k, 0, none⟩) n cap) n xs := by
  rcases h.2 with ⟨h', _⟩ | ⟨g', cap', cur, h', hb, hg, hnc, hcm, hcs, htake⟩
  · simp at h'
  · simp only [Value.slice.injEq, Option.some.injEq, Addr.mk.injEq, and_true, true_and] at h'
    obtain ⟨rfl, rfl⟩ := h'
    refine ⟨hx, .inr ⟨k, cap, cur, rfl, hb, hg, by omega, hcm, hcs, ?_⟩⟩
    have e : cur.toList.take (n * sz) = (cur.toList.take ((n + 1) * sz)).take (n * sz) := by
      rw [List.take_take]; congr 1
      rw [Nat.add_mul]; omega
    rw [e, htake, ← hx]
    simp

theorem LinesAt.typed {w : World} {B : Nat} {v : Value} {l : List R.Tree} {F : List Nat} (h : LinesAt w B v l F) : ∀ k ∈ F, ∃ cur, w.heap[k]? = some (.cells cur 49 (0, 0)) := by
  induction h using LinesAt.ind with
  | @row v l vs Fs ho hv hF hc hn ih =>
    intro k hk
    simp only [List.mem_append, List.mem_flatten, Option.mem_toList] at hk
    rcases hk with hk | ⟨F, hF', hk⟩
    · exact own_type ho hk
    · obtain ⟨i, hi, e⟩ := List.mem_iff_getElem.1 hF'
      have h1 : i < l.length := by omega
      have h2 : i < vs.length := by omega
      exact ih i l[i] vs[i] F (by simp [h1]) (by simp [h2]) (by simp [hi, e]) k hk

theorem LinesAt.own0 {w : World} {B : Nat} {v : Value} {l : List R.Tree} {F : List Nat} (h : LinesAt w B v l F) : ∃ xs, w.ownsRow B 49 9 v l.length xs := by
  cases h using LinesAt.cs with
  | row ho _ _ _ _ => exact ⟨_, ho⟩

/-- rows of lines, one behind the other, no block in two of them -/
def Kids (w : World) (B : Nat) (vs : List Value) (ls : List (List R.Tree)) (G : List Nat) : Prop :=
  ∀ M : List Value → List (List R.Tree) → List Nat → Prop, M [] [] [] → (∀ (vs : List Value) (ls : List (List R.Tree)) (G : List Nat) (u : Value) (l : List R.Tree) (F : List Nat), M vs ls G → LinesAt w B u l F → (∀ k ∈ F, k ∉ G) → M (vs ++ [u]) (ls ++ [l]) (G ++ F)) → M vs ls G
theorem Kids.nil {w : World} {B : Nat} : Kids w B [] [] [] := fun _ h1 _ => h1
theorem Kids.snoc {w : World} {B : Nat} {vs : List Value} {ls : List (List R.Tree)} {G : List Nat} {u : Value} {l : List R.Tree} {F : List Nat} (h : Kids w B vs ls G) (g : LinesAt w B u l F) (d : ∀ k ∈ F, k ∉ G) : Kids w B (vs ++ [u]) (ls ++ [l]) (G ++ F) :=
  fun M h1 h2 => h2 _ _ _ _ _ _ (h M h1 h2) g d
theorem Kids.ind {w : World} {B : Nat} {motive : ∀ (vs : List Value) (ls : List (List R.Tree)) (G : List Nat), Kids w B vs ls G → Prop} (nil : motive [] [] [] Kids.nil)
    (snoc : ∀ {vs : List Value} {ls : List (List R.Tree)} {G : List Nat} {u : Value} {l : List R.Tree} {F : List Nat} (h : Kids w B vs ls G) (g : LinesAt w B u l F) (d : ∀ k ∈ F, k ∉ G), motive vs ls G h → motive (vs ++ [u]) (ls ++ [l]) (G ++ F) (Kids.snoc h g d))
    {vs : List Value} {ls : List (List R.Tree)} {G : List Nat} (h : Kids w B vs ls G) : motive vs ls G h :=
  (h (fun vs ls G => ∃ h : Kids w B vs ls G, motive vs ls G h) ⟨_, nil⟩ (fun _ _ _ _ _ _ ⟨h, h'⟩ g d => ⟨Kids.snoc h g d, snoc h g d h'⟩)).2
theorem Kids.cs {w : World} {B : Nat} {motive : ∀ (vs : List Value) (ls : List (List R.Tree)) (G : List Nat), Kids w B vs ls G → Prop} (nil : motive [] [] [] Kids.nil)
    (snoc : ∀ {vs : List Value} {ls : List (List R.Tree)} {G : List Nat} {u : Value} {l : List R.Tree} {F : List Nat} (h : Kids w B vs ls G) (g : LinesAt w B u l F) (d : ∀ k ∈ F, k ∉ G), motive (vs ++ [u]) (ls ++ [l]) (G ++ F) (Kids.snoc h g d))
    {vs : List Value} {ls : List (List R.Tree)} {G : List Nat} (h : Kids w B vs ls G) : motive vs ls G h := Kids.ind nil (fun h g d _ => snoc h g d) h

theorem Kids.len {w : World} {B : Nat} {vs : List Value} {ls : List (List R.Tree)} {G : List Nat} (h : Kids w B vs ls G) : vs.length = ls.length := by
  induction h using Kids.ind with
  | nil => rfl
  | snoc _ _ _ ih => simp [ih]

theorem Kids.last {w : World} {B : Nat} {vs : List Value} {u : Value} {ls : List (List R.Tree)} {l : List R.Tree} {G : List Nat} (h : Kids w B (vs ++ [u]) (ls ++ [l]) G) : ∃ Ga F, G = Ga ++ F ∧ Kids w B vs ls Ga ∧ LinesAt w B u l F ∧ ∀ k ∈ F, k ∉ Ga := by
  generalize hv : vs ++ [u] = vs' at h
  generalize hl : ls ++ [l] = ls' at h
  cases h using Kids.cs with
  | nil => simp at hv
  | snoc h1 h2 h3 =>
    obtain ⟨a, b⟩ := List.append_inj' hv rfl
    obtain ⟨c, d⟩ := List.append_inj' hl rfl
    simp at b d
    subst a b c d
    exact ⟨_, _, rfl, h1, h2, h3⟩

theorem Kids.keep {w w' : World} {B : Nat} {vs : List Value} {ls : List (List R.Tree)} {G : List Nat} (h : Kids w B vs ls G) (hk : ∀ k ∈ G, w'.heap[k]? = w.heap[k]?) : Kids w' B vs ls G := by
  induction h using Kids.ind with
  | nil => exact .nil
  | snoc h1 h2 h3 ih => exact .snoc (ih (fun k hkG => hk k (List.mem_append_left _ hkG))) (h2.keep (fun k hkF => hk k (List.mem_append_right _ hkF))) h3

theorem Kids.typed {w : World} {B : Nat} {vs : List Value} {ls : List (List R.Tree)} {G : List Nat} (h : Kids w B vs ls G) : ∀ k ∈ G, ∃ cur, w.heap[k]? = some (.cells cur 49 (0, 0)) := by
  induction h using Kids.ind with
  | nil => simp
  | snoc h1 h2 h3 ih =>
    intro k hk
    rcases List.mem_append.1 hk with hk | hk
    · exact ih k hk
    · exact h2.typed k hk
theorem Kids.lt {w : World} {B : Nat} {vs : List Value} {ls : List (List R.Tree)} {G : List Nat} (h : Kids w B vs ls G) : ∀ k ∈ G, k < w.heap.size := fun k hk => by
  obtain ⟨c, hc⟩ := h.typed k hk
  exact (Array.getElem?_eq_some_iff.1 hc).1

theorem Kids.all {w : World} {B : Nat} {vs : List Value} {ls : List (List R.Tree)} {G : List Nat} (h : Kids w B vs ls G) : ∃ Fs : List (List Nat), Fs.length = ls.length ∧ ∀ (i : Nat) (l : List R.Tree) (u : Value) (F : List Nat), ls[i]? = some l → vs[i]? = some u → Fs[i]? = some F → LinesAt w B u l F := by
  induction h using Kids.ind with
  | nil => exact ⟨[], rfl, by simp⟩
  | @snoc vs ls G u l F h1 h2 h3 ih =>
    obtain ⟨Fs, e, hF⟩ := ih
    have hl := h1.len
    refine ⟨Fs ++ [F], by simp [e], fun i l' u' F' hl' hu' hF' => ?_⟩
    by_cases hi : i < ls.length
    · rw [List.getElem?_append_left hi] at hl'
      rw [List.getElem?_append_left (by omega)] at hu' hF'
      exact hF i l' u' F' hl' hu' hF'
    · have hi' : i = ls.length := by
        have := (List.getElem?_eq_some_iff.1 hl').1
        simp at this; omega
      subst hi'
      rw [List.getElem?_append_right (by omega)] at hl' hu' hF'
      simp at hl'
      simp [hl] at hu'
      simp [e] at hF'
      subst hl' hu' hF'
      exact h2

/-- ONE TREE MORE in the last row -/
theorem Kids.put {w w' : World} {B : Nat} {vs : List Value} {u u' : Value} {ls : List (List R.Tree)} {l : List R.Tree} {G : List Nat} {x : R.Lh} {b : List R.Tree} {bv : Value} {F : List Nat} {xs : List Value}
    (h : Kids w B (vs ++ [u]) (ls ++ [l]) G) (hb : LinesAt w B bv b F) (hd : ∀ k ∈ F, k ∉ G)
    (hx : w.ownsRow B 49 9 u l.length xs) (ho : w'.ownsRow B 49 9 u' (l.length + 1) (xs ++ (lnCells x bv).toList))
    (hk : ∀ k, k < w.heap.size → some k ≠ u.ownBlock → (∃ cur, w.heap[k]? = some (.cells cur 49 (0, 0))) → w'.heap[k]? = w.heap[k]?)
    (hat : u'.ownBlock = u.ownBlock ∨ ∀ k, u'.ownBlock = some k → w.heap.size ≤ k) :
    ∃ G', Kids w' B (vs ++ [u']) (ls ++ [l ++ [.mk x b]]) G' := by
  obtain ⟨Ga, H, rfl, h1, h2, h3⟩ := h.last
  have hk2 : ∀ k, (k ∈ Ga ∨ k ∈ H ∨ k ∈ F) → some k ≠ u.ownBlock → w'.heap[k]? = w.heap[k]? := fun k hm hne => by
    have ht : ∃ cur, w.heap[k]? = some (.cells cur 49 (0, 0)) := by
      rcases hm with hm | hm | hm
      · exact h1.typed k hm
      · exact h2.typed k hm
      · exact hb.typed k hm
    obtain ⟨c, hc⟩ := ht
    exact hk k (Array.getElem?_eq_some_iff.1 hc).1 hne ⟨c, hc⟩
  have hda : ∀ k ∈ H, k ∉ F := fun k hk' hF => hd k hF (List.mem_append_right _ hk')
  obtain ⟨F', hF', hsub⟩ := LinesAt.snoc (x := x) h2 hb hda (fun vs hvs => by rw [own_one hvs hx]; exact ho) (fun k hm hne => hk2 k (Or.inr hm) hne) hat
  have hga : ∀ k ∈ Ga, some k ≠ u.ownBlock := fun k hkG e => h3 k (h2.own k e.symm) hkG
  refine ⟨_, .snoc (h1.keep (fun k hkG => hk2 k (Or.inl hkG) (hga k hkG))) hF' (fun k hkF hkG => ?_)⟩
  rcases hsub k hkF with h4 | h4 | h4
  · exact h3 k h4 hkG
  · exact hd k h4 (List.mem_append_left _ hkG)
  · rcases hat with ha | ha
    · exact hga k hkG (by rw [← ha, h4])
    · have := ha k h4
      have := h1.lt k hkG
      omega
end Go.Proofs.YtpkjmdcabdplfaaGreatDoor

namespace Go.Proofs.YtpkjmdcabdplfaaGreatDoor
open Go Go.RowKit

def frOne (a : Int) (v : Value) : List Value := v :: (lnCells (R.lIf a) (.slice none 0 0)).toList
def frCells : List R.Fr → List Value → List Value
  | f :: l, v :: vs => frOne f.a v ++ frCells l vs
  | _, _ => []

theorem frCells_length (l : List R.Fr) : ∀ (vs : List Value), vs.length = l.length → (frCells l vs).length = l.length * 10 := by
  induction l with
  | nil => intro vs _; simp [frCells]
  | cons t l ih =>
    intro vs h
    cases vs with
    | nil => simp at h
    | cons v vs =>
      have := ih vs (by simpa using h)
      simp only [frCells, List.length_append, this, List.length_cons]
      simp [frOne, lnCells]; omega

theorem frCells_append (l m : List R.Fr) : ∀ (vs us : List Value), vs.length = l.length → frCells (l ++ m) (vs ++ us) = frCells l vs ++ frCells m us := by
  induction l with
  | nil =>
    intro vs us h
    have : vs = [] := List.length_eq_zero_iff.1 h
    subst this
    simp [frCells]
  | cons t l ih =>
    intro vs us h
    cases vs with
    | nil => simp at h
    | cons v vs => simp only [List.cons_append, frCells, ih vs us (by simpa using h), List.append_assoc]

structure RdM (w : World) (B : Nat) (tv ov : Value) (ts : List R.Th) (fs : List R.Fr) (tvs ovs : List Value) (G : List Nat) : Prop where
  th : w.ownsRow B 46 3 tv ts.length (thCells ts tvs)
  fr : w.ownsRow B 51 10 ov fs.length (frCells fs ovs)
  lt : tvs.length = ts.length
  lo : ovs.length = fs.length
  kids : Kids w B (tvs ++ ovs) (ts.map R.Th.body ++ fs.map R.Fr.l) G

theorem RdM.zero (w : World) (B : Nat) : RdM w B (.slice none 0 0) (.slice none 0 0) [] [] [] [] [] :=
  ⟨World.ownsRow_nil _ _ _ _, World.ownsRow_nil _ _ _ _, rfl, rfl, .nil⟩

theorem RdM.keep {w w' : World} {B : Nat} {tv ov : Value} {ts : List R.Th} {fs : List R.Fr} {tvs ovs : List Value} {G : List Nat} (h : RdM w B tv ov ts fs tvs ovs G) (hb : ∀ k, k < w.heap.size → w'.heap[k]? = w.heap[k]?) : RdM w' B tv ov ts fs tvs ovs G :=
  ⟨ownsRow_keep h.th (fun k e => hb k (h.th.lt k e).2), ownsRow_keep h.fr (fun k e => hb k (h.fr.lt k e).2), h.lt, h.lo, h.kids.keep (fun k hk => hb k (h.kids.lt k hk))⟩

/-- a block of another type than the row's that has grown -/
theorem grown_typed {w W0 w1 : World} {B : Nat} {e : TypeId} {sz n : Nat} {v : Value} {xs : List Value} (h : w.ownsRow B e sz v n xs) (hk : ∀ k, k < w.heap.size → W0.heap[k]? = w.heap[k]?) (hsz : w.heap.size ≤ W0.heap.size) (hgrow : W0.grownBy w1 v.ownBlock)
    {k : Nat} {c : Array Value} {e' : TypeId} (hc : w.heap[k]? = some (.cells c e' (0, 0))) (hne : e ≠ e') : w1.heap[k]? = w.heap[k]? := by
  have hlt := (Array.getElem?_eq_some_iff.1 hc).1
  rw [hgrow.block k (by omega) (Ne.symm (own_ne_blk h hc hne)), hk k hlt]

theorem RdM.thread {w W0 w1 : World} {B : Nat} {tv tv' ov : Value} {ts : List R.Th} {tvs ovs : List Value} {G : List Nat} {b row : Int} (h : RdM w B tv ov ts [] tvs ovs G) (hk : ∀ k, k < w.heap.size → W0.heap[k]? = w.heap[k]?) (hsz : w.heap.size ≤ W0.heap.size)
    (hown : w1.ownsRow B 46 3 tv' (ts.length + 1) (thCells ts tvs ++ [.int .i64 b, .slice none 0 0, .int .i64 row])) (hgrow : W0.grownBy w1 tv.ownBlock) :
    RdM w1 B tv' ov (ts ++ [⟨b, [], row⟩]) [] (tvs ++ [.slice none 0 0]) ovs G := by
  have ho : ovs = [] := List.length_eq_zero_iff.1 h.lo
  subst ho
  refine ⟨?_, ?_, by simp [h.lt], rfl, ?_⟩
  · rw [thCells_append _ _ _ _ h.lt, List.length_append]
    simpa [thCells] using hown
  · refine ownsRow_keep h.fr (fun k e => ?_)
    obtain ⟨c, hc⟩ := own_type h.fr e
    exact grown_typed h.th hk hsz hgrow hc (by decide)
  · have h1 := h.kids.keep (w' := w1) (fun k hkG => by
      obtain ⟨c, hc⟩ := h.kids.typed k hkG
      exact grown_typed h.th hk hsz hgrow hc (by decide))
    have h2 := Kids.snoc h1 (LinesAt.nil w1 B) (by simp)
    simpa using h2

theorem RdM.branch {w W0 w1 : World} {B : Nat} {tv ov ov' : Value} {ts : List R.Th} {fs : List R.Fr} {tvs ovs : List Value} {G : List Nat} {a : Int} (h : RdM w B tv ov ts fs tvs ovs G) (hk : ∀ k, k < w.heap.size → W0.heap[k]? = w.heap[k]?) (hsz : w.heap.size ≤ W0.heap.size)
    (hown : w1.ownsRow B 51 10 ov' (fs.length + 1) (frCells fs ovs ++ frOne a (.slice none 0 0))) (hgrow : W0.grownBy w1 ov.ownBlock) :
    RdM w1 B tv ov' ts (fs ++ [⟨[], a⟩]) tvs (ovs ++ [.slice none 0 0]) G := by
  refine ⟨?_, ?_, h.lt, by simp [h.lo], ?_⟩
  · refine ownsRow_keep h.th (fun k e => ?_)
    obtain ⟨c, hc⟩ := own_type h.th e
    exact grown_typed h.fr hk hsz hgrow hc (by decide)
  · rw [frCells_append _ _ _ _ h.lo, List.length_append]
    simpa [frCells] using hown
  · have h1 := h.kids.keep (w' := w1) (fun k hkG => by
      obtain ⟨c, hc⟩ := h.kids.typed k hkG
      exact grown_typed h.fr hk hsz hgrow hc (by decide))
    have h2 := Kids.snoc h1 (LinesAt.nil w1 B) (by simp)
    simpa using h2

theorem RdM.pop {w : World} {B bo n cap : Nat} {tv u : Value} {ts : List R.Th} {fs : List R.Fr} {f : R.Fr} {tvs ovs : List Value} {G : List Nat} (h : RdM w B tv (.slice (some ⟨bo, 0, none⟩) (n + 1) cap) ts (fs ++ [f]) tvs (ovs ++ [u]) G) (hn : n = fs.length) :
    ∃ Ga F, RdM w B tv (.slice (some ⟨bo, 0, none⟩) n cap) ts fs tvs ovs Ga ∧ LinesAt w B u f.l F ∧ ∀ k ∈ F, k ∉ Ga := by
  subst hn
  have hlo : ovs.length = fs.length := by simpa using h.lo
  have hk := h.kids
  rw [List.map_append, ← List.append_assoc, ← List.append_assoc] at hk
  obtain ⟨Ga, F, _, h1, h2, h3⟩ := Kids.last hk
  refine ⟨Ga, F, ⟨h.th, ?_, h.lt, hlo, h1⟩, h2, h3⟩
  have hf := h.fr
  rw [frCells_append _ _ _ _ hlo] at hf
  simp only [List.length_append, List.length_cons, List.length_nil, Nat.zero_add] at hf
  exact own_popN hf (frCells_length _ _ hlo)

theorem RdM.putT {w W0 w1 : World} {B bt n cap : Nat} {ov u u' bv : Value} {us : List R.Th} {t : R.Th} {uvs ovs xs : List Value} {G F : List Nat} {x : R.Lh} {b : List R.Tree}
    (h : RdM w B (.slice (some ⟨bt, 0, none⟩) (n + 1) cap) ov (us ++ [t]) [] (uvs ++ [u]) ovs G) (hn : n = us.length) (hb : LinesAt w B bv b F) (hd : ∀ k ∈ F, k ∉ G)
    (hk : ∀ k, k < w.heap.size → W0.heap[k]? = w.heap[k]?) (hsz : w.heap.size ≤ W0.heap.size)
    (hx : w.ownsRow B 49 9 u t.body.length xs) (ho : w1.ownsRow B 49 9 u' (t.body.length + 1) (xs ++ (lnCells x bv).toList)) (hgrow : W0.grownBy w1 u.ownBlock)
    (hat : u'.ownBlock = u.ownBlock ∨ ∀ k, u'.ownBlock = some k → w.heap.size ≤ k) :
    ∃ G', RdM (w1.setCell ⟨bt, n * 3 + 1, none⟩ u') B (.slice (some ⟨bt, 0, none⟩) (n + 1) cap) ov (us ++ [{ t with body := t.body ++ [.mk x b] }]) [] (uvs ++ [u']) ovs G' := by
  subst hn
  have hov : ovs = [] := List.length_eq_zero_iff.1 h.lo
  subst hov
  have hlu : uvs.length = us.length := by simpa using h.lt
  have hth := h.th
  simp only [List.length_append, List.length_cons, List.length_nil, Nat.zero_add] at hth
  obtain ⟨cur, hcur⟩ := own_type hth (k := bt) rfl
  have hbt1 : w1.heap[bt]? = w.heap[bt]? := grown_typed hx hk hsz hgrow hcur (by decide)
  have other : ∀ k c e, w.heap[k]? = some (Obj.cells c e (0, 0)) → e ≠ 46 → e ≠ 49 → (w1.setCell ⟨bt, us.length * 3 + 1, none⟩ u').heap[k]? = w.heap[k]? := fun k c e hc h1 h2 => by
    rw [Below.heap_setCell _ _ _ _ (fun e' => by simp at e'; subst e'; rw [hcur] at hc; simp at hc; exact h1 hc.2.symm)]
    exact grown_typed hx hk hsz hgrow hc (Ne.symm h2)
  have line : ∀ k, (∃ c, w.heap[k]? = some (Obj.cells c 49 (0, 0))) → (w1.setCell ⟨bt, us.length * 3 + 1, none⟩ u').heap[k]? = w1.heap[k]? := fun k ⟨c, hc⟩ =>
    Below.heap_setCell _ _ _ _ (fun e' => by simp at e'; subst e'; rw [hcur] at hc; simp at hc)
  have ho2 : (w1.setCell ⟨bt, us.length * 3 + 1, none⟩ u').ownsRow B 49 9 u' (t.body.length + 1) (xs ++ (lnCells x bv).toList) := ownsRow_keep ho (fun k e => Below.heap_setCell _ _ _ _ (fun e' => by
    simp at e'; subst e'
    obtain ⟨c, hc⟩ := own_type ho e
    rw [hbt1, hcur] at hc; simp at hc))
  have hk0 := h.kids
  simp only [List.append_nil, List.map_append, List.map_cons, List.map_nil] at hk0
  obtain ⟨G', hG⟩ := Kids.put (w' := w1.setCell ⟨bt, us.length * 3 + 1, none⟩ u') (x := x) hk0 hb hd hx ho2 (fun k h1 h2 h3 => by rw [line k h3, hgrow.block k (by omega) h2, hk k h1]) hat
  refine ⟨G', ?_, ?_, by simp [hlu], rfl, by simpa using hG⟩
  · have h1 : w1.ownsRow B 46 3 (.slice (some ⟨bt, 0, none⟩) (us.length + 1) cap) (us.length + 1) (thCells (us ++ [t]) (uvs ++ [u])) := ownsRow_keep hth (fun k hk' => by
      simp [Value.ownBlock] at hk'; subst hk'; exact hbt1)
    have h2 := (h1.stored (us.length * 3 + 1) u').1
    rw [thCells_append _ _ _ _ hlu] at h2 ⊢
    have e2 : (thCells us uvs ++ thCells [t] [u]).set (us.length * 3 + 1) u' = thCells us uvs ++ thCells [{ t with body := t.body ++ [.mk x b] }] [u'] := by
      rw [List.set_append_right _ _ (by rw [thCells_length _ _ hlu]; omega), thCells_length _ _ hlu, show us.length * 3 + 1 - us.length * 3 = 1 by omega]
      rfl
    rw [e2] at h2
    simpa using h2
  · refine ownsRow_keep h.fr (fun k e => ?_)
    obtain ⟨c, hc⟩ := own_type h.fr e
    exact other k c _ hc (by decide) (by decide)

theorem RdM.putF {w W0 w1 : World} {B bo n cap : Nat} {tv u u' bv : Value} {ts : List R.Th} {fs : List R.Fr} {f : R.Fr} {tvs ovs xs : List Value} {G F : List Nat} {x : R.Lh} {b : List R.Tree}
    (h : RdM w B tv (.slice (some ⟨bo, 0, none⟩) (n + 1) cap) ts (fs ++ [f]) tvs (ovs ++ [u]) G) (hn : n = fs.length) (hb : LinesAt w B bv b F) (hd : ∀ k ∈ F, k ∉ G)
    (hk : ∀ k, k < w.heap.size → W0.heap[k]? = w.heap[k]?) (hsz : w.heap.size ≤ W0.heap.size)
    (hx : w.ownsRow B 49 9 u f.l.length xs) (ho : w1.ownsRow B 49 9 u' (f.l.length + 1) (xs ++ (lnCells x bv).toList)) (hgrow : W0.grownBy w1 u.ownBlock)
    (hat : u'.ownBlock = u.ownBlock ∨ ∀ k, u'.ownBlock = some k → w.heap.size ≤ k) :
    ∃ G', RdM (w1.setCell ⟨bo, n * 10, none⟩ u') B tv (.slice (some ⟨bo, 0, none⟩) (n + 1) cap) ts (fs ++ [{ f with l := f.l ++ [.mk x b] }]) tvs (ovs ++ [u']) G' := by
  subst hn
  have hlu : ovs.length = fs.length := by simpa using h.lo
  have hth := h.fr
  simp only [List.length_append, List.length_cons, List.length_nil, Nat.zero_add] at hth
  obtain ⟨cur, hcur⟩ := own_type hth (k := bo) rfl
  have hbt1 : w1.heap[bo]? = w.heap[bo]? := grown_typed hx hk hsz hgrow hcur (by decide)
  have other : ∀ k c e, w.heap[k]? = some (Obj.cells c e (0, 0)) → e ≠ 51 → e ≠ 49 → (w1.setCell ⟨bo, fs.length * 10, none⟩ u').heap[k]? = w.heap[k]? := fun k c e hc h1 h2 => by
    rw [Below.heap_setCell _ _ _ _ (fun e' => by simp at e'; subst e'; rw [hcur] at hc; simp at hc; exact h1 hc.2.symm)]
    exact grown_typed hx hk hsz hgrow hc (Ne.symm h2)
  have line : ∀ k, (∃ c, w.heap[k]? = some (Obj.cells c 49 (0, 0))) → (w1.setCell ⟨bo, fs.length * 10, none⟩ u').heap[k]? = w1.heap[k]? := fun k ⟨c, hc⟩ =>
    Below.heap_setCell _ _ _ _ (fun e' => by simp at e'; subst e'; rw [hcur] at hc; simp at hc)
  have ho2 : (w1.setCell ⟨bo, fs.length * 10, none⟩ u').ownsRow B 49 9 u' (f.l.length + 1) (xs ++ (lnCells x bv).toList) := ownsRow_keep ho (fun k e => Below.heap_setCell _ _ _ _ (fun e' => by
    simp at e'; subst e'
    obtain ⟨c, hc⟩ := own_type ho e
    rw [hbt1, hcur] at hc; simp at hc))
  have hk0 := h.kids
  rw [List.map_append, ← List.append_assoc, ← List.append_assoc] at hk0
  simp only [List.map_cons, List.map_nil] at hk0
  obtain ⟨G', hG⟩ := Kids.put (w' := w1.setCell ⟨bo, fs.length * 10, none⟩ u') (x := x) hk0 hb hd hx ho2 (fun k h1 h2 h3 => by rw [line k h3, hgrow.block k (by omega) h2, hk k h1]) hat
  refine ⟨G', ?_, ?_, h.lt, by simp [hlu], by simpa using hG⟩
  · refine ownsRow_keep h.th (fun k e => ?_)
    obtain ⟨c, hc⟩ := own_type h.th e
    exact other k c _ hc (by decide) (by decide)
  · have h1 : w1.ownsRow B 51 10 (.slice (some ⟨bo, 0, none⟩) (fs.length + 1) cap) (fs.length + 1) (frCells (fs ++ [f]) (ovs ++ [u])) := ownsRow_keep hth (fun k hk' => by
      simp [Value.ownBlock] at hk'; subst hk'; exact hbt1)
    have h2 := (h1.stored (fs.length * 10) u').1
    rw [frCells_append _ _ _ _ hlu] at h2 ⊢
    have e2 : (frCells fs ovs ++ frCells [f] [u]).set (fs.length * 10) u' = frCells fs ovs ++ frCells [{ f with l := f.l ++ [.mk x b] }] [u'] := by
      rw [List.set_append_right _ _ (by rw [frCells_length _ _ hlu]; omega), frCells_length _ _ hlu, show fs.length * 10 - fs.length * 10 = 0 by omega]
      rfl
    rw [e2] at h2
    simpa using h2

/-- the threads that are read, when nothing is open -/
theorem RdM.done {w : World} {B : Nat} {tv ov : Value} {ts : List R.Th} {tvs ovs : List Value} {G : List Nat} (h : RdM w B tv ov ts [] tvs ovs G) : ∃ Fs, ThsAt w B tv ts tvs Fs := by
  have hov : ovs = [] := List.length_eq_zero_iff.1 h.lo
  subst hov
  have hk := h.kids
  simp only [List.append_nil, List.map_nil] at hk
  obtain ⟨Fs, hl, hF⟩ := hk.all
  refine ⟨Fs, h.th, h.lt, by simpa using hl, fun i t u F ht hu hf => hF i t.body u F ?_ hu hf⟩
  rw [List.getElem?_map, ht]; rfl
end Go.Proofs.YtpkjmdcabdplfaaGreatDoor
