import Derived.Test.YtpkjmdcabdplfaaGreatDoorA24
import Derived.Test.YtpkjmdcabdplfaaGreatDoorA15
import Derived.Test.YtpkjmdcabdplfaaGreatDoorA01
import Derived.Test.YtpkjmdcabdplfaaGreatDoorA17
set_option linter.unusedVariables false
set_option linter.unusedSimpArgs false
namespace Go.Proofs.YtpkjmdcabdplfaaGreatDoor
open Go

structure IfT (st : P.Stm) (a n : Int) : Prop where
  k : st.kind = 10
  l : st.label = n
  o : P.opdT st.a = R.shown a

structure EndT (st : P.Stm) (n : Int) : Prop where
  k : st.kind = 11
  l : st.label = n

def Flat (n : Int) (l : List R.Tree) (ss : List P.Stm) (m : Int) : Prop :=
  ∀ M : Int → List R.Tree → List P.Stm → Int → Prop, (∀ n : Int, M n [] [] n) →
    (∀ (n m : Int) (st : P.Stm) (x : R.Lh) (l : List R.Tree) (ss : List P.Stm), Twin st x → ¬ x.op.toList = [105, 102] → M n l ss m → M n (.mk x [] :: l) (st :: ss) m) →
    (∀ (n m k a : Int) (st e : P.Stm) (b l : List R.Tree) (bs ss : List P.Stm), IfT st a (n + 1) → M (n + 1) b bs m → EndT e (n + 1) → M m l ss k → M n (.mk (R.lIf a) b :: l) (st :: (bs ++ e :: ss)) k) → M n l ss m
theorem Flat.nil (n : Int) : Flat n [] [] n := fun _ h1 _ _ => h1 n
theorem Flat.leaf {n m : Int} {st : P.Stm} {x : R.Lh} {l : List R.Tree} {ss : List P.Stm} (t : Twin st x) (o : ¬ x.op.toList = [105, 102]) (f : Flat n l ss m) : Flat n (.mk x [] :: l) (st :: ss) m :=
  fun M h1 h2 h3 => h2 _ _ _ _ _ _ t o (f M h1 h2 h3)
theorem Flat.node {n m k a : Int} {st e : P.Stm} {b l : List R.Tree} {bs ss : List P.Stm} (i : IfT st a (n + 1)) (f : Flat (n + 1) b bs m) (d : EndT e (n + 1)) (g : Flat m l ss k) : Flat n (.mk (R.lIf a) b :: l) (st :: (bs ++ e :: ss)) k :=
  fun M h1 h2 h3 => h3 _ _ _ _ _ _ _ _ _ _ i (f M h1 h2 h3) d (g M h1 h2 h3)
theorem Flat.ind {motive : ∀ (n : Int) (l : List R.Tree) (ss : List P.Stm) (m : Int), Flat n l ss m → Prop} (nil : ∀ n : Int, motive n [] [] n (Flat.nil n))
    (leaf : ∀ {n m : Int} {st : P.Stm} {x : R.Lh} {l : List R.Tree} {ss : List P.Stm} (t : Twin st x) (o : ¬ x.op.toList = [105, 102]) (f : Flat n l ss m), motive n l ss m f → motive n (.mk x [] :: l) (st :: ss) m (Flat.leaf t o f))
    (node : ∀ {n m k a : Int} {st e : P.Stm} {b l : List R.Tree} {bs ss : List P.Stm} (i : IfT st a (n + 1)) (f : Flat (n + 1) b bs m) (d : EndT e (n + 1)) (g : Flat m l ss k), motive (n + 1) b bs m f → motive m l ss k g → motive n (.mk (R.lIf a) b :: l) (st :: (bs ++ e :: ss)) k (Flat.node i f d g))
    {n : Int} {l : List R.Tree} {ss : List P.Stm} {m : Int} (h : Flat n l ss m) : motive n l ss m h :=
  (h (fun n l ss m => ∃ h : Flat n l ss m, motive n l ss m h) (fun n => ⟨_, nil n⟩) (fun _ _ _ _ _ _ t o ⟨f, f'⟩ => ⟨Flat.leaf t o f, leaf t o f f'⟩) (fun _ _ _ _ _ _ _ _ _ _ i ⟨f, f'⟩ d ⟨g, g'⟩ => ⟨Flat.node i f d g, node i f d g f' g'⟩)).2

theorem Flat.append {n m k : Int} {l q : List R.Tree} {ss tt : List P.Stm} (h : Flat n l ss m) (g : Flat m q tt k) : Flat n (l ++ q) (ss ++ tt) k := by
  induction h using Flat.ind with
  | nil n => simpa using g
  | leaf t o _ ih => simpa using Flat.leaf t o (ih g)
  | node i b e _ _ ih =>
    have := Flat.node i b e (ih g)
    simpa using this

def Opened (n : Int) (fs : List R.Fr) (q : List P.Stm) (ls : List Int) (k : Int) : Prop :=
  ∀ M : Int → List R.Fr → List P.Stm → List Int → Int → Prop, (∀ n : Int, M n [] [] [] n) →
    (∀ (n m k a : Int) (fs : List R.Fr) (q ss : List P.Stm) (ls : List Int) (st : P.Stm) (l : List R.Tree), M n fs q ls m → IfT st a (m + 1) → Flat (m + 1) l ss k → M n (fs ++ [⟨l, a⟩]) (q ++ st :: ss) (ls ++ [m + 1]) k) → M n fs q ls k
theorem Opened.nil (n : Int) : Opened n [] [] [] n := fun _ h1 _ => h1 n
theorem Opened.snoc {n m k a : Int} {fs : List R.Fr} {q ss : List P.Stm} {ls : List Int} {st : P.Stm} {l : List R.Tree} (h : Opened n fs q ls m) (i : IfT st a (m + 1)) (f : Flat (m + 1) l ss k) : Opened n (fs ++ [⟨l, a⟩]) (q ++ st :: ss) (ls ++ [m + 1]) k :=
  fun M h1 h2 => h2 _ _ _ _ _ _ _ _ _ _ (h M h1 h2) i f
theorem Opened.ind {motive : ∀ (n : Int) (fs : List R.Fr) (q : List P.Stm) (ls : List Int) (k : Int), Opened n fs q ls k → Prop} (nil : ∀ n : Int, motive n [] [] [] n (Opened.nil n))
    (snoc : ∀ {n m k a : Int} {fs : List R.Fr} {q ss : List P.Stm} {ls : List Int} {st : P.Stm} {l : List R.Tree} (h : Opened n fs q ls m) (i : IfT st a (m + 1)) (f : Flat (m + 1) l ss k), motive n fs q ls m h → motive n (fs ++ [⟨l, a⟩]) (q ++ st :: ss) (ls ++ [m + 1]) k (Opened.snoc h i f))
    {n : Int} {fs : List R.Fr} {q : List P.Stm} {ls : List Int} {k : Int} (h : Opened n fs q ls k) : motive n fs q ls k h :=
  (h (fun n fs q ls k => ∃ h : Opened n fs q ls k, motive n fs q ls k h) (fun n => ⟨_, nil n⟩) (fun _ _ _ _ _ _ _ _ _ _ ⟨h, h'⟩ i f => ⟨Opened.snoc h i f, snoc h i f h'⟩)).2
theorem Opened.cs {motive : ∀ (n : Int) (fs : List R.Fr) (q : List P.Stm) (ls : List Int) (k : Int), Opened n fs q ls k → Prop} (nil : ∀ n : Int, motive n [] [] [] n (Opened.nil n))
    (snoc : ∀ {n m k a : Int} {fs : List R.Fr} {q ss : List P.Stm} {ls : List Int} {st : P.Stm} {l : List R.Tree} (h : Opened n fs q ls m) (i : IfT st a (m + 1)) (f : Flat (m + 1) l ss k), motive n (fs ++ [⟨l, a⟩]) (q ++ st :: ss) (ls ++ [m + 1]) k (Opened.snoc h i f))
    {n : Int} {fs : List R.Fr} {q : List P.Stm} {ls : List Int} {k : Int} (h : Opened n fs q ls k) : motive n fs q ls k h := Opened.ind nil (fun h i f _ => snoc h i f) h

theorem Opened.len {n k : Int} {fs : List R.Fr} {q : List P.Stm} {ls : List Int} (h : Opened n fs q ls k) : ls.length = fs.length := by
  induction h using Opened.ind with
  | nil => rfl
  | snoc _ _ _ ih => simp [ih]

theorem Opened.none {n k : Int} {fs : List R.Fr} {q : List P.Stm} {ls : List Int} (h : Opened n fs q ls k) (hf : fs = []) : q = [] ∧ ls = [] ∧ k = n := by
  cases h using Opened.cs with
  | nil => exact ⟨rfl, rfl, rfl⟩
  | snoc _ _ _ => simp at hf

theorem Opened.last {n k : Int} {fs : List R.Fr} {q : List P.Stm} {ls : List Int} (h : Opened n fs q ls k) (hf : fs ≠ []) :
    ∃ m a gs p ss ms st l, Opened n gs p ms m ∧ IfT st a (m + 1) ∧ Flat (m + 1) l ss k ∧ fs = gs ++ [⟨l, a⟩] ∧ q = p ++ st :: ss ∧ ls = ms ++ [m + 1] := by
  cases h using Opened.cs with
  | nil => exact absurd rfl hf
  | snoc h1 h2 h3 => exact ⟨_, _, _, _, _, _, _, _, h1, h2, h3, rfl, rfl, rfl⟩

def Thrs (n : Int) (ts : List R.Th) (us : List P.Thr) (k : Int) : Prop :=
  ∀ M : Int → List R.Th → List P.Thr → Int → Prop, (∀ n : Int, M n [] [] n) →
    (∀ (n m k : Int) (ts : List R.Th) (us : List P.Thr) (t : R.Th) (u : P.Thr), M n ts us m → Flat m t.body u.stmts k → u.block = t.block → u.line = t.row → M n (ts ++ [t]) (us ++ [u]) k) → M n ts us k
theorem Thrs.nil (n : Int) : Thrs n [] [] n := fun _ h1 _ => h1 n
theorem Thrs.snoc {n m k : Int} {ts : List R.Th} {us : List P.Thr} {t : R.Th} {u : P.Thr} (h : Thrs n ts us m) (f : Flat m t.body u.stmts k) (b : u.block = t.block) (l : u.line = t.row) : Thrs n (ts ++ [t]) (us ++ [u]) k :=
  fun M h1 h2 => h2 _ _ _ _ _ _ _ (h M h1 h2) f b l
theorem Thrs.ind {motive : ∀ (n : Int) (ts : List R.Th) (us : List P.Thr) (k : Int), Thrs n ts us k → Prop} (nil : ∀ n : Int, motive n [] [] n (Thrs.nil n))
    (snoc : ∀ {n m k : Int} {ts : List R.Th} {us : List P.Thr} {t : R.Th} {u : P.Thr} (h : Thrs n ts us m) (f : Flat m t.body u.stmts k) (b : u.block = t.block) (l : u.line = t.row), motive n ts us m h → motive n (ts ++ [t]) (us ++ [u]) k (Thrs.snoc h f b l))
    {n : Int} {ts : List R.Th} {us : List P.Thr} {k : Int} (h : Thrs n ts us k) : motive n ts us k h :=
  (h (fun n ts us k => ∃ h : Thrs n ts us k, motive n ts us k h) (fun n => ⟨_, nil n⟩) (fun _ _ _ _ _ _ _ ⟨h, h'⟩ f b l => ⟨Thrs.snoc h f b l, snoc h f b l h'⟩)).2

theorem Thrs.len {n k : Int} {ts : List R.Th} {us : List P.Thr} (h : Thrs n ts us k) : us.length = ts.length := by
  induction h using Thrs.ind with
  | nil => rfl
  | snoc _ _ _ _ ih => simp [ih]

namespace P
def dep : List Stm → Int
  | [] => 0
  | s :: r => (if s.kind == 10 then 1 else if s.kind == 11 then -1 else 0) + dep r
theorem dep_append (a b : List Stm) : dep (a ++ b) = dep a + dep b := by
  induction a with
  | nil => simp [dep]
  | cons s r ih => simp [dep, ih]; omega
theorem innerS_snoc (ss : List Stm) : ∀ (d : Int) (st : Stm), innerS d (ss ++ [st]) = (innerS d ss).or (if st.kind == 5 && decide (0 < d + dep ss) then some st.line else none) := by
  induction ss with
  | nil =>
    intro d st
    simp only [List.nil_append, innerS, dep, Int.add_zero, Option.none_or]
    by_cases h5 : st.kind = 5
    · simp [h5]
    · simp [h5]
  | cons s r ih =>
    intro d st
    simp only [List.cons_append, innerS, dep]
    by_cases h10 : s.kind = 10
    · have e : d + 1 + dep r = d + (1 + dep r) := by omega
      simp [h10, ih, e]
    by_cases h11 : s.kind = 11
    · have e : d - 1 + dep r = d + (-1 + dep r) := by omega
      simp [h11, ih, e]
    by_cases h5 : s.kind = 5
    · by_cases hd : 0 < d
      · simp [h5, hd]
      · simp [h5, hd, ih]
    · simp [h10, h11, h5, ih]
def innerO : List Thr → Option Int
  | [] => none
  | t :: r => (innerS 0 t.stmts).or (innerO r)
theorem innerO_get (ts : List Thr) : innerB ts = (innerO ts).getD 0 := by
  induction ts with
  | nil => rfl
  | cons t r ih =>
    simp only [innerB, innerO]
    cases innerS 0 t.stmts with
    | none => simpa using ih
    | some l => simp
theorem innerO_append (a b : List Thr) : innerO (a ++ b) = (innerO a).or (innerO b) := by
  induction a with
  | nil => simp [innerO]
  | cons t r ih => simp [innerO, ih, Option.or_assoc]
end P

theorem Flat.dep {n m : Int} {l : List R.Tree} {ss : List P.Stm} (h : Flat n l ss m) : P.dep ss = 0 := by
  induction h using Flat.ind with
  | nil => rfl
  | leaf t _ _ ih => simp [P.dep, t.k10, t.k11, ih]
  | node i _ e _ ih1 ih2 => simp [P.dep, P.dep_append, i.k, e.k, ih1, ih2]

theorem Opened.dep {n k : Int} {fs : List R.Fr} {q : List P.Stm} {ls : List Int} (h : Opened n fs q ls k) : P.dep q = fs.length := by
  induction h using Opened.ind with
  | nil => rfl
  | snoc _ i f ih => simp [P.dep, P.dep_append, i.k, f.dep, ih]

theorem Twin.line {st : P.Stm} {x : R.Lh} (h : Twin st x) (i : Int) : Twin { st with line := i } x := ⟨h.txt, h.rd, h.wr, h.fn, h.br, h.k10, h.k11, h.gen, h.fe, h.se, h.acc, h.nac, h.os, h.non⟩

/-- the two readers, behind the same lines -/
structure Rel (r : P.Rd) (s : R.St) : Prop where
  cnt : r.count = s.count
  few : r.threads.length ≤ 4
  thr : ∀ u ∈ r.threads, 0 < u.line ∧ (u.block = 0 ∨ u.block = 1)
  inn : s.inner = (P.innerO r.threads).getD 0
  pos : ∀ l, P.innerO r.threads = some l → 0 < l
  ths : (r.threads = [] ∧ s.ts = [] ∧ s.opn = [] ∧ r.opn = [] ∧ r.ifs = 0) ∨
    ∃ ts us t u m k b q, s.ts = ts ++ [t] ∧ r.threads = us ++ [u] ∧ Thrs 0 ts us m ∧ Flat m t.body b k ∧ Opened k s.opn q r.opn r.ifs ∧ u.stmts = b ++ q ∧ u.block = t.block ∧ u.line = t.row

theorem rel_zero : Rel P.Rd.zero R.St.zero := ⟨rfl, by simp [P.Rd.zero], by simp [P.Rd.zero], rfl, fun l h => by simp [P.Rd.zero, P.innerO] at h, Or.inl ⟨rfl, rfl, rfl, rfl, rfl⟩⟩

theorem Rel.opnLen {r : P.Rd} {s : R.St} (h : Rel r s) : r.opn.length = s.opn.length := by
  rcases h.ths with ⟨_, _, h1, h2, _⟩ | ⟨ts, us, t, u, m, k, b, q, _, _, _, _, ho, _⟩
  · rw [h1, h2]; rfl
  · exact ho.len
theorem Rel.thsLen {r : P.Rd} {s : R.St} (h : Rel r s) : r.threads.length = s.ts.length := by
  rcases h.ths with ⟨h1, h2, _⟩ | ⟨ts, us, t, u, m, k, b, q, h1, h2, h3, _⟩
  · rw [h1, h2]; rfl
  · rw [h1, h2]; simp [h3.len]
end Go.Proofs.YtpkjmdcabdplfaaGreatDoor

namespace Go.Proofs.YtpkjmdcabdplfaaGreatDoor
open Go

/-- what one line makes of both -/
def Alike (p : P.Rd × Bool) (o : Option R.St) (i : Int) : Prop :=
  p.1.line = i ∧ match o with
  | none => p.2 = false
  | some s => p.2 = true ∧ Rel p.1 s

theorem digit2 (c : UInt8) : (P.digit c 2).2 = true ↔ (c = 48 ∨ c = 49) := by
  have : ∀ c : Fin 256, (P.digit (UInt8.ofNat c.1) 2).2 = true ↔ (UInt8.ofNat c.1 = 48 ∨ UInt8.ofNat c.1 = 49) := by decide +kernel
  have h := this ⟨c.toNat, UInt8.toNat_lt c⟩
  simpa using h

theorem bl_one (c : UInt8) : (P.digit c 2).2 = decide (0 ≤ R.inn [c] R.bl) ∧ ((P.digit c 2).2 = true → (P.digit c 2).1 = R.inn [c] R.bl) := by
  rw [inn_bl]
  by_cases h0 : c = 48
  · subst h0; decide
  by_cases h1 : c = 49
  · subst h1; decide
  have hf : (P.digit c 2).2 = false := by
    cases h : (P.digit c 2).2
    · rfl
    · rcases (digit2 c).1 h with h | h
      · exact absurd h h0
      · exact absurd h h1
  rw [hf]
  simp [h0, h1]

theorem bl_none (v : List UInt8) (h : ∀ c, v ≠ [c]) : decide (0 ≤ R.inn v R.bl) = false := by
  rw [inn_bl, if_neg (h _), if_neg (h _)]; rfl

theorem alike_begins (r : P.Rd) (s : R.St) (i : Int) (c : ByteArray) (w : List ByteArray) (hr : Rel r s) (hi : r.line = i) (hpos : 0 < i) :
    Alike (P.begins r (c.toList :: w.map ByteArray.toList)) (R.begins s i w) i := by
  have hl := hr.thsLen
  have ho := hr.opnLen
  have hf := hr.few
  have bad : ∀ o, o = none → Alike (r, false) o i := fun o h => by subst h; exact ⟨hi, rfl⟩
  unfold P.begins R.begins
  by_cases hc : 4 ≤ r.threads.length ∨ 0 < r.opn.length
  · rw [if_pos hc]
    apply bad
    match w with
    | [] => rfl
    | [d] =>
      simp only []
      rw [if_neg]
      intro hh
      simp at hh
      rcases hc with hc | hc
      · exact hh.2 (by omega)
      · rw [ho, hh.1.2] at hc; simp at hc
    | _ :: _ :: _ => rfl
  rw [if_neg hc]
  have h4 : ¬ s.ts.length = 4 := by omega
  have h0 : s.opn = [] := by
    have : s.opn.length = 0 := by omega
    exact List.length_eq_zero_iff.1 this
  match w with
  | [] => exact bad _ rfl
  | [d] =>
    simp only [List.map_cons, List.map_nil, h0, List.isEmpty_nil, Bool.and_true]
    have h4' : (s.ts.length == 4) = false := by simpa using h4
    rw [h4']
    simp only [Bool.not_false, Bool.and_true]
    match hd : d.toList with
    | [] =>
      simp only []
      apply bad
      rw [bl_none _ (fun c h => by cases h)]; rfl
    | [x] =>
      simp only []
      have e := bl_one x
      cases hx : (P.digit x 2).2
      · rw [hx] at e
        rw [← e.1]
        exact bad _ rfl
      · rw [hx] at e
        rw [← e.1]
        simp only [if_true]
        refine ⟨hi, rfl, ⟨rfl, ?_, ?_, ?_, ?_, Or.inr ?_⟩⟩
        · simp; omega
        · intro u hu
          simp at hu
          rcases hu with hu | rfl
          · exact hr.thr u hu
          · refine ⟨by simp only [hi]; exact hpos, ?_⟩
            simp only []
            rw [e.2 rfl, inn_bl]
            have h1 := e.1
            rw [inn_bl] at h1
            split
            · exact Or.inl rfl
            · rename_i h2
              rw [if_neg h2] at h1
              split
              · exact Or.inr rfl
              · rename_i h3
                rw [if_neg h3] at h1
                exact absurd h1 (by decide)
        · have := hr.inn
          simp only [P.innerO_append, P.innerO, P.innerS, Option.or_none]
          exact this
        · intro l h
          simp only [P.innerO_append, P.innerO, P.innerS, Option.or_none] at h
          exact hr.pos l h
        · have hopn : r.opn = [] := by
            have : r.opn.length = 0 := by omega
            exact List.length_eq_zero_iff.1 this
          have T : Thrs 0 s.ts r.threads r.ifs := by
            rcases hr.ths with ⟨h1, h2, h3, h5, h6⟩ | ⟨ts, us, t, u, m, k, b, q, h1, h2, h3, h5, h6, h7, h8, h9⟩
            · rw [h1, h2, h6]; exact .nil 0
            · obtain ⟨e1, e2, e3⟩ := h6.none h0
              rw [h1, h2]
              refine .snoc h3 ?_ h8 h9
              rw [h7, e1, List.append_nil, e3]; exact h5
          refine ⟨s.ts, r.threads, _, _, r.ifs, r.ifs, [], [], rfl, rfl, T, .nil _, ?_, rfl, e.2 rfl, hi⟩
          rw [hopn]
          exact .nil _
    | x :: y :: z =>
      simp only []
      apply bad
      rw [bl_none _ (fun c h => by cases h)]; rfl
  | a :: b :: z =>
    simp only [List.map_cons]
    split
    · rename_i h; simp at h
    · exact bad _ rfl

theorem thr_put {ts : List P.Thr} (st : P.Stm) (h : ∀ u ∈ ts, 0 < u.line ∧ (u.block = 0 ∨ u.block = 1)) : ∀ u ∈ P.putLast ts st, 0 < u.line ∧ (u.block = 0 ∨ u.block = 1) := by
  match ts, h with
  | [], h => intro u hu; simp [P.putLast] at hu
  | [t], h =>
    intro u hu
    simp [P.putLast] at hu
    subst hu
    exact h t (by simp)
  | t :: v :: q, h =>
    intro u hu
    simp only [P.putLast, List.mem_cons] at hu
    rcases hu with rfl | hu
    · exact h u (by simp)
    · exact thr_put (ts := v :: q) st (fun u hu => h u (by simp at hu ⊢; exact Or.inr hu)) u hu

/-- what a statement more makes of the readers: P's statement is written, R's tree is put -/
theorem rel_put {r : P.Rd} {s : R.St} (st : P.Stm) (tr : R.Tree) (c n : Int) (i : Int) (inn : Int) (hr : Rel r s) (hne : s.ts ≠ []) (hi : 0 < i) (hc : c = n)
    (hst : ∀ k, Flat k [tr] [st] k) (hl : st.line = i)
    (hin : inn = if (st.kind == 5) && !s.opn.isEmpty && s.inner == 0 then i else s.inner) :
    Rel (P.put { r with count := c } st) (R.put { s with count := n, inner := inn } tr) := by
  rcases hr.ths with ⟨h1, h2, h3, h5, h6⟩ | ⟨ts, us, t, u, m, k, b, q, h1, h2, h3, h5, h6, h7, h8, h9⟩
  · exact absurd h2 hne
  have hdep : P.dep u.stmts = s.opn.length := by rw [h7, P.dep_append, h5.dep, h6.dep]; omega
  have hpt : P.putLast r.threads st = us ++ [{ u with stmts := u.stmts ++ [st] }] := by rw [h2, P.putLast_snoc]
  have hio : P.innerO (P.putLast r.threads st) = (P.innerO r.threads).or (if st.kind == 5 && decide (0 < (s.opn.length : Int)) then some i else none) := by
    rw [hpt, h2, P.innerO_append, P.innerO_append]
    simp only [P.innerO, Option.or_none]
    rw [P.innerS_snoc, hdep, hl, Option.or_assoc]
    simp
  have hpos : (!s.opn.isEmpty) = decide (0 < (s.opn.length : Int)) := by
    cases s.opn with
    | nil => rfl
    | cons a l => simp
  have hinn : inn = (P.innerO (P.putLast r.threads st)).getD 0 := by
    rw [hin, hio, ← hpos]
    have h0 := hr.inn
    have hp := hr.pos
    cases ho : P.innerO r.threads with
    | none =>
      rw [ho] at h0
      simp at h0
      rw [h0]
      cases (st.kind == 5 && !s.opn.isEmpty) <;> simp
    | some l =>
      rw [ho] at h0
      have := hp l ho
      simp at h0
      have hn : (s.inner == 0) = false := by rw [h0]; simp; omega
      rw [hn, h0]; simp
  have hposn : ∀ l, P.innerO (P.putLast r.threads st) = some l → 0 < l := by
    intro l hl'
    rw [hio] at hl'
    cases ho : P.innerO r.threads with
    | none =>
      rw [ho] at hl'
      simp at hl'
      omega
    | some l' =>
      rw [ho] at hl'
      simp at hl'
      rw [← hl']; exact hr.pos _ ho
  have hfew : (P.putLast r.threads st).length ≤ 4 := by rw [P.putLast_length]; exact hr.few
  unfold R.put P.put
  by_cases he : s.opn = []
  · obtain ⟨e1, e2, e3⟩ := h6.none he
    simp only [he, List.isEmpty_nil, if_true]
    refine ⟨hc, hfew, thr_put st hr.thr, hinn, hposn, Or.inr ⟨ts, us, { t with body := t.body ++ [tr] }, { u with stmts := u.stmts ++ [st] }, m, k, b ++ [st], [], ?_, hpt, h3, h5.append (hst k), ?_, ?_, h8, h9⟩⟩
    · simp only [h1, R.addLast_snoc]
    · simp only [e2, e3]; exact .nil _
    · simp [h7, e1]
  · obtain ⟨m', a, gs, p, ss, ms, st', l, o1, o2, o3, o4, o5, o6⟩ := h6.last he
    have hemp : s.opn.isEmpty = false := by cases hx : s.opn with
      | nil => exact absurd hx he
      | cons _ _ => rfl
    simp only [hemp, Bool.false_eq_true, if_false]
    refine ⟨hc, hfew, thr_put st hr.thr, hinn, hposn, Or.inr ⟨ts, us, t, { u with stmts := u.stmts ++ [st] }, m, k, b, q ++ [st], h1, hpt, h3, h5, ?_, ?_, h8, h9⟩⟩
    · simp only [o4, R.addTop_snoc, o6, o5]
      have := Opened.snoc o1 o2 (o3.append (hst r.ifs))
      simpa using this
    · simp [h7]
end Go.Proofs.YtpkjmdcabdplfaaGreatDoor

namespace Go.Proofs.YtpkjmdcabdplfaaGreatDoor
open Go

theorem rel_ends {r : P.Rd} {s : R.St} (st : P.Stm) (l : Int) (f : R.Fr) (hr : Rel r s) (hk : st.kind = 11) (hl : r.opn.getLast? = some l) (hf : s.opn.getLast? = some f) :
    Rel (P.put { r with opn := r.opn.dropLast } { st with label := l }) (R.put { s with opn := s.opn.dropLast } (.mk (R.lIf f.a) f.l)) := by
  have hne : s.opn ≠ [] := by intro h; rw [h] at hf; simp at hf
  rcases hr.ths with ⟨h1, h2, h3, h5, h6⟩ | ⟨ts, us, t, u, m, k, b, q, h1, h2, h3, h5, h6, h7, h8, h9⟩
  · exact absurd h3 hne
  obtain ⟨m', a, gs, p, ss, ms, st', tl, o1, o2, o3, o4, o5, o6⟩ := h6.last hne
  have ef : f = ⟨tl, a⟩ := by rw [o4] at hf; simpa using hf.symm
  have el : l = m' + 1 := by rw [o6] at hl; simpa using hl.symm
  subst ef
  subst el
  have hs : s.opn.dropLast = gs := by rw [o4]; simp
  have hm : r.opn.dropLast = ms := by rw [o6]; simp
  rw [hs, hm]
  have hpt : ∀ x, P.putLast r.threads x = us ++ [{ u with stmts := u.stmts ++ [x] }] := fun x => by rw [h2, P.putLast_snoc]
  have N : Flat m' [.mk (R.lIf a) tl] (st' :: (ss ++ [{ st with label := m' + 1 }])) r.ifs := Flat.node o2 o3 ⟨hk, rfl⟩ (.nil _)
  have hio : P.innerO (P.putLast r.threads { st with label := m' + 1 }) = P.innerO r.threads := by
    rw [hpt, h2, P.innerO_append, P.innerO_append]
    simp only [P.innerO, Option.or_none]
    rw [P.innerS_snoc]
    simp [hk]
  have hfew : (P.putLast r.threads { st with label := m' + 1 }).length ≤ 4 := by rw [P.putLast_length]; exact hr.few
  unfold R.put P.put
  by_cases he : gs = []
  · obtain ⟨e1, e2, e3⟩ := o1.none he
    subst he
    simp only [List.isEmpty_nil, if_true]
    refine ⟨hr.cnt, hfew, thr_put _ hr.thr, by simp only [hio]; exact hr.inn, by simp only [hio]; exact hr.pos, Or.inr ⟨ts, us, { t with body := t.body ++ [.mk (R.lIf a) tl] }, { u with stmts := u.stmts ++ [{ st with label := m' + 1 }] }, m, r.ifs, b ++ (st' :: (ss ++ [{ st with label := m' + 1 }])), [], ?_, hpt _, h3, h5.append (e3 ▸ N), ?_, ?_, h8, h9⟩⟩
    · simp only [h1, R.addLast_snoc]
    · simp only [e2]; exact .nil _
    · simp [h7, o5, e1]
  · obtain ⟨m2, a2, gs2, p2, ss2, ms2, st2, tl2, q1, q2, q3, q4, q5, q6⟩ := o1.last he
    have hemp : gs.isEmpty = false := by cases hx : gs with
      | nil => exact absurd hx he
      | cons _ _ => rfl
    simp only [hemp, Bool.false_eq_true, if_false]
    refine ⟨hr.cnt, hfew, thr_put _ hr.thr, by simp only [hio]; exact hr.inn, by simp only [hio]; exact hr.pos, Or.inr ⟨ts, us, t, { u with stmts := u.stmts ++ [{ st with label := m' + 1 }] }, m, k, b, q ++ [{ st with label := m' + 1 }], h1, hpt _, h3, h5, ?_, ?_, h8, h9⟩⟩
    · simp only [q4, R.addTop_snoc, q6, o5, q5]
      have := Opened.snoc q1 q2 (q3.append N)
      simpa using this
    · simp [h7]

theorem rel_branch {r : P.Rd} {s : R.St} (st : P.Stm) (a : Int) (c n : Int) (hr : Rel r s) (hne : s.ts ≠ []) (hk : st.kind = 10) (ho : P.opdT st.a = R.shown a) (hc : c = n) :
    Rel (P.put { r with count := c, ifs := r.ifs + 1, opn := r.opn ++ [r.ifs + 1] } { st with label := r.ifs + 1 }) { s with count := n, opn := s.opn ++ [⟨[], a⟩] } := by
  rcases hr.ths with ⟨h1, h2, h3, h5, h6⟩ | ⟨ts, us, t, u, m, k, b, q, h1, h2, h3, h5, h6, h7, h8, h9⟩
  · exact absurd h2 hne
  have hpt : ∀ x, P.putLast r.threads x = us ++ [{ u with stmts := u.stmts ++ [x] }] := fun x => by rw [h2, P.putLast_snoc]
  have hio : P.innerO (P.putLast r.threads { st with label := r.ifs + 1 }) = P.innerO r.threads := by
    rw [hpt, h2, P.innerO_append, P.innerO_append]
    simp only [P.innerO, Option.or_none]
    rw [P.innerS_snoc]
    simp [hk]
  have hfew : (P.putLast r.threads { st with label := r.ifs + 1 }).length ≤ 4 := by rw [P.putLast_length]; exact hr.few
  unfold P.put
  refine ⟨hc, hfew, thr_put _ hr.thr, by simp only [hio]; exact hr.inn, by simp only [hio]; exact hr.pos, Or.inr ⟨ts, us, t, { u with stmts := u.stmts ++ [{ st with label := r.ifs + 1 }] }, m, k, b, q ++ [{ st with label := r.ifs + 1 }], h1, hpt _, h3, h5, Opened.snoc h6 ⟨hk, rfl, ho⟩ (.nil _), ?_, h8, h9⟩⟩
  simp [h7]

theorem how_op (x : R.Lh) (orders : List UInt8) (r : List ByteArray) : (R.how x orders r).1.op = x.op := by
  unfold R.how
  split
  · rfl
  · split
    · rfl
    · split
      · rfl
      · split <;> rfl

theorem assign_op (d c : ByteArray) (r : List ByteArray) : ¬ (R.assign d c r).1.op.toList = [105, 102] := by
  have h0 : ¬ R.x0.op.toList = [105, 102] := by rw [R.x0, lit_toList]; decide
  have hs : ¬ R.sSet.toList = [105, 102] := by rw [R.sSet, lit_toList]; decide
  unfold R.assign
  split
  · split
    · simp only [R.stLoad, how_op, R.sLoad, lit_toList]; decide
    · exact h0
  · split
    · rename_i hc
      simp only [Bool.and_eq_true, Bool.or_eq_true, beq_iff_eq] at hc
      split
      · simp only [R.stStep, how_op]
        rcases hc.1 with h | h <;> rw [h] <;> decide
      · exact h0
    · split
      · exact hs
      · exact hs
      · exact hs

theorem stmt_op (c : ByteArray) (w : List ByteArray) : ¬ (R.stmt c w).1.op.toList = [105, 102] := by
  have h0 : ¬ R.x0.op.toList = [105, 102] := by rw [R.x0, lit_toList]; decide
  unfold R.stmt
  split
  · simp only [R.sBarrier, lit_toList]; decide
  · split
    · simp only [how_op, R.sFence, lit_toList]; decide
    · split
      · split
        · simp only [R.stStore, how_op, R.sStore, lit_toList]; decide
        · exact h0
      · split
        · split
          · exact assign_op _ _ _
          · exact h0
        · exact h0

/-- ONE LINE MORE: both take it, or neither does. -/
theorem alike_takes (r : P.Rd) (s : R.St) (i : Int) (c : ByteArray) (w : List ByteArray) (hr : Rel r s) (hi : r.line = i) (hpos : 0 < i) :
    Alike (P.takes r (c.toList :: w.map ByteArray.toList)) (R.step s i c w) i := by
  unfold P.takes R.step
  simp only [List.head?_cons]
  by_cases ht : c.toList = [116, 104, 114, 101, 97, 100]
  · rw [if_pos (by simpa using ht), if_pos (by simpa using ht)]
    exact alike_begins r s i c w hr hi hpos
  have htB : (some c.toList == some [116, 104, 114, 101, 97, 100]) = false := by simpa using ht
  have htC : (c.toList == [116, 104, 114, 101, 97, 100]) = false := by simpa using ht
  simp only [htB, htC, Bool.false_eq_true, if_false]
  have hl := hr.thsLen
  have ho := hr.opnLen
  by_cases hn : s.ts = []
  · have : r.threads = [] := List.length_eq_zero_iff.1 (by rw [hl, hn]; rfl)
    rw [hn, this]
    exact ⟨hi, rfl⟩
  have hn' : r.threads.isEmpty = false := by
    cases hx : r.threads with
    | nil => rw [hx] at hl; exact absurd (List.length_eq_zero_iff.1 hl.symm) hn
    | cons _ _ => rfl
  have hn2 : s.ts.isEmpty = false := by
    cases hx : s.ts with
    | nil => exact absurd hx hn
    | cons _ _ => rfl
  rw [hn', hn2]
  simp only [Bool.false_eq_true, if_false]
  have bad : ∀ (n : Int) o, o = none → Alike ({ r with count := n }, false) o i := fun n o h => by subst h; exact ⟨hi, rfl⟩
  have bad0 : ∀ o, o = none → Alike (r, false) o i := fun o h => by subst h; exact ⟨hi, rfl⟩
  by_cases he : c.toList = [101, 110, 100]
  · have heB : (c.toList == [101, 110, 100]) = true := by simpa using he
    simp only [heB, if_true]
    have hs : P.statement (c.toList :: w.map ByteArray.toList) = ({ P.Stm.zero with kind := 11 }, w.isEmpty) := by
      unfold P.statement; simp [he]
    rw [hs]
    simp only []
    cases hw : w.isEmpty
    · simp only [Bool.false_eq_true, if_false]
      apply bad0
      unfold R.ends
      rw [hw]
      cases s.opn.getLast? <;> rfl
    · simp only [if_true]
      rw [if_pos (by rfl)]
      unfold P.ends R.ends
      rw [hw]
      cases hg : s.opn.getLast? with
      | none =>
        have : r.opn = [] := by
          rw [List.getLast?_eq_none_iff] at hg
          exact List.length_eq_zero_iff.1 (by rw [ho, hg]; rfl)
        rw [this]
        exact ⟨hi, rfl⟩
      | some f =>
        cases hg2 : r.opn.getLast? with
        | none =>
          rw [List.getLast?_eq_none_iff] at hg2
          rw [hg2] at ho
          have : s.opn = [] := List.length_eq_zero_iff.1 ho.symm
          rw [this] at hg; simp at hg
        | some l => exact ⟨hi, rfl, rel_ends _ l f hr rfl hg2 hg⟩
  have heB : (c.toList == [101, 110, 100]) = false := by simpa using he
  simp only [heB, Bool.false_eq_true, if_false]
  by_cases hif : c.toList = [105, 102]
  · have hifB : (c.toList == [105, 102]) = true := by simpa using hif
    simp only [hifB, if_true]
    have hs : P.statement (c.toList :: w.map ByteArray.toList) = P.condition (c.toList :: w.map ByteArray.toList) := by
      unfold P.statement; simp [hif]
    rw [hs]
    match w with
    | [] => exact bad0 _ rfl
    | [a] =>
      have e := opd_eq a.toList
      simp only [P.condition, List.map_cons, List.map_nil, R.branch]
      cases hx : (P.operand a.toList).2
      · simp only [Bool.false_eq_true, if_false]
        apply bad0
        rw [← e.1, hx]; simp
      · simp only [if_true]
        rw [if_neg (by decide)]
        have hc := hr.cnt
        by_cases h8 : 8 ≤ r.count
        · rw [if_pos h8]
          apply bad0
          rw [if_neg]; simp; omega
        rw [if_neg h8, if_pos (by decide)]
        by_cases h2 : 2 ≤ r.opn.length
        · rw [if_pos h2]
          apply bad
          rw [if_neg]; simp; omega
        rw [if_neg h2]
        unfold P.branch
        simp only []
        rw [if_neg h2, if_pos (by rw [← e.1, hx]; simp; omega)]
        refine ⟨hi, rfl, ?_⟩
        refine rel_branch { P.Stm.zero with kind := 10, line := r.line, a := (P.operand a.toList).1 } (R.opd a.toList).1 (r.count + 1) (s.count + 1) hr hn rfl ?_ (by rw [hc])
        rw [← e.2 hx, shown_enc _ (P.operand_ok _ hx).1]
    | a :: b :: z => exact bad0 _ rfl
  have hifB : (c.toList == [105, 102]) = false := by simpa using hif
  simp only [hifB, Bool.false_eq_true, if_false]
  have e := stmt_eq c w hif he
  unfold R.one
  cases hx : (P.statement (c.toList :: w.map ByteArray.toList)).2
  · simp only [Bool.false_eq_true, if_false]
    apply bad0
    rw [← e.1, hx]; simp
  · have T := (e.2 (by rw [← e.1, hx])).line r.line
    simp only [if_true]
    rw [if_neg (by rw [show ((P.statement (c.toList :: w.map ByteArray.toList)).1.kind == 11) = false from T.k11]; decide)]
    have hc := hr.cnt
    by_cases h8 : 8 ≤ r.count
    · rw [if_pos h8]
      apply bad0
      rw [if_neg]; simp; omega
    rw [if_neg h8, if_neg (by rw [show ((P.statement (c.toList :: w.map ByteArray.toList)).1.kind == 10) = false from T.k10]; decide)]
    rw [if_pos (by rw [← e.1, hx]; simp; omega)]
    refine ⟨hi, rfl, ?_⟩
    refine rel_put { (P.statement (c.toList :: w.map ByteArray.toList)).1 with line := r.line } _ (r.count + 1) (s.count + 1) i _ hr hn hpos (by rw [hc]) (fun k => .leaf T (stmt_op c w) (.nil k)) hi ?_
    rw [show ((P.statement (c.toList :: w.map ByteArray.toList)).1.kind == 5) = R.isB (R.stmt c w).1 from T.br.symm]
end Go.Proofs.YtpkjmdcabdplfaaGreatDoor

namespace Go.Proofs.YtpkjmdcabdplfaaGreatDoor
open Go

theorem split_ne (c : UInt8) (x : List UInt8) : P.splitAt c x ≠ [] := by
  induction x with
  | nil => simp [P.splitAt]
  | cons a r ih =>
    unfold P.splitAt
    split
    · simp
    · split <;> simp

theorem run_eq (xs : List (List UInt8)) : ∀ (r : P.Rd) (s : R.St) (i : Int), Rel r s → r.line = i → 0 ≤ i →
    (P.runLines r xs).1.line = (R.run s i xs).2 ∧ (match (R.run s i xs).1 with
      | none => (P.runLines r xs).2 = false
      | some s' => (P.runLines r xs).2 = true ∧ Rel (P.runLines r xs).1 s') := by
  induction xs with
  | nil => intro r s i hr hi h0; exact ⟨hi, rfl, hr⟩
  | cons x xs ih =>
    intro r s i hr hi h0
    have hr' : Rel { r with line := r.line + 1 } s := ⟨hr.cnt, hr.few, hr.thr, hr.inn, hr.pos, hr.ths⟩
    simp only [P.runLines, R.run]
    cases hw : P.splitAt 32 x with
    | nil => exact absurd hw (split_ne 32 x)
    | cons c w =>
      have A := alike_takes { r with line := r.line + 1 } s (i + 1) (R.mkB c) (w.map R.mkB) hr' (by simp only [hi]) (by omega)
      rw [R.mkB_toList, List.map_map, show (ByteArray.toList ∘ R.mkB) = id from funext R.mkB_toList, List.map_id] at A
      simp only [List.map_cons]
      generalize P.takes { r with line := r.line + 1 } (c :: w) = p at A ⊢
      obtain ⟨A1, A2⟩ := A
      cases hs : R.step s (i + 1) (R.mkB c) (w.map R.mkB) with
      | none =>
        rw [hs] at A2
        simp only [] at A2
        simp only [A2, Bool.false_eq_true, if_false]
        exact ⟨A1, trivial⟩
      | some s' =>
        rw [hs] at A2
        simp only [A2.1, if_true]
        exact ih _ _ _ A2.2 A1 (by omega)

theorem Flat.cnt {n m : Int} {l : List R.Tree} {ss : List P.Stm} (p : P.Stm → Bool) (q : R.Lh → Bool) (h : Flat n l ss m)
    (hT : ∀ st x, Twin st x → q x = p st) (h10 : ∀ st, st.kind = 10 → p st = false) (h11 : ∀ st, st.kind = 11 → p st = false) (hI : ∀ a, q (R.lIf a) = false) : P.cnt p ss = R.numL q l := by
  induction h using Flat.ind with
  | nil => simp [P.cnt, R.numL_nil]
  | leaf t _ _ ih => simp [P.cnt, R.numL_nil, R.numL_cons, R.numT, hT _ _ t, ih]
  | node i _ e _ ih1 ih2 => simp [P.cnt, P.cnt_append, R.numL_nil, R.numL_cons, R.numT, h10 _ i.k, h11 _ e.k, hI, ih1, ih2]

theorem bars_cnt (l : List P.Stm) : P.bars l = P.cnt (fun s => s.kind == 5) l := by
  induction l with
  | nil => rfl
  | cons s r ih => simp only [P.bars, P.cnt, ih]

theorem Flat.text {n m : Int} {l : List R.Tree} {ss : List P.Stm} (h : Flat n l ss m) : R.textL n l = (P.writeS ss, m) := by
  have wa : ∀ a b, P.writeS (a ++ b) = P.writeS a ++ P.writeS b := fun a b => by
    induction a with
    | nil => rfl
    | cons s r ih => simp [P.writeS, ih]
  induction h using Flat.ind with
  | nil => simp [R.textL_nil, P.writeS]
  | @leaf n m st x l ss t o _ ih =>
    have ho : (x.op.toList == [105, 102]) = false := by simpa using o
    simp only [R.textL_nil, R.textL_cons, R.textT, ho, Bool.false_eq_true, if_false, ih, P.writeS, t.txt]
  | @node n m k a st e b l bs ss i _ e' _ ih1 ih2 =>
    have ho : ((R.lIf a).op.toList == [105, 102]) = true := by simp [R.lIf, R.sIf, lit_toList]
    simp only [R.textL_nil, R.textL_cons, R.textT, ho, if_true, ih1, ih2, P.writeS, wa]
    simp [P.instr, i.k, e'.k, i.l, e'.l, i.o, R.lIf]
end Go.Proofs.YtpkjmdcabdplfaaGreatDoor

namespace Go.Proofs.YtpkjmdcabdplfaaGreatDoor
open Go

def ThrC (n : Int) (ts : List R.Th) (us : List P.Thr) (k : Int) : Prop :=
  ∀ M : Int → List R.Th → List P.Thr → Int → Prop, (∀ n : Int, M n [] [] n) →
    (∀ (n m k : Int) (ts : List R.Th) (us : List P.Thr) (t : R.Th) (u : P.Thr), Flat n t.body u.stmts m → u.block = t.block → u.line = t.row → M m ts us k → M n (t :: ts) (u :: us) k) → M n ts us k
theorem ThrC.nil (n : Int) : ThrC n [] [] n := fun _ h1 _ => h1 n
theorem ThrC.cons {n m k : Int} {ts : List R.Th} {us : List P.Thr} {t : R.Th} {u : P.Thr} (f : Flat n t.body u.stmts m) (b : u.block = t.block) (l : u.line = t.row) (h : ThrC m ts us k) : ThrC n (t :: ts) (u :: us) k :=
  fun M h1 h2 => h2 _ _ _ _ _ _ _ f b l (h M h1 h2)
theorem ThrC.ind {motive : ∀ (n : Int) (ts : List R.Th) (us : List P.Thr) (k : Int), ThrC n ts us k → Prop} (nil : ∀ n : Int, motive n [] [] n (ThrC.nil n))
    (cons : ∀ {n m k : Int} {ts : List R.Th} {us : List P.Thr} {t : R.Th} {u : P.Thr} (f : Flat n t.body u.stmts m) (b : u.block = t.block) (l : u.line = t.row) (h : ThrC m ts us k), motive m ts us k h → motive n (t :: ts) (u :: us) k (ThrC.cons f b l h))
    {n : Int} {ts : List R.Th} {us : List P.Thr} {k : Int} (h : ThrC n ts us k) : motive n ts us k h :=
  (h (fun n ts us k => ∃ h : ThrC n ts us k, motive n ts us k h) (fun n => ⟨_, nil n⟩) (fun _ _ _ _ _ _ _ f b l ⟨h, h'⟩ => ⟨ThrC.cons f b l h, cons f b l h h'⟩)).2

theorem ThrC.append {n m k : Int} {ts vs : List R.Th} {us ws : List P.Thr} (h : ThrC n ts us m) (g : ThrC m vs ws k) : ThrC n (ts ++ vs) (us ++ ws) k := by
  induction h using ThrC.ind with
  | nil => simpa using g
  | cons f b l _ ih => simpa using ThrC.cons f b l (ih g)

theorem Thrs.toC {n k : Int} {ts : List R.Th} {us : List P.Thr} (h : Thrs n ts us k) : ThrC n ts us k := by
  induction h using Thrs.ind with
  | nil => exact .nil _
  | snoc _ f b l ih => exact ih.append (.cons f b l (.nil _))

theorem ThrC.tot {n k : Int} {ts : List R.Th} {us : List P.Thr} (p : P.Stm → Bool) (q : R.Lh → Bool) (h : ThrC n ts us k)
    (hT : ∀ st x, Twin st x → q x = p st) (h10 : ∀ st, st.kind = 10 → p st = false) (h11 : ∀ st, st.kind = 11 → p st = false) (hI : ∀ a, q (R.lIf a) = false) : P.tot p us = R.totT q ts := by
  induction h using ThrC.ind with
  | nil => rfl
  | cons f _ _ _ ih => simp only [P.tot, R.totT, f.cnt p q hT h10 h11 hI, ih]

theorem ThrC.text {n k : Int} {ts : List R.Th} {us : List P.Thr} (h : ThrC n ts us k) : P.write us = R.textTs n ts := by
  induction h using ThrC.ind with
  | nil => rfl
  | cons f b _ _ ih => simp [P.write, P.writeT, R.textTs, f.text, b, ih]

theorem opIf (a : Int) : (R.lIf a).op.toList = [105, 102] := by simp [R.lIf, R.sIf, lit_toList]

theorem within_eq {n k : Int} {ts : List R.Th} {us : List P.Thr} (h : ThrC n ts us k) : R.within ts = !P.over us := by
  have e1 : P.tot P.isR us = R.totT R.isR ts := h.tot _ _ (fun _ _ t => t.rd) (fun st hk => by simp [P.isR, P.reads, hk]) (fun st hk => by simp [P.isR, P.reads, hk]) (fun a => by simp [R.isR, opIf, R.sLoad, lit_toList, R.lAdd, R.lSwap])
  have e2 : P.tot P.isW us = R.totT R.isW ts := h.tot _ _ (fun _ _ t => t.wr) (fun st hk => by simp [P.isW, P.writes, hk]) (fun st hk => by simp [P.isW, P.writes, hk]) (fun a => by simp [R.isW, opIf, R.sStore, lit_toList, R.lAdd, R.lSwap])
  have e3 : P.tot P.isF us = R.totT R.isF ts := h.tot _ _ (fun _ _ t => t.fn) (fun st hk => by simp [P.isF, hk]) (fun st hk => by simp [P.isF, hk]) (fun a => by simp [R.isF, opIf, R.sFence, lit_toList])
  unfold R.within P.over
  rw [e1, e2, e3]
  have d : ∀ a b : Int, decide (a ≤ b) = !decide (b < a) := fun a b => by
    by_cases h : a ≤ b
    · have : ¬ b < a := by omega
      simp [h, this]
    · have : b < a := by omega
      simp [h, this]
  rw [d, d, d]
  simp [Bool.not_or]

theorem bars_eq {n m : Int} {l : List R.Tree} {ss : List P.Stm} (h : Flat n l ss m) : P.bars ss = R.numL R.isB l := by
  rw [bars_cnt]
  exact h.cnt _ _ (fun _ _ t => t.br) (fun st hk => by simp [hk]) (fun st hk => by simp [hk]) (fun a => by simp [R.isB, opIf, R.sBarrier, lit_toList])

namespace P
def firstOf (b : Int) : List Thr → Int
  | [] => -1
  | t :: r => if t.block == b then bars t.stmts else firstOf b r
theorem barsOf_first (b : Int) (l : List Thr) : barsOf b l = if firstOf b l < 0 then 0 else firstOf b l := by
  induction l with
  | nil => rfl
  | cons t r ih =>
    simp only [barsOf, firstOf]
    split
    · have := (bars_bd t.stmts).1
      rw [if_neg (by omega)]
    · exact ih
theorem firstOf_lo (b : Int) (l : List Thr) : -1 ≤ firstOf b l := by
  induction l with
  | nil => simp [firstOf]
  | cons t r ih =>
    simp only [firstOf]
    split
    · have := (bars_bd t.stmts).1
      omega
    · exact ih
theorem firstOf_append (b : Int) (l m : List Thr) : firstOf b (l ++ m) = if firstOf b l < 0 then firstOf b m else firstOf b l := by
  induction l with
  | nil => rfl
  | cons t r ih =>
    simp only [List.cons_append, firstOf]
    split
    · have := (bars_bd t.stmts).1
      rw [if_neg (by omega)]
    · exact ih
end P

theorem uneven_go {n k : Int} {ts : List R.Th} {us : List P.Thr} (h : ThrC n ts us k) : ∀ pre : List P.Thr, (∀ u ∈ us, u.block = 0 ∨ u.block = 1) →
    P.unevenIn (pre ++ us) us = R.unevenGo (P.firstOf 0 pre) (P.firstOf 1 pre) ts := by
  induction h using ThrC.ind with
  | nil => intro _ _; rfl
  | @cons n m k ts us t u f b l _ ih =>
    intro pre hb
    have hn := bars_eq f
    have h0 := (P.bars_bd u.stmts).1
    have ih' := ih (pre ++ [u]) (fun v hv => hb v (by simp [hv]))
    rw [List.append_assoc, List.singleton_append] at ih'
    have G : P.barsOf u.block (pre ++ u :: us) = P.firstOf u.block (pre ++ [u]) := by
      rw [P.barsOf_first, P.firstOf_append, P.firstOf_append]
      simp only [P.firstOf, beq_self_eq_true, if_true]
      by_cases hp : P.firstOf u.block pre < 0
      · simp only [if_pos hp]; rw [if_neg (by omega)]
      · simp only [if_neg hp]
    simp only [P.unevenIn, R.unevenGo]
    rw [G, ← hn, ← b, ← l, ih', P.firstOf_append, P.firstOf_append]
    rcases hb u (by simp) with e | e
    · rw [e, P.firstOf_append]
      simp only [P.firstOf, e, beq_self_eq_true, if_true, show ((0 : Int) == 1) = false from rfl, Bool.false_eq_true, if_false]
      have e1 : (if P.firstOf 1 pre < 0 then (-1 : Int) else P.firstOf 1 pre) = P.firstOf 1 pre := by
        have := P.firstOf_lo 1 pre
        split <;> omega
      rw [e1, bne_comm]
    · rw [e, P.firstOf_append]
      simp only [P.firstOf, e, beq_self_eq_true, if_true, show ((1 : Int) == 0) = false from rfl, Bool.false_eq_true, if_false]
      have e1 : (if P.firstOf 0 pre < 0 then (-1 : Int) else P.firstOf 0 pre) = P.firstOf 0 pre := by
        have := P.firstOf_lo 0 pre
        split <;> omega
      rw [e1, bne_comm]

theorem step_ne {s s' : R.St} {i : Int} {c : ByteArray} {w : List ByteArray} (h : R.step s i c w = some s') : s'.ts ≠ [] := by
  have al : ∀ (l : List R.Th) x, l ≠ [] → R.addLast l x ≠ [] := fun l x hl => by
    match l, hl with
    | [], hl => exact absurd rfl hl
    | [_], _ => simp [R.addLast]
    | _ :: _ :: _, _ => simp [R.addLast]
  have pu : ∀ (s : R.St) x, s.ts ≠ [] → (R.put s x).ts ≠ [] := fun s x hs => by
    unfold R.put
    split
    · exact al _ _ hs
    · exact hs
  unfold R.step at h
  split at h
  · unfold R.begins at h
    split at h
    · split at h
      · simp at h; rw [← h]; simp
      · simp at h
    · simp at h
  · split at h
    · simp at h
    · rename_i hne
      have hne : s.ts ≠ [] := fun e => hne (by rw [e]; rfl)
      split at h
      · unfold R.ends at h
        split at h
        · simp at h
        · split at h
          · simp at h; rw [← h]; exact pu _ _ hne
          · simp at h
      · split at h
        · unfold R.branch at h
          split at h
          · split at h
            · simp at h; rw [← h]; exact hne
            · simp at h
          · simp at h
        · unfold R.one at h
          split at h
          · simp at h; rw [← h]; exact pu _ _ hne
          · simp at h

theorem run_some (xs : List (List UInt8)) : ∀ (s s' : R.St) (i : Int), (R.run s i xs).1 = some s' → (R.run s i xs).2 = i + xs.length ∧ (xs ≠ [] → s'.ts ≠ []) := by
  induction xs with
  | nil => intro s s' i _; exact ⟨by simp [R.run], fun h => absurd rfl h⟩
  | cons x xs ih =>
    intro s s' i h
    simp only [R.run] at h ⊢
    cases hw : (P.splitAt 32 x).map R.mkB with
    | nil => rw [hw] at h; simp at h
    | cons c w =>
      rw [hw] at h
      simp only [] at h ⊢
      cases hs : R.step s (i + 1) c w with
      | none => rw [hs] at h; simp at h
      | some s2 =>
        rw [hs] at h
        simp only [] at h ⊢
        have := ih _ _ _ h
        refine ⟨by rw [this.1]; simp; omega, fun _ => ?_⟩
        by_cases hx : xs = []
        · subst hx
          simp [R.run] at h
          rw [← h]; exact step_ne hs
        · exact this.2 hx

theorem run_none (xs : List (List UInt8)) : ∀ (s : R.St) (i : Int), (R.run s i xs).1 = none → i < (R.run s i xs).2 := by
  induction xs with
  | nil => intro s i h; simp [R.run] at h
  | cons x xs ih =>
    intro s i h
    simp only [R.run] at h ⊢
    cases hw : (P.splitAt 32 x).map R.mkB with
    | nil => simp only []; omega
    | cons c w =>
      rw [hw] at h
      simp only [] at h ⊢
      cases hs : R.step s (i + 1) c w with
      | none => simp only []; omega
      | some s2 =>
        rw [hs] at h
        simp only [] at h ⊢
        have := ih _ _ h
        omega

/-- the threads of both, whole -/
theorem Rel.whole {r : P.Rd} {s : R.St} (h : Rel r s) (ho : s.opn = []) : ∃ k, ThrC 0 s.ts r.threads k := by
  rcases h.ths with ⟨h1, h2, _⟩ | ⟨ts, us, t, u, m, k, b, q, h1, h2, h3, h5, h6, h7, h8, h9⟩
  · exact ⟨0, by rw [h1, h2]; exact .nil 0⟩
  · obtain ⟨e1, e2, e3⟩ := h6.none ho
    refine ⟨k, ?_⟩
    rw [h1, h2]
    refine h3.toC.append (.cons ?_ h8 h9 (.nil _))
    rw [h7, e1, List.append_nil]; exact h5

theorem uneven_pos (all : List P.Thr) (l : List P.Thr) (h : ∀ u ∈ l, 0 < u.line) : 0 ≤ P.unevenIn all l := by
  induction l with
  | nil => simp [P.unevenIn]
  | cons t r ih =>
    simp only [P.unevenIn]
    split
    · have := h t (by simp); omega
    · exact ih (fun u hu => h u (by simp [hu]))

/-- WHAT THE PROGRAM READS IS WHAT THE REFERENCE READS. -/
theorem kernel_read (l : List UInt8) : (P.kernel l).2 = (R.read l).2 ∧ ((R.read l).2.1 = 0 → ∃ k, ThrC 0 (R.read l).1 (P.kernel l).1 k ∧ P.innerO (P.kernel l).1 = none ∧ ∀ u ∈ (P.kernel l).1, u.block = 0 ∨ u.block = 1) := by
  unfold P.kernel R.read
  by_cases hl : 2000 < l.length
  · rw [if_pos hl, if_pos hl]; exact ⟨rfl, fun h => by simp at h⟩
  rw [if_neg hl, if_neg hl]
  have E := run_eq (P.splitAt 10 l).dropLast P.Rd.zero R.St.zero 0 rel_zero rfl (by omega)
  have S := run_some (P.splitAt 10 l).dropLast R.St.zero
  have N := run_none (P.splitAt 10 l).dropLast R.St.zero 0
  have Z : (P.splitAt 10 l).dropLast = [] → (P.runLines P.Rd.zero (P.splitAt 10 l).dropLast).1.threads = [] := fun h => by rw [h]; rfl
  unfold P.lines
  generalize P.runLines P.Rd.zero (P.splitAt 10 l).dropLast = q at E Z ⊢
  have S' := fun s' => S s' 0
  clear S
  generalize R.run R.St.zero 0 (P.splitAt 10 l).dropLast = o at E S' N ⊢
  obtain ⟨o, n⟩ := o
  obtain ⟨E1, E2⟩ := E
  cases o with
  | none =>
    have := N rfl
    simp only [] at E1 E2 this ⊢
    have hn : (n != 0) = true := by simp; omega
    simp only [E2, Bool.false_eq_true, if_false, E1, hn, if_true]
    exact ⟨trivial, fun h => by simp at h⟩
  | some s =>
    obtain ⟨s1, s2⟩ := S' s rfl
    simp only [] at E1 E2 s1 ⊢
    obtain ⟨E2, E3⟩ := E2
    simp only [E2, if_true]
    have hz : q.1.threads = [] ↔ n = 0 := by
      constructor
      · intro h
        have : s.ts = [] := List.length_eq_zero_iff.1 (by rw [← E3.thsLen, h]; rfl)
        have hx : (P.splitAt 10 l).dropLast = [] := by
          by_cases hx : (P.splitAt 10 l).dropLast = []
          · exact hx
          · exact absurd this (s2 hx)
        rw [s1, hx]; rfl
      · intro h
        refine Z (List.length_eq_zero_iff.1 ?_)
        omega
    have h0 : 0 ≤ n := by omega
    have ho := E3.opnLen
    have hoz : q.1.opn = [] ↔ s.opn = [] := by
      constructor
      · intro h; exact List.length_eq_zero_iff.1 (by rw [← ho, h]; rfl)
      · intro h; exact List.length_eq_zero_iff.1 (by rw [ho, h]; rfl)
    by_cases hb : (P.splitAt 10 l).getLast? ≠ some [] ∨ n = 0 ∨ s.opn ≠ []
    · have hb' : (P.splitAt 10 l).getLast? ≠ some [] ∨ q.1.opn ≠ [] ∨ q.1.threads = [] := by
        rcases hb with h | h | h
        · exact Or.inl h
        · exact Or.inr (Or.inr (hz.2 h))
        · exact Or.inr (Or.inl (fun e => h (hoz.1 e)))
      rw [if_pos hb, if_pos hb']
      have hn : (n + 1 != 0) = true := by simp; omega
      simp only [E1, hn, if_true]
      exact ⟨trivial, fun h => by simp at h⟩
    · have hb' : ¬ ((P.splitAt 10 l).getLast? ≠ some [] ∨ q.1.opn ≠ [] ∨ q.1.threads = []) := by
        rintro (h | h | h)
        · exact hb (Or.inl h)
        · exact hb (Or.inr (Or.inr (fun e => h (hoz.2 e))))
        · exact hb (Or.inr (Or.inl (hz.1 h)))
      rw [if_neg hb, if_neg hb']
      have hopn : s.opn = [] := Classical.byContradiction fun h => hb (Or.inr (Or.inr h))
      obtain ⟨k, W⟩ := E3.whole hopn
      have hin : P.innerB q.1.threads = s.inner := by rw [P.innerO_get, E3.inn]
      have hun : P.unevenIn q.1.threads q.1.threads = R.uneven s.ts := by
        have := uneven_go W [] (fun u hu => (E3.thr u hu).2)
        simpa [P.firstOf, R.uneven] using this
      have hup : 0 ≤ R.uneven s.ts := by rw [← hun]; exact uneven_pos _ _ (fun u hu => (E3.thr u hu).1)
      have hip : 0 ≤ s.inner := by
        rw [E3.inn]
        cases hx : P.innerO q.1.threads with
        | none => simp
        | some v => have := E3.pos v hx; simp; omega
      have hwi := within_eq W
      simp only [hin, hun, bne_self_eq_false, Bool.false_eq_true, if_false]
      by_cases hi : s.inner = 0
      · rw [hi]
        simp only [bne_self_eq_false, Bool.false_eq_true, if_false, beq_self_eq_true, if_true]
        by_cases hu : R.uneven s.ts = 0
        · rw [hu]
          simp only [bne_self_eq_false, Bool.false_eq_true, if_false, Int.lt_irrefl]
          rw [hwi]
          cases P.over q.1.threads
          · simp only [Bool.false_eq_true, if_false, Bool.not_false, if_true]
            refine ⟨trivial, fun _ => ⟨k, W, ?_, fun u hu => (E3.thr u hu).2⟩⟩
            cases hx : P.innerO q.1.threads with
            | none => rfl
            | some v => have h5 := E3.pos v hx; have h6 := E3.inn; rw [hx, hi] at h6; simp at h6; omega
          · simp
        · have h1 : (R.uneven s.ts != 0) = true := by simpa using hu
          have h2 : 0 < R.uneven s.ts := by omega
          simp [h1, h2]
      · have h1 : (s.inner != 0) = true := by simpa using hi
        have h3 : (s.inner == 0) = false := by simpa using hi
        have h2 : 0 < s.inner := by omega
        simp [h1, h2, h3]

/-- WHAT COMPILE ANSWERS, BY THE REFERENCE. -/
theorem compile_read (l : List UInt8) : P.compile l = if (R.read l).2.1 != 0 then ([], (R.read l).2.1, (R.read l).2.2) else (R.textTs 0 (R.read l).1, 0, 0) := by
  have h := kernel_read l
  unfold P.compile
  rw [h.1]
  cases hx : ((R.read l).2.1 != 0)
  · simp only [Bool.false_eq_true, if_false]
    obtain ⟨k, W, _⟩ := h.2 (by simpa using hx)
    rw [W.text]
  · simp
end Go.Proofs.YtpkjmdcabdplfaaGreatDoor
