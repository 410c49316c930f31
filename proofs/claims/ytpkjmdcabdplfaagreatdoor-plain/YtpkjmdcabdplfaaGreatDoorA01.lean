import Derived.Lib.ItoaNum
set_option linter.unusedVariables false
set_option linter.unusedSimpArgs false
namespace Go.Proofs.YtpkjmdcabdplfaaGreatDoor
namespace P

structure Opd where
  reg : Bool
  n : Int

structure Stm where
  kind : Int
  line : Int
  dest : Int
  var : Int
  a : Opd
  b : Opd
  order : Int
  scope : Int
  label : Int

def Opd.zero : Opd := ⟨false, 0⟩
def Stm.zero : Stm := ⟨0, 0, 0, 0, Opd.zero, Opd.zero, 0, 0, 0⟩

def digit (c : UInt8) (n : Int) : Int × Bool := ((c.toNat : Int) - 48, decide (48 ≤ (c.toNat : Int)) && decide ((c.toNat : Int) - 48 < n))

def register : List UInt8 → Int × Bool
  | [c, d] => if c = 114 then digit d 4 else (0, false)
  | _ => (0, false)

def operand : List UInt8 → Opd × Bool
  | [c] => (⟨false, (digit c 4).1⟩, (digit c 4).2)
  | l => (⟨true, (register l).1⟩, (register l).2)

def varOf (l : List UInt8) : Int × Bool :=
  if l == [120] then (0, true) else if l == [121] then (1, true) else if l == [122] then (2, true) else (0, false)

def order (l : List UInt8) : Int × Bool :=
  if l == [119, 101, 97, 107] then (0, true)
  else if l == [114, 101, 108, 97, 120, 101, 100] then (1, true)
  else if l == [97, 99, 113, 117, 105, 114, 101] then (2, true)
  else if l == [114, 101, 108, 101, 97, 115, 101] then (3, true)
  else if l == [97, 99, 113, 114, 101, 108] then (4, true)
  else if l == [115, 99] then (5, true)
  else (0, false)

def scope (l : List UInt8) : Int × Bool :=
  if l == [98, 108, 111, 99, 107] then (0, true) else if l == [100, 101, 118, 105, 99, 101] then (1, true) else (0, false)

def sign (l : List UInt8) : Int × Bool :=
  if l == [43] then (7, true) else if l == [45] then (8, true) else if l == [61, 61] then (9, true) else (0, false)

def allows (kind order : Int) : Bool :=
  if kind == 0 then order == 0 || order == 1 || order == 2
  else if kind == 1 then order == 0 || order == 1 || order == 3
  else if kind == 2 || kind == 3 then order == 1 || order == 2 || order == 3 || order == 4
  else if kind == 4 then order == 4 || order == 5
  else false

def reads (kind : Int) : Bool := kind == 0 || kind == 2 || kind == 3
def writes (kind : Int) : Bool := kind == 1 || kind == 2 || kind == 3

def target (st : Stm) (place value : List UInt8) : Stm × Bool :=
  if (varOf place).2 then ({ st with var := (varOf place).1, a := (operand value).1 }, (operand value).2) else (st, false)

def ordering (st : Stm) : List (List UInt8) → Stm × Bool
  | [] => (st, false)
  | o :: r =>
    if (order o).2 && allows st.kind (order o).1 then
      if (order o).1 == 0 then ({ st with order := 0 }, r.isEmpty)
      else match r with
        | [s] => ({ st with order := (order o).1, scope := (scope s).1 }, (scope s).2)
        | _ => ({ st with order := (order o).1 }, false)
    else (st, false)

theorem ordering_no1 (st : Stm) (o : List UInt8) (r : List (List UInt8)) (h : (order o).2 = false) : ordering st (o :: r) = (st, false) := by simp [ordering, h]
theorem ordering_no2 (st : Stm) (o : List UInt8) (r : List (List UInt8)) (h : allows st.kind (order o).1 = false) : ordering st (o :: r) = (st, false) := by simp [ordering, h]
theorem ordering_weak (st : Stm) (o : List UInt8) (r : List (List UInt8)) (h : (order o).2 = true) (h2 : allows st.kind (order o).1 = true) (h3 : (order o).1 = 0) : ordering st (o :: r) = ({ st with order := 0 }, r.isEmpty) := by
  rw [h3] at h2; simp [ordering, h, h2, h3]
theorem ordering_short (st : Stm) (o : List UInt8) (h : (order o).2 = true) (h2 : allows st.kind (order o).1 = true) (h3 : ((order o).1 == 0) = false) : ordering st [o] = ({ st with order := (order o).1 }, false) := by
  simp [ordering, h, h2, h3]
theorem ordering_two (st : Stm) (o s : List UInt8) (h : (order o).2 = true) (h2 : allows st.kind (order o).1 = true) (h3 : ((order o).1 == 0) = false) : ordering st [o, s] = ({ st with order := (order o).1, scope := (scope s).1 }, (scope s).2) := by
  simp [ordering, h, h2, h3]
theorem ordering_long (st : Stm) (o s t : List UInt8) (q : List (List UInt8)) (h : (order o).2 = true) (h2 : allows st.kind (order o).1 = true) (h3 : ((order o).1 == 0) = false) : ordering st (o :: s :: t :: q) = ({ st with order := (order o).1 }, false) := by
  simp [ordering, h, h2, h3]

def load (st : Stm) : List (List UInt8) → Stm × Bool
  | [] => (st, false)
  | v :: r => if (varOf v).2 then ordering { st with kind := 0, var := (varOf v).1 } r else (st, false)

def step (st : Stm) (kind : Int) : List (List UInt8) → Stm × Bool
  | p :: v :: r => let t := target { st with kind := kind } p v
    if t.2 then ordering t.1 r else (t.1, false)
  | _ => (st, false)

def sum (st : Stm) : List (List UInt8) → Stm × Bool
  | [a] => if (operand a).2 then ({ st with kind := 6, a := (operand a).1 }, true) else (st, false)
  | [a, s, b] =>
    if (operand a).2 then
      if (sign s).2 then ({ st with kind := (sign s).1, a := (operand a).1, b := (operand b).1 }, (operand b).2)
      else ({ st with kind := 6, a := (operand a).1 }, false)
    else (st, false)
  | _ => (st, false)

theorem load_no (st : Stm) (v : List UInt8) (r : List (List UInt8)) (h : (varOf v).2 = false) : load st (v :: r) = (st, false) := by simp [load, h]
theorem load_yes (st : Stm) (v : List UInt8) (r : List (List UInt8)) (h : (varOf v).2 = true) : load st (v :: r) = ordering { st with kind := 0, var := (varOf v).1 } r := by simp [load, h]
theorem step_no (st : Stm) (k : Int) (p v : List UInt8) (r : List (List UInt8)) (h : (target { st with kind := k } p v).2 = false) : step st k (p :: v :: r) = ((target { st with kind := k } p v).1, false) := by simp [step, h]
theorem step_yes (st : Stm) (k : Int) (p v : List UInt8) (r : List (List UInt8)) (h : (target { st with kind := k } p v).2 = true) : step st k (p :: v :: r) = ordering (target { st with kind := k } p v).1 r := by simp [step, h]

theorem sum_no (st : Stm) (a : List UInt8) (r : List (List UInt8)) (h : (operand a).2 = false) : sum st (a :: r) = (st, false) := by
  match r with
  | [] => simp [sum, h]
  | [_] => simp [sum]
  | [_, _] => simp [sum, h]
  | _ :: _ :: _ :: _ => simp [sum]
theorem sum_one (st : Stm) (a : List UInt8) (h : (operand a).2 = true) : sum st [a] = ({ st with kind := 6, a := (operand a).1 }, true) := by simp [sum, h]
theorem sum_sign (st : Stm) (a s b : List UInt8) (h : (operand a).2 = true) (h2 : (sign s).2 = false) : sum st [a, s, b] = ({ st with kind := 6, a := (operand a).1 }, false) := by simp [sum, h, h2]
theorem sum_all (st : Stm) (a s b : List UInt8) (h : (operand a).2 = true) (h2 : (sign s).2 = true) : sum st [a, s, b] = ({ st with kind := (sign s).1, a := (operand a).1, b := (operand b).1 }, (operand b).2) := by simp [sum, h, h2]
theorem sum_len (st : Stm) (l : List (List UInt8)) (h1 : ¬ l.length = 1) (h3 : ¬ l.length = 3) : sum st l = (st, false) := by
  match l with
  | [] => rfl
  | [_] => simp at h1
  | [_, _] => rfl
  | [_, _, _] => simp at h3
  | _ :: _ :: _ :: _ :: _ => rfl

def assignment : List (List UInt8) → Stm × Bool
  | d :: e :: c :: r =>
    if e == [61] then
      if (register d).2 then
        if c == [108, 111, 97, 100] then load { Stm.zero with dest := (register d).1 } r
        else if c == [97, 100, 100] then step { Stm.zero with dest := (register d).1 } 2 r
        else if c == [115, 119, 97, 112] then step { Stm.zero with dest := (register d).1 } 3 r
        else sum { Stm.zero with dest := (register d).1 } (c :: r)
      else (Stm.zero, false)
    else (Stm.zero, false)
  | _ => (Stm.zero, false)

def store : List (List UInt8) → Stm × Bool
  | _ :: p :: v :: r => let t := target { Stm.zero with kind := 1 } p v
    if t.2 then ordering t.1 r else (Stm.zero, false)
  | _ => (Stm.zero, false)

def fence : List (List UInt8) → Stm × Bool
  | _ :: r => ordering { Stm.zero with kind := 4 } r
  | _ => (Stm.zero, false)

def condition : List (List UInt8) → Stm × Bool
  | [_, a] => ({ Stm.zero with kind := 10, a := (operand a).1 }, (operand a).2)
  | _ => (Stm.zero, false)

def statement : List (List UInt8) → Stm × Bool
  | [] => (Stm.zero, false)
  | c :: r =>
    if c == [115, 116, 111, 114, 101] then store (c :: r)
    else if c == [102, 101, 110, 99, 101] then fence (c :: r)
    else if c == [98, 97, 114, 114, 105, 101, 114] then ({ Stm.zero with kind := 5 }, r.isEmpty)
    else if c == [105, 102] then condition (c :: r)
    else if c == [101, 110, 100] then ({ Stm.zero with kind := 11 }, r.isEmpty)
    else assignment (c :: r)

end P
end Go.Proofs.YtpkjmdcabdplfaaGreatDoor

namespace Go.Proofs.YtpkjmdcabdplfaaGreatDoor
namespace P

def splitAt (c : UInt8) : List UInt8 → List (List UInt8)
  | [] => [[]]
  | x :: r => if x = c then [] :: splitAt c r else match splitAt c r with
    | h :: t => (x :: h) :: t
    | [] => [[x]]

theorem splitAt_ne (c : UInt8) (l : List UInt8) : splitAt c l ≠ [] := by
  cases l with
  | nil => simp [splitAt]
  | cons x r =>
    unfold splitAt
    split
    · simp
    · split <;> simp

theorem splitAt_cons_eq (c : UInt8) (r : List UInt8) : splitAt c (c :: r) = [] :: splitAt c r := by simp [splitAt]
theorem splitAt_cons_ne (c x : UInt8) (r : List UInt8) (h : x ≠ c) (a : List UInt8) (b : List (List UInt8)) (e : splitAt c r = a :: b) : splitAt c (x :: r) = (x :: a) :: b := by simp [splitAt, h, e]

theorem splitAt_snoc (c x : UInt8) (l : List UInt8) : ∀ (a : List (List UInt8)) (b : List UInt8), splitAt c l = a ++ [b] → splitAt c (l ++ [x]) = if x = c then a ++ [b, []] else a ++ [b ++ [x]] := by
  induction l with
  | nil =>
    intro a b h
    simp [splitAt] at h
    have : a = [] ∧ b = [] := by
      cases a with
      | nil => simpa using h
      | cons p q => simp at h
    obtain ⟨rfl, rfl⟩ := this
    by_cases hx : x = c <;> simp [splitAt, hx]
  | cons y r ih =>
    intro a b h
    by_cases hy : y = c
    · subst hy
      rw [splitAt_cons_eq] at h
      cases a with
      | nil =>
        simp at h
        exact absurd h.2 (splitAt_ne _ _)
      | cons p q =>
        simp at h
        obtain ⟨rfl, h⟩ := h
        have := ih q b h
        rw [List.cons_append, splitAt_cons_eq, this]
        split <;> simp
    · cases hs : splitAt c r with
      | nil => exact absurd hs (splitAt_ne _ _)
      | cons p q =>
        rw [splitAt_cons_ne c y r hy p q hs] at h
        rw [List.cons_append]
        cases a with
        | nil =>
          simp at h
          obtain ⟨rfl, rfl⟩ := h
          have := ih [] p (by simpa using hs)
          by_cases hx : x = c
          · rw [if_pos hx] at this ⊢
            rw [splitAt_cons_ne c y _ hy p [[]] (by simpa using this)]; simp
          · rw [if_neg hx] at this ⊢
            rw [splitAt_cons_ne c y _ hy (p ++ [x]) [] (by simpa using this)]; simp
        | cons p' q' =>
          simp at h
          obtain ⟨rfl, rfl⟩ := h
          have := ih (p :: q') b (by simpa using hs)
          by_cases hx : x = c
          · rw [if_pos hx] at this ⊢
            rw [splitAt_cons_ne c y _ hy p (q' ++ [b, []]) (by simpa using this)]; simp
          · rw [if_neg hx] at this ⊢
            rw [splitAt_cons_ne c y _ hy p (q' ++ [b ++ [x]]) (by simpa using this)]; simp
end P
end Go.Proofs.YtpkjmdcabdplfaaGreatDoor

namespace Go.Proofs.YtpkjmdcabdplfaaGreatDoor
namespace P

structure Thr where
  block : Int
  line : Int
  stmts : List Stm

structure Rd where
  threads : List Thr
  line : Int
  count : Int
  ifs : Int
  opn : List Int
  most : Int

def Rd.zero : Rd := ⟨[], 0, 0, 0, [], 8⟩

def putLast : List Thr → Stm → List Thr
  | [], _ => []
  | [t], s => [{ t with stmts := t.stmts ++ [s] }]
  | t :: u :: r, s => t :: putLast (u :: r) s

theorem putLast_snoc (ts : List Thr) (t : Thr) (s : Stm) : putLast (ts ++ [t]) s = ts ++ [{ t with stmts := t.stmts ++ [s] }] := by
  induction ts with
  | nil => rfl
  | cons a r ih => cases r with
    | nil => rfl
    | cons b q => simpa [putLast] using ih
theorem putLast_length (ts : List Thr) (s : Stm) : (putLast ts s).length = ts.length := by
  match ts with
  | [] => rfl
  | [_] => rfl
  | t :: u :: r => simpa [putLast] using putLast_length (u :: r) s

def put (r : Rd) (s : Stm) : Rd := { r with threads := putLast r.threads s }

def ends (r : Rd) (s : Stm) : Rd × Bool :=
  match r.opn.getLast? with
  | none => (r, false)
  | some l => (put { r with opn := r.opn.dropLast } { s with label := l }, true)

def branch (r : Rd) (s : Stm) : Rd × Bool :=
  if 2 ≤ r.opn.length then (r, false) else (put { r with ifs := r.ifs + 1, opn := r.opn ++ [r.ifs + 1] } { s with label := r.ifs + 1 }, true)

def begins (r : Rd) (ws : List (List UInt8)) : Rd × Bool :=
  if 4 ≤ r.threads.length ∨ 0 < r.opn.length then (r, false)
  else match ws with
    | [_, [c]] => if (digit c 2).2 then ({ r with threads := r.threads ++ [⟨(digit c 2).1, r.line, []⟩], count := 0 }, true) else (r, false)
    | _ => (r, false)

def takes (r : Rd) (ws : List (List UInt8)) : Rd × Bool :=
  if ws.head? == some [116, 104, 114, 101, 97, 100] then begins r ws
  else if r.threads.isEmpty then (r, false)
  else
    let st := { (statement ws).1 with line := r.line }
    if (statement ws).2 then
      if st.kind == 11 then ends r st
      else if 8 ≤ r.count then (r, false)
      else if st.kind == 10 then
        if 2 ≤ r.opn.length then ({ r with count := r.count + 1 }, false) else branch { r with count := r.count + 1 } st
      else (put { r with count := r.count + 1 } st, true)
    else (r, false)

def beginD (r : Rd) (b l : Int) : Rd × Bool :=
  if 4 ≤ r.threads.length ∨ 0 < r.opn.length then (r, false) else ({ r with threads := r.threads ++ [⟨b, l, []⟩], count := 0 }, true)

def putD (r : Rd) (st : Stm) : Rd × Bool :=
  if r.threads.isEmpty then (r, false)
  else if st.kind == 11 then ends r st
  else if r.most ≤ r.count then (r, false)
  else if st.kind == 10 then
    if 2 ≤ r.opn.length then ({ r with count := r.count + 1 }, false) else branch { r with count := r.count + 1 } st
  else (put { r with count := r.count + 1 } st, true)

theorem begins_D (r : Rd) (a : List UInt8) (c : UInt8) : begins r [a, [c]] = if (digit c 2).2 then beginD r (digit c 2).1 r.line else (r, false) := by
  unfold begins beginD
  by_cases h : 4 ≤ r.threads.length ∨ 0 < r.opn.length
  · simp only [if_pos h]; split <;> rfl
  · simp only [if_neg h]

theorem takes_D (r : Rd) (c : List UInt8) (rs : List (List UInt8)) (h : (c == [116, 104, 114, 101, 97, 100]) = false) (hm : r.most = 8) :
    takes r (c :: rs) = if (statement (c :: rs)).2 then putD r { (statement (c :: rs)).1 with line := r.line } else (r, false) := by
  have h' : ((c :: rs).head? == some [116, 104, 114, 101, 97, 100]) = false := by simpa using h
  unfold takes putD
  rw [h', hm]
  simp only [Bool.false_eq_true, if_false]
  cases ht : r.threads.isEmpty
  · simp only [Bool.false_eq_true, if_false]
  · simp

theorem beginD_keep (r : Rd) (b l : Int) : (beginD r b l).1.line = r.line ∧ (beginD r b l).1.most = r.most := by
  unfold beginD; split <;> exact ⟨rfl, rfl⟩
theorem ends_keep (r : Rd) (s : Stm) : (ends r s).1.line = r.line ∧ (ends r s).1.most = r.most := by
  unfold ends; split <;> exact ⟨rfl, rfl⟩
theorem branch_keep (r : Rd) (s : Stm) : (branch r s).1.line = r.line ∧ (branch r s).1.most = r.most := by
  unfold branch; split <;> exact ⟨rfl, rfl⟩
theorem putD_keep (r : Rd) (s : Stm) : (putD r s).1.line = r.line ∧ (putD r s).1.most = r.most := by
  unfold putD
  split
  · exact ⟨rfl, rfl⟩
  split
  · exact ends_keep r s
  split
  · exact ⟨rfl, rfl⟩
  split
  · split
    · exact ⟨rfl, rfl⟩
    · exact branch_keep _ s
  · exact ⟨rfl, rfl⟩
theorem begins_keep (r : Rd) (ws : List (List UInt8)) : (begins r ws).1.line = r.line ∧ (begins r ws).1.most = r.most := by
  unfold begins
  split
  · exact ⟨rfl, rfl⟩
  split
  · split <;> exact ⟨rfl, rfl⟩
  · exact ⟨rfl, rfl⟩
theorem takes_keep (r : Rd) (ws : List (List UInt8)) (hm : r.most = 8) : (takes r ws).1.line = r.line ∧ (takes r ws).1.most = 8 := by
  cases ws with
  | nil =>
    unfold takes
    simp only [List.head?_nil]
    have : ((none : Option (List UInt8)) == some [116, 104, 114, 101, 97, 100]) = false := rfl
    rw [this]
    simp only [Bool.false_eq_true, if_false]
    have hs : (statement []).2 = false := by rfl
    rw [hs]
    simp only [Bool.false_eq_true, if_false]
    split <;> exact ⟨rfl, hm⟩
  | cons c rs =>
    cases h : (c == [116, 104, 114, 101, 97, 100])
    · rw [takes_D r c rs h hm]
      split
      · have := putD_keep r { (statement (c :: rs)).1 with line := r.line }
        exact ⟨this.1, this.2.trans hm⟩
      · exact ⟨rfl, hm⟩
    · have h' : ((c :: rs).head? == some [116, 104, 114, 101, 97, 100]) = true := by simpa using h
      unfold takes
      rw [h', if_pos rfl]
      have := begins_keep r (c :: rs)
      exact ⟨this.1, this.2.trans hm⟩
end P
end Go.Proofs.YtpkjmdcabdplfaaGreatDoor

namespace Go.Proofs.YtpkjmdcabdplfaaGreatDoor
namespace P

def runLines (r : Rd) : List (List UInt8) → Rd × Bool
  | [] => (r, true)
  | x :: xs =>
    if (takes { r with line := r.line + 1 } (splitAt 32 x)).2 then runLines (takes { r with line := r.line + 1 } (splitAt 32 x)).1 xs
    else ((takes { r with line := r.line + 1 } (splitAt 32 x)).1, false)

theorem runLines_snoc (xs : List (List UInt8)) : ∀ (r r' : Rd) (x : List UInt8), runLines r xs = (r', true) → runLines r (xs ++ [x]) = takes { r' with line := r'.line + 1 } (splitAt 32 x) := by
  induction xs with
  | nil =>
    intro r r' x h
    simp [runLines] at h
    subst h
    simp only [List.nil_append, runLines]
    cases ht : (takes { r with line := r.line + 1 } (splitAt 32 x)).2
    · simp [← ht]
    · simp [← ht]
  | cons y ys ih =>
    intro r r' x h
    simp only [runLines] at h
    simp only [List.cons_append, runLines]
    cases ht : (takes { r with line := r.line + 1 } (splitAt 32 y)).2
    · simp [ht] at h
    · simp only [ht, if_true] at h ⊢
      exact ih _ _ _ h

theorem runLines_more (xs : List (List UInt8)) : ∀ (r : Rd) (ys : List (List UInt8)), (runLines r xs).2 = false → runLines r (xs ++ ys) = runLines r xs := by
  induction xs with
  | nil => intro r ys h; simp [runLines] at h
  | cons y zs ih =>
    intro r ys h
    simp only [List.cons_append, runLines] at h ⊢
    cases ht : (takes { r with line := r.line + 1 } (splitAt 32 y)).2
    · simp
    · simp only [ht, if_true] at h ⊢
      exact ih _ _ h

def lines (l : List UInt8) : List Thr × Int :=
  let q := runLines Rd.zero (splitAt 10 l).dropLast
  if q.2 then
    if (splitAt 10 l).getLast? ≠ some [] ∨ q.1.opn ≠ [] ∨ q.1.threads = [] then ([], q.1.line + 1) else (q.1.threads, 0)
  else ([], q.1.line)

/-- the text is cut from the left: what comes behind adds rows behind -/
theorem splitAt_append (c : UInt8) (l : List UInt8) : ∀ (m : List UInt8) (a : List (List UInt8)) (b : List UInt8), splitAt c l = a ++ [b] → ∃ t, splitAt c (l ++ m) = a ++ t ∧ t ≠ [] := by
  intro m
  induction m generalizing l with
  | nil => intro a b h; exact ⟨[b], by simpa using h, by simp⟩
  | cons x r ih =>
    intro a b h
    have hs := splitAt_snoc c x l a b h
    rw [show l ++ x :: r = (l ++ [x]) ++ r by simp]
    by_cases hx : x = c
    · rw [if_pos hx] at hs
      obtain ⟨t, ht, _⟩ := ih (l ++ [x]) (a ++ [b]) [] (by rw [hs]; simp)
      exact ⟨b :: t, by rw [ht]; simp, by simp⟩
    · rw [if_neg hx] at hs
      exact ih (l ++ [x]) a _ hs

theorem drop_cons {α : Type} (l : List α) (k : Nat) (h : k < l.length) : l.drop k = l[k] :: l.drop (k + 1) := (List.drop_eq_getElem_cons h)
theorem splitAt_length (c : UInt8) (l : List UInt8) : (splitAt c l).length ≤ l.length + 1 := by
  induction l with
  | nil => simp [splitAt]
  | cons x r ih =>
    unfold splitAt
    split
    · simp; omega
    · split
      · rename_i h t e; rw [e] at ih; simp at ih ⊢; omega
      · simp

structure Good (k : Nat) (r : Rd) : Prop where
  few : r.threads.length ≤ 4
  stm : ∀ t ∈ r.threads, t.stmts.length ≤ k
  opn : r.opn.length ≤ 2
  ifs0 : 0 ≤ r.ifs
  ifs1 : r.ifs ≤ k
  cnt : 0 ≤ r.count
  lin0 : 0 ≤ r.line
  lin1 : r.line ≤ k

theorem good_zero : Good 0 Rd.zero := ⟨by simp [Rd.zero], by simp [Rd.zero], by simp [Rd.zero], by simp [Rd.zero], by simp [Rd.zero], by simp [Rd.zero], by simp [Rd.zero], by simp [Rd.zero]⟩

theorem putLast_mem (ts : List Thr) (s : Stm) (k : Nat) (h : ∀ t ∈ ts, t.stmts.length ≤ k) : ∀ t ∈ putLast ts s, t.stmts.length ≤ k + 1 := by
  match ts, h with
  | [], h => intro t ht; simp [putLast] at ht
  | [a], h =>
    intro t ht
    simp [putLast] at ht
    subst ht
    have := h a (by simp)
    simp; omega
  | a :: b :: r, h =>
    intro t ht
    simp only [putLast, List.mem_cons] at ht
    rcases ht with rfl | ht
    · have := h t (by simp); omega
    · exact putLast_mem (b :: r) s k (fun t ht => h t (by simp at ht ⊢; right; exact ht)) t ht

theorem good_put {k : Nat} {r : Rd} (s : Stm) (h : Good k r) : Good (k + 1) (put r s) :=
  ⟨by simp only [put, putLast_length]; exact h.few, putLast_mem _ _ _ h.stm, h.opn, h.ifs0, by have := h.ifs1; simp [put]; omega, h.cnt, h.lin0, by have := h.lin1; simp [put]; omega⟩

theorem good_mono {k : Nat} {r : Rd} (h : Good k r) : Good (k + 1) r :=
  ⟨h.few, fun t ht => by have := h.stm t ht; omega, h.opn, h.ifs0, by have := h.ifs1; omega, h.cnt, h.lin0, by have := h.lin1; omega⟩

theorem good_takes {k : Nat} {r : Rd} (ws : List (List UInt8)) (h : Good k r) (hl : r.line + 1 ≤ k + 1) : Good (k + 1) (takes { r with line := r.line + 1 } ws).1 := by
  have h0 : Good (k + 1) { r with line := r.line + 1 } := ⟨h.few, fun t ht => by have := h.stm t ht; omega, h.opn, h.ifs0, by have := h.ifs1; simp; omega, h.cnt, by have := h.lin0; simp; omega, by simpa using hl⟩
  have hp : ∀ (o : List Int) (i c : Int) (s : Stm), o.length ≤ 2 → 0 ≤ i → i ≤ k + 1 → 0 ≤ c → Good (k + 1) (put { r with line := r.line + 1, opn := o, ifs := i, count := c } s) := fun o i c s h1 h2 h3 h4 =>
    ⟨by simp only [put, putLast_length]; exact h.few, putLast_mem _ _ _ h.stm, h1, h2, by simpa [put] using h3, h4, h0.lin0, h0.lin1⟩
  unfold takes
  split
  · unfold begins
    by_cases hf' : 4 ≤ r.threads.length ∨ 0 < r.opn.length
    · rw [if_pos (by exact hf')]; exact h0
    · rw [if_neg (by exact hf')]
      split
      · split
        · 
          refine ⟨by simp; omega, ?_, h0.opn, h0.ifs0, h0.ifs1, by simp, h0.lin0, h0.lin1⟩
          intro t ht
          simp at ht
          rcases ht with ht | rfl
          · exact h0.stm t ht
          · simp
        · exact h0
      · exact h0
  · split
    · exact h0
    · simp only []
      split
      · split
        · unfold ends
          split
          · exact h0
          · rename_i l hl
            refine hp _ r.ifs r.count _ ?_ h.ifs0 (by have := h.ifs1; omega) h.cnt
            have := h.opn
            simp; omega
        · split
          · exact h0
          · split
            · split
              · exact ⟨h0.few, h0.stm, h0.opn, h0.ifs0, h0.ifs1, by have := h.cnt; simp; omega, h0.lin0, h0.lin1⟩
              · rename_i ho
                unfold branch
                rw [if_neg ho]
                refine hp _ _ _ _ ?_ (by have := h.ifs0; simp; omega) (by have := h.ifs1; simp; omega) (by have := h.cnt; simp; omega)
                simp at ho ⊢; omega
            · exact hp r.opn r.ifs _ _ h.opn h.ifs0 (by have := h.ifs1; omega) (by have := h.cnt; omega)
      · exact h0
end P
end Go.Proofs.YtpkjmdcabdplfaaGreatDoor

namespace Go.Proofs.YtpkjmdcabdplfaaGreatDoor
namespace P
open Go

def dec (n : Int) : List UInt8 := Lib.decDigits n.toNat
def regT (n : Int) : List UInt8 := [37, 114] ++ dec n
def varT (v : Int) : List UInt8 := if v == 0 then [120] else if v == 1 then [121] else [122]
def opdT (o : Opd) : List UInt8 := if o.reg then regT o.n else dec o.n
def ordT (o : Int) : List UInt8 :=
  if o == 1 then [114, 101, 108, 97, 120, 101, 100] else if o == 2 then [97, 99, 113, 117, 105, 114, 101] else if o == 3 then [114, 101, 108, 101, 97, 115, 101]
  else if o == 4 then [97, 99, 113, 95, 114, 101, 108] else [115, 99]
def sufT (st : Stm) : List UInt8 :=
  if st.order == 0 then [46, 119, 101, 97, 107] else [46] ++ ordT st.order ++ (if st.scope == 0 then [46, 99, 116, 97] else [46, 103, 112, 117])
def celT (v : Int) : List UInt8 := [91] ++ varT v ++ [93]
def labT (n : Int) : List UInt8 := [76] ++ dec n
def instr (st : Stm) : List UInt8 :=
  if st.kind == 0 then [108, 100] ++ sufT st ++ [32] ++ regT st.dest ++ [44, 32] ++ celT st.var
  else if st.kind == 1 then [115, 116] ++ sufT st ++ [32] ++ celT st.var ++ [44, 32] ++ opdT st.a
  else if st.kind == 2 then [97, 116, 111, 109, 46, 97, 100, 100] ++ sufT st ++ [32] ++ regT st.dest ++ [44, 32] ++ celT st.var ++ [44, 32] ++ opdT st.a
  else if st.kind == 3 then [97, 116, 111, 109, 46, 101, 120, 99, 104] ++ sufT st ++ [32] ++ regT st.dest ++ [44, 32] ++ celT st.var ++ [44, 32] ++ opdT st.a
  else if st.kind == 4 then [102, 101, 110, 99, 101] ++ sufT st
  else if st.kind == 5 then [98, 97, 114, 46, 115, 121, 110, 99]
  else if st.kind == 6 then [109, 111, 118, 32] ++ regT st.dest ++ [44, 32] ++ opdT st.a
  else if st.kind == 7 then [97, 100, 100, 32] ++ regT st.dest ++ [44, 32] ++ opdT st.a ++ [44, 32] ++ opdT st.b
  else if st.kind == 8 then [115, 117, 98, 32] ++ regT st.dest ++ [44, 32] ++ opdT st.a ++ [44, 32] ++ opdT st.b
  else if st.kind == 9 then [115, 101, 116, 101, 113, 32] ++ regT st.dest ++ [44, 32] ++ opdT st.a ++ [44, 32] ++ opdT st.b
  else if st.kind == 11 then labT st.label ++ [58]
  else [98, 122, 32] ++ opdT st.a ++ [44, 32] ++ labT st.label

def writeS : List Stm → List UInt8
  | [] => []
  | s :: r => instr s ++ [10] ++ writeS r
def writeT (t : Thr) : List UInt8 := [46, 116, 104, 114, 101, 97, 100, 32] ++ dec t.block ++ [10] ++ writeS t.stmts
def write : List Thr → List UInt8
  | [] => []
  | t :: r => writeT t ++ write r

/-- numbers that are small enough to be written in two digits -/
structure Small (st : Stm) : Prop where
  d0 : 0 ≤ st.dest
  d1 : st.dest < 100
  a0 : 0 ≤ st.a.n
  a1 : st.a.n < 100
  b0 : 0 ≤ st.b.n
  b1 : st.b.n < 100
  l0 : 0 ≤ st.label
  l1 : st.label < 100

theorem dec_len (n : Int) (h : n < 100) : (dec n).length ≤ 2 := by
  have : ∀ i : Fin 100, (Lib.decDigits i.1).length ≤ 2 := by decide +kernel
  unfold dec
  by_cases h0 : 0 ≤ n
  · exact this ⟨n.toNat, by omega⟩
  · rw [show n.toNat = 0 by omega]; exact this ⟨0, by omega⟩
end P
end Go.Proofs.YtpkjmdcabdplfaaGreatDoor

namespace Go.Proofs.YtpkjmdcabdplfaaGreatDoor
namespace P

structure Nums (st : Stm) : Prop where
  d0 : 0 ≤ st.dest
  d1 : st.dest < 4
  a0 : 0 ≤ st.a.n
  a1 : st.a.n < 4
  b0 : 0 ≤ st.b.n
  b1 : st.b.n < 4
  l0 : st.label = 0

theorem nums_zero : Nums Stm.zero := ⟨by decide, by decide, by decide, by decide, by decide, by decide, rfl⟩

theorem digit_ok (c : UInt8) (n : Int) (h : (digit c n).2 = true) : 0 ≤ (digit c n).1 ∧ (digit c n).1 < n := by
  simp [digit] at h ⊢
  omega
theorem register_ok (l : List UInt8) (h : (register l).2 = true) : 0 ≤ (register l).1 ∧ (register l).1 < 4 := by
  unfold register at h ⊢
  split at h
  · split at h
    · rename_i h1; simp only [if_pos h1]; exact digit_ok _ _ h
    · simp at h
  · simp at h
theorem operand_ok (l : List UInt8) (h : (operand l).2 = true) : 0 ≤ (operand l).1.n ∧ (operand l).1.n < 4 := by
  unfold operand at h ⊢
  split at h
  · exact digit_ok _ _ h
  · exact register_ok _ h

theorem nums_ordering {st : Stm} (hs : Nums st) (ws : List (List UInt8)) : Nums (ordering st ws).1 := by
  have h1 : ∀ o, Nums { st with order := o } := fun o => ⟨hs.d0, hs.d1, hs.a0, hs.a1, hs.b0, hs.b1, hs.l0⟩
  have h2 : ∀ o s, Nums { st with order := o, scope := s } := fun o s => ⟨hs.d0, hs.d1, hs.a0, hs.a1, hs.b0, hs.b1, hs.l0⟩
  unfold ordering
  split
  · exact hs
  · split
    · split
      · exact h1 _
      · split
        · exact h2 _ _
        · exact h1 _
    · exact hs

theorem nums_target {st : Stm} (hs : Nums st) (p v : List UInt8) (h : (target st p v).2 = true) : Nums (target st p v).1 := by
  unfold target at h ⊢
  split at h
  · rename_i h1
    simp only [h1, if_true]
    have := operand_ok v h
    exact ⟨hs.d0, hs.d1, this.1, this.2, hs.b0, hs.b1, hs.l0⟩
  · simp at h

theorem nums_kind {st : Stm} (hs : Nums st) (k : Int) : Nums { st with kind := k } := ⟨hs.d0, hs.d1, hs.a0, hs.a1, hs.b0, hs.b1, hs.l0⟩

theorem nums_load {st : Stm} (hs : Nums st) (ws : List (List UInt8)) : Nums (load st ws).1 := by
  unfold load
  split
  · exact hs
  · split
    · refine nums_ordering (st := { st with kind := 0, var := _ }) ?_ _
      exact ⟨hs.d0, hs.d1, hs.a0, hs.a1, hs.b0, hs.b1, hs.l0⟩
    · exact hs
theorem nums_step {st : Stm} (hs : Nums st) (k : Int) (ws : List (List UInt8)) (h : (step st k ws).2 = true) : Nums (step st k ws).1 := by
  match ws, h with
  | [], h => simp [step] at h
  | [_], h => simp [step] at h
  | p :: v :: r, h =>
    cases ht : (target { st with kind := k } p v).2
    · rw [step_no st k p v r ht] at h; simp at h
    · rw [step_yes st k p v r ht]
      exact nums_ordering (nums_target (nums_kind hs k) p v ht) r
theorem nums_sum {st : Stm} (hs : Nums st) (ws : List (List UInt8)) (h : (sum st ws).2 = true) : Nums (sum st ws).1 := by
  match ws, h with
  | [], h => simp [sum] at h
  | [a], h =>
    cases ha : (operand a).2
    · simp [sum, ha] at h
    · rw [sum_one st a ha]
      have := operand_ok a ha
      exact ⟨hs.d0, hs.d1, this.1, this.2, hs.b0, hs.b1, hs.l0⟩
  | [_, _], h => simp [sum] at h
  | [a, s, b], h =>
    cases ha : (operand a).2
    · simp [sum, ha] at h
    · cases hg : (sign s).2
      · simp [sum, ha, hg] at h
      · rw [sum_all st a s b ha hg] at h ⊢
        have h1 := operand_ok a ha
        have h2 := operand_ok b h
        exact ⟨hs.d0, hs.d1, h1.1, h1.2, h2.1, h2.2, hs.l0⟩
  | _ :: _ :: _ :: _ :: _, h => simp [sum] at h

theorem nums_assignment (ws : List (List UInt8)) (h : (assignment ws).2 = true) : Nums (assignment ws).1 := by
  match ws, h with
  | [], h => simp [assignment] at h
  | [_], h => simp [assignment] at h
  | [_, _], h => simp [assignment] at h
  | d :: e :: c :: r, h =>
    unfold assignment at h ⊢
    simp only at h ⊢
    by_cases he : (e == [61]) = true
    · by_cases hr : (register d).2 = true
      · rw [if_pos he, if_pos hr] at h ⊢
        have hd := register_ok d hr
        have hz : Nums { Stm.zero with dest := (register d).1 } := ⟨hd.1, hd.2, nums_zero.a0, nums_zero.a1, nums_zero.b0, nums_zero.b1, rfl⟩
        split at h
        · rename_i h1; rw [if_pos h1]; exact nums_load hz r
        · rename_i h1
          rw [if_neg h1]
          split at h
          · rename_i h2; rw [if_pos h2]; exact nums_step hz 2 r h
          · rename_i h2
            rw [if_neg h2]
            split at h
            · rename_i h3; rw [if_pos h3]; exact nums_step hz 3 r h
            · rename_i h3; rw [if_neg h3]; exact nums_sum hz (c :: r) h
      · rw [if_pos he, if_neg hr] at h; simp at h
    · rw [if_neg he] at h; simp at h

theorem nums_statement (ws : List (List UInt8)) (h : (statement ws).2 = true) : Nums (statement ws).1 := by
  match ws, h with
  | [], h => simp [statement] at h
  | c :: r, h =>
    unfold statement at h ⊢
    simp only at h ⊢
    split at h
    · rename_i h1
      rw [if_pos h1]
      match r, h with
      | [], h => simp [store] at h
      | [_], h => simp [store] at h
      | p :: v :: q, h =>
        unfold store at h ⊢
        simp only at h ⊢
        cases ht : (target { Stm.zero with kind := 1 } p v).2
        · simp [ht] at h
        · simp only [if_true]
          exact nums_ordering (nums_target (nums_kind nums_zero 1) p v ht) q
    · rename_i h1
      rw [if_neg h1]
      split at h
      · rename_i h2
        rw [if_pos h2]
        exact nums_ordering (nums_kind nums_zero 4) r
      · rename_i h2
        rw [if_neg h2]
        split at h
        · rename_i h3; rw [if_pos h3]; exact nums_kind nums_zero 5
        · rename_i h3
          rw [if_neg h3]
          split at h
          · rename_i h4
            rw [if_pos h4]
            match r, h with
            | [], h => simp [condition] at h
            | [a], h =>
              have := operand_ok a h
              exact ⟨nums_zero.d0, nums_zero.d1, this.1, this.2, nums_zero.b0, nums_zero.b1, rfl⟩
            | _ :: _ :: _, h => simp [condition] at h
          · rename_i h4
            rw [if_neg h4]
            split at h
            · rename_i h5; rw [if_pos h5]; exact nums_kind nums_zero 11
            · rename_i h5; rw [if_neg h5]; exact nums_assignment (c :: r) h
end P
end Go.Proofs.YtpkjmdcabdplfaaGreatDoor

namespace Go.Proofs.YtpkjmdcabdplfaaGreatDoor
namespace P

structure Tidy (r : Rd) : Prop where
  few : r.threads.length ≤ 4
  c0 : 0 ≤ r.count
  c8 : r.count ≤ 8
  none : r.threads = [] → r.count = 0
  i0 : 0 ≤ r.ifs
  i1 : r.ifs ≤ 8 * ((r.threads.length - 1 : Nat) : Int) + r.count
  opn : ∀ o ∈ r.opn, 0 ≤ o ∧ o < 100
  thr : ∀ t ∈ r.threads, 0 ≤ t.block ∧ t.block < 100 ∧ ∀ s ∈ t.stmts, Small s

theorem tidy_zero : Tidy Rd.zero := ⟨by simp [Rd.zero], by simp [Rd.zero], by simp [Rd.zero], by simp [Rd.zero], by simp [Rd.zero], by simp [Rd.zero], by simp [Rd.zero], by simp [Rd.zero]⟩

theorem small_of {st : Stm} (h : Nums st) (ln lb : Int) (h0 : 0 ≤ lb) (h1 : lb < 100) : Small { st with line := ln, label := lb } :=
  ⟨h.d0, by have := h.d1; show st.dest < 100; omega, h.a0, by have := h.a1; show st.a.n < 100; omega, h.b0, by have := h.b1; show st.b.n < 100; omega, h0, h1⟩

theorem putLast_thr (ts : List Thr) (s : Stm) (hs : Small s) (h : ∀ t ∈ ts, 0 ≤ t.block ∧ t.block < 100 ∧ ∀ s ∈ t.stmts, Small s) : ∀ t ∈ putLast ts s, 0 ≤ t.block ∧ t.block < 100 ∧ ∀ s ∈ t.stmts, Small s := by
  match ts, h with
  | [], h => intro t ht; simp [putLast] at ht
  | [a], h =>
    intro t ht
    simp [putLast] at ht
    subst ht
    have := h a (by simp)
    refine ⟨this.1, this.2.1, fun x hx => ?_⟩
    simp at hx
    rcases hx with hx | rfl
    · exact this.2.2 x hx
    · exact hs
  | a :: b :: r, h =>
    intro t ht
    simp only [putLast, List.mem_cons] at ht
    rcases ht with rfl | ht
    · exact h t (by simp)
    · exact putLast_thr (b :: r) s hs (fun t ht => h t (by simp at ht ⊢; right; exact ht)) t ht

theorem tidy_put {r : Rd} (s : Stm) (h : Tidy r) (hs : Small s) : Tidy (put r s) := by
  have hl : (put r s).threads.length = r.threads.length := putLast_length _ _
  refine ⟨by rw [hl]; exact h.few, h.c0, h.c8, fun e => h.none (by have := congrArg List.length e; rw [hl] at this; exact List.eq_nil_of_length_eq_zero (by simpa using this)), h.i0, by rw [hl]; exact h.i1, h.opn, putLast_thr _ _ hs h.thr⟩

theorem tidy_takes {r : Rd} (ws : List (List UInt8)) (h : Tidy r) : Tidy (takes { r with line := r.line + 1 } ws).1 := by
  have h0 : Tidy { r with line := r.line + 1 } := ⟨h.few, h.c0, h.c8, h.none, h.i0, h.i1, h.opn, h.thr⟩
  unfold takes
  split
  · unfold begins
    by_cases hf : 4 ≤ r.threads.length ∨ 0 < r.opn.length
    · rw [if_pos (by exact hf)]; exact h0
    · rw [if_neg (by exact hf)]
      split
      · rename_i a c _
        by_cases hd : (digit c 2).2 = true
        · rw [if_pos hd]
          have hb := digit_ok c 2 hd
          refine ⟨by simp; omega, by simp, by simp, by simp, h.i0, ?_, h.opn, ?_⟩
          · have := h.i1
            have hn := h.none
            have h8 := h.c8
            cases ht : r.threads with
            | nil => rw [ht] at this; rw [hn ht] at this; simp at this ⊢; omega
            | cons t q => rw [ht] at this; simp at this ⊢; omega
          · intro t ht
            simp at ht
            rcases ht with ht | rfl
            · exact h.thr t ht
            · exact ⟨hb.1, by show (digit c 2).1 < 100; omega, by simp⟩
        · rw [if_neg hd]; exact h0
      · exact h0
  · split
    · exact h0
    · rename_i _ hne
      simp only []
      split
      · rename_i hs
        have hn := nums_statement ws hs
        split
        · unfold ends
          split
          · exact h0
          · rename_i l hl
            have hm : l ∈ r.opn := List.mem_of_getLast? hl
            have hlb := h.opn l hm
            refine tidy_put _ ⟨h.few, h.c0, h.c8, h.none, h.i0, h.i1, fun o ho => h.opn o (List.dropLast_subset _ ho), h.thr⟩ ?_
            exact small_of hn _ _ hlb.1 hlb.2
        · split
          · exact h0
          · rename_i h8
            have h8' : r.count < 8 := by simpa using h8
            have hne' : r.threads ≠ [] := by simpa using hne
            have h1 : Tidy { r with line := r.line + 1, count := r.count + 1 } := ⟨h.few, by have := h.c0; show 0 ≤ r.count + 1; omega, by show r.count + 1 ≤ 8; omega, fun e => absurd e hne', h.i0, by have := h.i1; show r.ifs ≤ 8 * ((r.threads.length - 1 : Nat) : Int) + (r.count + 1); omega, h.opn, h.thr⟩
            split
            · split
              · exact h1
              · rename_i ho
                unfold branch
                rw [if_neg ho]
                have hi := h.i1
                have hf := h.few
                have hi0 := h.i0
                have hb : r.ifs + 1 < 100 := by omega
                refine tidy_put _ ⟨h1.few, h1.c0, h1.c8, h1.none, by show 0 ≤ r.ifs + 1; omega, by show r.ifs + 1 ≤ 8 * ((r.threads.length - 1 : Nat) : Int) + (r.count + 1); omega, ?_, h1.thr⟩ (small_of hn _ _ (by show 0 ≤ r.ifs + 1; omega) hb)
                intro o ho'
                simp at ho'
                rcases ho' with ho' | rfl
                · exact h.opn o ho'
                · exact ⟨by omega, hb⟩
            · refine tidy_put _ h1 ?_
              have := small_of hn (r.line + 1) 0 (by omega) (by omega)
              have e : ({ (statement ws).1 with line := r.line + 1 } : Stm) = { (statement ws).1 with line := r.line + 1, label := 0 } := by
                have := hn.l0
                rw [← this]
              rw [e]; exact this
      · exact h0

theorem tidy_run (xs : List (List UInt8)) : ∀ r : Rd, Tidy r → Tidy (runLines r xs).1 := by
  induction xs with
  | nil => intro r h; exact h
  | cons x q ih =>
    intro r h
    simp only [runLines]
    split
    · exact ih _ (tidy_takes _ h)
    · exact tidy_takes _ h

theorem lines_small (l : List UInt8) : ∀ t ∈ (lines l).1, 0 ≤ t.block ∧ t.block < 100 ∧ ∀ s ∈ t.stmts, Small s := by
  have h := tidy_run (splitAt 10 l).dropLast Rd.zero tidy_zero
  unfold lines
  simp only []
  split
  · split
    · intro t ht; simp at ht
    · exact h.thr
  · intro t ht; simp at ht
end P
end Go.Proofs.YtpkjmdcabdplfaaGreatDoor
