import Derived.Test.YtpkjmdcabdplfaaGreatDoorA29
set_option linter.unusedVariables false
set_option linter.unusedSimpArgs false
namespace Go.Proofs.YtpkjmdcabdplfaaGreatDoor
open Go Go.RowKit
set_option maxRecDepth 100000

theorem below_same {B : Nat} {a w w' : World} (h : Below B a w) (e1 : w'.os = w.os) (e2 : w'.tape = w.tape) (e3 : w'.output = w.output) (e4 : w'.heap = w.heap) : Below B a w' := ⟨by rw [e1]; exact h.os, by rw [e2]; exact h.tape, by rw [e3]; exact h.output, by rw [e4]; exact h.size, by rw [e4]; exact h.block⟩
theorem below_drewN {B : Nat} {a w : World} (h : Below B a w) (n : Nat) : Below B a (w.drewN n) := ⟨h.os, h.tape, h.output, h.size, h.block⟩

/-- the outermost loop that a code comes to first -/
def loopIn : Code → Option Code
  | .loop c => some c
  | .scope c => loopIn c
  | .block _ c => loopIn c
  | .seq a b => (loopIn a).orElse fun _ => loopIn b
  | .cond _ a b => (loopIn a).orElse fun _ => loopIn b
  | _ => none

def bodyOf (fn : Func) : Code := (fn.body.bind loopIn).getD .skip

/-- between two rounds -/
def LR (w : World) (g : Nat) (tx : ByteArray) (lb : Int) (pv : Value) (l : List R.Tree) (n : Nat) (i : Value) (wr : World) : Prop :=
  ∃ (k : Nat) (u : ByteArray), k ≤ n ∧ i = .int .i64 k ∧ WrAt wr g u (R.textL lb (l.take k)).2 pv ∧ u.toList = tx.toList ++ (R.textL lb (l.take k)).1 ∧ (u.size : Int) ≤ tx.size + 20000 * R.sizeL (l.take k) ∧ w.grownBy wr (some g)

set_option maxRecDepth 1000000 in
def LI (c0 c1 c2 c3 : Value) (w : World) (g : Nat) (tx : ByteArray) (lb : Int) (pv : Value) (l : List R.Tree) (n : Nat) (a : Act) (w' : World) : Prop :=
  ∃ i u5 u6 u7 u8 u9 u10 u11 u12 u13 u14 u15 u16 u17 u18 u19 u20 u21 u22 u23 u24 u25 u26 u27 u28 u29 u30 u31 u32 u33 u34 u35 u36 u37 u38 u39 u40 u41 u42 u43 u44 u45 u46 u47 u48 u49 u50 u51 u52 u53 u54 u55 u56 u57 u58 u59 u60 u61 u62 u63 u64 u65 u66 u67 u68 u69 u70 u71 u72 u73 u74 u75 u76 u77 u78 u79 u80 u81 u82 u83 u84 u85 u86 u87 u88 u89 u90 u91 u92 u93 u94 u95 u96 u97 u98 u99 u100 u101 u102 u103 u104 u105 u106 u107 u108 u109 u110 u111 u112 u113 u114 u115 u116 u117 u118 u119 u120 u121 u122 u123 u124 u125 u126 u127 u128 u129 u130 u131 u132 u133 u134 u135 u136 u137 u138 u139 u140 u141 u142 u143 u144 u145 u146 u147 u148 u149 u150 u151 u152 u153 u154 u155 u156 u157 u158 u159 u160 u161 u162 u163 u164 u165 u166 u167 u168 u169 u170 u171 u172 u173 u174 u175 u176 u177 u178 u179 u180 u181 u182 u183 u184 u185 u186 u187 u188 u189 u190 u191 u192 u193 u194 u195 u196 u197 u198 u199 u200 u201 u202 u203 u204 u205 u206 u207 u208 u209 u210 u211 u212 u213 u214 u215 u216 u217 u218 u219 u220 u221 u222 u223 u224 u225 u226 u227 u228 u229 u230 u231 u232 u233 u234 u235 u236 u237 u238 u239 u240 u241 u242 u243 u244 u245 u246 u247 u248 u249 u250 u251 u252 u253 u254 u255 u256 : Value, LR w g tx lb pv l n i w' ∧ a = ⟨#[c0, c1, c2, c3, i, u5, u6, u7, u8, u9, u10, u11, u12, u13, u14, u15, u16, u17, u18, u19, u20, u21, u22, u23, u24, u25, u26, u27, u28, u29, u30, u31, u32, u33, u34, u35, u36, u37, u38, u39, u40, u41, u42, u43, u44, u45, u46, u47, u48, u49, u50, u51, u52, u53, u54, u55, u56, u57, u58, u59, u60, u61, u62, u63, u64, u65, u66, u67, u68, u69, u70, u71, u72, u73, u74, u75, u76, u77, u78, u79, u80, u81, u82, u83, u84, u85, u86, u87, u88, u89, u90, u91, u92, u93, u94, u95, u96, u97, u98, u99, u100, u101, u102, u103, u104, u105, u106, u107, u108, u109, u110, u111, u112, u113, u114, u115, u116, u117, u118, u119, u120, u121, u122, u123, u124, u125, u126, u127, u128, u129, u130, u131, u132, u133, u134, u135, u136, u137, u138, u139, u140, u141, u142, u143, u144, u145, u146, u147, u148, u149, u150, u151, u152, u153, u154, u155, u156, u157, u158, u159, u160, u161, u162, u163, u164, u165, u166, u167, u168, u169, u170, u171, u172, u173, u174, u175, u176, u177, u178, u179, u180, u181, u182, u183, u184, u185, u186, u187, u188, u189, u190, u191, u192, u193, u194, u195, u196, u197, u198, u199, u200, u201, u202, u203, u204, u205, u206, u207, u208, u209, u210, u211, u212, u213, u214, u215, u216, u217, u218, u219, u220, u221, u222, u223, u224, u225, u226, u227, u228, u229, u230, u231, u232, u233, u234, u235, u236, u237, u238, u239, u240, u241, u242, u243, u244, u245, u246, u247, u248, u249, u250, u251, u252, u253, u254, u255, u256], []⟩

def LM (n : Nat) (a : Act) (_ : World) : Nat := n - (intOf (a.tmps.getD 4 undef)).toNat

/-- what a case of a round holds -/
structure LC (w wr : World) (g : Nat) (tx : ByteArray) (lb : Int) (pv : Value) (l : List R.Tree) (n k : Nat) (u : ByteArray) (lk : Int) (b : Nat) (uv : Value) (t : R.Tree) : Prop where
  hlt : k < n
  hn : n < 10000
  ts : R.textL lb (l.take (k + 1)) = ((R.textL lb (l.take k)).1 ++ (R.textT lk t).1, (R.textT lk t).2)
  zs : R.sizeL (l.take (k + 1)) = R.sizeL (l.take k) + (1 + R.sizeL t.body)
  hx : ∀ w2 : World, wr.grownBy w2 (some g) → w2.cell? ⟨b, k * 9, none⟩ = some (.string t.x.op) ∧ w2.cell? ⟨b, k * 9 + 1, none⟩ = some (.int .i64 t.x.reg) ∧ w2.cell? ⟨b, k * 9 + 2, none⟩ = some (.int .i64 t.x.var) ∧ w2.cell? ⟨b, k * 9 + 3, none⟩ = some (.int .i64 t.x.a) ∧ w2.cell? ⟨b, k * 9 + 4, none⟩ = some (.int .i64 t.x.b) ∧
      w2.cell? ⟨b, k * 9 + 5, none⟩ = some (.string t.x.sign) ∧ w2.cell? ⟨b, k * 9 + 6, none⟩ = some (.string t.x.ord) ∧ w2.cell? ⟨b, k * 9 + 7, none⟩ = some (.string t.x.scope) ∧ w2.cell? ⟨b, k * 9 + 8, none⟩ = some uv
  hw : WrAt wr g u lk pv
  hu : u.toList = tx.toList ++ (R.textL lb (l.take k)).1
  hz : (u.size : Int) ≤ tx.size + 20000 * R.sizeL (l.take k)
  hgr : w.grownBy wr (some g)
  lk0 : 0 ≤ lk
  lk1 : lk + (1 + R.sizeL t.body) < 90
  us : (u.size : Int) + 20000 * (1 + R.sizeL t.body) < 1000000000
  fit : R.Fit t.x
  hbg : b ≠ g
  hblt : b < wr.heap.size

/-- the round's end -/
theorem LC.next {w wr : World} {g : Nat} {tx : ByteArray} {lb : Int} {pv : Value} {l : List R.Tree} {n k : Nat} {u : ByteArray} {lk : Int} {b : Nat} {uv : Value} {t : R.Tree} (h : LC w wr g tx lb pv l n k u lk b uv t) {w2 : World} {u2 : ByteArray} (hw : WrAt w2 g u2 (R.textT lk t).2 pv) (ht : u2.toList = u.toList ++ (R.textT lk t).1) (hz : (u2.size : Int) ≤ u.size + 20000 * (1 + R.sizeL t.body)) (hg : wr.grownBy w2 (some g)) :
    LR w g tx lb pv l n (.int .i64 ((k : Int) + 1)) w2 := by
  refine ⟨k + 1, u2, h.hlt, by go_num, by rw [h.ts]; exact hw, by rw [h.ts, ht, h.hu, List.append_assoc], ?_, grown_trans h.hgr hg⟩
  have := h.hz
  rw [h.zs]; omega

theorem LC.facts {w wr : World} {g : Nat} {tx : ByteArray} {lb : Int} {pv : Value} {l : List R.Tree} {n k : Nat} {u : ByteArray} {lk : Int} {b : Nat} {uv : Value} {t : R.Tree} (h : LC w wr g tx lb pv l n k u lk b uv t) {w2 : World} (hb : Below wr.heap.size wr w2) :
    w2.cell? ⟨b, k * 9, none⟩ = some (.string t.x.op) ∧ w2.cell? ⟨b, k * 9 + 1, none⟩ = some (.int .i64 t.x.reg) ∧ w2.cell? ⟨b, k * 9 + 2, none⟩ = some (.int .i64 t.x.var) ∧ w2.cell? ⟨b, k * 9 + 3, none⟩ = some (.int .i64 t.x.a) ∧ w2.cell? ⟨b, k * 9 + 4, none⟩ = some (.int .i64 t.x.b) ∧
      w2.cell? ⟨b, k * 9 + 5, none⟩ = some (.string t.x.sign) ∧ w2.cell? ⟨b, k * 9 + 6, none⟩ = some (.string t.x.ord) ∧ w2.cell? ⟨b, k * 9 + 7, none⟩ = some (.string t.x.scope) ∧ w2.cell? ⟨b, k * 9 + 8, none⟩ = some uv ∧ WrAt w2 g u lk pv ∧ g < w2.heap.size ∧ w2.frozen? ⟨g, 0, none⟩ = false ∧ w2.cell? ⟨g, 0, none⟩ = some (.string u) ∧ w2.cell? ⟨g, 1, none⟩ = some (.int .i64 lk) ∧ w2.cell? ⟨g, 2, none⟩ = some pv ∧ w2.cell? ⟨g, 3, none⟩ = some (.bool false) := by
  obtain ⟨d0, d1, d2, d3, d4, d5, d6, d7, d8⟩ := h.hx w2 (grown_of_below hb _)
  have hw := h.hw.below hb
  obtain ⟨e1, e2, e3, e4, e5, e6⟩ := hw.facts
  exact ⟨d0, d1, d2, d3, d4, d5, d6, d7, d8, hw, e1, e2 0, e3, e4, e5, e6⟩

theorem cel_xyz (v : Int) (h0 : 0 ≤ v) (h1 : v < 3) : Txt 3 ((⟨#[91]⟩ : ByteArray) ++ (⟨#[120, 121, 122]⟩ : ByteArray).extract v.toNat (v + 1).toNat ++ (⟨#[93]⟩ : ByteArray)) (R.celT v) := by
  have h3 : v = 0 ∨ v = 1 ∨ v = 2 := by omega
  have e : ((⟨#[91]⟩ : ByteArray) ++ (⟨#[120, 121, 122]⟩ : ByteArray).extract v.toNat (v + 1).toNat ++ (⟨#[93]⟩ : ByteArray)).toList = R.celT v := by
    rcases h3 with rfl | rfl | rfl <;> simp [app_toList, lit_toList, extract_toList, R.celT, P.varT]
  refine ⟨e, ?_⟩
  rw [← size_toList, e]
  rcases h3 with rfl | rfl | rfl <;> decide
end Go.Proofs.YtpkjmdcabdplfaaGreatDoor

namespace Go.Proofs.YtpkjmdcabdplfaaGreatDoor
open Go Go.RowKit

def flatC : Code → List Code
  | .seq a b => flatC a ++ flatC b
  | c => [c]

def wpL (P : Program) : List Code → (Exit → Act → World → Prop) → Act → World → Prop
  | [], Q, a, w => Q .normal a w
  | c :: r, Q, a, w => Code.wp P c (Exit.then (fun a' w' => wpL P r Q a' w') Q) a w

theorem wpL_append {P : Program} {Q : Exit → Act → World → Prop} (x y : List Code) : ∀ (a : Act) (w : World), wpL P (x ++ y) Q a w → wpL P x (Exit.then (fun a' w' => wpL P y Q a' w') Q) a w := by
  induction x with
  | nil => intro a w h; exact h
  | cons c r ih =>
    intro a w h
    refine wp_mono h (fun e a' w' he => ?_)
    cases e <;> first | exact ih _ _ he | exact he

theorem wp_flat {P : Program} (c : Code) : ∀ (Q : Exit → Act → World → Prop) (a : Act) (w : World), wpL P (flatC c) Q a w → Code.wp P c Q a w := by
  have one : ∀ (c : Code) (Q : Exit → Act → World → Prop) (a : Act) (w : World), wpL P [c] Q a w → Code.wp P c Q a w := fun c Q a w h =>
    wp_mono h (fun e a' w' he => by cases e <;> exact he)
  induction c with
  | seq x y hx hy =>
    intro Q a w h
    refine wp_seq (hx _ _ _ ?_)
    have h1 := wpL_append (flatC x) (flatC y) a w h
    have mono : ∀ (l : List Code) (Q1 Q2 : Exit → Act → World → Prop) (a : Act) (w : World), (∀ e a w, Q1 e a w → Q2 e a w) → wpL P l Q1 a w → wpL P l Q2 a w := by
      intro l
      induction l with
      | nil => intro Q1 Q2 a w hq h; exact hq _ _ _ h
      | cons c r ih =>
        intro Q1 Q2 a w hq h
        refine wp_mono h (fun e a' w' he => ?_)
        cases e <;> first | exact ih _ _ _ _ hq he | exact hq _ _ _ he
    refine mono _ _ _ _ _ (fun e a' w' he => ?_) h1
    cases e <;> first | exact hy _ _ _ he | exact he
  | _ => exact fun Q a w h => one _ Q a w h

theorem wpL_step {P : Program} {c : Code} {r : List Code} {Q : Exit → Act → World → Prop} {a : Act} {w : World} (h : ∀ K : Act → World → Prop, (∀ a w, wpL P r Q a w → K a w) → Code.wp P c (Exit.then K Q) a w) : wpL P (c :: r) Q a w :=
  h _ (fun _ _ h => h)

def stmOf (c : Code) (i : Nat) : Code := ((flatC c)[i]?).getD .skip
def inOf (c : Code) : Code := match c with
  | .block _ d => d
  | d => d

theorem linesBody_flat : flatC (bodyOf Tryz.f22) = [(stmOf (bodyOf Tryz.f22) 0), (stmOf (bodyOf Tryz.f22) 1), (stmOf (bodyOf Tryz.f22) 2), (stmOf (bodyOf Tryz.f22) 3)] := by kernel_rfl
theorem linesStm_two : (stmOf (bodyOf Tryz.f22) 2) = Code.block 1 (inOf (stmOf (bodyOf Tryz.f22) 2)) := by kernel_rfl
theorem linesIn_flat : flatC (inOf (stmOf (bodyOf Tryz.f22) 2)) = [(stmOf (inOf (stmOf (bodyOf Tryz.f22) 2)) 0), (stmOf (inOf (stmOf (bodyOf Tryz.f22) 2)) 1), (stmOf (inOf (stmOf (bodyOf Tryz.f22) 2)) 2), (stmOf (inOf (stmOf (bodyOf Tryz.f22) 2)) 3), (stmOf (inOf (stmOf (bodyOf Tryz.f22) 2)) 4), (stmOf (inOf (stmOf (bodyOf Tryz.f22) 2)) 5), (stmOf (inOf (stmOf (bodyOf Tryz.f22) 2)) 6), (stmOf (inOf (stmOf (bodyOf Tryz.f22) 2)) 7), (stmOf (inOf (stmOf (bodyOf Tryz.f22) 2)) 8), (stmOf (inOf (stmOf (bodyOf Tryz.f22) 2)) 9), (stmOf (inOf (stmOf (bodyOf Tryz.f22) 2)) 10), (stmOf (inOf (stmOf (bodyOf Tryz.f22) 2)) 11), (stmOf (inOf (stmOf (bodyOf Tryz.f22) 2)) 12), (stmOf (inOf (stmOf (bodyOf Tryz.f22) 2)) 13), (stmOf (inOf (stmOf (bodyOf Tryz.f22) 2)) 14), (stmOf (inOf (stmOf (bodyOf Tryz.f22) 2)) 15), (stmOf (inOf (stmOf (bodyOf Tryz.f22) 2)) 16)] := by kernel_rfl
end Go.Proofs.YtpkjmdcabdplfaaGreatDoor
