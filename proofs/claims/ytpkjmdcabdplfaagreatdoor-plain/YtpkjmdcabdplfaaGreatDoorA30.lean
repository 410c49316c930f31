import Derived.Laws.AppendOwnNone
import Derived.Test.YtpkjmdcabdplfaaGreatDoorA29
set_option linter.unusedVariables false
set_option linter.unusedSimpArgs false
namespace Go.Proofs.YtpkjmdcabdplfaaGreatDoor
open Go Go.RowKit
set_option maxRecDepth 100000

theorem Tryz.infoLn : (Tryz.prog.info? 49).map (fun i => (i.zero, i.size, i.bytes)) = some (some (.agg (lnCells R.z0 (.slice none 0 0))), 9, 120) := by kernel_rfl

theorem LinesAt.one {w : World} {B : Nat} {v : Value} {l : List R.Tree} {F : List Nat} (h : LinesAt w B v l F) : v.oneCell' = true := by
  cases h using LinesAt.cs with
  | row ho _ _ _ _ =>
    rcases ho.2 with ⟨e, _⟩ | ⟨k, c, cur, e, _⟩ <;> rw [e] <;> rfl

theorem lnCells_one (x : R.Lh) (u : Value) (h : u.oneCell' = true) : ∀ c ∈ (lnCells x u).toList, c.oneCell' = true := by
  intro c hc
  simp [lnCells] at hc
  rcases hc with rfl | rfl | rfl | rfl | rfl | rfl | rfl | rfl | rfl <;> first | rfl | exact h

theorem rowLn_one (l : List R.Tree) : ∀ vs : List Value, (∀ u ∈ vs, u.oneCell' = true) → ∀ c ∈ rowLn l vs, c.oneCell' = true := by
  induction l with
  | nil => intro vs _ c hc; simp [rowLn] at hc
  | cons t l ih =>
    intro vs hv c hc
    cases vs with
    | nil => simp [rowLn] at hc
    | cons v vs =>
      simp only [rowLn, List.mem_append] at hc
      rcases hc with hc | hc
      · exact lnCells_one _ _ (hv v (by simp)) c hc
      · exact ih vs (fun u hu => hv u (by simp [hu])) c hc

theorem rangeAt_keep2 {w w' : World} {b o : Nat} {cs : List Value} (h : w.rangeAt b o cs) (e : w'.heap[b]? = w.heap[b]?) : w'.rangeAt b o cs := fun j v hv => by
  rw [World.cell?_of_block (w := w) (a := ⟨b, o + j, none⟩) e]; exact h j v hv

theorem range_ln {w : World} {B b n cap : Nat} {l : List R.Tree} {vs : List Value} (ho : w.ownsRow B 49 9 (.slice (some ⟨b, 0, none⟩) n cap) n (rowLn l vs)) (hn : n = l.length) (hv : vs.length = l.length) (k : Nat) (hk : k < l.length) (u : Value) (hu : vs[k]? = some u) : w.rangeAt b (k * 9) (lnCells l[k].x u).toList := by
  intro j v hj
  have hlt : j < 9 := (List.getElem?_eq_some_iff.1 hj).1
  rw [LinesAt.line ho hn hv k hk u hu j hlt]
  simpa using hj

theorem wpList_load_lnAt {ops : Array Oper} {rest : List Oper} {op : Oper} {a : Act} {w : World} {Q : Exit → Act → World → Prop} (x : Operand) (hgd : op.guard = none) (ho : op.op = .load 49 x)
    (b o : Nat) (y : R.Lh) (bv : Value) (hx : a.eval x = .pointer (some ⟨b, o, none⟩)) (hr : w.rangeAt b o (lnCells y bv).toList)
    (h : wpList Tryz.prog ops Q rest (a.put op.dst (.agg #[.string y.op, .int .i64 y.reg, .int .i64 y.var, .int .i64 y.a, .int .i64 y.b, .string y.sign, .string y.ord, .string y.scope, bv])) w) : wpList Tryz.prog ops Q (op :: rest) a w :=
  wpList_load_mid hgd _ x ho b o hx (lnCells y bv).toList _ hr Tryz.underlying49 rfl (by kernel_rfl) h

set_option maxHeartbeats 6400000 in
theorem all_any {w0 : World} {B : Nat} {v : Value} {l : List R.Tree} {F : List Nat} (h : LinesAt w0 B v l F) : R.sizeL l < 10000 → ∀ w : World, (∀ k ∈ F, w.heap[k]? = w0.heap[k]?) →
    Calls Tryz.prog 40 #[v] w fun e w' => ∃ (v' : Value) (ys : List R.Tree) (us : List Value), e = .returned v' ∧ us.length = ys.length ∧ (ys.length : Int) ≤ R.sizeL l ∧ (∀ u ∈ us, u.oneCell' = true) ∧ (l = [] → v' = .slice none 0 0) ∧ (l ≠ [] → 0 < ys.length) ∧ w'.ownsRow w.heap.size 49 9 v' ys.length (rowLn ys us) ∧ Below w.heap.size w w' := by
  induction h using LinesAt.ind with
  | @row v l vs Fs ho hv hF hc hnd ih =>
  intro hsz w hk
  obtain ⟨i0, hi, hz0, hz1, hz2⟩ := info_parts Tryz.infoLn
  have hbd0 := (LinesAt.row ho hv hF hc hnd).bound
  have hlt : ∀ k ∈ v.ownBlock.toList ++ Fs.flatten, k < w.heap.size := fun k hkF => by
    have h1 := (hbd0 k hkF).2
    have h2 := hk k hkF
    rw [Array.getElem?_eq_getElem h1] at h2
    exact (Array.getElem?_eq_some_iff.1 h2).1
  have how : w.ownsRow B 49 9 v l.length (rowLn l vs) := ownsRow_keep ho (fun k e => hk k (by simp [e]))
  have hsv : ∃ a c, v = .slice a l.length c ∧ (0 < l.length → ∃ b, a = some ⟨b, 0, none⟩ ∧ b < w.heap.size) := by
    rcases how.2 with ⟨e, h0⟩ | ⟨k, c, cur, e, _⟩
    · exact ⟨none, 0, by rw [e, h0], fun h => by omega⟩
    · exact ⟨_, c, e, fun _ => ⟨k, rfl, (how.lt k (by rw [e]; rfl)).2⟩⟩
  obtain ⟨sa, sc, rfl, hsa⟩ := hsv
  have hlen := R.size_len l
  have HO := hide how
  have HIH := hide ih
  have HK := hide hk
  have HLT := hide hlt
  have HV := hide hv
  have HF := hide hF
  have HS := hide hsz
  have HCC := hide hc
  have hn : l.length < 10000 := by omega
  generalize hN : l.length = n at *
  have HL := hide hN
  clear hN how ih hk hlt hv hF hsz ho hc hnd hbd0 hlen
  go_enter Tryz.func40, Tryz.ntmps40
  go_wp2
  go_loopw [3, 4] (fun o i wr => ∃ (k : Nat) (ys : List R.Tree) (us : List Value), k ≤ n ∧ i = .int .i64 k ∧ us.length = ys.length ∧ Hid ((ys.length : Int) ≤ R.sizeL (l.take k)) ∧ Hid (∀ u ∈ us, u.oneCell' = true) ∧ Hid (k = 0 → o = .slice none 0 0) ∧ Hid (0 < k → 0 < ys.length) ∧ wr.ownsRow w.heap.size 49 9 o ys.length (rowLn ys us) ∧ Below w.heap.size w wr) (fun _ i _ => n - (intOf i).toNat)
  case atStart => exact ⟨0, [], [], Nat.zero_le _, rfl, rfl, by unfold Hid; simp [R.sizeL, R.numL_nil, R.numL_cons], by unfold Hid; simp, fun _ => rfl, fun h => by omega, World.ownsRow_nil _ _ _ _, Below.refl _ _⟩
  case round =>
    obtain ⟨k, ys, us, hk, rfl, hus, HZ, HU1, HN1, HN2, hown, hbel⟩ := hrel
    by_cases hlt : k < n
    · obtain ⟨b, rfl, hblt⟩ := hsa (by omega)
      have hkl : k < l.length := by rw [HL.out]; exact hlt
      have hin : (k : Int) < (n : Int) := by omega
      have hkv : k < vs.length := by rw [HV.out]; exact hlt
      have hkf : k < Fs.length := by rw [HF.out]; exact hlt
      have hsg := R.sizeL_get l k hkl
      have hsk := R.sizeL_nn (l.take k)
      have hsb := R.sizeL_nn l[k].body
      have hS := HS.out
      have hZ := HZ.out
      have ZS : Hid (R.sizeL (l.take (k + 1)) = R.sizeL (l.take k) + (1 + R.sizeL l[k].body)) := by
        unfold Hid R.sizeL
        have := R.numL_snoc (fun _ => true) l k hkl
        simpa using this
      have hone := (HCC.out k l[k] vs[k] Fs[k] (by simp [hkl]) (by simp [hkv]) (by simp [hkf])).one
      have CE := LinesAt.line HO.out HL.out.symm (by rw [HV.out, HL.out]) k hkl vs[k] (by simp [hkv])
      have hr := hide (rangeAt_keep2 (range_ln HO.out HL.out.symm (by rw [HV.out, HL.out]) k hkl vs[k] (by simp [hkv])) (hbel.block b hblt))
      have C8 : Hid (w.cell? ⟨b, k * 9 + 8, none⟩ = some vs[k]) := by
        unfold Hid
        have := CE 8 (by omega)
        simpa [lnCells] using this
      have HC : ∀ w2 : World, Below w.heap.size w w2 → Calls Tryz.prog 40 #[vs[k]] w2 fun e w' => ∃ (v' : Value) (zs : List R.Tree) (us' : List Value), e = .returned v' ∧ us'.length = zs.length ∧ (zs.length : Int) ≤ R.sizeL l[k].body ∧ (∀ u ∈ us', u.oneCell' = true) ∧ (l[k].body = [] → v' = .slice none 0 0) ∧ (l[k].body ≠ [] → 0 < zs.length) ∧ w'.ownsRow w2.heap.size 49 9 v' zs.length (rowLn zs us') ∧ Below w2.heap.size w2 w' := by
        intro w2 hb2
        refine HIH.out k l[k] vs[k] Fs[k] (by simp [hkl]) (by simp [hkv]) (by simp [hkf]) (by omega) w2 (fun j hj => ?_)
        have hj' : j ∈ (Value.slice (some ⟨b, 0, none⟩) n sc).ownBlock.toList ++ Fs.flatten := by
          simp only [List.mem_append, List.mem_flatten]
          exact Or.inr ⟨Fs[k], List.getElem_mem hkf, hj⟩
        rw [hb2.block j (HLT.out j hj'), HK.out j hj']
      clear CE
      generalize l[k] = t at *
      generalize vs[k] = u at *
      have hws : w.heap.size ≤ wr.heap.size := hbel.size
      have hyl : ys.length < 10000 := by omega
      have htb : R.sizeL t.body < 10000 := by omega
      have HOW := hide hown
      have HBL := hide hbel
      have HCC0 : Hid (t.body = [] → ∀ w2 : World, Below w.heap.size w w2 → Calls Tryz.prog 40 #[u] w2 fun e w' => e = .returned (.slice none 0 0) ∧ Below w2.heap.size w2 w') := fun h0 w2 hb2 => by
        refine (HC w2 hb2).mono ?_
        rintro e w' ⟨v', zs, us', rfl, _, _, _, h1, _, _, h2⟩
        rw [h1 h0]
        exact ⟨rfl, h2⟩
      have HCC1 : Hid (t.body ≠ [] → ∀ w2 : World, Below w.heap.size w w2 → Calls Tryz.prog 40 #[u] w2 fun e w' => ∃ (g2 cap2 : Nat) (zs : List R.Tree) (us' : List Value), e = .returned (.slice (some ⟨g2, 0, none⟩) zs.length cap2) ∧ us'.length = zs.length ∧ (zs.length : Int) ≤ R.sizeL t.body ∧ (∀ u ∈ us', u.oneCell' = true) ∧ 0 < zs.length ∧ w'.ownsRow w2.heap.size 49 9 (.slice (some ⟨g2, 0, none⟩) zs.length cap2) zs.length (rowLn zs us') ∧ Below w2.heap.size w2 w') := fun h0 w2 hb2 => by
        refine (HC w2 hb2).mono ?_
        rintro e w' ⟨v', zs, us', rfl, h1, h2, h3, _, h4, h5, h6⟩
        have h7 := h4 h0
        obtain ⟨g2, cap2, rfl, _, _⟩ := h5.form h7
        exact ⟨g2, cap2, zs, us', rfl, h1, h2, h3, h7, h5, h6⟩
      clear hown hbel hsg hS hZ HC HCC
      go_wp2_with (first
        | (refine wpList_load_lnAt (.tmp 17) rfl rfl b (k * 9) t.x u rfl hr.out ?_)
        | (at_builtin; refine wpList_append_lies _ rfl (.tmp 14) (.tmp 19) 44 rfl w.heap.size 49 i0 (.agg (lnCells R.z0 (.slice none 0 0))) 9 120 Tryz.underlying44 hi hz0 hz1 hz2 rfl (by decide) _ _ _ rfl (HOW.out.alloc _) ⟨wr.heap.size, 0, none⟩ 1 1 (lnCells t.x u).toList rfl rfl ?c1 ?c2 (by decide) ?c3 ?c4 ?c5 _ rfl ?_))
      case c1 => exact World.news_of_block (t := 49) (fr := (0, 0)) (heap_alloc_new wr _)
      case c2 => exact lnCells_one _ _ hone
      case c3 => unfold maxLen; omega
      case c4 => omega
      case c5 => simp; omega
      intro g1 cap1 w1 hown1 hgrow hat hlt1
      have hb1 : Below w.heap.size w w1 := (HBL.out.alloc hws _).grown hgrow (by simp; omega) (fun j hj => (HOW.out.lt j hj).1)
      have c8 := (hb1.cell (p := ⟨b, k * 9 + 8, none⟩) hblt).trans C8.out
      have hw1 := hb1.size
      have HOW1 := hide hown1
      clear hown1 hgrow hat
      have hrl : rowLn (ys ++ [t]) (us ++ [u]) = rowLn ys us ++ (lnCells t.x u).toList := by rw [rowLn_append _ _ _ _ hus]; simp [rowLn]
      have hou : ∀ x ∈ us ++ [u], x.oneCell' = true := fun x hx => by
        rcases List.mem_append.1 hx with h | h
        · exact HU1.out x h
        · simp at h; rw [h]; exact hone
      have HR := hide hrl
      have HOU := hide hou
      clear hrl hou
      by_cases hz : t.body = []
      · have HC0 := hide (HCC0.out hz)
        clear HCC0 HCC1
        go_wp2_with (first
          | (go_at_call 40; refine (HC0.out _ hb1).mono ?_; rintro e w2 ⟨rfl, hbm⟩; have hb2 : Below w.heap.size w w2 := hb1.trans (hbm.mono hw1); have HOW3 : Hid (w2.ownsRow w.heap.size 49 9 (.slice (some ⟨g1, 0, none⟩) (ys.length + 1) cap1) (ys.length + 1) (rowLn ys us ++ (lnCells t.x u).toList)) := ownsRow_keep HOW1.out (fun j hj => hbm.block j (HOW1.out.lt j hj).2))
          | (at_builtin; refine wpList_append_own_none rfl (.tmp 27) (.tmp 28) 44 rfl w.heap.size 49 i0 9 Tryz.underlying44 hi _ _ _ rfl HOW3.out rfl ?_))
        go_roundw
        case rel =>
          refine ⟨k + 1, ys ++ [t], us ++ [u], by omega, by go_num, by simp [hus], ?_, HOU, ?_, ?_, ?_, hb2⟩
          · unfold Hid; rw [ZS.out]; have := HZ.out; simp; omega
          · intro e; omega
          · intro e; simp
          · rw [HR.out]; simpa using HOW3.out
        case measure => simp [intOf]; omega
      · have HC1 := hide (HCC1.out hz)
        clear HCC0 HCC1
        go_wp2_with (first
          | (go_at_call 40; refine (HC1.out _ hb1).mono ?_; rintro e w2 ⟨g2, cap2, zs, us', rfl, hul, hzl, huo, hzp, hown2, hbm⟩; have hb2 : Below w.heap.size w w2 := hb1.trans (hbm.mono hw1); have HOW3 : Hid (w2.ownsRow w.heap.size 49 9 (.slice (some ⟨g1, 0, none⟩) (ys.length + 1) cap1) (ys.length + 1) (rowLn ys us ++ (lnCells t.x u).toList)) := ownsRow_keep HOW1.out (fun j hj => hbm.block j (HOW1.out.lt j hj).2); have hnw := hide (hown2.cells (g := g2) rfl); have hrz := rowLn_length zs us' hul; clear hown2)
          | (at_builtin; refine wpList_append_lies _ rfl (.tmp 27) (.tmp 28) 44 rfl w.heap.size 49 i0 (.agg (lnCells R.z0 (.slice none 0 0))) 9 120 Tryz.underlying44 hi hz0 hz1 hz2 rfl (by decide) _ _ _ rfl HOW3.out ⟨g2, 0, none⟩ zs.length cap2 (rowLn zs us') rfl hrz hnw.out ?e2 hzp ?e3 ?e4 ?e5 _ rfl ?_))
        case e2 => exact rowLn_one _ _ huo
        case e3 => unfold maxLen; omega
        case e4 => omega
        case e5 => exact hb2.size
        intro g3 cap3 w3 hown4 hgrow4 hat4 hlt4
        have hb3 : Below w.heap.size w w3 := hb2.grown hgrow4 hb2.size (fun j hj => (HOW3.out.lt j hj).1)
        have HOW4 := hide hown4
        clear hown4 hgrow4 hat4
        go_wp2
        go_roundw
        case rel =>
          refine ⟨k + 1, ys ++ [t] ++ zs, us ++ [u] ++ us', by omega, by go_num, by simp [hus, hul], ?_, ?_, ?_, ?_, ?_, hb3⟩
          · unfold Hid; rw [ZS.out]; have := HZ.out; simp; omega
          · intro x hx
            rcases List.mem_append.1 hx with h | h
            · exact HOU.out x h
            · exact huo x h
          · intro e; omega
          · intro e; simp; omega
          · have el : (ys ++ [t] ++ zs).length = ys.length + 1 + zs.length := by simp; omega
            rw [el, rowLn_append _ _ _ _ (by simp [hus]), HR.out, List.append_assoc]; exact HOW4.out
        case measure => simp [intOf]; omega
    · have hkn : k = n := by omega
      subst hkn
      have HT : Hid (l.take k = l) := List.take_of_length_le (by have := HL.out; omega)
      go_wp2
      go_ret
      have h1 := HZ.out
      rw [HT.out] at h1
      exact ⟨_, ys, us, rfl, hus, h1, HU1.out, fun e => HN1.out (by have := HL.out; simp [e] at this; omega), fun e => HN2.out (by have := HL.out; rcases l with _ | ⟨a, l⟩; exact absurd rfl e; simp at this; omega), hown, hbel⟩
end Go.Proofs.YtpkjmdcabdplfaaGreatDoor

namespace Go.Proofs.YtpkjmdcabdplfaaGreatDoor
open Go Go.RowKit
set_option maxRecDepth 100000

theorem pairB_facts {w : World} {g : Nat} {a b : Value} (h : w.heap[g]? = some (.cells #[a, b] 4 (0, 0))) : w.cell? ⟨g, 0, none⟩ = some a ∧ w.cell? ⟨g, 1, none⟩ = some b ∧ w.frozen? ⟨g, 0, none⟩ = false ∧ w.frozen? ⟨g, 1, none⟩ = false := by
  refine ⟨by simp [World.cell?, h], by simp [World.cell?, h], by simp [World.frozen?, h], by simp [World.frozen?, h]⟩

/-- what a thread's cells hold, and what all tells of its lines -/
theorem ThsAt.getA {w : World} {B bt n cap : Nat} {ts : List R.Th} {vs : List Value} {Fs : List (List Nat)} (h : ThsAt w B (.slice (some ⟨bt, 0, none⟩) n cap) ts vs Fs) (hn : n = ts.length) (hs : ∀ t ∈ ts, R.sizeL t.body ≤ 8) (k : Nat) (hk : k < ts.length) :
    bt < w.heap.size ∧ ∃ u, w.cell? ⟨bt, k * 3, none⟩ = some (.int .i64 ts[k].block) ∧ w.cell? ⟨bt, k * 3 + 1, none⟩ = some u ∧
      Hid (∀ w2 : World, Below w.heap.size w w2 → Calls Tryz.prog 40 #[u] w2 fun e w' => ∃ (v' : Value) (ys : List R.Tree) (us : List Value), e = .returned v' ∧ us.length = ys.length ∧ (ys.length : Int) ≤ 8 ∧ w'.ownsRow w2.heap.size 49 9 v' ys.length (rowLn ys us) ∧ Below w2.heap.size w2 w') := by
  have hv : k < vs.length := by rw [h.lv]; exact hk
  have hF : k < Fs.length := by rw [h.lF]; exact hk
  have ho := h.own
  rw [← hn] at ho
  obtain ⟨c0, c1, c2⟩ := thCells_at ts vs h.lv k ts[k] vs[k] (by simp [hk]) (by simp [hv])
  refine ⟨(ho.lt bt rfl).2, vs[k], ?_, ?_, ?_⟩
  · rw [ho.cellAt _ (by omega)]; exact c0
  · rw [ho.cellAt _ (by omega)]; exact c1
  · intro w2 hb
    have L := h.kid k ts[k] vs[k] Fs[k] (by simp [hk]) (by simp [hv]) (by simp [hF])
    have h8 := hs _ (List.getElem_mem hk)
    refine (all_any L (by omega) w2 (fun j hj => hb.block j (L.bound j hj).2)).mono ?_
    rintro e w' ⟨v', ys, us, rfl, h1, h2, h3, h4, h4b, h5, h6⟩
    exact ⟨v', ys, us, rfl, h1, by omega, h5, h6⟩

set_option maxHeartbeats 6400000 in
theorem touched_any (B bt n cap : Nat) (x : Int) (ts : List R.Th) (vs : List Value) (Fs : List (List Nat)) (w : World) (h : ThsAt w B (.slice (some ⟨bt, 0, none⟩) n cap) ts vs Fs) (hn : n = ts.length) (hnb : n < 10) (hs : ∀ t ∈ ts, R.sizeL t.body ≤ 8) (hb : ∀ t ∈ ts, t.block = 0 ∨ t.block = 1) :
    Calls Tryz.prog 20 #[.slice (some ⟨bt, 0, none⟩) n cap, .int .i64 x] w fun e w' => ∃ (b0 b1 p q : Bool), e = .returned (.tuple #[.slice (some ⟨w.heap.size, 0, none⟩) 2 2, .bool p, .bool q]) ∧ w'.heap[w.heap.size]? = some (.cells #[.bool b0, .bool b1] 4 (0, 0)) ∧ Below w.heap.size w w' := by
  have HA := hide h
  have HN := hide hn
  have HS := hide hs
  have HB := hide hb
  clear h hn hs hb
  have hmk : ∀ w, (Instr.makeSlice 60 (.int .i64 2) (.int .i64 2)).run Tryz.prog w = .ok (.slice (some ⟨w.heap.size, 0, none⟩) 2 2) (w.alloc (.cells #[.bool false, .bool false] 4)) := fun _ => by kernel_rfl
  go_enter Tryz.func20, Tryz.ntmps20
  go_wp2
  go_loopw [8, 9, 10] (fun p q i wr => ∃ (k : Nat) (b0 b1 p' q' : Bool), k ≤ n ∧ i = .int .i64 k ∧ p = .bool p' ∧ q = .bool q' ∧ wr.heap[w.heap.size]? = some (.cells #[.bool b0, .bool b1] 4 (0, 0)) ∧ Below w.heap.size w wr) (fun _ _ i _ => n - (intOf i).toNat)
  case atStart => exact ⟨0, false, false, false, false, Nat.zero_le _, rfl, rfl, rfl, heap_alloc_new w _, (Below.refl _ _).alloc (Nat.le_refl _) _⟩
  case round =>
    obtain ⟨k, b0, b1, p', q', hk, rfl, rfl, rfl, hcur, hbel⟩ := hrel
    by_cases hlt : k < n
    · have hkl : k < ts.length := by rw [← HN.out]; exact hlt
      obtain ⟨hbt, u, c0, c1, HC⟩ := HA.out.getA HN.out HS.out k hkl
      have hblk := HB.out ts[k] (List.getElem_mem hkl)
      have hin : (k : Int) < (n : Int) := by omega
      generalize ts[k] = t at *
      have d1 := (hbel.cell (p := ⟨bt, k * 3 + 1, none⟩) hbt).trans c1
      have hws : w.heap.size < wr.heap.size := (Array.getElem?_eq_some_iff.1 hcur).1
      go_wp2_with (first | (go_at_call 40; refine (HC.out _ hbel).mono ?_; rintro e w1 ⟨v', ys, us, rfl, hul, hyl, hown, hb1⟩))
      have hsv : ∃ a c, v' = .slice a ys.length c ∧ (0 < ys.length → ∃ b, a = some ⟨b, 0, none⟩ ∧ b < w1.heap.size ∧ wr.heap.size ≤ b) := by
        rcases hown.2 with ⟨e, h0⟩ | ⟨k, c, cur, e, hb, hg, _⟩
        · exact ⟨none, 0, by rw [e, h0], fun h => by omega⟩
        · exact ⟨_, c, e, fun _ => ⟨k, rfl, (Array.getElem?_eq_some_iff.1 hg).1, hb⟩⟩
      obtain ⟨sa, sc, rfl, hsa⟩ := hsv
      have q3 := (hb1.block w.heap.size hws).trans hcur
      have hbw : Below w.heap.size w w1 := hbel.trans (hb1.mono (by omega))
      have HOW := hide hown
      have HBW := hide hbw
      have hw1 := hb1.size
      have hyn : ys.length < 10 := by omega
      have C0 := hide c0
      clear hown hb1 hbw d1 c0 c1 HC hbel hcur
      go_loopw [8, 9, 12] (fun p q j w2 => ∃ (m : Nat) (b0 b1 p' q' : Bool), m ≤ ys.length ∧ j = .int .i64 m ∧ p = .bool p' ∧ q = .bool q' ∧ w2.heap[w.heap.size]? = some (.cells #[.bool b0, .bool b1] 4 (0, 0)) ∧ (∀ i, i < w1.heap.size → i ≠ w.heap.size → w2.heap[i]? = w1.heap[i]?) ∧ Below w.heap.size w w2) (fun _ _ j _ => ys.length - (intOf j).toNat)
      case atStart => exact ⟨0, b0, b1, p', q', Nat.zero_le _, rfl, rfl, rfl, q3, fun _ _ _ => rfl, HBW.out⟩
      case round =>
        obtain ⟨m, b0, b1, p', q', hm, rfl, rfl, rfl, hcur, hkeep, hbel⟩ := hrel
        by_cases hml : m < ys.length
        · obtain ⟨b, rfl, hblt, hbge⟩ := hsa (by omega)
          have hmi : (m : Int) < (ys.length : Int) := by omega
          have hmu : m < us.length := by omega
          have CE := LinesAt.line HOW.out rfl hul m hml us[m] (by simp [hmu])
          have hkb := hkeep b hblt (by omega)
          have cc : ∀ j, j < 9 → wr.cell? ⟨b, m * 9 + j, none⟩ = (lnCells ys[m].x us[m])[j]? := fun j hj => (World.cell?_of_block (w := w1) (a := ⟨b, m * 9 + j, none⟩) hkb).trans (CE j hj)
          have e2 := cc 2 (by omega)
          have e6 := cc 6 (by omega)
          have e7 := cc 7 (by omega)
          simp [lnCells] at e2 e6 e7
          have d0 := (hbel.cell (p := ⟨bt, k * 3, none⟩) hbt).trans C0.out
          obtain ⟨p1, p2, p3, p4⟩ := pairB_facts hcur
          have hne : bt ≠ w.heap.size := by omega
          have hne2 : b ≠ w.heap.size := by omega
          generalize ys[m] = y at *
          clear cc CE
          by_cases hx : y.x.var = x
          · rcases hblk with hbk | hbk
            · rw [hbk] at d0
              have s6 := fun u' : Value => (cell_set_ne (w := wr) (g := w.heap.size) (i := 0) (b := b) (o := m * 9 + 6) (u := u') hne2).trans e6
              have s7 := fun u' : Value => (cell_set_ne (w := wr) (g := w.heap.size) (i := 0) (b := b) (o := m * 9 + 7) (u := u') hne2).trans e7
              have fin : Hid ((wr.setCell ⟨w.heap.size, 0, none⟩ (.bool true)).heap[w.heap.size]? = some (.cells #[.bool true, .bool b1] 4 (0, 0)) ∧ (∀ i, i < w1.heap.size → i ≠ w.heap.size → (wr.setCell ⟨w.heap.size, 0, none⟩ (.bool true)).heap[i]? = w1.heap[i]?) ∧ Below w.heap.size w (wr.setCell ⟨w.heap.size, 0, none⟩ (.bool true))) :=
                ⟨by rw [setCell_block hcur]; rfl, fun i h1 h2 => by rw [Below.heap_setCell _ _ _ _ h2]; exact hkeep i h1 h2, hbel.setCell (Nat.le_refl _) _⟩
              cases p' <;> cases q' <;> cases hs1 : (y.x.ord.toList == [119, 101, 97, 107]) <;> cases hs2 : (y.x.scope.toList == [98, 108, 111, 99, 107]) <;> cases hs3 : (y.x.ord.toList == [97, 99, 113, 114, 101, 108])
              all_goals
                go_wp2
                go_roundw
                case rel => exact ⟨m + 1, true, b1, _, _, by omega, by go_num, rfl, rfl, fin.out.1, fin.out.2.1, fin.out.2.2⟩
                case measure => simp [intOf]; omega
            · rw [hbk] at d0
              have s6 := fun u' : Value => (cell_set_ne (w := wr) (g := w.heap.size) (i := 1) (b := b) (o := m * 9 + 6) (u := u') hne2).trans e6
              have s7 := fun u' : Value => (cell_set_ne (w := wr) (g := w.heap.size) (i := 1) (b := b) (o := m * 9 + 7) (u := u') hne2).trans e7
              have fin : Hid ((wr.setCell ⟨w.heap.size, 1, none⟩ (.bool true)).heap[w.heap.size]? = some (.cells #[.bool b0, .bool true] 4 (0, 0)) ∧ (∀ i, i < w1.heap.size → i ≠ w.heap.size → (wr.setCell ⟨w.heap.size, 1, none⟩ (.bool true)).heap[i]? = w1.heap[i]?) ∧ Below w.heap.size w (wr.setCell ⟨w.heap.size, 1, none⟩ (.bool true))) :=
                ⟨by rw [setCell_block hcur]; rfl, fun i h1 h2 => by rw [Below.heap_setCell _ _ _ _ h2]; exact hkeep i h1 h2, hbel.setCell (Nat.le_refl _) _⟩
              cases p' <;> cases q' <;> cases hs1 : (y.x.ord.toList == [119, 101, 97, 107]) <;> cases hs2 : (y.x.scope.toList == [98, 108, 111, 99, 107]) <;> cases hs3 : (y.x.ord.toList == [97, 99, 113, 114, 101, 108])
              all_goals
                go_wp2
                go_roundw
                case rel => exact ⟨m + 1, b0, true, _, _, by omega, by go_num, rfl, rfl, fin.out.1, fin.out.2.1, fin.out.2.2⟩
                case measure => simp [intOf]; omega
          · have hx' : (y.x.var == x) = false := by simpa using hx
            go_wp2
            go_roundw
            case rel => exact ⟨m + 1, b0, b1, p', q', by omega, by go_num, rfl, rfl, hcur, hkeep, hbel⟩
            case measure => simp [intOf]; omega
        · go_wp2
          go_roundw
          case rel => exact ⟨k + 1, b0, b1, p', q', by omega, by go_num, rfl, rfl, hcur, hbel⟩
          case measure => simp [intOf]; omega
    · go_wp2
      go_ret3
      exact ⟨b0, b1, p', q', rfl, hcur, hbel⟩
end Go.Proofs.YtpkjmdcabdplfaaGreatDoor
