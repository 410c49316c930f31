import Derived.Test.YtnoolmgophobnaaDoorA11
set_option linter.unusedVariables false
set_option linter.unusedSimpArgs false
namespace Go.Proofs.YtnoolmgophobnaaDoor
open Go Go.RowKit
set_option maxRecDepth 100000

theorem rd_new (w : World) : RdAt ((w.alloc (.cells #[.slice none 0 0] 35)).alloc (.cells #[.slice none 0 0, .int .i64 0, .int .i64 0, .int .i64 0, .slice none 0 0] 93)) (w.heap.size + 1) (w.heap.size + 1) P.Rd.zero := by
  refine ⟨.slice none 0 0, .slice none 0 0, [], ?_, World.ownsRow_nil _ _ _ _, World.ownsRow_nil _ _ _ _, trivial⟩
  have := heap_alloc_new (w.alloc (.cells #[.slice none 0 0] 35)) (.cells #[.slice none 0 0, .int .i64 0, .int .i64 0, .int .i64 0, .slice none 0 0] 93)
  simpa [P.Rd.zero] using this

theorem ret_prog {fn : Func} {R : Ending → World → Prop} {a : Act} {w : World} {p u : Tmp} (g : Nat) (tv uv : Value) (hres : fn.results = #[.cell p 35, .tmp u])
    (hp : a.tmps.getD p undef = .pointer (some ⟨g, 0, none⟩)) (hu : a.tmps.getD u undef = uv) (h : w.heap[g]? = some (.cells #[tv] 35 (0, 0))) (hd : a.defers = []) (hR : R (.returned (.tuple #[.agg #[tv], uv])) w) : bodyPost Tryd.prog fn R .ret a w := by
  refine bodyPost_ret (v := .tuple #[.agg #[tv], uv]) ?_ hd hR
  rw [results_cell_tmp hres, hp, hu]
  have : (asAddr (.pointer (some ⟨g, 0, none⟩))).run Tryd.prog w = .ok ⟨g, 0, none⟩ w := rfl
  rw [this, Result.andThen_ok, run_loadVar_row w g _ _ _ h _ Tryd.underlying35 rfl (by kernel_rfl), Result.andThen_ok]

theorem own_base {w : World} {B B' : Nat} {e : TypeId} {sz : Nat} {v : Value} {n : Nat} {xs : List Value} (h : w.ownsRow B e sz v n xs) (hb : B' ≤ B) : w.ownsRow B' e sz v n xs := by
  refine ⟨h.1, ?_⟩
  rcases h.2 with hn | ⟨g, cap, cur, rfl, hb', rest⟩
  · exact .inl hn
  · exact .inr ⟨g, cap, cur, rfl, by omega, rest⟩
theorem StmtsAt.base {w : World} {B B' : Nat} (hb : B' ≤ B) : ∀ {ts : List P.Thr} {vs : List Value}, StmtsAt w B ts vs → StmtsAt w B' ts vs
  | [], [], _ => trivial
  | _ :: _, _ :: _, h => ⟨own_base h.1 hb, h.2.1, StmtsAt.base hb h.2.2⟩
theorem threads_of {w : World} {B g : Nat} {r : P.Rd} {tv ov : Value} {vs : List Value} (h : RdIn w (B + 1) g r tv ov vs) (u : Value) : ThreadsAt (w.setCell ⟨B, 0, none⟩ u) B tv r.threads := by
  refine ⟨vs, own_base (ownsRow_keep h.threads (fun k hk => ?_)) (by omega), (h.stmts.keep (fun v hv k hk => ?_)).base (by omega)⟩
  · have := (h.threads.lt k hk).1
    exact Below.heap_setCell _ _ _ _ (by simp; omega)
  · obtain ⟨n, xs, ho⟩ := h.stmts.mem v hv
    have := (ho.lt k hk).1
    exact Below.heap_setCell _ _ _ _ (by simp; omega)

theorem split_words (s : ByteArray) (w : World) (hs : s.size ≤ 8192) :
    Calls Tryd.prog 43 #[.string s] w fun e w' => ∃ g cap n c rs, e = .returned (.slice (some ⟨g, 0, none⟩) n cap) ∧ Hid (c.toList :: rs.map ByteArray.toList = P.splitAt 32 s.toList) ∧ WordsAt w' g 0 (c :: rs) ∧ rs.length = n - 1 ∧ 1 ≤ n ∧ n < 10000 ∧ n ≤ cap ∧ g < w'.heap.size ∧ Below w.heap.size w w' := by
  refine (split_any s w hs).mono ?_
  rintro e w' ⟨g, cap, ws, rfl, hws, hown, hb⟩
  obtain ⟨h1, h2, h3⟩ := own_words hown
  have hl := P.splitAt_length 32 s.toList
  rw [← hws, List.length_map, size_toList] at hl
  cases ws with
  | nil => exact absurd hws.symm (P.splitAt_ne _ _)
  | cons c rs => exact ⟨g, cap, _, c, rs, rfl, by simpa [Hid] using hws, h1, by simp, by simp, by omega, h2, h3, hb⟩

theorem one_cell {w : World} {g : Nat} {v : Value} {t : TypeId} (h : w.heap[g]? = some (.cells #[v] t (0, 0))) : w.cell? ⟨g, 0, none⟩ = some v ∧ w.frozen? ⟨g, 0, none⟩ = false ∧ g < w.heap.size := by
  refine ⟨?_, ?_, (Array.getElem?_eq_some_iff.1 h).1⟩ <;> simp [World.cell?, World.frozen?, h]

theorem extract_size (s : ByteArray) (m k : Nat) : (s.extract m k).size ≤ s.size := by
  simp [ByteArray.size_extract]; omega

set_option maxHeartbeats 3200000 in
theorem lines_any (s : ByteArray) (w : World) (hs : s.size ≤ 8192) :
    Calls Tryd.prog 23 #[.string s] w fun e w' => ∃ tv, e = .returned (.tuple #[.agg #[tv], .int .i64 (P.lines s.toList).2]) ∧ ThreadsAt w' w.heap.size tv (P.lines s.toList).1 ∧ Below w.heap.size w w' := by
  go_enter Tryd.func23, Tryd.ntmps23
  go_wp2
  go_loopw [5, 6] (fun f i wr => ∃ k m : Nat, ∃ rows : List ByteArray, ∃ r : P.Rd, k ≤ s.size ∧ m ≤ k ∧ i = .int .i64 k ∧ f = .int .i64 m ∧ Hid (LoopAt s k m rows r) ∧ Hid (RdAt wr (w.heap.size + 1) (w.heap.size + 1) r) ∧
      Hid (wr.heap[w.heap.size]? = some (.cells #[.slice none 0 0] 35 (0, 0))) ∧ Below w.heap.size w wr) (fun _ i _ => s.size - (intOf i).toNat)
  case atStart => 
    refine ⟨0, 0, [], P.Rd.zero, Nat.zero_le _, Nat.le_refl _, rfl, rfl, ⟨by simp [P.splitAt], rfl, P.good_zero, by simp [P.Rd.zero]⟩, rd_new w, ?_, ((Below.refl _ _).alloc (Nat.le_refl _) _).alloc (by simp) _⟩
    unfold Hid
    rw [Below.heap_alloc _ _ _ (by simp)]
    exact heap_alloc_new w _
  case round =>
    obtain ⟨k, m, rows, r, hk, hm, rfl, rfl, HL, HR, HB, hbel⟩ := hrel
    have hgd := HL.out.good
    obtain ⟨tv, ov, vs, hri⟩ := HR.out
    obtain ⟨ta, tc, oa, oc, rfl, rfl⟩ := hri.forms
    obtain ⟨glt, gfr, g0, g1, g2, g3, g4⟩ := hri.facts
    have hl0 := hgd.lin0
    have hl1 := hgd.lin1
    have HRI0 := hide hri
    clear hri
    by_cases hlt : k < s.size
    · by_cases hc : s[k] = 10
      · have hc' : ((s[k].toNat : Int) != 10) = false := by simp [hc]
        cases ht : (P.takes { r with line := r.line + 1 } (P.splitAt 32 (s.extract m k).toList)).2
        · have hsz := extract_size s m k
          go_wp2_with fail
          refine (split_words _ _ (by omega)).mono ?_
          rintro e w1 ⟨gw, cw, n, c, rs, rfl, HW, hwa, hn, hn1, hnb, hcap, hgw, hb1⟩
          have hr1 := hide ((HR.out.lined (r.line + 1)).below hb1)
          have hB1 : w.heap.size + 1 ≤ w1.heap.size := by have := hb1.size; simp at this; omega
          have e1 : Below (w.heap.size + 1) wr w1 := ((Below.refl _ _).setCell (Nat.le_refl _) _).trans (hb1.mono (by simp; omega))
          have E1 := hide e1
          clear e1 hb1
          go_wp2_with fail
          refine (takes_any (w.heap.size + 1) (w.heap.size + 1) k gw 0 _ _ { r with line := r.line + 1 } c rs _ hr1.out hwa hn hn1 hnb hcap hgw ⟨hgd.few, hgd.stm⟩ (by omega) hB1 (Nat.le_refl _) (by have := hgd.opn; simp; omega) hgd.ifs0 (by have := hgd.ifs1; simp; omega) hgd.cnt).mono ?_
          rintro e w2 ⟨he, hr2, hb2⟩
          rw [HW.out] at he hr2
          subst he
          have hres : w2.heap[w.heap.size]? = some (.cells #[.slice none 0 0] 35 (0, 0)) := by (rw [hb2.block _ (by omega), E1.out.block _ (by omega)]; exact HB.out)
          obtain ⟨tv2, ov2, vs2, hri2⟩ := hr2
          obtain ⟨glt2, gfr2, k0, k1, k2, k3, k4⟩ := hri2.facts
          obtain ⟨z0, z1, z2⟩ := one_cell hres
          have HRI := hide hri2
          have HRES := hide hres
          clear hri2 hres
          go_wp2
          go_region
          all_goals go_wp2
          rw [loop_fail HL.out hlt hc ht]
          refine ret_prog (p := 2) (u := 3) w.heap.size (.slice none 0 0) _ (by kernel_rfl) rfl rfl (by exact setCell_block HRES.out 0 _) rfl ⟨_, rfl, ThreadsAt.nil _ _, ?_⟩
          exact ((hbel.trans ((E1.out.trans hb2).mono (by omega))).setCell (Nat.le_refl _) _).drew
        · have hsz := extract_size s m k
          go_wp2_with fail
          refine (split_words _ _ (by omega)).mono ?_
          rintro e w1 ⟨gw, cw, n, c, rs, rfl, HW, hwa, hn, hn1, hnb, hcap, hgw, hb1⟩
          have hr1 := hide ((HR.out.lined (r.line + 1)).below hb1)
          have hB1 : w.heap.size + 1 ≤ w1.heap.size := by have := hb1.size; simp at this; omega
          have e1 : Below (w.heap.size + 1) wr w1 := ((Below.refl _ _).setCell (Nat.le_refl _) _).trans (hb1.mono (by simp; omega))
          have E1 := hide e1
          clear e1 hb1
          go_wp2_with fail
          refine (takes_any (w.heap.size + 1) (w.heap.size + 1) k gw 0 _ _ { r with line := r.line + 1 } c rs _ hr1.out hwa hn hn1 hnb hcap hgw ⟨hgd.few, hgd.stm⟩ (by omega) hB1 (Nat.le_refl _) (by have := hgd.opn; simp; omega) hgd.ifs0 (by have := hgd.ifs1; simp; omega) hgd.cnt).mono ?_
          rintro e w2 ⟨he, hr2, hb2⟩
          rw [HW.out] at he hr2
          subst he
          have hres : w2.heap[w.heap.size]? = some (.cells #[.slice none 0 0] 35 (0, 0)) := by (rw [hb2.block _ (by omega), E1.out.block _ (by omega)]; exact HB.out)
          obtain ⟨tv2, ov2, vs2, hri2⟩ := hr2
          obtain ⟨glt2, gfr2, k0, k1, k2, k3, k4⟩ := hri2.facts
          obtain ⟨z0, z1, z2⟩ := one_cell hres
          have HRI := hide hri2
          have HRES := hide hres
          clear hri2 hres
          go_wp2
          go_roundw
          case rel => exact ⟨k + 1, k + 1, rows ++ [s.extract m k], _, by omega, Nat.le_refl _, by go_num, by go_num, loop_step HL.out hlt hc ht, ⟨_, _, _, HRI.out⟩, HRES, hbel.trans ((E1.out.trans hb2).mono (by omega))⟩
          case measure => simp [intOf]; omega
      · have hc' : ((s[k].toNat : Int) != 10) = true := by
          rw [bne_iff_ne]; intro e; apply hc
          have := (byte_eq s[k] 10 (by omega)).1 (by simp [e]); simpa using this
        have HL' := hide (loop_stay HL.out hlt hm hc)
        go_wp2
        go_roundw
        case rel => exact ⟨k + 1, m, rows, r, by omega, by omega, by go_num, rfl, HL', HR, HB, hbel⟩
        case measure => simp [intOf]; omega
    · have hks : k = s.size := by omega
      subst hks
      have HE := hide (loop_end HL.out hm)
      obtain ⟨z0, z1, z2⟩ := one_cell HB.out
      have hm' : (m : Int) ≤ (s.size : Int) := by omega
      by_cases h1 : m < s.size
      · have h1' : (m : Int) < (s.size : Int) := by omega
        go_wp2
        go_region
        all_goals go_wp2
        rw [unhide HE, if_pos (Or.inl h1)]
        refine ret_prog (p := 2) (u := 3) w.heap.size (.slice none 0 0) _ (by kernel_rfl) rfl rfl (by exact setCell_block HB.out 0 _) rfl ⟨_, rfl, ThreadsAt.nil _ _, ?_⟩
        exact (hbel.setCell (Nat.le_refl _) _).drew
      have h1' : ¬ (m : Int) < (s.size : Int) := by omega
      have h1d : decide ((m : Int) < (s.size : Int)) = false := by simp; omega
      by_cases h2 : 0 < r.opn.length
      · have h2' : (0 : Int) < (r.opn.length : Int) := by omega
        go_wp2
        go_region
        all_goals go_wp2
        rw [unhide HE, if_pos (Or.inr (Or.inl h2))]
        refine ret_prog (p := 2) (u := 3) w.heap.size (.slice none 0 0) _ (by kernel_rfl) rfl rfl (by exact setCell_block HB.out 0 _) rfl ⟨_, rfl, ThreadsAt.nil _ _, ?_⟩
        exact (hbel.setCell (Nat.le_refl _) _).drew
      have h2' : ¬ (0 : Int) < (r.opn.length : Int) := by omega
      have h2d : decide ((0 : Int) < (r.opn.length : Int)) = false := decide_eq_false h2'
      by_cases h3 : r.threads.length = 0
      · have h3' : ((r.threads.length : Int) == 0) = true := by simp [h3]
        have H3 := hide h3
        clear h3
        go_wp2
        go_region
        all_goals go_wp2
        rw [unhide HE, if_pos (Or.inr (Or.inr H3.out))]
        refine ret_prog (p := 2) (u := 3) w.heap.size (.slice none 0 0) _ (by kernel_rfl) rfl rfl (by exact setCell_block HB.out 0 _) rfl ⟨_, rfl, ThreadsAt.nil _ _, ?_⟩
        exact (hbel.setCell (Nat.le_refl _) _).drew
      have h3' : ((r.threads.length : Int) == 0) = false := by simpa using h3
      have hno : ¬ (m < s.size ∨ 0 < r.opn.length ∨ r.threads.length = 0) := by
        rintro (h | h | h)
        · exact h1 h
        · exact h2 h
        · exact h3 h
      have HNO := hide hno
      clear hno
      go_wp2
      rw [unhide HE, if_neg HNO.out]
      refine ret_prog (p := 2) (u := 3) w.heap.size _ _ (by kernel_rfl) rfl rfl (by exact setCell_block HB.out 0 _) rfl ⟨_, rfl, threads_of HRI0.out _, hbel.setCell (Nat.le_refl _) _⟩
end Go.Proofs.YtnoolmgophobnaaDoor
