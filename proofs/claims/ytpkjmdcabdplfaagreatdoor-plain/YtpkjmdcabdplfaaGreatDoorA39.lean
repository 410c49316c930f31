import Derived.Deep.RegionLaw
import Derived.Test.YtpkjmdcabdplfaaGreatDoorA31
import Derived.Test.YtpkjmdcabdplfaaGreatDoorA29
import Derived.Test.YtpkjmdcabdplfaaGreatDoorA23
import Derived.Test.YtpkjmdcabdplfaaGreatDoorA30
set_option linter.unusedVariables false
set_option linter.unusedSimpArgs false
namespace Go.Proofs.YtpkjmdcabdplfaaGreatDoor
open Go Go.RowKit

theorem readBody_flat : flatC (bodyOf Tryz.f7) = [(stmOf (bodyOf Tryz.f7) 0), (stmOf (bodyOf Tryz.f7) 1), (stmOf (bodyOf Tryz.f7) 2), (stmOf (bodyOf Tryz.f7) 3)] := by kernel_rfl
theorem readStm_two : (stmOf (bodyOf Tryz.f7) 2) = Code.block 1 (inOf (stmOf (bodyOf Tryz.f7) 2)) := by kernel_rfl
theorem readIn_flat : flatC (inOf (stmOf (bodyOf Tryz.f7) 2)) = [(stmOf (inOf (stmOf (bodyOf Tryz.f7) 2)) 0), (stmOf (inOf (stmOf (bodyOf Tryz.f7) 2)) 1), (stmOf (inOf (stmOf (bodyOf Tryz.f7) 2)) 2), (stmOf (inOf (stmOf (bodyOf Tryz.f7) 2)) 3), (stmOf (inOf (stmOf (bodyOf Tryz.f7) 2)) 4), (stmOf (inOf (stmOf (bodyOf Tryz.f7) 2)) 5), (stmOf (inOf (stmOf (bodyOf Tryz.f7) 2)) 6), (stmOf (inOf (stmOf (bodyOf Tryz.f7) 2)) 7), (stmOf (inOf (stmOf (bodyOf Tryz.f7) 2)) 8), (stmOf (inOf (stmOf (bodyOf Tryz.f7) 2)) 9), (stmOf (inOf (stmOf (bodyOf Tryz.f7) 2)) 10), (stmOf (inOf (stmOf (bodyOf Tryz.f7) 2)) 11)] := by kernel_rfl

namespace R
theorem run_cons (st : St) (k : Int) (x : List UInt8) (xs : List (List UInt8)) (c : ByteArray) (r : List ByteArray) (h : c.toList :: r.map ByteArray.toList = P.splitAt 32 x) :
    run st k (x :: xs) = match step st (k + 1) c r with
      | none => (none, k + 1)
      | some s' => run s' (k + 1) xs := by
  have e : (P.splitAt 32 x).map mkB = c :: r := by
    rw [← h, List.map_cons, List.map_map, mkB_eta]
    congr 1
    conv => rhs; rw [← List.map_id r]
    refine List.map_congr_left (fun b _ => ?_)
    simp [mkB_eta]
  simp only [run, e]
  cases step st (k + 1) c r <;> rfl

theorem addLast_ne (ts : List Th) (x : Tree) (h : ts ≠ []) : addLast ts x ≠ [] := by
  obtain ⟨us, t, rfl⟩ := snoc_of ts h
  rw [addLast_snoc]; simp
theorem put_ne (s : St) (x : Tree) (h : s.ts ≠ []) : (put s x).ts ≠ [] := by
  unfold put
  split
  · exact addLast_ne _ _ h
  · exact h
theorem step_ne {s s' : St} {i : Int} {c : ByteArray} {w : List ByteArray} (h : step s i c w = some s') : s'.ts ≠ [] := by
  unfold step at h
  split at h
  · unfold begins at h
    split at h
    · split at h
      · simp at h; rw [← h]; simp
      · simp at h
    · simp at h
  · split at h
    · simp at h
    · rename_i hne
      have hts : s.ts ≠ [] := by intro e; simp [e] at hne
      split at h
      · unfold ends at h
        split at h
        · simp at h
        · split at h
          · simp at h; rw [← h]; exact put_ne _ _ hts
          · simp at h
      · split at h
        · unfold branch at h
          split at h
          · split at h
            · simp at h; rw [← h]; exact hts
            · simp at h
          · simp at h
        · unfold one at h
          split at h
          · simp at h; rw [← h]; exact put_ne _ _ hts
          · simp at h
theorem put_inner (s : St) (x : Tree) : (put s x).inner = s.inner := by unfold put; split <;> rfl
theorem step_inner {s s' : St} {i : Int} {c : ByteArray} {w : List ByteArray} (hi : 0 ≤ i) (h0 : 0 ≤ s.inner) (h1 : s.inner ≤ i) (h : step s i c w = some s') : 0 ≤ s'.inner ∧ s'.inner ≤ i := by
  unfold step at h
  split at h
  · unfold begins at h
    split at h
    · split at h
      · simp at h; rw [← h]; exact ⟨h0, h1⟩
      · simp at h
    · simp at h
  · split at h
    · simp at h
    · split at h
      · unfold ends at h
        split at h
        · simp at h
        · split at h
          · simp at h; rw [← h, put_inner]; exact ⟨h0, h1⟩
          · simp at h
      · split at h
        · unfold branch at h
          split at h
          · split at h
            · simp at h; rw [← h]; exact ⟨h0, h1⟩
            · simp at h
          · simp at h
        · unfold one at h
          split at h
          · simp at h
            rw [← h, put_inner]
            simp only []
            split
            · exact ⟨hi, Int.le_refl _⟩
            · exact ⟨h0, h1⟩
          · simp at h
end R

/-- between two rounds -/
structure RS (w1 : World) (B : Nat) (rows : List ByteArray) (n k : Nat) (st : R.St) (tv ov : Value) (tvs ovs : List Value) (G : List Nat) (wr : World) : Prop where
  mem : RdM wr B tv ov st.ts st.opn tvs ovs G
  sz : R.SzS st
  run : R.run R.St.zero 0 ((rows.map ByteArray.toList).take n) = R.run st k (((rows.map ByteArray.toList).take n).drop k)
  pos : 0 < k → st.ts ≠ []
  in0 : 0 ≤ st.inner
  in1 : st.inner ≤ k
  bel : Below B w1 wr

/-- the next line, as the reference takes it -/
theorem RS.step {w1 : World} {B : Nat} {rows : List ByteArray} {n k : Nat} {st : R.St} {tv ov : Value} {tvs ovs : List Value} {G : List Nat} {wr : World} (h : RS w1 B rows n k st tv ov tvs ovs G wr) (hk : k < n) (hr : rows.length = n + 1) {x c : ByteArray} {r : List ByteArray} (hx : rows[k]? = some x) (hc : c.toList :: r.map ByteArray.toList = P.splitAt 32 x.toList) :
    (R.step st ((k : Int) + 1) c r = none → R.run R.St.zero 0 ((rows.map ByteArray.toList).take n) = (none, (k : Int) + 1)) ∧
    (∀ st', R.step st ((k : Int) + 1) c r = some st' → ∀ (tv' ov' : Value) (tvs' ovs' : List Value) (G' : List Nat) (w' : World), RdM w' B tv' ov' st'.ts st'.opn tvs' ovs' G' → Below B w1 w' → RS w1 B rows n (k + 1) st' tv' ov' tvs' ovs' G' w') := by
  have hd : ((rows.map ByteArray.toList).take n).drop k = x.toList :: ((rows.map ByteArray.toList).take n).drop (k + 1) := by
    have hl : k < ((rows.map ByteArray.toList).take n).length := by simp; omega
    rw [List.drop_eq_getElem_cons hl]
    congr 1
    have hxk : k < rows.length := by omega
    have : rows[k] = x := by rw [List.getElem?_eq_getElem hxk] at hx; simpa using hx
    simp [this]
  have hrun := h.run
  rw [hd, R.run_cons st k x.toList _ c r hc] at hrun
  refine ⟨fun hn => by rw [hrun, hn], fun st' hs tv' ov' tvs' ovs' G' w' hm hb => ?_⟩
  rw [hs] at hrun
  have hin := R.step_inner (by omega) h.in0 (by have := h.in1; omega) hs
  exact ⟨hm, R.step_sz h.sz hs, by rw [hrun]; push_cast; rfl, fun _ => R.step_ne hs, hin.1, by push_cast; exact hin.2, hb⟩
end Go.Proofs.YtpkjmdcabdplfaaGreatDoor

namespace Go.Proofs.YtpkjmdcabdplfaaGreatDoor
open Go Go.RowKit
set_option maxRecDepth 100000

set_option maxRecDepth 1000000 in
set_option maxHeartbeats 12800000 in
theorem RdPre (w1 wr : World) (B : Nat) (rows : List ByteArray) (n k gr capr : Nat) (s : R.St) (ta oa : Option Addr) (tc oc : Nat) (tvs ovs : List Value) (G : List Nat) (H : Hid (RS w1 B rows n k s (.slice ta s.ts.length tc) (.slice oa s.opn.length oc) tvs ovs G wr)) (hlt : k < n) (hn : n < 10000) (hr : rows.length = n + 1) (hrow : Hid (WordsAt w1 gr 0 rows)) (hgr : gr < B) (hBw : w1.heap.size = B) (hsmall : Hid (∀ x ∈ rows, x.size ≤ 8192)) (Q : Exit → Act → World → Prop) (c0 c1 c2 c3 c4 v12 v13 v14 v15 v16 v17 v18 v19 v20 v21 v22 v23 v24 v25 v26 v27 c28 c29 c30 c31 c32 c33 c34 c35 v36 v37 v38 v39 v40 v41 v42 v43 v44 v45 v46 v47 v48 v49 v50 v51 v52 v53 v54 v55 v56 v57 v58 v59 v60 v61 v62 v63 v64 v65 v66 v67 v68 v69 v70 v71 v72 v73 v74 v75 v76 v77 v78 v79 v80 v81 v82 v83 v84 v85 v86 v87 v88 v89 v90 v91 v92 v93 v94 v95 v96 v97 v98 v99 v100 v101 v102 v103 v104 v105 v106 v107 v108 v109 v110 v111 v112 v113 v114 v115 v116 v117 v118 v119 v120 v121 v122 v123 v124 v125 v126 v127 v128 v129 v130 v131 v132 v133 v134 v135 v136 v137 v138 v139 v140 v141 v142 v143 v144 v145 v146 v147 v148 v149 v150 v151 v152 v153 v154 v155 v156 v157 v158 v159 v160 v161 v162 v163 v164 v165 v166 v167 v168 v169 v170 v171 v172 v173 v174 v175 v176 v177 v178 v179 v180 v181 v182 v183 v184 v185 v186 v187 v188 v189 v190 v191 v192 v193 v194 v195 v196 v197 v198 v199 v200 v201 v202 v203 v204 v205 v206 v207 v208 v209 v210 v211 v212 v213 v214 v215 c216 c217 c218 c219 c220 c221 c222 c223 c224 c225 c226 c227 c228 c229 c230 c231 c232 c233 c234 c235 c236 c237 c238 c239 c240 c241 c242 c243 : Value)
    (hK : Hid (∀ (gw nw capw : Nat) (x c : ByteArray) (r : List ByteArray) (w2 : World) (c0 c1 c2 c3 c4 v13 v14 v15 v16 v17 v18 v19 v20 v21 v22 v23 v24 v25 v26 v27 c28 c29 c30 c31 c32 c33 c34 c35 v36 v37 v38 v39 v40 v41 v42 v43 v44 v45 v46 v47 v48 v50 v51 v52 v53 v54 v55 v56 v57 v58 v59 v60 v61 v62 v63 v64 v65 v66 v67 v68 v69 v70 v71 v72 v73 v74 v75 v76 v77 v78 v79 v80 v81 v82 v83 v84 v85 v86 v87 v88 v89 v90 v91 v92 v93 v94 v95 v96 v97 v98 v99 v100 v101 v102 v103 v104 v105 v106 v107 v108 v109 v110 v111 v112 v113 v114 v115 v116 v117 v118 v119 v120 v121 v122 v123 v124 v125 v126 v127 v128 v129 v130 v131 v132 v133 v134 v135 v136 v137 v138 v139 v140 v141 v142 v143 v144 v145 v146 v147 v148 v149 v150 v151 v152 v153 v154 v155 v156 v157 v158 v159 v160 v161 v162 v163 v164 v165 v166 v167 v168 v169 v170 v171 v172 v173 v174 v175 v176 v177 v178 v179 v180 v181 v182 v183 v184 v185 v186 v187 v188 v189 v190 v191 v192 v193 v194 v195 v196 v197 v198 v199 v200 v201 v202 v203 v204 v205 v206 v207 v208 v209 v210 v211 v212 v213 v214 v215 c216 c217 c218 c219 c220 c221 c222 c223 c224 c225 c226 c227 c228 c229 c230 c231 c232 c233 c234 c235 c236 c237 c238 c239 c240 c241 c242 c243 : Value), rows[k]? = some x → c.toList :: r.map ByteArray.toList = P.splitAt 32 x.toList → WordsAt w2 gw 0 (c :: r) → r.length + 1 = nw → nw ≤ capw → nw < 10000 → gw < w2.heap.size → Below wr.heap.size wr w2 → wpL Tryz.prog [(stmOf (inOf (stmOf (bodyOf Tryz.f7) 2)) 2), (stmOf (inOf (stmOf (bodyOf Tryz.f7) 2)) 3), (stmOf (inOf (stmOf (bodyOf Tryz.f7) 2)) 4), (stmOf (inOf (stmOf (bodyOf Tryz.f7) 2)) 5), (stmOf (inOf (stmOf (bodyOf Tryz.f7) 2)) 6), (stmOf (inOf (stmOf (bodyOf Tryz.f7) 2)) 7), (stmOf (inOf (stmOf (bodyOf Tryz.f7) 2)) 8), (stmOf (inOf (stmOf (bodyOf Tryz.f7) 2)) 9), (stmOf (inOf (stmOf (bodyOf Tryz.f7) 2)) 10), (stmOf (inOf (stmOf (bodyOf Tryz.f7) 2)) 11)] Q ⟨#[c0, c1, c2, c3, c4, .slice (some ⟨gr, 0, none⟩) (n + 1) capr, .int .i64 (n : Int), .slice ta s.ts.length tc, .slice oa s.opn.length oc, .int .i64 s.count, .int .i64 s.inner, .int .i64 (k : Int), .slice (some ⟨gw, 0, none⟩) nw capw, v13, v14, v15, v16, v17, v18, v19, v20, v21, v22, v23, v24, v25, v26, v27, c28, c29, c30, c31, c32, c33, c34, c35, v36, v37, v38, v39, v40, v41, v42, v43, v44, v45, v46, v47, v48, .bool (c.toList == [116, 104, 114, 101, 97, 100]), v50, v51, v52, v53, v54, v55, v56, v57, v58, v59, v60, v61, v62, v63, v64, v65, v66, v67, v68, v69, v70, v71, v72, v73, v74, v75, v76, v77, v78, v79, v80, v81, v82, v83, v84, v85, v86, v87, v88, v89, v90, v91, v92, v93, v94, v95, v96, v97, v98, v99, v100, v101, v102, v103, v104, v105, v106, v107, v108, v109, v110, v111, v112, v113, v114, v115, v116, v117, v118, v119, v120, v121, v122, v123, v124, v125, v126, v127, v128, v129, v130, v131, v132, v133, v134, v135, v136, v137, v138, v139, v140, v141, v142, v143, v144, v145, v146, v147, v148, v149, v150, v151, v152, v153, v154, v155, v156, v157, v158, v159, v160, v161, v162, v163, v164, v165, v166, v167, v168, v169, v170, v171, v172, v173, v174, v175, v176, v177, v178, v179, v180, v181, v182, v183, v184, v185, v186, v187, v188, v189, v190, v191, v192, v193, v194, v195, v196, v197, v198, v199, v200, v201, v202, v203, v204, v205, v206, v207, v208, v209, v210, v211, v212, v213, v214, v215, c216, c217, c218, c219, c220, c221, c222, c223, c224, c225, c226, c227, c228, c229, c230, c231, c232, c233, c234, c235, c236, c237, c238, c239, c240, c241, c242, c243], []⟩ w2)) :
    wpL Tryz.prog [(stmOf (inOf (stmOf (bodyOf Tryz.f7) 2)) 0), (stmOf (inOf (stmOf (bodyOf Tryz.f7) 2)) 1), (stmOf (inOf (stmOf (bodyOf Tryz.f7) 2)) 2), (stmOf (inOf (stmOf (bodyOf Tryz.f7) 2)) 3), (stmOf (inOf (stmOf (bodyOf Tryz.f7) 2)) 4), (stmOf (inOf (stmOf (bodyOf Tryz.f7) 2)) 5), (stmOf (inOf (stmOf (bodyOf Tryz.f7) 2)) 6), (stmOf (inOf (stmOf (bodyOf Tryz.f7) 2)) 7), (stmOf (inOf (stmOf (bodyOf Tryz.f7) 2)) 8), (stmOf (inOf (stmOf (bodyOf Tryz.f7) 2)) 9), (stmOf (inOf (stmOf (bodyOf Tryz.f7) 2)) 10), (stmOf (inOf (stmOf (bodyOf Tryz.f7) 2)) 11)] Q ⟨#[c0, c1, c2, c3, c4, .slice (some ⟨gr, 0, none⟩) (n + 1) capr, .int .i64 (n : Int), .slice ta s.ts.length tc, .slice oa s.opn.length oc, .int .i64 s.count, .int .i64 s.inner, .int .i64 (k : Int), v12, v13, v14, v15, v16, v17, v18, v19, v20, v21, v22, v23, v24, v25, v26, v27, c28, c29, c30, c31, c32, c33, c34, c35, v36, v37, v38, v39, v40, v41, v42, v43, v44, v45, v46, v47, v48, v49, v50, v51, v52, v53, v54, v55, v56, v57, v58, v59, v60, v61, v62, v63, v64, v65, v66, v67, v68, v69, v70, v71, v72, v73, v74, v75, v76, v77, v78, v79, v80, v81, v82, v83, v84, v85, v86, v87, v88, v89, v90, v91, v92, v93, v94, v95, v96, v97, v98, v99, v100, v101, v102, v103, v104, v105, v106, v107, v108, v109, v110, v111, v112, v113, v114, v115, v116, v117, v118, v119, v120, v121, v122, v123, v124, v125, v126, v127, v128, v129, v130, v131, v132, v133, v134, v135, v136, v137, v138, v139, v140, v141, v142, v143, v144, v145, v146, v147, v148, v149, v150, v151, v152, v153, v154, v155, v156, v157, v158, v159, v160, v161, v162, v163, v164, v165, v166, v167, v168, v169, v170, v171, v172, v173, v174, v175, v176, v177, v178, v179, v180, v181, v182, v183, v184, v185, v186, v187, v188, v189, v190, v191, v192, v193, v194, v195, v196, v197, v198, v199, v200, v201, v202, v203, v204, v205, v206, v207, v208, v209, v210, v211, v212, v213, v214, v215, c216, c217, c218, c219, c220, c221, c222, c223, c224, c225, c226, c227, c228, c229, c230, c231, c232, c233, c234, c235, c236, c237, c238, c239, c240, c241, c242, c243], []⟩ wr := by
  have hin : (k : Int) < (n : Int) := by omega
  have hkr : k < rows.length := by omega
  have hx : rows[k]? = some rows[k] := by simp [hkr]
  have hxs := hsmall.out rows[k] (List.getElem_mem hkr)
  have e1 : w1.cell? ⟨gr, k, none⟩ = some (.string rows[k]) := by
    have := hrow.out k rows[k] hx
    simpa using this
  have d1 := (H.out.bel.cell (p := ⟨gr, k, none⟩) (by omega)).trans e1
  have hglt : gr < wr.heap.size := by have := H.out.bel.size; omega
  generalize rows[k] = x at *
  dsimp only
  refine wpL_step (fun K hK => ?_)
  have HK := hide hK
  clear hK
  conv => arg 2; whnf
  go_wp2_with (first | (go_at_call 13; refine (cut_any x 32 _ hxs).mono ?_; rintro e w2 ⟨gw, capw, nw, c, r, rfl, HS, how, hrl, h1, h2, B2⟩; have hnw : r.length + 1 = nw := (by omega); obtain ⟨hww, hcap, hgw⟩ := own_words2 how (by simpa using hnw); obtain ⟨e0, _, _⟩ := hww.head; have HWW := hide hww; clear hww; dsimp only))
  refine HK.out _ _ ?_
  clear HK
  refine wpL_step (fun K hK => ?_)
  have HK := hide hK
  clear hK
  conv => arg 2; whnf
  go_wp2_with fail
  refine HK.out _ _ ?_
  clear HK
  exact hK.out gw nw capw x c r w2 _ _ _ _ _ _ _ _ _ _ _ _ _ _ _ _ _ _ _ _ _ _ _ _ _ _ _ _ _ _ _ _ _ _ _ _ _ _ _ _ _ _ _ _ _ _ _ _ _ _ _ _ _ _ _ _ _ _ _ _ _ _ _ _ _ _ _ _ _ _ _ _ _ _ _ _ _ _ _ _ _ _ _ _ _ _ _ _ _ _ _ _ _ _ _ _ _ _ _ _ _ _ _ _ _ _ _ _ _ _ _ _ _ _ _ _ _ _ _ _ _ _ _ _ _ _ _ _ _ _ _ _ _ _ _ _ _ _ _ _ _ _ _ _ _ _ _ _ _ _ _ _ _ _ _ _ _ _ _ _ _ _ _ _ _ _ _ _ _ _ _ _ _ _ _ _ _ _ _ _ _ _ _ _ _ _ _ _ _ _ _ _ _ _ _ _ _ _ _ _ _ _ _ _ _ _ _ _ _ _ _ _ _ _ _ _ _ _ _ _ _ _ _ _ _ _ _ _ _ _ _ _ _ _ _ hx HS.out HWW.out hnw hcap h2 hgw B2
end Go.Proofs.YtpkjmdcabdplfaaGreatDoor

namespace Go.Proofs.YtpkjmdcabdplfaaGreatDoor
open Go Go.RowKit
set_option maxRecDepth 100000

theorem Tryz.infoTh : (Tryz.prog.info? 46).map (fun i => (i.zero, i.size, i.bytes)) = some (some (.agg #[.int .i64 0, .slice none 0 0, .int .i64 0]), 3, 40) := by kernel_rfl
theorem Tryz.infoFr : (Tryz.prog.info? 51).map (fun i => (i.zero, i.size, i.bytes)) = some (some (.agg (#[.slice none 0 0] ++ lnCells R.z0 (.slice none 0 0))), 10, 144) := by kernel_rfl

theorem LnAt.setBody {w : World} {g : Nat} {x : R.Lh} {bv : Value} (h : LnAt w g x bv) (u : Value) : LnAt (w.setCell ⟨g, 8, none⟩ u) g x u := by
  unfold LnAt at *; rw [setCell_block h]; rfl

theorem wp_opq {P : Program} {c : Code} {K : Act → World → Prop} {Q1 : Exit → Act → World → Prop} {a : Act} {w : World} (h : ∀ Q : Exit → Act → World → Prop, (∀ a w, K a w → Q .normal a w) → Code.wp P c Q a w) : Code.wp P c (Exit.then K Q1) a w := h _ (fun _ _ h => h)

theorem ln_load {w : World} {g : Nat} {x : R.Lh} {bv : Value} (h : LnAt w g x bv) : (loadVar 49 ⟨g, 0, none⟩).run Tryz.prog w = .ok (.agg (lnCells x bv)) w :=
  run_loadVar_row w g _ _ _ h _ Tryz.underlying49 rfl (by kernel_rfl)
end Go.Proofs.YtpkjmdcabdplfaaGreatDoor
