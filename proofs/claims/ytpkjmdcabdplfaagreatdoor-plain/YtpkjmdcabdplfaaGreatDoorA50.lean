import Derived.Test.YtpkjmdcabdplfaaGreatDoorA49
set_option linter.unusedVariables false
set_option linter.unusedSimpArgs false
namespace Go.Proofs.YtpkjmdcabdplfaaGreatDoor
open Go Go.RowKit
set_option maxRecDepth 100000

namespace R
theorem read_long (l : List UInt8) (h : 2000 < l.length) : read l = ([], 1, 0) := by unfold read; rw [if_pos h]
theorem read_bad (l : List UInt8) (n : Int) (h : ¬ 2000 < l.length) (hr : run St.zero 0 (P.splitAt 10 l).dropLast = (none, n)) : read l = ([], 2, n) := by unfold read; rw [if_neg h, hr]
theorem read_end (l : List UInt8) (st : St) (n : Int) (h : ¬ 2000 < l.length) (hr : run St.zero 0 (P.splitAt 10 l).dropLast = (some st, n)) (hc : (P.splitAt 10 l).getLast? ≠ some [] ∨ n = 0 ∨ st.opn ≠ []) : read l = ([], 2, n + 1) := by
  unfold read; rw [if_neg h, hr]; simp only []; rw [if_pos hc]
theorem read_in (l : List UInt8) (st : St) (n : Int) (h : ¬ 2000 < l.length) (hr : run St.zero 0 (P.splitAt 10 l).dropLast = (some st, n)) (hc : ¬ ((P.splitAt 10 l).getLast? ≠ some [] ∨ n = 0 ∨ st.opn ≠ [])) : read l = if 0 < (if st.inner == 0 then uneven st.ts else st.inner) then ([], 3, if st.inner == 0 then uneven st.ts else st.inner) else if within st.ts then (st.ts, 0, 0) else ([], 4, 0) := by
  unfold read; rw [if_neg h, hr]; simp only []; rw [if_neg hc]
theorem split_small (c : UInt8) (l : List UInt8) : ∀ y ∈ P.splitAt c l, y.length ≤ l.length := by
  induction l with
  | nil => intro y hy; simp [P.splitAt] at hy; simp [hy]
  | cons a r ih =>
    intro y hy
    unfold P.splitAt at hy
    split at hy
    · simp at hy
      rcases hy with rfl | hy
      · simp
      · have := ih y hy; simp; omega
    · split at hy
      · rename_i hh tt hx
        simp at hy
        rcases hy with rfl | hy
        · have := ih hh (by rw [hx]; simp); simp; omega
        · have := ih y (by rw [hx]; simp [hy]); simp; omega
      · simp at hy
        rw [hy]; simp
end R

def ReadPost (s : ByteArray) (w : World) (e : Ending) (w' : World) : Prop :=
  ∃ tv, e = .returned (.tuple #[tv, .int .i64 (R.read s.toList).2.1, .int .i64 (R.read s.toList).2.2]) ∧ ((R.read s.toList).2.1 = 0 → ∃ bt cap B vs Fs, tv = .slice (some ⟨bt, 0, none⟩) (R.read s.toList).1.length cap ∧ ThsAt w' B tv (R.read s.toList).1 vs Fs) ∧ (∃ a q cc, tv = .slice a q cc) ∧ Below w.heap.size w w'

set_option maxHeartbeats 3200000 in
theorem read_any_long (s : ByteArray) (w : World) (h : 2000 < s.size) : Calls Tryz.prog 7 #[.string s] w (ReadPost s w) := by
  have HE := hide (R.read_long s.toList (by rw [size_toList]; exact h))
  have h' : (2000 : Int) < (s.size : Int) := by omega
  go_enter Tryz.func7, Tryz.ntmps7
  go_wp2
  go_ret3
  refine ⟨.slice none 0 0, by rw [HE.out]; rfl, fun h0 => by rw [HE.out] at h0; simp at h0, ⟨none, 0, 0, rfl⟩, Below.refl _ _⟩

set_option maxRecDepth 1000000 in
set_option maxHeartbeats 12800000 in
theorem read_any (s : ByteArray) (w : World) (hs : s.size ≤ 8192) : Calls Tryz.prog 7 #[.string s] w (ReadPost s w) := by
  by_cases h2 : 2000 < s.size
  · exact read_any_long s w h2
  have h2' : ¬ (2000 : Int) < (s.size : Int) := by omega
  have hl2 : ¬ 2000 < s.toList.length := by rw [size_toList]; exact h2
  go_enter Tryz.func7, Tryz.ntmps7
  go_wp2_with (first | (go_at_call 13; refine (cut_any s 10 _ hs).mono ?_; rintro e w1 ⟨gr, capr, nr, d, rs, rfl, HS, how, hrl, h1, hn2, B1⟩; obtain ⟨n, rfl⟩ : ∃ n, nr = n + 1 := ⟨nr - 1, (by omega)⟩; have HOW := hide how; clear how; have hnn : ((n + 1 : Nat) : Int) - 1 = (n : Int) := (by omega); dsimp only))
  have hrl' : rs.length = n := by omega
  obtain ⟨hrow, hcap, hgr⟩ := own_words2 HOW.out (by simpa using hrl')
  have hrow' : ∀ (i : Nat) (y : ByteArray), (d :: rs)[i]? = some y → w1.cell? ⟨gr, i, none⟩ = some (.string y) := fun i y hy => by have := hrow i y hy; simpa using this
  have HROW := hide hrow'
  have hmap : (d :: rs).map ByteArray.toList = P.splitAt 10 s.toList := by rw [← HS.out]; rfl
  have hlen : (d :: rs).length = n + 1 := by simp [hrl']
  have hdl : ((d :: rs).map ByteArray.toList).take n = (P.splitAt 10 s.toList).dropLast := by
    rw [← hmap, List.dropLast_eq_take, List.length_map, hlen]; rfl
  have HDL := hide hdl
  have hsm : ∀ x ∈ d :: rs, x.size ≤ 8192 := fun x hx => by
    have h3 := R.split_small 10 s.toList x.toList (by rw [← hmap]; exact List.mem_map_of_mem hx)
    rw [size_toList, size_toList] at h3
    omega
  have HSM := hide hsm
  have HLAST : Hid (∀ y, (d :: rs)[n]? = some y → (P.splitAt 10 s.toList).getLast? = some y.toList) := fun y hy => by
    rw [← hmap, List.getLast?_eq_getElem?, List.length_map, hlen, List.getElem?_map]
    simp only [Nat.add_sub_cancel]
    rw [hy]; rfl
  have hW := hide hrow
  clear hrow hrow' hmap hdl hsm
  refine RdLoop w1 w1.heap.size (d :: rs) n gr capr (by omega) hlen hW hgr rfl HSM _ _ _ _ ?hI ?hX ?hE
  case hI =>
    unfold RI
    exact ⟨0, R.St.zero, none, none, 0, 0, [], [], [], _, _, _, _, _, _, _, _, _, _, _, _, _, _, _, _, _, _, _, _, _, _, _, _, _, _, _, _, _, _, _, _, _, _, _, _, _, _, _, _, _, _, _, _, _, _, _, _, _, _, _, _, _, _, _, _, _, _, _, _, _, _, _, _, _, _, _, _, _, _, _, _, _, _, _, _, _, _, _, _, _, _, _, _, _, _, _, _, _, _, _, _, _, _, _, _, _, _, _, _, _, _, _, _, _, _, _, _, _, _, _, _, _, _, _, _, _, _, _, _, _, _, _, _, _, _, _, _, _, _, _, _, _, _, _, _, _, _, _, _, _, _, _, _, _, _, _, _, _, _, _, _, _, _, _, _, _, _, _, _, _, _, _, _, _, _, _, _, _, _, _, _, _, _, _, _, _, _, _, _, _, _, _, _, _, _, _, _, _, _, _, _, _, _, _, _, _, _, _, _, _, _, _, _, _, _, _, _, _, _, _, _, _, _, _, _, _, _, _, _, _, _, _, _, _, _, _, _, _, _, _, _, _, _, _, _, _, ⟨Nat.zero_le _, ⟨RdM.zero _ _, R.SzS.zero, by simp, fun h => by omega, by simp [R.St.zero], by simp [R.St.zero], Below.refl _ _⟩⟩, rfl⟩
  case hE =>
    intro k c0 c1 v5 v6 v7 v8 v9 v10 v11 v12 v13 v14 v15 v16 v17 v18 v19 v20 v21 v22 v23 v24 v25 v26 v27 c28 c29 c30 c31 c32 c33 c34 c35 v36 v37 v38 v39 v40 v41 v42 v43 v44 v45 v46 v47 v48 v49 v50 v51 v52 v53 v54 v55 v56 v57 v58 v59 v60 v61 v62 v63 v64 v65 v66 v67 v68 v69 v70 v71 v72 v73 v74 v75 v76 v77 v78 v79 v80 v81 v82 v83 v84 v85 v86 v87 v88 v89 v90 v91 v92 v93 v94 v95 v96 v97 v98 v99 v100 v101 v102 v103 v104 v105 v106 v107 v108 v109 v110 v111 v112 v113 v114 v115 v116 v117 v118 v119 v120 v121 v122 v123 v124 v125 v126 v127 v128 v129 v130 v131 v132 v133 v134 v135 v136 v137 v138 v139 v140 v141 v142 v143 v144 v145 v146 v147 v148 v149 v150 v151 v152 v153 v154 v155 v156 v157 v158 v159 v160 v161 v162 v163 v164 v165 v166 v167 v168 v169 v170 v171 v172 v173 v174 v175 v176 v177 v178 v179 v180 v181 v182 v183 v184 v185 v186 v187 v188 v189 v190 v191 v192 v193 v194 v195 v196 v197 v198 v199 v200 v201 v202 v203 v204 v205 v206 v207 v208 v209 v210 v211 v212 v213 v214 v215 c216 c217 c218 c219 c220 c221 c222 c223 c224 c225 c226 c227 c228 c229 c230 c231 c232 c233 c234 c235 c236 c237 c238 c239 c240 c241 c242 c243 w3 hrun hb
    have HE := hide (R.read_bad s.toList _ hl2 (by rw [← HDL.out]; exact hrun))
    clear hrun
    simp only [Exit.inBlock, Exit.then]
    go_ret3
    exact ⟨.slice none 0 0, by rw [HE.out]; rfl, fun h0 => by rw [HE.out] at h0; simp at h0, ⟨none, 0, 0, rfl⟩, B1.trans (hb.mono B1.size)⟩
  case hX =>
    intro st ta oa tc oc tvs ovs G c0 c1 c2 c3 c4 v12 v13 v14 v15 v16 v17 v18 v19 v20 v21 v22 v23 v24 v25 v26 v27 c28 c29 c30 c31 c32 c33 c34 c35 v36 v37 v38 v39 v40 v41 v42 v43 v44 v45 v46 v47 v48 v49 v50 v51 v52 v53 v54 v55 v56 v57 v58 v59 v60 v61 v62 v63 v64 v65 v66 v67 v68 v69 v70 v71 v72 v73 v74 v75 v76 v77 v78 v79 v80 v81 v82 v83 v84 v85 v86 v87 v88 v89 v90 v91 v92 v93 v94 v95 v96 v97 v98 v99 v100 v101 v102 v103 v104 v105 v106 v107 v108 v109 v110 v111 v112 v113 v114 v115 v116 v117 v118 v119 v120 v121 v122 v123 v124 v125 v126 v127 v128 v129 v130 v131 v132 v133 v134 v135 v136 v137 v138 v139 v140 v141 v142 v143 v144 v145 v146 v147 v148 v149 v150 v151 v152 v153 v154 v155 v156 v157 v158 v159 v160 v161 v162 v163 v164 v165 v166 v167 v168 v169 v170 v171 v172 v173 v174 v175 v176 v177 v178 v179 v180 v181 v182 v183 v184 v185 v186 v187 v188 v189 v190 v191 v192 v193 v194 v195 v196 v197 v198 v199 v200 v201 v202 v203 v204 v205 v206 v207 v208 v209 v210 v211 v212 v213 v214 v215 c216 c217 c218 c219 c220 c221 c222 c223 c224 c225 c226 c227 c228 c229 c230 c231 c232 c233 c234 c235 c236 c237 c238 c239 c240 c241 c242 c243 wr hRS
    have HRS := hide hRS
    have hrun : R.run R.St.zero 0 (P.splitAt 10 s.toList).dropLast = (some st, (n : Int)) := by
      rw [← HDL.out, hRS.run, List.drop_eq_nil_of_le (by simp; omega)]
      rfl
    have HRUN := hide hrun
    have hy : (d :: rs)[n]? = some (d :: rs)[n] := by simp [hrl']
    have hd := (hRS.bel.cell (p := ⟨gr, n, none⟩) hgr).trans (HROW.out n _ hy)
    have hlast := HLAST.out _ hy
    have hglt : gr < wr.heap.size := by have := hRS.bel.size; omega
    have hnl : (n : Int) < (n : Int) + 1 := by omega
    have q1 := hRS.sz.nth
    have q2 := hRS.sz.nop
    have hin0 := hRS.in0
    have hin1 := hRS.in1
    have hBB : Below w.heap.size w wr := B1.trans (hRS.bel.mono B1.size)
    generalize (d :: rs)[n] = y at *
    clear hrun hRS hy
    cases hye : y.toList.isEmpty
    · have HE := hide (R.read_end s.toList st n hl2 HRUN.out (Or.inl (by rw [hlast]; simpa using hye)))
      have hyb : (y.toList == []) = false := by cases h : y.toList <;> simp_all
      clear HRS
      go_wp2
      go_ret3
      exact ⟨.slice none 0 0, by rw [HE.out]; rfl, fun h0 => by rw [HE.out] at h0; simp at h0, ⟨none, 0, 0, rfl⟩, hBB⟩
    · have hyn : y.toList = [] := by simpa using hye
      have hyb : (y.toList == []) = true := by rw [hyn]; rfl
      rw [hyn] at hlast
      by_cases hn0 : n = 0
      · subst hn0
        have HE := hide (R.read_end s.toList st _ hl2 HRUN.out (Or.inr (Or.inl rfl)))
        clear HRS hlast hyn
        go_wp2
        go_ret3
        exact ⟨.slice none 0 0, by rw [HE.out]; rfl, fun h0 => by rw [HE.out] at h0; simp at h0, ⟨none, 0, 0, rfl⟩, hBB⟩
      have hnb : ((n : Int) == 0) = false := by simp; omega
      by_cases ho : st.opn = []
      rotate_left
      · have HE := hide (R.read_end s.toList st _ hl2 HRUN.out (Or.inr (Or.inr ho)))
        have hol := List.length_pos_iff.2 ho
        have hol' : (0 : Int) < (st.opn.length : Int) := by omega
        clear HRS hlast hyn ho
        go_wp2
        go_ret3
        exact ⟨.slice none 0 0, by rw [HE.out]; rfl, fun h0 => by rw [HE.out] at h0; simp at h0, ⟨none, 0, 0, rfl⟩, hBB⟩
      have HO := hide ho
      have hol : ¬ (0 : Int) < (st.opn.length : Int) := by rw [ho]; decide
      have HC := hide (R.read_in s.toList st _ hl2 HRUN.out (by rw [hlast, ho]; simp; omega))
      have hts := HRS.out.pos (by omega)
      have hmem := HRS.out.mem
      rw [ho] at hmem
      obtain ⟨Fs, hT⟩ := hmem.done
      obtain ⟨bt, cap, he, _, hbt⟩ := hT.own.form (List.length_pos_iff.2 hts)
      simp only [Value.slice.injEq, true_and] at he
      obtain ⟨rfl, rfl⟩ := he
      have HT := hide hT
      have hall := hide HRS.out.sz.all
      have hblk := hide HRS.out.sz.blk
      clear hmem hT HRS hlast hyn ho HRUN hts
      by_cases hi : st.inner = 0
      rotate_left
      · have hib : (st.inner == 0) = false := by simpa using hi
        have hip : 0 < st.inner := by omega
        have HE : Hid (R.read s.toList = ([], 3, st.inner)) := by unfold Hid; rw [HC.out, hib]; simp [hip]
        clear HT HC
        go_wp2
        go_ret3
        exact ⟨.slice none 0 0, by rw [HE.out]; rfl, fun h0 => by rw [HE.out] at h0; simp at h0, ⟨none, 0, 0, rfl⟩, hBB⟩
      have hib : (st.inner == 0) = true := by simpa using hi
      have UN : Hid (Calls Tryz.prog 17 #[.slice (some ⟨bt, 0, none⟩) st.ts.length tc] wr fun e w' => e = .returned (.int .i64 (R.uneven st.ts)) ∧ Below wr.heap.size wr w') := unevenR_any w1.heap.size bt st.ts.length tc st.ts tvs Fs wr HT.out rfl (by omega) (fun t ht => by have := hall.out t ht; omega) hblk.out
      by_cases hu : 0 < R.uneven st.ts
      · have HE : Hid (R.read s.toList = ([], 3, R.uneven st.ts)) := by unfold Hid; rw [HC.out, hib]; simp [hu]
        clear HT HC hall hblk
        go_wp2_with (first | (go_at_call 17; refine UN.out.mono ?_; rintro e w3 ⟨rfl, hb3⟩; have hB3 : Below w.heap.size w w3 := hBB.trans (hb3.mono hBB.size); dsimp only))
        go_ret3
        exact ⟨.slice none 0 0, by rw [HE.out]; rfl, fun h0 => by rw [HE.out] at h0; simp at h0, ⟨none, 0, 0, rfl⟩, hB3⟩
      have WI : Hid (∀ w3 : World, Below wr.heap.size wr w3 → Calls Tryz.prog 18 #[.slice (some ⟨bt, 0, none⟩) st.ts.length tc] w3 fun e w' => e = .returned (.bool (R.within st.ts)) ∧ Below w3.heap.size w3 w') := fun w3 hb3 => within_any w1.heap.size bt st.ts.length tc st.ts tvs Fs w3 (HT.out.keep (fun j hj => hb3.block j hj)) rfl (by omega) (fun t ht => by have := hall.out t ht; omega)
      cases hwi : R.within st.ts
      · have HE : Hid (R.read s.toList = ([], 4, 0)) := by unfold Hid; rw [HC.out, hib]; simp [hu, hwi]
        clear HT HC hall hblk
        go_wp2_with (first
          | (go_at_call 17; refine UN.out.mono ?_; rintro e w3 ⟨rfl, hb3⟩; have hB3 : Below w.heap.size w w3 := hBB.trans (hb3.mono hBB.size); dsimp only)
          | (go_at_call 18; refine (WI.out _ hb3).mono ?_; rw [hwi]; rintro e w4 ⟨rfl, hb4⟩; have hB4 : Below w.heap.size w w4 := hB3.trans (hb4.mono hB3.size); dsimp only))
        go_ret3
        exact ⟨.slice none 0 0, by rw [HE.out]; rfl, fun h0 => by rw [HE.out] at h0; simp at h0, ⟨none, 0, 0, rfl⟩, hB4⟩
      · have HE : Hid (R.read s.toList = (st.ts, 0, 0)) := by unfold Hid; rw [HC.out, hib]; simp [hu, hwi]
        clear HC hall hblk
        go_wp2_with (first
          | (go_at_call 17; refine UN.out.mono ?_; rintro e w3 ⟨rfl, hb3⟩; have hB3 : Below w.heap.size w w3 := hBB.trans (hb3.mono hBB.size); dsimp only)
          | (go_at_call 18; refine (WI.out _ hb3).mono ?_; rw [hwi]; rintro e w4 ⟨rfl, hb4⟩; have hB4 : Below w.heap.size w w4 := hB3.trans (hb4.mono hB3.size); have HT4 := hide ((HT.out.keep (w' := w3) (fun j hj => hb3.block j hj)).keep (w' := w4) (fun j hj => hb4.block j hj)); dsimp only))
        go_ret3
        exact ⟨.slice (some ⟨bt, 0, none⟩) st.ts.length tc, by rw [HE.out]; rfl, fun _ => ⟨bt, tc, w1.heap.size, tvs, Fs, by rw [HE.out], by rw [HE.out]; exact HT4.out⟩, ⟨_, _, _, rfl⟩, hB4⟩
end Go.Proofs.YtpkjmdcabdplfaaGreatDoor
