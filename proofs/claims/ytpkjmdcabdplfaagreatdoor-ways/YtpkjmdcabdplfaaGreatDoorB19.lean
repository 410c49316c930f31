import Derived.Test.YtpkjmdcabdplfaaGreatDoorB18
set_option linter.unusedVariables false
set_option linter.unusedSimpArgs false
namespace Go.Proofs.YtpkjmdcabdplfaaGreatDoor
open Go Go.RowKit
set_option maxRecDepth 100000
set_option maxRecDepth 1000000 in
set_option maxHeartbeats 12800000 in
def RI (w1:World) (B:Nat) (rows:List ByteArray) (n gr capr:Nat) (a:Act) (w':World):Prop :=
 ∃ (k:Nat) (s:R.St) (ta oa:Option Addr) (tc oc:Nat) (tvs ovs:List Value) (G:List Nat),∃ c0 c1 c2 c3 c4 v12 v13 v14 v15 v16 v17 v18 v19 v20 v21 v22 v23 v24 v25 v26 v27 c28 c29 c30 c31 c32 c33 c34 c35 v36 v37 v38 v39 v40 v41 v42 v43 v44 v45 v46 v47 v48 v49 v50 v51 v52 v53 v54 v55 v56 v57 v58 v59 v60 v61 v62 v63 v64 v65 v66 v67 v68 v69 v70 v71 v72 v73 v74 v75 v76 v77 v78 v79 v80 v81 v82 v83 v84 v85 v86 v87 v88 v89 v90 v91 v92 v93 v94 v95 v96 v97 v98 v99 v100 v101 v102 v103 v104 v105 v106 v107 v108 v109 v110 v111 v112 v113 v114 v115 v116 v117 v118 v119 v120 v121 v122 v123 v124 v125 v126 v127 v128 v129 v130 v131 v132 v133 v134 v135 v136 v137 v138 v139 v140 v141 v142 v143 v144 v145 v146 v147 v148 v149 v150 v151 v152 v153 v154 v155 v156 v157 v158 v159 v160 v161 v162 v163 v164 v165 v166 v167 v168 v169 v170 v171 v172 v173 v174 v175 v176 v177 v178 v179 v180 v181 v182 v183 v184 v185 v186 v187 v188 v189 v190 v191 v192 v193 v194 v195 v196 v197 v198 v199 v200 v201 v202 v203 v204 v205 v206 v207 v208 v209 v210 v211 v212 v213 v214 v215 c216 c217 c218 c219 c220 c221 c222 c223 c224 c225 c226 c227 c228 c229 c230 c231 c232 c233 c234 c235 c236 c237 c238 c239 c240 c241 c242 c243:Value,(k≤n∧RS w1 B rows n k s (.slice ta s.ts.length tc) (.slice oa s.opn.length oc) tvs ovs G w')∧a=⟨#[c0,c1,c2,c3,c4,.slice (some ⟨gr,0,none⟩) (n+1) capr,.int .i64 (n:Int),.slice ta s.ts.length tc,.slice oa s.opn.length oc,.int .i64 s.count,.int .i64 s.inner,.int .i64 (k:Int),v12,v13,v14,v15,v16,v17,v18,v19,v20,v21,v22,v23,v24,v25,v26,v27,c28,c29,c30,c31,c32,c33,c34,c35,v36,v37,v38,v39,v40,v41,v42,v43,v44,v45,v46,v47,v48,v49,v50,v51,v52,v53,v54,v55,v56,v57,v58,v59,v60,v61,v62,v63,v64,v65,v66,v67,v68,v69,v70,v71,v72,v73,v74,v75,v76,v77,v78,v79,v80,v81,v82,v83,v84,v85,v86,v87,v88,v89,v90,v91,v92,v93,v94,v95,v96,v97,v98,v99,v100,v101,v102,v103,v104,v105,v106,v107,v108,v109,v110,v111,v112,v113,v114,v115,v116,v117,v118,v119,v120,v121,v122,v123,v124,v125,v126,v127,v128,v129,v130,v131,v132,v133,v134,v135,v136,v137,v138,v139,v140,v141,v142,v143,v144,v145,v146,v147,v148,v149,v150,v151,v152,v153,v154,v155,v156,v157,v158,v159,v160,v161,v162,v163,v164,v165,v166,v167,v168,v169,v170,v171,v172,v173,v174,v175,v176,v177,v178,v179,v180,v181,v182,v183,v184,v185,v186,v187,v188,v189,v190,v191,v192,v193,v194,v195,v196,v197,v198,v199,v200,v201,v202,v203,v204,v205,v206,v207,v208,v209,v210,v211,v212,v213,v214,v215,c216,c217,c218,c219,c220,c221,c222,c223,c224,c225,c226,c227,c228,c229,c230,c231,c232,c233,c234,c235,c236,c237,c238,c239,c240,c241,c242,c243],[]⟩
def RM (n:Nat) (a:Act) (_:World):Nat:=n-(intOf (a.tmps.getD 11 undef)).toNat
set_option maxRecDepth 1000000 in
set_option maxHeartbeats 12800000 in
theorem RdOut (n gr capr:Nat) (s:R.St) (ta oa:Option Addr) (tc oc:Nat) (wr:World) (hn:n<10000) (PP:Act→World→Prop) (Q0:Exit→Act→World→Prop) (c0 c1 c2 c3 c4 v12 v13 v14 v15 v16 v17 v18 v19 v20 v21 v22 v23 v24 v25 v26 v27 c28 c29 c30 c31 c32 c33 c34 c35 v36 v37 v38 v39 v40 v41 v42 v43 v44 v45 v46 v47 v48 v49 v50 v51 v52 v53 v54 v55 v56 v57 v58 v59 v60 v61 v62 v63 v64 v65 v66 v67 v68 v69 v70 v71 v72 v73 v74 v75 v76 v77 v78 v79 v80 v81 v82 v83 v84 v85 v86 v87 v88 v89 v90 v91 v92 v93 v94 v95 v96 v97 v98 v99 v100 v101 v102 v103 v104 v105 v106 v107 v108 v109 v110 v111 v112 v113 v114 v115 v116 v117 v118 v119 v120 v121 v122 v123 v124 v125 v126 v127 v128 v129 v130 v131 v132 v133 v134 v135 v136 v137 v138 v139 v140 v141 v142 v143 v144 v145 v146 v147 v148 v149 v150 v151 v152 v153 v154 v155 v156 v157 v158 v159 v160 v161 v162 v163 v164 v165 v166 v167 v168 v169 v170 v171 v172 v173 v174 v175 v176 v177 v178 v179 v180 v181 v182 v183 v184 v185 v186 v187 v188 v189 v190 v191 v192 v193 v194 v195 v196 v197 v198 v199 v200 v201 v202 v203 v204 v205 v206 v207 v208 v209 v210 v211 v212 v213 v214 v215 c216 c217 c218 c219 c220 c221 c222 c223 c224 c225 c226 c227 c228 c229 c230 c231 c232 c233 c234 c235 c236 c237 c238 c239 c240 c241 c242 c243:Value)
  (hX:Hid (∀ (c0 c1 c2 c3 c4 v12 v13 v14 v15 v16 v17 v18 v19 v20 v21 v22 v23 v24 v25 v26 v27 c28 c29 c30 c31 c32 c33 c34 c35 v36 v37 v38 v39 v40 v41 v42 v43 v44 v45 v46 v47 v48 v49 v50 v51 v52 v53 v54 v55 v56 v57 v58 v59 v60 v61 v62 v63 v64 v65 v66 v67 v68 v69 v70 v71 v72 v73 v74 v75 v76 v77 v78 v79 v80 v81 v82 v83 v84 v85 v86 v87 v88 v89 v90 v91 v92 v93 v94 v95 v96 v97 v98 v99 v100 v101 v102 v103 v104 v105 v106 v107 v108 v109 v110 v111 v112 v113 v114 v115 v116 v117 v118 v119 v120 v121 v122 v123 v124 v125 v126 v127 v128 v129 v130 v131 v132 v133 v134 v135 v136 v137 v138 v139 v140 v141 v142 v143 v144 v145 v146 v147 v148 v149 v150 v151 v152 v153 v154 v155 v156 v157 v158 v159 v160 v161 v162 v163 v164 v165 v166 v167 v168 v169 v170 v171 v172 v173 v174 v175 v176 v177 v178 v179 v180 v181 v182 v183 v184 v185 v186 v187 v188 v189 v190 v191 v192 v193 v194 v195 v196 v197 v198 v199 v200 v201 v202 v203 v204 v205 v206 v207 v208 v209 v210 v211 v212 v213 v214 v215 c216 c217 c218 c219 c220 c221 c222 c223 c224 c225 c226 c227 c228 c229 c230 c231 c232 c233 c234 c235 c236 c237 c238 c239 c240 c241 c242 c243:Value),Q0 (.exit 0) ⟨#[c0,c1,c2,c3,c4,.slice (some ⟨gr,0,none⟩) (n+1) capr,.int .i64 (n:Int),.slice ta s.ts.length tc,.slice oa s.opn.length oc,.int .i64 s.count,.int .i64 s.inner,.int .i64 (n:Int),v12,v13,v14,v15,v16,v17,v18,v19,v20,v21,v22,v23,v24,v25,v26,v27,c28,c29,c30,c31,c32,c33,c34,c35,v36,v37,v38,v39,v40,v41,v42,v43,v44,v45,v46,v47,v48,v49,v50,v51,v52,v53,v54,v55,v56,v57,v58,v59,v60,v61,v62,v63,v64,v65,v66,v67,v68,v69,v70,v71,v72,v73,v74,v75,v76,v77,v78,v79,v80,v81,v82,v83,v84,v85,v86,v87,v88,v89,v90,v91,v92,v93,v94,v95,v96,v97,v98,v99,v100,v101,v102,v103,v104,v105,v106,v107,v108,v109,v110,v111,v112,v113,v114,v115,v116,v117,v118,v119,v120,v121,v122,v123,v124,v125,v126,v127,v128,v129,v130,v131,v132,v133,v134,v135,v136,v137,v138,v139,v140,v141,v142,v143,v144,v145,v146,v147,v148,v149,v150,v151,v152,v153,v154,v155,v156,v157,v158,v159,v160,v161,v162,v163,v164,v165,v166,v167,v168,v169,v170,v171,v172,v173,v174,v175,v176,v177,v178,v179,v180,v181,v182,v183,v184,v185,v186,v187,v188,v189,v190,v191,v192,v193,v194,v195,v196,v197,v198,v199,v200,v201,v202,v203,v204,v205,v206,v207,v208,v209,v210,v211,v212,v213,v214,v215,c216,c217,c218,c219,c220,c221,c222,c223,c224,c225,c226,c227,c228,c229,c230,c231,c232,c233,c234,c235,c236,c237,c238,c239,c240,c241,c242,c243],[]⟩ wr)):Code.wp Tryz.prog (bodyOf Tryz.f7) (Exit.then PP Q0) ⟨#[c0,c1,c2,c3,c4,.slice (some ⟨gr,0,none⟩) (n+1) capr,.int .i64 (n:Int),.slice ta s.ts.length tc,.slice oa s.opn.length oc,.int .i64 s.count,.int .i64 s.inner,.int .i64 (n:Int),v12,v13,v14,v15,v16,v17,v18,v19,v20,v21,v22,v23,v24,v25,v26,v27,c28,c29,c30,c31,c32,c33,c34,c35,v36,v37,v38,v39,v40,v41,v42,v43,v44,v45,v46,v47,v48,v49,v50,v51,v52,v53,v54,v55,v56,v57,v58,v59,v60,v61,v62,v63,v64,v65,v66,v67,v68,v69,v70,v71,v72,v73,v74,v75,v76,v77,v78,v79,v80,v81,v82,v83,v84,v85,v86,v87,v88,v89,v90,v91,v92,v93,v94,v95,v96,v97,v98,v99,v100,v101,v102,v103,v104,v105,v106,v107,v108,v109,v110,v111,v112,v113,v114,v115,v116,v117,v118,v119,v120,v121,v122,v123,v124,v125,v126,v127,v128,v129,v130,v131,v132,v133,v134,v135,v136,v137,v138,v139,v140,v141,v142,v143,v144,v145,v146,v147,v148,v149,v150,v151,v152,v153,v154,v155,v156,v157,v158,v159,v160,v161,v162,v163,v164,v165,v166,v167,v168,v169,v170,v171,v172,v173,v174,v175,v176,v177,v178,v179,v180,v181,v182,v183,v184,v185,v186,v187,v188,v189,v190,v191,v192,v193,v194,v195,v196,v197,v198,v199,v200,v201,v202,v203,v204,v205,v206,v207,v208,v209,v210,v211,v212,v213,v214,v215,c216,c217,c218,c219,c220,c221,c222,c223,c224,c225,c226,c227,c228,c229,c230,c231,c232,c233,c234,c235,c236,c237,c238,c239,c240,c241,c242,c243],[]⟩ wr:=by
 refine wp_flat _ _ _ _ ?_
 rw[readBody_flat]
 dsimp only
 refine wpL_step (fun K hK=>?_)
 have HK:=hide hK
 clear hK
 conv=>arg 2;whnf
 go_wp2_with fail
 refine HK.out _ _ ?_
 clear HK
 refine wpL_step (fun K hK=>?_)
 clear hK
 conv=>arg 2;whnf
 go_wp2_with fail
 exact hX.out _ _ _ _ _ _ _ _ _ _ _ _ _ _ _ _ _ _ _ _ _ _ _ _ _ _ _ _ _ _ _ _ _ _ _ _ _ _ _ _ _ _ _ _ _ _ _ _ _ _ _ _ _ _ _ _ _ _ _ _ _ _ _ _ _ _ _ _ _ _ _ _ _ _ _ _ _ _ _ _ _ _ _ _ _ _ _ _ _ _ _ _ _ _ _ _ _ _ _ _ _ _ _ _ _ _ _ _ _ _ _ _ _ _ _ _ _ _ _ _ _ _ _ _ _ _ _ _ _ _ _ _ _ _ _ _ _ _ _ _ _ _ _ _ _ _ _ _ _ _ _ _ _ _ _ _ _ _ _ _ _ _ _ _ _ _ _ _ _ _ _ _ _ _ _ _ _ _ _ _ _ _ _ _ _ _ _ _ _ _ _ _ _ _ _ _ _ _ _ _ _ _ _ _ _ _ _ _ _ _ _ _ _ _ _ _ _ _ _ _ _ _ _ _ _ _ _ _ _ _ _ _ _ _ _ _ _
set_option maxRecDepth 1000000 in
set_option maxHeartbeats 12800000 in
theorem RdLoop (w1:World) (B:Nat) (rows:List ByteArray) (n gr capr:Nat) (hn:n<10000) (hr:rows.length=n+1) (hrow:Hid (WordsAt w1 gr 0 rows)) (hgr:gr<B) (hBw:w1.heap.size=B) (hsmall:Hid (∀ x∈rows,x.size≤8192)) (K9:Act→World→Prop) (RR:Ending→World→Prop) (a0:Act) (w0:World) (hI:RI w1 B rows n gr capr a0 w0)
  (hX:Hid (∀ (s:R.St) (ta oa:Option Addr) (tc oc:Nat) (tvs ovs:List Value) (G:List Nat) (c0 c1 c2 c3 c4 v12 v13 v14 v15 v16 v17 v18 v19 v20 v21 v22 v23 v24 v25 v26 v27 c28 c29 c30 c31 c32 c33 c34 c35 v36 v37 v38 v39 v40 v41 v42 v43 v44 v45 v46 v47 v48 v49 v50 v51 v52 v53 v54 v55 v56 v57 v58 v59 v60 v61 v62 v63 v64 v65 v66 v67 v68 v69 v70 v71 v72 v73 v74 v75 v76 v77 v78 v79 v80 v81 v82 v83 v84 v85 v86 v87 v88 v89 v90 v91 v92 v93 v94 v95 v96 v97 v98 v99 v100 v101 v102 v103 v104 v105 v106 v107 v108 v109 v110 v111 v112 v113 v114 v115 v116 v117 v118 v119 v120 v121 v122 v123 v124 v125 v126 v127 v128 v129 v130 v131 v132 v133 v134 v135 v136 v137 v138 v139 v140 v141 v142 v143 v144 v145 v146 v147 v148 v149 v150 v151 v152 v153 v154 v155 v156 v157 v158 v159 v160 v161 v162 v163 v164 v165 v166 v167 v168 v169 v170 v171 v172 v173 v174 v175 v176 v177 v178 v179 v180 v181 v182 v183 v184 v185 v186 v187 v188 v189 v190 v191 v192 v193 v194 v195 v196 v197 v198 v199 v200 v201 v202 v203 v204 v205 v206 v207 v208 v209 v210 v211 v212 v213 v214 v215 c216 c217 c218 c219 c220 c221 c222 c223 c224 c225 c226 c227 c228 c229 c230 c231 c232 c233 c234 c235 c236 c237 c238 c239 c240 c241 c242 c243:Value) (wr:World),RS w1 B rows n n s (.slice ta s.ts.length tc) (.slice oa s.opn.length oc) tvs ovs G wr→(Exit.inBlock 0 (Exit.then K9 (bodyPost Tryz.prog Tryz.f7 RR))) (.exit 0) ⟨#[c0,c1,c2,c3,c4,.slice (some ⟨gr,0,none⟩) (n+1) capr,.int .i64 (n:Int),.slice ta s.ts.length tc,.slice oa s.opn.length oc,.int .i64 s.count,.int .i64 s.inner,.int .i64 (n:Int),v12,v13,v14,v15,v16,v17,v18,v19,v20,v21,v22,v23,v24,v25,v26,v27,c28,c29,c30,c31,c32,c33,c34,c35,v36,v37,v38,v39,v40,v41,v42,v43,v44,v45,v46,v47,v48,v49,v50,v51,v52,v53,v54,v55,v56,v57,v58,v59,v60,v61,v62,v63,v64,v65,v66,v67,v68,v69,v70,v71,v72,v73,v74,v75,v76,v77,v78,v79,v80,v81,v82,v83,v84,v85,v86,v87,v88,v89,v90,v91,v92,v93,v94,v95,v96,v97,v98,v99,v100,v101,v102,v103,v104,v105,v106,v107,v108,v109,v110,v111,v112,v113,v114,v115,v116,v117,v118,v119,v120,v121,v122,v123,v124,v125,v126,v127,v128,v129,v130,v131,v132,v133,v134,v135,v136,v137,v138,v139,v140,v141,v142,v143,v144,v145,v146,v147,v148,v149,v150,v151,v152,v153,v154,v155,v156,v157,v158,v159,v160,v161,v162,v163,v164,v165,v166,v167,v168,v169,v170,v171,v172,v173,v174,v175,v176,v177,v178,v179,v180,v181,v182,v183,v184,v185,v186,v187,v188,v189,v190,v191,v192,v193,v194,v195,v196,v197,v198,v199,v200,v201,v202,v203,v204,v205,v206,v207,v208,v209,v210,v211,v212,v213,v214,v215,c216,c217,c218,c219,c220,c221,c222,c223,c224,c225,c226,c227,c228,c229,c230,c231,c232,c233,c234,c235,c236,c237,c238,c239,c240,c241,c242,c243],[]⟩ wr))
  (hE:Hid (∀ (k:Nat) (c0 c1 v5 v6 v7 v8 v9 v10 v11 v12 v13 v14 v15 v16 v17 v18 v19 v20 v21 v22 v23 v24 v25 v26 v27 c28 c29 c30 c31 c32 c33 c34 c35 v36 v37 v38 v39 v40 v41 v42 v43 v44 v45 v46 v47 v48 v49 v50 v51 v52 v53 v54 v55 v56 v57 v58 v59 v60 v61 v62 v63 v64 v65 v66 v67 v68 v69 v70 v71 v72 v73 v74 v75 v76 v77 v78 v79 v80 v81 v82 v83 v84 v85 v86 v87 v88 v89 v90 v91 v92 v93 v94 v95 v96 v97 v98 v99 v100 v101 v102 v103 v104 v105 v106 v107 v108 v109 v110 v111 v112 v113 v114 v115 v116 v117 v118 v119 v120 v121 v122 v123 v124 v125 v126 v127 v128 v129 v130 v131 v132 v133 v134 v135 v136 v137 v138 v139 v140 v141 v142 v143 v144 v145 v146 v147 v148 v149 v150 v151 v152 v153 v154 v155 v156 v157 v158 v159 v160 v161 v162 v163 v164 v165 v166 v167 v168 v169 v170 v171 v172 v173 v174 v175 v176 v177 v178 v179 v180 v181 v182 v183 v184 v185 v186 v187 v188 v189 v190 v191 v192 v193 v194 v195 v196 v197 v198 v199 v200 v201 v202 v203 v204 v205 v206 v207 v208 v209 v210 v211 v212 v213 v214 v215 c216 c217 c218 c219 c220 c221 c222 c223 c224 c225 c226 c227 c228 c229 c230 c231 c232 c233 c234 c235 c236 c237 c238 c239 c240 c241 c242 c243:Value) (w3:World),R.run R.St.zero 0 ((rows.map ByteArray.toList).take n)=(none,(k:Int)+1)→Below B w1 w3→(Exit.inBlock 0 (Exit.then K9 (bodyPost Tryz.prog Tryz.f7 RR))) .ret ⟨#[c0,c1,.slice none 0 0,.int .i64 2,.int .i64 ((k:Int)+1),v5,v6,v7,v8,v9,v10,v11,v12,v13,v14,v15,v16,v17,v18,v19,v20,v21,v22,v23,v24,v25,v26,v27,c28,c29,c30,c31,c32,c33,c34,c35,v36,v37,v38,v39,v40,v41,v42,v43,v44,v45,v46,v47,v48,v49,v50,v51,v52,v53,v54,v55,v56,v57,v58,v59,v60,v61,v62,v63,v64,v65,v66,v67,v68,v69,v70,v71,v72,v73,v74,v75,v76,v77,v78,v79,v80,v81,v82,v83,v84,v85,v86,v87,v88,v89,v90,v91,v92,v93,v94,v95,v96,v97,v98,v99,v100,v101,v102,v103,v104,v105,v106,v107,v108,v109,v110,v111,v112,v113,v114,v115,v116,v117,v118,v119,v120,v121,v122,v123,v124,v125,v126,v127,v128,v129,v130,v131,v132,v133,v134,v135,v136,v137,v138,v139,v140,v141,v142,v143,v144,v145,v146,v147,v148,v149,v150,v151,v152,v153,v154,v155,v156,v157,v158,v159,v160,v161,v162,v163,v164,v165,v166,v167,v168,v169,v170,v171,v172,v173,v174,v175,v176,v177,v178,v179,v180,v181,v182,v183,v184,v185,v186,v187,v188,v189,v190,v191,v192,v193,v194,v195,v196,v197,v198,v199,v200,v201,v202,v203,v204,v205,v206,v207,v208,v209,v210,v211,v212,v213,v214,v215,c216,c217,c218,c219,c220,c221,c222,c223,c224,c225,c226,c227,c228,c229,c230,c231,c232,c233,c234,c235,c236,c237,c238,c239,c240,c241,c242,c243],[]⟩ w3)) :
  Code.wp Tryz.prog (Code.loop (bodyOf Tryz.f7)) (Exit.inBlock 0 (Exit.then K9 (bodyPost Tryz.prog Tryz.f7 RR))) a0 w0:=by
 refine wp_loop (RI w1 B rows n gr capr) (RM n) hI (fun a wr hL=>?_)
 unfold RI at hL
 obtain⟨k,s,ta,oa,tc,oc,tvs,ovs,G,hL⟩:=hL
 obtain⟨c0,hL⟩:=hL
 obtain⟨c1,hL⟩:=hL
 obtain⟨c2,hL⟩:=hL
 obtain⟨c3,hL⟩:=hL
 obtain⟨c4,hL⟩:=hL
 obtain⟨v12,hL⟩:=hL
 obtain⟨v13,hL⟩:=hL
 obtain⟨v14,hL⟩:=hL
 obtain⟨v15,hL⟩:=hL
 obtain⟨v16,hL⟩:=hL
 obtain⟨v17,hL⟩:=hL
 obtain⟨v18,hL⟩:=hL
 obtain⟨v19,hL⟩:=hL
 obtain⟨v20,hL⟩:=hL
 obtain⟨v21,hL⟩:=hL
 obtain⟨v22,hL⟩:=hL
 obtain⟨v23,hL⟩:=hL
 obtain⟨v24,hL⟩:=hL
 obtain⟨v25,hL⟩:=hL
 obtain⟨v26,hL⟩:=hL
 obtain⟨v27,hL⟩:=hL
 obtain⟨c28,hL⟩:=hL
 obtain⟨c29,hL⟩:=hL
 obtain⟨c30,hL⟩:=hL
 obtain⟨c31,hL⟩:=hL
 obtain⟨c32,hL⟩:=hL
 obtain⟨c33,hL⟩:=hL
 obtain⟨c34,hL⟩:=hL
 obtain⟨c35,hL⟩:=hL
 obtain⟨v36,hL⟩:=hL
 obtain⟨v37,hL⟩:=hL
 obtain⟨v38,hL⟩:=hL
 obtain⟨v39,hL⟩:=hL
 obtain⟨v40,hL⟩:=hL
 obtain⟨v41,hL⟩:=hL
 obtain⟨v42,hL⟩:=hL
 obtain⟨v43,hL⟩:=hL
 obtain⟨v44,hL⟩:=hL
 obtain⟨v45,hL⟩:=hL
 obtain⟨v46,hL⟩:=hL
 obtain⟨v47,hL⟩:=hL
 obtain⟨v48,hL⟩:=hL
 obtain⟨v49,hL⟩:=hL
 obtain⟨v50,hL⟩:=hL
 obtain⟨v51,hL⟩:=hL
 obtain⟨v52,hL⟩:=hL
 obtain⟨v53,hL⟩:=hL
 obtain⟨v54,hL⟩:=hL
 obtain⟨v55,hL⟩:=hL
 obtain⟨v56,hL⟩:=hL
 obtain⟨v57,hL⟩:=hL
 obtain⟨v58,hL⟩:=hL
 obtain⟨v59,hL⟩:=hL
 obtain⟨v60,hL⟩:=hL
 obtain⟨v61,hL⟩:=hL
 obtain⟨v62,hL⟩:=hL
 obtain⟨v63,hL⟩:=hL
 obtain⟨v64,hL⟩:=hL
 obtain⟨v65,hL⟩:=hL
 obtain⟨v66,hL⟩:=hL
 obtain⟨v67,hL⟩:=hL
 obtain⟨v68,hL⟩:=hL
 obtain⟨v69,hL⟩:=hL
 obtain⟨v70,hL⟩:=hL
 obtain⟨v71,hL⟩:=hL
 obtain⟨v72,hL⟩:=hL
 obtain⟨v73,hL⟩:=hL
 obtain⟨v74,hL⟩:=hL
 obtain⟨v75,hL⟩:=hL
 obtain⟨v76,hL⟩:=hL
 obtain⟨v77,hL⟩:=hL
 obtain⟨v78,hL⟩:=hL
 obtain⟨v79,hL⟩:=hL
 obtain⟨v80,hL⟩:=hL
 obtain⟨v81,hL⟩:=hL
 obtain⟨v82,hL⟩:=hL
 obtain⟨v83,hL⟩:=hL
 obtain⟨v84,hL⟩:=hL
 obtain⟨v85,hL⟩:=hL
 obtain⟨v86,hL⟩:=hL
 obtain⟨v87,hL⟩:=hL
 obtain⟨v88,hL⟩:=hL
 obtain⟨v89,hL⟩:=hL
 obtain⟨v90,hL⟩:=hL
 obtain⟨v91,hL⟩:=hL
 obtain⟨v92,hL⟩:=hL
 obtain⟨v93,hL⟩:=hL
 obtain⟨v94,hL⟩:=hL
 obtain⟨v95,hL⟩:=hL
 obtain⟨v96,hL⟩:=hL
 obtain⟨v97,hL⟩:=hL
 obtain⟨v98,hL⟩:=hL
 obtain⟨v99,hL⟩:=hL
 obtain⟨v100,hL⟩:=hL
 obtain⟨v101,hL⟩:=hL
 obtain⟨v102,hL⟩:=hL
 obtain⟨v103,hL⟩:=hL
 obtain⟨v104,hL⟩:=hL
 obtain⟨v105,hL⟩:=hL
 obtain⟨v106,hL⟩:=hL
 obtain⟨v107,hL⟩:=hL
 obtain⟨v108,hL⟩:=hL
 obtain⟨v109,hL⟩:=hL
 obtain⟨v110,hL⟩:=hL
 obtain⟨v111,hL⟩:=hL
 obtain⟨v112,hL⟩:=hL
 obtain⟨v113,hL⟩:=hL
 obtain⟨v114,hL⟩:=hL
 obtain⟨v115,hL⟩:=hL
 obtain⟨v116,hL⟩:=hL
 obtain⟨v117,hL⟩:=hL
 obtain⟨v118,hL⟩:=hL
 obtain⟨v119,hL⟩:=hL
 obtain⟨v120,hL⟩:=hL
 obtain⟨v121,hL⟩:=hL
 obtain⟨v122,hL⟩:=hL
 obtain⟨v123,hL⟩:=hL
 obtain⟨v124,hL⟩:=hL
 obtain⟨v125,hL⟩:=hL
 obtain⟨v126,hL⟩:=hL
 obtain⟨v127,hL⟩:=hL
 obtain⟨v128,hL⟩:=hL
 obtain⟨v129,hL⟩:=hL
 obtain⟨v130,hL⟩:=hL
 obtain⟨v131,hL⟩:=hL
 obtain⟨v132,hL⟩:=hL
 obtain⟨v133,hL⟩:=hL
 obtain⟨v134,hL⟩:=hL
 obtain⟨v135,hL⟩:=hL
 obtain⟨v136,hL⟩:=hL
 obtain⟨v137,hL⟩:=hL
 obtain⟨v138,hL⟩:=hL
 obtain⟨v139,hL⟩:=hL
 obtain⟨v140,hL⟩:=hL
 obtain⟨v141,hL⟩:=hL
 obtain⟨v142,hL⟩:=hL
 obtain⟨v143,hL⟩:=hL
 obtain⟨v144,hL⟩:=hL
 obtain⟨v145,hL⟩:=hL
 obtain⟨v146,hL⟩:=hL
 obtain⟨v147,hL⟩:=hL
 obtain⟨v148,hL⟩:=hL
 obtain⟨v149,hL⟩:=hL
 obtain⟨v150,hL⟩:=hL
 obtain⟨v151,hL⟩:=hL
 obtain⟨v152,hL⟩:=hL
 obtain⟨v153,hL⟩:=hL
 obtain⟨v154,hL⟩:=hL
 obtain⟨v155,hL⟩:=hL
 obtain⟨v156,hL⟩:=hL
 obtain⟨v157,hL⟩:=hL
 obtain⟨v158,hL⟩:=hL
 obtain⟨v159,hL⟩:=hL
 obtain⟨v160,hL⟩:=hL
 obtain⟨v161,hL⟩:=hL
 obtain⟨v162,hL⟩:=hL
 obtain⟨v163,hL⟩:=hL
 obtain⟨v164,hL⟩:=hL
 obtain⟨v165,hL⟩:=hL
 obtain⟨v166,hL⟩:=hL
 obtain⟨v167,hL⟩:=hL
 obtain⟨v168,hL⟩:=hL
 obtain⟨v169,hL⟩:=hL
 obtain⟨v170,hL⟩:=hL
 obtain⟨v171,hL⟩:=hL
 obtain⟨v172,hL⟩:=hL
 obtain⟨v173,hL⟩:=hL
 obtain⟨v174,hL⟩:=hL
 obtain⟨v175,hL⟩:=hL
 obtain⟨v176,hL⟩:=hL
 obtain⟨v177,hL⟩:=hL
 obtain⟨v178,hL⟩:=hL
 obtain⟨v179,hL⟩:=hL
 obtain⟨v180,hL⟩:=hL
 obtain⟨v181,hL⟩:=hL
 obtain⟨v182,hL⟩:=hL
 obtain⟨v183,hL⟩:=hL
 obtain⟨v184,hL⟩:=hL
 obtain⟨v185,hL⟩:=hL
 obtain⟨v186,hL⟩:=hL
 obtain⟨v187,hL⟩:=hL
 obtain⟨v188,hL⟩:=hL
 obtain⟨v189,hL⟩:=hL
 obtain⟨v190,hL⟩:=hL
 obtain⟨v191,hL⟩:=hL
 obtain⟨v192,hL⟩:=hL
 obtain⟨v193,hL⟩:=hL
 obtain⟨v194,hL⟩:=hL
 obtain⟨v195,hL⟩:=hL
 obtain⟨v196,hL⟩:=hL
 obtain⟨v197,hL⟩:=hL
 obtain⟨v198,hL⟩:=hL
 obtain⟨v199,hL⟩:=hL
 obtain⟨v200,hL⟩:=hL
 obtain⟨v201,hL⟩:=hL
 obtain⟨v202,hL⟩:=hL
 obtain⟨v203,hL⟩:=hL
 obtain⟨v204,hL⟩:=hL
 obtain⟨v205,hL⟩:=hL
 obtain⟨v206,hL⟩:=hL
 obtain⟨v207,hL⟩:=hL
 obtain⟨v208,hL⟩:=hL
 obtain⟨v209,hL⟩:=hL
 obtain⟨v210,hL⟩:=hL
 obtain⟨v211,hL⟩:=hL
 obtain⟨v212,hL⟩:=hL
 obtain⟨v213,hL⟩:=hL
 obtain⟨v214,hL⟩:=hL
 obtain⟨v215,hL⟩:=hL
 obtain⟨c216,hL⟩:=hL
 obtain⟨c217,hL⟩:=hL
 obtain⟨c218,hL⟩:=hL
 obtain⟨c219,hL⟩:=hL
 obtain⟨c220,hL⟩:=hL
 obtain⟨c221,hL⟩:=hL
 obtain⟨c222,hL⟩:=hL
 obtain⟨c223,hL⟩:=hL
 obtain⟨c224,hL⟩:=hL
 obtain⟨c225,hL⟩:=hL
 obtain⟨c226,hL⟩:=hL
 obtain⟨c227,hL⟩:=hL
 obtain⟨c228,hL⟩:=hL
 obtain⟨c229,hL⟩:=hL
 obtain⟨c230,hL⟩:=hL
 obtain⟨c231,hL⟩:=hL
 obtain⟨c232,hL⟩:=hL
 obtain⟨c233,hL⟩:=hL
 obtain⟨c234,hL⟩:=hL
 obtain⟨c235,hL⟩:=hL
 obtain⟨c236,hL⟩:=hL
 obtain⟨c237,hL⟩:=hL
 obtain⟨c238,hL⟩:=hL
 obtain⟨c239,hL⟩:=hL
 obtain⟨c240,hL⟩:=hL
 obtain⟨c241,hL⟩:=hL
 obtain⟨c242,hL⟩:=hL
 obtain⟨c243,hL⟩:=hL
 obtain⟨⟨hk,H⟩,rfl⟩:=hL
 by_cases hlt:k<n
 ·refine RdRound w1 wr B rows n k gr capr s ta oa tc oc tvs ovs G H hlt hn hr hrow hgr hBw hsmall _ K9 RR c0 c1 c2 c3 c4 v12 v13 v14 v15 v16 v17 v18 v19 v20 v21 v22 v23 v24 v25 v26 v27 c28 c29 c30 c31 c32 c33 c34 c35 v36 v37 v38 v39 v40 v41 v42 v43 v44 v45 v46 v47 v48 v49 v50 v51 v52 v53 v54 v55 v56 v57 v58 v59 v60 v61 v62 v63 v64 v65 v66 v67 v68 v69 v70 v71 v72 v73 v74 v75 v76 v77 v78 v79 v80 v81 v82 v83 v84 v85 v86 v87 v88 v89 v90 v91 v92 v93 v94 v95 v96 v97 v98 v99 v100 v101 v102 v103 v104 v105 v106 v107 v108 v109 v110 v111 v112 v113 v114 v115 v116 v117 v118 v119 v120 v121 v122 v123 v124 v125 v126 v127 v128 v129 v130 v131 v132 v133 v134 v135 v136 v137 v138 v139 v140 v141 v142 v143 v144 v145 v146 v147 v148 v149 v150 v151 v152 v153 v154 v155 v156 v157 v158 v159 v160 v161 v162 v163 v164 v165 v166 v167 v168 v169 v170 v171 v172 v173 v174 v175 v176 v177 v178 v179 v180 v181 v182 v183 v184 v185 v186 v187 v188 v189 v190 v191 v192 v193 v194 v195 v196 v197 v198 v199 v200 v201 v202 v203 v204 v205 v206 v207 v208 v209 v210 v211 v212 v213 v214 v215 c216 c217 c218 c219 c220 c221 c222 c223 c224 c225 c226 c227 c228 c229 c230 c231 c232 c233 c234 c235 c236 c237 c238 c239 c240 c241 c242 c243 ?_ (fun c0 c1 v5 v6 v7 v8 v9 v10 v11 v12 v13 v14 v15 v16 v17 v18 v19 v20 v21 v22 v23 v24 v25 v26 v27 c28 c29 c30 c31 c32 c33 c34 c35 v36 v37 v38 v39 v40 v41 v42 v43 v44 v45 v46 v47 v48 v49 v50 v51 v52 v53 v54 v55 v56 v57 v58 v59 v60 v61 v62 v63 v64 v65 v66 v67 v68 v69 v70 v71 v72 v73 v74 v75 v76 v77 v78 v79 v80 v81 v82 v83 v84 v85 v86 v87 v88 v89 v90 v91 v92 v93 v94 v95 v96 v97 v98 v99 v100 v101 v102 v103 v104 v105 v106 v107 v108 v109 v110 v111 v112 v113 v114 v115 v116 v117 v118 v119 v120 v121 v122 v123 v124 v125 v126 v127 v128 v129 v130 v131 v132 v133 v134 v135 v136 v137 v138 v139 v140 v141 v142 v143 v144 v145 v146 v147 v148 v149 v150 v151 v152 v153 v154 v155 v156 v157 v158 v159 v160 v161 v162 v163 v164 v165 v166 v167 v168 v169 v170 v171 v172 v173 v174 v175 v176 v177 v178 v179 v180 v181 v182 v183 v184 v185 v186 v187 v188 v189 v190 v191 v192 v193 v194 v195 v196 v197 v198 v199 v200 v201 v202 v203 v204 v205 v206 v207 v208 v209 v210 v211 v212 v213 v214 v215 c216 c217 c218 c219 c220 c221 c222 c223 c224 c225 c226 c227 c228 c229 c230 c231 c232 c233 c234 c235 c236 c237 c238 c239 c240 c241 c242 c243 w3 h1 h2=>hE.out k c0 c1 v5 v6 v7 v8 v9 v10 v11 v12 v13 v14 v15 v16 v17 v18 v19 v20 v21 v22 v23 v24 v25 v26 v27 c28 c29 c30 c31 c32 c33 c34 c35 v36 v37 v38 v39 v40 v41 v42 v43 v44 v45 v46 v47 v48 v49 v50 v51 v52 v53 v54 v55 v56 v57 v58 v59 v60 v61 v62 v63 v64 v65 v66 v67 v68 v69 v70 v71 v72 v73 v74 v75 v76 v77 v78 v79 v80 v81 v82 v83 v84 v85 v86 v87 v88 v89 v90 v91 v92 v93 v94 v95 v96 v97 v98 v99 v100 v101 v102 v103 v104 v105 v106 v107 v108 v109 v110 v111 v112 v113 v114 v115 v116 v117 v118 v119 v120 v121 v122 v123 v124 v125 v126 v127 v128 v129 v130 v131 v132 v133 v134 v135 v136 v137 v138 v139 v140 v141 v142 v143 v144 v145 v146 v147 v148 v149 v150 v151 v152 v153 v154 v155 v156 v157 v158 v159 v160 v161 v162 v163 v164 v165 v166 v167 v168 v169 v170 v171 v172 v173 v174 v175 v176 v177 v178 v179 v180 v181 v182 v183 v184 v185 v186 v187 v188 v189 v190 v191 v192 v193 v194 v195 v196 v197 v198 v199 v200 v201 v202 v203 v204 v205 v206 v207 v208 v209 v210 v211 v212 v213 v214 v215 c216 c217 c218 c219 c220 c221 c222 c223 c224 c225 c226 c227 c228 c229 c230 c231 c232 c233 c234 c235 c236 c237 c238 c239 c240 c241 c242 c243 w3 h1 h2)
  intro s2 tv2 ov2 tvs2 ovs2 G2 c0 c1 c2 c3 c4 v12 v13 v14 v15 v16 v17 v18 v19 v20 v21 v22 v23 v24 v25 v26 v27 c28 c29 c30 c31 c32 c33 c34 c35 v36 v37 v38 v39 v40 v41 v42 v43 v44 v45 v46 v47 v48 v49 v50 v51 v52 v53 v54 v55 v56 v57 v58 v59 v60 v61 v62 v63 v64 v65 v66 v67 v68 v69 v70 v71 v72 v73 v74 v75 v76 v77 v78 v79 v80 v81 v82 v83 v84 v85 v86 v87 v88 v89 v90 v91 v92 v93 v94 v95 v96 v97 v98 v99 v100 v101 v102 v103 v104 v105 v106 v107 v108 v109 v110 v111 v112 v113 v114 v115 v116 v117 v118 v119 v120 v121 v122 v123 v124 v125 v126 v127 v128 v129 v130 v131 v132 v133 v134 v135 v136 v137 v138 v139 v140 v141 v142 v143 v144 v145 v146 v147 v148 v149 v150 v151 v152 v153 v154 v155 v156 v157 v158 v159 v160 v161 v162 v163 v164 v165 v166 v167 v168 v169 v170 v171 v172 v173 v174 v175 v176 v177 v178 v179 v180 v181 v182 v183 v184 v185 v186 v187 v188 v189 v190 v191 v192 v193 v194 v195 v196 v197 v198 v199 v200 v201 v202 v203 v204 v205 v206 v207 v208 v209 v210 v211 v212 v213 v214 v215 c216 c217 c218 c219 c220 c221 c222 c223 c224 c225 c226 c227 c228 c229 c230 c231 c232 c233 c234 c235 c236 c237 c238 c239 c240 c241 c242 c243 w3 hRS
  refine⟨?_,?_⟩
  ·have htv:=hRS.mem.th
   have hov:=hRS.mem.fr
   have e1:∃ a cc,tv2=.slice a s2.ts.length cc:=by
    rcases htv.2 with ⟨e,h0⟩ | ⟨j,cc,cur,e,_⟩
    ·exact⟨none,0,by rw[e,h0]⟩
    ·exact⟨_,cc,e⟩
   have e2:∃ a cc,ov2=.slice a s2.opn.length cc:=by
    rcases hov.2 with ⟨e,h0⟩ | ⟨j,cc,cur,e,_⟩
    ·exact⟨none,0,by rw[e,h0]⟩
    ·exact⟨_,cc,e⟩
   obtain⟨ta2,tc2,rfl⟩:=e1
   obtain⟨oa2,oc2,rfl⟩:=e2
   unfold RI
   exact⟨k+1,s2,ta2,oa2,tc2,oc2,tvs2,ovs2,G2,c0,c1,c2,c3,c4,v12,v13,v14,v15,v16,v17,v18,v19,v20,v21,v22,v23,v24,v25,v26,v27,c28,c29,c30,c31,c32,c33,c34,c35,v36,v37,v38,v39,v40,v41,v42,v43,v44,v45,v46,v47,v48,v49,v50,v51,v52,v53,v54,v55,v56,v57,v58,v59,v60,v61,v62,v63,v64,v65,v66,v67,v68,v69,v70,v71,v72,v73,v74,v75,v76,v77,v78,v79,v80,v81,v82,v83,v84,v85,v86,v87,v88,v89,v90,v91,v92,v93,v94,v95,v96,v97,v98,v99,v100,v101,v102,v103,v104,v105,v106,v107,v108,v109,v110,v111,v112,v113,v114,v115,v116,v117,v118,v119,v120,v121,v122,v123,v124,v125,v126,v127,v128,v129,v130,v131,v132,v133,v134,v135,v136,v137,v138,v139,v140,v141,v142,v143,v144,v145,v146,v147,v148,v149,v150,v151,v152,v153,v154,v155,v156,v157,v158,v159,v160,v161,v162,v163,v164,v165,v166,v167,v168,v169,v170,v171,v172,v173,v174,v175,v176,v177,v178,v179,v180,v181,v182,v183,v184,v185,v186,v187,v188,v189,v190,v191,v192,v193,v194,v195,v196,v197,v198,v199,v200,v201,v202,v203,v204,v205,v206,v207,v208,v209,v210,v211,v212,v213,v214,v215,c216,c217,c218,c219,c220,c221,c222,c223,c224,c225,c226,c227,c228,c229,c230,c231,c232,c233,c234,c235,c236,c237,c238,c239,c240,c241,c242,c243,⟨hlt,hRS⟩,by push_cast;rfl⟩
  ·simp[RM,intOf];omega
 ·have hkn:k=n:=by omega
  subst hkn
  exact RdOut k gr capr s ta oa tc oc wr hn _ _ c0 c1 c2 c3 c4 v12 v13 v14 v15 v16 v17 v18 v19 v20 v21 v22 v23 v24 v25 v26 v27 c28 c29 c30 c31 c32 c33 c34 c35 v36 v37 v38 v39 v40 v41 v42 v43 v44 v45 v46 v47 v48 v49 v50 v51 v52 v53 v54 v55 v56 v57 v58 v59 v60 v61 v62 v63 v64 v65 v66 v67 v68 v69 v70 v71 v72 v73 v74 v75 v76 v77 v78 v79 v80 v81 v82 v83 v84 v85 v86 v87 v88 v89 v90 v91 v92 v93 v94 v95 v96 v97 v98 v99 v100 v101 v102 v103 v104 v105 v106 v107 v108 v109 v110 v111 v112 v113 v114 v115 v116 v117 v118 v119 v120 v121 v122 v123 v124 v125 v126 v127 v128 v129 v130 v131 v132 v133 v134 v135 v136 v137 v138 v139 v140 v141 v142 v143 v144 v145 v146 v147 v148 v149 v150 v151 v152 v153 v154 v155 v156 v157 v158 v159 v160 v161 v162 v163 v164 v165 v166 v167 v168 v169 v170 v171 v172 v173 v174 v175 v176 v177 v178 v179 v180 v181 v182 v183 v184 v185 v186 v187 v188 v189 v190 v191 v192 v193 v194 v195 v196 v197 v198 v199 v200 v201 v202 v203 v204 v205 v206 v207 v208 v209 v210 v211 v212 v213 v214 v215 c216 c217 c218 c219 c220 c221 c222 c223 c224 c225 c226 c227 c228 c229 c230 c231 c232 c233 c234 c235 c236 c237 c238 c239 c240 c241 c242 c243 (fun c0 c1 c2 c3 c4 v12 v13 v14 v15 v16 v17 v18 v19 v20 v21 v22 v23 v24 v25 v26 v27 c28 c29 c30 c31 c32 c33 c34 c35 v36 v37 v38 v39 v40 v41 v42 v43 v44 v45 v46 v47 v48 v49 v50 v51 v52 v53 v54 v55 v56 v57 v58 v59 v60 v61 v62 v63 v64 v65 v66 v67 v68 v69 v70 v71 v72 v73 v74 v75 v76 v77 v78 v79 v80 v81 v82 v83 v84 v85 v86 v87 v88 v89 v90 v91 v92 v93 v94 v95 v96 v97 v98 v99 v100 v101 v102 v103 v104 v105 v106 v107 v108 v109 v110 v111 v112 v113 v114 v115 v116 v117 v118 v119 v120 v121 v122 v123 v124 v125 v126 v127 v128 v129 v130 v131 v132 v133 v134 v135 v136 v137 v138 v139 v140 v141 v142 v143 v144 v145 v146 v147 v148 v149 v150 v151 v152 v153 v154 v155 v156 v157 v158 v159 v160 v161 v162 v163 v164 v165 v166 v167 v168 v169 v170 v171 v172 v173 v174 v175 v176 v177 v178 v179 v180 v181 v182 v183 v184 v185 v186 v187 v188 v189 v190 v191 v192 v193 v194 v195 v196 v197 v198 v199 v200 v201 v202 v203 v204 v205 v206 v207 v208 v209 v210 v211 v212 v213 v214 v215 c216 c217 c218 c219 c220 c221 c222 c223 c224 c225 c226 c227 c228 c229 c230 c231 c232 c233 c234 c235 c236 c237 c238 c239 c240 c241 c242 c243=>hX.out s ta oa tc oc tvs ovs G c0 c1 c2 c3 c4 v12 v13 v14 v15 v16 v17 v18 v19 v20 v21 v22 v23 v24 v25 v26 v27 c28 c29 c30 c31 c32 c33 c34 c35 v36 v37 v38 v39 v40 v41 v42 v43 v44 v45 v46 v47 v48 v49 v50 v51 v52 v53 v54 v55 v56 v57 v58 v59 v60 v61 v62 v63 v64 v65 v66 v67 v68 v69 v70 v71 v72 v73 v74 v75 v76 v77 v78 v79 v80 v81 v82 v83 v84 v85 v86 v87 v88 v89 v90 v91 v92 v93 v94 v95 v96 v97 v98 v99 v100 v101 v102 v103 v104 v105 v106 v107 v108 v109 v110 v111 v112 v113 v114 v115 v116 v117 v118 v119 v120 v121 v122 v123 v124 v125 v126 v127 v128 v129 v130 v131 v132 v133 v134 v135 v136 v137 v138 v139 v140 v141 v142 v143 v144 v145 v146 v147 v148 v149 v150 v151 v152 v153 v154 v155 v156 v157 v158 v159 v160 v161 v162 v163 v164 v165 v166 v167 v168 v169 v170 v171 v172 v173 v174 v175 v176 v177 v178 v179 v180 v181 v182 v183 v184 v185 v186 v187 v188 v189 v190 v191 v192 v193 v194 v195 v196 v197 v198 v199 v200 v201 v202 v203 v204 v205 v206 v207 v208 v209 v210 v211 v212 v213 v214 v215 c216 c217 c218 c219 c220 c221 c222 c223 c224 c225 c226 c227 c228 c229 c230 c231 c232 c233 c234 c235 c236 c237 c238 c239 c240 c241 c242 c243 wr H)
end Go.Proofs.YtpkjmdcabdplfaaGreatDoor
