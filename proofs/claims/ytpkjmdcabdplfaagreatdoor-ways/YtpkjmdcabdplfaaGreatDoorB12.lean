import Derived.Test.YtpkjmdcabdplfaaGreatDoorB11
set_option linter.unusedVariables false
set_option linter.unusedSimpArgs false
namespace Go.Proofs.YtpkjmdcabdplfaaGreatDoor
open Go Go.RowKit
set_option maxRecDepth 100000
set_option maxRecDepth 1000000 in
set_option maxHeartbeats 12800000 in
theorem RdMid (w1 wr:World) (B:Nat) (rows:List ByteArray) (n k gr capr:Nat) (s:R.St) (ta oa:Option Addr) (tc oc:Nat) (tvs ovs:List Value) (G:List Nat) (H:Hid (RS w1 B rows n k s (.slice ta s.ts.length tc) (.slice oa s.opn.length oc) tvs ovs G wr)) (hlt:k<n) (hn:n<10000) (hr:rows.length=n+1) (hBw:w1.heap.size=B) (gw nw capw:Nat) (x c:ByteArray) (r:List ByteArray) (w2:World) (hx:rows[k]?=some x) (hc:c.toList::r.map ByteArray.toList=P.splitAt 32 x.toList) (hw:Hid (WordsAt w2 gw 0 (c::r))) (hnw:r.length+1=nw) (hcw:nw≤capw) (hn2:nw<10000) (hgw:gw<w2.heap.size) (B2:Below wr.heap.size wr w2) (hth:(c.toList==[116,104,114,101,97,100])=false) (hts:s.ts≠[]) (K0:Act→World→Prop) (Q0:Exit→Act→World→Prop) (c0 c1 c2 c3 c4 v13 v14 v15 v16 v17 v18 v19 v20 v21 v22 v23 v24 v25 v26 v27 c28 c29 c30 c31 c32 c33 c34 c35 v36 v37 v38 v39 v40 v41 v42 v43 v44 v45 v46 v47 v48 v50 v51 v52 v53 v54 v55 v56 v57 v58 v59 v60 v61 v62 v63 v64 v65 v66 v67 v68 v69 v70 v71 v72 v73 v74 v75 v76 v77 v78 v79 v80 v81 v82 v83 v84 v85 v86 v87 v88 v89 v90 v91 v92 v93 v94 v95 v96 v97 v98 v99 v100 v101 v102 v103 v104 v105 v106 v107 v108 v109 v110 v111 v112 v113 v114 v115 v116 v117 v118 v119 v120 v121 v122 v123 v124 v125 v126 v127 v128 v129 v130 v131 v132 v133 v134 v135 v136 v137 v138 v139 v140 v141 v142 v143 v144 v145 v146 v147 v148 v149 v150 v151 v152 v153 v154 v155 v156 v157 v158 v159 v160 v161 v162 v163 v164 v165 v166 v167 v168 v169 v170 v171 v172 v173 v174 v175 v176 v177 v178 v179 v180 v181 v182 v183 v184 v185 v186 v187 v188 v189 v190 v191 v192 v193 v194 v195 v196 v197 v198 v199 v200 v201 v202 v203 v204 v205 v206 v207 v208 v209 v210 v211 v212 v213 v214 v215 c216 c217 c218 c219 c220 c221 c222 c223 c224 c225 c226 c227 c228 c229 c230 c231 c232 c233 c234 c235 c236 c237 c238 c239 c240 c241 c242 c243:Value)
  (hE:Hid (∀ (c0 c1 v5 v6 v7 v8 v9 v10 v11 v12 v13 v14 v15 v16 v17 v18 v19 v20 v21 v22 v23 v24 v25 v26 v27 c28 c29 c30 c31 c32 c33 c34 c35 v36 v37 v38 v39 v40 v41 v42 v43 v44 v45 v46 v47 v48 v49 v50 v51 v52 v53 v54 v55 v56 v57 v58 v59 v60 v61 v62 v63 v64 v65 v66 v67 v68 v69 v70 v71 v72 v73 v74 v75 v76 v77 v78 v79 v80 v81 v82 v83 v84 v85 v86 v87 v88 v89 v90 v91 v92 v93 v94 v95 v96 v97 v98 v99 v100 v101 v102 v103 v104 v105 v106 v107 v108 v109 v110 v111 v112 v113 v114 v115 v116 v117 v118 v119 v120 v121 v122 v123 v124 v125 v126 v127 v128 v129 v130 v131 v132 v133 v134 v135 v136 v137 v138 v139 v140 v141 v142 v143 v144 v145 v146 v147 v148 v149 v150 v151 v152 v153 v154 v155 v156 v157 v158 v159 v160 v161 v162 v163 v164 v165 v166 v167 v168 v169 v170 v171 v172 v173 v174 v175 v176 v177 v178 v179 v180 v181 v182 v183 v184 v185 v186 v187 v188 v189 v190 v191 v192 v193 v194 v195 v196 v197 v198 v199 v200 v201 v202 v203 v204 v205 v206 v207 v208 v209 v210 v211 v212 v213 v214 v215 c216 c217 c218 c219 c220 c221 c222 c223 c224 c225 c226 c227 c228 c229 c230 c231 c232 c233 c234 c235 c236 c237 c238 c239 c240 c241 c242 c243:Value) (w3:World),R.run R.St.zero 0 ((rows.map ByteArray.toList).take n)=(none,(k:Int)+1)→Below B w1 w3→Q0 .ret ⟨#[c0,c1,.slice none 0 0,.int .i64 2,.int .i64 ((k:Int)+1),v5,v6,v7,v8,v9,v10,v11,v12,v13,v14,v15,v16,v17,v18,v19,v20,v21,v22,v23,v24,v25,v26,v27,c28,c29,c30,c31,c32,c33,c34,c35,v36,v37,v38,v39,v40,v41,v42,v43,v44,v45,v46,v47,v48,v49,v50,v51,v52,v53,v54,v55,v56,v57,v58,v59,v60,v61,v62,v63,v64,v65,v66,v67,v68,v69,v70,v71,v72,v73,v74,v75,v76,v77,v78,v79,v80,v81,v82,v83,v84,v85,v86,v87,v88,v89,v90,v91,v92,v93,v94,v95,v96,v97,v98,v99,v100,v101,v102,v103,v104,v105,v106,v107,v108,v109,v110,v111,v112,v113,v114,v115,v116,v117,v118,v119,v120,v121,v122,v123,v124,v125,v126,v127,v128,v129,v130,v131,v132,v133,v134,v135,v136,v137,v138,v139,v140,v141,v142,v143,v144,v145,v146,v147,v148,v149,v150,v151,v152,v153,v154,v155,v156,v157,v158,v159,v160,v161,v162,v163,v164,v165,v166,v167,v168,v169,v170,v171,v172,v173,v174,v175,v176,v177,v178,v179,v180,v181,v182,v183,v184,v185,v186,v187,v188,v189,v190,v191,v192,v193,v194,v195,v196,v197,v198,v199,v200,v201,v202,v203,v204,v205,v206,v207,v208,v209,v210,v211,v212,v213,v214,v215,c216,c217,c218,c219,c220,c221,c222,c223,c224,c225,c226,c227,c228,c229,c230,c231,c232,c233,c234,c235,c236,c237,c238,c239,c240,c241,c242,c243],[]⟩ w3))
  (hK:Hid (∀ (bt m gx:Nat) (w3:World) (c0 c1 c2 c3 c4 v13 v14 v17 v18 v19 v20 v21 v22 v23 v24 v25 v26 v27 c28 c29 c30 c31 c32 c33 c34 c35 v36 v37 v38 v39 v40 v41 v42 v43 v44 v45 v46 v47 v48 v49 v50 v51 v52 v53 v54 v55 v56 v57 v58 v59 v60 v61 v62 v63 v64 v65 v66 v67 v68 v69 v70 v71 v72 v73 v74 v75 v76 v77 v78 v79 v80 v81 v82 v83 v84 v85 v86 v87 v88 v89 v90 v91 v92 v94 v95 v96 v97 v98 v99 v100 v101 v102 v103 v104 v105 v106 v107 v108 v109 v110 v111 v112 v113 v114 v115 v116 v117 v118 v119 v120 v121 v122 v123 v124 v125 v126 v127 v128 v129 v130 v131 v132 v133 v134 v135 v136 v137 v138 v139 v140 v141 v142 v143 v144 v145 v146 v147 v148 v149 v150 v151 v152 v153 v154 v155 v156 v157 v158 v159 v160 v161 v162 v163 v164 v165 v166 v167 v168 v169 v170 v171 v172 v173 v174 v175 v176 v177 v178 v179 v180 v181 v182 v183 v184 v185 v186 v187 v188 v189 v190 v191 v192 v193 v194 v195 v196 v197 v198 v199 v200 v201 v202 v203 v204 v205 v206 v207 v208 v209 v210 v211 v212 v213 v214 v215 c216 c217 c218 c219 c220 c221 c222 c223 c224 c225 c226 c227 c228 c229 c230 c231 c232 c233 c234 c235 c236 c237 c238 c239 c240 c241 c242 c243:Value),ta=some ⟨bt,0,none⟩→s.ts.length=m+1→LnAt w3 gx R.z0 (.slice none 0 0)→Below w2.heap.size w2 w3→w2.heap.size≤gx→wpL Tryz.prog [(stmOf (inOf (stmOf (bodyOf Tryz.f7) 2)) 8),(stmOf (inOf (stmOf (bodyOf Tryz.f7) 2)) 9),(stmOf (inOf (stmOf (bodyOf Tryz.f7) 2)) 10),(stmOf (inOf (stmOf (bodyOf Tryz.f7) 2)) 11)] (Exit.inBlock 1 (Exit.then K0 Q0)) ⟨#[c0,c1,c2,c3,c4,.slice (some ⟨gr,0,none⟩) (n+1) capr,.int .i64 (n:Int),.slice (some ⟨bt,0,none⟩) (m+1) tc,.slice oa s.opn.length oc,.int .i64 s.count,.int .i64 s.inner,.int .i64 (k:Int),.slice (some ⟨gw,0,none⟩) nw capw,v13,v14,.pointer (some ⟨bt,m*3,none⟩),.pointer (some ⟨gx,0,none⟩),v17,v18,v19,v20,v21,v22,v23,v24,v25,v26,v27,c28,c29,c30,c31,c32,c33,c34,c35,v36,v37,v38,v39,v40,v41,v42,v43,v44,v45,v46,v47,v48,v49,v50,v51,v52,v53,v54,v55,v56,v57,v58,v59,v60,v61,v62,v63,v64,v65,v66,v67,v68,v69,v70,v71,v72,v73,v74,v75,v76,v77,v78,v79,v80,v81,v82,v83,v84,v85,v86,v87,v88,v89,v90,v91,v92,.bool (c.toList==[101,110,100]),v94,v95,v96,v97,v98,v99,v100,v101,v102,v103,v104,v105,v106,v107,v108,v109,v110,v111,v112,v113,v114,v115,v116,v117,v118,v119,v120,v121,v122,v123,v124,v125,v126,v127,v128,v129,v130,v131,v132,v133,v134,v135,v136,v137,v138,v139,v140,v141,v142,v143,v144,v145,v146,v147,v148,v149,v150,v151,v152,v153,v154,v155,v156,v157,v158,v159,v160,v161,v162,v163,v164,v165,v166,v167,v168,v169,v170,v171,v172,v173,v174,v175,v176,v177,v178,v179,v180,v181,v182,v183,v184,v185,v186,v187,v188,v189,v190,v191,v192,v193,v194,v195,v196,v197,v198,v199,v200,v201,v202,v203,v204,v205,v206,v207,v208,v209,v210,v211,v212,v213,v214,v215,c216,c217,c218,c219,c220,c221,c222,c223,c224,c225,c226,c227,c228,c229,c230,c231,c232,c233,c234,c235,c236,c237,c238,c239,c240,c241,c242,c243],[]⟩ w3)) :
  wpL Tryz.prog [(stmOf (inOf (stmOf (bodyOf Tryz.f7) 2)) 2),(stmOf (inOf (stmOf (bodyOf Tryz.f7) 2)) 3),(stmOf (inOf (stmOf (bodyOf Tryz.f7) 2)) 4),(stmOf (inOf (stmOf (bodyOf Tryz.f7) 2)) 5),(stmOf (inOf (stmOf (bodyOf Tryz.f7) 2)) 6),(stmOf (inOf (stmOf (bodyOf Tryz.f7) 2)) 7),(stmOf (inOf (stmOf (bodyOf Tryz.f7) 2)) 8),(stmOf (inOf (stmOf (bodyOf Tryz.f7) 2)) 9),(stmOf (inOf (stmOf (bodyOf Tryz.f7) 2)) 10),(stmOf (inOf (stmOf (bodyOf Tryz.f7) 2)) 11)] (Exit.inBlock 1 (Exit.then K0 Q0)) ⟨#[c0,c1,c2,c3,c4,.slice (some ⟨gr,0,none⟩) (n+1) capr,.int .i64 (n:Int),.slice ta s.ts.length tc,.slice oa s.opn.length oc,.int .i64 s.count,.int .i64 s.inner,.int .i64 (k:Int),.slice (some ⟨gw,0,none⟩) nw capw,v13,v14,v15,v16,v17,v18,v19,v20,v21,v22,v23,v24,v25,v26,v27,c28,c29,c30,c31,c32,c33,c34,c35,v36,v37,v38,v39,v40,v41,v42,v43,v44,v45,v46,v47,v48,.bool (c.toList==[116,104,114,101,97,100]),v50,v51,v52,v53,v54,v55,v56,v57,v58,v59,v60,v61,v62,v63,v64,v65,v66,v67,v68,v69,v70,v71,v72,v73,v74,v75,v76,v77,v78,v79,v80,v81,v82,v83,v84,v85,v86,v87,v88,v89,v90,v91,v92,v93,v94,v95,v96,v97,v98,v99,v100,v101,v102,v103,v104,v105,v106,v107,v108,v109,v110,v111,v112,v113,v114,v115,v116,v117,v118,v119,v120,v121,v122,v123,v124,v125,v126,v127,v128,v129,v130,v131,v132,v133,v134,v135,v136,v137,v138,v139,v140,v141,v142,v143,v144,v145,v146,v147,v148,v149,v150,v151,v152,v153,v154,v155,v156,v157,v158,v159,v160,v161,v162,v163,v164,v165,v166,v167,v168,v169,v170,v171,v172,v173,v174,v175,v176,v177,v178,v179,v180,v181,v182,v183,v184,v185,v186,v187,v188,v189,v190,v191,v192,v193,v194,v195,v196,v197,v198,v199,v200,v201,v202,v203,v204,v205,v206,v207,v208,v209,v210,v211,v212,v213,v214,v215,c216,c217,c218,c219,c220,c221,c222,c223,c224,c225,c226,c227,c228,c229,c230,c231,c232,c233,c234,c235,c236,c237,c238,c239,c240,c241,c242,c243],[]⟩ w2:=by
 have hB:B≤wr.heap.size:=by have:=H.out.bel.size;omega
 have hsz:=H.out.sz
 have q1:=hsz.nth
 have q2:=hsz.nop
 have q3:=hsz.cnt
 have q4:0≤s.count:=by have:=hsz.sum;have:=R.lastSz_nn s.ts;have:=R.opnSz_nn s.opn;omega
 have q5:=H.out.in0
 have q6:=H.out.in1
 have hBl:Below B w1 w2:=H.out.bel.trans (B2.mono (by have:=H.out.bel.size;omega))
 have hst:=H.out.step hlt hr hx hc
 obtain⟨d0,_,hw1⟩:=hw.out.head
 have hm2:RdM w2 B (.slice ta s.ts.length tc) (.slice oa s.opn.length oc) s.ts s.opn tvs ovs G:=H.out.mem.keep (fun j hj=>B2.block j hj)
 have hpos:0<s.ts.length:=List.length_pos_iff.2 hts
 obtain⟨bt,cap,he,_,hbt⟩:=hm2.th.form hpos
 simp only[Value.slice.injEq,true_and] at he
 obtain⟨rfl,rfl⟩:=he
 obtain⟨m,hm⟩:∃ m,s.ts.length=m+1:=⟨s.ts.length-1,by omega⟩
 have hmi:(s.ts.length:Int)=(m:Int)+1:=by omega
 have hml:(m:Int)<(m:Int)+1:=by omega
 have htl:(((m+1:Nat):Int)==0)=false:=by simp;omega
 have hX:=LnAt.new w2 R.z0 (.slice none 0 0)
 have HX:=hide hX
 clear hX hm2
 rw[hth,hm]
 dsimp only
 refine wpL_step (fun K hK=>?_)
 have HK:=hide hK
 clear hK
 conv=>arg 2;whnf
 go_wp2_with fail
 refine HK.out _ _ ?_
 clear HK
 refine wpL_step (fun K hK=>?_)
 have HK:=hide hK
 clear hK
 conv=>arg 2;whnf
 go_wp2_with fail
 refine HK.out _ _ ?_
 clear HK
 refine wpL_step (fun K hK=>?_)
 have HK:=hide hK
 clear hK
 conv=>arg 2;whnf
 go_wp2_with fail
 refine HK.out _ _ ?_
 clear HK
 refine wpL_step (fun K hK=>?_)
 have HK:=hide hK
 clear hK
 conv=>arg 2;whnf
 go_wp2_with fail
 refine HK.out _ _ ?_
 clear HK
 refine wpL_step (fun K hK=>?_)
 have HK:=hide hK
 clear hK
 conv=>arg 2;whnf
 go_wp2_with fail
 refine HK.out _ _ ?_
 clear HK
 refine wpL_step (fun K hK=>?_)
 have HK:=hide hK
 clear hK
 conv=>arg 2;whnf
 go_wp2_with fail
 refine HK.out _ _ ?_
 clear HK
 exact hK.out bt m w2.heap.size _ _ _ _ _ _ _ _ _ _ _ _ _ _ _ _ _ _ _ _ _ _ _ _ _ _ _ _ _ _ _ _ _ _ _ _ _ _ _ _ _ _ _ _ _ _ _ _ _ _ _ _ _ _ _ _ _ _ _ _ _ _ _ _ _ _ _ _ _ _ _ _ _ _ _ _ _ _ _ _ _ _ _ _ _ _ _ _ _ _ _ _ _ _ _ _ _ _ _ _ _ _ _ _ _ _ _ _ _ _ _ _ _ _ _ _ _ _ _ _ _ _ _ _ _ _ _ _ _ _ _ _ _ _ _ _ _ _ _ _ _ _ _ _ _ _ _ _ _ _ _ _ _ _ _ _ _ _ _ _ _ _ _ _ _ _ _ _ _ _ _ _ _ _ _ _ _ _ _ _ _ _ _ _ _ _ _ _ _ _ _ _ _ _ _ _ _ _ _ _ _ _ _ _ _ _ _ _ _ _ _ _ _ _ _ _ _ _ _ _ _ _ _ _ _ _ _ _ _ _ _ _ _ _ rfl hm HX.out ((Below.refl _ _).alloc (Nat.le_refl _) _) (Nat.le_refl _)
set_option maxRecDepth 1000000 in
set_option maxHeartbeats 12800000 in
theorem RdEndA (w1 wr:World) (B:Nat) (rows:List ByteArray) (n k gr capr:Nat) (s:R.St) (ta oa:Option Addr) (tc oc:Nat) (tvs ovs:List Value) (G:List Nat) (H:Hid (RS w1 B rows n k s (.slice ta s.ts.length tc) (.slice oa s.opn.length oc) tvs ovs G wr)) (hlt:k<n) (hn:n<10000) (hr:rows.length=n+1) (hBw:w1.heap.size=B) (gw nw capw:Nat) (x c:ByteArray) (r:List ByteArray) (w2:World) (hx:rows[k]?=some x) (hc:c.toList::r.map ByteArray.toList=P.splitAt 32 x.toList) (hw:Hid (WordsAt w2 gw 0 (c::r))) (hnw:r.length+1=nw) (hcw:nw≤capw) (hn2:nw<10000) (hgw:gw<w2.heap.size) (B2:Below wr.heap.size wr w2) (hth:(c.toList==[116,104,114,101,97,100])=false) (bt m gx:Nat) (w3:World) (hta:ta=some ⟨bt,0,none⟩) (hm:s.ts.length=m+1) (hX:Hid (LnAt w3 gx R.z0 (.slice none 0 0))) (B3:Below w2.heap.size w2 w3) (hgx:w2.heap.size≤gx) (hen:(c.toList==[101,110,100])=true) (ho:s.opn=[]) (K0:Act→World→Prop) (Q0:Exit→Act→World→Prop) (c0 c1 c2 c3 c4 v13 v14 v17 v18 v19 v20 v21 v22 v23 v24 v25 v26 v27 c28 c29 c30 c31 c32 c33 c34 c35 v36 v37 v38 v39 v40 v41 v42 v43 v44 v45 v46 v47 v48 v49 v50 v51 v52 v53 v54 v55 v56 v57 v58 v59 v60 v61 v62 v63 v64 v65 v66 v67 v68 v69 v70 v71 v72 v73 v74 v75 v76 v77 v78 v79 v80 v81 v82 v83 v84 v85 v86 v87 v88 v89 v90 v91 v92 v94 v95 v96 v97 v98 v99 v100 v101 v102 v103 v104 v105 v106 v107 v108 v109 v110 v111 v112 v113 v114 v115 v116 v117 v118 v119 v120 v121 v122 v123 v124 v125 v126 v127 v128 v129 v130 v131 v132 v133 v134 v135 v136 v137 v138 v139 v140 v141 v142 v143 v144 v145 v146 v147 v148 v149 v150 v151 v152 v153 v154 v155 v156 v157 v158 v159 v160 v161 v162 v163 v164 v165 v166 v167 v168 v169 v170 v171 v172 v173 v174 v175 v176 v177 v178 v179 v180 v181 v182 v183 v184 v185 v186 v187 v188 v189 v190 v191 v192 v193 v194 v195 v196 v197 v198 v199 v200 v201 v202 v203 v204 v205 v206 v207 v208 v209 v210 v211 v212 v213 v214 v215 c216 c217 c218 c219 c220 c221 c222 c223 c224 c225 c226 c227 c228 c229 c230 c231 c232 c233 c234 c235 c236 c237 c238 c239 c240 c241 c242 c243:Value)
  (hE:Hid (∀ (c0 c1 v5 v6 v7 v8 v9 v10 v11 v12 v13 v14 v15 v16 v17 v18 v19 v20 v21 v22 v23 v24 v25 v26 v27 c28 c29 c30 c31 c32 c33 c34 c35 v36 v37 v38 v39 v40 v41 v42 v43 v44 v45 v46 v47 v48 v49 v50 v51 v52 v53 v54 v55 v56 v57 v58 v59 v60 v61 v62 v63 v64 v65 v66 v67 v68 v69 v70 v71 v72 v73 v74 v75 v76 v77 v78 v79 v80 v81 v82 v83 v84 v85 v86 v87 v88 v89 v90 v91 v92 v93 v94 v95 v96 v97 v98 v99 v100 v101 v102 v103 v104 v105 v106 v107 v108 v109 v110 v111 v112 v113 v114 v115 v116 v117 v118 v119 v120 v121 v122 v123 v124 v125 v126 v127 v128 v129 v130 v131 v132 v133 v134 v135 v136 v137 v138 v139 v140 v141 v142 v143 v144 v145 v146 v147 v148 v149 v150 v151 v152 v153 v154 v155 v156 v157 v158 v159 v160 v161 v162 v163 v164 v165 v166 v167 v168 v169 v170 v171 v172 v173 v174 v175 v176 v177 v178 v179 v180 v181 v182 v183 v184 v185 v186 v187 v188 v189 v190 v191 v192 v193 v194 v195 v196 v197 v198 v199 v200 v201 v202 v203 v204 v205 v206 v207 v208 v209 v210 v211 v212 v213 v214 v215 c216 c217 c218 c219 c220 c221 c222 c223 c224 c225 c226 c227 c228 c229 c230 c231 c232 c233 c234 c235 c236 c237 c238 c239 c240 c241 c242 c243:Value) (w3:World),R.run R.St.zero 0 ((rows.map ByteArray.toList).take n)=(none,(k:Int)+1)→Below B w1 w3→Q0 .ret ⟨#[c0,c1,.slice none 0 0,.int .i64 2,.int .i64 ((k:Int)+1),v5,v6,v7,v8,v9,v10,v11,v12,v13,v14,v15,v16,v17,v18,v19,v20,v21,v22,v23,v24,v25,v26,v27,c28,c29,c30,c31,c32,c33,c34,c35,v36,v37,v38,v39,v40,v41,v42,v43,v44,v45,v46,v47,v48,v49,v50,v51,v52,v53,v54,v55,v56,v57,v58,v59,v60,v61,v62,v63,v64,v65,v66,v67,v68,v69,v70,v71,v72,v73,v74,v75,v76,v77,v78,v79,v80,v81,v82,v83,v84,v85,v86,v87,v88,v89,v90,v91,v92,v93,v94,v95,v96,v97,v98,v99,v100,v101,v102,v103,v104,v105,v106,v107,v108,v109,v110,v111,v112,v113,v114,v115,v116,v117,v118,v119,v120,v121,v122,v123,v124,v125,v126,v127,v128,v129,v130,v131,v132,v133,v134,v135,v136,v137,v138,v139,v140,v141,v142,v143,v144,v145,v146,v147,v148,v149,v150,v151,v152,v153,v154,v155,v156,v157,v158,v159,v160,v161,v162,v163,v164,v165,v166,v167,v168,v169,v170,v171,v172,v173,v174,v175,v176,v177,v178,v179,v180,v181,v182,v183,v184,v185,v186,v187,v188,v189,v190,v191,v192,v193,v194,v195,v196,v197,v198,v199,v200,v201,v202,v203,v204,v205,v206,v207,v208,v209,v210,v211,v212,v213,v214,v215,c216,c217,c218,c219,c220,c221,c222,c223,c224,c225,c226,c227,c228,c229,c230,c231,c232,c233,c234,c235,c236,c237,c238,c239,c240,c241,c242,c243],[]⟩ w3)) :
  wpL Tryz.prog [(stmOf (inOf (stmOf (bodyOf Tryz.f7) 2)) 8),(stmOf (inOf (stmOf (bodyOf Tryz.f7) 2)) 9),(stmOf (inOf (stmOf (bodyOf Tryz.f7) 2)) 10),(stmOf (inOf (stmOf (bodyOf Tryz.f7) 2)) 11)] (Exit.inBlock 1 (Exit.then K0 Q0)) ⟨#[c0,c1,c2,c3,c4,.slice (some ⟨gr,0,none⟩) (n+1) capr,.int .i64 (n:Int),.slice (some ⟨bt,0,none⟩) (m+1) tc,.slice oa s.opn.length oc,.int .i64 s.count,.int .i64 s.inner,.int .i64 (k:Int),.slice (some ⟨gw,0,none⟩) nw capw,v13,v14,.pointer (some ⟨bt,m*3,none⟩),.pointer (some ⟨gx,0,none⟩),v17,v18,v19,v20,v21,v22,v23,v24,v25,v26,v27,c28,c29,c30,c31,c32,c33,c34,c35,v36,v37,v38,v39,v40,v41,v42,v43,v44,v45,v46,v47,v48,v49,v50,v51,v52,v53,v54,v55,v56,v57,v58,v59,v60,v61,v62,v63,v64,v65,v66,v67,v68,v69,v70,v71,v72,v73,v74,v75,v76,v77,v78,v79,v80,v81,v82,v83,v84,v85,v86,v87,v88,v89,v90,v91,v92,.bool (c.toList==[101,110,100]),v94,v95,v96,v97,v98,v99,v100,v101,v102,v103,v104,v105,v106,v107,v108,v109,v110,v111,v112,v113,v114,v115,v116,v117,v118,v119,v120,v121,v122,v123,v124,v125,v126,v127,v128,v129,v130,v131,v132,v133,v134,v135,v136,v137,v138,v139,v140,v141,v142,v143,v144,v145,v146,v147,v148,v149,v150,v151,v152,v153,v154,v155,v156,v157,v158,v159,v160,v161,v162,v163,v164,v165,v166,v167,v168,v169,v170,v171,v172,v173,v174,v175,v176,v177,v178,v179,v180,v181,v182,v183,v184,v185,v186,v187,v188,v189,v190,v191,v192,v193,v194,v195,v196,v197,v198,v199,v200,v201,v202,v203,v204,v205,v206,v207,v208,v209,v210,v211,v212,v213,v214,v215,c216,c217,c218,c219,c220,c221,c222,c223,c224,c225,c226,c227,c228,c229,c230,c231,c232,c233,c234,c235,c236,c237,c238,c239,c240,c241,c242,c243],[]⟩ w3:=by
 have hB:B≤wr.heap.size:=by have:=H.out.bel.size;omega
 have hsz:=H.out.sz
 have q1:=hsz.nth
 have q2:=hsz.nop
 have q3:=hsz.cnt
 have q4:0≤s.count:=by have:=hsz.sum;have:=R.lastSz_nn s.ts;have:=R.opnSz_nn s.opn;omega
 have q5:=H.out.in0
 have q6:=H.out.in1
 have hBl:Below B w1 w2:=H.out.bel.trans (B2.mono (by have:=H.out.bel.size;omega))
 have hst:=H.out.step hlt hr hx hc
 obtain⟨d0,_,hw1⟩:=hw.out.head
 have HS:Hid (R.step s ((k:Int)+1) c r=if s.ts.isEmpty then none else if c.toList==[101,110,100] then R.ends s r else if c.toList==[105,102] then R.branch s r else R.one s ((k:Int)+1) c r):=by unfold Hid R.step;rw[hth];rfl
 have hts:s.ts.isEmpty=false:=by
  cases e:s.ts with
  | nil=>rw[e] at hm;simp at hm
  | cons a b=>rfl
 have hB3:Below B w1 w3:=hBl.trans (B3.mono (by have:=hBl.size;omega))
 have hw3:WordsAt w3 gw 0 (c::r):=hw.out.below B3
 have hgw3:gw<w3.heap.size:=by have:=B3.size;omega
 obtain⟨dd0,_,hw31⟩:=hw3.head
 have hxl:=hX.out.lt
 have hm2:=H.out.mem.keep (w':=w2) (fun j hj=>B2.block j hj)
 subst hta
 rw[hm] at hm2
 have HM2:=hide hm2
 have HM:=hide (hm2.keep (w':=w3) (fun j hj=>B3.block j hj))
 have hBg:B≤gx:=by have:=hBl.size;omega
 clear hm2
 have HR:Hid (R.step s ((k:Int)+1) c r=none):=by unfold Hid;rw[HS.out,hts,hen];simp[R.ends,ho]
 have hol:(s.opn.length:Int)=0:=by simp[ho]
 rw[hen]
 dsimp only
 refine wpL_step (fun K hK=>?_)
 clear hK
 conv=>arg 2;whnf
 go_wp2_with fail
 exact hE.out _ _ _ _ _ _ _ _ _ _ _ _ _ _ _ _ _ _ _ _ _ _ _ _ _ _ _ _ _ _ _ _ _ _ _ _ _ _ _ _ _ _ _ _ _ _ _ _ _ _ _ _ _ _ _ _ _ _ _ _ _ _ _ _ _ _ _ _ _ _ _ _ _ _ _ _ _ _ _ _ _ _ _ _ _ _ _ _ _ _ _ _ _ _ _ _ _ _ _ _ _ _ _ _ _ _ _ _ _ _ _ _ _ _ _ _ _ _ _ _ _ _ _ _ _ _ _ _ _ _ _ _ _ _ _ _ _ _ _ _ _ _ _ _ _ _ _ _ _ _ _ _ _ _ _ _ _ _ _ _ _ _ _ _ _ _ _ _ _ _ _ _ _ _ _ _ _ _ _ _ _ _ _ _ _ _ _ _ _ _ _ _ _ _ _ _ _ _ _ _ _ _ _ _ _ _ _ _ _ _ _ _ _ _ _ _ _ _ _ _ _ _ _ _ _ _ _ _ _ _ _ _ _ _ _ _ _ _ _ _ _ _ (hst.1 HR.out) hB3
set_option maxRecDepth 1000000 in
set_option maxHeartbeats 12800000 in
theorem RdEndB (w1 wr:World) (B:Nat) (rows:List ByteArray) (n k gr capr:Nat) (s:R.St) (ta oa:Option Addr) (tc oc:Nat) (tvs ovs:List Value) (G:List Nat) (H:Hid (RS w1 B rows n k s (.slice ta s.ts.length tc) (.slice oa s.opn.length oc) tvs ovs G wr)) (hlt:k<n) (hn:n<10000) (hr:rows.length=n+1) (hBw:w1.heap.size=B) (gw nw capw:Nat) (x c:ByteArray) (r:List ByteArray) (w2:World) (hx:rows[k]?=some x) (hc:c.toList::r.map ByteArray.toList=P.splitAt 32 x.toList) (hw:Hid (WordsAt w2 gw 0 (c::r))) (hnw:r.length+1=nw) (hcw:nw≤capw) (hn2:nw<10000) (hgw:gw<w2.heap.size) (B2:Below wr.heap.size wr w2) (hth:(c.toList==[116,104,114,101,97,100])=false) (bt m gx:Nat) (w3:World) (hta:ta=some ⟨bt,0,none⟩) (hm:s.ts.length=m+1) (hX:Hid (LnAt w3 gx R.z0 (.slice none 0 0))) (B3:Below w2.heap.size w2 w3) (hgx:w2.heap.size≤gx) (hen:(c.toList==[101,110,100])=true) (ho:s.opn≠[]) (hr1:r≠[]) (K0:Act→World→Prop) (Q0:Exit→Act→World→Prop) (c0 c1 c2 c3 c4 v13 v14 v17 v18 v19 v20 v21 v22 v23 v24 v25 v26 v27 c28 c29 c30 c31 c32 c33 c34 c35 v36 v37 v38 v39 v40 v41 v42 v43 v44 v45 v46 v47 v48 v49 v50 v51 v52 v53 v54 v55 v56 v57 v58 v59 v60 v61 v62 v63 v64 v65 v66 v67 v68 v69 v70 v71 v72 v73 v74 v75 v76 v77 v78 v79 v80 v81 v82 v83 v84 v85 v86 v87 v88 v89 v90 v91 v92 v94 v95 v96 v97 v98 v99 v100 v101 v102 v103 v104 v105 v106 v107 v108 v109 v110 v111 v112 v113 v114 v115 v116 v117 v118 v119 v120 v121 v122 v123 v124 v125 v126 v127 v128 v129 v130 v131 v132 v133 v134 v135 v136 v137 v138 v139 v140 v141 v142 v143 v144 v145 v146 v147 v148 v149 v150 v151 v152 v153 v154 v155 v156 v157 v158 v159 v160 v161 v162 v163 v164 v165 v166 v167 v168 v169 v170 v171 v172 v173 v174 v175 v176 v177 v178 v179 v180 v181 v182 v183 v184 v185 v186 v187 v188 v189 v190 v191 v192 v193 v194 v195 v196 v197 v198 v199 v200 v201 v202 v203 v204 v205 v206 v207 v208 v209 v210 v211 v212 v213 v214 v215 c216 c217 c218 c219 c220 c221 c222 c223 c224 c225 c226 c227 c228 c229 c230 c231 c232 c233 c234 c235 c236 c237 c238 c239 c240 c241 c242 c243:Value)
  (hE:Hid (∀ (c0 c1 v5 v6 v7 v8 v9 v10 v11 v12 v13 v14 v15 v16 v17 v18 v19 v20 v21 v22 v23 v24 v25 v26 v27 c28 c29 c30 c31 c32 c33 c34 c35 v36 v37 v38 v39 v40 v41 v42 v43 v44 v45 v46 v47 v48 v49 v50 v51 v52 v53 v54 v55 v56 v57 v58 v59 v60 v61 v62 v63 v64 v65 v66 v67 v68 v69 v70 v71 v72 v73 v74 v75 v76 v77 v78 v79 v80 v81 v82 v83 v84 v85 v86 v87 v88 v89 v90 v91 v92 v93 v94 v95 v96 v97 v98 v99 v100 v101 v102 v103 v104 v105 v106 v107 v108 v109 v110 v111 v112 v113 v114 v115 v116 v117 v118 v119 v120 v121 v122 v123 v124 v125 v126 v127 v128 v129 v130 v131 v132 v133 v134 v135 v136 v137 v138 v139 v140 v141 v142 v143 v144 v145 v146 v147 v148 v149 v150 v151 v152 v153 v154 v155 v156 v157 v158 v159 v160 v161 v162 v163 v164 v165 v166 v167 v168 v169 v170 v171 v172 v173 v174 v175 v176 v177 v178 v179 v180 v181 v182 v183 v184 v185 v186 v187 v188 v189 v190 v191 v192 v193 v194 v195 v196 v197 v198 v199 v200 v201 v202 v203 v204 v205 v206 v207 v208 v209 v210 v211 v212 v213 v214 v215 c216 c217 c218 c219 c220 c221 c222 c223 c224 c225 c226 c227 c228 c229 c230 c231 c232 c233 c234 c235 c236 c237 c238 c239 c240 c241 c242 c243:Value) (w3:World),R.run R.St.zero 0 ((rows.map ByteArray.toList).take n)=(none,(k:Int)+1)→Below B w1 w3→Q0 .ret ⟨#[c0,c1,.slice none 0 0,.int .i64 2,.int .i64 ((k:Int)+1),v5,v6,v7,v8,v9,v10,v11,v12,v13,v14,v15,v16,v17,v18,v19,v20,v21,v22,v23,v24,v25,v26,v27,c28,c29,c30,c31,c32,c33,c34,c35,v36,v37,v38,v39,v40,v41,v42,v43,v44,v45,v46,v47,v48,v49,v50,v51,v52,v53,v54,v55,v56,v57,v58,v59,v60,v61,v62,v63,v64,v65,v66,v67,v68,v69,v70,v71,v72,v73,v74,v75,v76,v77,v78,v79,v80,v81,v82,v83,v84,v85,v86,v87,v88,v89,v90,v91,v92,v93,v94,v95,v96,v97,v98,v99,v100,v101,v102,v103,v104,v105,v106,v107,v108,v109,v110,v111,v112,v113,v114,v115,v116,v117,v118,v119,v120,v121,v122,v123,v124,v125,v126,v127,v128,v129,v130,v131,v132,v133,v134,v135,v136,v137,v138,v139,v140,v141,v142,v143,v144,v145,v146,v147,v148,v149,v150,v151,v152,v153,v154,v155,v156,v157,v158,v159,v160,v161,v162,v163,v164,v165,v166,v167,v168,v169,v170,v171,v172,v173,v174,v175,v176,v177,v178,v179,v180,v181,v182,v183,v184,v185,v186,v187,v188,v189,v190,v191,v192,v193,v194,v195,v196,v197,v198,v199,v200,v201,v202,v203,v204,v205,v206,v207,v208,v209,v210,v211,v212,v213,v214,v215,c216,c217,c218,c219,c220,c221,c222,c223,c224,c225,c226,c227,c228,c229,c230,c231,c232,c233,c234,c235,c236,c237,c238,c239,c240,c241,c242,c243],[]⟩ w3)) :
  wpL Tryz.prog [(stmOf (inOf (stmOf (bodyOf Tryz.f7) 2)) 8),(stmOf (inOf (stmOf (bodyOf Tryz.f7) 2)) 9),(stmOf (inOf (stmOf (bodyOf Tryz.f7) 2)) 10),(stmOf (inOf (stmOf (bodyOf Tryz.f7) 2)) 11)] (Exit.inBlock 1 (Exit.then K0 Q0)) ⟨#[c0,c1,c2,c3,c4,.slice (some ⟨gr,0,none⟩) (n+1) capr,.int .i64 (n:Int),.slice (some ⟨bt,0,none⟩) (m+1) tc,.slice oa s.opn.length oc,.int .i64 s.count,.int .i64 s.inner,.int .i64 (k:Int),.slice (some ⟨gw,0,none⟩) nw capw,v13,v14,.pointer (some ⟨bt,m*3,none⟩),.pointer (some ⟨gx,0,none⟩),v17,v18,v19,v20,v21,v22,v23,v24,v25,v26,v27,c28,c29,c30,c31,c32,c33,c34,c35,v36,v37,v38,v39,v40,v41,v42,v43,v44,v45,v46,v47,v48,v49,v50,v51,v52,v53,v54,v55,v56,v57,v58,v59,v60,v61,v62,v63,v64,v65,v66,v67,v68,v69,v70,v71,v72,v73,v74,v75,v76,v77,v78,v79,v80,v81,v82,v83,v84,v85,v86,v87,v88,v89,v90,v91,v92,.bool (c.toList==[101,110,100]),v94,v95,v96,v97,v98,v99,v100,v101,v102,v103,v104,v105,v106,v107,v108,v109,v110,v111,v112,v113,v114,v115,v116,v117,v118,v119,v120,v121,v122,v123,v124,v125,v126,v127,v128,v129,v130,v131,v132,v133,v134,v135,v136,v137,v138,v139,v140,v141,v142,v143,v144,v145,v146,v147,v148,v149,v150,v151,v152,v153,v154,v155,v156,v157,v158,v159,v160,v161,v162,v163,v164,v165,v166,v167,v168,v169,v170,v171,v172,v173,v174,v175,v176,v177,v178,v179,v180,v181,v182,v183,v184,v185,v186,v187,v188,v189,v190,v191,v192,v193,v194,v195,v196,v197,v198,v199,v200,v201,v202,v203,v204,v205,v206,v207,v208,v209,v210,v211,v212,v213,v214,v215,c216,c217,c218,c219,c220,c221,c222,c223,c224,c225,c226,c227,c228,c229,c230,c231,c232,c233,c234,c235,c236,c237,c238,c239,c240,c241,c242,c243],[]⟩ w3:=by
 have hB:B≤wr.heap.size:=by have:=H.out.bel.size;omega
 have hsz:=H.out.sz
 have q1:=hsz.nth
 have q2:=hsz.nop
 have q3:=hsz.cnt
 have q4:0≤s.count:=by have:=hsz.sum;have:=R.lastSz_nn s.ts;have:=R.opnSz_nn s.opn;omega
 have q5:=H.out.in0
 have q6:=H.out.in1
 have hBl:Below B w1 w2:=H.out.bel.trans (B2.mono (by have:=H.out.bel.size;omega))
 have hst:=H.out.step hlt hr hx hc
 obtain⟨d0,_,hw1⟩:=hw.out.head
 have HS:Hid (R.step s ((k:Int)+1) c r=if s.ts.isEmpty then none else if c.toList==[101,110,100] then R.ends s r else if c.toList==[105,102] then R.branch s r else R.one s ((k:Int)+1) c r):=by unfold Hid R.step;rw[hth];rfl
 have hts:s.ts.isEmpty=false:=by
  cases e:s.ts with
  | nil=>rw[e] at hm;simp at hm
  | cons a b=>rfl
 have hB3:Below B w1 w3:=hBl.trans (B3.mono (by have:=hBl.size;omega))
 have hw3:WordsAt w3 gw 0 (c::r):=hw.out.below B3
 have hgw3:gw<w3.heap.size:=by have:=B3.size;omega
 obtain⟨dd0,_,hw31⟩:=hw3.head
 have hxl:=hX.out.lt
 have hm2:=H.out.mem.keep (w':=w2) (fun j hj=>B2.block j hj)
 subst hta
 rw[hm] at hm2
 have HM2:=hide hm2
 have HM:=hide (hm2.keep (w':=w3) (fun j hj=>B3.block j hj))
 have hBg:B≤gx:=by have:=hBl.size;omega
 clear hm2
 have hrl:0<r.length:=List.length_pos_iff.2 hr1
 have hol:0<s.opn.length:=List.length_pos_iff.2 ho
 have HR:Hid (R.step s ((k:Int)+1) c r=none):=by
  unfold Hid;rw[HS.out,hts,hen]
  cases r with
  | nil=>exact absurd rfl hr1
  | cons a b=>simp only[Bool.false_eq_true,if_false,if_true];unfold R.ends;split<;>simp
 have h1:(0:Int)<(s.opn.length:Int):=by omega
 have h2:(1:Int)<(nw:Int):=by omega
 have h3:decide ((s.opn.length:Int)-1<0)=false:=by simp;omega
 rw[hen]
 dsimp only
 refine wpL_step (fun K hK=>?_)
 clear hK
 conv=>arg 2;whnf
 go_wp2_with fail
 exact hE.out _ _ _ _ _ _ _ _ _ _ _ _ _ _ _ _ _ _ _ _ _ _ _ _ _ _ _ _ _ _ _ _ _ _ _ _ _ _ _ _ _ _ _ _ _ _ _ _ _ _ _ _ _ _ _ _ _ _ _ _ _ _ _ _ _ _ _ _ _ _ _ _ _ _ _ _ _ _ _ _ _ _ _ _ _ _ _ _ _ _ _ _ _ _ _ _ _ _ _ _ _ _ _ _ _ _ _ _ _ _ _ _ _ _ _ _ _ _ _ _ _ _ _ _ _ _ _ _ _ _ _ _ _ _ _ _ _ _ _ _ _ _ _ _ _ _ _ _ _ _ _ _ _ _ _ _ _ _ _ _ _ _ _ _ _ _ _ _ _ _ _ _ _ _ _ _ _ _ _ _ _ _ _ _ _ _ _ _ _ _ _ _ _ _ _ _ _ _ _ _ _ _ _ _ _ _ _ _ _ _ _ _ _ _ _ _ _ _ _ _ _ _ _ _ _ _ _ _ _ _ _ _ _ _ _ _ _ _ _ _ _ _ (hst.1 HR.out) hB3
end Go.Proofs.YtpkjmdcabdplfaaGreatDoor
