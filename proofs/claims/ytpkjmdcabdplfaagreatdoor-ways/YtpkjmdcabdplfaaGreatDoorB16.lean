import Derived.Test.YtpkjmdcabdplfaaGreatDoorB11
set_option linter.unusedVariables false
set_option linter.unusedSimpArgs false
namespace Go.Proofs.YtpkjmdcabdplfaaGreatDoor
open Go Go.RowKit
set_option maxRecDepth 100000
set_option maxRecDepth 1000000 in
set_option maxHeartbeats 12800000 in
theorem RdStF (w1 wr:World) (B:Nat) (rows:List ByteArray) (n k gr capr:Nat) (s:R.St) (ta oa:Option Addr) (tc oc:Nat) (tvs ovs:List Value) (G:List Nat) (H:Hid (RS w1 B rows n k s (.slice ta s.ts.length tc) (.slice oa s.opn.length oc) tvs ovs G wr)) (hlt:k<n) (hn:n<10000) (hr:rows.length=n+1) (hBw:w1.heap.size=B) (gw nw capw:Nat) (x c:ByteArray) (r:List ByteArray) (w2:World) (hx:rows[k]?=some x) (hc:c.toList::r.map ByteArray.toList=P.splitAt 32 x.toList) (hw:Hid (WordsAt w2 gw 0 (c::r))) (hnw:r.length+1=nw) (hcw:nw≤capw) (hn2:nw<10000) (hgw:gw<w2.heap.size) (B2:Below wr.heap.size wr w2) (hth:(c.toList==[116,104,114,101,97,100])=false) (bt m gx:Nat) (w3:World) (hta:ta=some ⟨bt,0,none⟩) (hm:s.ts.length=m+1) (hX:Hid (LnAt w3 gx R.z0 (.slice none 0 0))) (B3:Below w2.heap.size w2 w3) (hgx:w2.heap.size≤gx) (hen:(c.toList==[101,110,100])=false) (hif:(c.toList==[105,102])=false) (hcc:s.count<8) (hff:(R.stmt c r).2=true) (hib:((R.stmt c r).1.op.toList==[98,97,114,114,105,101,114])=true) (hol:0<s.opn.length) (hin:s.inner=0) (K0:Act→World→Prop) (Q0:Exit→Act→World→Prop) (c0 c1 c2 c3 c4 v13 v14 v17 v18 v19 v20 v21 v22 v23 v24 v25 v26 v27 c28 c29 c30 c31 c32 c33 c34 c35 v36 v37 v38 v39 v40 v41 v42 v43 v44 v45 v46 v47 v48 v49 v50 v51 v52 v53 v54 v55 v56 v57 v58 v59 v60 v61 v62 v63 v64 v65 v66 v67 v68 v69 v70 v71 v72 v73 v74 v75 v76 v77 v78 v79 v80 v81 v82 v83 v84 v85 v86 v87 v88 v89 v90 v91 v92 v94 v95 v96 v97 v98 v99 v100 v101 v102 v103 v104 v105 v106 v107 v108 v109 v110 v111 v112 v113 v114 v115 v116 v117 v118 v119 v120 v121 v122 v123 v124 v125 v126 v127 v128 v129 v130 v131 v132 v133 v134 v135 v136 v137 v138 v139 v140 v141 v142 v143 v144 v145 v146 v147 v148 v149 v150 v151 v152 v153 v154 v155 v156 v157 v158 v159 v160 v161 v162 v163 v164 v165 v166 v167 v168 v169 v170 v171 v172 v173 v174 v175 v176 v177 v178 v179 v180 v181 v182 v183 v184 v185 v186 v187 v188 v189 v190 v191 v192 v193 v194 v195 v196 v197 v198 v199 v200 v201 v202 v203 v204 v205 v206 v207 v208 v209 v210 v211 v212 v213 v214 v215 c216 c217 c218 c219 c220 c221 c222 c223 c224 c225 c226 c227 c228 c229 c230 c231 c232 c233 c234 c235 c236 c237 c238 c239 c240 c241 c242 c243:Value)
  (hKd:Hid (∀ (s2:R.St) (xl:R.Lh) (b:List R.Tree) (bv:Value) (oa2:Option Addr) (oc2:Nat) (ovs2:List Value) (G2 F:List Nat) (w4:World) (c0 c1 c2 c3 c4 v12 v13 v14 v17 v18 v19 v20 v21 v22 v23 v24 v25 v26 v27 c28 c29 c30 c31 c32 c33 c34 c35 v36 v37 v38 v39 v40 v41 v42 v43 v44 v45 v46 v47 v48 v49 v50 v51 v52 v53 v54 v55 v56 v57 v58 v59 v60 v61 v62 v63 v64 v65 v66 v67 v68 v69 v70 v71 v72 v73 v74 v75 v76 v77 v78 v79 v80 v81 v82 v83 v84 v85 v86 v87 v88 v89 v90 v91 v92 v93 v94 v95 v96 v97 v98 v99 v100 v101 v102 v103 v104 v105 v106 v107 v108 v109 v110 v111 v112 v113 v114 v115 v116 v117 v118 v119 v120 v121 v122 v123 v124 v125 v126 v127 v128 v129 v130 v131 v132 v133 v134 v135 v136 v137 v138 v139 v140 v141 v142 v143 v144 v145 v146 v147 v148 v149 v150 v151 v152 v153 v154 v155 v156 v157 v158 v159 v160 v161 v162 v163 v164 v165 v166 v167 v168 v169 v170 v171 v172 v173 v174 v175 v176 v177 v178 v179 v180 v181 v182 v183 v184 v185 v186 v187 v188 v189 v190 v191 v192 v193 v194 v195 v196 v197 v198 v199 v200 v201 v202 v203 v204 v205 v206 v207 v208 v209 v210 v211 v212 v213 v214 v215 c216 c217 c218 c219 c220 c221 c222 c223 c224 c225 c226 c227 c228 c229 c230 c231 c232 c233 c234 c235 c236 c237 c238 c239 c240 c241 c242 c243:Value),RdM w4 B (.slice (some ⟨bt,0,none⟩) (m+1) tc) (.slice oa2 s2.opn.length oc2) s.ts s2.opn tvs ovs2 G2→s2.ts=s.ts→LnAt w4 gx xl bv→LinesAt w4 B bv b F→(∀ j∈F,j ∉ G2)→R.step s ((k:Int)+1) c r=some (R.put s2 (.mk xl b))→R.SzS (R.put s2 (.mk xl b))→Below B w1 w4→wpL Tryz.prog [(stmOf (inOf (stmOf (bodyOf Tryz.f7) 2)) 9),(stmOf (inOf (stmOf (bodyOf Tryz.f7) 2)) 10),(stmOf (inOf (stmOf (bodyOf Tryz.f7) 2)) 11)] (Exit.inBlock 1 (Exit.then K0 Q0)) ⟨#[c0,c1,c2,c3,c4,.slice (some ⟨gr,0,none⟩) (n+1) capr,.int .i64 (n:Int),.slice (some ⟨bt,0,none⟩) (m+1) tc,.slice oa2 s2.opn.length oc2,.int .i64 s2.count,.int .i64 s2.inner,.int .i64 (k:Int),v12,v13,v14,.pointer (some ⟨bt,m*3,none⟩),.pointer (some ⟨gx,0,none⟩),v17,v18,v19,v20,v21,v22,v23,v24,v25,v26,v27,c28,c29,c30,c31,c32,c33,c34,c35,v36,v37,v38,v39,v40,v41,v42,v43,v44,v45,v46,v47,v48,v49,v50,v51,v52,v53,v54,v55,v56,v57,v58,v59,v60,v61,v62,v63,v64,v65,v66,v67,v68,v69,v70,v71,v72,v73,v74,v75,v76,v77,v78,v79,v80,v81,v82,v83,v84,v85,v86,v87,v88,v89,v90,v91,v92,v93,v94,v95,v96,v97,v98,v99,v100,v101,v102,v103,v104,v105,v106,v107,v108,v109,v110,v111,v112,v113,v114,v115,v116,v117,v118,v119,v120,v121,v122,v123,v124,v125,v126,v127,v128,v129,v130,v131,v132,v133,v134,v135,v136,v137,v138,v139,v140,v141,v142,v143,v144,v145,v146,v147,v148,v149,v150,v151,v152,v153,v154,v155,v156,v157,v158,v159,v160,v161,v162,v163,v164,v165,v166,v167,v168,v169,v170,v171,v172,v173,v174,v175,v176,v177,v178,v179,v180,v181,v182,v183,v184,v185,v186,v187,v188,v189,v190,v191,v192,v193,v194,v195,v196,v197,v198,v199,v200,v201,v202,v203,v204,v205,v206,v207,v208,v209,v210,v211,v212,v213,v214,v215,c216,c217,c218,c219,c220,c221,c222,c223,c224,c225,c226,c227,c228,c229,c230,c231,c232,c233,c234,c235,c236,c237,c238,c239,c240,c241,c242,c243],[]⟩ w4)) :
  wpL Tryz.prog [(stmOf (inOf (stmOf (bodyOf Tryz.f7) 2)) 8),(stmOf (inOf (stmOf (bodyOf Tryz.f7) 2)) 9),(stmOf (inOf (stmOf (bodyOf Tryz.f7) 2)) 10),(stmOf (inOf (stmOf (bodyOf Tryz.f7) 2)) 11)] (Exit.inBlock 1 (Exit.then K0 Q0)) ⟨#[c0,c1,c2,c3,c4,.slice (some ⟨gr,0,none⟩) (n+1) capr,.int .i64 (n:Int),.slice (some ⟨bt,0,none⟩) (m+1) tc,.slice oa s.opn.length oc,.int .i64 s.count,.int .i64 s.inner,.int .i64 (k:Int),.slice (some ⟨gw,0,none⟩) nw capw,v13,v14,.pointer (some ⟨bt,m*3,none⟩),.pointer (some ⟨gx,0,none⟩),v17,v18,v19,v20,v21,v22,v23,v24,v25,v26,v27,c28,c29,c30,c31,c32,c33,c34,c35,v36,v37,v38,v39,v40,v41,v42,v43,v44,v45,v46,v47,v48,v49,v50,v51,v52,v53,v54,v55,v56,v57,v58,v59,v60,v61,v62,v63,v64,v65,v66,v67,v68,v69,v70,v71,v72,v73,v74,v75,v76,v77,v78,v79,v80,v81,v82,v83,v84,v85,v86,v87,v88,v89,v90,v91,v92,.bool (c.toList==[101,110,100]),v94,v95,v96,v97,v98,v99,v100,v101,v102,v103,v104,v105,v106,v107,v108,v109,v110,v111,v112,v113,v114,v115,v116,v117,v118,v119,v120,v121,v122,v123,v124,v125,v126,v127,v128,v129,v130,v131,v132,v133,v134,v135,v136,v137,v138,v139,v140,v141,v142,v143,v144,v145,v146,v147,v148,v149,v150,v151,v152,v153,v154,v155,v156,v157,v158,v159,v160,v161,v162,v163,v164,v165,v166,v167,v168,v169,v170,v171,v172,v173,v174,v175,v176,v177,v178,v179,v180,v181,v182,v183,v184,v185,v186,v187,v188,v189,v190,v191,v192,v193,v194,v195,v196,v197,v198,v199,v200,v201,v202,v203,v204,v205,v206,v207,v208,v209,v210,v211,v212,v213,v214,v215,c216,c217,c218,c219,c220,c221,c222,c223,c224,c225,c226,c227,c228,c229,c230,c231,c232,c233,c234,c235,c236,c237,c238,c239,c240,c241,c242,c243],[]⟩ w3:=by
 have hB:B≤wr.heap.size:=by have:=H.out.bel.size;omega
 have hsz:=H.out.sz
 have q1:=hsz.nth
 have q2:=hsz.nop
 have q3:=hsz.cnt
 have q4:0≤s.count:=by have:=hsz.sum;have:=R.lastSz_nn s.ts;have:=R.opnSz_nn s.opn;omega
 have q5:=H.out.in0
 have q6:=H.out.in1
 have hBl:Below B w1 w2:=H.out.bel.trans (B2.mono (by have:=H.out.bel.size;omega))
 have hst:=H.out.step hlt hr hx hc
 obtain⟨d0,_,hw1⟩:=hw.out.head
 have HS:Hid (R.step s ((k:Int)+1) c r=if s.ts.isEmpty then none else if c.toList==[101,110,100] then R.ends s r else if c.toList==[105,102] then R.branch s r else R.one s ((k:Int)+1) c r):=by unfold Hid R.step;rw[hth];rfl
 have hts:s.ts.isEmpty=false:=by
  cases e:s.ts with
  | nil=>rw[e] at hm;simp at hm
  | cons a b=>rfl
 have hB3:Below B w1 w3:=hBl.trans (B3.mono (by have:=hBl.size;omega))
 have hw3:WordsAt w3 gw 0 (c::r):=hw.out.below B3
 have hgw3:gw<w3.heap.size:=by have:=B3.size;omega
 obtain⟨dd0,_,hw31⟩:=hw3.head
 have hxl:=hX.out.lt
 have hm2:=H.out.mem.keep (w':=w2) (fun j hj=>B2.block j hj)
 subst hta
 rw[hm] at hm2
 have HM2:=hide hm2
 have HM:=hide (hm2.keep (w':=w3) (fun j hj=>B3.block j hj))
 have hBg:B≤gx:=by have:=hBl.size;omega
 clear hm2
 have HS2:Hid (R.step s ((k:Int)+1) c r=R.one s ((k:Int)+1) c r):=by unfold Hid;rw[HS.out,hts,hen,hif];rfl
 have HST:Hid (∀ w4:World,Below w3.heap.size w3 w4→Calls Tryz.prog 16 #[.slice (some ⟨gw,0,none⟩) nw capw] w4 fun e w'=>e=.returned (.tuple #[.agg #[.string (R.stmt c r).1.op,.int .i64 (R.stmt c r).1.reg,.int .i64 (R.stmt c r).1.var,.int .i64 (R.stmt c r).1.a,.int .i64 (R.stmt c r).1.b,.string (R.stmt c r).1.sign,.string (R.stmt c r).1.ord,.string (R.stmt c r).1.scope,.slice none 0 0],.bool (R.stmt c r).2])∧Below w4.heap.size w4 w'):=fun w4 hb4 =>
  rst_any gw 0 nw capw c r w4 (hw3.below hb4) (by simpa using hnw) hcw (by have:=hb4.size;omega)
 have HR:Hid (R.step s ((k:Int)+1) c r=some (R.put { s with count:=s.count+1,inner:=(k:Int)+1 } (.mk (R.stmt c r).1 []))):=by
  unfold Hid;rw[HS2.out];unfold R.one
  have e1:(decide (s.count<8)&&(R.stmt c r).2)=true:=by simp[hcc,hff]
  have e2:(R.isB (R.stmt c r).1&&!s.opn.isEmpty&&s.inner==0)=true:=by
   have e:s.opn≠[]:=List.length_pos_iff.1 hol
   simp[R.isB,R.sBarrier,lit_toList,hib,hin,e]
  simp only[e1,e2,if_true]
 have hli:(0:Int)<(s.opn.length:Int):=by omega
 have HSZ:=hide (R.step_sz hsz HR.out)
 have hcd:decide (s.count+1≤8)=true:=by simp;omega
 rw[hen]
 dsimp only
 refine wpL_step (fun K hK=>?_)
 have HK:=hide hK
 clear hK
 conv=>arg 2;whnf
 go_wp2_with (first
  | (go_at_call 16;refine (HST.out _ (Below.refl _ _)).mono ?_;rintro e w4 ⟨rfl,hb4⟩;have hX4:=hX.out.below hb4;have HX4:=hide hX4;have hb4s:=hb4.size;dsimp only)
  | (refine wpList_load_ln (.tmp 22) rfl rfl w4.heap.size (R.stmt c r).1 (.slice none 0 0) rfl (by exact LnAt.new w4 (R.stmt c r).1 (.slice none 0 0)) ?_)
  | (refine wpList_store_ln (.tmp 16) (.tmp 164) rfl rfl gx R.z0 (R.stmt c r).1 (.slice none 0 0) (.slice none 0 0) rfl rfl rfl (by exact HX4.out.alloc _) ?_;intro w5 hx5 hg5;have HX5:=hide hx5;obtain⟨_,_,l0,l1,l2,l3,l4,l5,l6,l7,l8⟩:=hx5.facts;have G5:=hide hg5;clear hx5 hg5 l1 l2 l3 l4 l5 l6 l7 l8))
 refine HK.out _ _ ?_
 clear HK
 have hB5:Below B w1 w5:=by
  subst hBw
  exact below_of_new ((hB3.trans (hb4.mono (by have:=hB3.size;omega))).alloc (by have:=hB3.size;omega) _) G5.out hBg
 have far:∀ j,j<w2.heap.size→w5.heap[j]?=w2.heap[j]?:=fun j hj=>by
  have:=B3.size
  rw[G5.out.block j (by simp;omega) (by simp;omega),Below.heap_alloc _ _ _ (by omega),hb4.block j (by omega),B3.block j hj]
 exact hKd.out { s with count:=s.count+1,inner:=((k:Int)+1) } (R.stmt c r).1 [] (.slice none 0 0) _ _ ovs G [] _ _ _ _ _ _ _ _ _ _ _ _ _ _ _ _ _ _ _ _ _ _ _ _ _ _ _ _ _ _ _ _ _ _ _ _ _ _ _ _ _ _ _ _ _ _ _ _ _ _ _ _ _ _ _ _ _ _ _ _ _ _ _ _ _ _ _ _ _ _ _ _ _ _ _ _ _ _ _ _ _ _ _ _ _ _ _ _ _ _ _ _ _ _ _ _ _ _ _ _ _ _ _ _ _ _ _ _ _ _ _ _ _ _ _ _ _ _ _ _ _ _ _ _ _ _ _ _ _ _ _ _ _ _ _ _ _ _ _ _ _ _ _ _ _ _ _ _ _ _ _ _ _ _ _ _ _ _ _ _ _ _ _ _ _ _ _ _ _ _ _ _ _ _ _ _ _ _ _ _ _ _ _ _ _ _ _ _ _ _ _ _ _ _ _ _ _ _ _ _ _ _ _ _ _ _ _ _ _ _ _ _ _ _ _ _ _ _ _ _ _ _ _ _ _ _ _ _ _ _ _ _ _ _ _ _ (HM2.out.keep far) rfl HX5.out (LinesAt.nil _ _) (by simp) HR.out HSZ.out hB5
set_option maxRecDepth 1000000 in
set_option maxHeartbeats 12800000 in
theorem RdIfA (w1 wr:World) (B:Nat) (rows:List ByteArray) (n k gr capr:Nat) (s:R.St) (ta oa:Option Addr) (tc oc:Nat) (tvs ovs:List Value) (G:List Nat) (H:Hid (RS w1 B rows n k s (.slice ta s.ts.length tc) (.slice oa s.opn.length oc) tvs ovs G wr)) (hlt:k<n) (hn:n<10000) (hr:rows.length=n+1) (hBw:w1.heap.size=B) (gw nw capw:Nat) (x c:ByteArray) (r:List ByteArray) (w2:World) (hx:rows[k]?=some x) (hc:c.toList::r.map ByteArray.toList=P.splitAt 32 x.toList) (hw:Hid (WordsAt w2 gw 0 (c::r))) (hnw:r.length+1=nw) (hcw:nw≤capw) (hn2:nw<10000) (hgw:gw<w2.heap.size) (B2:Below wr.heap.size wr w2) (hth:(c.toList==[116,104,114,101,97,100])=false) (bt m gx:Nat) (w3:World) (hta:ta=some ⟨bt,0,none⟩) (hm:s.ts.length=m+1) (hX:Hid (LnAt w3 gx R.z0 (.slice none 0 0))) (B3:Below w2.heap.size w2 w3) (hgx:w2.heap.size≤gx) (hen:(c.toList==[101,110,100])=false) (hif:(c.toList==[105,102])=true) (hcc:¬ s.count<8) (K0:Act→World→Prop) (Q0:Exit→Act→World→Prop) (c0 c1 c2 c3 c4 v13 v14 v17 v18 v19 v20 v21 v22 v23 v24 v25 v26 v27 c28 c29 c30 c31 c32 c33 c34 c35 v36 v37 v38 v39 v40 v41 v42 v43 v44 v45 v46 v47 v48 v49 v50 v51 v52 v53 v54 v55 v56 v57 v58 v59 v60 v61 v62 v63 v64 v65 v66 v67 v68 v69 v70 v71 v72 v73 v74 v75 v76 v77 v78 v79 v80 v81 v82 v83 v84 v85 v86 v87 v88 v89 v90 v91 v92 v94 v95 v96 v97 v98 v99 v100 v101 v102 v103 v104 v105 v106 v107 v108 v109 v110 v111 v112 v113 v114 v115 v116 v117 v118 v119 v120 v121 v122 v123 v124 v125 v126 v127 v128 v129 v130 v131 v132 v133 v134 v135 v136 v137 v138 v139 v140 v141 v142 v143 v144 v145 v146 v147 v148 v149 v150 v151 v152 v153 v154 v155 v156 v157 v158 v159 v160 v161 v162 v163 v164 v165 v166 v167 v168 v169 v170 v171 v172 v173 v174 v175 v176 v177 v178 v179 v180 v181 v182 v183 v184 v185 v186 v187 v188 v189 v190 v191 v192 v193 v194 v195 v196 v197 v198 v199 v200 v201 v202 v203 v204 v205 v206 v207 v208 v209 v210 v211 v212 v213 v214 v215 c216 c217 c218 c219 c220 c221 c222 c223 c224 c225 c226 c227 c228 c229 c230 c231 c232 c233 c234 c235 c236 c237 c238 c239 c240 c241 c242 c243:Value)
  (hE:Hid (∀ (c0 c1 v5 v6 v7 v8 v9 v10 v11 v12 v13 v14 v15 v16 v17 v18 v19 v20 v21 v22 v23 v24 v25 v26 v27 c28 c29 c30 c31 c32 c33 c34 c35 v36 v37 v38 v39 v40 v41 v42 v43 v44 v45 v46 v47 v48 v49 v50 v51 v52 v53 v54 v55 v56 v57 v58 v59 v60 v61 v62 v63 v64 v65 v66 v67 v68 v69 v70 v71 v72 v73 v74 v75 v76 v77 v78 v79 v80 v81 v82 v83 v84 v85 v86 v87 v88 v89 v90 v91 v92 v93 v94 v95 v96 v97 v98 v99 v100 v101 v102 v103 v104 v105 v106 v107 v108 v109 v110 v111 v112 v113 v114 v115 v116 v117 v118 v119 v120 v121 v122 v123 v124 v125 v126 v127 v128 v129 v130 v131 v132 v133 v134 v135 v136 v137 v138 v139 v140 v141 v142 v143 v144 v145 v146 v147 v148 v149 v150 v151 v152 v153 v154 v155 v156 v157 v158 v159 v160 v161 v162 v163 v164 v165 v166 v167 v168 v169 v170 v171 v172 v173 v174 v175 v176 v177 v178 v179 v180 v181 v182 v183 v184 v185 v186 v187 v188 v189 v190 v191 v192 v193 v194 v195 v196 v197 v198 v199 v200 v201 v202 v203 v204 v205 v206 v207 v208 v209 v210 v211 v212 v213 v214 v215 c216 c217 c218 c219 c220 c221 c222 c223 c224 c225 c226 c227 c228 c229 c230 c231 c232 c233 c234 c235 c236 c237 c238 c239 c240 c241 c242 c243:Value) (w3:World),R.run R.St.zero 0 ((rows.map ByteArray.toList).take n)=(none,(k:Int)+1)→Below B w1 w3→Q0 .ret ⟨#[c0,c1,.slice none 0 0,.int .i64 2,.int .i64 ((k:Int)+1),v5,v6,v7,v8,v9,v10,v11,v12,v13,v14,v15,v16,v17,v18,v19,v20,v21,v22,v23,v24,v25,v26,v27,c28,c29,c30,c31,c32,c33,c34,c35,v36,v37,v38,v39,v40,v41,v42,v43,v44,v45,v46,v47,v48,v49,v50,v51,v52,v53,v54,v55,v56,v57,v58,v59,v60,v61,v62,v63,v64,v65,v66,v67,v68,v69,v70,v71,v72,v73,v74,v75,v76,v77,v78,v79,v80,v81,v82,v83,v84,v85,v86,v87,v88,v89,v90,v91,v92,v93,v94,v95,v96,v97,v98,v99,v100,v101,v102,v103,v104,v105,v106,v107,v108,v109,v110,v111,v112,v113,v114,v115,v116,v117,v118,v119,v120,v121,v122,v123,v124,v125,v126,v127,v128,v129,v130,v131,v132,v133,v134,v135,v136,v137,v138,v139,v140,v141,v142,v143,v144,v145,v146,v147,v148,v149,v150,v151,v152,v153,v154,v155,v156,v157,v158,v159,v160,v161,v162,v163,v164,v165,v166,v167,v168,v169,v170,v171,v172,v173,v174,v175,v176,v177,v178,v179,v180,v181,v182,v183,v184,v185,v186,v187,v188,v189,v190,v191,v192,v193,v194,v195,v196,v197,v198,v199,v200,v201,v202,v203,v204,v205,v206,v207,v208,v209,v210,v211,v212,v213,v214,v215,c216,c217,c218,c219,c220,c221,c222,c223,c224,c225,c226,c227,c228,c229,c230,c231,c232,c233,c234,c235,c236,c237,c238,c239,c240,c241,c242,c243],[]⟩ w3)) :
  wpL Tryz.prog [(stmOf (inOf (stmOf (bodyOf Tryz.f7) 2)) 8),(stmOf (inOf (stmOf (bodyOf Tryz.f7) 2)) 9),(stmOf (inOf (stmOf (bodyOf Tryz.f7) 2)) 10),(stmOf (inOf (stmOf (bodyOf Tryz.f7) 2)) 11)] (Exit.inBlock 1 (Exit.then K0 Q0)) ⟨#[c0,c1,c2,c3,c4,.slice (some ⟨gr,0,none⟩) (n+1) capr,.int .i64 (n:Int),.slice (some ⟨bt,0,none⟩) (m+1) tc,.slice oa s.opn.length oc,.int .i64 s.count,.int .i64 s.inner,.int .i64 (k:Int),.slice (some ⟨gw,0,none⟩) nw capw,v13,v14,.pointer (some ⟨bt,m*3,none⟩),.pointer (some ⟨gx,0,none⟩),v17,v18,v19,v20,v21,v22,v23,v24,v25,v26,v27,c28,c29,c30,c31,c32,c33,c34,c35,v36,v37,v38,v39,v40,v41,v42,v43,v44,v45,v46,v47,v48,v49,v50,v51,v52,v53,v54,v55,v56,v57,v58,v59,v60,v61,v62,v63,v64,v65,v66,v67,v68,v69,v70,v71,v72,v73,v74,v75,v76,v77,v78,v79,v80,v81,v82,v83,v84,v85,v86,v87,v88,v89,v90,v91,v92,.bool (c.toList==[101,110,100]),v94,v95,v96,v97,v98,v99,v100,v101,v102,v103,v104,v105,v106,v107,v108,v109,v110,v111,v112,v113,v114,v115,v116,v117,v118,v119,v120,v121,v122,v123,v124,v125,v126,v127,v128,v129,v130,v131,v132,v133,v134,v135,v136,v137,v138,v139,v140,v141,v142,v143,v144,v145,v146,v147,v148,v149,v150,v151,v152,v153,v154,v155,v156,v157,v158,v159,v160,v161,v162,v163,v164,v165,v166,v167,v168,v169,v170,v171,v172,v173,v174,v175,v176,v177,v178,v179,v180,v181,v182,v183,v184,v185,v186,v187,v188,v189,v190,v191,v192,v193,v194,v195,v196,v197,v198,v199,v200,v201,v202,v203,v204,v205,v206,v207,v208,v209,v210,v211,v212,v213,v214,v215,c216,c217,c218,c219,c220,c221,c222,c223,c224,c225,c226,c227,c228,c229,c230,c231,c232,c233,c234,c235,c236,c237,c238,c239,c240,c241,c242,c243],[]⟩ w3:=by
 have hB:B≤wr.heap.size:=by have:=H.out.bel.size;omega
 have hsz:=H.out.sz
 have q1:=hsz.nth
 have q2:=hsz.nop
 have q3:=hsz.cnt
 have q4:0≤s.count:=by have:=hsz.sum;have:=R.lastSz_nn s.ts;have:=R.opnSz_nn s.opn;omega
 have q5:=H.out.in0
 have q6:=H.out.in1
 have hBl:Below B w1 w2:=H.out.bel.trans (B2.mono (by have:=H.out.bel.size;omega))
 have hst:=H.out.step hlt hr hx hc
 obtain⟨d0,_,hw1⟩:=hw.out.head
 have HS:Hid (R.step s ((k:Int)+1) c r=if s.ts.isEmpty then none else if c.toList==[101,110,100] then R.ends s r else if c.toList==[105,102] then R.branch s r else R.one s ((k:Int)+1) c r):=by unfold Hid R.step;rw[hth];rfl
 have hts:s.ts.isEmpty=false:=by
  cases e:s.ts with
  | nil=>rw[e] at hm;simp at hm
  | cons a b=>rfl
 have hB3:Below B w1 w3:=hBl.trans (B3.mono (by have:=hBl.size;omega))
 have hw3:WordsAt w3 gw 0 (c::r):=hw.out.below B3
 have hgw3:gw<w3.heap.size:=by have:=B3.size;omega
 obtain⟨dd0,_,hw31⟩:=hw3.head
 have hxl:=hX.out.lt
 have hm2:=H.out.mem.keep (w':=w2) (fun j hj=>B2.block j hj)
 subst hta
 rw[hm] at hm2
 have HM2:=hide hm2
 have HM:=hide (hm2.keep (w':=w3) (fun j hj=>B3.block j hj))
 have hBg:B≤gx:=by have:=hBl.size;omega
 clear hm2
 have HS2:Hid (R.step s ((k:Int)+1) c r=R.branch s r):=by unfold Hid;rw[HS.out,hts,hen,hif];rfl
 have HR:Hid (R.step s ((k:Int)+1) c r=none):=by
  unfold Hid;rw[HS2.out];unfold R.branch
  split
  ·have:decide (s.count<8)=false:=by simpa using hcc
   simp[this]
  ·rfl
 have hcd:decide (s.count+1≤8)=false:=by simp;omega
 rw[hen]
 dsimp only
 refine wpL_step (fun K hK=>?_)
 clear hK
 conv=>arg 2;whnf
 go_wp2_with fail
 exact hE.out _ _ _ _ _ _ _ _ _ _ _ _ _ _ _ _ _ _ _ _ _ _ _ _ _ _ _ _ _ _ _ _ _ _ _ _ _ _ _ _ _ _ _ _ _ _ _ _ _ _ _ _ _ _ _ _ _ _ _ _ _ _ _ _ _ _ _ _ _ _ _ _ _ _ _ _ _ _ _ _ _ _ _ _ _ _ _ _ _ _ _ _ _ _ _ _ _ _ _ _ _ _ _ _ _ _ _ _ _ _ _ _ _ _ _ _ _ _ _ _ _ _ _ _ _ _ _ _ _ _ _ _ _ _ _ _ _ _ _ _ _ _ _ _ _ _ _ _ _ _ _ _ _ _ _ _ _ _ _ _ _ _ _ _ _ _ _ _ _ _ _ _ _ _ _ _ _ _ _ _ _ _ _ _ _ _ _ _ _ _ _ _ _ _ _ _ _ _ _ _ _ _ _ _ _ _ _ _ _ _ _ _ _ _ _ _ _ _ _ _ _ _ _ _ _ _ _ _ _ _ _ _ _ _ _ _ _ _ _ _ _ _ (hst.1 HR.out) hB3
set_option maxRecDepth 1000000 in
set_option maxHeartbeats 12800000 in
theorem RdIfB (w1 wr:World) (B:Nat) (rows:List ByteArray) (n k gr capr:Nat) (s:R.St) (ta oa:Option Addr) (tc oc:Nat) (tvs ovs:List Value) (G:List Nat) (H:Hid (RS w1 B rows n k s (.slice ta s.ts.length tc) (.slice oa s.opn.length oc) tvs ovs G wr)) (hlt:k<n) (hn:n<10000) (hr:rows.length=n+1) (hBw:w1.heap.size=B) (gw nw capw:Nat) (x c:ByteArray) (r:List ByteArray) (w2:World) (hx:rows[k]?=some x) (hc:c.toList::r.map ByteArray.toList=P.splitAt 32 x.toList) (hw:Hid (WordsAt w2 gw 0 (c::r))) (hnw:r.length+1=nw) (hcw:nw≤capw) (hn2:nw<10000) (hgw:gw<w2.heap.size) (B2:Below wr.heap.size wr w2) (hth:(c.toList==[116,104,114,101,97,100])=false) (bt m gx:Nat) (w3:World) (hta:ta=some ⟨bt,0,none⟩) (hm:s.ts.length=m+1) (hX:Hid (LnAt w3 gx R.z0 (.slice none 0 0))) (B3:Below w2.heap.size w2 w3) (hgx:w2.heap.size≤gx) (hen:(c.toList==[101,110,100])=false) (hif:(c.toList==[105,102])=true) (hcc:s.count<8) (hrr:r.length≠1) (K0:Act→World→Prop) (Q0:Exit→Act→World→Prop) (c0 c1 c2 c3 c4 v13 v14 v17 v18 v19 v20 v21 v22 v23 v24 v25 v26 v27 c28 c29 c30 c31 c32 c33 c34 c35 v36 v37 v38 v39 v40 v41 v42 v43 v44 v45 v46 v47 v48 v49 v50 v51 v52 v53 v54 v55 v56 v57 v58 v59 v60 v61 v62 v63 v64 v65 v66 v67 v68 v69 v70 v71 v72 v73 v74 v75 v76 v77 v78 v79 v80 v81 v82 v83 v84 v85 v86 v87 v88 v89 v90 v91 v92 v94 v95 v96 v97 v98 v99 v100 v101 v102 v103 v104 v105 v106 v107 v108 v109 v110 v111 v112 v113 v114 v115 v116 v117 v118 v119 v120 v121 v122 v123 v124 v125 v126 v127 v128 v129 v130 v131 v132 v133 v134 v135 v136 v137 v138 v139 v140 v141 v142 v143 v144 v145 v146 v147 v148 v149 v150 v151 v152 v153 v154 v155 v156 v157 v158 v159 v160 v161 v162 v163 v164 v165 v166 v167 v168 v169 v170 v171 v172 v173 v174 v175 v176 v177 v178 v179 v180 v181 v182 v183 v184 v185 v186 v187 v188 v189 v190 v191 v192 v193 v194 v195 v196 v197 v198 v199 v200 v201 v202 v203 v204 v205 v206 v207 v208 v209 v210 v211 v212 v213 v214 v215 c216 c217 c218 c219 c220 c221 c222 c223 c224 c225 c226 c227 c228 c229 c230 c231 c232 c233 c234 c235 c236 c237 c238 c239 c240 c241 c242 c243:Value)
  (hE:Hid (∀ (c0 c1 v5 v6 v7 v8 v9 v10 v11 v12 v13 v14 v15 v16 v17 v18 v19 v20 v21 v22 v23 v24 v25 v26 v27 c28 c29 c30 c31 c32 c33 c34 c35 v36 v37 v38 v39 v40 v41 v42 v43 v44 v45 v46 v47 v48 v49 v50 v51 v52 v53 v54 v55 v56 v57 v58 v59 v60 v61 v62 v63 v64 v65 v66 v67 v68 v69 v70 v71 v72 v73 v74 v75 v76 v77 v78 v79 v80 v81 v82 v83 v84 v85 v86 v87 v88 v89 v90 v91 v92 v93 v94 v95 v96 v97 v98 v99 v100 v101 v102 v103 v104 v105 v106 v107 v108 v109 v110 v111 v112 v113 v114 v115 v116 v117 v118 v119 v120 v121 v122 v123 v124 v125 v126 v127 v128 v129 v130 v131 v132 v133 v134 v135 v136 v137 v138 v139 v140 v141 v142 v143 v144 v145 v146 v147 v148 v149 v150 v151 v152 v153 v154 v155 v156 v157 v158 v159 v160 v161 v162 v163 v164 v165 v166 v167 v168 v169 v170 v171 v172 v173 v174 v175 v176 v177 v178 v179 v180 v181 v182 v183 v184 v185 v186 v187 v188 v189 v190 v191 v192 v193 v194 v195 v196 v197 v198 v199 v200 v201 v202 v203 v204 v205 v206 v207 v208 v209 v210 v211 v212 v213 v214 v215 c216 c217 c218 c219 c220 c221 c222 c223 c224 c225 c226 c227 c228 c229 c230 c231 c232 c233 c234 c235 c236 c237 c238 c239 c240 c241 c242 c243:Value) (w3:World),R.run R.St.zero 0 ((rows.map ByteArray.toList).take n)=(none,(k:Int)+1)→Below B w1 w3→Q0 .ret ⟨#[c0,c1,.slice none 0 0,.int .i64 2,.int .i64 ((k:Int)+1),v5,v6,v7,v8,v9,v10,v11,v12,v13,v14,v15,v16,v17,v18,v19,v20,v21,v22,v23,v24,v25,v26,v27,c28,c29,c30,c31,c32,c33,c34,c35,v36,v37,v38,v39,v40,v41,v42,v43,v44,v45,v46,v47,v48,v49,v50,v51,v52,v53,v54,v55,v56,v57,v58,v59,v60,v61,v62,v63,v64,v65,v66,v67,v68,v69,v70,v71,v72,v73,v74,v75,v76,v77,v78,v79,v80,v81,v82,v83,v84,v85,v86,v87,v88,v89,v90,v91,v92,v93,v94,v95,v96,v97,v98,v99,v100,v101,v102,v103,v104,v105,v106,v107,v108,v109,v110,v111,v112,v113,v114,v115,v116,v117,v118,v119,v120,v121,v122,v123,v124,v125,v126,v127,v128,v129,v130,v131,v132,v133,v134,v135,v136,v137,v138,v139,v140,v141,v142,v143,v144,v145,v146,v147,v148,v149,v150,v151,v152,v153,v154,v155,v156,v157,v158,v159,v160,v161,v162,v163,v164,v165,v166,v167,v168,v169,v170,v171,v172,v173,v174,v175,v176,v177,v178,v179,v180,v181,v182,v183,v184,v185,v186,v187,v188,v189,v190,v191,v192,v193,v194,v195,v196,v197,v198,v199,v200,v201,v202,v203,v204,v205,v206,v207,v208,v209,v210,v211,v212,v213,v214,v215,c216,c217,c218,c219,c220,c221,c222,c223,c224,c225,c226,c227,c228,c229,c230,c231,c232,c233,c234,c235,c236,c237,c238,c239,c240,c241,c242,c243],[]⟩ w3)) :
  wpL Tryz.prog [(stmOf (inOf (stmOf (bodyOf Tryz.f7) 2)) 8),(stmOf (inOf (stmOf (bodyOf Tryz.f7) 2)) 9),(stmOf (inOf (stmOf (bodyOf Tryz.f7) 2)) 10),(stmOf (inOf (stmOf (bodyOf Tryz.f7) 2)) 11)] (Exit.inBlock 1 (Exit.then K0 Q0)) ⟨#[c0,c1,c2,c3,c4,.slice (some ⟨gr,0,none⟩) (n+1) capr,.int .i64 (n:Int),.slice (some ⟨bt,0,none⟩) (m+1) tc,.slice oa s.opn.length oc,.int .i64 s.count,.int .i64 s.inner,.int .i64 (k:Int),.slice (some ⟨gw,0,none⟩) nw capw,v13,v14,.pointer (some ⟨bt,m*3,none⟩),.pointer (some ⟨gx,0,none⟩),v17,v18,v19,v20,v21,v22,v23,v24,v25,v26,v27,c28,c29,c30,c31,c32,c33,c34,c35,v36,v37,v38,v39,v40,v41,v42,v43,v44,v45,v46,v47,v48,v49,v50,v51,v52,v53,v54,v55,v56,v57,v58,v59,v60,v61,v62,v63,v64,v65,v66,v67,v68,v69,v70,v71,v72,v73,v74,v75,v76,v77,v78,v79,v80,v81,v82,v83,v84,v85,v86,v87,v88,v89,v90,v91,v92,.bool (c.toList==[101,110,100]),v94,v95,v96,v97,v98,v99,v100,v101,v102,v103,v104,v105,v106,v107,v108,v109,v110,v111,v112,v113,v114,v115,v116,v117,v118,v119,v120,v121,v122,v123,v124,v125,v126,v127,v128,v129,v130,v131,v132,v133,v134,v135,v136,v137,v138,v139,v140,v141,v142,v143,v144,v145,v146,v147,v148,v149,v150,v151,v152,v153,v154,v155,v156,v157,v158,v159,v160,v161,v162,v163,v164,v165,v166,v167,v168,v169,v170,v171,v172,v173,v174,v175,v176,v177,v178,v179,v180,v181,v182,v183,v184,v185,v186,v187,v188,v189,v190,v191,v192,v193,v194,v195,v196,v197,v198,v199,v200,v201,v202,v203,v204,v205,v206,v207,v208,v209,v210,v211,v212,v213,v214,v215,c216,c217,c218,c219,c220,c221,c222,c223,c224,c225,c226,c227,c228,c229,c230,c231,c232,c233,c234,c235,c236,c237,c238,c239,c240,c241,c242,c243],[]⟩ w3:=by
 have hB:B≤wr.heap.size:=by have:=H.out.bel.size;omega
 have hsz:=H.out.sz
 have q1:=hsz.nth
 have q2:=hsz.nop
 have q3:=hsz.cnt
 have q4:0≤s.count:=by have:=hsz.sum;have:=R.lastSz_nn s.ts;have:=R.opnSz_nn s.opn;omega
 have q5:=H.out.in0
 have q6:=H.out.in1
 have hBl:Below B w1 w2:=H.out.bel.trans (B2.mono (by have:=H.out.bel.size;omega))
 have hst:=H.out.step hlt hr hx hc
 obtain⟨d0,_,hw1⟩:=hw.out.head
 have HS:Hid (R.step s ((k:Int)+1) c r=if s.ts.isEmpty then none else if c.toList==[101,110,100] then R.ends s r else if c.toList==[105,102] then R.branch s r else R.one s ((k:Int)+1) c r):=by unfold Hid R.step;rw[hth];rfl
 have hts:s.ts.isEmpty=false:=by
  cases e:s.ts with
  | nil=>rw[e] at hm;simp at hm
  | cons a b=>rfl
 have hB3:Below B w1 w3:=hBl.trans (B3.mono (by have:=hBl.size;omega))
 have hw3:WordsAt w3 gw 0 (c::r):=hw.out.below B3
 have hgw3:gw<w3.heap.size:=by have:=B3.size;omega
 obtain⟨dd0,_,hw31⟩:=hw3.head
 have hxl:=hX.out.lt
 have hm2:=H.out.mem.keep (w':=w2) (fun j hj=>B2.block j hj)
 subst hta
 rw[hm] at hm2
 have HM2:=hide hm2
 have HM:=hide (hm2.keep (w':=w3) (fun j hj=>B3.block j hj))
 have hBg:B≤gx:=by have:=hBl.size;omega
 clear hm2
 have HS2:Hid (R.step s ((k:Int)+1) c r=R.branch s r):=by unfold Hid;rw[HS.out,hts,hen,hif];rfl
 have HR:Hid (R.step s ((k:Int)+1) c r=none):=by
  unfold Hid;rw[HS2.out];unfold R.branch
  split
  ·simp at hrr
  ·rfl
 have hcd:decide (s.count+1≤8)=true:=by simp;omega
 have hnd:((nw:Int)==2)=false:=by simp;omega
 rw[hen]
 dsimp only
 refine wpL_step (fun K hK=>?_)
 clear hK
 conv=>arg 2;whnf
 go_wp2_with fail
 exact hE.out _ _ _ _ _ _ _ _ _ _ _ _ _ _ _ _ _ _ _ _ _ _ _ _ _ _ _ _ _ _ _ _ _ _ _ _ _ _ _ _ _ _ _ _ _ _ _ _ _ _ _ _ _ _ _ _ _ _ _ _ _ _ _ _ _ _ _ _ _ _ _ _ _ _ _ _ _ _ _ _ _ _ _ _ _ _ _ _ _ _ _ _ _ _ _ _ _ _ _ _ _ _ _ _ _ _ _ _ _ _ _ _ _ _ _ _ _ _ _ _ _ _ _ _ _ _ _ _ _ _ _ _ _ _ _ _ _ _ _ _ _ _ _ _ _ _ _ _ _ _ _ _ _ _ _ _ _ _ _ _ _ _ _ _ _ _ _ _ _ _ _ _ _ _ _ _ _ _ _ _ _ _ _ _ _ _ _ _ _ _ _ _ _ _ _ _ _ _ _ _ _ _ _ _ _ _ _ _ _ _ _ _ _ _ _ _ _ _ _ _ _ _ _ _ _ _ _ _ _ _ _ _ _ _ _ _ _ _ _ _ _ _ (hst.1 HR.out) hB3
end Go.Proofs.YtpkjmdcabdplfaaGreatDoor
