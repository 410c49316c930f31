import Derived.Laws.AppendOwnNone
import Derived.Deep.RegionLaw
import Derived.Test.YtpkjmdcabdplfaaGreatDoorB10
set_option linter.unusedVariables false
set_option linter.unusedSimpArgs false
namespace Go.Proofs.YtpkjmdcabdplfaaGreatDoor
open Go Go.RowKit
set_option maxRecDepth 100000
set_option maxRecDepth 1000000 in
set_option maxHeartbeats 12800000 in
theorem RdThD (w1 wr:World) (B:Nat) (rows:List ByteArray) (n k gr capr:Nat) (s:R.St) (ta oa:Option Addr) (tc oc:Nat) (tvs ovs:List Value) (G:List Nat) (H:Hid (RS w1 B rows n k s (.slice ta s.ts.length tc) (.slice oa s.opn.length oc) tvs ovs G wr)) (hlt:k<n) (hn:n<10000) (hr:rows.length=n+1) (hBw:w1.heap.size=B) (gw nw capw:Nat) (x c:ByteArray) (r:List ByteArray) (w2:World) (hx:rows[k]?=some x) (hc:c.toList::r.map ByteArray.toList=P.splitAt 32 x.toList) (hw:Hid (WordsAt w2 gw 0 (c::r))) (hnw:r.length+1=nw) (hcw:nw≤capw) (hn2:nw<10000) (hgw:gw<w2.heap.size) (B2:Below wr.heap.size wr w2) (hth:(c.toList==[116,104,114,101,97,100])=true) (d:ByteArray) (hd:r=[d]) (hb:¬ R.inn d.toList R.bl<0) (hcc:¬ 0<s.opn.length) (hc4:s.ts.length=4) (K0:Act→World→Prop) (Q0:Exit→Act→World→Prop) (c0 c1 c2 c3 c4 v13 v14 v15 v16 v17 v18 v19 v20 v21 v22 v23 v24 v25 v26 v27 c28 c29 c30 c31 c32 c33 c34 c35 v36 v37 v38 v39 v40 v41 v42 v43 v44 v45 v46 v47 v48 v50 v51 v52 v53 v54 v55 v56 v57 v58 v59 v60 v61 v62 v63 v64 v65 v66 v67 v68 v69 v70 v71 v72 v73 v74 v75 v76 v77 v78 v79 v80 v81 v82 v83 v84 v85 v86 v87 v88 v89 v90 v91 v92 v93 v94 v95 v96 v97 v98 v99 v100 v101 v102 v103 v104 v105 v106 v107 v108 v109 v110 v111 v112 v113 v114 v115 v116 v117 v118 v119 v120 v121 v122 v123 v124 v125 v126 v127 v128 v129 v130 v131 v132 v133 v134 v135 v136 v137 v138 v139 v140 v141 v142 v143 v144 v145 v146 v147 v148 v149 v150 v151 v152 v153 v154 v155 v156 v157 v158 v159 v160 v161 v162 v163 v164 v165 v166 v167 v168 v169 v170 v171 v172 v173 v174 v175 v176 v177 v178 v179 v180 v181 v182 v183 v184 v185 v186 v187 v188 v189 v190 v191 v192 v193 v194 v195 v196 v197 v198 v199 v200 v201 v202 v203 v204 v205 v206 v207 v208 v209 v210 v211 v212 v213 v214 v215 c216 c217 c218 c219 c220 c221 c222 c223 c224 c225 c226 c227 c228 c229 c230 c231 c232 c233 c234 c235 c236 c237 c238 c239 c240 c241 c242 c243:Value)
  (hE:Hid (∀ (c0 c1 v5 v6 v7 v8 v9 v10 v11 v12 v13 v14 v15 v16 v17 v18 v19 v20 v21 v22 v23 v24 v25 v26 v27 c28 c29 c30 c31 c32 c33 c34 c35 v36 v37 v38 v39 v40 v41 v42 v43 v44 v45 v46 v47 v48 v49 v50 v51 v52 v53 v54 v55 v56 v57 v58 v59 v60 v61 v62 v63 v64 v65 v66 v67 v68 v69 v70 v71 v72 v73 v74 v75 v76 v77 v78 v79 v80 v81 v82 v83 v84 v85 v86 v87 v88 v89 v90 v91 v92 v93 v94 v95 v96 v97 v98 v99 v100 v101 v102 v103 v104 v105 v106 v107 v108 v109 v110 v111 v112 v113 v114 v115 v116 v117 v118 v119 v120 v121 v122 v123 v124 v125 v126 v127 v128 v129 v130 v131 v132 v133 v134 v135 v136 v137 v138 v139 v140 v141 v142 v143 v144 v145 v146 v147 v148 v149 v150 v151 v152 v153 v154 v155 v156 v157 v158 v159 v160 v161 v162 v163 v164 v165 v166 v167 v168 v169 v170 v171 v172 v173 v174 v175 v176 v177 v178 v179 v180 v181 v182 v183 v184 v185 v186 v187 v188 v189 v190 v191 v192 v193 v194 v195 v196 v197 v198 v199 v200 v201 v202 v203 v204 v205 v206 v207 v208 v209 v210 v211 v212 v213 v214 v215 c216 c217 c218 c219 c220 c221 c222 c223 c224 c225 c226 c227 c228 c229 c230 c231 c232 c233 c234 c235 c236 c237 c238 c239 c240 c241 c242 c243:Value) (w3:World),R.run R.St.zero 0 ((rows.map ByteArray.toList).take n)=(none,(k:Int)+1)→Below B w1 w3→Q0 .ret ⟨#[c0,c1,.slice none 0 0,.int .i64 2,.int .i64 ((k:Int)+1),v5,v6,v7,v8,v9,v10,v11,v12,v13,v14,v15,v16,v17,v18,v19,v20,v21,v22,v23,v24,v25,v26,v27,c28,c29,c30,c31,c32,c33,c34,c35,v36,v37,v38,v39,v40,v41,v42,v43,v44,v45,v46,v47,v48,v49,v50,v51,v52,v53,v54,v55,v56,v57,v58,v59,v60,v61,v62,v63,v64,v65,v66,v67,v68,v69,v70,v71,v72,v73,v74,v75,v76,v77,v78,v79,v80,v81,v82,v83,v84,v85,v86,v87,v88,v89,v90,v91,v92,v93,v94,v95,v96,v97,v98,v99,v100,v101,v102,v103,v104,v105,v106,v107,v108,v109,v110,v111,v112,v113,v114,v115,v116,v117,v118,v119,v120,v121,v122,v123,v124,v125,v126,v127,v128,v129,v130,v131,v132,v133,v134,v135,v136,v137,v138,v139,v140,v141,v142,v143,v144,v145,v146,v147,v148,v149,v150,v151,v152,v153,v154,v155,v156,v157,v158,v159,v160,v161,v162,v163,v164,v165,v166,v167,v168,v169,v170,v171,v172,v173,v174,v175,v176,v177,v178,v179,v180,v181,v182,v183,v184,v185,v186,v187,v188,v189,v190,v191,v192,v193,v194,v195,v196,v197,v198,v199,v200,v201,v202,v203,v204,v205,v206,v207,v208,v209,v210,v211,v212,v213,v214,v215,c216,c217,c218,c219,c220,c221,c222,c223,c224,c225,c226,c227,c228,c229,c230,c231,c232,c233,c234,c235,c236,c237,c238,c239,c240,c241,c242,c243],[]⟩ w3)) :
  wpL Tryz.prog [(stmOf (inOf (stmOf (bodyOf Tryz.f7) 2)) 2),(stmOf (inOf (stmOf (bodyOf Tryz.f7) 2)) 3),(stmOf (inOf (stmOf (bodyOf Tryz.f7) 2)) 4),(stmOf (inOf (stmOf (bodyOf Tryz.f7) 2)) 5),(stmOf (inOf (stmOf (bodyOf Tryz.f7) 2)) 6),(stmOf (inOf (stmOf (bodyOf Tryz.f7) 2)) 7),(stmOf (inOf (stmOf (bodyOf Tryz.f7) 2)) 8),(stmOf (inOf (stmOf (bodyOf Tryz.f7) 2)) 9),(stmOf (inOf (stmOf (bodyOf Tryz.f7) 2)) 10),(stmOf (inOf (stmOf (bodyOf Tryz.f7) 2)) 11)] (Exit.inBlock 1 (Exit.then K0 Q0)) ⟨#[c0,c1,c2,c3,c4,.slice (some ⟨gr,0,none⟩) (n+1) capr,.int .i64 (n:Int),.slice ta s.ts.length tc,.slice oa s.opn.length oc,.int .i64 s.count,.int .i64 s.inner,.int .i64 (k:Int),.slice (some ⟨gw,0,none⟩) nw capw,v13,v14,v15,v16,v17,v18,v19,v20,v21,v22,v23,v24,v25,v26,v27,c28,c29,c30,c31,c32,c33,c34,c35,v36,v37,v38,v39,v40,v41,v42,v43,v44,v45,v46,v47,v48,.bool (c.toList==[116,104,114,101,97,100]),v50,v51,v52,v53,v54,v55,v56,v57,v58,v59,v60,v61,v62,v63,v64,v65,v66,v67,v68,v69,v70,v71,v72,v73,v74,v75,v76,v77,v78,v79,v80,v81,v82,v83,v84,v85,v86,v87,v88,v89,v90,v91,v92,v93,v94,v95,v96,v97,v98,v99,v100,v101,v102,v103,v104,v105,v106,v107,v108,v109,v110,v111,v112,v113,v114,v115,v116,v117,v118,v119,v120,v121,v122,v123,v124,v125,v126,v127,v128,v129,v130,v131,v132,v133,v134,v135,v136,v137,v138,v139,v140,v141,v142,v143,v144,v145,v146,v147,v148,v149,v150,v151,v152,v153,v154,v155,v156,v157,v158,v159,v160,v161,v162,v163,v164,v165,v166,v167,v168,v169,v170,v171,v172,v173,v174,v175,v176,v177,v178,v179,v180,v181,v182,v183,v184,v185,v186,v187,v188,v189,v190,v191,v192,v193,v194,v195,v196,v197,v198,v199,v200,v201,v202,v203,v204,v205,v206,v207,v208,v209,v210,v211,v212,v213,v214,v215,c216,c217,c218,c219,c220,c221,c222,c223,c224,c225,c226,c227,c228,c229,c230,c231,c232,c233,c234,c235,c236,c237,c238,c239,c240,c241,c242,c243],[]⟩ w2:=by
 have hB:B≤wr.heap.size:=by have:=H.out.bel.size;omega
 have hsz:=H.out.sz
 have q1:=hsz.nth
 have q2:=hsz.nop
 have q3:=hsz.cnt
 have q4:0≤s.count:=by have:=hsz.sum;have:=R.lastSz_nn s.ts;have:=R.opnSz_nn s.opn;omega
 have q5:=H.out.in0
 have q6:=H.out.in1
 have hBl:Below B w1 w2:=H.out.bel.trans (B2.mono (by have:=H.out.bel.size;omega))
 have hst:=H.out.step hlt hr hx hc
 obtain⟨d0,_,hw1⟩:=hw.out.head
 subst hd
 have HS:Hid (R.step s ((k:Int)+1) c [d]=R.begins s ((k:Int)+1) [d]):=by unfold Hid R.step;rw[hth];rfl
 have HR:Hid (R.step s ((k:Int)+1) c [d]=none):=by
  unfold Hid;rw[HS.out];unfold R.begins
  have:(decide (0≤R.inn d.toList R.bl)&&s.opn.isEmpty&&!(s.ts.length==4))=false:=by
   simp[hc4]
  simp only[this,Bool.false_eq_true,if_false]
 have hc1:s.opn.length=0:=by omega
 have hc2:((s.opn.length:Nat):Int)=0:=by omega
 have hc3:((s.ts.length:Nat):Int)=4:=by omega
 have hbb:=R.bl_bd d.toList
 obtain⟨e1,_,_⟩:=hw1.head
 have hnw2:nw=2:=by simpa using hnw.symm
 subst hnw2
 clear hw1
 rw[hth]
 dsimp only
 refine wpL_step (fun K hK=>?_)
 clear hK
 conv=>arg 2;whnf
 go_wp2_with (first | (go_at_call 14;refine (in_lst d R.bl _ _ rfl (by simp)).mono ?_;rintro e w3 ⟨rfl,B3⟩;have hBm:Below B w1 w3:=hBl.trans (B3.mono (by have:=hBl.size;omega));dsimp only))
 exact hE.out _ _ _ _ _ _ _ _ _ _ _ _ _ _ _ _ _ _ _ _ _ _ _ _ _ _ _ _ _ _ _ _ _ _ _ _ _ _ _ _ _ _ _ _ _ _ _ _ _ _ _ _ _ _ _ _ _ _ _ _ _ _ _ _ _ _ _ _ _ _ _ _ _ _ _ _ _ _ _ _ _ _ _ _ _ _ _ _ _ _ _ _ _ _ _ _ _ _ _ _ _ _ _ _ _ _ _ _ _ _ _ _ _ _ _ _ _ _ _ _ _ _ _ _ _ _ _ _ _ _ _ _ _ _ _ _ _ _ _ _ _ _ _ _ _ _ _ _ _ _ _ _ _ _ _ _ _ _ _ _ _ _ _ _ _ _ _ _ _ _ _ _ _ _ _ _ _ _ _ _ _ _ _ _ _ _ _ _ _ _ _ _ _ _ _ _ _ _ _ _ _ _ _ _ _ _ _ _ _ _ _ _ _ _ _ _ _ _ _ _ _ _ _ _ _ _ _ _ _ _ _ _ _ _ _ _ _ _ _ _ _ _ (hst.1 HR.out) hBm
theorem Tryz.infoLn:(Tryz.prog.info? 49).map (fun i=>(i.zero,i.size,i.bytes))=some (some (.agg (lnCells R.z0 (.slice none 0 0))),9,120):=by kernel_rfl
theorem LinesAt.one {w:World} {B:Nat} {v:Value} {l:List R.Tree} {F:List Nat} (h:LinesAt w B v l F):v.oneCell'=true:=by
 cases h using LinesAt.cs with
 | row ho _ _ _ _ =>
  rcases ho.2 with ⟨e,_⟩ | ⟨k,c,cur,e,_⟩<;>rw[e]<;>rfl
theorem lnCells_one (x:R.Lh) (u:Value) (h:u.oneCell'=true):∀ c∈(lnCells x u).toList,c.oneCell'=true:=by
 intro c hc
 simp[lnCells] at hc
 rcases hc with rfl | rfl | rfl | rfl | rfl | rfl | rfl | rfl | rfl<;>first | rfl | exact h
theorem rowLn_one (l:List R.Tree):∀ vs:List Value,(∀ u∈vs,u.oneCell'=true)→∀ c∈rowLn l vs,c.oneCell'=true:=by
 induction l with
 | nil=>intro vs _ c hc;simp[rowLn] at hc
 | cons t l ih =>
  intro vs hv c hc
  cases vs with
  | nil=>simp[rowLn] at hc
  | cons v vs =>
   simp only[rowLn,List.mem_append] at hc
   rcases hc with hc | hc
   ·exact lnCells_one _ _ (hv v (by simp)) c hc
   ·exact ih vs (fun u hu=>hv u (by simp[hu])) c hc
theorem rangeAt_keep2 {w w':World} {b o:Nat} {cs:List Value} (h:w.rangeAt b o cs) (e:w'.heap[b]?=w.heap[b]?):w'.rangeAt b o cs:=fun j v hv=>by
 rw[World.cell?_of_block (w:=w) (a:=⟨b,o+j,none⟩) e];exact h j v hv
theorem range_ln {w:World} {B b n cap:Nat} {l:List R.Tree} {vs:List Value} (ho:w.ownsRow B 49 9 (.slice (some ⟨b,0,none⟩) n cap) n (rowLn l vs)) (hn:n=l.length) (hv:vs.length=l.length) (k:Nat) (hk:k<l.length) (u:Value) (hu:vs[k]?=some u):w.rangeAt b (k*9) (lnCells l[k].x u).toList:=by
 intro j v hj
 have hlt:j<9:=(List.getElem?_eq_some_iff.1 hj).1
 rw[LinesAt.line ho hn hv k hk u hu j hlt]
 simpa using hj
theorem wpList_load_lnAt {ops:Array Oper} {rest:List Oper} {op:Oper} {a:Act} {w:World} {Q:Exit→Act→World→Prop} (x:Operand) (hgd:op.guard=none) (ho:op.op=.load 49 x)
  (b o:Nat) (y:R.Lh) (bv:Value) (hx:a.eval x=.pointer (some ⟨b,o,none⟩)) (hr:w.rangeAt b o (lnCells y bv).toList)
  (h:wpList Tryz.prog ops Q rest (a.put op.dst (.agg #[.string y.op,.int .i64 y.reg,.int .i64 y.var,.int .i64 y.a,.int .i64 y.b,.string y.sign,.string y.ord,.string y.scope,bv])) w):wpList Tryz.prog ops Q (op::rest) a w :=
 wpList_load_mid hgd _ x ho b o hx (lnCells y bv).toList _ hr Tryz.underlying49 rfl (by kernel_rfl) h
theorem Tryz.infoTh:(Tryz.prog.info? 46).map (fun i=>(i.zero,i.size,i.bytes))=some (some (.agg #[.int .i64 0,.slice none 0 0,.int .i64 0]),3,40):=by kernel_rfl
theorem Tryz.infoFr:(Tryz.prog.info? 51).map (fun i=>(i.zero,i.size,i.bytes))=some (some (.agg (#[.slice none 0 0]++lnCells R.z0 (.slice none 0 0))),10,144):=by kernel_rfl
theorem LnAt.setBody {w:World} {g:Nat} {x:R.Lh} {bv:Value} (h:LnAt w g x bv) (u:Value):LnAt (w.setCell ⟨g,8,none⟩ u) g x u:=by
 unfold LnAt at *;rw[setCell_block h];rfl
set_option maxRecDepth 1000000 in
set_option maxHeartbeats 12800000 in
theorem RdThE (w1 wr:World) (B:Nat) (rows:List ByteArray) (n k gr capr:Nat) (s:R.St) (ta oa:Option Addr) (tc oc:Nat) (tvs ovs:List Value) (G:List Nat) (H:Hid (RS w1 B rows n k s (.slice ta s.ts.length tc) (.slice oa s.opn.length oc) tvs ovs G wr)) (hlt:k<n) (hn:n<10000) (hr:rows.length=n+1) (hBw:w1.heap.size=B) (gw nw capw:Nat) (x c:ByteArray) (r:List ByteArray) (w2:World) (hx:rows[k]?=some x) (hc:c.toList::r.map ByteArray.toList=P.splitAt 32 x.toList) (hw:Hid (WordsAt w2 gw 0 (c::r))) (hnw:r.length+1=nw) (hcw:nw≤capw) (hn2:nw<10000) (hgw:gw<w2.heap.size) (B2:Below wr.heap.size wr w2) (hth:(c.toList==[116,104,114,101,97,100])=true) (d:ByteArray) (hd:r=[d]) (hb:¬ R.inn d.toList R.bl<0) (hc1:s.opn=[]) (hc4:s.ts.length≠4) (K0:Act→World→Prop) (Q0:Exit→Act→World→Prop) (c0 c1 c2 c3 c4 v13 v14 v15 v16 v17 v18 v19 v20 v21 v22 v23 v24 v25 v26 v27 c28 c29 c30 c31 c32 c33 c34 c35 v36 v37 v38 v39 v40 v41 v42 v43 v44 v45 v46 v47 v48 v50 v51 v52 v53 v54 v55 v56 v57 v58 v59 v60 v61 v62 v63 v64 v65 v66 v67 v68 v69 v70 v71 v72 v73 v74 v75 v76 v77 v78 v79 v80 v81 v82 v83 v84 v85 v86 v87 v88 v89 v90 v91 v92 v93 v94 v95 v96 v97 v98 v99 v100 v101 v102 v103 v104 v105 v106 v107 v108 v109 v110 v111 v112 v113 v114 v115 v116 v117 v118 v119 v120 v121 v122 v123 v124 v125 v126 v127 v128 v129 v130 v131 v132 v133 v134 v135 v136 v137 v138 v139 v140 v141 v142 v143 v144 v145 v146 v147 v148 v149 v150 v151 v152 v153 v154 v155 v156 v157 v158 v159 v160 v161 v162 v163 v164 v165 v166 v167 v168 v169 v170 v171 v172 v173 v174 v175 v176 v177 v178 v179 v180 v181 v182 v183 v184 v185 v186 v187 v188 v189 v190 v191 v192 v193 v194 v195 v196 v197 v198 v199 v200 v201 v202 v203 v204 v205 v206 v207 v208 v209 v210 v211 v212 v213 v214 v215 c216 c217 c218 c219 c220 c221 c222 c223 c224 c225 c226 c227 c228 c229 c230 c231 c232 c233 c234 c235 c236 c237 c238 c239 c240 c241 c242 c243:Value)
  (hE:Hid (∀ (c0 c1 v5 v6 v7 v8 v9 v10 v11 v12 v13 v14 v15 v16 v17 v18 v19 v20 v21 v22 v23 v24 v25 v26 v27 c28 c29 c30 c31 c32 c33 c34 c35 v36 v37 v38 v39 v40 v41 v42 v43 v44 v45 v46 v47 v48 v49 v50 v51 v52 v53 v54 v55 v56 v57 v58 v59 v60 v61 v62 v63 v64 v65 v66 v67 v68 v69 v70 v71 v72 v73 v74 v75 v76 v77 v78 v79 v80 v81 v82 v83 v84 v85 v86 v87 v88 v89 v90 v91 v92 v93 v94 v95 v96 v97 v98 v99 v100 v101 v102 v103 v104 v105 v106 v107 v108 v109 v110 v111 v112 v113 v114 v115 v116 v117 v118 v119 v120 v121 v122 v123 v124 v125 v126 v127 v128 v129 v130 v131 v132 v133 v134 v135 v136 v137 v138 v139 v140 v141 v142 v143 v144 v145 v146 v147 v148 v149 v150 v151 v152 v153 v154 v155 v156 v157 v158 v159 v160 v161 v162 v163 v164 v165 v166 v167 v168 v169 v170 v171 v172 v173 v174 v175 v176 v177 v178 v179 v180 v181 v182 v183 v184 v185 v186 v187 v188 v189 v190 v191 v192 v193 v194 v195 v196 v197 v198 v199 v200 v201 v202 v203 v204 v205 v206 v207 v208 v209 v210 v211 v212 v213 v214 v215 c216 c217 c218 c219 c220 c221 c222 c223 c224 c225 c226 c227 c228 c229 c230 c231 c232 c233 c234 c235 c236 c237 c238 c239 c240 c241 c242 c243:Value) (w3:World),R.run R.St.zero 0 ((rows.map ByteArray.toList).take n)=(none,(k:Int)+1)→Below B w1 w3→Q0 .ret ⟨#[c0,c1,.slice none 0 0,.int .i64 2,.int .i64 ((k:Int)+1),v5,v6,v7,v8,v9,v10,v11,v12,v13,v14,v15,v16,v17,v18,v19,v20,v21,v22,v23,v24,v25,v26,v27,c28,c29,c30,c31,c32,c33,c34,c35,v36,v37,v38,v39,v40,v41,v42,v43,v44,v45,v46,v47,v48,v49,v50,v51,v52,v53,v54,v55,v56,v57,v58,v59,v60,v61,v62,v63,v64,v65,v66,v67,v68,v69,v70,v71,v72,v73,v74,v75,v76,v77,v78,v79,v80,v81,v82,v83,v84,v85,v86,v87,v88,v89,v90,v91,v92,v93,v94,v95,v96,v97,v98,v99,v100,v101,v102,v103,v104,v105,v106,v107,v108,v109,v110,v111,v112,v113,v114,v115,v116,v117,v118,v119,v120,v121,v122,v123,v124,v125,v126,v127,v128,v129,v130,v131,v132,v133,v134,v135,v136,v137,v138,v139,v140,v141,v142,v143,v144,v145,v146,v147,v148,v149,v150,v151,v152,v153,v154,v155,v156,v157,v158,v159,v160,v161,v162,v163,v164,v165,v166,v167,v168,v169,v170,v171,v172,v173,v174,v175,v176,v177,v178,v179,v180,v181,v182,v183,v184,v185,v186,v187,v188,v189,v190,v191,v192,v193,v194,v195,v196,v197,v198,v199,v200,v201,v202,v203,v204,v205,v206,v207,v208,v209,v210,v211,v212,v213,v214,v215,c216,c217,c218,c219,c220,c221,c222,c223,c224,c225,c226,c227,c228,c229,c230,c231,c232,c233,c234,c235,c236,c237,c238,c239,c240,c241,c242,c243],[]⟩ w3))
  (hN:Hid (∀ (s2:R.St) (tv2 ov2:Value) (tvs2 ovs2:List Value) (G2:List Nat) (c0 c1 c2 c3 c4 v12 v13 v14 v15 v16 v17 v18 v19 v20 v21 v22 v23 v24 v25 v26 v27 c28 c29 c30 c31 c32 c33 c34 c35 v36 v37 v38 v39 v40 v41 v42 v43 v44 v45 v46 v47 v48 v49 v50 v51 v52 v53 v54 v55 v56 v57 v58 v59 v60 v61 v62 v63 v64 v65 v66 v67 v68 v69 v70 v71 v72 v73 v74 v75 v76 v77 v78 v79 v80 v81 v82 v83 v84 v85 v86 v87 v88 v89 v90 v91 v92 v93 v94 v95 v96 v97 v98 v99 v100 v101 v102 v103 v104 v105 v106 v107 v108 v109 v110 v111 v112 v113 v114 v115 v116 v117 v118 v119 v120 v121 v122 v123 v124 v125 v126 v127 v128 v129 v130 v131 v132 v133 v134 v135 v136 v137 v138 v139 v140 v141 v142 v143 v144 v145 v146 v147 v148 v149 v150 v151 v152 v153 v154 v155 v156 v157 v158 v159 v160 v161 v162 v163 v164 v165 v166 v167 v168 v169 v170 v171 v172 v173 v174 v175 v176 v177 v178 v179 v180 v181 v182 v183 v184 v185 v186 v187 v188 v189 v190 v191 v192 v193 v194 v195 v196 v197 v198 v199 v200 v201 v202 v203 v204 v205 v206 v207 v208 v209 v210 v211 v212 v213 v214 v215 c216 c217 c218 c219 c220 c221 c222 c223 c224 c225 c226 c227 c228 c229 c230 c231 c232 c233 c234 c235 c236 c237 c238 c239 c240 c241 c242 c243:Value) (w3:World),R.step s ((k:Int)+1) c r=some s2→RdM w3 B tv2 ov2 s2.ts s2.opn tvs2 ovs2 G2→Below B w1 w3→K0 ⟨#[c0,c1,c2,c3,c4,.slice (some ⟨gr,0,none⟩) (n+1) capr,.int .i64 (n:Int),tv2,ov2,.int .i64 s2.count,.int .i64 s2.inner,.int .i64 (k:Int),v12,v13,v14,v15,v16,v17,v18,v19,v20,v21,v22,v23,v24,v25,v26,v27,c28,c29,c30,c31,c32,c33,c34,c35,v36,v37,v38,v39,v40,v41,v42,v43,v44,v45,v46,v47,v48,v49,v50,v51,v52,v53,v54,v55,v56,v57,v58,v59,v60,v61,v62,v63,v64,v65,v66,v67,v68,v69,v70,v71,v72,v73,v74,v75,v76,v77,v78,v79,v80,v81,v82,v83,v84,v85,v86,v87,v88,v89,v90,v91,v92,v93,v94,v95,v96,v97,v98,v99,v100,v101,v102,v103,v104,v105,v106,v107,v108,v109,v110,v111,v112,v113,v114,v115,v116,v117,v118,v119,v120,v121,v122,v123,v124,v125,v126,v127,v128,v129,v130,v131,v132,v133,v134,v135,v136,v137,v138,v139,v140,v141,v142,v143,v144,v145,v146,v147,v148,v149,v150,v151,v152,v153,v154,v155,v156,v157,v158,v159,v160,v161,v162,v163,v164,v165,v166,v167,v168,v169,v170,v171,v172,v173,v174,v175,v176,v177,v178,v179,v180,v181,v182,v183,v184,v185,v186,v187,v188,v189,v190,v191,v192,v193,v194,v195,v196,v197,v198,v199,v200,v201,v202,v203,v204,v205,v206,v207,v208,v209,v210,v211,v212,v213,v214,v215,c216,c217,c218,c219,c220,c221,c222,c223,c224,c225,c226,c227,c228,c229,c230,c231,c232,c233,c234,c235,c236,c237,c238,c239,c240,c241,c242,c243],[]⟩ w3)) :
  wpL Tryz.prog [(stmOf (inOf (stmOf (bodyOf Tryz.f7) 2)) 2),(stmOf (inOf (stmOf (bodyOf Tryz.f7) 2)) 3),(stmOf (inOf (stmOf (bodyOf Tryz.f7) 2)) 4),(stmOf (inOf (stmOf (bodyOf Tryz.f7) 2)) 5),(stmOf (inOf (stmOf (bodyOf Tryz.f7) 2)) 6),(stmOf (inOf (stmOf (bodyOf Tryz.f7) 2)) 7),(stmOf (inOf (stmOf (bodyOf Tryz.f7) 2)) 8),(stmOf (inOf (stmOf (bodyOf Tryz.f7) 2)) 9),(stmOf (inOf (stmOf (bodyOf Tryz.f7) 2)) 10),(stmOf (inOf (stmOf (bodyOf Tryz.f7) 2)) 11)] (Exit.inBlock 1 (Exit.then K0 Q0)) ⟨#[c0,c1,c2,c3,c4,.slice (some ⟨gr,0,none⟩) (n+1) capr,.int .i64 (n:Int),.slice ta s.ts.length tc,.slice oa s.opn.length oc,.int .i64 s.count,.int .i64 s.inner,.int .i64 (k:Int),.slice (some ⟨gw,0,none⟩) nw capw,v13,v14,v15,v16,v17,v18,v19,v20,v21,v22,v23,v24,v25,v26,v27,c28,c29,c30,c31,c32,c33,c34,c35,v36,v37,v38,v39,v40,v41,v42,v43,v44,v45,v46,v47,v48,.bool (c.toList==[116,104,114,101,97,100]),v50,v51,v52,v53,v54,v55,v56,v57,v58,v59,v60,v61,v62,v63,v64,v65,v66,v67,v68,v69,v70,v71,v72,v73,v74,v75,v76,v77,v78,v79,v80,v81,v82,v83,v84,v85,v86,v87,v88,v89,v90,v91,v92,v93,v94,v95,v96,v97,v98,v99,v100,v101,v102,v103,v104,v105,v106,v107,v108,v109,v110,v111,v112,v113,v114,v115,v116,v117,v118,v119,v120,v121,v122,v123,v124,v125,v126,v127,v128,v129,v130,v131,v132,v133,v134,v135,v136,v137,v138,v139,v140,v141,v142,v143,v144,v145,v146,v147,v148,v149,v150,v151,v152,v153,v154,v155,v156,v157,v158,v159,v160,v161,v162,v163,v164,v165,v166,v167,v168,v169,v170,v171,v172,v173,v174,v175,v176,v177,v178,v179,v180,v181,v182,v183,v184,v185,v186,v187,v188,v189,v190,v191,v192,v193,v194,v195,v196,v197,v198,v199,v200,v201,v202,v203,v204,v205,v206,v207,v208,v209,v210,v211,v212,v213,v214,v215,c216,c217,c218,c219,c220,c221,c222,c223,c224,c225,c226,c227,c228,c229,c230,c231,c232,c233,c234,c235,c236,c237,c238,c239,c240,c241,c242,c243],[]⟩ w2:=by
 have hB:B≤wr.heap.size:=by have:=H.out.bel.size;omega
 have hsz:=H.out.sz
 have q1:=hsz.nth
 have q2:=hsz.nop
 have q3:=hsz.cnt
 have q4:0≤s.count:=by have:=hsz.sum;have:=R.lastSz_nn s.ts;have:=R.opnSz_nn s.opn;omega
 have q5:=H.out.in0
 have q6:=H.out.in1
 have hBl:Below B w1 w2:=H.out.bel.trans (B2.mono (by have:=H.out.bel.size;omega))
 have hst:=H.out.step hlt hr hx hc
 obtain⟨d0,_,hw1⟩:=hw.out.head
 subst hd
 obtain⟨i0,hi,hz0,hz1,hz2⟩:=info_parts Tryz.infoTh
 have HS:Hid (R.step s ((k:Int)+1) c [d]=R.begins s ((k:Int)+1) [d]):=by unfold Hid R.step;rw[hth];rfl
 have HR:Hid (R.step s ((k:Int)+1) c [d]=some { s with ts:=s.ts++[⟨R.inn d.toList R.bl,[],(k:Int)+1⟩],count:=0 }):=by
  unfold Hid;rw[HS.out];unfold R.begins
  have:(decide (0≤R.inn d.toList R.bl)&&s.opn.isEmpty&&!(s.ts.length==4))=true:=by
   simp[hc1,hc4];omega
  simp only[this,if_true]
 have hbb:=R.bl_bd d.toList
 obtain⟨e1,_,_⟩:=hw1.head
 have hnw2:nw=2:=by simpa using hnw.symm
 subst hnw2
 clear hw1
 have hol:(s.opn.length:Int)=0:=by simp[hc1]
 have htl:((s.ts.length:Int)==4)=false:=by simp;omega
 have hm2:RdM w2 B (.slice ta s.ts.length tc) (.slice oa s.opn.length oc) s.ts s.opn tvs ovs G:=H.out.mem.keep (fun j hj=>B2.block j hj)
 have HM:=hide hm2
 rw[hth]
 dsimp only
 refine wpL_step (fun K hK=>?_)
 clear hK
 conv=>arg 2;whnf
 go_wp2_with (first
  | (go_at_call 14;refine (in_lst d R.bl _ _ rfl (by simp)).mono ?_;rintro e w3 ⟨rfl,B3⟩;have hBm:Below B w1 w3:=hBl.trans (B3.mono (by have:=hBl.size;omega));have HM3:=hide (HM.out.keep (fun j hj=>B3.block j hj));have hb3:B≤w3.heap.size:=(by have:=B3.size;have:=B2.size;omega);dsimp only)
  | (at_builtin;refine wpList_append_lies _ rfl (.tmp 71) (.tmp 76) 29 rfl B 46 i0 (.agg #[.int .i64 0,.slice none 0 0,.int .i64 0]) 3 40 Tryz.underlying29 hi hz0 hz1 hz2 rfl (by decide) _ _ _ rfl (HM3.out.th.alloc _) ⟨w3.heap.size,0,none⟩ 1 1 [.int .i64 (R.inn d.toList R.bl),.slice none 0 0,.int .i64 ((k:Int)+1)] rfl rfl ?c1 ?c2 (by decide) ?c3 ?c4 ?c5 _ rfl ?_))
 case c1=>exact World.news_of_block (cs:=#[.int .i64 (R.inn d.toList R.bl),.slice none 0 0,.int .i64 ((k:Int)+1)]) (t:=46) (fr:=(0,0)) (heap_alloc_new w3 _)
 case c2=>simp[Value.oneCell']
 case c3=>unfold maxLen;omega
 case c4=>omega
 case c5=>simp;omega
 intro g1 cap1 w4 hown hgrow hat hlt1
 have hm4:=RdM.thread (by rw[hc1] at HM3;exact HM3.out) (fun j hj=>Below.heap_alloc _ _ _ hj) (by simp) hown hgrow
 have hb4:Below B w1 w4:=Below.grown (hBm.alloc hb3 _) hgrow (by simp;omega) (fun j hj=>(HM3.out.th.lt j hj).1)
 clear hown hgrow hat
 go_wp2_with fail
 have hm5:RdM w4 B (.slice (some ⟨g1,0,none⟩) (s.ts.length+1) cap1) (.slice oa 0 oc) (s.ts++[⟨R.inn d.toList R.bl,[],(k:Int)+1⟩]) s.opn (tvs++[.slice none 0 0]) ovs G:=by rw[hc1];exact hm4
 exact hN.out { s with ts:=s.ts++[⟨R.inn d.toList R.bl,[],(k:Int)+1⟩],count:=0 } _ _ (tvs++[.slice none 0 0]) ovs G _ _ _ _ _ _ _ _ _ _ _ _ _ _ _ _ _ _ _ _ _ _ _ _ _ _ _ _ _ _ _ _ _ _ _ _ _ _ _ _ _ _ _ _ _ _ _ _ _ _ _ _ _ _ _ _ _ _ _ _ _ _ _ _ _ _ _ _ _ _ _ _ _ _ _ _ _ _ _ _ _ _ _ _ _ _ _ _ _ _ _ _ _ _ _ _ _ _ _ _ _ _ _ _ _ _ _ _ _ _ _ _ _ _ _ _ _ _ _ _ _ _ _ _ _ _ _ _ _ _ _ _ _ _ _ _ _ _ _ _ _ _ _ _ _ _ _ _ _ _ _ _ _ _ _ _ _ _ _ _ _ _ _ _ _ _ _ _ _ _ _ _ _ _ _ _ _ _ _ _ _ _ _ _ _ _ _ _ _ _ _ _ _ _ _ _ _ _ _ _ _ _ _ _ _ _ _ _ _ _ _ _ _ _ _ _ _ _ _ _ _ _ _ _ _ _ _ _ _ _ _ _ _ _ _ _ _ _ HR.out hm5 hb4
set_option maxRecDepth 1000000 in
set_option maxHeartbeats 12800000 in
theorem RdNoT (w1 wr:World) (B:Nat) (rows:List ByteArray) (n k gr capr:Nat) (s:R.St) (ta oa:Option Addr) (tc oc:Nat) (tvs ovs:List Value) (G:List Nat) (H:Hid (RS w1 B rows n k s (.slice ta s.ts.length tc) (.slice oa s.opn.length oc) tvs ovs G wr)) (hlt:k<n) (hn:n<10000) (hr:rows.length=n+1) (hBw:w1.heap.size=B) (gw nw capw:Nat) (x c:ByteArray) (r:List ByteArray) (w2:World) (hx:rows[k]?=some x) (hc:c.toList::r.map ByteArray.toList=P.splitAt 32 x.toList) (hw:Hid (WordsAt w2 gw 0 (c::r))) (hnw:r.length+1=nw) (hcw:nw≤capw) (hn2:nw<10000) (hgw:gw<w2.heap.size) (B2:Below wr.heap.size wr w2) (hth:(c.toList==[116,104,114,101,97,100])=false) (hts:s.ts=[]) (K0:Act→World→Prop) (Q0:Exit→Act→World→Prop) (c0 c1 c2 c3 c4 v13 v14 v15 v16 v17 v18 v19 v20 v21 v22 v23 v24 v25 v26 v27 c28 c29 c30 c31 c32 c33 c34 c35 v36 v37 v38 v39 v40 v41 v42 v43 v44 v45 v46 v47 v48 v50 v51 v52 v53 v54 v55 v56 v57 v58 v59 v60 v61 v62 v63 v64 v65 v66 v67 v68 v69 v70 v71 v72 v73 v74 v75 v76 v77 v78 v79 v80 v81 v82 v83 v84 v85 v86 v87 v88 v89 v90 v91 v92 v93 v94 v95 v96 v97 v98 v99 v100 v101 v102 v103 v104 v105 v106 v107 v108 v109 v110 v111 v112 v113 v114 v115 v116 v117 v118 v119 v120 v121 v122 v123 v124 v125 v126 v127 v128 v129 v130 v131 v132 v133 v134 v135 v136 v137 v138 v139 v140 v141 v142 v143 v144 v145 v146 v147 v148 v149 v150 v151 v152 v153 v154 v155 v156 v157 v158 v159 v160 v161 v162 v163 v164 v165 v166 v167 v168 v169 v170 v171 v172 v173 v174 v175 v176 v177 v178 v179 v180 v181 v182 v183 v184 v185 v186 v187 v188 v189 v190 v191 v192 v193 v194 v195 v196 v197 v198 v199 v200 v201 v202 v203 v204 v205 v206 v207 v208 v209 v210 v211 v212 v213 v214 v215 c216 c217 c218 c219 c220 c221 c222 c223 c224 c225 c226 c227 c228 c229 c230 c231 c232 c233 c234 c235 c236 c237 c238 c239 c240 c241 c242 c243:Value)
  (hE:Hid (∀ (c0 c1 v5 v6 v7 v8 v9 v10 v11 v12 v13 v14 v15 v16 v17 v18 v19 v20 v21 v22 v23 v24 v25 v26 v27 c28 c29 c30 c31 c32 c33 c34 c35 v36 v37 v38 v39 v40 v41 v42 v43 v44 v45 v46 v47 v48 v49 v50 v51 v52 v53 v54 v55 v56 v57 v58 v59 v60 v61 v62 v63 v64 v65 v66 v67 v68 v69 v70 v71 v72 v73 v74 v75 v76 v77 v78 v79 v80 v81 v82 v83 v84 v85 v86 v87 v88 v89 v90 v91 v92 v93 v94 v95 v96 v97 v98 v99 v100 v101 v102 v103 v104 v105 v106 v107 v108 v109 v110 v111 v112 v113 v114 v115 v116 v117 v118 v119 v120 v121 v122 v123 v124 v125 v126 v127 v128 v129 v130 v131 v132 v133 v134 v135 v136 v137 v138 v139 v140 v141 v142 v143 v144 v145 v146 v147 v148 v149 v150 v151 v152 v153 v154 v155 v156 v157 v158 v159 v160 v161 v162 v163 v164 v165 v166 v167 v168 v169 v170 v171 v172 v173 v174 v175 v176 v177 v178 v179 v180 v181 v182 v183 v184 v185 v186 v187 v188 v189 v190 v191 v192 v193 v194 v195 v196 v197 v198 v199 v200 v201 v202 v203 v204 v205 v206 v207 v208 v209 v210 v211 v212 v213 v214 v215 c216 c217 c218 c219 c220 c221 c222 c223 c224 c225 c226 c227 c228 c229 c230 c231 c232 c233 c234 c235 c236 c237 c238 c239 c240 c241 c242 c243:Value) (w3:World),R.run R.St.zero 0 ((rows.map ByteArray.toList).take n)=(none,(k:Int)+1)→Below B w1 w3→Q0 .ret ⟨#[c0,c1,.slice none 0 0,.int .i64 2,.int .i64 ((k:Int)+1),v5,v6,v7,v8,v9,v10,v11,v12,v13,v14,v15,v16,v17,v18,v19,v20,v21,v22,v23,v24,v25,v26,v27,c28,c29,c30,c31,c32,c33,c34,c35,v36,v37,v38,v39,v40,v41,v42,v43,v44,v45,v46,v47,v48,v49,v50,v51,v52,v53,v54,v55,v56,v57,v58,v59,v60,v61,v62,v63,v64,v65,v66,v67,v68,v69,v70,v71,v72,v73,v74,v75,v76,v77,v78,v79,v80,v81,v82,v83,v84,v85,v86,v87,v88,v89,v90,v91,v92,v93,v94,v95,v96,v97,v98,v99,v100,v101,v102,v103,v104,v105,v106,v107,v108,v109,v110,v111,v112,v113,v114,v115,v116,v117,v118,v119,v120,v121,v122,v123,v124,v125,v126,v127,v128,v129,v130,v131,v132,v133,v134,v135,v136,v137,v138,v139,v140,v141,v142,v143,v144,v145,v146,v147,v148,v149,v150,v151,v152,v153,v154,v155,v156,v157,v158,v159,v160,v161,v162,v163,v164,v165,v166,v167,v168,v169,v170,v171,v172,v173,v174,v175,v176,v177,v178,v179,v180,v181,v182,v183,v184,v185,v186,v187,v188,v189,v190,v191,v192,v193,v194,v195,v196,v197,v198,v199,v200,v201,v202,v203,v204,v205,v206,v207,v208,v209,v210,v211,v212,v213,v214,v215,c216,c217,c218,c219,c220,c221,c222,c223,c224,c225,c226,c227,c228,c229,c230,c231,c232,c233,c234,c235,c236,c237,c238,c239,c240,c241,c242,c243],[]⟩ w3)) :
  wpL Tryz.prog [(stmOf (inOf (stmOf (bodyOf Tryz.f7) 2)) 2),(stmOf (inOf (stmOf (bodyOf Tryz.f7) 2)) 3),(stmOf (inOf (stmOf (bodyOf Tryz.f7) 2)) 4),(stmOf (inOf (stmOf (bodyOf Tryz.f7) 2)) 5),(stmOf (inOf (stmOf (bodyOf Tryz.f7) 2)) 6),(stmOf (inOf (stmOf (bodyOf Tryz.f7) 2)) 7),(stmOf (inOf (stmOf (bodyOf Tryz.f7) 2)) 8),(stmOf (inOf (stmOf (bodyOf Tryz.f7) 2)) 9),(stmOf (inOf (stmOf (bodyOf Tryz.f7) 2)) 10),(stmOf (inOf (stmOf (bodyOf Tryz.f7) 2)) 11)] (Exit.inBlock 1 (Exit.then K0 Q0)) ⟨#[c0,c1,c2,c3,c4,.slice (some ⟨gr,0,none⟩) (n+1) capr,.int .i64 (n:Int),.slice ta s.ts.length tc,.slice oa s.opn.length oc,.int .i64 s.count,.int .i64 s.inner,.int .i64 (k:Int),.slice (some ⟨gw,0,none⟩) nw capw,v13,v14,v15,v16,v17,v18,v19,v20,v21,v22,v23,v24,v25,v26,v27,c28,c29,c30,c31,c32,c33,c34,c35,v36,v37,v38,v39,v40,v41,v42,v43,v44,v45,v46,v47,v48,.bool (c.toList==[116,104,114,101,97,100]),v50,v51,v52,v53,v54,v55,v56,v57,v58,v59,v60,v61,v62,v63,v64,v65,v66,v67,v68,v69,v70,v71,v72,v73,v74,v75,v76,v77,v78,v79,v80,v81,v82,v83,v84,v85,v86,v87,v88,v89,v90,v91,v92,v93,v94,v95,v96,v97,v98,v99,v100,v101,v102,v103,v104,v105,v106,v107,v108,v109,v110,v111,v112,v113,v114,v115,v116,v117,v118,v119,v120,v121,v122,v123,v124,v125,v126,v127,v128,v129,v130,v131,v132,v133,v134,v135,v136,v137,v138,v139,v140,v141,v142,v143,v144,v145,v146,v147,v148,v149,v150,v151,v152,v153,v154,v155,v156,v157,v158,v159,v160,v161,v162,v163,v164,v165,v166,v167,v168,v169,v170,v171,v172,v173,v174,v175,v176,v177,v178,v179,v180,v181,v182,v183,v184,v185,v186,v187,v188,v189,v190,v191,v192,v193,v194,v195,v196,v197,v198,v199,v200,v201,v202,v203,v204,v205,v206,v207,v208,v209,v210,v211,v212,v213,v214,v215,c216,c217,c218,c219,c220,c221,c222,c223,c224,c225,c226,c227,c228,c229,c230,c231,c232,c233,c234,c235,c236,c237,c238,c239,c240,c241,c242,c243],[]⟩ w2:=by
 have hB:B≤wr.heap.size:=by have:=H.out.bel.size;omega
 have hsz:=H.out.sz
 have q1:=hsz.nth
 have q2:=hsz.nop
 have q3:=hsz.cnt
 have q4:0≤s.count:=by have:=hsz.sum;have:=R.lastSz_nn s.ts;have:=R.opnSz_nn s.opn;omega
 have q5:=H.out.in0
 have q6:=H.out.in1
 have hBl:Below B w1 w2:=H.out.bel.trans (B2.mono (by have:=H.out.bel.size;omega))
 have hst:=H.out.step hlt hr hx hc
 obtain⟨d0,_,hw1⟩:=hw.out.head
 have HS:Hid (R.step s ((k:Int)+1) c r=if s.ts.isEmpty then none else if c.toList==[101,110,100] then R.ends s r else if c.toList==[105,102] then R.branch s r else R.one s ((k:Int)+1) c r):=by unfold Hid R.step;rw[hth];rfl
 have HR:Hid (R.step s ((k:Int)+1) c r=none):=by unfold Hid;rw[HS.out,hts];rfl
 have htl:(s.ts.length:Int)=0:=by simp[hts]
 rw[hth]
 dsimp only
 refine wpL_step (fun K hK=>?_)
 have HK:=hide hK
 clear hK
 conv=>arg 2;whnf
 go_wp2_with fail
 refine HK.out _ _ ?_
 clear HK
 refine wpL_step (fun K hK=>?_)
 have HK:=hide hK
 clear hK
 conv=>arg 2;whnf
 go_wp2_with fail
 refine HK.out _ _ ?_
 clear HK
 refine wpL_step (fun K hK=>?_)
 clear hK
 conv=>arg 2;whnf
 go_wp2_with fail
 exact hE.out _ _ _ _ _ _ _ _ _ _ _ _ _ _ _ _ _ _ _ _ _ _ _ _ _ _ _ _ _ _ _ _ _ _ _ _ _ _ _ _ _ _ _ _ _ _ _ _ _ _ _ _ _ _ _ _ _ _ _ _ _ _ _ _ _ _ _ _ _ _ _ _ _ _ _ _ _ _ _ _ _ _ _ _ _ _ _ _ _ _ _ _ _ _ _ _ _ _ _ _ _ _ _ _ _ _ _ _ _ _ _ _ _ _ _ _ _ _ _ _ _ _ _ _ _ _ _ _ _ _ _ _ _ _ _ _ _ _ _ _ _ _ _ _ _ _ _ _ _ _ _ _ _ _ _ _ _ _ _ _ _ _ _ _ _ _ _ _ _ _ _ _ _ _ _ _ _ _ _ _ _ _ _ _ _ _ _ _ _ _ _ _ _ _ _ _ _ _ _ _ _ _ _ _ _ _ _ _ _ _ _ _ _ _ _ _ _ _ _ _ _ _ _ _ _ _ _ _ _ _ _ _ _ _ _ _ _ _ _ _ _ _ (hst.1 HR.out) hBl
end Go.Proofs.YtpkjmdcabdplfaaGreatDoor
