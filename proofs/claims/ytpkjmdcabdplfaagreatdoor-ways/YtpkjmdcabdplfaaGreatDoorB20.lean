import Derived.Test.YtpkjmdcabdplfaaGreatDoorB19
set_option linter.unusedVariables false
set_option linter.unusedSimpArgs false
namespace Go.Proofs.YtpkjmdcabdplfaaGreatDoor
open Go Go.RowKit
set_option maxRecDepth 100000
namespace R
theorem read_long (l:List UInt8) (h:2000<l.length):read l=([],1,0):=by unfold read;rw[if_pos h]
theorem read_bad (l:List UInt8) (n:Int) (h:¬ 2000<l.length) (hr:run St.zero 0 (P.splitAt 10 l).dropLast=(none,n)):read l=([],2,n):=by unfold read;rw[if_neg h,hr]
theorem read_end (l:List UInt8) (st:St) (n:Int) (h:¬ 2000<l.length) (hr:run St.zero 0 (P.splitAt 10 l).dropLast=(some st,n)) (hc:(P.splitAt 10 l).getLast?≠some []∨n=0∨st.opn≠[]):read l=([],2,n+1):=by
 unfold read;rw[if_neg h,hr];simp only[];rw[if_pos hc]
theorem read_in (l:List UInt8) (st:St) (n:Int) (h:¬ 2000<l.length) (hr:run St.zero 0 (P.splitAt 10 l).dropLast=(some st,n)) (hc:¬ ((P.splitAt 10 l).getLast?≠some []∨n=0∨st.opn≠[])):read l=if 0<(if st.inner==0 then uneven st.ts else st.inner) then ([],3,if st.inner==0 then uneven st.ts else st.inner) else if within st.ts then (st.ts,0,0) else ([],4,0):=by
 unfold read;rw[if_neg h,hr];simp only[];rw[if_neg hc]
theorem split_small (c:UInt8) (l:List UInt8):∀ y∈P.splitAt c l,y.length≤l.length:=by
 induction l with
 | nil=>intro y hy;simp[P.splitAt] at hy;simp[hy]
 | cons a r ih =>
  intro y hy
  unfold P.splitAt at hy
  split at hy
  ·simp at hy
   rcases hy with rfl | hy
   ·simp
   ·have:=ih y hy;simp;omega
  ·split at hy
   ·rename_i hh tt hx
    simp at hy
    rcases hy with rfl | hy
    ·have:=ih hh (by rw[hx];simp);simp;omega
    ·have:=ih y (by rw[hx];simp[hy]);simp;omega
   ·simp at hy
    rw[hy];simp
end R
def ReadPost (s:ByteArray) (w:World) (e:Ending) (w':World):Prop :=
 ∃ tv,e=.returned (.tuple #[tv,.int .i64 (R.read s.toList).2.1,.int .i64 (R.read s.toList).2.2])∧((R.read s.toList).2.1=0→∃ bt cap B vs Fs,tv=.slice (some ⟨bt,0,none⟩) (R.read s.toList).1.length cap∧ThsAt w' B tv (R.read s.toList).1 vs Fs)∧(∃ a q cc,tv=.slice a q cc)∧Below w.heap.size w w'
set_option maxHeartbeats 3200000 in
theorem read_any_long (s:ByteArray) (w:World) (h:2000<s.size):Calls Tryz.prog 7 #[.string s] w (ReadPost s w):=by
 have HE:=hide (R.read_long s.toList (by rw[size_toList];exact h))
 have h':(2000:Int)<(s.size:Int):=by omega
 go_enter Tryz.func7,Tryz.ntmps7
 go_wp2
 go_ret3
 refine⟨.slice none 0 0,by rw[HE.out];rfl,fun h0=>by rw[HE.out] at h0;simp at h0,⟨none,0,0,rfl⟩,Below.refl _ _⟩
set_option maxRecDepth 1000000 in
set_option maxHeartbeats 12800000 in
theorem read_any (s:ByteArray) (w:World) (hs:s.size≤8192):Calls Tryz.prog 7 #[.string s] w (ReadPost s w):=by
 by_cases h2:2000<s.size
 ·exact read_any_long s w h2
 have h2':¬ (2000:Int)<(s.size:Int):=by omega
 have hl2:¬ 2000<s.toList.length:=by rw[size_toList];exact h2
 go_enter Tryz.func7,Tryz.ntmps7
 go_wp2_with (first | (go_at_call 13;refine (cut_any s 10 _ hs).mono ?_;rintro e w1 ⟨gr,capr,nr,d,rs,rfl,HS,how,hrl,h1,hn2,B1⟩;obtain⟨n,rfl⟩:∃ n,nr=n+1:=⟨nr-1,(by omega)⟩;have HOW:=hide how;clear how;have hnn:((n+1:Nat):Int)-1=(n:Int):=(by omega);dsimp only))
 have hrl':rs.length=n:=by omega
 obtain⟨hrow,hcap,hgr⟩:=own_words2 HOW.out (by simpa using hrl')
 have hrow':∀ (i:Nat) (y:ByteArray),(d::rs)[i]?=some y→w1.cell? ⟨gr,i,none⟩=some (.string y):=fun i y hy=>by have:=hrow i y hy;simpa using this
 have HROW:=hide hrow'
 have hmap:(d::rs).map ByteArray.toList=P.splitAt 10 s.toList:=by rw[← HS.out];rfl
 have hlen:(d::rs).length=n+1:=by simp[hrl']
 have hdl:((d::rs).map ByteArray.toList).take n=(P.splitAt 10 s.toList).dropLast:=by
  rw[← hmap,List.dropLast_eq_take,List.length_map,hlen];rfl
 have HDL:=hide hdl
 have hsm:∀ x∈d::rs,x.size≤8192:=fun x hx=>by
  have h3:=R.split_small 10 s.toList x.toList (by rw[← hmap];exact List.mem_map_of_mem hx)
  rw[size_toList,size_toList] at h3
  omega
 have HSM:=hide hsm
 have HLAST:Hid (∀ y,(d::rs)[n]?=some y→(P.splitAt 10 s.toList).getLast?=some y.toList):=fun y hy=>by
  rw[← hmap,List.getLast?_eq_getElem?,List.length_map,hlen,List.getElem?_map]
  simp only[Nat.add_sub_cancel]
  rw[hy];rfl
 have hW:=hide hrow
 clear hrow hrow' hmap hdl hsm
 refine RdLoop w1 w1.heap.size (d::rs) n gr capr (by omega) hlen hW hgr rfl HSM _ _ _ _ ?hI ?hX ?hE
 case hI =>
  unfold RI
  exact⟨0,R.St.zero,none,none,0,0,[],[],[],_,_,_,_,_,_,_,_,_,_,_,_,_,_,_,_,_,_,_,_,_,_,_,_,_,_,_,_,_,_,_,_,_,_,_,_,_,_,_,_,_,_,_,_,_,_,_,_,_,_,_,_,_,_,_,_,_,_,_,_,_,_,_,_,_,_,_,_,_,_,_,_,_,_,_,_,_,_,_,_,_,_,_,_,_,_,_,_,_,_,_,_,_,_,_,_,_,_,_,_,_,_,_,_,_,_,_,_,_,_,_,_,_,_,_,_,_,_,_,_,_,_,_,_,_,_,_,_,_,_,_,_,_,_,_,_,_,_,_,_,_,_,_,_,_,_,_,_,_,_,_,_,_,_,_,_,_,_,_,_,_,_,_,_,_,_,_,_,_,_,_,_,_,_,_,_,_,_,_,_,_,_,_,_,_,_,_,_,_,_,_,_,_,_,_,_,_,_,_,_,_,_,_,_,_,_,_,_,_,_,_,_,_,_,_,_,_,_,_,_,_,_,_,_,_,_,_,_,_,_,_,_,_,_,_,_,_,⟨Nat.zero_le _,⟨RdM.zero _ _,R.SzS.zero,by simp,fun h=>by omega,by simp[R.St.zero],by simp[R.St.zero],Below.refl _ _⟩⟩,rfl⟩
 case hE =>
  intro k c0 c1 v5 v6 v7 v8 v9 v10 v11 v12 v13 v14 v15 v16 v17 v18 v19 v20 v21 v22 v23 v24 v25 v26 v27 c28 c29 c30 c31 c32 c33 c34 c35 v36 v37 v38 v39 v40 v41 v42 v43 v44 v45 v46 v47 v48 v49 v50 v51 v52 v53 v54 v55 v56 v57 v58 v59 v60 v61 v62 v63 v64 v65 v66 v67 v68 v69 v70 v71 v72 v73 v74 v75 v76 v77 v78 v79 v80 v81 v82 v83 v84 v85 v86 v87 v88 v89 v90 v91 v92 v93 v94 v95 v96 v97 v98 v99 v100 v101 v102 v103 v104 v105 v106 v107 v108 v109 v110 v111 v112 v113 v114 v115 v116 v117 v118 v119 v120 v121 v122 v123 v124 v125 v126 v127 v128 v129 v130 v131 v132 v133 v134 v135 v136 v137 v138 v139 v140 v141 v142 v143 v144 v145 v146 v147 v148 v149 v150 v151 v152 v153 v154 v155 v156 v157 v158 v159 v160 v161 v162 v163 v164 v165 v166 v167 v168 v169 v170 v171 v172 v173 v174 v175 v176 v177 v178 v179 v180 v181 v182 v183 v184 v185 v186 v187 v188 v189 v190 v191 v192 v193 v194 v195 v196 v197 v198 v199 v200 v201 v202 v203 v204 v205 v206 v207 v208 v209 v210 v211 v212 v213 v214 v215 c216 c217 c218 c219 c220 c221 c222 c223 c224 c225 c226 c227 c228 c229 c230 c231 c232 c233 c234 c235 c236 c237 c238 c239 c240 c241 c242 c243 w3 hrun hb
  have HE:=hide (R.read_bad s.toList _ hl2 (by rw[← HDL.out];exact hrun))
  clear hrun
  simp only[Exit.inBlock,Exit.then]
  go_ret3
  exact⟨.slice none 0 0,by rw[HE.out];rfl,fun h0=>by rw[HE.out] at h0;simp at h0,⟨none,0,0,rfl⟩,B1.trans (hb.mono B1.size)⟩
 case hX =>
  intro st ta oa tc oc tvs ovs G c0 c1 c2 c3 c4 v12 v13 v14 v15 v16 v17 v18 v19 v20 v21 v22 v23 v24 v25 v26 v27 c28 c29 c30 c31 c32 c33 c34 c35 v36 v37 v38 v39 v40 v41 v42 v43 v44 v45 v46 v47 v48 v49 v50 v51 v52 v53 v54 v55 v56 v57 v58 v59 v60 v61 v62 v63 v64 v65 v66 v67 v68 v69 v70 v71 v72 v73 v74 v75 v76 v77 v78 v79 v80 v81 v82 v83 v84 v85 v86 v87 v88 v89 v90 v91 v92 v93 v94 v95 v96 v97 v98 v99 v100 v101 v102 v103 v104 v105 v106 v107 v108 v109 v110 v111 v112 v113 v114 v115 v116 v117 v118 v119 v120 v121 v122 v123 v124 v125 v126 v127 v128 v129 v130 v131 v132 v133 v134 v135 v136 v137 v138 v139 v140 v141 v142 v143 v144 v145 v146 v147 v148 v149 v150 v151 v152 v153 v154 v155 v156 v157 v158 v159 v160 v161 v162 v163 v164 v165 v166 v167 v168 v169 v170 v171 v172 v173 v174 v175 v176 v177 v178 v179 v180 v181 v182 v183 v184 v185 v186 v187 v188 v189 v190 v191 v192 v193 v194 v195 v196 v197 v198 v199 v200 v201 v202 v203 v204 v205 v206 v207 v208 v209 v210 v211 v212 v213 v214 v215 c216 c217 c218 c219 c220 c221 c222 c223 c224 c225 c226 c227 c228 c229 c230 c231 c232 c233 c234 c235 c236 c237 c238 c239 c240 c241 c242 c243 wr hRS
  have HRS:=hide hRS
  have hrun:R.run R.St.zero 0 (P.splitAt 10 s.toList).dropLast=(some st,(n:Int)):=by
   rw[← HDL.out,hRS.run,List.drop_eq_nil_of_le (by simp;omega)]
   rfl
  have HRUN:=hide hrun
  have hy:(d::rs)[n]?=some (d::rs)[n]:=by simp[hrl']
  have hd:=(hRS.bel.cell (p:=⟨gr,n,none⟩) hgr).trans (HROW.out n _ hy)
  have hlast:=HLAST.out _ hy
  have hglt:gr<wr.heap.size:=by have:=hRS.bel.size;omega
  have hnl:(n:Int)<(n:Int)+1:=by omega
  have q1:=hRS.sz.nth
  have q2:=hRS.sz.nop
  have hin0:=hRS.in0
  have hin1:=hRS.in1
  have hBB:Below w.heap.size w wr:=B1.trans (hRS.bel.mono B1.size)
  generalize (d::rs)[n]=y at *
  clear hrun hRS hy
  cases hye:y.toList.isEmpty
  ·have HE:=hide (R.read_end s.toList st n hl2 HRUN.out (Or.inl (by rw[hlast];simpa using hye)))
   have hyb:(y.toList==[])=false:=by cases h:y.toList<;>simp_all
   clear HRS
   go_wp2
   go_ret3
   exact⟨.slice none 0 0,by rw[HE.out];rfl,fun h0=>by rw[HE.out] at h0;simp at h0,⟨none,0,0,rfl⟩,hBB⟩
  ·have hyn:y.toList=[]:=by simpa using hye
   have hyb:(y.toList==[])=true:=by rw[hyn];rfl
   rw[hyn] at hlast
   by_cases hn0:n=0
   ·subst hn0
    have HE:=hide (R.read_end s.toList st _ hl2 HRUN.out (Or.inr (Or.inl rfl)))
    clear HRS hlast hyn
    go_wp2
    go_ret3
    exact⟨.slice none 0 0,by rw[HE.out];rfl,fun h0=>by rw[HE.out] at h0;simp at h0,⟨none,0,0,rfl⟩,hBB⟩
   have hnb:((n:Int)==0)=false:=by simp;omega
   by_cases ho:st.opn=[]
   rotate_left
   ·have HE:=hide (R.read_end s.toList st _ hl2 HRUN.out (Or.inr (Or.inr ho)))
    have hol:=List.length_pos_iff.2 ho
    have hol':(0:Int)<(st.opn.length:Int):=by omega
    clear HRS hlast hyn ho
    go_wp2
    go_ret3
    exact⟨.slice none 0 0,by rw[HE.out];rfl,fun h0=>by rw[HE.out] at h0;simp at h0,⟨none,0,0,rfl⟩,hBB⟩
   have HO:=hide ho
   have hol:¬ (0:Int)<(st.opn.length:Int):=by rw[ho];decide
   have HC:=hide (R.read_in s.toList st _ hl2 HRUN.out (by rw[hlast,ho];simp;omega))
   have hts:=HRS.out.pos (by omega)
   have hmem:=HRS.out.mem
   rw[ho] at hmem
   obtain⟨Fs,hT⟩:=hmem.done
   obtain⟨bt,cap,he,_,hbt⟩:=hT.own.form (List.length_pos_iff.2 hts)
   simp only[Value.slice.injEq,true_and] at he
   obtain⟨rfl,rfl⟩:=he
   have HT:=hide hT
   have hall:=hide HRS.out.sz.all
   have hblk:=hide HRS.out.sz.blk
   clear hmem hT HRS hlast hyn ho HRUN hts
   by_cases hi:st.inner=0
   rotate_left
   ·have hib:(st.inner==0)=false:=by simpa using hi
    have hip:0<st.inner:=by omega
    have HE:Hid (R.read s.toList=([],3,st.inner)):=by unfold Hid;rw[HC.out,hib];simp[hip]
    clear HT HC
    go_wp2
    go_ret3
    exact⟨.slice none 0 0,by rw[HE.out];rfl,fun h0=>by rw[HE.out] at h0;simp at h0,⟨none,0,0,rfl⟩,hBB⟩
   have hib:(st.inner==0)=true:=by simpa using hi
   have UN:Hid (Calls Tryz.prog 17 #[.slice (some ⟨bt,0,none⟩) st.ts.length tc] wr fun e w'=>e=.returned (.int .i64 (R.uneven st.ts))∧Below wr.heap.size wr w'):=unevenR_any w1.heap.size bt st.ts.length tc st.ts tvs Fs wr HT.out rfl (by omega) (fun t ht=>by have:=hall.out t ht;omega) hblk.out
   by_cases hu:0<R.uneven st.ts
   ·have HE:Hid (R.read s.toList=([],3,R.uneven st.ts)):=by unfold Hid;rw[HC.out,hib];simp[hu]
    clear HT HC hall hblk
    go_wp2_with (first | (go_at_call 17;refine UN.out.mono ?_;rintro e w3 ⟨rfl,hb3⟩;have hB3:Below w.heap.size w w3:=hBB.trans (hb3.mono hBB.size);dsimp only))
    go_ret3
    exact⟨.slice none 0 0,by rw[HE.out];rfl,fun h0=>by rw[HE.out] at h0;simp at h0,⟨none,0,0,rfl⟩,hB3⟩
   have WI:Hid (∀ w3:World,Below wr.heap.size wr w3→Calls Tryz.prog 18 #[.slice (some ⟨bt,0,none⟩) st.ts.length tc] w3 fun e w'=>e=.returned (.bool (R.within st.ts))∧Below w3.heap.size w3 w'):=fun w3 hb3=>within_any w1.heap.size bt st.ts.length tc st.ts tvs Fs w3 (HT.out.keep (fun j hj=>hb3.block j hj)) rfl (by omega) (fun t ht=>by have:=hall.out t ht;omega)
   cases hwi:R.within st.ts
   ·have HE:Hid (R.read s.toList=([],4,0)):=by unfold Hid;rw[HC.out,hib];simp[hu,hwi]
    clear HT HC hall hblk
    go_wp2_with (first
     | (go_at_call 17;refine UN.out.mono ?_;rintro e w3 ⟨rfl,hb3⟩;have hB3:Below w.heap.size w w3:=hBB.trans (hb3.mono hBB.size);dsimp only)
     | (go_at_call 18;refine (WI.out _ hb3).mono ?_;rw[hwi];rintro e w4 ⟨rfl,hb4⟩;have hB4:Below w.heap.size w w4:=hB3.trans (hb4.mono hB3.size);dsimp only))
    go_ret3
    exact⟨.slice none 0 0,by rw[HE.out];rfl,fun h0=>by rw[HE.out] at h0;simp at h0,⟨none,0,0,rfl⟩,hB4⟩
   ·have HE:Hid (R.read s.toList=(st.ts,0,0)):=by unfold Hid;rw[HC.out,hib];simp[hu,hwi]
    clear HC hall hblk
    go_wp2_with (first
     | (go_at_call 17;refine UN.out.mono ?_;rintro e w3 ⟨rfl,hb3⟩;have hB3:Below w.heap.size w w3:=hBB.trans (hb3.mono hBB.size);dsimp only)
     | (go_at_call 18;refine (WI.out _ hb3).mono ?_;rw[hwi];rintro e w4 ⟨rfl,hb4⟩;have hB4:Below w.heap.size w w4:=hB3.trans (hb4.mono hB3.size);have HT4:=hide ((HT.out.keep (w':=w3) (fun j hj=>hb3.block j hj)).keep (w':=w4) (fun j hj=>hb4.block j hj));dsimp only))
    go_ret3
    exact⟨.slice (some ⟨bt,0,none⟩) st.ts.length tc,by rw[HE.out];rfl,fun _=>⟨bt,tc,w1.heap.size,tvs,Fs,by rw[HE.out],by rw[HE.out];exact HT4.out⟩,⟨_,_,_,rfl⟩,hB4⟩
theorem Tryz.infoStm:(Tryz.prog.info? 80).map (fun i=>(i.zero,i.size,i.bytes))=some (some (.agg (stmCells P.Stm.zero)),11,88):=by kernel_rfl
theorem put_mem {w W0 w1:World} {B g bt n capT m g1 cap1:Nat} {r:P.Rd} {ts:List P.Thr} {t:P.Thr} {vs:List Value} {sv ov:Value} {st:P.Stm}
  (hr:r.threads=ts++[t]) (hn:ts.length=n) (hm:t.stmts.length=m)
  (h:RdIn w B g r (.slice (some ⟨bt,0,none⟩) (n+1) capT) ov (vs++[sv]))
  (hk:∀ k,k<w.heap.size→W0.heap[k]?=w.heap[k]?) (hsz:w.heap.size≤W0.heap.size) (hos:W0.os=w.os) (htp:W0.tape=w.tape) (hou:W0.output=w.output) (hB:B≤w.heap.size)
  (hown:w1.ownsRow B 80 11 (.slice (some ⟨g1,0,none⟩) (m+1) cap1) (m+1) (flatStm t.stmts++(stmCells st).toList)) (hgrow:W0.grownBy w1 sv.ownBlock) (hat:sv.ownBlock=some g1∨g1=W0.heap.size) :
  RdAt (w1.setCell ⟨bt,n*3+2,none⟩ (.slice (some ⟨g1,0,none⟩) (m+1) cap1)) B g (P.put r st)∧Below B w (w1.setCell ⟨bt,n*3+2,none⟩ (.slice (some ⟨g1,0,none⟩) (m+1) cap1)):=by
 have hst:=h.stmts
 rw[hr,StmtsAt_snoc] at hst
 obtain⟨hs0,hsv,hpw⟩:=hst
 have hthr:=h.threads
 have hbtT:=own_type hthr (k:=bt) rfl
 obtain⟨cur,hcur⟩:=hbtT
 have hbtlt:bt<w.heap.size:=(Array.getElem?_eq_some_iff.1 hcur).1
 have hlv:vs.length=ts.length:=hs0.length
 have svne:∀ k c e fr,w.heap[k]?=some (.cells c e fr)→e≠80→sv.ownBlock≠some k:=fun k c e fr hc he=>own_ne_blk hsv hc (Ne.symm he)
 have same:∀ k,k<w.heap.size→sv.ownBlock≠some k→k≠bt→(w1.setCell ⟨bt,n*3+2,none⟩ (.slice (some ⟨g1,0,none⟩) (m+1) cap1)).heap[k]?=w.heap[k]?:=fun k hlt h1 h2=>by
  rw[Below.heap_setCell _ _ _ _ h2,hgrow.block k (by omega) (Ne.symm h1),hk k hlt]
 have hg1bt:g1≠bt:=by
  intro e;subst e
  rcases hat with ha | ha
  ·exact svne g1 cur _ _ hcur (by decide) ha
  ·omega
 refine⟨⟨.slice (some ⟨bt,0,none⟩) (n+1) capT,ov,vs++[.slice (some ⟨g1,0,none⟩) (m+1) cap1],?_,?_,?_,?_⟩,?_⟩
 ·have hgne:g≠bt:=fun e=>by subst e;rw[h.cells] at hcur;simp at hcur
  rw[same g h.lt (svne g _ _ _ h.cells (by decide)) hgne]
  exact h.cells
 ·have h1:w1.ownsRow B 73 3 (.slice (some ⟨bt,0,none⟩) (n+1) capT) (n+1) (thrCells r.threads (vs++[sv])):=by
   have e:r.threads.length=n+1:=by rw[hr];simp;omega
   rw[e] at hthr
   exact ownsRow_keep hthr (fun k hk'=>by
    simp[Value.ownBlock] at hk';subst hk'
    rw[hgrow.block bt (by omega) (Ne.symm (svne bt cur _ _ hcur (by decide))),hk bt hbtlt])
  have h2:=(h1.stored (n*3+2) (.slice (some ⟨g1,0,none⟩) (m+1) cap1)).1
  have e1:(P.put r st).threads=ts++[{ t with stmts:=t.stmts++[st] }]:=by simp only[P.put,hr,P.putLast_snoc]
  rw[e1,thrCells_snoc _ _ _ _ hlv]
  rw[hr,thrCells_snoc _ _ _ _ hlv] at h2
  have e2:(thrCells ts vs++[Value.int .i64 t.block,.int .i64 t.line,sv]).set (n*3+2) (.slice (some ⟨g1,0,none⟩) (m+1) cap1)=thrCells ts vs++[.int .i64 t.block,.int .i64 t.line,.slice (some ⟨g1,0,none⟩) (m+1) cap1]:=by
   rw[List.set_append_right _ _ (by rw[thrCells_length _ _ hlv];omega),thrCells_length _ _ hlv,show n*3+2-ts.length*3=2 by omega]
   rfl
  rw[e2] at h2
  simpa [hn] using h2
 ·refine ownsRow_keep h.opn (fun k hk'=>?_)
  have hl:=h.opn.lt k hk'
  refine same k hl.2 ?_ ?_
  ·exact own_ne h.opn hsv (by decide) hk'
  ·intro e;subst e
   exact own_ne h.opn hthr (by decide) hk' rfl
 ·have e1:(P.put r st).threads=ts++[{ t with stmts:=t.stmts++[st] }]:=by simp only[P.put,hr,P.putLast_snoc]
  rw[e1,StmtsAt_snoc]
  refine⟨hs0.keep (fun u hu k hk'=>?_),?_,fun u hu=>?_⟩
  ·obtain⟨n',xs',hu'⟩:=hs0.mem u hu
   have hlt:=(hu'.lt k hk').2
   refine same k hlt (fun e=>?_) (fun e=>?_)
   ·rcases hpw u hu with hp | hp
    ·rw[hp] at hk';cases hk'
    ·exact hp (by rw[hk',e])
   ·subst e
    exact own_ne hu' hthr (by decide) hk' rfl
  ·have:=hown
   rw[← flatStm_snoc] at this
   refine ownsRow_keep (by simpa [hm] using this) (fun k hk'=>?_)
   simp[Value.ownBlock] at hk';subst hk'
   exact Below.heap_setCell _ _ _ _ hg1bt
  ·rcases hpw u hu with hp | hp
   ·exact .inl hp
   ·rcases hat with ha | ha
    ·exact .inr (by rw[ha] at hp;exact hp)
    ·refine .inr (fun e=>?_)
     obtain⟨n',xs',hu'⟩:=hs0.mem u hu
     have:=(hu'.lt g1 e).2
     omega
 ·refine⟨hgrow.os.trans hos,hgrow.tape.trans htp,hgrow.output.trans hou,?_,fun k hk'=>?_⟩
  ·have:=hgrow.size;simp[World.setCell];omega
  ·refine same k (by omega) (fun e=>?_) (fun e=>?_)
   ·have:=(hsv.lt k e).1;omega
   ·have:=(hthr.lt bt rfl).1;omega
set_option maxHeartbeats 3200000 in
theorem put_walk (B g bt n capT:Nat) (st:P.Stm) (sv:Value) (m:Nat) (xs:List Value) (w:World) (hg:w.cell? ⟨g,0,none⟩=some (.slice (some ⟨bt,0,none⟩) (n+1) capT))
  (hn:n<5) (hm:m<10000) (hc:w.cell? ⟨bt,n*3+2,none⟩=some sv) (hf:w.frozen? ⟨bt,n*3+2,none⟩=false)
  (hown:w.ownsRow B 80 11 sv m xs) (hne:some bt≠sv.ownBlock) (hneg:some g≠sv.ownBlock) (hB:B≤w.heap.size) (hglt:g<w.heap.size) (hblt:bt<w.heap.size) (Q:Ending→World→Prop)
  (hQ:∀ g1 cap1 w1,w1.ownsRow B 80 11 (.slice (some ⟨g1,0,none⟩) (m+1) cap1) (m+1) (xs++(stmCells st).toList)→((w.alloc (.cells (stmCells st) 80)).drew.alloc (.cells (stmCells st) 80)).grownBy w1 sv.ownBlock→(sv.ownBlock=some g1∨g1=w.heap.size+2) →
   Q (.returned (.tuple #[])) (w1.setCell ⟨bt,n*3+2,none⟩ (.slice (some ⟨g1,0,none⟩) (m+1) cap1))) :
  Calls Tryz.prog 88 #[.pointer (some ⟨g,0,none⟩),.agg (stmCells st)] w Q:=by
 obtain⟨i0,hi,hz0,hz1,hz2⟩:=info_parts Tryz.infoStm
 have hown2:((w.alloc (.cells (stmCells st) 80)).drew.alloc (.cells (stmCells st) 80)).ownsRow B 80 11 sv m xs:=((hown.alloc _).drew).alloc _
 have HO:=hide hown2
 have hnews:∀ j u,(stmCells st).toList[j]?=some u→((w.alloc (.cells (stmCells st) 80)).drew.alloc (.cells (stmCells st) 80)).cell? ((⟨w.heap.size+1,0,none⟩:Addr).add j)=some u:=World.news_of_block (t:=80) (fr:=(0,0)) (by have:=heap_alloc_new (w.alloc (.cells (stmCells st) 80)).drew (.cells (stmCells st) 80);simpa using this)
 have HN:=hide hnews
 have eb:∀ k,k<w.heap.size→((w.alloc (.cells (stmCells st) 80)).drew.alloc (.cells (stmCells st) 80)).heap[k]?=w.heap[k]?:=fun k hk=>by
  rw[Below.heap_alloc _ _ _ (by simp;omega)]
  exact Below.heap_alloc _ _ _ hk
 have HC:Hid (((w.alloc (.cells (stmCells st) 80)).drew.alloc (.cells (stmCells st) 80)).cell? ⟨bt,n*3+2,none⟩=some sv):=(World.cell?_of_block (w:=w) (eb bt hblt)).trans hc
 have HF:Hid (((w.alloc (.cells (stmCells st) 80)).drew.alloc (.cells (stmCells st) 80)).frozen? ⟨bt,n*3+2,none⟩=false):=(World.frozen?_of_block (w:=w) (eb bt hblt)).trans hf
 have HG:Hid (((w.alloc (.cells (stmCells st) 80)).drew.alloc (.cells (stmCells st) 80)).cell? ⟨g,0,none⟩=some (.slice (some ⟨bt,0,none⟩) (n+1) capT)):=(World.cell?_of_block (w:=w) (eb g hglt)).trans hg
 have HQ:=hide hQ
 clear hown2 hnews eb hQ hown
 have hin:((n:Int)<(n:Int)+1):=by omega
 have hn0:(0:Int)≤(n:Int):=by omega
 simp only[stmCells]
 go_enter Tryz.func88,Tryz.ntmps88
 go_wp2_with fail
 go_region_law (refine step_append_lies _ rfl (.tmp 25) (.tmp 27) 71 rfl B 80 i0 (.agg (stmCells P.Stm.zero)) 11 88 Tryz.underlying71 hi hz0 hz1 hz2 rfl (by decide) sv m xs (by simp[Act.eval]) (by exact HO.out) ⟨w.heap.size+1,0,none⟩ 1 1 (stmCells st).toList (by simp[Act.eval]) rfl (by exact HN.out) (by simp[stmCells,Value.oneCell']) (by decide) (by unfold maxLen;omega) (by omega) (by simp;omega) (w.heap.size+2) (by simp) ?_;intro g1 cap1 w1 hown1 hgrow hat hlt1;have c1:=(hgrow.cell_far ⟨bt,n*3+2,none⟩ (by simp;omega) hne).trans HC.out;have f1:=(hgrow.frozen_far ⟨bt,n*3+2,none⟩ (by simp;omega) hne).trans HF.out;have d1:=(hgrow.cell_far ⟨g,0,none⟩ (by simp;omega) hneg).trans HG.out)
 all_goals go_end0
 all_goals exact HQ.out _ _ _ hown1 hgrow hat
def Few (N:Nat) (r:P.Rd):Prop:=r.threads.length≤4∧∀ t∈r.threads,t.stmts.length≤N
theorem put_any (B g N:Nat) (r:P.Rd) (st:P.Stm) (w:World) (h:RdAt w B g r) (hne:r.threads≠[]) (hF:Few N r) (hN:N<10000) (hB:B≤w.heap.size) :
  Calls Tryz.prog 88 #[.pointer (some ⟨g,0,none⟩),.agg (stmCells st)] w fun e w'=>e=.returned (.tuple #[])∧RdAt w' B g (P.put r st)∧Below B w w':=by
 obtain⟨tv,ov,vs,h⟩:=h
 obtain⟨ts,t,hr⟩:=snoc_of r.threads hne
 have hl:=h.stmts.length
 have hvne:vs≠[]:=by intro e;subst e;rw[hr] at hl;simp at hl
 obtain⟨vs0,sv,rfl⟩:=snoc_of vs hvne
 have hlen:r.threads.length=ts.length+1:=by rw[hr];simp
 have hthr:=h.threads
 rw[hlen] at hthr
 obtain⟨bt,capT,rfl,_,hbtlt⟩:=hthr.form (by omega)
 have hst:=h.stmts
 rw[hr,StmtsAt_snoc] at hst
 obtain⟨hs0,hsv,hpw⟩:=hst
 have hlv:vs0.length=ts.length:=hs0.length
 have hc:w.cell? ⟨bt,ts.length*3+2,none⟩=some sv:=by
  rw[hthr.cellAt _ (by omega),hr,thrCells_snoc _ _ _ _ hlv,List.getElem?_append_right (by rw[thrCells_length _ _ hlv];omega),thrCells_length _ _ hlv,show ts.length*3+2-ts.length*3=2 by omega]
  rfl
 have hg0:w.cell? ⟨g,0,none⟩=some (.slice (some ⟨bt,0,none⟩) (ts.length+1) capT):=by
  simp[World.cell?,h.cells]
 have hm:t.stmts.length≤N:=hF.2 t (by rw[hr];simp)
 obtain⟨cur,hcur⟩:=own_type hthr (k:=bt) rfl
 refine put_walk B g bt ts.length capT st sv t.stmts.length (flatStm t.stmts) w hg0 (by have:=hF.1;omega) (by omega) hc (hthr.frozenAt _) hsv (Ne.symm (own_ne_blk hsv hcur (by decide))) (Ne.symm (own_ne_blk hsv h.cells (by decide))) hB h.lt hbtlt _ ?_
 intro g1 cap1 w1 hown1 hgrow hat
 refine⟨rfl,put_mem (W0:=(w.alloc (.cells (stmCells st) 80)).drew.alloc (.cells (stmCells st) 80)) hr rfl rfl h (fun k hk=>?_) (by simp;omega) rfl rfl rfl hB hown1 hgrow (by rcases hat with ha | ha;exact .inl ha;right;simp;omega)⟩
 rw[Below.heap_alloc _ _ _ (by simp;omega)]
 exact Below.heap_alloc _ _ _ hk
theorem RdIn.setG {w:World} {B g:Nat} {r:P.Rd} {tv ov:Value} {vs:List Value} (r':P.Rd) (ov':Value) (h:RdIn w B g r tv ov vs) (i:Nat) (u:Value) (ht:r'.threads=r.threads)
  (ho:w.ownsRow B 3 1 ov' r'.opn.length (r'.opn.map (Value.int .i64)))
  (he:(#[tv,.int .i64 r.most,.int .i64 r.count,.int .i64 r.ifs,ov]:Array Value).setIfInBounds i u=#[tv,.int .i64 r'.most,.int .i64 r'.count,.int .i64 r'.ifs,ov']) :
  RdIn (w.setCell ⟨g,i,none⟩ u) B g r' tv ov' vs:=by
 have keep:∀ k,(∃ (c:Array Value) (e:TypeId),w.heap[k]?=some (Obj.cells c e (0,0))∧e≠93)→(w.setCell ⟨g,i,none⟩ u).heap[k]?=w.heap[k]?:=fun k ⟨c,e,hc,hne⟩ =>
  Below.heap_setCell _ _ _ _ (fun ek=>by simp at ek;subst ek;rw[h.cells] at hc;simp at hc;exact hne hc.2.symm)
 refine⟨by rw[setCell_block h.cells,he],?_,?_,?_⟩
 ·rw[ht]
  exact ownsRow_keep h.threads (fun k hk=>by obtain⟨c,hc⟩:=own_type h.threads hk;exact keep k ⟨c,_,hc,by decide⟩)
 ·exact ownsRow_keep ho (fun k hk=>by obtain⟨c,hc⟩:=own_type ho hk;exact keep k ⟨c,_,hc,by decide⟩)
 ·rw[ht]
  exact h.stmts.keep (fun v hv k hk=>by
   obtain⟨n,xs,hv'⟩:=h.stmts.mem v hv
   obtain⟨c,hc⟩:=own_type hv' hk;exact keep k ⟨c,_,hc,by decide⟩)
theorem RdIn.facts {w:World} {B g:Nat} {r:P.Rd} {tv ov:Value} {vs:List Value} (h:RdIn w B g r tv ov vs):g<w.heap.size∧(∀ i,w.frozen? ⟨g,i,none⟩=false)∧w.cell? ⟨g,0,none⟩=some tv∧w.cell? ⟨g,1,none⟩=some (.int .i64 r.most) ∧
  w.cell? ⟨g,2,none⟩=some (.int .i64 r.count)∧w.cell? ⟨g,3,none⟩=some (.int .i64 r.ifs)∧w.cell? ⟨g,4,none⟩=some ov:=by
 refine⟨h.lt,fun i=>?_,?_,?_,?_,?_,?_⟩<;>simp[World.cell?,World.frozen?,h.cells]
theorem own_pop {w:World} {B:Nat} {e:TypeId} {k n cap:Nat} {xs:List Value} {x:Value} (h:w.ownsRow B e 1 (.slice (some ⟨k,0,none⟩) (n+1) cap) (n+1) (xs++[x])):w.ownsRow B e 1 (.slice (some ⟨k,0,none⟩) n cap) n xs:=by
 have hl:=h.1
 rcases h.2 with ⟨h',_⟩ | ⟨g',cap',cur,h',hb,hg,hnc,hcm,hcs,htake⟩
 ·simp at h'
 ·simp only[Value.slice.injEq,Option.some.injEq,Addr.mk.injEq,and_true,true_and] at h'
  obtain⟨rfl,rfl⟩:=h'
  refine⟨by simp at hl;omega,.inr ⟨k,cap,cur,rfl,hb,hg,by omega,hcm,hcs,?_⟩⟩
  have hx:xs.length=n:=by simp at hl;omega
  have e:cur.toList.take n=(cur.toList.take ((n+1)*1)).take n:=by rw[List.take_take];congr 1;omega
  rw[Nat.mul_one,e,htake,← hx]
  simp
end Go.Proofs.YtpkjmdcabdplfaaGreatDoor
namespace Go.Proofs.YtpkjmdcabdplfaaGreatDoor
open Go Go.RowKit
structure BelowX (B g:Nat) (w w':World):Prop where
 os:w'.os=w.os
 tape:w'.tape=w.tape
 output:w'.output=w.output
 size:w.heap.size≤w'.heap.size
 block:∀ k,k<B→k≠g→w'.heap[k]?=w.heap[k]?
theorem BelowX.refl (B g:Nat) (w:World):BelowX B g w w:=⟨rfl,rfl,rfl,Nat.le_refl _,fun _ _ _=>rfl⟩
theorem BelowX.of {B g:Nat} {w w':World} (h:Below B w w'):BelowX B g w w':=⟨h.os,h.tape,h.output,h.size,fun k hk _=>h.block k hk⟩
theorem BelowX.trans {B g:Nat} {a b c:World} (h:BelowX B g a b) (k:BelowX B g b c):BelowX B g a c :=
 ⟨k.os.trans h.os,k.tape.trans h.tape,k.output.trans h.output,Nat.le_trans h.size k.size,fun i hi hg=>(k.block i hi hg).trans (h.block i hi hg)⟩
theorem BelowX.drew {B g:Nat} {a w:World} (h:BelowX B g a w):BelowX B g a w.drew:=⟨h.os,h.tape,h.output,h.size,h.block⟩
theorem BelowX.alloc {B g:Nat} {a w:World} (h:BelowX B g a w) (hB:B≤w.heap.size) (o:Obj):BelowX B g a (w.alloc o) :=
 h.trans (BelowX.of ((Below.refl _ _).alloc hB _))
theorem BelowX.setCell {B g:Nat} {a w:World} (h:BelowX B g a w) {i:Nat} (u:Value):BelowX B g a (w.setCell ⟨g,i,none⟩ u) :=
 h.trans ⟨rfl,rfl,rfl,by simp[World.setCell],fun k _ hg=>Below.heap_setCell _ _ _ _ hg⟩
theorem BelowX.grown {B g:Nat} {a w w':World} {row:Option Nat} (h:BelowX B g a w) (hg:w.grownBy w' row) (hB:B≤w.heap.size) (hr:∀ k,row=some k→B≤k):BelowX B g a w' :=
 h.trans (BelowX.of ((Below.refl _ _).grown hg hB hr))
theorem BelowX.below {B B' g:Nat} {w w':World} (h:BelowX B g w w') (h1:B'≤B) (h2:B'≤g):Below B' w w':=⟨h.os,h.tape,h.output,h.size,fun k hk=>h.block k (by omega) (by omega)⟩
end Go.Proofs.YtpkjmdcabdplfaaGreatDoor
namespace Go.Proofs.YtpkjmdcabdplfaaGreatDoor
open Go Go.RowKit
set_option maxRecDepth 100000
set_option maxHeartbeats 1600000 in
theorem ends_any (B g N:Nat) (r:P.Rd) (st:P.Stm) (w:World) (h:RdAt w B g r) (hne:r.threads≠[]) (hF:Few N r) (hN:N<10000) (hB:B≤w.heap.size) (ho:r.opn.length<10) :
  Calls Tryz.prog 86 #[.pointer (some ⟨g,0,none⟩),.agg (stmCells st)] w fun e w'=>e=.returned (.bool (P.ends r st).2)∧RdAt w' B g (P.ends r st).1∧BelowX B g w w':=by
 have hA:=h
 obtain⟨tv,ov,vs,h⟩:=h
 by_cases he:r.opn=[]
 ·have hov:ov=.slice none 0 0∨∃ k c,ov=.slice (some ⟨k,0,none⟩) 0 c:=by
   have:=h.opn
   rw[he] at this
   rcases this.2 with ⟨e,_⟩ | ⟨k,c,cur,e,_⟩
   ·exact .inl e
   ·exact .inr ⟨k,c,e⟩
  obtain⟨glt,gfr,g0,g1,g2,g3,g4⟩:=h.facts
  have HE:Hid (P.ends r st=(r,false)):=by unfold Hid;simp[P.ends,he]
  have hA':RdAt (w.alloc (.cells (stmCells st) 80)) B g r:=hA.below ((Below.refl _ _).alloc (Nat.le_refl _) _)
  clear hA h
  rcases hov with rfl | ⟨k,c,rfl⟩
  all_goals
   go_enter Tryz.func86,Tryz.ntmps86
   go_wp2
   go_ret
   rw[unhide HE]
   exact⟨rfl,hA',(BelowX.refl _ _ _).alloc hB _⟩
 ·obtain⟨os,o,hos⟩:=snoc_of r.opn he
  have hown:=h.opn
  rw[hos] at hown
  simp only[List.length_append,List.length_cons,List.length_nil,Nat.zero_add,List.map_append,List.map_cons,List.map_nil] at hown
  obtain⟨k,cap,rfl,hBk,hklt⟩:=hown.form (by omega)
  have hc:w.cell? ⟨k,os.length,none⟩=some (.int .i64 o):=by
   rw[hown.cellAt _ (by omega),List.getElem?_append_right (by simp)];simp
  obtain⟨glt,gfr,g0,g1,g2,g3,g4⟩:=h.facts
  have hol:os.length<10:=by rw[hos] at ho;simp at ho;omega
  have HE:Hid (P.ends r st=(P.put { r with opn:=os } { st with label:=o },true)):=by unfold Hid;simp[P.ends,hos]
  have HR:Hid (RdAt ((w.setCell ⟨g,4,none⟩ (.slice (some ⟨k,0,none⟩) os.length cap)).alloc (.cells (stmCells { st with label:=o }) 80)) B g { r with opn:=os }):=by
   have k2:=h.opn
   rw[hos] at k2
   simp only[List.length_append,List.length_cons,List.length_nil,Nat.zero_add,List.map_append,List.map_cons,List.map_nil] at k2
   have k3:=h.setG { r with opn:=os } (.slice (some ⟨k,0,none⟩) os.length cap) 4 (.slice (some ⟨k,0,none⟩) os.length cap) rfl (own_pop k2) rfl
   exact⟨tv,_,vs,k3.keep (fun j hj=>Below.heap_alloc _ _ _ hj)⟩
  have hB1:Hid (BelowX B g w ((w.setCell ⟨g,4,none⟩ (.slice (some ⟨k,0,none⟩) os.length cap)).alloc (.cells (stmCells { st with label:=o }) 80))) :=
   ((BelowX.refl _ _ _).setCell _).alloc (by simp;omega) _
  have hoc:os.length+1≤cap:=by
   rcases hown.2 with ⟨h',_⟩ | ⟨g',cap',cur,h',hb,hg,hnc,hcm,hcs,htake⟩
   ·simp at h'
   ·simp only[Value.slice.injEq] at h';omega
  clear hA h hown hos he ho
  simp only[stmCells]
  go_enter Tryz.func86,Tryz.ntmps86
  go_wp2_with (first
   | (go_at_call 88;refine (put_any B g N { r with opn:=os } { st with label:=o } _ (by exact HR.out) hne hF hN (by simp;omega)).mono ?_;rintro e w1 ⟨rfl,hr1,hb1⟩))
  go_ret
  rw[unhide HE]
  exact⟨rfl,hr1,hB1.out.trans (BelowX.of hb1)⟩
end Go.Proofs.YtpkjmdcabdplfaaGreatDoor
