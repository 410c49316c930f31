import Derived.Test.YtkmebkbpfmoeaaaGreatE05
set_option linter.unusedVariables false
set_option linter.unusedSimpArgs false
set_option maxHeartbeats 12800000
namespace Go.Proofs.YtkmebkbpfmoeaaaGreat
open Go Go.RowKit
set_option maxRecDepth 100000
def zAw (w:World) (B:Nat) (tv:Value) (ts:List P.Thr):Prop:=∃ vs,w.ownsRow B 93 3 tv ts.length (zAP ts vs)∧zAQ w B ts vs
theorem zAw.keep {w w':World} {B:Nat} {tv:Value} {ts:List P.Thr} (h:zAw w B tv ts) (hb:∀ k,k<w.heap.size→w'.heap[k]?=w.heap[k]?):zAw w' B tv ts:=by
 obtain⟨vs,h1,h2⟩:=h
 exact⟨vs,zAd h1 (fun k e=>hb k (h1.lt k e).2),h2.keep (fun v hv k e=>by obtain⟨n,xs,ho⟩:=h2.mem v hv;exact hb k (ho.lt k e).2)⟩
theorem zAw.nil (w:World) (B:Nat):zAw w B (.slice none 0 0) []:=⟨[],World.ownsRow_nil _ _ _ _,trivial⟩
theorem P.splitAt_le (c:UInt8) (l:List UInt8):∀ x∈P.zIp c l,x.length≤l.length:=by
 induction l with
 | nil=>intro x hx;simp[P.zIp] at hx;simp[hx]
 | cons y r ih =>
  intro x hx
  by_cases hy:y=c
  ·subst hy
   rw[P.splitAt_cons_eq] at hx
   rcases List.mem_cons.1 hx with rfl | hx
   ·simp
   ·have:=ih x hx;simp;omega
  ·cases hs:P.zIp c r with
   | nil=>exact absurd hs (P.zJo _ _)
   | cons a b =>
    rw[P.splitAt_cons_ne c y r hy a b hs] at hx
    rcases List.mem_cons.1 hx with rfl | hx
    ·have:=ih a (by rw[hs];simp);simp;omega
    ·have:=ih x (by rw[hs];simp[hx]);simp;omega
theorem P.takes_count (r:P.Rd) (ws:List (List UInt8)) (h0:0≤r.count):(P.takes r ws).1.count≤r.count+1:=by
 unfold P.takes
 split
 ·unfold P.zIV
  split
  ·(simp<;>omega)
  ·split
   ·split
    ·(simp<;>omega)
    ·(simp<;>omega)
   ·(simp<;>omega)
 ·split
  ·(simp<;>omega)
  ·simp only[]
   split
   ·split
    ·unfold P.ends
     split
     ·(simp<;>omega)
     ·(simp[P.put]<;>omega)
    ·split
     ·(simp<;>omega)
     ·split
      ·split
       ·(simp<;>omega)
       ·unfold P.branch
        split
        ·(simp<;>omega)
        ·(simp[P.put]<;>omega)
      ·(simp[P.put]<;>omega)
   ·(simp<;>omega)
structure LoopAt (rows:List ByteArray) (k:Nat) (r:P.Rd):Prop where
 run:P.zJP P.Rd.zero ((rows.take k).map ByteArray.toList)=(r,true)
 good:P.Good k r
 lin:r.line=k
 most:r.most=8
 cn:r.count≤k
theorem zCx (rows:List ByteArray) (k:Nat) (hk:k<rows.length):(rows.take (k+1)).map ByteArray.toList=(rows.take k).map ByteArray.toList++[rows[k].toList]:=by
 rw[List.take_succ_eq_append_getElem hk,List.map_append,List.map_cons,List.map_nil]
theorem zFR (rows:List ByteArray):LoopAt rows 0 P.Rd.zero:=⟨by simp[P.zJP],P.good_zero,rfl,rfl,by simp[P.Rd.zero]⟩
theorem zGu {rows:List ByteArray} {k:Nat} {r:P.Rd} (h:LoopAt rows k r) (hk:k<rows.length) (ht:(P.takes { r with line:=r.line+1 } (P.zIp 32 rows[k].toList)).2=true) :
  LoopAt rows (k+1) (P.takes { r with line:=r.line+1 } (P.zIp 32 rows[k].toList)).1:=by
 have hkp:=P.zJJ { r with line:=r.line+1 } (P.zIp 32 rows[k].toList) h.most
 refine⟨?_,P.good_takes _ h.good (by have:=h.lin;omega),?_,hkp.2,?_⟩
 ·rw[zCx rows k hk,P.zJk _ _ _ _ h.run,← ht]
 ·rw[hkp.1];have:=h.lin;simp;omega
 ·have:=P.takes_count { r with line:=r.line+1 } (P.zIp 32 rows[k].toList) h.good.cnt
  have h2:=h.cn
  simp at this ⊢;omega
theorem zGv {s:ByteArray} {rows:List ByteArray} {last:ByteArray} {k:Nat} {r:P.Rd} (hc:rows.map ByteArray.toList++[last.toList]=P.zIp 10 s.toList) (h:LoopAt rows k r) (hk:k<rows.length) (ht:(P.takes { r with line:=r.line+1 } (P.zIp 32 rows[k].toList)).2=false) :
  P.lines s.toList=([],(k:Int)+1):=by
 have hkp:=P.zJJ { r with line:=r.line+1 } (P.zIp 32 rows[k].toList) h.most
 have hrun:P.zJP P.Rd.zero ((rows.take (k+1)).map ByteArray.toList)=P.takes { r with line:=r.line+1 } (P.zIp 32 rows[k].toList):=by
  rw[zCx rows k hk,P.zJk _ _ _ _ h.run]
 have hd:(P.zIp 10 s.toList).dropLast=(rows.take (k+1)).map ByteArray.toList++(rows.drop (k+1)).map ByteArray.toList:=by
  rw[← hc,List.dropLast_concat,← List.map_append,List.take_append_drop]
 have:=P.runLines_more _ P.Rd.zero ((rows.drop (k+1)).map ByteArray.toList) (by rw[hrun];exact ht)
 unfold P.lines
 simp only[hd,this,hrun,ht]
 simp only[Bool.false_eq_true,if_false]
 rw[hkp.1,h.lin]
theorem zGW {s:ByteArray} {rows:List ByteArray} {last:ByteArray} {r:P.Rd} (hc:rows.map ByteArray.toList++[last.toList]=P.zIp 10 s.toList) (h:LoopAt rows rows.length r) :
  P.lines s.toList=if last.toList.isEmpty=false∨r.threads.length=0∨0<r.opn.length then ([],(rows.length:Int)+1) else (r.threads,0):=by
 have hrun:=h.run
 rw[List.take_length] at hrun
 have e1:last.toList=[] ↔ last.toList.isEmpty=true:=by rw[List.isEmpty_iff]
 unfold P.lines
 simp only[← hc,List.dropLast_concat,hrun,List.getLast?_concat,if_true,h.lin]
 congr 1
 simp only[ne_eq,Option.some.injEq,e1,eq_iff_iff]
 simp[List.length_pos_iff,or_comm]
theorem zDj {fn:Func} {R:Ending→World→Prop} {a:Act} {w:World} {p u:Tmp} (g:Nat) (tv uv:Value) (hres:fn.results=#[.cell p 45,.tmp u])
  (hp:a.tmps.getD p undef=.pointer (some ⟨g,0,none⟩)) (hu:a.tmps.getD u undef=uv) (h:w.heap[g]?=some (.cells #[tv] 45 (0,0))) (hd:a.defers=[]) (hR:R (.returned (.tuple #[.agg #[tv],uv])) w):bodyPost Tryz.prog fn R .ret a w:=by
 refine bodyPost_ret (v:=.tuple #[.agg #[tv],uv]) ?_ hd hR
 rw[results_cell_tmp hres,hp,hu]
 have:(asAddr (.pointer (some ⟨g,0,none⟩))).run Tryz.prog w=.ok ⟨g,0,none⟩ w:=rfl
 rw[this,Result.andThen_ok,zBk w g _ _ _ h _ Tryz.underlying45 rfl (by kernel_rfl),Result.andThen_ok]
theorem zDk {w:World} {B B':Nat} {e:TypeId} {sz:Nat} {v:Value} {n:Nat} {xs:List Value} (h:w.ownsRow B e sz v n xs) (hb:B'≤B):w.ownsRow B' e sz v n xs:=by
 refine⟨h.1,?_⟩
 rcases h.2 with hn | ⟨g,cap,cur,rfl,hb',rest⟩
 ·exact .inl hn
 ·exact .inr ⟨g,cap,cur,rfl,by omega,rest⟩
theorem zAQ.base {w:World} {B B':Nat} (hb:B'≤B):∀ {ts:List P.Thr} {vs:List Value},zAQ w B ts vs→zAQ w B' ts vs
 | [],[],_=>trivial
 | _::_,_::_,h=>⟨zDk h.1 hb,h.2.1,zAQ.base hb h.2.2⟩
theorem zFS {w w':World} {B g p:Nat} {r:P.Rd} {tv ov:Value} {vs:List Value} (h:RdIn w B g r tv ov vs) (hb:Below w.heap.size w w') (hp:p<B) (u:Value):zAw (w'.setCell ⟨p,0,none⟩ u) p tv r.threads:=by
 refine⟨vs,zDk (zAd h.threads (fun k hk=>?_)) (by omega),(h.stmts.keep (fun v hv k hk=>?_)).base (by omega)⟩
 ·have:=(h.threads.lt k hk)
  rw[Below.heap_setCell _ _ _ _ (by simp;omega),hb.block k this.2]
 ·obtain⟨n,xs,ho⟩:=h.stmts.mem v hv
  have:=(ho.lt k hk)
  rw[Below.heap_setCell _ _ _ _ (by simp;omega),hb.block k this.2]
theorem zEV (s:ByteArray) (w:World) (hs:s.size≤8192) :
  Calls Tryz.prog 38 #[.string s,.string ⟨#[32]⟩] w fun e w'=>∃ g cap n c rs,e=.returned (.slice (some ⟨g,0,none⟩) n cap)∧Hid (c.toList::rs.map ByteArray.toList=P.zIp 32 s.toList)∧zAu w' g 0 (c::rs)∧rs.length=n-1∧1≤n∧n<10000∧n≤cap∧g<w'.heap.size∧Below w.heap.size w w':=by
 refine (zEq 32 s w hs).mono ?_
 rintro e w' ⟨g,cap,ws,rfl,hws,hown,hb⟩
 obtain⟨h1,h2,h3⟩:=zEr hown
 have hl:=P.zIL 32 s.toList
 rw[← hws,List.length_map,zAi] at hl
 cases ws with
 | nil=>exact absurd hws.symm (P.zJo _ _)
 | cons c rs=>exact⟨g,cap,_,c,rs,rfl,by simpa [Hid] using hws,h1,by simp,by simp,by omega,h2,h3,hb⟩
theorem zAJ {w:World} {g:Nat} {v:Value} {t:TypeId} (h:w.heap[g]?=some (.cells #[v] t (0,0))):w.cell? ⟨g,0,none⟩=some v∧w.frozen? ⟨g,0,none⟩=false∧g<w.heap.size:=by
 refine⟨?_,?_,(Array.getElem?_eq_some_iff.1 h).1⟩<;>simp[World.cell?,World.frozen?,h]
theorem zEd (s:ByteArray) (w:World) (hs:s.size≤8192) :
  Calls Tryz.prog 37 #[.string s] w fun e w'=>∃ g cap,∃ (rows:List ByteArray) (last:ByteArray),e=.returned (.tuple #[.slice (some ⟨g,0,none⟩) rows.length cap,.bool last.toList.isEmpty])∧Hid (rows.map ByteArray.toList++[last.toList]=P.zIp 10 s.toList)∧zAu w' g 0 rows∧rows.length≤8192∧rows.length≤cap∧g<w'.heap.size∧w.heap.size≤g∧(∀ x∈rows,x.size≤8192)∧Below w.heap.size w w':=by
 go_enter Tryz.func37,Tryz.ntmps37
 go_wp2_with fail
 refine (zEq 10 s _ hs).mono ?_
 rintro e w1 ⟨g,cap,ws,rfl,hws,hown,hb⟩
 obtain⟨h1,h2,h3⟩:=zEr hown
 have h0:w.heap.size≤g:=(hown.lt g rfl).1
 have hl:=P.zIL 10 s.toList
 rw[← hws,List.length_map,zAi] at hl
 have hne:ws≠[]:=by intro e;rw[e] at hws;exact P.zJo _ _ hws.symm
 obtain⟨rows,last,rfl⟩:=zEb ws hne
 have HW:Hid (rows.map ByteArray.toList++[last.toList]=P.zIp 10 s.toList):=by unfold Hid;rw[← hws];simp
 have hr1:zAu w1 g 0 rows:=fun i x hx=>h1 i x (by rw[List.getElem?_append_left (List.getElem?_eq_some_iff.1 hx).1];exact hx)
 have hcl:w1.cell? ⟨g,rows.length,none⟩=some (.string last):=by
  have:=h1 rows.length last (by simp)
  simpa using this
 have hsz:∀ x∈rows,x.size≤8192:=fun x hx=>by
  have hm:x.toList∈P.zIp 10 s.toList:=by rw[← HW.out];simp;left;exact⟨x,hx,rfl⟩
  have:=P.splitAt_le 10 s.toList x.toList hm
  rw[zAi,zAi] at this
  omega
 have HZ:=zAa hsz
 have HR1:=zAa hr1
 simp only[List.length_append,List.length_cons,List.length_nil,Nat.zero_add] at hl h2
 have hn0:¬ ((rows.length:Int)<0):=by omega
 have hlen:(rows++[last]).length=rows.length+1:=by simp
 clear hws hown h1 hr1 hsz hne
 simp only[hlen]
 go_wp2
 go_region
 all_goals go_wp2
 go_ret2
 refine⟨g,cap,rows,last,?_,HW,?_,by omega,by omega,h3,h0,HZ.out,hb.drew⟩
 ·first | rfl | simp
 ·exact HR1.out.drew
theorem zHR (B:Nat) (w:World):zCd (w.alloc (.cells #[.slice none 0 0,.int .i64 8,.int .i64 0,.int .i64 0,.slice none 0 0] 83)) B w.heap.size P.Rd.zero:=by
 refine⟨.slice none 0 0,.slice none 0 0,[],?_,World.ownsRow_nil _ _ _ _,World.ownsRow_nil _ _ _ _,trivial⟩
 have:=heap_alloc_new w (.cells #[.slice none 0 0,.int .i64 8,.int .i64 0,.int .i64 0,.slice none 0 0] 83)
 simpa [P.Rd.zero] using this
theorem zGw (m:Int) (w:World) :
  Calls Tryz.prog 36 #[.int .i64 m] w fun e w'=>e=.returned (.agg #[.slice none 0 0,.int .i64 m,.int .i64 0,.int .i64 0,.slice none 0 0])∧Below w.heap.size w w':=by
 go_enter Tryz.func36,Tryz.ntmps36
 go_wp2
 refine bodyPost_ret (v:=.agg #[.slice none 0 0,.int .i64 m,.int .i64 0,.int .i64 0,.slice none 0 0]) ?_ rfl ⟨rfl,(Below.refl _ _).alloc (Nat.le_refl _) _⟩
 simp[results,Tryz.results36,go_sem]
theorem zEu (B g:Nat) (r:P.Rd) (w:World) (h:zCd w B g r) (ht5:r.threads.length<6) (ho9:r.opn.length<10) :
  Calls Tryz.prog 40 #[.pointer (some ⟨g,0,none⟩)] w fun e w'=>e=.returned (.bool (decide (0<r.threads.length)&&decide (r.opn.length=0)))∧w'=w:=by
 obtain⟨tv,ov,vs,h⟩:=h
 obtain⟨ta,tc,oa,oc,rfl,rfl⟩:=h.forms
 obtain⟨glt,gfr,g0,g1,g2,g3,g4⟩:=h.facts
 clear h
 by_cases h1:0<r.threads.length
 ·have h1':(0:Int)<(r.threads.length:Int):=by omega
  cases h2:((r.opn.length:Int)==0)
  all_goals
   have h3:=h2
   simp at h3
   go_enter Tryz.func40,Tryz.ntmps40
   go_wp2
   go_ret
   refine⟨?_,rfl⟩
   simp[h1,h3]
 ·have h1':¬ (0:Int)<(r.threads.length:Int):=by omega
  have h1d:decide ((0:Int)<(r.threads.length:Int))=false:=decide_eq_false h1'
  have h1e:decide (0<r.threads.length)=false:=decide_eq_false h1
  go_enter Tryz.func40,Tryz.ntmps40
  go_wp2
  go_ret
  refine⟨?_,rfl⟩
  simp[h1e]
theorem zEW (B g:Nat) (r:P.Rd) (tv ov:Value) (vs:List Value) (w:World) (h:RdIn w B g r tv ov vs) :
  Calls Tryz.prog 41 #[.pointer (some ⟨g,0,none⟩)] w fun e w'=>e=.returned (.agg #[tv])∧Below w.heap.size w w':=by
 obtain⟨ta,tc,oa,oc,rfl,rfl⟩:=h.forms
 obtain⟨glt,gfr,g0,g1,g2,g3,g4⟩:=h.facts
 clear h
 go_enter Tryz.func41,Tryz.ntmps41
 go_wp2
 refine bodyPost_ret (v:=.agg #[.slice ta r.threads.length tc]) ?_ rfl ⟨rfl,(Below.refl _ _).alloc (Nat.le_refl _) _⟩
 simp[results,Tryz.results41,go_sem]
theorem zCk (s:ByteArray) (w:World) (hs:s.size≤8192) :
  Calls Tryz.prog 27 #[.string s] w fun e w'=>∃ tv,e=.returned (.tuple #[.agg #[tv],.int .i64 (P.lines s.toList).2])∧zAw w' w.heap.size tv (P.lines s.toList).1∧Below w.heap.size w w':=by
 go_enter Tryz.func27,Tryz.ntmps27
 go_wp2_with fail
 refine (zGw 8 _).mono ?_
 rintro e w0 ⟨rfl,hb0⟩
 have hB0:w.heap.size+1≤w0.heap.size:=by have:=hb0.size;simpa using this
 have hblk:w0.heap[w.heap.size]?=some (.cells #[.slice none 0 0] 45 (0,0)):=by
  rw[hb0.block _ (by simp)]
  exact heap_alloc_new w _
 obtain⟨z0,z1,z2⟩:=zAJ hblk
 have HB0:=zAa hblk
 have HBel0:Hid (Below w.heap.size w w0):=((Below.refl _ _).alloc (Nat.le_refl _) _).trans (hb0.mono (by simp))
 clear hblk hb0
 go_wp2_with fail
 refine (zEd s _ hs).mono ?_
 rintro e w1 ⟨gl,cl,rows,last,rfl,HW,hrw,hrl,hrc,hgl,hgl0,hrz,hb1⟩
 have hd1:=zAa ((zHR w1.heap.size w0).below hb1)
 have hblk1:w1.heap[w.heap.size]?=some (.cells #[.slice none 0 0] 45 (0,0)):=by
  rw[hb1.block _ (by simp;omega),Below.heap_alloc _ _ _ (by omega)]
  exact HB0.out
 have HB1:=zAa hblk1
 have HBel1:Hid (Below w.heap.size w w1):=(HBel0.out.alloc (by omega) _).trans (hb1.mono (by simp;omega))
 have hB1:w0.heap.size+1≤w1.heap.size:=by have:=hb1.size;simpa using this
 have HRW:=zAa hrw
 have HRZ:=zAa hrz
 clear hblk1 hb1 z0 z1 z2 hrw hrz
 go_wp2
 go_loopw [19] (fun i wr=>∃ k:Nat,∃ r:P.Rd,k≤rows.length∧i=.int .i64 k∧Hid (LoopAt rows k r)∧Hid (zCd wr w1.heap.size w0.heap.size r)∧Hid (zAu wr gl 0 rows) ∧
   Hid (wr.heap[w.heap.size]?=some (.cells #[.slice none 0 0] 45 (0,0)))∧w1.heap.size≤wr.heap.size∧Below w.heap.size w wr) (fun i _=>rows.length-(intOf i).toNat)
 case atStart=>exact⟨0,P.Rd.zero,Nat.zero_le _,rfl,zFR _,hd1,HRW,HB1,Nat.le_refl _,HBel1.out⟩
 case round =>
  obtain⟨k,r,hk,rfl,HL,HR,HWW,HB,hwl,hbel⟩:=hrel
  have hgd:=HL.out.good
  have hlin:=HL.out.lin
  have hm8:=HL.out.most
  have hcn:=HL.out.cn
  by_cases hlt:k<rows.length
  ·have hrk:rows[k]?=some rows[k]:=List.getElem?_eq_getElem hlt
   have hck:=HWW.out k rows[k] hrk
   simp only[Nat.zero_add] at hck
   have hzk:=HRZ.out rows[k] (List.getElem_mem hlt)
   have hgr:gl<wr.heap.size:=by omega
   have hkl:(k:Int)<(rows.length:Int):=by omega
   have HSt:=zAa (fun h=>zGu HL.out hlt h)
   have HFl:=zAa (fun h=>zGv HW.out HL.out hlt h)
   generalize rows[k]=row at *
   have HM:=zAa hm8
   have HLin:=zAa hlin
   clear hrk hm8 hlin
   cases ht:(P.takes { r with line:=r.line+1 } (P.zIp 32 row.toList)).2
   all_goals
    go_wp2_with fail
    refine (zEV _ _ hzk).mono ?_
    rintro e w2 ⟨gw,cw,n,c,rs,rfl,HWs,hwa,hn,hn1,hnb,hcap,hgw,hb2⟩
    have hr2:=zAa ((HR.out.below hb2).lined ((k:Int)+1))
    have hB2:w1.heap.size≤w2.heap.size:=by have:=hb2.size;omega
    have HW2:=zAa (HWW.out.below hb2)
    have hblk2:Hid (w2.heap[w.heap.size]?=some (.cells #[.slice none 0 0] 45 (0,0))):=(hb2.block _ (by omega)).trans HB.out
    have HBel2:Hid (Below w.heap.size w w2):=hbel.trans (hb2.mono (by omega))
    clear hb2 hbel hck
    go_wp2_with fail
    refine (zGt w1.heap.size w0.heap.size k gw 0 n cw { r with line:=(k:Int)+1 } c rs _ hr2.out hwa hn hn1 hnb hcap hgw HM.out ⟨hgd.few,hgd.stm⟩ (by omega) hB2 (by have:=hgd.opn;simp;omega) hgd.ifs0 (by have:=hgd.ifs1;simp;omega) hgd.cnt (by simp;omega)).mono ?_
    rintro e w3 ⟨he,hr3,hb3⟩
    rw[HWs.out] at he hr3
    have eL:({ r with line:=(k:Int)+1 }:P.Rd)={ r with line:=r.line+1 }:=by rw[HLin.out]
    rw[eL] at he hr3
    rw[ht] at he
    subst he
    have hblk3:w3.heap[w.heap.size]?=some (.cells #[.slice none 0 0] 45 (0,0)):=(hb3.block _ (by omega) (by omega)).trans hblk2.out
    obtain⟨z0,z1,z2⟩:=zAJ hblk3
    have HB3:=zAa hblk3
    have HBel3:Hid (Below w.heap.size w w3):=HBel2.out.trans (hb3.below (by omega) (by omega))
    have HW3:Hid (zAu w3 gl 0 rows):=HW2.out.kept (fun _=>hb3.block gl hgl (by simp at hgl0;omega))
    have hs3:=hb3.size
    have HR3:=zAa hr3
    clear hblk3 hb3 hr3 eL
    go_wp2
   ·rw[HFl.out ht]
    refine zDj (p:=2) (u:=3) w.heap.size (.slice none 0 0) _ (by kernel_rfl) rfl rfl (by exact zAf HB3.out 0 _) rfl ⟨_,rfl,zAw.nil _ _,?_⟩
    exact (HBel3.out).setCell (Nat.le_refl _) _
   ·go_roundw
    case rel=>exact⟨k+1,_,by omega,by go_num,HSt.out ht,HR3,HW3,HB3,by omega,HBel3.out⟩
    case measure=>simp[intOf];omega
  ·have hkn:k=rows.length:=by omega
   subst hkn
   have HE:=zAa (zGW HW.out HL.out)
   have ht5:r.threads.length<6:=by have:=hgd.few;omega
   have ho9:r.opn.length<10:=by have:=hgd.opn;omega
   obtain⟨z0,z1,z2⟩:=zAJ HB.out
   have hll:¬ ((rows.length:Int)<(rows.length:Int)):=by omega
   clear hm8 hlin hgd
   cases he:last.toList.isEmpty
   ·go_wp2
    rw[zAC HE,if_pos (Or.inl he)]
    refine zDj (p:=2) (u:=3) w.heap.size (.slice none 0 0) _ (by kernel_rfl) rfl rfl (by exact zAf HB.out 0 _) rfl ⟨_,rfl,zAw.nil _ _,?_⟩
    exact hbel.setCell (Nat.le_refl _) _
   cases hw:(decide (0<r.threads.length)&&decide (r.opn.length=0))
   ·have hor:last.toList.isEmpty=false∨r.threads.length=0∨0<r.opn.length:=by
     have hw':=hw
     rw[Bool.and_eq_false_iff,decide_eq_false_iff_not,decide_eq_false_iff_not] at hw'
     omega
    have HOR:=zAa hor
    clear hor
    go_wp2_with (first | (go_at_call 40;refine (zEu _ _ r _ HR.out ht5 ho9).mono ?_;rintro e w' ⟨rfl,rfl⟩;rw[hw]))
    rw[zAC HE,if_pos HOR.out]
    refine zDj (p:=2) (u:=3) w.heap.size (.slice none 0 0) _ (by kernel_rfl) rfl rfl (by exact zAf HB.out 0 _) rfl ⟨_,rfl,zAw.nil _ _,?_⟩
    exact hbel.setCell (Nat.le_refl _) _
   ·have hno:¬ (last.toList.isEmpty=false∨r.threads.length=0∨0<r.opn.length):=by
     have hw':=hw
     rw[Bool.and_eq_true,decide_eq_true_eq,decide_eq_true_eq] at hw'
     rintro (h | h | h)
     ·rw[he] at h;cases h
     ·omega
     ·omega
    have HNO:=zAa hno
    clear hno
    obtain⟨tv,ov,vs,hri⟩:=HR.out
    obtain⟨ta,tc,oa,oc,rfl,rfl⟩:=hri.forms
    have HRI:=zAa hri
    clear hri
    go_wp2_with (first | (go_at_call 40;refine (zEu _ _ r _ HR.out ht5 ho9).mono ?_;rintro e w' ⟨rfl,rfl⟩;rw[hw]) | (go_at_call 41;refine (zEW _ _ r _ _ vs _ HRI.out).mono ?_;rintro e w4 ⟨rfl,hb4⟩;have hblk4:=(hb4.block _ (by omega)).trans HB.out;obtain⟨y0,y1,y2⟩:=zAJ hblk4;have HB4:=zAa hblk4;clear hblk4))
    rw[zAC HE,if_neg HNO.out]
    refine zDj (p:=2) (u:=3) w.heap.size _ _ (by kernel_rfl) rfl rfl (by exact zAf HB4.out 0 _) rfl ⟨_,rfl,zFS HRI.out hb4 (by omega) _,(hbel.trans (hb4.mono (by omega))).setCell (Nat.le_refl _) _⟩
namespace P
def bars:List Stm→Int
 | []=>0
 | s::r=>(if s.kind==5 then 1 else 0)+bars r
theorem bars_append (a b:List Stm):bars (a++b)=bars a+bars b:=by
 induction a with
 | nil=>simp[bars]
 | cons s r ih=>simp[bars,ih];omega
theorem zKu (l:List Stm):0≤bars l∧bars l≤l.length:=by
 induction l with
 | nil=>simp[bars]
 | cons s r ih=>simp only[bars,List.length_cons];split<;>omega
theorem bars_snoc (l:List Stm) (k:Nat) (h:k<l.length):bars (l.take (k+1))=bars (l.take k)+if l[k].kind==5 then 1 else 0:=by
 rw[List.take_succ_eq_append_getElem h,bars_append];simp[bars]
end P
theorem zEX (l:List P.Stm):∀ (k:Nat) (h:k<l.length) (i:Nat),i<11→(zBc l)[k*11+i]?=(zAe l[k]).toList[i]?:=by
 induction l with
 | nil=>intro k h;simp at h
 | cons a r ih =>
  intro k h i hi
  have e:zBc (a::r)=(zAe a).toList++zBc r:=by simp[zBc]
  have hl:(zAe a).toList.length=11:=rfl
  rw[e]
  cases k with
  | zero =>
   rw[List.getElem?_append_left (by omega)];simp
  | succ k =>
   rw[List.getElem?_append_right (by omega),hl,show (k+1)*11+i-11=k*11+i by omega,ih k (by simpa using h) i hi]
   simp
theorem zCl {w:World} {B b n cap:Nat} {l:List P.Stm} (h:w.ownsRow B 97 11 (.slice (some ⟨b,0,none⟩) n cap) n (zBc l)) (hn:n=l.length) (k:Nat) (hk:k<l.length):w.rangeAt b (k*11) (zAe l[k]).toList:=by
 intro j v hv
 have hj:j<11:=(List.getElem?_eq_some_iff.1 hv).1
 rw[h.cellAt _ (by omega),zEX l k hk j hj];exact hv
theorem zAA {w w':World} {b o:Nat} {cs:List Value} (h:w.rangeAt b o cs) (e:w'.heap[b]?=w.heap[b]?):w'.rangeAt b o cs:=fun j v hv=>by
 rw[World.cell?_of_block (w:=w) (a:=⟨b,o+j,none⟩) e];exact h j v hv
theorem zAE {ops:Array Oper} {rest:List Oper} {op:Oper} {a:Act} {w:World} {Q:Exit→Act→World→Prop} (x:Operand) (hgd:op.guard=none) (ho:op.op=.load 97 x)
  (b o:Nat) (st:P.Stm) (hx:a.eval x=.pointer (some ⟨b,o,none⟩)) (hr:w.rangeAt b o (zAe st).toList)
  (h:wpList Tryz.prog ops Q rest (a.put op.dst (.agg #[.int .i64 st.kind,.int .i64 st.line,.int .i64 st.dest,.int .i64 st.var,.bool st.a.reg,.int .i64 st.a.n,.bool st.b.reg,.int .i64 st.b.n,.int .i64 st.order,.int .i64 st.scope,.int .i64 st.label])) w):wpList Tryz.prog ops Q (op::rest) a w :=
 wpList_load_mid hgd _ x ho b o hx (zAe st).toList _ hr Tryz.underlying97 rfl (by kernel_rfl) h
theorem zBN (B n:Nat) (bl ln:Int) (sv:Value) (l:List P.Stm) (w:World) (hown:w.ownsRow B 97 11 sv n (zBc l)) (hn:n=l.length) (hnb:n<10000) :
  Calls Tryz.prog 42 #[.agg #[.int .i64 bl,.int .i64 ln,sv]] w fun e w'=>e=.returned (.int .i64 (P.bars l))∧Below w.heap.size w w':=by
 have hsv:∃ a c,sv=.slice a n c∧(0<n→∃ b,a=some ⟨b,0,none⟩∧b<w.heap.size):=by
  rcases hown.2 with ⟨e,h0⟩ | ⟨k,c,cur,e,_⟩
  ·exact⟨none,0,by rw[e,h0],fun h=>by omega⟩
  ·exact⟨_,c,e,fun _=>⟨k,rfl,(hown.lt k (by rw[e];rfl)).2⟩⟩
 obtain⟨sa,sc,rfl,hsa⟩:=hsv
 have HO:=zAa hown
 have HN:=zAa hn
 clear hown hn
 go_enter Tryz.func42,Tryz.ntmps42
 go_wp2
 go_loopw [3,9] (fun c i wr=>∃ k:Nat,k≤n∧i=.int .i64 k∧c=.int .i64 (P.bars (l.take k))∧Below w.heap.size w wr) (fun _ i _=>n-(intOf i).toNat)
 case atStart=>exact⟨0,Nat.zero_le _,rfl,by simp[P.bars],(Below.refl _ _).alloc (Nat.le_refl _) _⟩
 case round =>
  obtain⟨k,hk,rfl,rfl,hbel⟩:=hrel
  have hbd:=P.zKu (l.take k)
  have hbl:(l.take k).length≤k:=List.length_take_le _ _
  by_cases hlt:k<n
  ·obtain⟨b,rfl,hblt⟩:=hsa (by omega)
   have hkl:k<l.length:=by rw[← HN.out];exact hlt
   have hr:=zAa (zAA (zCl HO.out HN.out k hkl) (hbel.block b hblt))
   have hsn:=zAa (P.bars_snoc l k hkl)
   generalize hst:l[k]=st at hr hsn
   clear hst
   cases h5:(st.kind==5)
   ·go_wp2_with (first | (refine zAE (.tmp 11) rfl rfl b (k*11) st rfl hr.out ?_))
    go_roundw
    case rel=>exact⟨k+1,by omega,by go_num,by rw[hsn.out,h5];simp,hbel.alloc (by have:=hbel.size;omega) _⟩
    case measure=>simp[intOf];omega
   ·go_wp2_with (first | (refine zAE (.tmp 11) rfl rfl b (k*11) st rfl hr.out ?_))
    go_roundw
    case rel=>exact⟨k+1,by omega,by go_num,by rw[hsn.out,h5];simp,hbel.alloc (by have:=hbel.size;omega) _⟩
    case measure=>simp[intOf];omega
  ·have hkn:k=n:=by omega
   subst hkn
   have HT:Hid (l.take k=l):=List.take_of_length_le (by have:=HN.out;omega)
   go_wp2
   go_ret
   rw[HT.out]
   exact⟨rfl,hbel⟩
namespace P
def zIQ (b:Int):List Thr→Int
 | []=>0
 | t::r=>if t.block==b then bars t.stmts else zIQ b r
def zIt (all:List Thr):List Thr→Int
 | []=>0
 | t::r=>if bars t.stmts != zIQ t.block all||decide (2<bars t.stmts) then t.line else zIt all r
theorem barsOf_bd (b:Int) (ts:List Thr):0≤zIQ b ts:=by
 induction ts with
 | nil=>simp[zIQ]
 | cons t r ih=>simp only[zIQ];split;exact (zKu _).1;exact ih
end P
theorem zEv (ts:List P.Thr):∀ (vs:List Value),vs.length=ts.length→∀ (k:Nat) (h:k<ts.length),∃ v,vs[k]?=some v∧(zAP ts vs)[k*3]?=some (.int .i64 ts[k].block)∧(zAP ts vs)[k*3+1]?=some (.int .i64 ts[k].line)∧(zAP ts vs)[k*3+2]?=some v:=by
 induction ts with
 | nil=>intro vs _ k h;simp at h
 | cons t r ih =>
  intro vs hl k h
  match vs,hl with
  | v::q,hl =>
   cases k with
   | zero=>exact⟨v,rfl,by simp[zAP],by simp[zAP],by simp[zAP]⟩
   | succ k =>
    obtain⟨u,h1,h2,h3,h4⟩:=ih q (by simpa using hl) k (by simpa using h)
    refine⟨u,by simpa using h1,?_,?_,?_⟩
    ·rw[show (k+1)*3=k*3+3 by omega];simpa [zAP] using h2
    ·rw[show (k+1)*3+1=k*3+1+3 by omega];simpa [zAP] using h3
    ·rw[show (k+1)*3+2=k*3+2+3 by omega];simpa [zAP] using h4
theorem zAQ.get {w:World} {B:Nat}:∀ {ts:List P.Thr} {vs:List Value},zAQ w B ts vs→∀ (k:Nat) (h:k<ts.length) (v:Value),vs[k]?=some v→w.ownsRow B 97 11 v ts[k].stmts.length (zBc ts[k].stmts)
 | t::r,u::q,h,0,_,v,hv=>by simp at hv;subst hv;exact h.1
 | t::r,u::q,h,k+1,hk,v,hv=>zAQ.get h.2.2 k (by simpa using hk) v (by simpa using hv)
theorem zEw {w:World} {B bt n cap:Nat} {ts:List P.Thr} (h:zAw w B (.slice (some ⟨bt,0,none⟩) n cap) ts) (hn:n=ts.length) (k:Nat) (hk:k<ts.length) :
  bt<w.heap.size∧∃ sa sc,w.cell? ⟨bt,k*3,none⟩=some (.int .i64 ts[k].block)∧w.cell? ⟨bt,k*3+1,none⟩=some (.int .i64 ts[k].line)∧w.cell? ⟨bt,k*3+2,none⟩=some (.slice sa ts[k].stmts.length sc)∧w.ownsRow B 97 11 (.slice sa ts[k].stmts.length sc) ts[k].stmts.length (zBc ts[k].stmts):=by
 obtain⟨vs,h1,h2⟩:=h
 rw[← hn] at h1
 obtain⟨v,e0,e1,e2,e3⟩:=zEv ts vs h2.length k hk
 have ho:=h2.get k hk v e0
 have hv:∃ a c,v=.slice a ts[k].stmts.length c:=by
  rcases ho.2 with ⟨e,h0⟩ | ⟨k',c,cur,e,_⟩
  ·exact⟨none,0,by rw[e,h0]⟩
  ·exact⟨_,c,e⟩
 obtain⟨sa,sc,rfl⟩:=hv
 refine⟨(h1.lt bt rfl).2,sa,sc,?_,?_,?_,ho⟩
 ·rw[h1.cellAt _ (by omega)];exact e1
 ·rw[h1.cellAt _ (by omega)];exact e2
 ·rw[h1.cellAt _ (by omega)];exact e3
theorem zCJ (B bt n cap:Nat) (b:Int) (ts:List P.Thr) (w:World) (h:zAw w B (.slice (some ⟨bt,0,none⟩) n cap) ts) (hn:n=ts.length) (hnb:n<10) (hst:∀ t∈ts,t.stmts.length<10000) :
  Calls Tryz.prog 43 #[.agg #[.slice (some ⟨bt,0,none⟩) n cap],.int .i64 b] w fun e w'=>e=.returned (.int .i64 (P.zIQ b ts))∧Below w.heap.size w w':=by
 have HA:=zAa h
 have HN:=zAa hn
 have HS:=zAa hst
 clear h hn hst
 go_enter Tryz.func43,Tryz.ntmps43
 go_wp2
 go_loopw [10] (fun i wr=>∃ k:Nat,k≤n∧i=.int .i64 k∧Hid (P.zIQ b ts=P.zIQ b (ts.drop k))∧Below w.heap.size w wr) (fun i _=>n-(intOf i).toNat)
 case atStart=>exact⟨0,Nat.zero_le _,rfl,rfl,(Below.refl _ _).alloc (Nat.le_refl _) _⟩
 case round =>
  obtain⟨k,hk,rfl,HB,hbel⟩:=hrel
  by_cases hlt:k<n
  ·have hkl:k<ts.length:=by rw[← HN.out];exact hlt
   obtain⟨hbt,sa,sc,c0,c1,c2,ho⟩:=zEw HA.out HN.out k hkl
   have d0:=cfL hbel hbt c0
   have d1:=cfL hbel hbt c1
   have d2:=cfL hbel hbt c2
   have hls:=HS.out ts[k] (List.getElem_mem hkl)
   have HD:=zAa (P.zJl ts k hkl)
   have ho':=zAa (zAd ho (fun j hj=>hbel.block j (ho.lt j hj).2))
   generalize hst:ts[k]=t at *
   clear hst c0 c1 c2 ho
   have hws:w.heap.size≤wr.heap.size:=hbel.size
   cases hb:(t.block==b)
   ·have HB':Hid (P.zIQ b ts=P.zIQ b (ts.drop (k+1))):=by
     unfold Hid;rw[HB.out,HD.out,P.zIQ,hb];simp
    go_wp2
    go_roundw
    case rel=>exact⟨k+1,by omega,by go_num,HB',hbel.alloc (by omega) _⟩
    case measure=>simp[intOf];omega
   ·have HB':Hid (P.zIQ b ts=P.bars t.stmts):=by
     unfold Hid;rw[HB.out,HD.out,P.zIQ,hb];simp
    go_wp2_with (first | (go_at_call 42;refine (zBN B t.stmts.length _ _ _ t.stmts _ (by exact ho'.out.alloc _) rfl hls).mono ?_;rintro e w1 ⟨rfl,hb1⟩))
    go_ret
    rw[HB'.out]
    exact⟨rfl,(hbel.alloc (by omega) _).trans (hb1.mono (by simp;omega))⟩
  ·have HB':Hid (P.zIQ b ts=0):=by
    unfold Hid;rw[HB.out,List.drop_eq_nil_of_le (by have:=HN.out;omega)];rfl
   go_wp2
   go_ret
   rw[HB'.out]
   exact⟨rfl,hbel⟩
theorem zCK (B bt n cap:Nat) (ts:List P.Thr) (w:World) (h:zAw w B (.slice (some ⟨bt,0,none⟩) n cap) ts) (hn:n=ts.length) (hnb:n<10) (hst:∀ t∈ts,t.stmts.length<10000) :
  Calls Tryz.prog 29 #[.agg #[.slice (some ⟨bt,0,none⟩) n cap]] w fun e w'=>e=.returned (.int .i64 (P.zIt ts ts))∧Below w.heap.size w w':=by
 have HA:=zAa h
 have HN:=zAa hn
 have HS:=zAa hst
 clear h hn hst
 go_enter Tryz.func29,Tryz.ntmps29
 go_wp2
 go_loopw [10] (fun i wr=>∃ k:Nat,k≤n∧i=.int .i64 k∧Hid (P.zIt ts ts=P.zIt ts (ts.drop k))∧Hid (wr.heap[w.heap.size]?=some (.cells #[.slice (some ⟨bt,0,none⟩) n cap] 45 (0,0)))∧Below w.heap.size w wr) (fun i _=>n-(intOf i).toNat)
 case atStart=>exact⟨0,Nat.zero_le _,rfl,rfl,heap_alloc_new w _,(Below.refl _ _).alloc (Nat.le_refl _) _⟩
 case round =>
  obtain⟨k,hk,rfl,HB,HP,hbel⟩:=hrel
  by_cases hlt:k<n
  ·have hkl:k<ts.length:=by rw[← HN.out];exact hlt
   obtain⟨hbt,sa,sc,c0,c1,c2,ho⟩:=zEw HA.out HN.out k hkl
   have d0:=cfL hbel hbt c0
   have d1:=cfL hbel hbt c1
   have d2:=cfL hbel hbt c2
   have hls:=HS.out ts[k] (List.getElem_mem hkl)
   have HD:=zAa (P.zJl ts k hkl)
   have ho':=zAa (zAd ho (fun j hj=>hbel.block j (ho.lt j hj).2))
   generalize hst:ts[k]=t at *
   clear hst c0 c1 c2 ho
   have hws:w.heap.size≤wr.heap.size:=hbel.size
   obtain⟨p0,_,p2⟩:=zAJ HP.out
   have hbd:=P.zKu t.stmts
   have hbo:=P.barsOf_bd t.block ts
   have TH:Hid (∀ w1:World,Below (wr.alloc (.cells #[.int .i64 t.block,.int .i64 t.line,.slice sa t.stmts.length sc] 93)).heap.size (wr.alloc (.cells #[.int .i64 t.block,.int .i64 t.line,.slice sa t.stmts.length sc] 93)) w1→zAw w1 B (.slice (some ⟨bt,0,none⟩) n cap) ts):=fun w1 hb1=>by
    refine HA.out.keep (fun j hj=>?_)
    rw[hb1.block j (by simp;omega),Below.heap_alloc _ _ _ (by omega),hbel.block j hj]
   cases hu:(P.bars t.stmts != P.zIQ t.block ts||decide (2<P.bars t.stmts))
   ·have HB':Hid (P.zIt ts ts=P.zIt ts (ts.drop (k+1))):=by
     unfold Hid;rw[HB.out,HD.out,P.zIt,hu];simp
    obtain⟨hu1,hu2⟩:(P.bars t.stmts != P.zIQ t.block ts)=false∧decide (2<P.bars t.stmts)=false:=by simpa using hu
    go_wp2_with (first | (go_at_call 42;refine (zBN B t.stmts.length _ _ _ t.stmts _ (by exact ho'.out.alloc _) rfl hls).mono ?_;rintro e w1 ⟨rfl,hb1⟩;have s1:wr.heap.size+1≤w1.heap.size:=(by have:=hb1.size;simp at this;omega);have y0:=hb1.cell (p:=⟨wr.heap.size,0,none⟩) (by simp);have y1:=hb1.cell (p:=⟨wr.heap.size,1,none⟩) (by simp);have y2:=hb1.cell (p:=⟨w.heap.size,0,none⟩) (by simp;omega)) | (go_at_call 43;refine (zCJ B bt n cap _ ts _ (by exact TH.out w1 hb1) HN.out hnb HS.out).mono ?_;rintro e w2 ⟨rfl,hb2⟩;have x1:=hb2.cell (p:=⟨wr.heap.size,1,none⟩) (show wr.heap.size<w1.heap.size by omega)))
    go_roundw
    case rel=>exact⟨k+1,by omega,by go_num,HB',by unfold Hid;rw[hb2.block _ (by omega),hb1.block _ (by simp;omega),Below.heap_alloc _ _ _ p2];exact HP.out,(hbel.alloc (by omega) _).trans ((hb1.mono (by simp;omega)).trans (hb2.mono (by omega)))⟩
    case measure=>simp[intOf];omega
   ·have HB':Hid (P.zIt ts ts=t.line):=by
     unfold Hid;rw[HB.out,HD.out,P.zIt,hu];simp
    cases hv:(P.bars t.stmts != P.zIQ t.block ts)
    ·have hv2:2<P.bars t.stmts:=by simpa [hv] using hu
     clear hu
     go_wp2_with (first | (go_at_call 42;refine (zBN B t.stmts.length _ _ _ t.stmts _ (by exact ho'.out.alloc _) rfl hls).mono ?_;rintro e w1 ⟨rfl,hb1⟩;have s1:wr.heap.size+1≤w1.heap.size:=(by have:=hb1.size;simp at this;omega);have y0:=hb1.cell (p:=⟨wr.heap.size,0,none⟩) (by simp);have y1:=hb1.cell (p:=⟨wr.heap.size,1,none⟩) (by simp);have y2:=hb1.cell (p:=⟨w.heap.size,0,none⟩) (by simp;omega)) | (go_at_call 43;refine (zCJ B bt n cap _ ts _ (by exact TH.out w1 hb1) HN.out hnb HS.out).mono ?_;rintro e w2 ⟨rfl,hb2⟩;have x1:=hb2.cell (p:=⟨wr.heap.size,1,none⟩) (show wr.heap.size<w1.heap.size by omega)))
     go_ret
     rw[HB'.out]
     exact⟨rfl,(hbel.alloc (by omega) _).trans ((hb1.mono (by simp;omega)).trans (hb2.mono (by omega)))⟩
    ·clear hu
     go_wp2_with (first | (go_at_call 42;refine (zBN B t.stmts.length _ _ _ t.stmts _ (by exact ho'.out.alloc _) rfl hls).mono ?_;rintro e w1 ⟨rfl,hb1⟩;have s1:wr.heap.size+1≤w1.heap.size:=(by have:=hb1.size;simp at this;omega);have y0:=hb1.cell (p:=⟨wr.heap.size,0,none⟩) (by simp);have y1:=hb1.cell (p:=⟨wr.heap.size,1,none⟩) (by simp);have y2:=hb1.cell (p:=⟨w.heap.size,0,none⟩) (by simp;omega)) | (go_at_call 43;refine (zCJ B bt n cap _ ts _ (by exact TH.out w1 hb1) HN.out hnb HS.out).mono ?_;rintro e w2 ⟨rfl,hb2⟩;have x1:=hb2.cell (p:=⟨wr.heap.size,1,none⟩) (show wr.heap.size<w1.heap.size by omega)))
     go_ret
     rw[HB'.out]
     exact⟨rfl,(hbel.alloc (by omega) _).trans ((hb1.mono (by simp;omega)).trans (hb2.mono (by omega)))⟩
  ·have HB':Hid (P.zIt ts ts=0):=by
    unfold Hid;rw[HB.out,List.drop_eq_nil_of_le (by have:=HN.out;omega)];rfl
   go_wp2
   go_ret
   rw[HB'.out]
   exact⟨rfl,hbel⟩
end Go.Proofs.YtkmebkbpfmoeaaaGreat
