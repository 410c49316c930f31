import Derived.Test.YtkmebkbpfmoeaaaGreatH05
set_option linter.unusedVariables false
set_option linter.unusedSimpArgs false
set_option maxHeartbeats 12800000
namespace Go.Proofs.YtkmebkbpfmoeaaaGreat
open Go Go.RowKit
set_option maxRecDepth 100000
theorem zGt (B g N b off n cap:Nat) (r:P.Rd) (c:ByteArray) (rs:List ByteArray) (w:World) (h:zCb w B g r) (hw:zAt w b off (c::rs)) (hn:rs.length=n-1) (hn1:1≤n) (hnb:n<10000) (hc:n≤cap) (hblt:b<w.heap.size) (hm8:r.most=8)
  (hF:Few N r) (hN:N<10000) (hB:B≤w.heap.size) (ho9:r.opn.length<10) (hi0:0≤r.ifs) (hi1:r.ifs<10000) (hc0:0≤r.count) (hc1:r.count<10000) :
  Calls Tryz.prog 39 #[.pointer (some ⟨g,0,none⟩),.slice (some ⟨b,off,none⟩) n cap,.int .i64 r.line] w fun e w'=>e=.returned (.bool (P.takes r (c.toList::rs.map ByteArray.toList)).2)∧zCb w' B g (P.takes r (c.toList::rs.map ByteArray.toList)).1∧BelowX B g w w':=by
 have hA:=zAa h
 obtain⟨hd,_,_⟩:=hw.head
 have hnp:(0:Int)<(n:Int):=by omega
 have hnp':0<n:=by omega
 cases ht:c.toList==[116,104,114,101,97,100]
 rotate_left
 ·have HE:=zAa (zEl r c.toList (rs.map ByteArray.toList) ht)
  go_enter Tryz.func39,Tryz.ntmps39
  go_wp2_with (first | (go_at_call 62;refine (zFP B g _ _ _ _ r (c::rs) _ hA.out hw (by simp;omega) hnb hB (by have:=hF.1;omega) ho9).mono ?_;rintro e w1 ⟨rfl,hr1,hb1⟩))
  go_ret
  rw[zAC HE]
  exact⟨rfl,hr1,hb1⟩
 have HD:=zAa (P.takes_D r c.toList (rs.map ByteArray.toList) ht hm8)
 clear h
 cases hs:(P.zIu (c.toList::rs.map ByteArray.toList)).2
 ·have HE:Hid (P.takes r (c.toList::rs.map ByteArray.toList)=(r,false)):=by unfold Hid;rw[HD.out,hs];rfl
  clear HD
  go_enter Tryz.func39,Tryz.ntmps39
  go_wp2_with (first | (go_at_call 63;refine (zCw _ _ _ _ c rs _ hw hn hn1 hc hblt).mono ?_;rintro e w1 ⟨he,hb⟩;simp only[zBU,zAd,List.map_cons] at he;subst he))
  go_ret
  rw[zAC HE]
  exact⟨rfl,(hA.out.below hb).alloc _,BelowX.of ((hb.mono hB).alloc (by have:=hb.size;omega) _)⟩
 ·have HE:Hid (P.takes r (c.toList::rs.map ByteArray.toList)=P.putD r { (P.zIu (c.toList::rs.map ByteArray.toList)).1 with line:=r.line }):=by unfold Hid;rw[HD.out,hs];rfl
  clear HD
  go_enter Tryz.func39,Tryz.ntmps39
  go_wp2_with (first | (go_at_call 63;refine (zCw _ _ _ _ c rs _ hw hn hn1 hc hblt).mono ?_;rintro e w1 ⟨he,hb⟩;simp only[zBU,zAd,List.map_cons] at he;subst he) | (go_at_call 64;refine (zGX B g N r { (P.zIu (c.toList::rs.map ByteArray.toList)).1 with line:=r.line } _ (by exact (hA.out.below hb).alloc (.cells (zAd { (P.zIu (c.toList::rs.map ByteArray.toList)).1 with line:=r.line }) 97)) hF hN (by have:=hb.size;simp;omega) ho9 hi0 hi1 hc0 hc1).mono ?_;rintro e w2 ⟨rfl,hr1,hb1⟩))
  go_ret
  rw[zAC HE]
  exact⟨rfl,hr1,(BelowX.of ((hb.mono hB).alloc (by have:=hb.size;omega) _)).trans hb1⟩
def zAv (w:World) (B:Nat) (tv:Value) (ts:List P.Thr):Prop:=∃ vs,w.ownsRow B 93 3 tv ts.length (zAO ts vs)∧zAP w B ts vs
theorem zAv.keep {w w':World} {B:Nat} {tv:Value} {ts:List P.Thr} (h:zAv w B tv ts) (hb:∀ k,k<w.heap.size→w'.heap[k]?=w.heap[k]?):zAv w' B tv ts:=by
 obtain⟨vs,h1,h2⟩:=h
 exact⟨vs,zAc h1 (fun k e=>hb k (h1.lt k e).2),h2.keep (fun v hv k e=>by obtain⟨n,xs,ho⟩:=h2.mem v hv;exact hb k (ho.lt k e).2)⟩
theorem zAv.nil (w:World) (B:Nat):zAv w B (.slice none 0 0) []:=⟨[],World.ownsRow_nil _ _ _ _,trivial⟩
theorem P.splitAt_le (c:UInt8) (l:List UInt8):∀ x∈P.zIr c l,x.length≤l.length:=by
 induction l with
 | nil=>intro x hx;simp[P.zIr] at hx;simp[hx]
 | cons y r ih =>
  intro x hx
  by_cases hy:y=c
  ·subst hy
   rw[P.splitAt_cons_eq] at hx
   rcases List.mem_cons.1 hx with rfl | hx
   ·simp
   ·have:=ih x hx;simp;omega
  ·cases hs:P.zIr c r with
   | nil=>exact absurd hs (P.zJs _ _)
   | cons a b =>
    rw[P.splitAt_cons_ne c y r hy a b hs] at hx
    rcases List.mem_cons.1 hx with rfl | hx
    ·have:=ih a (by rw[hs];simp);simp;omega
    ·have:=ih x (by rw[hs];simp[hx]);simp;omega
theorem P.takes_count (r:P.Rd) (ws:List (List UInt8)) (h0:0≤r.count):(P.takes r ws).1.count≤r.count+1:=by
 unfold P.takes
 split
 ·unfold P.zIX
  split
  ·(simp<;>omega)
  ·split
   ·split
    ·(simp<;>omega)
    ·(simp<;>omega)
   ·(simp<;>omega)
 ·split
  ·(simp<;>omega)
  ·simp only[]
   split
   ·split
    ·unfold P.ends
     split
     ·(simp<;>omega)
     ·(simp[P.put]<;>omega)
    ·split
     ·(simp<;>omega)
     ·split
      ·split
       ·(simp<;>omega)
       ·unfold P.branch
        split
        ·(simp<;>omega)
        ·(simp[P.put]<;>omega)
      ·(simp[P.put]<;>omega)
   ·(simp<;>omega)
structure LoopAt (rows:List ByteArray) (k:Nat) (r:P.Rd):Prop where
 run:P.zJZ P.Rd.zero ((rows.take k).map ByteArray.toList)=(r,true)
 good:P.Good k r
 lin:r.line=k
 most:r.most=8
 cn:r.count≤k
theorem zCx (rows:List ByteArray) (k:Nat) (hk:k<rows.length):(rows.take (k+1)).map ByteArray.toList=(rows.take k).map ByteArray.toList++[rows[k].toList]:=by
 rw[List.take_succ_eq_append_getElem hk,List.map_append,List.map_cons,List.map_nil]
theorem zFQ (rows:List ByteArray):LoopAt rows 0 P.Rd.zero:=⟨by simp[P.zJZ],P.good_zero,rfl,rfl,by simp[P.Rd.zero]⟩
theorem zGu {rows:List ByteArray} {k:Nat} {r:P.Rd} (h:LoopAt rows k r) (hk:k<rows.length) (ht:(P.takes { r with line:=r.line+1 } (P.zIr 32 rows[k].toList)).2=true) :
  LoopAt rows (k+1) (P.takes { r with line:=r.line+1 } (P.zIr 32 rows[k].toList)).1:=by
 have hkp:=P.zJR { r with line:=r.line+1 } (P.zIr 32 rows[k].toList) h.most
 refine⟨?_,P.good_takes _ h.good (by have:=h.lin;omega),?_,hkp.2,?_⟩
 ·rw[zCx rows k hk,P.zJm _ _ _ _ h.run,← ht]
 ·rw[hkp.1];have:=h.lin;simp;omega
 ·have:=P.takes_count { r with line:=r.line+1 } (P.zIr 32 rows[k].toList) h.good.cnt
  have h2:=h.cn
  simp at this ⊢;omega
theorem zGv {s:ByteArray} {rows:List ByteArray} {last:ByteArray} {k:Nat} {r:P.Rd} (hc:rows.map ByteArray.toList++[last.toList]=P.zIr 10 s.toList) (h:LoopAt rows k r) (hk:k<rows.length) (ht:(P.takes { r with line:=r.line+1 } (P.zIr 32 rows[k].toList)).2=false) :
  P.lines s.toList=([],(k:Int)+1):=by
 have hkp:=P.zJR { r with line:=r.line+1 } (P.zIr 32 rows[k].toList) h.most
 have hrun:P.zJZ P.Rd.zero ((rows.take (k+1)).map ByteArray.toList)=P.takes { r with line:=r.line+1 } (P.zIr 32 rows[k].toList):=by
  rw[zCx rows k hk,P.zJm _ _ _ _ h.run]
 have hd:(P.zIr 10 s.toList).dropLast=(rows.take (k+1)).map ByteArray.toList++(rows.drop (k+1)).map ByteArray.toList:=by
  rw[← hc,List.dropLast_concat,← List.map_append,List.take_append_drop]
 have:=P.runLines_more _ P.Rd.zero ((rows.drop (k+1)).map ByteArray.toList) (by rw[hrun];exact ht)
 unfold P.lines
 simp only[hd,this,hrun,ht]
 simp only[Bool.false_eq_true,if_false]
 rw[hkp.1,h.lin]
theorem zGY {s:ByteArray} {rows:List ByteArray} {last:ByteArray} {r:P.Rd} (hc:rows.map ByteArray.toList++[last.toList]=P.zIr 10 s.toList) (h:LoopAt rows rows.length r) :
  P.lines s.toList=if last.toList.isEmpty=false∨r.threads.length=0∨0<r.opn.length then ([],(rows.length:Int)+1) else (r.threads,0):=by
 have hrun:=h.run
 rw[List.take_length] at hrun
 have e1:last.toList=[] ↔ last.toList.isEmpty=true:=by rw[List.isEmpty_iff]
 unfold P.lines
 simp only[← hc,List.dropLast_concat,hrun,List.getLast?_concat,if_true,h.lin]
 congr 1
 simp only[ne_eq,Option.some.injEq,e1,eq_iff_iff]
 simp[List.length_pos_iff,or_comm]
theorem zDi {fn:Func} {R:Ending→World→Prop} {a:Act} {w:World} {p u:Tmp} (g:Nat) (tv uv:Value) (hres:fn.results=#[.cell p 45,.tmp u])
  (hp:a.tmps.getD p undef=.pointer (some ⟨g,0,none⟩)) (hu:a.tmps.getD u undef=uv) (h:w.heap[g]?=some (.cells #[tv] 45 (0,0))) (hd:a.defers=[]) (hR:R (.returned (.tuple #[.agg #[tv],uv])) w):bodyPost Tryz.prog fn R .ret a w:=by
 refine bodyPost_ret (v:=.tuple #[.agg #[tv],uv]) ?_ hd hR
 rw[results_cell_tmp hres,hp,hu]
 have:(asAddr (.pointer (some ⟨g,0,none⟩))).run Tryz.prog w=.ok ⟨g,0,none⟩ w:=rfl
 rw[this,Result.andThen_ok,zBi w g _ _ _ h _ Tryz.underlying45 rfl (by kernel_rfl),Result.andThen_ok]
theorem zCy {w:World} {B B':Nat} {e:TypeId} {sz:Nat} {v:Value} {n:Nat} {xs:List Value} (h:w.ownsRow B e sz v n xs) (hb:B'≤B):w.ownsRow B' e sz v n xs:=by
 refine⟨h.1,?_⟩
 rcases h.2 with hn | ⟨g,cap,cur,rfl,hb',rest⟩
 ·exact .inl hn
 ·exact .inr ⟨g,cap,cur,rfl,by omega,rest⟩
theorem zAP.base {w:World} {B B':Nat} (hb:B'≤B):∀ {ts:List P.Thr} {vs:List Value},zAP w B ts vs→zAP w B' ts vs
 | [],[],_=>trivial
 | _::_,_::_,h=>⟨zCy h.1 hb,h.2.1,zAP.base hb h.2.2⟩
theorem zFR {w w':World} {B g p:Nat} {r:P.Rd} {tv ov:Value} {vs:List Value} (h:RdIn w B g r tv ov vs) (hb:Below w.heap.size w w') (hp:p<B) (u:Value):zAv (w'.setCell ⟨p,0,none⟩ u) p tv r.threads:=by
 refine⟨vs,zCy (zAc h.threads (fun k hk=>?_)) (by omega),(h.stmts.keep (fun v hv k hk=>?_)).base (by omega)⟩
 ·have:=(h.threads.lt k hk)
  rw[Below.heap_setCell _ _ _ _ (by simp;omega),hb.block k this.2]
 ·obtain⟨n,xs,ho⟩:=h.stmts.mem v hv
  have:=(ho.lt k hk)
  rw[Below.heap_setCell _ _ _ _ (by simp;omega),hb.block k this.2]
theorem zEQ (s:ByteArray) (w:World) (hs:s.size≤8192) :
  Calls Tryz.prog 38 #[.string s,.string ⟨#[32]⟩] w fun e w'=>∃ g cap n c rs,e=.returned (.slice (some ⟨g,0,none⟩) n cap)∧Hid (c.toList::rs.map ByteArray.toList=P.zIr 32 s.toList)∧zAt w' g 0 (c::rs)∧rs.length=n-1∧1≤n∧n<10000∧n≤cap∧g<w'.heap.size∧Below w.heap.size w w':=by
 refine (zEi 32 s w hs).mono ?_
 rintro e w' ⟨g,cap,ws,rfl,hws,hown,hb⟩
 obtain⟨h1,h2,h3⟩:=zEj hown
 have hl:=P.zIO 32 s.toList
 rw[← hws,List.length_map,zAB] at hl
 cases ws with
 | nil=>exact absurd hws.symm (P.zJs _ _)
 | cons c rs=>exact⟨g,cap,_,c,rs,rfl,by simpa [Hid] using hws,h1,by simp,by simp,by omega,h2,h3,hb⟩
theorem zAI {w:World} {g:Nat} {v:Value} {t:TypeId} (h:w.heap[g]?=some (.cells #[v] t (0,0))):w.cell? ⟨g,0,none⟩=some v∧w.frozen? ⟨g,0,none⟩=false∧g<w.heap.size:=by
 refine⟨?_,?_,(Array.getElem?_eq_some_iff.1 h).1⟩<;>simp[World.cell?,World.frozen?,h]
theorem zDY (s:ByteArray) (w:World) (hs:s.size≤8192) :
  Calls Tryz.prog 37 #[.string s] w fun e w'=>∃ g cap,∃ (rows:List ByteArray) (last:ByteArray),e=.returned (.tuple #[.slice (some ⟨g,0,none⟩) rows.length cap,.bool last.toList.isEmpty])∧Hid (rows.map ByteArray.toList++[last.toList]=P.zIr 10 s.toList)∧zAt w' g 0 rows∧rows.length≤8192∧rows.length≤cap∧g<w'.heap.size∧w.heap.size≤g∧(∀ x∈rows,x.size≤8192)∧Below w.heap.size w w':=by
 go_enter Tryz.func37,Tryz.ntmps37
 go_wp2_with fail
 refine (zEi 10 s _ hs).mono ?_
 rintro e w1 ⟨g,cap,ws,rfl,hws,hown,hb⟩
 obtain⟨h1,h2,h3⟩:=zEj hown
 have h0:w.heap.size≤g:=(hown.lt g rfl).1
 have hl:=P.zIO 10 s.toList
 rw[← hws,List.length_map,zAB] at hl
 have hne:ws≠[]:=by intro e;rw[e] at hws;exact P.zJs _ _ hws.symm
 obtain⟨rows,last,rfl⟩:=zDW ws hne
 have HW:Hid (rows.map ByteArray.toList++[last.toList]=P.zIr 10 s.toList):=by unfold Hid;rw[← hws];simp
 have hr1:zAt w1 g 0 rows:=fun i x hx=>h1 i x (by rw[List.getElem?_append_left (List.getElem?_eq_some_iff.1 hx).1];exact hx)
 have hcl:w1.cell? ⟨g,rows.length,none⟩=some (.string last):=by
  have:=h1 rows.length last (by simp)
  simpa using this
 have hsz:∀ x∈rows,x.size≤8192:=fun x hx=>by
  have hm:x.toList∈P.zIr 10 s.toList:=by rw[← HW.out];simp;left;exact⟨x,hx,rfl⟩
  have:=P.splitAt_le 10 s.toList x.toList hm
  rw[zAB,zAB] at this
  omega
 have HZ:=zAa hsz
 have HR1:=zAa hr1
 simp only[List.length_append,List.length_cons,List.length_nil,Nat.zero_add] at hl h2
 have hn0:¬ ((rows.length:Int)<0):=by omega
 have hlen:(rows++[last]).length=rows.length+1:=by simp
 clear hws hown h1 hr1 hsz hne
 simp only[hlen]
 go_wp2
 go_region
 all_goals go_wp2
 go_ret2
 refine⟨g,cap,rows,last,?_,HW,?_,by omega,by omega,h3,h0,HZ.out,hb.drew⟩
 ·first | rfl | simp
 ·exact HR1.out.drew
theorem zHT (B:Nat) (w:World):zCb (w.alloc (.cells #[.slice none 0 0,.int .i64 8,.int .i64 0,.int .i64 0,.slice none 0 0] 83)) B w.heap.size P.Rd.zero:=by
 refine⟨.slice none 0 0,.slice none 0 0,[],?_,World.ownsRow_nil _ _ _ _,World.ownsRow_nil _ _ _ _,trivial⟩
 have:=heap_alloc_new w (.cells #[.slice none 0 0,.int .i64 8,.int .i64 0,.int .i64 0,.slice none 0 0] 83)
 simpa [P.Rd.zero] using this
theorem zGw (m:Int) (w:World) :
  Calls Tryz.prog 36 #[.int .i64 m] w fun e w'=>e=.returned (.agg #[.slice none 0 0,.int .i64 m,.int .i64 0,.int .i64 0,.slice none 0 0])∧Below w.heap.size w w':=by
 go_enter Tryz.func36,Tryz.ntmps36
 go_wp2
 refine bodyPost_ret (v:=.agg #[.slice none 0 0,.int .i64 m,.int .i64 0,.int .i64 0,.slice none 0 0]) ?_ rfl ⟨rfl,(Below.refl _ _).alloc (Nat.le_refl _) _⟩
 simp[results,Tryz.results36,go_sem]
theorem zEm (B g:Nat) (r:P.Rd) (w:World) (h:zCb w B g r) (ht5:r.threads.length<6) (ho9:r.opn.length<10) :
  Calls Tryz.prog 40 #[.pointer (some ⟨g,0,none⟩)] w fun e w'=>e=.returned (.bool (decide (0<r.threads.length)&&decide (r.opn.length=0)))∧w'=w:=by
 obtain⟨tv,ov,vs,h⟩:=h
 obtain⟨ta,tc,oa,oc,rfl,rfl⟩:=h.forms
 obtain⟨glt,gfr,g0,g1,g2,g3,g4⟩:=h.facts
 clear h
 by_cases h1:0<r.threads.length
 ·have h1':(0:Int)<(r.threads.length:Int):=by omega
  cases h2:((r.opn.length:Int)==0)
  all_goals
   have h3:=h2
   simp at h3
   go_enter Tryz.func40,Tryz.ntmps40
   go_wp2
   go_ret
   refine⟨?_,rfl⟩
   simp[h1,h3]
 ·have h1':¬ (0:Int)<(r.threads.length:Int):=by omega
  have h1d:decide ((0:Int)<(r.threads.length:Int))=false:=decide_eq_false h1'
  have h1e:decide (0<r.threads.length)=false:=decide_eq_false h1
  go_enter Tryz.func40,Tryz.ntmps40
  go_wp2
  go_ret
  refine⟨?_,rfl⟩
  simp[h1e]
theorem zER (B g:Nat) (r:P.Rd) (tv ov:Value) (vs:List Value) (w:World) (h:RdIn w B g r tv ov vs) :
  Calls Tryz.prog 41 #[.pointer (some ⟨g,0,none⟩)] w fun e w'=>e=.returned (.agg #[tv])∧Below w.heap.size w w':=by
 obtain⟨ta,tc,oa,oc,rfl,rfl⟩:=h.forms
 obtain⟨glt,gfr,g0,g1,g2,g3,g4⟩:=h.facts
 clear h
 go_enter Tryz.func41,Tryz.ntmps41
 go_wp2
 refine bodyPost_ret (v:=.agg #[.slice ta r.threads.length tc]) ?_ rfl ⟨rfl,(Below.refl _ _).alloc (Nat.le_refl _) _⟩
 simp[results,Tryz.results41,go_sem]
theorem zCi (s:ByteArray) (w:World) (hs:s.size≤8192) :
  Calls Tryz.prog 27 #[.string s] w fun e w'=>∃ tv,e=.returned (.tuple #[.agg #[tv],.int .i64 (P.lines s.toList).2])∧zAv w' w.heap.size tv (P.lines s.toList).1∧Below w.heap.size w w':=by
 go_enter Tryz.func27,Tryz.ntmps27
 go_wp2_with fail
 refine (zGw 8 _).mono ?_
 rintro e w0 ⟨rfl,hb0⟩
 have hB0:w.heap.size+1≤w0.heap.size:=by have:=hb0.size;simpa using this
 have hblk:w0.heap[w.heap.size]?=some (.cells #[.slice none 0 0] 45 (0,0)):=by
  rw[hb0.block _ (by simp)]
  exact heap_alloc_new w _
 obtain⟨z0,z1,z2⟩:=zAI hblk
 have HB0:=zAa hblk
 have HBel0:Hid (Below w.heap.size w w0):=((Below.refl _ _).alloc (Nat.le_refl _) _).trans (hb0.mono (by simp))
 clear hblk hb0
 go_wp2_with fail
 refine (zDY s _ hs).mono ?_
 rintro e w1 ⟨gl,cl,rows,last,rfl,HW,hrw,hrl,hrc,hgl,hgl0,hrz,hb1⟩
 have hd1:=zAa ((zHT w1.heap.size w0).below hb1)
 have hblk1:w1.heap[w.heap.size]?=some (.cells #[.slice none 0 0] 45 (0,0)):=by
  rw[hb1.block _ (by simp;omega),Below.heap_alloc _ _ _ (by omega)]
  exact HB0.out
 have HB1:=zAa hblk1
 have HBel1:Hid (Below w.heap.size w w1):=(HBel0.out.alloc (by omega) _).trans (hb1.mono (by simp;omega))
 have hB1:w0.heap.size+1≤w1.heap.size:=by have:=hb1.size;simpa using this
 have HRW:=zAa hrw
 have HRZ:=zAa hrz
 clear hblk1 hb1 z0 z1 z2 hrw hrz
 go_wp2
 go_loopw [19] (fun i wr=>∃ k:Nat,∃ r:P.Rd,k≤rows.length∧i=.int .i64 k∧Hid (LoopAt rows k r)∧Hid (zCb wr w1.heap.size w0.heap.size r)∧Hid (zAt wr gl 0 rows) ∧
   Hid (wr.heap[w.heap.size]?=some (.cells #[.slice none 0 0] 45 (0,0)))∧w1.heap.size≤wr.heap.size∧Below w.heap.size w wr) (fun i _=>rows.length-(intOf i).toNat)
 case atStart=>exact⟨0,P.Rd.zero,Nat.zero_le _,rfl,zFQ _,hd1,HRW,HB1,Nat.le_refl _,HBel1.out⟩
 case round =>
  obtain⟨k,r,hk,rfl,HL,HR,HWW,HB,hwl,hbel⟩:=hrel
  have hgd:=HL.out.good
  have hlin:=HL.out.lin
  have hm8:=HL.out.most
  have hcn:=HL.out.cn
  by_cases hlt:k<rows.length
  ·have hrk:rows[k]?=some rows[k]:=List.getElem?_eq_getElem hlt
   have hck:=HWW.out k rows[k] hrk
   simp only[Nat.zero_add] at hck
   have hzk:=HRZ.out rows[k] (List.getElem_mem hlt)
   have hgr:gl<wr.heap.size:=by omega
   have hkl:(k:Int)<(rows.length:Int):=by omega
   have HSt:=zAa (fun h=>zGu HL.out hlt h)
   have HFl:=zAa (fun h=>zGv HW.out HL.out hlt h)
   generalize rows[k]=row at *
   have HM:=zAa hm8
   have HLin:=zAa hlin
   clear hrk hm8 hlin
   cases ht:(P.takes { r with line:=r.line+1 } (P.zIr 32 row.toList)).2
   all_goals
    go_wp2_with fail
    refine (zEQ _ _ hzk).mono ?_
    rintro e w2 ⟨gw,cw,n,c,rs,rfl,HWs,hwa,hn,hn1,hnb,hcap,hgw,hb2⟩
    have hr2:=zAa ((HR.out.below hb2).lined ((k:Int)+1))
    have hB2:w1.heap.size≤w2.heap.size:=by have:=hb2.size;omega
    have HW2:=zAa (HWW.out.below hb2)
    have hblk2:Hid (w2.heap[w.heap.size]?=some (.cells #[.slice none 0 0] 45 (0,0))):=(hb2.block _ (by omega)).trans HB.out
    have HBel2:Hid (Below w.heap.size w w2):=hbel.trans (hb2.mono (by omega))
    clear hb2 hbel hck
    go_wp2_with fail
    refine (zGt w1.heap.size w0.heap.size k gw 0 n cw { r with line:=(k:Int)+1 } c rs _ hr2.out hwa hn hn1 hnb hcap hgw HM.out ⟨hgd.few,hgd.stm⟩ (by omega) hB2 (by have:=hgd.opn;simp;omega) hgd.ifs0 (by have:=hgd.ifs1;simp;omega) hgd.cnt (by simp;omega)).mono ?_
    rintro e w3 ⟨he,hr3,hb3⟩
    rw[HWs.out] at he hr3
    have eL:({ r with line:=(k:Int)+1 }:P.Rd)={ r with line:=r.line+1 }:=by rw[HLin.out]
    rw[eL] at he hr3
    rw[ht] at he
    subst he
    have hblk3:w3.heap[w.heap.size]?=some (.cells #[.slice none 0 0] 45 (0,0)):=(hb3.block _ (by omega) (by omega)).trans hblk2.out
    obtain⟨z0,z1,z2⟩:=zAI hblk3
    have HB3:=zAa hblk3
    have HBel3:Hid (Below w.heap.size w w3):=HBel2.out.trans (hb3.below (by omega) (by omega))
    have HW3:Hid (zAt w3 gl 0 rows):=HW2.out.kept (fun _=>hb3.block gl hgl (by simp at hgl0;omega))
    have hs3:=hb3.size
    have HR3:=zAa hr3
    clear hblk3 hb3 hr3 eL
    go_wp2
   ·rw[HFl.out ht]
    refine zDi (p:=2) (u:=3) w.heap.size (.slice none 0 0) _ (by kernel_rfl) rfl rfl (by exact zAf HB3.out 0 _) rfl ⟨_,rfl,zAv.nil _ _,?_⟩
    exact (HBel3.out).setCell (Nat.le_refl _) _
   ·go_roundw
    case rel=>exact⟨k+1,_,by omega,by go_num,HSt.out ht,HR3,HW3,HB3,by omega,HBel3.out⟩
    case measure=>simp[intOf];omega
  ·have hkn:k=rows.length:=by omega
   subst hkn
   have HE:=zAa (zGY HW.out HL.out)
   have ht5:r.threads.length<6:=by have:=hgd.few;omega
   have ho9:r.opn.length<10:=by have:=hgd.opn;omega
   obtain⟨z0,z1,z2⟩:=zAI HB.out
   have hll:¬ ((rows.length:Int)<(rows.length:Int)):=by omega
   clear hm8 hlin hgd
   cases he:last.toList.isEmpty
   ·go_wp2
    rw[zAC HE,if_pos (Or.inl he)]
    refine zDi (p:=2) (u:=3) w.heap.size (.slice none 0 0) _ (by kernel_rfl) rfl rfl (by exact zAf HB.out 0 _) rfl ⟨_,rfl,zAv.nil _ _,?_⟩
    exact hbel.setCell (Nat.le_refl _) _
   cases hw:(decide (0<r.threads.length)&&decide (r.opn.length=0))
   ·have hor:last.toList.isEmpty=false∨r.threads.length=0∨0<r.opn.length:=by
     have hw':=hw
     rw[Bool.and_eq_false_iff,decide_eq_false_iff_not,decide_eq_false_iff_not] at hw'
     omega
    have HOR:=zAa hor
    clear hor
    go_wp2_with (first | (go_at_call 40;refine (zEm _ _ r _ HR.out ht5 ho9).mono ?_;rintro e w' ⟨rfl,rfl⟩;rw[hw]))
    rw[zAC HE,if_pos HOR.out]
    refine zDi (p:=2) (u:=3) w.heap.size (.slice none 0 0) _ (by kernel_rfl) rfl rfl (by exact zAf HB.out 0 _) rfl ⟨_,rfl,zAv.nil _ _,?_⟩
    exact hbel.setCell (Nat.le_refl _) _
   ·have hno:¬ (last.toList.isEmpty=false∨r.threads.length=0∨0<r.opn.length):=by
     have hw':=hw
     rw[Bool.and_eq_true,decide_eq_true_eq,decide_eq_true_eq] at hw'
     rintro (h | h | h)
     ·rw[he] at h;cases h
     ·omega
     ·omega
    have HNO:=zAa hno
    clear hno
    obtain⟨tv,ov,vs,hri⟩:=HR.out
    obtain⟨ta,tc,oa,oc,rfl,rfl⟩:=hri.forms
    have HRI:=zAa hri
    clear hri
    go_wp2_with (first | (go_at_call 40;refine (zEm _ _ r _ HR.out ht5 ho9).mono ?_;rintro e w' ⟨rfl,rfl⟩;rw[hw]) | (go_at_call 41;refine (zER _ _ r _ _ vs _ HRI.out).mono ?_;rintro e w4 ⟨rfl,hb4⟩;have hblk4:=(hb4.block _ (by omega)).trans HB.out;obtain⟨y0,y1,y2⟩:=zAI hblk4;have HB4:=zAa hblk4;clear hblk4))
    rw[zAC HE,if_neg HNO.out]
    refine zDi (p:=2) (u:=3) w.heap.size _ _ (by kernel_rfl) rfl rfl (by exact zAf HB4.out 0 _) rfl ⟨_,rfl,zFR HRI.out hb4 (by omega) _,(hbel.trans (hb4.mono (by omega))).setCell (Nat.le_refl _) _⟩
namespace P
def bars:List Stm→Int
 | []=>0
 | s::r=>(if s.kind==5 then 1 else 0)+bars r
theorem bars_append (a b:List Stm):bars (a++b)=bars a+bars b:=by
 induction a with
 | nil=>simp[bars]
 | cons s r ih=>simp[bars,ih];omega
theorem zKy (l:List Stm):0≤bars l∧bars l≤l.length:=by
 induction l with
 | nil=>simp[bars]
 | cons s r ih=>simp only[bars,List.length_cons];split<;>omega
theorem bars_snoc (l:List Stm) (k:Nat) (h:k<l.length):bars (l.take (k+1))=bars (l.take k)+if l[k].kind==5 then 1 else 0:=by
 rw[List.take_succ_eq_append_getElem h,bars_append];simp[bars]
end P
theorem zES (l:List P.Stm):∀ (k:Nat) (h:k<l.length) (i:Nat),i<11→(zBa l)[k*11+i]?=(zAd l[k]).toList[i]?:=by
 induction l with
 | nil=>intro k h;simp at h
 | cons a r ih =>
  intro k h i hi
  have e:zBa (a::r)=(zAd a).toList++zBa r:=by simp[zBa]
  have hl:(zAd a).toList.length=11:=rfl
  rw[e]
  cases k with
  | zero =>
   rw[List.getElem?_append_left (by omega)];simp
  | succ k =>
   rw[List.getElem?_append_right (by omega),hl,show (k+1)*11+i-11=k*11+i by omega,ih k (by simpa using h) i hi]
   simp
theorem zCj {w:World} {B b n cap:Nat} {l:List P.Stm} (h:w.ownsRow B 97 11 (.slice (some ⟨b,0,none⟩) n cap) n (zBa l)) (hn:n=l.length) (k:Nat) (hk:k<l.length):w.rangeAt b (k*11) (zAd l[k]).toList:=by
 intro j v hv
 have hj:j<11:=(List.getElem?_eq_some_iff.1 hv).1
 rw[h.cellAt _ (by omega),zES l k hk j hj];exact hv
theorem zAz {w w':World} {b o:Nat} {cs:List Value} (h:w.rangeAt b o cs) (e:w'.heap[b]?=w.heap[b]?):w'.rangeAt b o cs:=fun j v hv=>by
 rw[World.cell?_of_block (w:=w) (a:=⟨b,o+j,none⟩) e];exact h j v hv
theorem zAE {ops:Array Oper} {rest:List Oper} {op:Oper} {a:Act} {w:World} {Q:Exit→Act→World→Prop} (x:Operand) (hgd:op.guard=none) (ho:op.op=.load 97 x)
  (b o:Nat) (st:P.Stm) (hx:a.eval x=.pointer (some ⟨b,o,none⟩)) (hr:w.rangeAt b o (zAd st).toList)
  (h:wpList Tryz.prog ops Q rest (a.put op.dst (.agg #[.int .i64 st.kind,.int .i64 st.line,.int .i64 st.dest,.int .i64 st.var,.bool st.a.reg,.int .i64 st.a.n,.bool st.b.reg,.int .i64 st.b.n,.int .i64 st.order,.int .i64 st.scope,.int .i64 st.label])) w):wpList Tryz.prog ops Q (op::rest) a w :=
 wpList_load_mid hgd _ x ho b o hx (zAd st).toList _ hr Tryz.underlying97 rfl (by kernel_rfl) h
theorem zBL (B n:Nat) (bl ln:Int) (sv:Value) (l:List P.Stm) (w:World) (hown:w.ownsRow B 97 11 sv n (zBa l)) (hn:n=l.length) (hnb:n<10000) :
  Calls Tryz.prog 42 #[.agg #[.int .i64 bl,.int .i64 ln,sv]] w fun e w'=>e=.returned (.int .i64 (P.bars l))∧Below w.heap.size w w':=by
 have hsv:∃ a c,sv=.slice a n c∧(0<n→∃ b,a=some ⟨b,0,none⟩∧b<w.heap.size):=by
  rcases hown.2 with ⟨e,h0⟩ | ⟨k,c,cur,e,_⟩
  ·exact⟨none,0,by rw[e,h0],fun h=>by omega⟩
  ·exact⟨_,c,e,fun _=>⟨k,rfl,(hown.lt k (by rw[e];rfl)).2⟩⟩
 obtain⟨sa,sc,rfl,hsa⟩:=hsv
 have HO:=zAa hown
 have HN:=zAa hn
 clear hown hn
 go_enter Tryz.func42,Tryz.ntmps42
 go_wp2
 go_loopw [3,9] (fun c i wr=>∃ k:Nat,k≤n∧i=.int .i64 k∧c=.int .i64 (P.bars (l.take k))∧Below w.heap.size w wr) (fun _ i _=>n-(intOf i).toNat)
 case atStart=>exact⟨0,Nat.zero_le _,rfl,by simp[P.bars],(Below.refl _ _).alloc (Nat.le_refl _) _⟩
 case round =>
  obtain⟨k,hk,rfl,rfl,hbel⟩:=hrel
  have hbd:=P.zKy (l.take k)
  have hbl:(l.take k).length≤k:=List.length_take_le _ _
  by_cases hlt:k<n
  ·obtain⟨b,rfl,hblt⟩:=hsa (by omega)
   have hkl:k<l.length:=by rw[← HN.out];exact hlt
   have hr:=zAa (zAz (zCj HO.out HN.out k hkl) (hbel.block b hblt))
   have hsn:=zAa (P.bars_snoc l k hkl)
   generalize hst:l[k]=st at hr hsn
   clear hst
   cases h5:(st.kind==5)
   ·go_wp2_with (first | (refine zAE (.tmp 11) rfl rfl b (k*11) st rfl hr.out ?_))
    go_roundw
    case rel=>exact⟨k+1,by omega,by go_num,by rw[hsn.out,h5];simp,hbel.alloc (by have:=hbel.size;omega) _⟩
    case measure=>simp[intOf];omega
   ·go_wp2_with (first | (refine zAE (.tmp 11) rfl rfl b (k*11) st rfl hr.out ?_))
    go_roundw
    case rel=>exact⟨k+1,by omega,by go_num,by rw[hsn.out,h5];simp,hbel.alloc (by have:=hbel.size;omega) _⟩
    case measure=>simp[intOf];omega
  ·have hkn:k=n:=by omega
   subst hkn
   have HT:Hid (l.take k=l):=List.take_of_length_le (by have:=HN.out;omega)
   go_wp2
   go_ret
   rw[HT.out]
   exact⟨rfl,hbel⟩
end Go.Proofs.YtkmebkbpfmoeaaaGreat
