import Derived.Test.YtgceflcbckjjiaaGreatDoorB06
set_option linter.unusedVariables false
set_option linter.unusedSimpArgs false
namespace Go.Proofs.YtgceflcbckjjiaaGreatDoor
open Go Go.RowKit
set_option maxRecDepth 100000
set_option maxHeartbeats 1600000 in
theorem ends_any (B g N:Nat) (r:P.Rd) (st:P.Stm) (w:World) (h:RdAt w B g r) (hne:r.threads≠[]) (hF:Few N r) (hN:N<10000) (hB:B≤w.heap.size) (ho:r.opn.length<10) :
  Calls Tryz.prog 151 #[.pointer (some ⟨g,0,none⟩),.agg (stmCells st)] w fun e w'=>e=.returned (.bool (P.ends r st).2)∧RdAt w' B g (P.ends r st).1∧BelowX B g w w':=by
 have hA:=h
 obtain⟨tv,ov,vs,h⟩:=h
 by_cases he:r.opn=[]
 ·have hov:ov=.slice none 0 0∨∃ k c,ov=.slice (some ⟨k,0,none⟩) 0 c:=by
   have:=h.opn
   rw[he] at this
   rcases this.2 with ⟨e,_⟩ | ⟨k,c,cur,e,_⟩
   ·exact .inl e
   ·exact .inr ⟨k,c,e⟩
  obtain⟨glt,gfr,g0,g1,g2,g3,g4⟩:=h.facts
  have HE:Hid (P.ends r st=(r,false)):=by unfold Hid;simp[P.ends,he]
  have hA':RdAt (w.alloc (.cells (stmCells st) 96)) B g r:=hA.below ((Below.refl _ _).alloc (Nat.le_refl _) _)
  clear hA h
  rcases hov with rfl | ⟨k,c,rfl⟩
  all_goals
   go_enter Tryz.func151,Tryz.ntmps151
   go_wp2
   go_ret
   rw[unhide HE]
   exact⟨rfl,hA',(BelowX.refl _ _ _).alloc hB _⟩
 ·obtain⟨os,o,hos⟩:=snoc_of r.opn he
  have hown:=h.opn
  rw[hos] at hown
  simp only[List.length_append,List.length_cons,List.length_nil,Nat.zero_add,List.map_append,List.map_cons,List.map_nil] at hown
  obtain⟨k,cap,rfl,hBk,hklt⟩:=hown.form (by omega)
  have hc:w.cell? ⟨k,os.length,none⟩=some (.int .i64 o):=by
   rw[hown.cellAt _ (by omega),List.getElem?_append_right (by simp)];simp
  obtain⟨glt,gfr,g0,g1,g2,g3,g4⟩:=h.facts
  have hol:os.length<10:=by rw[hos] at ho;simp at ho;omega
  have HE:Hid (P.ends r st=(P.put { r with opn:=os } { st with label:=o },true)):=by unfold Hid;simp[P.ends,hos]
  have HR:Hid (RdAt ((w.setCell ⟨g,4,none⟩ (.slice (some ⟨k,0,none⟩) os.length cap)).alloc (.cells (stmCells { st with label:=o }) 96)) B g { r with opn:=os }):=by
   have k2:=h.opn
   rw[hos] at k2
   simp only[List.length_append,List.length_cons,List.length_nil,Nat.zero_add,List.map_append,List.map_cons,List.map_nil] at k2
   have k3:=h.setG { r with opn:=os } (.slice (some ⟨k,0,none⟩) os.length cap) 4 (.slice (some ⟨k,0,none⟩) os.length cap) rfl (own_pop k2) rfl
   exact⟨tv,_,vs,k3.keep (fun j hj=>Below.heap_alloc _ _ _ hj)⟩
  have hB1:Hid (BelowX B g w ((w.setCell ⟨g,4,none⟩ (.slice (some ⟨k,0,none⟩) os.length cap)).alloc (.cells (stmCells { st with label:=o }) 96))) :=
   ((BelowX.refl _ _ _).setCell _).alloc (by simp;omega) _
  have hoc:os.length+1≤cap:=by
   rcases hown.2 with ⟨h',_⟩ | ⟨g',cap',cur,h',hb,hg,hnc,hcm,hcs,htake⟩
   ·simp at h'
   ·simp only[Value.slice.injEq] at h';omega
  clear hA h hown hos he ho
  simp only[stmCells]
  go_enter Tryz.func151,Tryz.ntmps151
  go_wp2_with (first
   | (go_at_call 153;refine (put_any B g N { r with opn:=os } { st with label:=o } _ (by exact HR.out) hne hF hN (by simp;omega)).mono ?_;rintro e w1 ⟨rfl,hr1,hb1⟩))
  go_ret
  rw[unhide HE]
  exact⟨rfl,hr1,hB1.out.trans (BelowX.of hb1)⟩
theorem Tryz.infoInt:(Tryz.prog.info? 3).map (fun i=>(i.zero,i.size,i.bytes))=some (some (.int .i64 0),1,8):=by kernel_rfl
theorem opn_mem {w W0 w1:World} {B g g1 cap1:Nat} {r:P.Rd} {tv ov:Value} {vs:List Value} {x:Int}
  (h:RdIn w B g r tv ov vs) (hk:∀ k,k<w.heap.size→W0.heap[k]?=w.heap[k]?) (hsz:w.heap.size≤W0.heap.size)
  (hown:w1.ownsRow B 3 1 (.slice (some ⟨g1,0,none⟩) (r.opn.length+1) cap1) (r.opn.length+1) (r.opn.map (Value.int .i64)++[.int .i64 x])) (hgrow:W0.grownBy w1 ov.ownBlock) :
  RdIn (w1.setCell ⟨g,4,none⟩ (.slice (some ⟨g1,0,none⟩) (r.opn.length+1) cap1)) B g { r with opn:=r.opn++[x] } tv (.slice (some ⟨g1,0,none⟩) (r.opn.length+1) cap1) vs∧(∀ k,k<W0.heap.size→ov.ownBlock≠some k→k≠g→(w1.setCell ⟨g,4,none⟩ (.slice (some ⟨g1,0,none⟩) (r.opn.length+1) cap1)).heap[k]?=W0.heap[k]?):=by
 have same:∀ k,k<w.heap.size→ov.ownBlock≠some k→w1.heap[k]?=w.heap[k]?:=fun k h1 h2=>by
  rw[hgrow.block k (by omega) (Ne.symm h2),hk k h1]
 have nt:∀ k,(∃ (c:Array Value) (e:TypeId),w.heap[k]?=some (Obj.cells c e (0,0))∧e≠3)→ov.ownBlock≠some k:=fun k ⟨c,e,hc,hne⟩=>own_ne_blk h.opn hc (Ne.symm hne)
 have keep:∀ k,k<w.heap.size→(∃ (c:Array Value) (e:TypeId),w.heap[k]?=some (Obj.cells c e (0,0))∧e≠3)→w1.heap[k]?=w.heap[k]?:=fun k h1 h2=>same k h1 (nt k h2)
 have h1:RdIn w1 B g { r with opn:=r.opn++[x] } tv (.slice (some ⟨g1,0,none⟩) (r.opn.length+1) cap1) vs→True:=fun _=>trivial
 have hg1:w1.heap[g]?=w.heap[g]?:=keep g h.lt ⟨_,_,h.cells,by decide⟩
 refine⟨⟨?_,?_,?_,?_⟩,fun k h1 h2 h3=>?_⟩
 ·have:=h.cells
  rw[← hg1] at this
  rw[setCell_block this];rfl
 ·refine ownsRow_keep h.threads (fun k hk'=>?_)
  obtain⟨c,hc⟩:=own_type h.threads hk'
  rw[Below.heap_setCell _ _ _ _ (fun e=>by simp at e;subst e;rw[h.cells] at hc;simp at hc)]
  exact keep k (h.threads.lt k hk').2 ⟨c,_,hc,by decide⟩
 ·have hh:=hown
  refine ownsRow_keep (by simpa using hh) (fun k hk'=>Below.heap_setCell _ _ _ _ (fun e=>?_))
  simp at e;subst e
  obtain⟨c,hc⟩:=own_type hown hk'
  rw[hg1,h.cells] at hc;simp at hc
 ·refine h.stmts.keep (fun v hv k hk'=>?_)
  obtain⟨n,xs,hv'⟩:=h.stmts.mem v hv
  obtain⟨c,hc⟩:=own_type hv' hk'
  rw[Below.heap_setCell _ _ _ _ (fun e=>by simp at e;subst e;rw[h.cells] at hc;simp at hc)]
  exact keep k (hv'.lt k hk').2 ⟨c,_,hc,by decide⟩
 ·rw[Below.heap_setCell _ _ _ _ h3,hgrow.block k h1 (Ne.symm h2)]
set_option maxHeartbeats 3200000 in
theorem branch_any (B g N:Nat) (r:P.Rd) (st:P.Stm) (w:World) (h:RdAt w B g r) (hne:r.threads≠[]) (hF:Few N r) (hN:N<10000) (hB:B≤w.heap.size) (ho:r.opn.length<2) (hi0:0≤r.ifs) (hi1:r.ifs<10000) :
  Calls Tryz.prog 152 #[.pointer (some ⟨g,0,none⟩),.agg (stmCells st)] w fun e w'=>e=.returned (.bool (P.branch r st).2)∧RdAt w' B g (P.branch r st).1∧BelowX B g w w':=by
 obtain⟨tv,ov,vs,h⟩:=h
 obtain⟨i0,hi,hz0,hz1,hz2⟩:=info_parts Tryz.infoInt
 have hov:∃ a c,ov=.slice a r.opn.length c:=by
  rcases h.opn.2 with ⟨e,h0⟩ | ⟨k,c,cur,e,_⟩
  ·exact⟨none,0,by rw[e,h0]⟩
  ·exact⟨_,c,e⟩
 obtain⟨oa,oc,rfl⟩:=hov
 obtain⟨glt,gfr,g0,g1,g2,g3,g4⟩:=h.facts
 have HE:Hid (P.branch r st=(P.put { r with ifs:=r.ifs+1,opn:=r.opn++[r.ifs+1] } { st with label:=r.ifs+1 },true)):=by
  unfold Hid;rw[P.branch,if_neg (by omega)]
 have k1:RdIn (((w.setCell ⟨g,3,none⟩ (.int .i64 (r.ifs+1))).alloc (.cells (stmCells { st with label:=r.ifs+1 }) 96))) B g { r with ifs:=r.ifs+1 } tv (.slice oa r.opn.length oc) vs :=
  (h.setG { r with ifs:=r.ifs+1 } (.slice oa r.opn.length oc) 3 (.int .i64 (r.ifs+1)) rfl h.opn rfl).keep (fun j hj=>Below.heap_alloc _ _ _ hj)
 have K1:=hide k1
 have HO:Hid ((((w.setCell ⟨g,3,none⟩ (.int .i64 (r.ifs+1))).alloc (.cells (stmCells { st with label:=r.ifs+1 }) 96)).drew.alloc (.cells #[.int .i64 (r.ifs+1)] 3)).ownsRow B 3 1 (.slice oa r.opn.length oc) r.opn.length (r.opn.map (Value.int .i64))):=(k1.opn.drew).alloc _
 have HN:Hid (∀ j u,[Value.int .i64 (r.ifs+1)][j]?=some u→(((w.setCell ⟨g,3,none⟩ (.int .i64 (r.ifs+1))).alloc (.cells (stmCells { st with label:=r.ifs+1 }) 96)).drew.alloc (.cells #[.int .i64 (r.ifs+1)] 3)).cell? ((⟨w.heap.size+1,0,none⟩:Addr).add j)=some u) :=
  World.news_of_block (cs:=#[.int .i64 (r.ifs+1)]) (t:=3) (fr:=(0,0)) (by have:=heap_alloc_new ((w.setCell ⟨g,3,none⟩ (.int .i64 (r.ifs+1))).alloc (.cells (stmCells { st with label:=r.ifs+1 }) 96)).drew (.cells #[.int .i64 (r.ifs+1)] 3);simpa using this)
 have hgne:some g≠(Value.slice oa r.opn.length oc).ownBlock:=Ne.symm (own_ne_blk k1.opn k1.cells (by decide))
 have eb:(((w.setCell ⟨g,3,none⟩ (.int .i64 (r.ifs+1))).alloc (.cells (stmCells { st with label:=r.ifs+1 }) 96)).drew.alloc (.cells #[.int .i64 (r.ifs+1)] 3)).heap[g]?=((w.setCell ⟨g,3,none⟩ (.int .i64 (r.ifs+1))).alloc (.cells (stmCells { st with label:=r.ifs+1 }) 96)).heap[g]?:=Below.heap_alloc _ _ _ k1.lt
 have HC:Hid ((((w.setCell ⟨g,3,none⟩ (.int .i64 (r.ifs+1))).alloc (.cells (stmCells { st with label:=r.ifs+1 }) 96)).drew.alloc (.cells #[.int .i64 (r.ifs+1)] 3)).cell? ⟨g,4,none⟩=some (.slice oa r.opn.length oc)):=by
  unfold Hid;rw[World.cell?_of_block (w:=((w.setCell ⟨g,3,none⟩ (.int .i64 (r.ifs+1))).alloc (.cells (stmCells { st with label:=r.ifs+1 }) 96))) eb];simp[World.cell?,k1.cells]
 have HF:Hid ((((w.setCell ⟨g,3,none⟩ (.int .i64 (r.ifs+1))).alloc (.cells (stmCells { st with label:=r.ifs+1 }) 96)).drew.alloc (.cells #[.int .i64 (r.ifs+1)] 3)).frozen? ⟨g,4,none⟩=false):=by
  unfold Hid;rw[World.frozen?_of_block (w:=((w.setCell ⟨g,3,none⟩ (.int .i64 (r.ifs+1))).alloc (.cells (stmCells { st with label:=r.ifs+1 }) 96))) eb];simp[World.frozen?,k1.cells]
 have fin:∀ gn cn w1,World.ownsRow w1 B 3 1 (.slice (some ⟨gn,0,none⟩) (r.opn.length+1) cn) (r.opn.length+1) (r.opn.map (Value.int .i64)++[.int .i64 (r.ifs+1)])→(((w.setCell ⟨g,3,none⟩ (.int .i64 (r.ifs+1))).alloc (.cells (stmCells { st with label:=r.ifs+1 }) 96)).drew.alloc (.cells #[.int .i64 (r.ifs+1)] 3)).grownBy w1 (Value.slice oa r.opn.length oc).ownBlock →
   RdAt (w1.setCell ⟨g,4,none⟩ (.slice (some ⟨gn,0,none⟩) (r.opn.length+1) cn)) B g { r with ifs:=r.ifs+1,opn:=r.opn++[r.ifs+1] }∧StmAt (w1.setCell ⟨g,4,none⟩ (.slice (some ⟨gn,0,none⟩) (r.opn.length+1) cn)) w.heap.size { st with label:=r.ifs+1 }∧BelowX B g w (w1.setCell ⟨g,4,none⟩ (.slice (some ⟨gn,0,none⟩) (r.opn.length+1) cn)):=fun gn cn w1 hown hgrow=>by
  obtain⟨m1,m2⟩:=opn_mem (W0:=(((w.setCell ⟨g,3,none⟩ (.int .i64 (r.ifs+1))).alloc (.cells (stmCells { st with label:=r.ifs+1 }) 96)).drew.alloc (.cells #[.int .i64 (r.ifs+1)] 3))) k1 (fun k hk=>Below.heap_alloc _ _ _ hk) (by simp) hown hgrow
  have hs:StmAt ((w.setCell ⟨g,3,none⟩ (.int .i64 (r.ifs+1))).alloc (.cells (stmCells { st with label:=r.ifs+1 }) 96)) w.heap.size { st with label:=r.ifs+1 }:=by
   have:=StmAt.new (w.setCell ⟨g,3,none⟩ (.int .i64 (r.ifs+1))) { st with label:=r.ifs+1 }
   simpa using this
  refine⟨⟨_,_,_,m1⟩,(StmAt.alloc (w:=((w.setCell ⟨g,3,none⟩ (.int .i64 (r.ifs+1))).alloc (.cells (stmCells { st with label:=r.ifs+1 }) 96)).drew) hs _).of_block (m2 w.heap.size (by simp;omega) (own_ne_blk k1.opn hs (by decide)) (by omega)),?_⟩
  refine BelowX.setCell (BelowX.grown ((((((BelowX.refl B g w).setCell _).alloc (by simp;omega) _).drew).alloc (by simp;omega) _)) hgrow (by simp;omega) (fun k hk=>(k1.opn.lt k hk).1)) _
 have FIN:=hide fin
 clear k1 h eb fin
 simp only[stmCells]
 go_enter Tryz.func152,Tryz.ntmps152
 go_wp2_with fail
 go_region_law (refine step_append_lies _ rfl (.tmp 27) (.tmp 32) 32 rfl B 3 i0 (.int .i64 0) 1 8 Tryz.underlying32 hi hz0 hz1 hz2 rfl (by decide) (.slice oa r.opn.length oc) r.opn.length (r.opn.map (Value.int .i64)) (by simp[Act.eval]) (by exact HO.out) ⟨w.heap.size+1,0,none⟩ 1 1 [.int .i64 (r.ifs+1)] (by simp[Act.eval]) rfl (by exact HN.out) (by simp[Value.oneCell']) (by decide) (by unfold maxLen;omega) (by omega) (by simp;omega) (w.heap.size+2) (by simp) ?_;intro gn cn w1 hown1 hgrow hat hlt1;have c1:=(hgrow.cell_far ⟨g,4,none⟩ (by simp;omega) hgne).trans HC.out;have f1:=(hgrow.frozen_far ⟨g,4,none⟩ (by simp;omega) hgne).trans HF.out;have hwl:w.heap.size+2≤w1.heap.size:=by have:=hgrow.size;simp at this;omega)
 all_goals
  obtain⟨q1,q2,q3⟩:=FIN.out _ _ _ hown1 hgrow
  have Q1:=hide q1
  have Q2:=hide q2
  clear q1 q2 hown1 hgrow
  go_wp2_with (first
   | (refine wpList_load_stm (.tmp 3) rfl rfl w.heap.size { st with label:=r.ifs+1 } rfl (by exact Q2.out) ?_)
   | (go_at_call 153;refine (put_any B g N { r with ifs:=r.ifs+1,opn:=r.opn++[r.ifs+1] } { st with label:=r.ifs+1 } _ (by exact Q1.out) hne hF hN (by simp;omega)).mono ?_;rintro e w2 ⟨rfl,hr1,hb1⟩))
  go_ret
  rw[unhide HE]
  exact⟨rfl,hr1,q3.trans (BelowX.of hb1)⟩
end Go.Proofs.YtgceflcbckjjiaaGreatDoor
