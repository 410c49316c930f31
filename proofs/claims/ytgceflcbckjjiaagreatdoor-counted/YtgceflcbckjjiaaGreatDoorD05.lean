import Derived.Test.YtgceflcbckjjiaaGreatDoorD04
set_option linter.unusedVariables false
set_option linter.unusedSimpArgs false
set_option maxHeartbeats 12800000
namespace Go.Proofs.YtgceflcbckjjiaaGreatDoor
open Go Go.RowKit
set_option maxRecDepth 100000
theorem zHO (B g N:Nat) (r:P.Rd) (st:P.Stm) (w:World) (h:zCv w B g r) (hne:r.threads≠[]) (hF:Few N r) (hN:N<10000) (hB:B≤w.heap.size) (ho:r.opn.length<10) :
  Calls Tryz.prog 151 #[.pointer (some ⟨g,0,none⟩),.agg (zAb st)] w fun e w'=>e=.returned (.bool (P.ends r st).2)∧zCv w' B g (P.ends r st).1∧BelowX B g w w':=by
 have hA:=h
 obtain⟨tv,ov,vs,h⟩:=h
 by_cases he:r.opn=[]
 ·have hov:ov=.slice none 0 0∨∃ k c,ov=.slice (some ⟨k,0,none⟩) 0 c:=by
   have:=h.opn
   rw[he] at this
   rcases this.2 with ⟨e,_⟩ | ⟨k,c,cur,e,_⟩
   ·exact .inl e
   ·exact .inr ⟨k,c,e⟩
  obtain⟨glt,gfr,g0,g1,g2,g3,g4⟩:=h.facts
  have HE:Hid (P.ends r st=(r,false)):=by unfold Hid;simp[P.ends,he]
  have hA':zCv (w.alloc (.cells (zAb st) 96)) B g r:=hA.below ((Below.refl _ _).alloc (Nat.le_refl _) _)
  clear hA h
  rcases hov with rfl | ⟨k,c,rfl⟩
  all_goals
   go_enter Tryz.func151,Tryz.ntmps151
   go_wp2
   go_ret
   rw[zAB HE]
   exact⟨rfl,hA',(BelowX.refl _ _ _).alloc hB _⟩
 ·obtain⟨os,o,hos⟩:=zDI r.opn he
  have hown:=h.opn
  rw[hos] at hown
  simp only[List.length_append,List.length_cons,List.length_nil,Nat.zero_add,List.map_append,List.map_cons,List.map_nil] at hown
  obtain⟨k,cap,rfl,hBk,hklt⟩:=hown.form (by omega)
  have hc:w.cell? ⟨k,os.length,none⟩=some (.int .i64 o):=by
   rw[hown.cellAt _ (by omega),List.getElem?_append_right (by simp)];simp
  obtain⟨glt,gfr,g0,g1,g2,g3,g4⟩:=h.facts
  have hol:os.length<10:=by rw[hos] at ho;simp at ho;omega
  have HE:Hid (P.ends r st=(P.put { r with opn:=os } { st with label:=o },true)):=by unfold Hid;simp[P.ends,hos]
  have HR:Hid (zCv ((w.setCell ⟨g,4,none⟩ (.slice (some ⟨k,0,none⟩) os.length cap)).alloc (.cells (zAb { st with label:=o }) 96)) B g { r with opn:=os }):=by
   have k2:=h.opn
   rw[hos] at k2
   simp only[List.length_append,List.length_cons,List.length_nil,Nat.zero_add,List.map_append,List.map_cons,List.map_nil] at k2
   have k3:=h.setG { r with opn:=os } (.slice (some ⟨k,0,none⟩) os.length cap) 4 (.slice (some ⟨k,0,none⟩) os.length cap) rfl (zID k2) rfl
   exact⟨tv,_,vs,k3.keep (fun j hj=>Below.heap_alloc _ _ _ hj)⟩
  have hB1:Hid (BelowX B g w ((w.setCell ⟨g,4,none⟩ (.slice (some ⟨k,0,none⟩) os.length cap)).alloc (.cells (zAb { st with label:=o }) 96))) :=
   ((BelowX.refl _ _ _).setCell _).alloc (by simp;omega) _
  have hoc:os.length+1≤cap:=by
   rcases hown.2 with ⟨h',_⟩ | ⟨g',cap',cur,h',hb,hg,hnc,hcm,hcs,htake⟩
   ·simp at h'
   ·simp only[Value.slice.injEq] at h';omega
  clear hA h hown hos he ho
  simp only[zAb]
  go_enter Tryz.func151,Tryz.ntmps151
  go_wp2_with (first
   | (go_at_call 153;refine (zFv B g N { r with opn:=os } { st with label:=o } _ (by exact HR.out) hne hF hN (by simp;omega)).mono ?_;rintro e w1 ⟨rfl,hr1,hb1⟩))
  go_ret
  rw[zAB HE]
  exact⟨rfl,hr1,hB1.out.trans (BelowX.of hb1)⟩
theorem Tryz.infoInt:(Tryz.prog.info? 3).map (fun i=>(i.zero,i.size,i.bytes))=some (some (.int .i64 0),1,8):=by kernel_rfl
theorem zIE {w W0 w1:World} {B g g1 cap1:Nat} {r:P.Rd} {tv ov:Value} {vs:List Value} {x:Int}
  (h:RdIn w B g r tv ov vs) (hk:∀ k,k<w.heap.size→W0.heap[k]?=w.heap[k]?) (hsz:w.heap.size≤W0.heap.size)
  (hown:w1.ownsRow B 3 1 (.slice (some ⟨g1,0,none⟩) (r.opn.length+1) cap1) (r.opn.length+1) (r.opn.map (Value.int .i64)++[.int .i64 x])) (hgrow:W0.grownBy w1 ov.ownBlock) :
  RdIn (w1.setCell ⟨g,4,none⟩ (.slice (some ⟨g1,0,none⟩) (r.opn.length+1) cap1)) B g { r with opn:=r.opn++[x] } tv (.slice (some ⟨g1,0,none⟩) (r.opn.length+1) cap1) vs∧(∀ k,k<W0.heap.size→ov.ownBlock≠some k→k≠g→(w1.setCell ⟨g,4,none⟩ (.slice (some ⟨g1,0,none⟩) (r.opn.length+1) cap1)).heap[k]?=W0.heap[k]?):=by
 have same:∀ k,k<w.heap.size→ov.ownBlock≠some k→w1.heap[k]?=w.heap[k]?:=fun k h1 h2=>by
  rw[hgrow.block k (by omega) (Ne.symm h2),hk k h1]
 have nt:∀ k,(∃ (c:Array Value) (e:TypeId),w.heap[k]?=some (Obj.cells c e (0,0))∧e≠3)→ov.ownBlock≠some k:=fun k ⟨c,e,hc,hne⟩=>zAV h.opn hc (Ne.symm hne)
 have keep:∀ k,k<w.heap.size→(∃ (c:Array Value) (e:TypeId),w.heap[k]?=some (Obj.cells c e (0,0))∧e≠3)→w1.heap[k]?=w.heap[k]?:=fun k h1 h2=>same k h1 (nt k h2)
 have h1:RdIn w1 B g { r with opn:=r.opn++[x] } tv (.slice (some ⟨g1,0,none⟩) (r.opn.length+1) cap1) vs→True:=fun _=>trivial
 have hg1:w1.heap[g]?=w.heap[g]?:=keep g h.lt ⟨_,_,h.cells,by decide⟩
 refine⟨⟨?_,?_,?_,?_⟩,fun k h1 h2 h3=>?_⟩
 ·have:=h.cells
  rw[← hg1] at this
  rw[zAf this];rfl
 ·refine zAd h.threads (fun k hk'=>?_)
  obtain⟨c,hc⟩:=zBn h.threads hk'
  rw[Below.heap_setCell _ _ _ _ (fun e=>by simp at e;subst e;rw[h.cells] at hc;simp at hc)]
  exact keep k (h.threads.lt k hk').2 ⟨c,_,hc,by decide⟩
 ·have hh:=hown
  refine zAd (by simpa using hh) (fun k hk'=>Below.heap_setCell _ _ _ _ (fun e=>?_))
  simp at e;subst e
  obtain⟨c,hc⟩:=zBn hown hk'
  rw[hg1,h.cells] at hc;simp at hc
 ·refine h.stmts.keep (fun v hv k hk'=>?_)
  obtain⟨n,xs,hv'⟩:=h.stmts.mem v hv
  obtain⟨c,hc⟩:=zBn hv' hk'
  rw[Below.heap_setCell _ _ _ _ (fun e=>by simp at e;subst e;rw[h.cells] at hc;simp at hc)]
  exact keep k (hv'.lt k hk').2 ⟨c,_,hc,by decide⟩
 ·rw[Below.heap_setCell _ _ _ _ h3,hgrow.block k h1 (Ne.symm h2)]
theorem zGx (B g N:Nat) (r:P.Rd) (st:P.Stm) (w:World) (h:zCv w B g r) (hne:r.threads≠[]) (hF:Few N r) (hN:N<10000) (hB:B≤w.heap.size) (ho:r.opn.length<2) (hi0:0≤r.ifs) (hi1:r.ifs<10000) :
  Calls Tryz.prog 152 #[.pointer (some ⟨g,0,none⟩),.agg (zAb st)] w fun e w'=>e=.returned (.bool (P.zLQ r st).2)∧zCv w' B g (P.zLQ r st).1∧BelowX B g w w':=by
 obtain⟨tv,ov,vs,h⟩:=h
 obtain⟨i0,hi,hz0,hz1,hz2⟩:=info_parts Tryz.infoInt
 have hov:∃ a c,ov=.slice a r.opn.length c:=by
  rcases h.opn.2 with ⟨e,h0⟩ | ⟨k,c,cur,e,_⟩
  ·exact⟨none,0,by rw[e,h0]⟩
  ·exact⟨_,c,e⟩
 obtain⟨oa,oc,rfl⟩:=hov
 obtain⟨glt,gfr,g0,g1,g2,g3,g4⟩:=h.facts
 have HE:Hid (P.zLQ r st=(P.put { r with ifs:=r.ifs+1,opn:=r.opn++[r.ifs+1] } { st with label:=r.ifs+1 },true)):=by
  unfold Hid;rw[P.zLQ,if_neg (by omega)]
 have k1:RdIn (((w.setCell ⟨g,3,none⟩ (.int .i64 (r.ifs+1))).alloc (.cells (zAb { st with label:=r.ifs+1 }) 96))) B g { r with ifs:=r.ifs+1 } tv (.slice oa r.opn.length oc) vs :=
  (h.setG { r with ifs:=r.ifs+1 } (.slice oa r.opn.length oc) 3 (.int .i64 (r.ifs+1)) rfl h.opn rfl).keep (fun j hj=>Below.heap_alloc _ _ _ hj)
 have K1:=zAa k1
 have HO:Hid ((((w.setCell ⟨g,3,none⟩ (.int .i64 (r.ifs+1))).alloc (.cells (zAb { st with label:=r.ifs+1 }) 96)).drew.alloc (.cells #[.int .i64 (r.ifs+1)] 3)).ownsRow B 3 1 (.slice oa r.opn.length oc) r.opn.length (r.opn.map (Value.int .i64))):=(k1.opn.drew).alloc _
 have HN:Hid (∀ j u,[Value.int .i64 (r.ifs+1)][j]?=some u→(((w.setCell ⟨g,3,none⟩ (.int .i64 (r.ifs+1))).alloc (.cells (zAb { st with label:=r.ifs+1 }) 96)).drew.alloc (.cells #[.int .i64 (r.ifs+1)] 3)).cell? ((⟨w.heap.size+1,0,none⟩:Addr).add j)=some u) :=
  World.news_of_block (cs:=#[.int .i64 (r.ifs+1)]) (t:=3) (fr:=(0,0)) (by have:=heap_alloc_new ((w.setCell ⟨g,3,none⟩ (.int .i64 (r.ifs+1))).alloc (.cells (zAb { st with label:=r.ifs+1 }) 96)).drew (.cells #[.int .i64 (r.ifs+1)] 3);simpa using this)
 have hgne:some g≠(Value.slice oa r.opn.length oc).ownBlock:=Ne.symm (zAV k1.opn k1.cells (by decide))
 have eb:(((w.setCell ⟨g,3,none⟩ (.int .i64 (r.ifs+1))).alloc (.cells (zAb { st with label:=r.ifs+1 }) 96)).drew.alloc (.cells #[.int .i64 (r.ifs+1)] 3)).heap[g]?=((w.setCell ⟨g,3,none⟩ (.int .i64 (r.ifs+1))).alloc (.cells (zAb { st with label:=r.ifs+1 }) 96)).heap[g]?:=Below.heap_alloc _ _ _ k1.lt
 have HC:Hid ((((w.setCell ⟨g,3,none⟩ (.int .i64 (r.ifs+1))).alloc (.cells (zAb { st with label:=r.ifs+1 }) 96)).drew.alloc (.cells #[.int .i64 (r.ifs+1)] 3)).cell? ⟨g,4,none⟩=some (.slice oa r.opn.length oc)):=by
  unfold Hid;rw[World.cell?_of_block (w:=((w.setCell ⟨g,3,none⟩ (.int .i64 (r.ifs+1))).alloc (.cells (zAb { st with label:=r.ifs+1 }) 96))) eb];simp[World.cell?,k1.cells]
 have HF:Hid ((((w.setCell ⟨g,3,none⟩ (.int .i64 (r.ifs+1))).alloc (.cells (zAb { st with label:=r.ifs+1 }) 96)).drew.alloc (.cells #[.int .i64 (r.ifs+1)] 3)).frozen? ⟨g,4,none⟩=false):=by
  unfold Hid;rw[World.frozen?_of_block (w:=((w.setCell ⟨g,3,none⟩ (.int .i64 (r.ifs+1))).alloc (.cells (zAb { st with label:=r.ifs+1 }) 96))) eb];simp[World.frozen?,k1.cells]
 have fin:∀ gn cn w1,World.ownsRow w1 B 3 1 (.slice (some ⟨gn,0,none⟩) (r.opn.length+1) cn) (r.opn.length+1) (r.opn.map (Value.int .i64)++[.int .i64 (r.ifs+1)])→(((w.setCell ⟨g,3,none⟩ (.int .i64 (r.ifs+1))).alloc (.cells (zAb { st with label:=r.ifs+1 }) 96)).drew.alloc (.cells #[.int .i64 (r.ifs+1)] 3)).grownBy w1 (Value.slice oa r.opn.length oc).ownBlock →
   zCv (w1.setCell ⟨g,4,none⟩ (.slice (some ⟨gn,0,none⟩) (r.opn.length+1) cn)) B g { r with ifs:=r.ifs+1,opn:=r.opn++[r.ifs+1] }∧zAw (w1.setCell ⟨g,4,none⟩ (.slice (some ⟨gn,0,none⟩) (r.opn.length+1) cn)) w.heap.size { st with label:=r.ifs+1 }∧BelowX B g w (w1.setCell ⟨g,4,none⟩ (.slice (some ⟨gn,0,none⟩) (r.opn.length+1) cn)):=fun gn cn w1 hown hgrow=>by
  obtain⟨m1,m2⟩:=zIE (W0:=(((w.setCell ⟨g,3,none⟩ (.int .i64 (r.ifs+1))).alloc (.cells (zAb { st with label:=r.ifs+1 }) 96)).drew.alloc (.cells #[.int .i64 (r.ifs+1)] 3))) k1 (fun k hk=>Below.heap_alloc _ _ _ hk) (by simp) hown hgrow
  have hs:zAw ((w.setCell ⟨g,3,none⟩ (.int .i64 (r.ifs+1))).alloc (.cells (zAb { st with label:=r.ifs+1 }) 96)) w.heap.size { st with label:=r.ifs+1 }:=by
   have:=zAw.new (w.setCell ⟨g,3,none⟩ (.int .i64 (r.ifs+1))) { st with label:=r.ifs+1 }
   simpa using this
  refine⟨⟨_,_,_,m1⟩,(zAw.alloc (w:=((w.setCell ⟨g,3,none⟩ (.int .i64 (r.ifs+1))).alloc (.cells (zAb { st with label:=r.ifs+1 }) 96)).drew) hs _).of_block (m2 w.heap.size (by simp;omega) (zAV k1.opn hs (by decide)) (by omega)),?_⟩
  refine BelowX.setCell (BelowX.grown ((((((BelowX.refl B g w).setCell _).alloc (by simp;omega) _).drew).alloc (by simp;omega) _)) hgrow (by simp;omega) (fun k hk=>(k1.opn.lt k hk).1)) _
 have FIN:=zAa fin
 clear k1 h eb fin
 simp only[zAb]
 go_enter Tryz.func152,Tryz.ntmps152
 go_wp2_with fail
 go_region_law (refine step_append_lies _ rfl (.tmp 27) (.tmp 32) 32 rfl B 3 i0 (.int .i64 0) 1 8 Tryz.underlying32 hi hz0 hz1 hz2 rfl (by decide) (.slice oa r.opn.length oc) r.opn.length (r.opn.map (Value.int .i64)) (by simp[Act.eval]) (by exact HO.out) ⟨w.heap.size+1,0,none⟩ 1 1 [.int .i64 (r.ifs+1)] (by simp[Act.eval]) rfl (by exact HN.out) (by simp[Value.oneCell']) (by decide) (by unfold maxLen;omega) (by omega) (by simp;omega) (w.heap.size+2) (by simp) ?_;intro gn cn w1 hown1 hgrow hat hlt1;have c1:=(hgrow.cell_far ⟨g,4,none⟩ (by simp;omega) hgne).trans HC.out;have f1:=(hgrow.frozen_far ⟨g,4,none⟩ (by simp;omega) hgne).trans HF.out;have hwl:w.heap.size+2≤w1.heap.size:=by have:=hgrow.size;simp at this;omega)
 all_goals
  obtain⟨q1,q2,q3⟩:=FIN.out _ _ _ hown1 hgrow
  have Q1:=zAa q1
  have Q2:=zAa q2
  clear q1 q2 hown1 hgrow
  go_wp2_with (first
   | (refine zAp (.tmp 3) rfl rfl w.heap.size { st with label:=r.ifs+1 } rfl (by exact Q2.out) ?_)
   | (go_at_call 153;refine (zFv B g N { r with ifs:=r.ifs+1,opn:=r.opn++[r.ifs+1] } { st with label:=r.ifs+1 } _ (by exact Q1.out) hne hF hN (by simp;omega)).mono ?_;rintro e w2 ⟨rfl,hr1,hb1⟩))
  go_ret
  rw[zAB HE]
  exact⟨rfl,hr1,q3.trans (BelowX.of hb1)⟩
theorem Tryz.infoThr:(Tryz.prog.info? 88).map (fun i=>(i.zero,i.size,i.bytes))=some (some (.agg #[.int .i64 0,.int .i64 0,.slice none 0 0]),3,40):=by kernel_rfl
theorem zIF {w W0 w1:World} {B g g1 cap1:Nat} {r:P.Rd} {tv ov:Value} {vs:List Value} {b l:Int}
  (h:RdIn w B g r tv ov vs) (hk:∀ k,k<w.heap.size→W0.heap[k]?=w.heap[k]?) (hsz:w.heap.size≤W0.heap.size)
  (hown:w1.ownsRow B 88 3 (.slice (some ⟨g1,0,none⟩) (r.threads.length+1) cap1) (r.threads.length+1) (zAH r.threads vs++[.int .i64 b,.int .i64 l,.slice none 0 0])) (hgrow:W0.grownBy w1 tv.ownBlock) :
  RdIn ((w1.setCell ⟨g,0,none⟩ (.slice (some ⟨g1,0,none⟩) (r.threads.length+1) cap1)).setCell ⟨g,2,none⟩ (.int .i64 0)) B g { r with threads:=r.threads++[⟨b,l,[]⟩],count:=0 } (.slice (some ⟨g1,0,none⟩) (r.threads.length+1) cap1) ov (vs++[.slice none 0 0]):=by
 have nt:∀ k,(∃ (c:Array Value) (e:TypeId),w.heap[k]?=some (Obj.cells c e (0,0))∧e≠88)→tv.ownBlock≠some k:=fun k ⟨c,e,hc,hne⟩=>zAV h.threads hc (Ne.symm hne)
 have keep:∀ k,k<w.heap.size→(∃ (c:Array Value) (e:TypeId),w.heap[k]?=some (Obj.cells c e (0,0))∧e≠88)→w1.heap[k]?=w.heap[k]?:=fun k h1 h2=>by
  rw[hgrow.block k (by omega) (Ne.symm (nt k h2)),hk k h1]
 have hg1:w1.heap[g]?=w.heap[g]?:=keep g h.lt ⟨_,_,h.cells,by decide⟩
 have out:∀ k,k≠g→((w1.setCell ⟨g,0,none⟩ (.slice (some ⟨g1,0,none⟩) (r.threads.length+1) cap1)).setCell ⟨g,2,none⟩ (.int .i64 0)).heap[k]?=w1.heap[k]?:=fun k hk'=>by
  rw[Below.heap_setCell _ _ _ _ hk',Below.heap_setCell _ _ _ _ hk']
 refine⟨?_,?_,?_,?_⟩
 ·have:=h.cells
  rw[← hg1] at this
  rw[zAf (zAf this _ _)];rfl
 ·have hh:=hown
  rw[← zBs r.threads vs ⟨b,l,[]⟩ (.slice none 0 0) h.stmts.length] at hh
  refine zAd (by simpa using hh) (fun k hk'=>out k (fun e=>?_))
  subst e
  obtain⟨c,hc⟩:=zBn hown hk'
  rw[hg1,h.cells] at hc;simp at hc
 ·refine zAd h.opn (fun k hk'=>?_)
  obtain⟨c,hc⟩:=zBn h.opn hk'
  rw[out k (fun e=>by subst e;rw[h.cells] at hc;simp at hc)]
  exact keep k (h.opn.lt k hk').2 ⟨c,_,hc,by decide⟩
 ·rw[zBA]
  refine⟨h.stmts.keep (fun v hv k hk'=>?_),World.ownsRow_nil _ _ _ _,fun u _=>?_⟩
  ·obtain⟨n,xs,hv'⟩:=h.stmts.mem v hv
   obtain⟨c,hc⟩:=zBn hv' hk'
   rw[out k (fun e=>by subst e;rw[h.cells] at hc;simp at hc)]
   exact keep k (hv'.lt k hk').2 ⟨c,_,hc,by decide⟩
  ·cases hu:u.ownBlock with
   | none=>exact .inl rfl
   | some k=>right;simp[Value.ownBlock]
theorem zDJ (r:P.Rd) (b l:Int) (h:4≤r.threads.length∨0<r.opn.length):P.zLh r b l=(r,false):=by
 unfold P.zLh;exact if_pos h
theorem zEM (x:UInt8) (n:Int) (w:World) :
  Calls Tryz.prog 146 #[.int .u8 (x.toNat:Int),.int .i64 n] w fun e w'=>e=.returned (.tuple #[.int .i64 (P.digit x n).1,.bool (P.digit x n).2])∧w'=w :=
 zDE _ _ _ (by omega) (by have:=UInt8.toNat_lt x;omega)
theorem zDq (r:P.Rd) (ws:List (List UInt8)) (h:¬ (∃ a c,ws=[a,[c]])):P.zKX r ws=(r,false):=by
 unfold P.zKX
 split
 ·rfl
 ·split
  ·rename_i a c
   exact absurd ⟨a,c,rfl⟩ h
  ·rfl
theorem zGy (B g:Nat) (r:P.Rd) (b l:Int) (w:World) (h:zCv w B g r) (hB:B≤w.heap.size) (ht5:r.threads.length<6) (ho9:r.opn.length<10) :
  Calls Tryz.prog 138 #[.pointer (some ⟨g,0,none⟩),.int .i64 b,.int .i64 l] w fun e w'=>e=.returned (.bool (P.zLh r b l).2)∧zCv w' B g (P.zLh r b l).1∧BelowX B g w w':=by
 have hA:=zAa h
 obtain⟨tv,ov,vs,h⟩:=h
 obtain⟨i0,hi,hz0,hz1,hz2⟩:=info_parts Tryz.infoThr
 have hov:∃ a c,ov=.slice a r.opn.length c:=by
  rcases h.opn.2 with ⟨e,h0⟩ | ⟨k,c,cur,e,_⟩
  ·exact⟨none,0,by rw[e,h0]⟩
  ·exact⟨_,c,e⟩
 obtain⟨oa,oc,rfl⟩:=hov
 have htv:∃ a c,tv=.slice a r.threads.length c:=by
  rcases h.threads.2 with ⟨e,h0⟩ | ⟨k,c,cur,e,_⟩
  ·exact⟨none,0,by rw[e,h0]⟩
  ·exact⟨_,c,e⟩
 obtain⟨ta,tc,rfl⟩:=htv
 obtain⟨glt,gfr,g0,g1,g2,g3,g4⟩:=h.facts
 by_cases h4:4≤r.threads.length
 ·have HE:Hid (P.zLh r b l=(r,false)):=zDJ r _ _ (Or.inl h4)
  have h4':(4:Int)≤(r.threads.length:Int):=by omega
  clear h
  go_enter Tryz.func138,Tryz.ntmps138
  go_wp2
  go_ret
  rw[zAB HE]
  exact⟨rfl,hA.out,BelowX.refl _ _ _⟩
 have h4':¬ (4:Int)≤(r.threads.length:Int):=by omega
 have h4d:decide ((4:Int)≤(r.threads.length:Int))=false:=by simp;omega
 by_cases h0:0<r.opn.length
 ·have HE:Hid (P.zLh r b l=(r,false)):=zDJ r _ _ (Or.inr h0)
  have h0':(0:Int)<(r.opn.length:Int):=by omega
  clear h
  go_enter Tryz.func138,Tryz.ntmps138
  go_wp2
  go_ret
  rw[zAB HE]
  exact⟨rfl,hA.out,BelowX.refl _ _ _⟩
 have h0':¬ (0:Int)<(r.opn.length:Int):=by omega
 have HE:Hid (P.zLh r b l=({ r with threads:=r.threads++[⟨b,l,[]⟩],count:=0 },true)):=by
  unfold Hid P.zLh;rw[if_neg (by omega)]
 have HO:Hid ((w.alloc (.cells #[Value.int .i64 b,.int .i64 l,.slice none 0 0] 88)).ownsRow B 88 3 (.slice ta r.threads.length tc) r.threads.length (zAH r.threads vs)):=h.threads.alloc _
 have HN:Hid (∀ j u,[Value.int .i64 b,.int .i64 l,.slice none 0 0][j]?=some u→(w.alloc (.cells #[Value.int .i64 b,.int .i64 l,.slice none 0 0] 88)).cell? ((⟨w.heap.size,0,none⟩:Addr).add j)=some u) :=
  World.news_of_block (cs:=#[Value.int .i64 b,.int .i64 l,.slice none 0 0]) (t:=88) (fr:=(0,0)) (by have:=heap_alloc_new w (.cells #[Value.int .i64 b,.int .i64 l,.slice none 0 0] 88);simpa using this)
 have hgne:some g≠(Value.slice ta r.threads.length tc).ownBlock:=Ne.symm (zAV h.threads h.cells (by decide))
 have eb:(w.alloc (.cells #[Value.int .i64 b,.int .i64 l,.slice none 0 0] 88)).heap[g]?=w.heap[g]?:=Below.heap_alloc _ _ _ h.lt
 have HC:Hid (∀ i,(w.alloc (.cells #[Value.int .i64 b,.int .i64 l,.slice none 0 0] 88)).cell? ⟨g,i,none⟩=w.cell? ⟨g,i,none⟩):=fun i=>World.cell?_of_block (w:=w) (a:=⟨g,i,none⟩) eb
 have HF:Hid (∀ i,(w.alloc (.cells #[Value.int .i64 b,.int .i64 l,.slice none 0 0] 88)).frozen? ⟨g,i,none⟩=false):=fun i=>(World.frozen?_of_block (w:=w) (a:=⟨g,i,none⟩) eb).trans (gfr i)
 have fin:∀ gn cn w1,World.ownsRow w1 B 88 3 (.slice (some ⟨gn,0,none⟩) (r.threads.length+1) cn) (r.threads.length+1) (zAH r.threads vs++[Value.int .i64 b,.int .i64 l,.slice none 0 0])→(w.alloc (.cells #[Value.int .i64 b,.int .i64 l,.slice none 0 0] 88)).grownBy w1 (Value.slice ta r.threads.length tc).ownBlock →
   zCv ((w1.setCell ⟨g,0,none⟩ (.slice (some ⟨gn,0,none⟩) (r.threads.length+1) cn)).setCell ⟨g,2,none⟩ (.int .i64 0)) B g { r with threads:=r.threads++[⟨b,l,[]⟩],count:=0 }∧BelowX B g w ((w1.setCell ⟨g,0,none⟩ (.slice (some ⟨gn,0,none⟩) (r.threads.length+1) cn)).setCell ⟨g,2,none⟩ (.int .i64 0)):=fun gn cn w1 hown hgrow=>by
  refine⟨⟨_,_,_,zIF (W0:=(w.alloc (.cells #[Value.int .i64 b,.int .i64 l,.slice none 0 0] 88))) h (fun k hk=>Below.heap_alloc _ _ _ hk) (by simp) hown hgrow⟩,?_⟩
  refine BelowX.setCell (BelowX.setCell (BelowX.grown (((BelowX.refl B g w).alloc hB _)) hgrow (by simp;omega) (fun k hk=>(h.threads.lt k hk).1)) _) _
 have FIN:=zAa fin
 clear h eb fin hA
 go_enter Tryz.func138,Tryz.ntmps138
 go_wp2_with (first | (at_builtin;refine wpList_append_lies _ rfl (.tmp 25) (.tmp 29) 46 rfl B 88 i0 (.agg #[.int .i64 0,.int .i64 0,.slice none 0 0]) 3 40 Tryz.underlying46 hi hz0 hz1 hz2 rfl (by decide) (.slice ta r.threads.length tc) r.threads.length (zAH r.threads vs) rfl (by exact HO.out) ⟨w.heap.size,0,none⟩ 1 1 [Value.int .i64 b,.int .i64 l,.slice none 0 0] rfl rfl (by exact HN.out) (by simp[Value.oneCell']) (by decide) (by unfold maxLen;omega) (by omega) (by simp;omega) _ rfl ?_;intro gn cn w1 hown1 hgrow hat hlt1;have c0:=(hgrow.cell_far ⟨g,0,none⟩ (by simp;omega) hgne).trans ((HC.out 0).trans g0);have c2:=(hgrow.cell_far ⟨g,2,none⟩ (by simp;omega) hgne).trans ((HC.out 2).trans g2);have f0:=(hgrow.frozen_far ⟨g,0,none⟩ (by simp;omega) hgne).trans (HF.out 0);have f2:=(hgrow.frozen_far ⟨g,2,none⟩ (by simp;omega) hgne).trans (HF.out 2);obtain⟨q1,q3⟩:=FIN.out _ _ _ hown1 hgrow;have Q1:=zAa q1;clear q1 hown1 hgrow))
 go_ret
 rw[zAB HE]
 exact⟨rfl,Q1.out,q3⟩
theorem zGz (B g b off n cap:Nat) (r:P.Rd) (ws:List ByteArray) (w:World) (h:zCv w B g r) (hw:zAz w b off ws) (hn:ws.length=n) (hnb:n<10000) (hB:B≤w.heap.size) (ht5:r.threads.length<6) (ho9:r.opn.length<10) :
  Calls Tryz.prog 99 #[.pointer (some ⟨g,0,none⟩),.slice (some ⟨b,off,none⟩) n cap,.int .i64 r.line] w fun e w'=>e=.returned (.bool (P.zKX r (ws.map ByteArray.toList)).2)∧zCv w' B g (P.zKX r (ws.map ByteArray.toList)).1∧BelowX B g w w':=by
 have hA:=zAa h
 by_cases h2:n=2
 case neg =>
  have HE:Hid (P.zKX r (ws.map ByteArray.toList)=(r,false)):=zDq r _ (by
   rintro ⟨a,c,e⟩
   have:=congrArg List.length e
   simp at this;omega)
  have hx:((n:Int) != 2)=true:=by rw[bne_iff_ne];omega
  clear h hw
  go_enter Tryz.func99,Tryz.ntmps99
  go_wp2
  go_ret
  rw[zAB HE]
  exact⟨rfl,hA.out,BelowX.refl _ _ _⟩
 subst h2
 match ws,hw,hn with
 | [a,c],hw,hn =>
 clear hn
 obtain⟨_,hblt,hw1⟩:=hw.head
 obtain⟨hd1,_,_⟩:=hw1.head
 by_cases hc1:c.size=1
 case neg =>
  have HE:Hid (P.zKX r [a.toList,c.toList]=(r,false)):=zDq r _ (by
   rintro ⟨a',c',e⟩
   have:=zAu c
   simp at e
   rw[e.2] at this;simp at this;omega)
  have hx:((c.size:Int) != 1)=true:=by rw[bne_iff_ne];omega
  clear h hw
  go_enter Tryz.func99,Tryz.ntmps99
  go_wp2
  go_ret
  simp only[List.map_cons,List.map_nil]
  rw[zAB HE]
  exact⟨rfl,hA.out,BelowX.refl _ _ _⟩
 have hcb:c[0].toNat<256:=UInt8.toNat_lt _
 have hcl:=zEf c hc1
 have HD:Hid (P.zKX r [a.toList,c.toList]=if (P.digit c[0] 2).2 then P.zLh r (P.digit c[0] 2).1 r.line else (r,false)):=by
  unfold Hid;rw[hcl,P.begins_D]
 cases hdg:(P.digit c[0] 2).2
 ·have HE:Hid (P.zKX r [a.toList,c.toList]=(r,false)):=by
   unfold Hid;rw[HD.out,hdg];rfl
  clear h hw hcl
  go_enter Tryz.func99,Tryz.ntmps99
  go_wp2_with (first | (go_at_call 146;refine (zEM _ _ _).mono ?_;rintro e w' ⟨rfl,rfl⟩))
  all_goals go_ret
  all_goals try simp only[List.map_cons,List.map_nil]
  all_goals rw[zAB HE]
  all_goals exact⟨rfl,hA.out,BelowX.refl _ _ _⟩
 ·have HE:Hid (P.zKX r [a.toList,c.toList]=P.zLh r (P.digit c[0] 2).1 r.line):=by
   unfold Hid;rw[HD.out,hdg];rfl
  clear h hw hcl HD
  go_enter Tryz.func99,Tryz.ntmps99
  go_wp2_with (first | (go_at_call 146;refine (zEM _ _ _).mono ?_;rintro e w' ⟨rfl,rfl⟩) | (go_at_call 138;refine (zGy B g r _ _ _ hA.out hB ht5 ho9).mono ?_;rintro e w1 ⟨rfl,hr1,hb1⟩))
  all_goals go_ret
  all_goals try simp only[List.map_cons,List.map_nil]
  all_goals rw[zAB HE]
  all_goals exact⟨rfl,hr1,hb1⟩
end Go.Proofs.YtgceflcbckjjiaaGreatDoor
