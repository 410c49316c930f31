import Derived.Test.YtgceflcbckjjiaaGreatDoorB03
set_option linter.unusedVariables false
set_option linter.unusedSimpArgs false
namespace Go.Proofs.YtgceflcbckjjiaaGreatDoor
open Go Go.RowKit
set_option maxRecDepth 100000
set_option maxHeartbeats 3200000 in
theorem put_walk (B g bt n capT:Nat) (st:P.Stm) (sv:Value) (m:Nat) (xs:List Value) (w:World) (hg:w.cell? ⟨g,0,none⟩=some (.slice (some ⟨bt,0,none⟩) (n+1) capT))
  (hn:n<5) (hm:m<10000) (hc:w.cell? ⟨bt,n*3+2,none⟩=some sv) (hf:w.frozen? ⟨bt,n*3+2,none⟩=false)
  (hown:w.ownsRow B 96 11 sv m xs) (hne:some bt≠sv.ownBlock) (hneg:some g≠sv.ownBlock) (hB:B≤w.heap.size) (hglt:g<w.heap.size) (hblt:bt<w.heap.size) (Q:Ending→World→Prop)
  (hQ:∀ g1 cap1 w1,w1.ownsRow B 96 11 (.slice (some ⟨g1,0,none⟩) (m+1) cap1) (m+1) (xs++(stmCells st).toList)→((w.alloc (.cells (stmCells st) 96)).drew.alloc (.cells (stmCells st) 96)).grownBy w1 sv.ownBlock→(sv.ownBlock=some g1∨g1=w.heap.size+2) →
   Q (.returned (.tuple #[])) (w1.setCell ⟨bt,n*3+2,none⟩ (.slice (some ⟨g1,0,none⟩) (m+1) cap1))) :
  Calls Tryz.prog 153 #[.pointer (some ⟨g,0,none⟩),.agg (stmCells st)] w Q:=by
 obtain⟨i0,hi,hz0,hz1,hz2⟩:=info_parts Tryz.infoStm
 have hown2:((w.alloc (.cells (stmCells st) 96)).drew.alloc (.cells (stmCells st) 96)).ownsRow B 96 11 sv m xs:=((hown.alloc _).drew).alloc _
 have HO:=hide hown2
 have hnews:∀ j u,(stmCells st).toList[j]?=some u→((w.alloc (.cells (stmCells st) 96)).drew.alloc (.cells (stmCells st) 96)).cell? ((⟨w.heap.size+1,0,none⟩:Addr).add j)=some u:=World.news_of_block (t:=96) (fr:=(0,0)) (by have:=heap_alloc_new (w.alloc (.cells (stmCells st) 96)).drew (.cells (stmCells st) 96);simpa using this)
 have HN:=hide hnews
 have eb:∀ k,k<w.heap.size→((w.alloc (.cells (stmCells st) 96)).drew.alloc (.cells (stmCells st) 96)).heap[k]?=w.heap[k]?:=fun k hk=>by
  rw[Below.heap_alloc _ _ _ (by simp;omega)]
  exact Below.heap_alloc _ _ _ hk
 have HC:Hid (((w.alloc (.cells (stmCells st) 96)).drew.alloc (.cells (stmCells st) 96)).cell? ⟨bt,n*3+2,none⟩=some sv):=(World.cell?_of_block (w:=w) (eb bt hblt)).trans hc
 have HF:Hid (((w.alloc (.cells (stmCells st) 96)).drew.alloc (.cells (stmCells st) 96)).frozen? ⟨bt,n*3+2,none⟩=false):=(World.frozen?_of_block (w:=w) (eb bt hblt)).trans hf
 have HG:Hid (((w.alloc (.cells (stmCells st) 96)).drew.alloc (.cells (stmCells st) 96)).cell? ⟨g,0,none⟩=some (.slice (some ⟨bt,0,none⟩) (n+1) capT)):=(World.cell?_of_block (w:=w) (eb g hglt)).trans hg
 have HQ:=hide hQ
 clear hown2 hnews eb hQ hown
 have hin:((n:Int)<(n:Int)+1):=by omega
 have hn0:(0:Int)≤(n:Int):=by omega
 simp only[stmCells]
 go_enter Tryz.func153,Tryz.ntmps153
 go_wp2_with fail
 go_region_law (refine step_append_lies _ rfl (.tmp 25) (.tmp 27) 86 rfl B 96 i0 (.agg (stmCells P.Stm.zero)) 11 88 Tryz.underlying86 hi hz0 hz1 hz2 rfl (by decide) sv m xs (by simp[Act.eval]) (by exact HO.out) ⟨w.heap.size+1,0,none⟩ 1 1 (stmCells st).toList (by simp[Act.eval]) rfl (by exact HN.out) (by simp[stmCells,Value.oneCell']) (by decide) (by unfold maxLen;omega) (by omega) (by simp;omega) (w.heap.size+2) (by simp) ?_;intro g1 cap1 w1 hown1 hgrow hat hlt1;have c1:=(hgrow.cell_far ⟨bt,n*3+2,none⟩ (by simp;omega) hne).trans HC.out;have f1:=(hgrow.frozen_far ⟨bt,n*3+2,none⟩ (by simp;omega) hne).trans HF.out;have d1:=(hgrow.cell_far ⟨g,0,none⟩ (by simp;omega) hneg).trans HG.out)
 all_goals go_end0
 all_goals exact HQ.out _ _ _ hown1 hgrow hat
def Few (N:Nat) (r:P.Rd):Prop:=r.threads.length≤4∧∀ t∈r.threads,t.stmts.length≤N
theorem put_any (B g N:Nat) (r:P.Rd) (st:P.Stm) (w:World) (h:RdAt w B g r) (hne:r.threads≠[]) (hF:Few N r) (hN:N<10000) (hB:B≤w.heap.size) :
  Calls Tryz.prog 153 #[.pointer (some ⟨g,0,none⟩),.agg (stmCells st)] w fun e w'=>e=.returned (.tuple #[])∧RdAt w' B g (P.put r st)∧Below B w w':=by
 obtain⟨tv,ov,vs,h⟩:=h
 obtain⟨ts,t,hr⟩:=snoc_of r.threads hne
 have hl:=h.stmts.length
 have hvne:vs≠[]:=by intro e;subst e;rw[hr] at hl;simp at hl
 obtain⟨vs0,sv,rfl⟩:=snoc_of vs hvne
 have hlen:r.threads.length=ts.length+1:=by rw[hr];simp
 have hthr:=h.threads
 rw[hlen] at hthr
 obtain⟨bt,capT,rfl,_,hbtlt⟩:=hthr.form (by omega)
 have hst:=h.stmts
 rw[hr,StmtsAt_snoc] at hst
 obtain⟨hs0,hsv,hpw⟩:=hst
 have hlv:vs0.length=ts.length:=hs0.length
 have hc:w.cell? ⟨bt,ts.length*3+2,none⟩=some sv:=by
  rw[hthr.cellAt _ (by omega),hr,thrCells_snoc _ _ _ _ hlv,List.getElem?_append_right (by rw[thrCells_length _ _ hlv];omega),thrCells_length _ _ hlv,show ts.length*3+2-ts.length*3=2 by omega]
  rfl
 have hg0:w.cell? ⟨g,0,none⟩=some (.slice (some ⟨bt,0,none⟩) (ts.length+1) capT):=by
  simp[World.cell?,h.cells]
 have hm:t.stmts.length≤N:=hF.2 t (by rw[hr];simp)
 obtain⟨cur,hcur⟩:=own_type hthr (k:=bt) rfl
 refine put_walk B g bt ts.length capT st sv t.stmts.length (flatStm t.stmts) w hg0 (by have:=hF.1;omega) (by omega) hc (hthr.frozenAt _) hsv (Ne.symm (own_ne_blk hsv hcur (by decide))) (Ne.symm (own_ne_blk hsv h.cells (by decide))) hB h.lt hbtlt _ ?_
 intro g1 cap1 w1 hown1 hgrow hat
 refine⟨rfl,put_mem (W0:=(w.alloc (.cells (stmCells st) 96)).drew.alloc (.cells (stmCells st) 96)) hr rfl rfl h (fun k hk=>?_) (by simp;omega) rfl rfl rfl hB hown1 hgrow (by rcases hat with ha | ha;exact .inl ha;right;simp;omega)⟩
 rw[Below.heap_alloc _ _ _ (by simp;omega)]
 exact Below.heap_alloc _ _ _ hk
theorem RdIn.setG {w:World} {B g:Nat} {r:P.Rd} {tv ov:Value} {vs:List Value} (r':P.Rd) (ov':Value) (h:RdIn w B g r tv ov vs) (i:Nat) (u:Value) (ht:r'.threads=r.threads)
  (ho:w.ownsRow B 3 1 ov' r'.opn.length (r'.opn.map (Value.int .i64)))
  (he:(#[tv,.int .i64 r.most,.int .i64 r.count,.int .i64 r.ifs,ov]:Array Value).setIfInBounds i u=#[tv,.int .i64 r'.most,.int .i64 r'.count,.int .i64 r'.ifs,ov']) :
  RdIn (w.setCell ⟨g,i,none⟩ u) B g r' tv ov' vs:=by
 have keep:∀ k,(∃ (c:Array Value) (e:TypeId),w.heap[k]?=some (Obj.cells c e (0,0))∧e≠106)→(w.setCell ⟨g,i,none⟩ u).heap[k]?=w.heap[k]?:=fun k ⟨c,e,hc,hne⟩ =>
  Below.heap_setCell _ _ _ _ (fun ek=>by simp at ek;subst ek;rw[h.cells] at hc;simp at hc;exact hne hc.2.symm)
 refine⟨by rw[setCell_block h.cells,he],?_,?_,?_⟩
 ·rw[ht]
  exact ownsRow_keep h.threads (fun k hk=>by obtain⟨c,hc⟩:=own_type h.threads hk;exact keep k ⟨c,_,hc,by decide⟩)
 ·exact ownsRow_keep ho (fun k hk=>by obtain⟨c,hc⟩:=own_type ho hk;exact keep k ⟨c,_,hc,by decide⟩)
 ·rw[ht]
  exact h.stmts.keep (fun v hv k hk=>by
   obtain⟨n,xs,hv'⟩:=h.stmts.mem v hv
   obtain⟨c,hc⟩:=own_type hv' hk;exact keep k ⟨c,_,hc,by decide⟩)
theorem RdIn.facts {w:World} {B g:Nat} {r:P.Rd} {tv ov:Value} {vs:List Value} (h:RdIn w B g r tv ov vs):g<w.heap.size∧(∀ i,w.frozen? ⟨g,i,none⟩=false)∧w.cell? ⟨g,0,none⟩=some tv∧w.cell? ⟨g,1,none⟩=some (.int .i64 r.most) ∧
  w.cell? ⟨g,2,none⟩=some (.int .i64 r.count)∧w.cell? ⟨g,3,none⟩=some (.int .i64 r.ifs)∧w.cell? ⟨g,4,none⟩=some ov:=by
 refine⟨h.lt,fun i=>?_,?_,?_,?_,?_,?_⟩<;>simp[World.cell?,World.frozen?,h.cells]
theorem own_pop {w:World} {B:Nat} {e:TypeId} {k n cap:Nat} {xs:List Value} {x:Value} (h:w.ownsRow B e 1 (.slice (some ⟨k,0,none⟩) (n+1) cap) (n+1) (xs++[x])):w.ownsRow B e 1 (.slice (some ⟨k,0,none⟩) n cap) n xs:=by
 have hl:=h.1
 rcases h.2 with ⟨h',_⟩ | ⟨g',cap',cur,h',hb,hg,hnc,hcm,hcs,htake⟩
 ·simp at h'
 ·simp only[Value.slice.injEq,Option.some.injEq,Addr.mk.injEq,and_true,true_and] at h'
  obtain⟨rfl,rfl⟩:=h'
  refine⟨by simp at hl;omega,.inr ⟨k,cap,cur,rfl,hb,hg,by omega,hcm,hcs,?_⟩⟩
  have hx:xs.length=n:=by simp at hl;omega
  have e:cur.toList.take n=(cur.toList.take ((n+1)*1)).take n:=by rw[List.take_take];congr 1;omega
  rw[Nat.mul_one,e,htake,← hx]
  simp
end Go.Proofs.YtgceflcbckjjiaaGreatDoor
namespace Go.Proofs.YtgceflcbckjjiaaGreatDoor
open Go Go.RowKit
structure BelowX (B g:Nat) (w w':World):Prop where
 os:w'.os=w.os
 tape:w'.tape=w.tape
 output:w'.output=w.output
 size:w.heap.size≤w'.heap.size
 block:∀ k,k<B→k≠g→w'.heap[k]?=w.heap[k]?
theorem BelowX.refl (B g:Nat) (w:World):BelowX B g w w:=⟨rfl,rfl,rfl,Nat.le_refl _,fun _ _ _=>rfl⟩
theorem BelowX.of {B g:Nat} {w w':World} (h:Below B w w'):BelowX B g w w':=⟨h.os,h.tape,h.output,h.size,fun k hk _=>h.block k hk⟩
theorem BelowX.trans {B g:Nat} {a b c:World} (h:BelowX B g a b) (k:BelowX B g b c):BelowX B g a c :=
 ⟨k.os.trans h.os,k.tape.trans h.tape,k.output.trans h.output,Nat.le_trans h.size k.size,fun i hi hg=>(k.block i hi hg).trans (h.block i hi hg)⟩
theorem BelowX.drew {B g:Nat} {a w:World} (h:BelowX B g a w):BelowX B g a w.drew:=⟨h.os,h.tape,h.output,h.size,h.block⟩
theorem BelowX.alloc {B g:Nat} {a w:World} (h:BelowX B g a w) (hB:B≤w.heap.size) (o:Obj):BelowX B g a (w.alloc o) :=
 h.trans (BelowX.of ((Below.refl _ _).alloc hB _))
theorem BelowX.setCell {B g:Nat} {a w:World} (h:BelowX B g a w) {i:Nat} (u:Value):BelowX B g a (w.setCell ⟨g,i,none⟩ u) :=
 h.trans ⟨rfl,rfl,rfl,by simp[World.setCell],fun k _ hg=>Below.heap_setCell _ _ _ _ hg⟩
theorem BelowX.grown {B g:Nat} {a w w':World} {row:Option Nat} (h:BelowX B g a w) (hg:w.grownBy w' row) (hB:B≤w.heap.size) (hr:∀ k,row=some k→B≤k):BelowX B g a w' :=
 h.trans (BelowX.of ((Below.refl _ _).grown hg hB hr))
theorem BelowX.below {B B' g:Nat} {w w':World} (h:BelowX B g w w') (h1:B'≤B) (h2:B'≤g):Below B' w w':=⟨h.os,h.tape,h.output,h.size,fun k hk=>h.block k (by omega) (by omega)⟩
end Go.Proofs.YtgceflcbckjjiaaGreatDoor
namespace Go.Proofs.YtgceflcbckjjiaaGreatDoor
open Go Go.RowKit
set_option maxRecDepth 100000
set_option maxHeartbeats 1600000 in
theorem ends_any (B g N:Nat) (r:P.Rd) (st:P.Stm) (w:World) (h:RdAt w B g r) (hne:r.threads≠[]) (hF:Few N r) (hN:N<10000) (hB:B≤w.heap.size) (ho:r.opn.length<10) :
  Calls Tryz.prog 151 #[.pointer (some ⟨g,0,none⟩),.agg (stmCells st)] w fun e w'=>e=.returned (.bool (P.ends r st).2)∧RdAt w' B g (P.ends r st).1∧BelowX B g w w':=by
 have hA:=h
 obtain⟨tv,ov,vs,h⟩:=h
 by_cases he:r.opn=[]
 ·have hov:ov=.slice none 0 0∨∃ k c,ov=.slice (some ⟨k,0,none⟩) 0 c:=by
   have:=h.opn
   rw[he] at this
   rcases this.2 with ⟨e,_⟩ | ⟨k,c,cur,e,_⟩
   ·exact .inl e
   ·exact .inr ⟨k,c,e⟩
  obtain⟨glt,gfr,g0,g1,g2,g3,g4⟩:=h.facts
  have HE:Hid (P.ends r st=(r,false)):=by unfold Hid;simp[P.ends,he]
  have hA':RdAt (w.alloc (.cells (stmCells st) 96)) B g r:=hA.below ((Below.refl _ _).alloc (Nat.le_refl _) _)
  clear hA h
  rcases hov with rfl | ⟨k,c,rfl⟩
  all_goals
   go_enter Tryz.func151,Tryz.ntmps151
   go_wp2
   go_ret
   rw[unhide HE]
   exact⟨rfl,hA',(BelowX.refl _ _ _).alloc hB _⟩
 ·obtain⟨os,o,hos⟩:=snoc_of r.opn he
  have hown:=h.opn
  rw[hos] at hown
  simp only[List.length_append,List.length_cons,List.length_nil,Nat.zero_add,List.map_append,List.map_cons,List.map_nil] at hown
  obtain⟨k,cap,rfl,hBk,hklt⟩:=hown.form (by omega)
  have hc:w.cell? ⟨k,os.length,none⟩=some (.int .i64 o):=by
   rw[hown.cellAt _ (by omega),List.getElem?_append_right (by simp)];simp
  obtain⟨glt,gfr,g0,g1,g2,g3,g4⟩:=h.facts
  have hol:os.length<10:=by rw[hos] at ho;simp at ho;omega
  have HE:Hid (P.ends r st=(P.put { r with opn:=os } { st with label:=o },true)):=by unfold Hid;simp[P.ends,hos]
  have HR:Hid (RdAt ((w.setCell ⟨g,4,none⟩ (.slice (some ⟨k,0,none⟩) os.length cap)).alloc (.cells (stmCells { st with label:=o }) 96)) B g { r with opn:=os }):=by
   have k2:=h.opn
   rw[hos] at k2
   simp only[List.length_append,List.length_cons,List.length_nil,Nat.zero_add,List.map_append,List.map_cons,List.map_nil] at k2
   have k3:=h.setG { r with opn:=os } (.slice (some ⟨k,0,none⟩) os.length cap) 4 (.slice (some ⟨k,0,none⟩) os.length cap) rfl (own_pop k2) rfl
   exact⟨tv,_,vs,k3.keep (fun j hj=>Below.heap_alloc _ _ _ hj)⟩
  have hB1:Hid (BelowX B g w ((w.setCell ⟨g,4,none⟩ (.slice (some ⟨k,0,none⟩) os.length cap)).alloc (.cells (stmCells { st with label:=o }) 96))) :=
   ((BelowX.refl _ _ _).setCell _).alloc (by simp;omega) _
  have hoc:os.length+1≤cap:=by
   rcases hown.2 with ⟨h',_⟩ | ⟨g',cap',cur,h',hb,hg,hnc,hcm,hcs,htake⟩
   ·simp at h'
   ·simp only[Value.slice.injEq] at h';omega
  clear hA h hown hos he ho
  simp only[stmCells]
  go_enter Tryz.func151,Tryz.ntmps151
  go_wp2_with (first
   | (go_at_call 153;refine (put_any B g N { r with opn:=os } { st with label:=o } _ (by exact HR.out) hne hF hN (by simp;omega)).mono ?_;rintro e w1 ⟨rfl,hr1,hb1⟩))
  go_ret
  rw[unhide HE]
  exact⟨rfl,hr1,hB1.out.trans (BelowX.of hb1)⟩
theorem Tryz.infoInt:(Tryz.prog.info? 3).map (fun i=>(i.zero,i.size,i.bytes))=some (some (.int .i64 0),1,8):=by kernel_rfl
theorem opn_mem {w W0 w1:World} {B g g1 cap1:Nat} {r:P.Rd} {tv ov:Value} {vs:List Value} {x:Int}
  (h:RdIn w B g r tv ov vs) (hk:∀ k,k<w.heap.size→W0.heap[k]?=w.heap[k]?) (hsz:w.heap.size≤W0.heap.size)
  (hown:w1.ownsRow B 3 1 (.slice (some ⟨g1,0,none⟩) (r.opn.length+1) cap1) (r.opn.length+1) (r.opn.map (Value.int .i64)++[.int .i64 x])) (hgrow:W0.grownBy w1 ov.ownBlock) :
  RdIn (w1.setCell ⟨g,4,none⟩ (.slice (some ⟨g1,0,none⟩) (r.opn.length+1) cap1)) B g { r with opn:=r.opn++[x] } tv (.slice (some ⟨g1,0,none⟩) (r.opn.length+1) cap1) vs∧(∀ k,k<W0.heap.size→ov.ownBlock≠some k→k≠g→(w1.setCell ⟨g,4,none⟩ (.slice (some ⟨g1,0,none⟩) (r.opn.length+1) cap1)).heap[k]?=W0.heap[k]?):=by
 have same:∀ k,k<w.heap.size→ov.ownBlock≠some k→w1.heap[k]?=w.heap[k]?:=fun k h1 h2=>by
  rw[hgrow.block k (by omega) (Ne.symm h2),hk k h1]
 have nt:∀ k,(∃ (c:Array Value) (e:TypeId),w.heap[k]?=some (Obj.cells c e (0,0))∧e≠3)→ov.ownBlock≠some k:=fun k ⟨c,e,hc,hne⟩=>own_ne_blk h.opn hc (Ne.symm hne)
 have keep:∀ k,k<w.heap.size→(∃ (c:Array Value) (e:TypeId),w.heap[k]?=some (Obj.cells c e (0,0))∧e≠3)→w1.heap[k]?=w.heap[k]?:=fun k h1 h2=>same k h1 (nt k h2)
 have h1:RdIn w1 B g { r with opn:=r.opn++[x] } tv (.slice (some ⟨g1,0,none⟩) (r.opn.length+1) cap1) vs→True:=fun _=>trivial
 have hg1:w1.heap[g]?=w.heap[g]?:=keep g h.lt ⟨_,_,h.cells,by decide⟩
 refine⟨⟨?_,?_,?_,?_⟩,fun k h1 h2 h3=>?_⟩
 ·have:=h.cells
  rw[← hg1] at this
  rw[setCell_block this];rfl
 ·refine ownsRow_keep h.threads (fun k hk'=>?_)
  obtain⟨c,hc⟩:=own_type h.threads hk'
  rw[Below.heap_setCell _ _ _ _ (fun e=>by simp at e;subst e;rw[h.cells] at hc;simp at hc)]
  exact keep k (h.threads.lt k hk').2 ⟨c,_,hc,by decide⟩
 ·have hh:=hown
  refine ownsRow_keep (by simpa using hh) (fun k hk'=>Below.heap_setCell _ _ _ _ (fun e=>?_))
  simp at e;subst e
  obtain⟨c,hc⟩:=own_type hown hk'
  rw[hg1,h.cells] at hc;simp at hc
 ·refine h.stmts.keep (fun v hv k hk'=>?_)
  obtain⟨n,xs,hv'⟩:=h.stmts.mem v hv
  obtain⟨c,hc⟩:=own_type hv' hk'
  rw[Below.heap_setCell _ _ _ _ (fun e=>by simp at e;subst e;rw[h.cells] at hc;simp at hc)]
  exact keep k (hv'.lt k hk').2 ⟨c,_,hc,by decide⟩
 ·rw[Below.heap_setCell _ _ _ _ h3,hgrow.block k h1 (Ne.symm h2)]
set_option maxHeartbeats 3200000 in
theorem branch_any (B g N:Nat) (r:P.Rd) (st:P.Stm) (w:World) (h:RdAt w B g r) (hne:r.threads≠[]) (hF:Few N r) (hN:N<10000) (hB:B≤w.heap.size) (ho:r.opn.length<2) (hi0:0≤r.ifs) (hi1:r.ifs<10000) :
  Calls Tryz.prog 152 #[.pointer (some ⟨g,0,none⟩),.agg (stmCells st)] w fun e w'=>e=.returned (.bool (P.branch r st).2)∧RdAt w' B g (P.branch r st).1∧BelowX B g w w':=by
 obtain⟨tv,ov,vs,h⟩:=h
 obtain⟨i0,hi,hz0,hz1,hz2⟩:=info_parts Tryz.infoInt
 have hov:∃ a c,ov=.slice a r.opn.length c:=by
  rcases h.opn.2 with ⟨e,h0⟩ | ⟨k,c,cur,e,_⟩
  ·exact⟨none,0,by rw[e,h0]⟩
  ·exact⟨_,c,e⟩
 obtain⟨oa,oc,rfl⟩:=hov
 obtain⟨glt,gfr,g0,g1,g2,g3,g4⟩:=h.facts
 have HE:Hid (P.branch r st=(P.put { r with ifs:=r.ifs+1,opn:=r.opn++[r.ifs+1] } { st with label:=r.ifs+1 },true)):=by
  unfold Hid;rw[P.branch,if_neg (by omega)]
 have k1:RdIn (((w.setCell ⟨g,3,none⟩ (.int .i64 (r.ifs+1))).alloc (.cells (stmCells { st with label:=r.ifs+1 }) 96))) B g { r with ifs:=r.ifs+1 } tv (.slice oa r.opn.length oc) vs :=
  (h.setG { r with ifs:=r.ifs+1 } (.slice oa r.opn.length oc) 3 (.int .i64 (r.ifs+1)) rfl h.opn rfl).keep (fun j hj=>Below.heap_alloc _ _ _ hj)
 have K1:=hide k1
 have HO:Hid ((((w.setCell ⟨g,3,none⟩ (.int .i64 (r.ifs+1))).alloc (.cells (stmCells { st with label:=r.ifs+1 }) 96)).drew.alloc (.cells #[.int .i64 (r.ifs+1)] 3)).ownsRow B 3 1 (.slice oa r.opn.length oc) r.opn.length (r.opn.map (Value.int .i64))):=(k1.opn.drew).alloc _
 have HN:Hid (∀ j u,[Value.int .i64 (r.ifs+1)][j]?=some u→(((w.setCell ⟨g,3,none⟩ (.int .i64 (r.ifs+1))).alloc (.cells (stmCells { st with label:=r.ifs+1 }) 96)).drew.alloc (.cells #[.int .i64 (r.ifs+1)] 3)).cell? ((⟨w.heap.size+1,0,none⟩:Addr).add j)=some u) :=
  World.news_of_block (cs:=#[.int .i64 (r.ifs+1)]) (t:=3) (fr:=(0,0)) (by have:=heap_alloc_new ((w.setCell ⟨g,3,none⟩ (.int .i64 (r.ifs+1))).alloc (.cells (stmCells { st with label:=r.ifs+1 }) 96)).drew (.cells #[.int .i64 (r.ifs+1)] 3);simpa using this)
 have hgne:some g≠(Value.slice oa r.opn.length oc).ownBlock:=Ne.symm (own_ne_blk k1.opn k1.cells (by decide))
 have eb:(((w.setCell ⟨g,3,none⟩ (.int .i64 (r.ifs+1))).alloc (.cells (stmCells { st with label:=r.ifs+1 }) 96)).drew.alloc (.cells #[.int .i64 (r.ifs+1)] 3)).heap[g]?=((w.setCell ⟨g,3,none⟩ (.int .i64 (r.ifs+1))).alloc (.cells (stmCells { st with label:=r.ifs+1 }) 96)).heap[g]?:=Below.heap_alloc _ _ _ k1.lt
 have HC:Hid ((((w.setCell ⟨g,3,none⟩ (.int .i64 (r.ifs+1))).alloc (.cells (stmCells { st with label:=r.ifs+1 }) 96)).drew.alloc (.cells #[.int .i64 (r.ifs+1)] 3)).cell? ⟨g,4,none⟩=some (.slice oa r.opn.length oc)):=by
  unfold Hid;rw[World.cell?_of_block (w:=((w.setCell ⟨g,3,none⟩ (.int .i64 (r.ifs+1))).alloc (.cells (stmCells { st with label:=r.ifs+1 }) 96))) eb];simp[World.cell?,k1.cells]
 have HF:Hid ((((w.setCell ⟨g,3,none⟩ (.int .i64 (r.ifs+1))).alloc (.cells (stmCells { st with label:=r.ifs+1 }) 96)).drew.alloc (.cells #[.int .i64 (r.ifs+1)] 3)).frozen? ⟨g,4,none⟩=false):=by
  unfold Hid;rw[World.frozen?_of_block (w:=((w.setCell ⟨g,3,none⟩ (.int .i64 (r.ifs+1))).alloc (.cells (stmCells { st with label:=r.ifs+1 }) 96))) eb];simp[World.frozen?,k1.cells]
 have fin:∀ gn cn w1,World.ownsRow w1 B 3 1 (.slice (some ⟨gn,0,none⟩) (r.opn.length+1) cn) (r.opn.length+1) (r.opn.map (Value.int .i64)++[.int .i64 (r.ifs+1)])→(((w.setCell ⟨g,3,none⟩ (.int .i64 (r.ifs+1))).alloc (.cells (stmCells { st with label:=r.ifs+1 }) 96)).drew.alloc (.cells #[.int .i64 (r.ifs+1)] 3)).grownBy w1 (Value.slice oa r.opn.length oc).ownBlock →
   RdAt (w1.setCell ⟨g,4,none⟩ (.slice (some ⟨gn,0,none⟩) (r.opn.length+1) cn)) B g { r with ifs:=r.ifs+1,opn:=r.opn++[r.ifs+1] }∧StmAt (w1.setCell ⟨g,4,none⟩ (.slice (some ⟨gn,0,none⟩) (r.opn.length+1) cn)) w.heap.size { st with label:=r.ifs+1 }∧BelowX B g w (w1.setCell ⟨g,4,none⟩ (.slice (some ⟨gn,0,none⟩) (r.opn.length+1) cn)):=fun gn cn w1 hown hgrow=>by
  obtain⟨m1,m2⟩:=opn_mem (W0:=(((w.setCell ⟨g,3,none⟩ (.int .i64 (r.ifs+1))).alloc (.cells (stmCells { st with label:=r.ifs+1 }) 96)).drew.alloc (.cells #[.int .i64 (r.ifs+1)] 3))) k1 (fun k hk=>Below.heap_alloc _ _ _ hk) (by simp) hown hgrow
  have hs:StmAt ((w.setCell ⟨g,3,none⟩ (.int .i64 (r.ifs+1))).alloc (.cells (stmCells { st with label:=r.ifs+1 }) 96)) w.heap.size { st with label:=r.ifs+1 }:=by
   have:=StmAt.new (w.setCell ⟨g,3,none⟩ (.int .i64 (r.ifs+1))) { st with label:=r.ifs+1 }
   simpa using this
  refine⟨⟨_,_,_,m1⟩,(StmAt.alloc (w:=((w.setCell ⟨g,3,none⟩ (.int .i64 (r.ifs+1))).alloc (.cells (stmCells { st with label:=r.ifs+1 }) 96)).drew) hs _).of_block (m2 w.heap.size (by simp;omega) (own_ne_blk k1.opn hs (by decide)) (by omega)),?_⟩
  refine BelowX.setCell (BelowX.grown ((((((BelowX.refl B g w).setCell _).alloc (by simp;omega) _).drew).alloc (by simp;omega) _)) hgrow (by simp;omega) (fun k hk=>(k1.opn.lt k hk).1)) _
 have FIN:=hide fin
 clear k1 h eb fin
 simp only[stmCells]
 go_enter Tryz.func152,Tryz.ntmps152
 go_wp2_with fail
 go_region_law (refine step_append_lies _ rfl (.tmp 27) (.tmp 32) 32 rfl B 3 i0 (.int .i64 0) 1 8 Tryz.underlying32 hi hz0 hz1 hz2 rfl (by decide) (.slice oa r.opn.length oc) r.opn.length (r.opn.map (Value.int .i64)) (by simp[Act.eval]) (by exact HO.out) ⟨w.heap.size+1,0,none⟩ 1 1 [.int .i64 (r.ifs+1)] (by simp[Act.eval]) rfl (by exact HN.out) (by simp[Value.oneCell']) (by decide) (by unfold maxLen;omega) (by omega) (by simp;omega) (w.heap.size+2) (by simp) ?_;intro gn cn w1 hown1 hgrow hat hlt1;have c1:=(hgrow.cell_far ⟨g,4,none⟩ (by simp;omega) hgne).trans HC.out;have f1:=(hgrow.frozen_far ⟨g,4,none⟩ (by simp;omega) hgne).trans HF.out;have hwl:w.heap.size+2≤w1.heap.size:=by have:=hgrow.size;simp at this;omega)
 all_goals
  obtain⟨q1,q2,q3⟩:=FIN.out _ _ _ hown1 hgrow
  have Q1:=hide q1
  have Q2:=hide q2
  clear q1 q2 hown1 hgrow
  go_wp2_with (first
   | (refine wpList_load_stm (.tmp 3) rfl rfl w.heap.size { st with label:=r.ifs+1 } rfl (by exact Q2.out) ?_)
   | (go_at_call 153;refine (put_any B g N { r with ifs:=r.ifs+1,opn:=r.opn++[r.ifs+1] } { st with label:=r.ifs+1 } _ (by exact Q1.out) hne hF hN (by simp;omega)).mono ?_;rintro e w2 ⟨rfl,hr1,hb1⟩))
  go_ret
  rw[unhide HE]
  exact⟨rfl,hr1,q3.trans (BelowX.of hb1)⟩
theorem Tryz.infoThr:(Tryz.prog.info? 88).map (fun i=>(i.zero,i.size,i.bytes))=some (some (.agg #[.int .i64 0,.int .i64 0,.slice none 0 0]),3,40):=by kernel_rfl
theorem thr_mem {w W0 w1:World} {B g g1 cap1:Nat} {r:P.Rd} {tv ov:Value} {vs:List Value} {b l:Int}
  (h:RdIn w B g r tv ov vs) (hk:∀ k,k<w.heap.size→W0.heap[k]?=w.heap[k]?) (hsz:w.heap.size≤W0.heap.size)
  (hown:w1.ownsRow B 88 3 (.slice (some ⟨g1,0,none⟩) (r.threads.length+1) cap1) (r.threads.length+1) (thrCells r.threads vs++[.int .i64 b,.int .i64 l,.slice none 0 0])) (hgrow:W0.grownBy w1 tv.ownBlock) :
  RdIn ((w1.setCell ⟨g,0,none⟩ (.slice (some ⟨g1,0,none⟩) (r.threads.length+1) cap1)).setCell ⟨g,2,none⟩ (.int .i64 0)) B g { r with threads:=r.threads++[⟨b,l,[]⟩],count:=0 } (.slice (some ⟨g1,0,none⟩) (r.threads.length+1) cap1) ov (vs++[.slice none 0 0]):=by
 have nt:∀ k,(∃ (c:Array Value) (e:TypeId),w.heap[k]?=some (Obj.cells c e (0,0))∧e≠88)→tv.ownBlock≠some k:=fun k ⟨c,e,hc,hne⟩=>own_ne_blk h.threads hc (Ne.symm hne)
 have keep:∀ k,k<w.heap.size→(∃ (c:Array Value) (e:TypeId),w.heap[k]?=some (Obj.cells c e (0,0))∧e≠88)→w1.heap[k]?=w.heap[k]?:=fun k h1 h2=>by
  rw[hgrow.block k (by omega) (Ne.symm (nt k h2)),hk k h1]
 have hg1:w1.heap[g]?=w.heap[g]?:=keep g h.lt ⟨_,_,h.cells,by decide⟩
 have out:∀ k,k≠g→((w1.setCell ⟨g,0,none⟩ (.slice (some ⟨g1,0,none⟩) (r.threads.length+1) cap1)).setCell ⟨g,2,none⟩ (.int .i64 0)).heap[k]?=w1.heap[k]?:=fun k hk'=>by
  rw[Below.heap_setCell _ _ _ _ hk',Below.heap_setCell _ _ _ _ hk']
 refine⟨?_,?_,?_,?_⟩
 ·have:=h.cells
  rw[← hg1] at this
  rw[setCell_block (setCell_block this _ _)];rfl
 ·have hh:=hown
  rw[← thrCells_snoc r.threads vs ⟨b,l,[]⟩ (.slice none 0 0) h.stmts.length] at hh
  refine ownsRow_keep (by simpa using hh) (fun k hk'=>out k (fun e=>?_))
  subst e
  obtain⟨c,hc⟩:=own_type hown hk'
  rw[hg1,h.cells] at hc;simp at hc
 ·refine ownsRow_keep h.opn (fun k hk'=>?_)
  obtain⟨c,hc⟩:=own_type h.opn hk'
  rw[out k (fun e=>by subst e;rw[h.cells] at hc;simp at hc)]
  exact keep k (h.opn.lt k hk').2 ⟨c,_,hc,by decide⟩
 ·rw[StmtsAt_snoc]
  refine⟨h.stmts.keep (fun v hv k hk'=>?_),World.ownsRow_nil _ _ _ _,fun u _=>?_⟩
  ·obtain⟨n,xs,hv'⟩:=h.stmts.mem v hv
   obtain⟨c,hc⟩:=own_type hv' hk'
   rw[out k (fun e=>by subst e;rw[h.cells] at hc;simp at hc)]
   exact keep k (hv'.lt k hk').2 ⟨c,_,hc,by decide⟩
  ·cases hu:u.ownBlock with
   | none=>exact .inl rfl
   | some k=>right;simp[Value.ownBlock]
theorem beginD_full (r:P.Rd) (b l:Int) (h:4≤r.threads.length∨0<r.opn.length):P.beginD r b l=(r,false):=by
 unfold P.beginD;exact if_pos h
theorem digit_val (x:UInt8) (n:Int) (w:World) :
  Calls Tryz.prog 146 #[.int .u8 (x.toNat:Int),.int .i64 n] w fun e w'=>e=.returned (.tuple #[.int .i64 (P.digit x n).1,.bool (P.digit x n).2])∧w'=w :=
 digit_any _ _ _ (by omega) (by have:=UInt8.toNat_lt x;omega)
theorem begins_words (r:P.Rd) (ws:List (List UInt8)) (h:¬ (∃ a c,ws=[a,[c]])):P.begins r ws=(r,false):=by
 unfold P.begins
 split
 ·rfl
 ·split
  ·rename_i a c
   exact absurd ⟨a,c,rfl⟩ h
  ·rfl
set_option maxHeartbeats 3200000 in
theorem beginD_any (B g:Nat) (r:P.Rd) (b l:Int) (w:World) (h:RdAt w B g r) (hB:B≤w.heap.size) (ht5:r.threads.length<6) (ho9:r.opn.length<10) :
  Calls Tryz.prog 138 #[.pointer (some ⟨g,0,none⟩),.int .i64 b,.int .i64 l] w fun e w'=>e=.returned (.bool (P.beginD r b l).2)∧RdAt w' B g (P.beginD r b l).1∧BelowX B g w w':=by
 have hA:=hide h
 obtain⟨tv,ov,vs,h⟩:=h
 obtain⟨i0,hi,hz0,hz1,hz2⟩:=info_parts Tryz.infoThr
 have hov:∃ a c,ov=.slice a r.opn.length c:=by
  rcases h.opn.2 with ⟨e,h0⟩ | ⟨k,c,cur,e,_⟩
  ·exact⟨none,0,by rw[e,h0]⟩
  ·exact⟨_,c,e⟩
 obtain⟨oa,oc,rfl⟩:=hov
 have htv:∃ a c,tv=.slice a r.threads.length c:=by
  rcases h.threads.2 with ⟨e,h0⟩ | ⟨k,c,cur,e,_⟩
  ·exact⟨none,0,by rw[e,h0]⟩
  ·exact⟨_,c,e⟩
 obtain⟨ta,tc,rfl⟩:=htv
 obtain⟨glt,gfr,g0,g1,g2,g3,g4⟩:=h.facts
 by_cases h4:4≤r.threads.length
 ·have HE:Hid (P.beginD r b l=(r,false)):=beginD_full r _ _ (Or.inl h4)
  have h4':(4:Int)≤(r.threads.length:Int):=by omega
  clear h
  go_enter Tryz.func138,Tryz.ntmps138
  go_wp2
  go_ret
  rw[unhide HE]
  exact⟨rfl,hA.out,BelowX.refl _ _ _⟩
 have h4':¬ (4:Int)≤(r.threads.length:Int):=by omega
 have h4d:decide ((4:Int)≤(r.threads.length:Int))=false:=by simp;omega
 by_cases h0:0<r.opn.length
 ·have HE:Hid (P.beginD r b l=(r,false)):=beginD_full r _ _ (Or.inr h0)
  have h0':(0:Int)<(r.opn.length:Int):=by omega
  clear h
  go_enter Tryz.func138,Tryz.ntmps138
  go_wp2
  go_ret
  rw[unhide HE]
  exact⟨rfl,hA.out,BelowX.refl _ _ _⟩
 have h0':¬ (0:Int)<(r.opn.length:Int):=by omega
 have HE:Hid (P.beginD r b l=({ r with threads:=r.threads++[⟨b,l,[]⟩],count:=0 },true)):=by
  unfold Hid P.beginD;rw[if_neg (by omega)]
 have HO:Hid ((w.alloc (.cells #[Value.int .i64 b,.int .i64 l,.slice none 0 0] 88)).ownsRow B 88 3 (.slice ta r.threads.length tc) r.threads.length (thrCells r.threads vs)):=h.threads.alloc _
 have HN:Hid (∀ j u,[Value.int .i64 b,.int .i64 l,.slice none 0 0][j]?=some u→(w.alloc (.cells #[Value.int .i64 b,.int .i64 l,.slice none 0 0] 88)).cell? ((⟨w.heap.size,0,none⟩:Addr).add j)=some u) :=
  World.news_of_block (cs:=#[Value.int .i64 b,.int .i64 l,.slice none 0 0]) (t:=88) (fr:=(0,0)) (by have:=heap_alloc_new w (.cells #[Value.int .i64 b,.int .i64 l,.slice none 0 0] 88);simpa using this)
 have hgne:some g≠(Value.slice ta r.threads.length tc).ownBlock:=Ne.symm (own_ne_blk h.threads h.cells (by decide))
 have eb:(w.alloc (.cells #[Value.int .i64 b,.int .i64 l,.slice none 0 0] 88)).heap[g]?=w.heap[g]?:=Below.heap_alloc _ _ _ h.lt
 have HC:Hid (∀ i,(w.alloc (.cells #[Value.int .i64 b,.int .i64 l,.slice none 0 0] 88)).cell? ⟨g,i,none⟩=w.cell? ⟨g,i,none⟩):=fun i=>World.cell?_of_block (w:=w) (a:=⟨g,i,none⟩) eb
 have HF:Hid (∀ i,(w.alloc (.cells #[Value.int .i64 b,.int .i64 l,.slice none 0 0] 88)).frozen? ⟨g,i,none⟩=false):=fun i=>(World.frozen?_of_block (w:=w) (a:=⟨g,i,none⟩) eb).trans (gfr i)
 have fin:∀ gn cn w1,World.ownsRow w1 B 88 3 (.slice (some ⟨gn,0,none⟩) (r.threads.length+1) cn) (r.threads.length+1) (thrCells r.threads vs++[Value.int .i64 b,.int .i64 l,.slice none 0 0])→(w.alloc (.cells #[Value.int .i64 b,.int .i64 l,.slice none 0 0] 88)).grownBy w1 (Value.slice ta r.threads.length tc).ownBlock →
   RdAt ((w1.setCell ⟨g,0,none⟩ (.slice (some ⟨gn,0,none⟩) (r.threads.length+1) cn)).setCell ⟨g,2,none⟩ (.int .i64 0)) B g { r with threads:=r.threads++[⟨b,l,[]⟩],count:=0 }∧BelowX B g w ((w1.setCell ⟨g,0,none⟩ (.slice (some ⟨gn,0,none⟩) (r.threads.length+1) cn)).setCell ⟨g,2,none⟩ (.int .i64 0)):=fun gn cn w1 hown hgrow=>by
  refine⟨⟨_,_,_,thr_mem (W0:=(w.alloc (.cells #[Value.int .i64 b,.int .i64 l,.slice none 0 0] 88))) h (fun k hk=>Below.heap_alloc _ _ _ hk) (by simp) hown hgrow⟩,?_⟩
  refine BelowX.setCell (BelowX.setCell (BelowX.grown (((BelowX.refl B g w).alloc hB _)) hgrow (by simp;omega) (fun k hk=>(h.threads.lt k hk).1)) _) _
 have FIN:=hide fin
 clear h eb fin hA
 go_enter Tryz.func138,Tryz.ntmps138
 go_wp2_with (first | (at_builtin;refine wpList_append_lies _ rfl (.tmp 25) (.tmp 29) 46 rfl B 88 i0 (.agg #[.int .i64 0,.int .i64 0,.slice none 0 0]) 3 40 Tryz.underlying46 hi hz0 hz1 hz2 rfl (by decide) (.slice ta r.threads.length tc) r.threads.length (thrCells r.threads vs) rfl (by exact HO.out) ⟨w.heap.size,0,none⟩ 1 1 [Value.int .i64 b,.int .i64 l,.slice none 0 0] rfl rfl (by exact HN.out) (by simp[Value.oneCell']) (by decide) (by unfold maxLen;omega) (by omega) (by simp;omega) _ rfl ?_;intro gn cn w1 hown1 hgrow hat hlt1;have c0:=(hgrow.cell_far ⟨g,0,none⟩ (by simp;omega) hgne).trans ((HC.out 0).trans g0);have c2:=(hgrow.cell_far ⟨g,2,none⟩ (by simp;omega) hgne).trans ((HC.out 2).trans g2);have f0:=(hgrow.frozen_far ⟨g,0,none⟩ (by simp;omega) hgne).trans (HF.out 0);have f2:=(hgrow.frozen_far ⟨g,2,none⟩ (by simp;omega) hgne).trans (HF.out 2);obtain⟨q1,q3⟩:=FIN.out _ _ _ hown1 hgrow;have Q1:=hide q1;clear q1 hown1 hgrow))
 go_ret
 rw[unhide HE]
 exact⟨rfl,Q1.out,q3⟩
set_option maxHeartbeats 3200000 in
theorem begins_any (B g b off n cap:Nat) (r:P.Rd) (ws:List ByteArray) (w:World) (h:RdAt w B g r) (hw:WordsAt w b off ws) (hn:ws.length=n) (hnb:n<10000) (hB:B≤w.heap.size) (ht5:r.threads.length<6) (ho9:r.opn.length<10) :
  Calls Tryz.prog 99 #[.pointer (some ⟨g,0,none⟩),.slice (some ⟨b,off,none⟩) n cap,.int .i64 r.line] w fun e w'=>e=.returned (.bool (P.begins r (ws.map ByteArray.toList)).2)∧RdAt w' B g (P.begins r (ws.map ByteArray.toList)).1∧BelowX B g w w':=by
 have hA:=hide h
 by_cases h2:n=2
 case neg =>
  have HE:Hid (P.begins r (ws.map ByteArray.toList)=(r,false)):=begins_words r _ (by
   rintro ⟨a,c,e⟩
   have:=congrArg List.length e
   simp at this;omega)
  have hx:((n:Int) != 2)=true:=by rw[bne_iff_ne];omega
  clear h hw
  go_enter Tryz.func99,Tryz.ntmps99
  go_wp2
  go_ret
  rw[unhide HE]
  exact⟨rfl,hA.out,BelowX.refl _ _ _⟩
 subst h2
 match ws,hw,hn with
 | [a,c],hw,hn =>
 clear hn
 obtain⟨_,hblt,hw1⟩:=hw.head
 obtain⟨hd1,_,_⟩:=hw1.head
 by_cases hc1:c.size=1
 case neg =>
  have HE:Hid (P.begins r [a.toList,c.toList]=(r,false)):=begins_words r _ (by
   rintro ⟨a',c',e⟩
   have:=size_toList c
   simp at e
   rw[e.2] at this;simp at this;omega)
  have hx:((c.size:Int) != 1)=true:=by rw[bne_iff_ne];omega
  clear h hw
  go_enter Tryz.func99,Tryz.ntmps99
  go_wp2
  go_ret
  simp only[List.map_cons,List.map_nil]
  rw[unhide HE]
  exact⟨rfl,hA.out,BelowX.refl _ _ _⟩
 have hcb:c[0].toNat<256:=UInt8.toNat_lt _
 have hcl:=toList_one c hc1
 have HD:Hid (P.begins r [a.toList,c.toList]=if (P.digit c[0] 2).2 then P.beginD r (P.digit c[0] 2).1 r.line else (r,false)):=by
  unfold Hid;rw[hcl,P.begins_D]
 cases hdg:(P.digit c[0] 2).2
 ·have HE:Hid (P.begins r [a.toList,c.toList]=(r,false)):=by
   unfold Hid;rw[HD.out,hdg];rfl
  clear h hw hcl
  go_enter Tryz.func99,Tryz.ntmps99
  go_wp2_with (first | (go_at_call 146;refine (digit_val _ _ _).mono ?_;rintro e w' ⟨rfl,rfl⟩))
  all_goals go_ret
  all_goals try simp only[List.map_cons,List.map_nil]
  all_goals rw[unhide HE]
  all_goals exact⟨rfl,hA.out,BelowX.refl _ _ _⟩
 ·have HE:Hid (P.begins r [a.toList,c.toList]=P.beginD r (P.digit c[0] 2).1 r.line):=by
   unfold Hid;rw[HD.out,hdg];rfl
  clear h hw hcl HD
  go_enter Tryz.func99,Tryz.ntmps99
  go_wp2_with (first | (go_at_call 146;refine (digit_val _ _ _).mono ?_;rintro e w' ⟨rfl,rfl⟩) | (go_at_call 138;refine (beginD_any B g r _ _ _ hA.out hB ht5 ho9).mono ?_;rintro e w1 ⟨rfl,hr1,hb1⟩))
  all_goals go_ret
  all_goals try simp only[List.map_cons,List.map_nil]
  all_goals rw[unhide HE]
  all_goals exact⟨rfl,hr1,hb1⟩
end Go.Proofs.YtgceflcbckjjiaaGreatDoor
