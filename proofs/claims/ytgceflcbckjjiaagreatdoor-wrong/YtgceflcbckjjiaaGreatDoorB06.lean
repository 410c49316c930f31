import Derived.Test.YtgceflcbckjjiaaGreatDoorB05
set_option linter.unusedVariables false
set_option linter.unusedSimpArgs false
namespace Go.Proofs.YtgceflcbckjjiaaGreatDoor
open Go Go.RowKit
set_option maxRecDepth 100000
set_option maxHeartbeats 3200000 in
theorem put_walk (B g bt n capT:Nat) (st:P.Stm) (sv:Value) (m:Nat) (xs:List Value) (w:World) (hg:w.cell? ⟨g,0,none⟩=some (.slice (some ⟨bt,0,none⟩) (n+1) capT))
  (hn:n<5) (hm:m<10000) (hc:w.cell? ⟨bt,n*3+2,none⟩=some sv) (hf:w.frozen? ⟨bt,n*3+2,none⟩=false)
  (hown:w.ownsRow B 96 11 sv m xs) (hne:some bt≠sv.ownBlock) (hneg:some g≠sv.ownBlock) (hB:B≤w.heap.size) (hglt:g<w.heap.size) (hblt:bt<w.heap.size) (Q:Ending→World→Prop)
  (hQ:∀ g1 cap1 w1,w1.ownsRow B 96 11 (.slice (some ⟨g1,0,none⟩) (m+1) cap1) (m+1) (xs++(stmCells st).toList)→((w.alloc (.cells (stmCells st) 96)).drew.alloc (.cells (stmCells st) 96)).grownBy w1 sv.ownBlock→(sv.ownBlock=some g1∨g1=w.heap.size+2) →
   Q (.returned (.tuple #[])) (w1.setCell ⟨bt,n*3+2,none⟩ (.slice (some ⟨g1,0,none⟩) (m+1) cap1))) :
  Calls Tryz.prog 153 #[.pointer (some ⟨g,0,none⟩),.agg (stmCells st)] w Q:=by
 obtain⟨i0,hi,hz0,hz1,hz2⟩:=info_parts Tryz.infoStm
 have hown2:((w.alloc (.cells (stmCells st) 96)).drew.alloc (.cells (stmCells st) 96)).ownsRow B 96 11 sv m xs:=((hown.alloc _).drew).alloc _
 have HO:=hide hown2
 have hnews:∀ j u,(stmCells st).toList[j]?=some u→((w.alloc (.cells (stmCells st) 96)).drew.alloc (.cells (stmCells st) 96)).cell? ((⟨w.heap.size+1,0,none⟩:Addr).add j)=some u:=World.news_of_block (t:=96) (fr:=(0,0)) (by have:=heap_alloc_new (w.alloc (.cells (stmCells st) 96)).drew (.cells (stmCells st) 96);simpa using this)
 have HN:=hide hnews
 have eb:∀ k,k<w.heap.size→((w.alloc (.cells (stmCells st) 96)).drew.alloc (.cells (stmCells st) 96)).heap[k]?=w.heap[k]?:=fun k hk=>by
  rw[Below.heap_alloc _ _ _ (by simp;omega)]
  exact Below.heap_alloc _ _ _ hk
 have HC:Hid (((w.alloc (.cells (stmCells st) 96)).drew.alloc (.cells (stmCells st) 96)).cell? ⟨bt,n*3+2,none⟩=some sv):=(World.cell?_of_block (w:=w) (eb bt hblt)).trans hc
 have HF:Hid (((w.alloc (.cells (stmCells st) 96)).drew.alloc (.cells (stmCells st) 96)).frozen? ⟨bt,n*3+2,none⟩=false):=(World.frozen?_of_block (w:=w) (eb bt hblt)).trans hf
 have HG:Hid (((w.alloc (.cells (stmCells st) 96)).drew.alloc (.cells (stmCells st) 96)).cell? ⟨g,0,none⟩=some (.slice (some ⟨bt,0,none⟩) (n+1) capT)):=(World.cell?_of_block (w:=w) (eb g hglt)).trans hg
 have HQ:=hide hQ
 clear hown2 hnews eb hQ hown
 have hin:((n:Int)<(n:Int)+1):=by omega
 have hn0:(0:Int)≤(n:Int):=by omega
 simp only[stmCells]
 go_enter Tryz.func153,Tryz.ntmps153
 go_wp2_with fail
 go_region_law (refine step_append_lies _ rfl (.tmp 25) (.tmp 27) 86 rfl B 96 i0 (.agg (stmCells P.Stm.zero)) 11 88 Tryz.underlying86 hi hz0 hz1 hz2 rfl (by decide) sv m xs (by simp[Act.eval]) (by exact HO.out) ⟨w.heap.size+1,0,none⟩ 1 1 (stmCells st).toList (by simp[Act.eval]) rfl (by exact HN.out) (by simp[stmCells,Value.oneCell']) (by decide) (by unfold maxLen;omega) (by omega) (by simp;omega) (w.heap.size+2) (by simp) ?_;intro g1 cap1 w1 hown1 hgrow hat hlt1;have c1:=(hgrow.cell_far ⟨bt,n*3+2,none⟩ (by simp;omega) hne).trans HC.out;have f1:=(hgrow.frozen_far ⟨bt,n*3+2,none⟩ (by simp;omega) hne).trans HF.out;have d1:=(hgrow.cell_far ⟨g,0,none⟩ (by simp;omega) hneg).trans HG.out)
 all_goals go_end0
 all_goals exact HQ.out _ _ _ hown1 hgrow hat
def Few (N:Nat) (r:P.Rd):Prop:=r.threads.length≤4∧∀ t∈r.threads,t.stmts.length≤N
theorem put_any (B g N:Nat) (r:P.Rd) (st:P.Stm) (w:World) (h:RdAt w B g r) (hne:r.threads≠[]) (hF:Few N r) (hN:N<10000) (hB:B≤w.heap.size) :
  Calls Tryz.prog 153 #[.pointer (some ⟨g,0,none⟩),.agg (stmCells st)] w fun e w'=>e=.returned (.tuple #[])∧RdAt w' B g (P.put r st)∧Below B w w':=by
 obtain⟨tv,ov,vs,h⟩:=h
 obtain⟨ts,t,hr⟩:=snoc_of r.threads hne
 have hl:=h.stmts.length
 have hvne:vs≠[]:=by intro e;subst e;rw[hr] at hl;simp at hl
 obtain⟨vs0,sv,rfl⟩:=snoc_of vs hvne
 have hlen:r.threads.length=ts.length+1:=by rw[hr];simp
 have hthr:=h.threads
 rw[hlen] at hthr
 obtain⟨bt,capT,rfl,_,hbtlt⟩:=hthr.form (by omega)
 have hst:=h.stmts
 rw[hr,StmtsAt_snoc] at hst
 obtain⟨hs0,hsv,hpw⟩:=hst
 have hlv:vs0.length=ts.length:=hs0.length
 have hc:w.cell? ⟨bt,ts.length*3+2,none⟩=some sv:=by
  rw[hthr.cellAt _ (by omega),hr,thrCells_snoc _ _ _ _ hlv,List.getElem?_append_right (by rw[thrCells_length _ _ hlv];omega),thrCells_length _ _ hlv,show ts.length*3+2-ts.length*3=2 by omega]
  rfl
 have hg0:w.cell? ⟨g,0,none⟩=some (.slice (some ⟨bt,0,none⟩) (ts.length+1) capT):=by
  simp[World.cell?,h.cells]
 have hm:t.stmts.length≤N:=hF.2 t (by rw[hr];simp)
 obtain⟨cur,hcur⟩:=own_type hthr (k:=bt) rfl
 refine put_walk B g bt ts.length capT st sv t.stmts.length (flatStm t.stmts) w hg0 (by have:=hF.1;omega) (by omega) hc (hthr.frozenAt _) hsv (Ne.symm (own_ne_blk hsv hcur (by decide))) (Ne.symm (own_ne_blk hsv h.cells (by decide))) hB h.lt hbtlt _ ?_
 intro g1 cap1 w1 hown1 hgrow hat
 refine⟨rfl,put_mem (W0:=(w.alloc (.cells (stmCells st) 96)).drew.alloc (.cells (stmCells st) 96)) hr rfl rfl h (fun k hk=>?_) (by simp;omega) rfl rfl rfl hB hown1 hgrow (by rcases hat with ha | ha;exact .inl ha;right;simp;omega)⟩
 rw[Below.heap_alloc _ _ _ (by simp;omega)]
 exact Below.heap_alloc _ _ _ hk
theorem RdIn.setG {w:World} {B g:Nat} {r:P.Rd} {tv ov:Value} {vs:List Value} (r':P.Rd) (ov':Value) (h:RdIn w B g r tv ov vs) (i:Nat) (u:Value) (ht:r'.threads=r.threads)
  (ho:w.ownsRow B 3 1 ov' r'.opn.length (r'.opn.map (Value.int .i64)))
  (he:(#[tv,.int .i64 r.most,.int .i64 r.count,.int .i64 r.ifs,ov]:Array Value).setIfInBounds i u=#[tv,.int .i64 r'.most,.int .i64 r'.count,.int .i64 r'.ifs,ov']) :
  RdIn (w.setCell ⟨g,i,none⟩ u) B g r' tv ov' vs:=by
 have keep:∀ k,(∃ (c:Array Value) (e:TypeId),w.heap[k]?=some (Obj.cells c e (0,0))∧e≠106)→(w.setCell ⟨g,i,none⟩ u).heap[k]?=w.heap[k]?:=fun k ⟨c,e,hc,hne⟩ =>
  Below.heap_setCell _ _ _ _ (fun ek=>by simp at ek;subst ek;rw[h.cells] at hc;simp at hc;exact hne hc.2.symm)
 refine⟨by rw[setCell_block h.cells,he],?_,?_,?_⟩
 ·rw[ht]
  exact ownsRow_keep h.threads (fun k hk=>by obtain⟨c,hc⟩:=own_type h.threads hk;exact keep k ⟨c,_,hc,by decide⟩)
 ·exact ownsRow_keep ho (fun k hk=>by obtain⟨c,hc⟩:=own_type ho hk;exact keep k ⟨c,_,hc,by decide⟩)
 ·rw[ht]
  exact h.stmts.keep (fun v hv k hk=>by
   obtain⟨n,xs,hv'⟩:=h.stmts.mem v hv
   obtain⟨c,hc⟩:=own_type hv' hk;exact keep k ⟨c,_,hc,by decide⟩)
theorem RdIn.facts {w:World} {B g:Nat} {r:P.Rd} {tv ov:Value} {vs:List Value} (h:RdIn w B g r tv ov vs):g<w.heap.size∧(∀ i,w.frozen? ⟨g,i,none⟩=false)∧w.cell? ⟨g,0,none⟩=some tv∧w.cell? ⟨g,1,none⟩=some (.int .i64 r.most) ∧
  w.cell? ⟨g,2,none⟩=some (.int .i64 r.count)∧w.cell? ⟨g,3,none⟩=some (.int .i64 r.ifs)∧w.cell? ⟨g,4,none⟩=some ov:=by
 refine⟨h.lt,fun i=>?_,?_,?_,?_,?_,?_⟩<;>simp[World.cell?,World.frozen?,h.cells]
theorem own_pop {w:World} {B:Nat} {e:TypeId} {k n cap:Nat} {xs:List Value} {x:Value} (h:w.ownsRow B e 1 (.slice (some ⟨k,0,none⟩) (n+1) cap) (n+1) (xs++[x])):w.ownsRow B e 1 (.slice (some ⟨k,0,none⟩) n cap) n xs:=by
 have hl:=h.1
 rcases h.2 with ⟨h',_⟩ | ⟨g',cap',cur,h',hb,hg,hnc,hcm,hcs,htake⟩
 ·simp at h'
 ·simp only[Value.slice.injEq,Option.some.injEq,Addr.mk.injEq,and_true,true_and] at h'
  obtain⟨rfl,rfl⟩:=h'
  refine⟨by simp at hl;omega,.inr ⟨k,cap,cur,rfl,hb,hg,by omega,hcm,hcs,?_⟩⟩
  have hx:xs.length=n:=by simp at hl;omega
  have e:cur.toList.take n=(cur.toList.take ((n+1)*1)).take n:=by rw[List.take_take];congr 1;omega
  rw[Nat.mul_one,e,htake,← hx]
  simp
end Go.Proofs.YtgceflcbckjjiaaGreatDoor
namespace Go.Proofs.YtgceflcbckjjiaaGreatDoor
open Go Go.RowKit
structure BelowX (B g:Nat) (w w':World):Prop where
 os:w'.os=w.os
 tape:w'.tape=w.tape
 output:w'.output=w.output
 size:w.heap.size≤w'.heap.size
 block:∀ k,k<B→k≠g→w'.heap[k]?=w.heap[k]?
theorem BelowX.refl (B g:Nat) (w:World):BelowX B g w w:=⟨rfl,rfl,rfl,Nat.le_refl _,fun _ _ _=>rfl⟩
theorem BelowX.of {B g:Nat} {w w':World} (h:Below B w w'):BelowX B g w w':=⟨h.os,h.tape,h.output,h.size,fun k hk _=>h.block k hk⟩
theorem BelowX.trans {B g:Nat} {a b c:World} (h:BelowX B g a b) (k:BelowX B g b c):BelowX B g a c :=
 ⟨k.os.trans h.os,k.tape.trans h.tape,k.output.trans h.output,Nat.le_trans h.size k.size,fun i hi hg=>(k.block i hi hg).trans (h.block i hi hg)⟩
theorem BelowX.drew {B g:Nat} {a w:World} (h:BelowX B g a w):BelowX B g a w.drew:=⟨h.os,h.tape,h.output,h.size,h.block⟩
theorem BelowX.alloc {B g:Nat} {a w:World} (h:BelowX B g a w) (hB:B≤w.heap.size) (o:Obj):BelowX B g a (w.alloc o) :=
 h.trans (BelowX.of ((Below.refl _ _).alloc hB _))
theorem BelowX.setCell {B g:Nat} {a w:World} (h:BelowX B g a w) {i:Nat} (u:Value):BelowX B g a (w.setCell ⟨g,i,none⟩ u) :=
 h.trans ⟨rfl,rfl,rfl,by simp[World.setCell],fun k _ hg=>Below.heap_setCell _ _ _ _ hg⟩
theorem BelowX.grown {B g:Nat} {a w w':World} {row:Option Nat} (h:BelowX B g a w) (hg:w.grownBy w' row) (hB:B≤w.heap.size) (hr:∀ k,row=some k→B≤k):BelowX B g a w' :=
 h.trans (BelowX.of ((Below.refl _ _).grown hg hB hr))
theorem BelowX.below {B B' g:Nat} {w w':World} (h:BelowX B g w w') (h1:B'≤B) (h2:B'≤g):Below B' w w':=⟨h.os,h.tape,h.output,h.size,fun k hk=>h.block k (by omega) (by omega)⟩
end Go.Proofs.YtgceflcbckjjiaaGreatDoor
