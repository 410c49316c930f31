import Derived.Test.YtkmebkbpfmoeaaaGreatH15
set_option linter.unusedVariables false
set_option linter.unusedSimpArgs false
set_option maxHeartbeats 12800000
namespace Go.Proofs.YtkmebkbpfmoeaaaGreat
open Go Go.RowKit
set_option maxRecDepth 100000
namespace Q
def mixI (f:Nat→Int) (n k:Nat):List Int:=(List.range n).map fun j=>if j<k then f j else 0
theorem zJL (f:Nat→Int) (n:Nat):mixI f n 0=List.replicate n 0:=by
 unfold mixI
 apply List.ext_getElem<;>simp
theorem zJC (f:Nat→Int) (n k:Nat):(mixI f n k).length=n:=by simp[mixI]
theorem zJM (f:Nat→Int) (n:Nat):mixI f n n=(List.range n).map f:=by
 unfold mixI
 apply List.map_congr_left
 intro j hj;simp at hj;simp[hj]
theorem zKf (f:Nat→Int) (n k:Nat) (h:k<n):(mixI f n k).set k (f k)=mixI f n (k+1):=by
 unfold mixI
 apply List.ext_getElem
 ·simp
 ·intro i h1 h2
  simp at h2
  rw[List.getElem_set]
  by_cases hk:k=i
  ·subst hk;simp
  ·by_cases hlt:i<k
   ·simp[hk,hlt,show i<k+1 by omega]
   ·simp[hk,hlt,show ¬ i<k+1 by omega]
end Q
theorem zAp.rowI {w:World} {g:Nat} {l:List Int} (h:zAp w g l) (c:Nat) (hc:l.length≤c:=by first | exact Nat.le_refl _ | omega | simp):zBA w (.slice (some ⟨g,0,none⟩) l.length c) l:=Or.inr ⟨g,c,rfl,fun i hi=>h.cell i hi,h.lt,hc⟩
structure Ticked (w w':World) (gc o gd:Nat):Prop where
 os:w'.os=w.os
 tape:w'.tape=w.tape
 output:w'.output=w.output
 size:w'.heap.size=w.heap.size
 block:∀ k,k≠gc→k≠gd→w'.heap[k]?=w.heap[k]?
 cell:∀ j,j≠o+2→w'.cell? ⟨gc,j,none⟩=w.cell? ⟨gc,j,none⟩
 froz:∀ j,w'.frozen? ⟨gc,j,none⟩=w.frozen? ⟨gc,j,none⟩
 shape:∀ c t fr,w.heap[gc]?=some (.cells c t fr)→∃ c',w'.heap[gc]?=some (.cells c' t fr)∧c'.size=c.size
theorem Ticked.below {w w':World} {gc o gd B:Nat} (h:Ticked w w' gc o gd) (h1:B≤gc) (h2:B≤gd):Below B w w' :=
 ⟨h.os,h.tape,h.output,by rw[h.size];exact Nat.le_refl _,fun k hk=>h.block k (by omega) (by omega)⟩
def zDe (w:World) (gc o gb gd:Nat) (bs ds:List Int) (rest:List (List Int)):Prop :=
 ∃ begun,CtrAt w gc o gb gd bs ds begun∧((begun=false∧ds=Q.zeros bs.length∧rest=Q.zIE bs)∨(begun=true∧Q.DigOk bs ds∧rest=Q.afterD bs ds))
theorem CtrAt.of {w w':World} {gc o gb gd:Nat} {bs ds:List Int} {b:Bool} (h:CtrAt w gc o gb gd bs ds b) (hc:∀ j,w'.cell? ⟨gc,j,none⟩=w.cell? ⟨gc,j,none⟩) (hf:∀ j,w'.frozen? ⟨gc,j,none⟩=w.frozen? ⟨gc,j,none⟩) (hs:gc<w'.heap.size)
  (hb:w'.heap[gb]?=w.heap[gb]?) (hd:w'.heap[gd]?=w.heap[gd]?):CtrAt w' gc o gb gd bs ds b :=
 ⟨(hc _).trans h.c0,(hc _).trans h.c1,(hc _).trans h.c2,fun j=>(hf j).trans (h.free j),hs,h.bases.of_block hb,h.digits.of_block hd,h.cd,h.cb,h.bd,h.len⟩
theorem CtrAt.below {w w':World} {gc o gb gd:Nat} {bs ds:List Int} {b:Bool} (h:CtrAt w gc o gb gd bs ds b) (hb:Below w.heap.size w w'):CtrAt w' gc o gb gd bs ds b :=
 h.of (fun _=>hb.cell h.lt) (fun _=>hb.frozen h.lt) (Nat.lt_of_lt_of_le h.lt hb.size) (hb.block _ h.bases.lt) (hb.block _ h.digits.lt)
theorem zDe.below {w w':World} {gc o gb gd:Nat} {bs ds:List Int} {rest:List (List Int)} (h:zDe w gc o gb gd bs ds rest) (hb:Below w.heap.size w w'):zDe w' gc o gb gd bs ds rest:=by
 obtain⟨b,h1,h2⟩:=h
 exact⟨b,h1.below hb,h2⟩
theorem zDe.ctr {w:World} {gc o gb gd:Nat} {bs ds:List Int} {rest:List (List Int)} (h:zDe w gc o gb gd bs ds rest):∃ b,CtrAt w gc o gb gd bs ds b:=by
 obtain⟨b,h1,_⟩:=h
 exact⟨b,h1⟩
theorem zFa (gc o gb gd:Nat) (bs ds:List Int) (rest:List (List Int)) (w:World) (h:zDe w gc o gb gd bs ds rest) (hn:bs.length<10000) (hb:∀ b∈bs,b<1000000000) :
  Calls Tryz.prog 80 #[.pointer (some ⟨gc,o,none⟩)] w fun e w'=>((rest=[]∧e=.returned (.bool false))∨∃ r q,rest=r::q∧e=.returned (.bool true)∧zDe w' gc o gb gd bs r q∧Q.DigOk bs r)∧Ticked w w' gc o gd:=by
 obtain⟨b,hc,h2⟩:=h
 rcases h2 with ⟨rfl,hz,hr⟩ | ⟨rfl,hd,hr⟩
 ·refine (zFU gc o gb gd bs ds w hc hn).mono ?_
  rintro e w' ⟨rfl,rfl⟩
  have T:Ticked w (w.setCell ⟨gc,o+2,none⟩ (.bool true)) gc o gd:=⟨rfl,rfl,rfl,by simp,fun k h1 _=>Below.heap_setCell _ _ _ _ h1,fun j hj=>World.cell?_setCell_other _ _ _ _ (by first | (simp;done) | (simp;omega)),fun j=>World.frozen?_setCell _ _ _ _,fun c t fr hcc=>⟨_,zAf hcc _ _,by simp⟩⟩
  refine⟨?_,T⟩
  cases hs:Q.someB bs
  ·exact Or.inl ⟨by rw[hr,Q.digits_none hs],rfl⟩
  ·have hok:=Q.digOk_zeros hs
   refine Or.inr ⟨_,_,by rw[hr,Q.digits_first hs],rfl,⟨true,?_,Or.inr ⟨rfl,hok,rfl⟩⟩,hok⟩
   rw[← hz]
   exact⟨(T.cell _ (by omega)).trans hc.c0,(T.cell _ (by omega)).trans hc.c1,World.cell?_setCell_same _ _ _ hc.c2,fun j=>(T.froz j).trans (hc.free j),by rw[T.size];exact hc.lt,hc.bases.of_block (T.block _ (fun e=>hc.cb e.symm) hc.bd),hc.digits.of_block (Below.heap_setCell _ _ _ _ (fun e=>hc.cd e.symm)),hc.cd,hc.cb,hc.bd,hc.len⟩
 ·have hrng:∀ d∈ds,0≤d∧d<1000000000:=fun d hdm=>by
   obtain⟨i,hi,rfl⟩:=List.getElem_of_mem hdm
   have h1:=hd.rng i hi
   have h3:i<bs.length:=by rw[← hd.len];exact hi
   have h4:bs.getD i 0<1000000000:=by rw[zAH bs i h3];exact hb _ (List.getElem_mem h3)
   omega
  refine (zGB gc o gb gd bs ds w hc hn hrng).mono ?_
  rintro e w' ⟨rfl,hi,hg,hsz⟩
  have hcg:gc≠gd:=hc.cd
  have T:Ticked w w' gc o gd:=⟨hg.os,hg.tape,hg.output,hsz,fun k h1 h2=>by
   by_cases hk:k<w.heap.size
   ·exact hg.block k hk (by simpa using h2)
   ·rw[Array.getElem?_eq_none (by omega),Array.getElem?_eq_none (by omega)],fun j _=>World.cell?_of_block (w:=w) (a:=⟨gc,j,none⟩) (hg.block gc hc.lt (by simpa using hcg)),fun j=>World.frozen?_of_block (w:=w) (a:=⟨gc,j,none⟩) (hg.block gc hc.lt (by simpa using hcg)),fun c t fr hcc=>⟨c,(hg.block gc hc.lt (by simpa using hcg)).trans hcc,rfl⟩⟩
  refine⟨?_,T⟩
  cases hs:(Q.inc bs ds).2
  ·exact Or.inl ⟨by rw[hr,Q.after_none hd hs],rfl⟩
  ·have hok:=Q.digOk_inc hd hs
   refine Or.inr ⟨_,_,by rw[hr,Q.after_step hd hs],rfl,⟨true,?_,Or.inr ⟨rfl,hok,rfl⟩⟩,hok⟩
   have hcell:∀ j,w'.cell? ⟨gc,j,none⟩=w.cell? ⟨gc,j,none⟩:=fun j=>World.cell?_of_block (w:=w) (a:=⟨gc,j,none⟩) (hg.block gc hc.lt (by simpa using hcg))
   refine⟨(hcell _).trans hc.c0,?_,(hcell _).trans hc.c2,fun j=>(T.froz j).trans (hc.free j),by rw[T.size];exact hc.lt,hc.bases.of_block (T.block _ (fun e=>hc.cb e.symm) hc.bd),hi,hc.cd,hc.cb,hc.bd,hok.len⟩
   rw[hok.len,← hc.len];exact (hcell _).trans hc.c1
def zHW (w w':World) (bs:List Int) (v1 v2 v3:Value):Prop:=∃ gb gd,v1=.slice (some ⟨gb,0,none⟩) bs.length bs.length∧v2=.slice (some ⟨gd,0,none⟩) bs.length bs.length∧v3=.bool false∧zAp w' gb bs∧zAp w' gd (Q.zeros bs.length)∧w.heap.size≤gb∧w.heap.size≤gd∧gb≠gd
theorem zBd {fn:Func} {R:Ending→World→Prop} {a:Act} {w:World} {p:Tmp} {t:TypeId} {d:TypeDesc} (g:Nat) (cs:Array Value) (hres:fn.results=#[.cell p t])
  (hu:Tryz.prog.underlying t=some d) (hdr:d.isRow=true) (hi:(Tryz.prog.info? t).map (·.size)=some cs.size)
  (hp:a.tmps.getD p undef=.pointer (some ⟨g,0,none⟩)) (h:w.heap[g]?=some (.cells cs t (0,0))) (hd:a.defers=[]) (hR:R (.returned (.agg cs)) w):bodyPost Tryz.prog fn R .ret a w:=by
 refine bodyPost_ret (v:=.agg cs) ?_ hd hR
 rw[zCA hres,hp]
 have:(asAddr (.pointer (some ⟨g,0,none⟩))).run Tryz.prog w=.ok ⟨g,0,none⟩ w:=rfl
 rw[this,Result.andThen_ok,zBi w g _ _ _ h _ hu hdr hi]
theorem zIh {w W0 w1:World} {t:TypeId} {u0 u1 u2 s0 s1 s2:Value} (hw:Below w.heap.size w W0) (hb:Below W0.heap.size W0 w1) (hk:W0.heap[w.heap.size]?=some (.cells #[u0,u1,u2] t (0,0))) :
  (((w1.setCell ⟨w.heap.size,0,none⟩ s0).setCell ⟨w.heap.size,1,none⟩ s1).setCell ⟨w.heap.size,2,none⟩ s2).heap[w.heap.size]?=some (.cells #[s0,s1,s2] t (0,0))∧(∀ k,k≠w.heap.size→(((w1.setCell ⟨w.heap.size,0,none⟩ s0).setCell ⟨w.heap.size,1,none⟩ s1).setCell ⟨w.heap.size,2,none⟩ s2).heap[k]?=w1.heap[k]?)∧(((w1.setCell ⟨w.heap.size,0,none⟩ s0).setCell ⟨w.heap.size,1,none⟩ s1).setCell ⟨w.heap.size,2,none⟩ s2).heap.size=w1.heap.size∧Below w.heap.size w (((w1.setCell ⟨w.heap.size,0,none⟩ s0).setCell ⟨w.heap.size,1,none⟩ s1).setCell ⟨w.heap.size,2,none⟩ s2):=by
 have h1:w1.heap[w.heap.size]?=some (.cells #[u0,u1,u2] t (0,0)):=(hb.block _ (Array.getElem?_eq_some_iff.1 hk).1).trans hk
 refine⟨?_,fun k hk=>?_,by simp,?_⟩
 ·have e0:=zAf h1 0 s0
  have e1:=zAf e0 1 s1
  have e2:=zAf e1 2 s2
  rw[e2];rfl
 ·rw[Below.heap_setCell _ _ _ _ hk,Below.heap_setCell _ _ _ _ hk,Below.heap_setCell _ _ _ _ hk]
 ·exact ((((zAn hw (Nat.le_refl _) hb)).setCell (p:=⟨w.heap.size,0,none⟩) (Nat.le_refl _) _).setCell (p:=⟨w.heap.size,1,none⟩) (Nat.le_refl _) _).setCell (p:=⟨w.heap.size,2,none⟩) (Nat.le_refl _) _
theorem zBQ (v:Value) (bs:List Int) (w:World) (h:zBA w v bs) (hn:bs.length<10000) :
  Calls Tryz.prog 66 #[v] w fun e w'=>∃ v1 v2 v3,e=.returned (.agg #[v1,v2,v3])∧zHW w w' bs v1 v2 v3∧Below w.heap.size w w':=by
 have hmk:∀ w,(Instr.makeSlice 31 (.int .i64 (bs.length:Int)) (.int .i64 (bs.length:Int))).run Tryz.prog w=.ok (.slice (some ⟨w.heap.size,0,none⟩) bs.length bs.length) (w.alloc (.cells (madeCells #[.int .i64 0] bs.length) 3)) :=
  fun w=>run_make_row' 31 3 (.int .i64 0) 8 Tryz.underlying31 Tryz.infoInt rfl .i64 .i64 bs.length (by omega) (by omega) w
 have HM:Hid (madeCells #[.int .i64 0] bs.length=zAK (Q.zeros bs.length)):=zBX bs.length
 obtain⟨va,vc,rfl,hva⟩:=h.form
 have HV:=zAa h
 clear hva h
 go_enter Tryz.func66,Tryz.ntmps66
 go_upto_region 1 with fail
 obtain⟨k0,hsz,hbw⟩:=zBt w #[.slice none 0 0,.slice none 0 0,.bool false] 69
 have BW0:=zAa hbw
 have HV0:=zAa (HV.out.below hbw)
 generalize hE:w.alloc (.cells #[.slice none 0 0,.slice none 0 0,.bool false] 69)=W0 at *
 have c0:=ceL k0 0 _ rfl
 have c1:=ceL k0 1 _ rfl
 have c2:=ceL k0 2 _ rfl
 have f0:∀ j,W0.frozen? ⟨w.heap.size,j,none⟩=false:=fun j=>by simp[World.frozen?,k0]
 have l0:w.heap.size<W0.heap.size:=by omega
 have K0:=zAa k0
 clear hE k0 hbw
 go_region_with (go_at_call 88;refine (zCp _ bs _ (HV0.out.below (by first | exact (Below.refl _ _).drew | exact ((Below.refl _ _).alloc (Nat.le_refl _) _).drew | exact ((Below.refl _ _).drew).alloc (by simp) _)) hn).mono ?_;rintro e w1 ⟨g1,rfl,hg1,hge1,hb1⟩;have B1:Hid (Below W0.heap.size W0 w1):=(by first | exact ((Below.refl W0.heap.size W0).drew).trans (hb1.mono (by simp)) | exact (((Below.refl W0.heap.size W0).alloc (Nat.le_refl _) _).drew).trans (hb1.mono (by simp)) | exact (((Below.refl W0.heap.size W0).drew).alloc (by simp) _).trans (hb1.mono (by simp)));have p0:=cfL B1.out l0 c0;have p1:=cfL B1.out l0 c1;have p2:=cfL B1.out l0 c2;have pf:∀ j,w1.frozen? ⟨w.heap.size,j,none⟩=false:=(fun j=>(B1.out.frozen (p:=⟨w.heap.size,j,none⟩) l0).trans (f0 j));have lw:=Nat.lt_of_lt_of_le l0 B1.out.size;have G1:=zAa hg1;have HB1:=zAa hb1;simp at hge1)
 ·obtain⟨q0,q1,q2,q3⟩:=zIh (s0:=.slice (some ⟨g1,0,none⟩) bs.length bs.length) (s1:=.slice (some ⟨w1.heap.size,0,none⟩) bs.length bs.length) (s2:=.bool false) BW0.out B1.out K0.out
  have hg1':=G1.out.lt
  have hgw:w.heap.size<g1:=by omega
  go_wp2
  refine zBd (p:=2) w.heap.size _ (by kernel_rfl) Tryz.underlying69 rfl (by kernel_rfl) rfl (by rw[Below.heap_alloc _ _ _ (by omega)];exact q0) rfl ⟨_,_,_,rfl,⟨g1,w1.heap.size,rfl,rfl,rfl,?_,?_,by omega,by omega,by omega⟩,q3.alloc (by omega) _⟩
  ·unfold zAp;rw[Below.heap_alloc _ _ _ (by omega),q1 g1 (by omega)];exact G1.out
  ·unfold zAp;rw[← HM.out];exact Eq.trans (congrArg (fun k=>(World.alloc _ _).heap[k]?) q2.symm) (heap_alloc_new _ _)
 ·obtain⟨q0,q1,q2,q3⟩:=zIh (s0:=.slice (some ⟨g1,0,none⟩) bs.length bs.length) (s1:=.slice (some ⟨w.heap.size+1,0,none⟩) bs.length bs.length) (s2:=.bool false) BW0.out B1.out K0.out
  have hg1':=G1.out.lt
  have hz1:=HB1.out.size
  have hbk:=HB1.out.block (w.heap.size+1) (by simp;omega)
  simp at hz1
  go_wp2
  refine zBd (p:=2) w.heap.size _ (by kernel_rfl) Tryz.underlying69 rfl (by kernel_rfl) rfl (by exact q0) rfl ⟨_,_,_,rfl,⟨g1,w.heap.size+1,rfl,rfl,rfl,?_,?_,by omega,by omega,by omega⟩,q3⟩
  ·unfold zAp;rw[q1 g1 (by omega)];exact G1.out
  ·unfold zAp;rw[q1 _ (by omega),hbk,← HM.out,← hsz];exact heap_alloc_new W0 _
theorem zBB {wx:World} {b:Nat} {t:TypeId} {cur:Array Value} (new:List Value) (h:wx.heap[b]?=some (.cells cur t (0,0))) (hs:cur.size=new.length):(wx.setCells b 0 new).heap[b]?=some (.cells new.toArray t (0,0))∧(∀ k,k≠b→(wx.setCells b 0 new).heap[k]?=wx.heap[k]?)∧∀ (w:World) (B:Nat),B≤b→Below B w wx→Below B w (wx.setCells b 0 new):=by
 refine⟨?_,fun k hk=>zBq _ _ _ _ _ hk,fun w B hB hb=>Below.setCells hB _ _ _ hb⟩
 have h1:=zBo new 0 wx cur h
 have h2:=zCV cur new.toArray (by simpa using hs)
 rw[h1]
 simp only[List.toList_toArray] at h2
 rw[h2]
theorem zAM {w:World} {g:Nat} {c0 c1 c2 c3 c4 c5 c6 c7 c8 c9:Value} {t:TypeId} (h:w.heap[g]?=some (.cells #[c0,c1,c2,c3,c4,c5,c6,c7,c8,c9] t (0,0))) :
  w.cell? ⟨g,0,none⟩=some c0∧w.cell? ⟨g,1,none⟩=some c1∧w.cell? ⟨g,2,none⟩=some c2∧w.cell? ⟨g,3,none⟩=some c3∧w.cell? ⟨g,4,none⟩=some c4∧w.cell? ⟨g,5,none⟩=some c5∧w.cell? ⟨g,6,none⟩=some c6∧w.cell? ⟨g,7,none⟩=some c7∧w.cell? ⟨g,8,none⟩=some c8∧w.cell? ⟨g,9,none⟩=some c9∧(∀ j,w.frozen? ⟨g,j,none⟩=false)∧g<w.heap.size:=by
 refine⟨?_,?_,?_,?_,?_,?_,?_,?_,?_,?_,fun j=>?_,(Array.getElem?_eq_some_iff.1 h).1⟩<;>simp[World.cell?,World.frozen?,h]
theorem zAx {w:World} {o:Obj} {p:Addr} (h:p.block<w.heap.size):(w.alloc o).cell? p=w.cell? p:=by simp only[World.cell?,Below.heap_alloc _ _ _ h]
theorem zCZ {w w':World} {t:TypeId} (hb:Below (w.alloc (.cells #[.slice none 0 0] t)).heap.size (w.alloc (.cells #[.slice none 0 0] t)) w'):w'.cell? ⟨w.heap.size,0,none⟩=some (.slice none 0 0)∧w'.frozen? ⟨w.heap.size,0,none⟩=false∧w'.heap[w.heap.size]?=some (.cells #[.slice none 0 0] t (0,0)):=by
 have h:=heap_alloc_new w (.cells #[.slice none 0 0] t)
 obtain⟨c,f,l⟩:=zAm h
 exact⟨(hb.cell (p:=⟨w.heap.size,0,none⟩) l).trans c,(hb.frozen (p:=⟨w.heap.size,0,none⟩) l).trans f,(hb.block _ l).trans h⟩
theorem zHu {w w':World} {g:Nat} {t:TypeId} (hb:Below w.heap.size w w') (h:w.cell? ⟨g,0,none⟩=some (.slice none 0 0)∧w.frozen? ⟨g,0,none⟩=false∧w.heap[g]?=some (.cells #[.slice none 0 0] t (0,0))):w'.cell? ⟨g,0,none⟩=some (.slice none 0 0)∧w'.frozen? ⟨g,0,none⟩=false∧w'.heap[g]?=some (.cells #[.slice none 0 0] t (0,0)):=by
 have l:=World.block_lt_of_cell? w _ h.1
 exact⟨(hb.cell (p:=⟨g,0,none⟩) l).trans h.1,(hb.frozen (p:=⟨g,0,none⟩) l).trans h.2.1,(hb.block g l).trans h.2.2⟩
theorem zFy {W w:World} {q n:Nat} {l:List Nat} (hb:Below W.heap.size W w) (hq:RelAt w q n l):∃ gx qx,Value.pointer (some ⟨w.heap.size,0,none⟩)=.pointer (some ⟨gx,0,none⟩)∧(w.alloc (.cells #[.slice (some ⟨q,0,none⟩) n n] 64)).heap[gx]?=some (.cells #[.slice (some ⟨qx,0,none⟩) n n] 64 (0,0))∧RelAt (w.alloc (.cells #[.slice (some ⟨q,0,none⟩) n n] 64)) qx n l∧Below W.heap.size W (w.alloc (.cells #[.slice (some ⟨q,0,none⟩) n n] 64))∧W.heap.size≤gx :=
 ⟨w.heap.size,q,rfl,heap_alloc_new w _,hq.below ((Below.refl _ _).alloc (Nat.le_refl _) _),hb.alloc hb.size _,hb.size⟩
theorem zDj {W w:World} {q n g:Nat} {l:List Nat} (hb:Below W.heap.size W w) (hge:W.heap.size≤g) (hq:RelAt w q n l) (hx:w.heap[g]?=some (.cells #[.slice none 0 0] 64 (0,0))):∃ gx qx,Value.pointer (some ⟨g,0,none⟩)=.pointer (some ⟨gx,0,none⟩)∧(w.setCell ⟨g,0,none⟩ (.slice (some ⟨q,0,none⟩) n n)).heap[gx]?=some (.cells #[.slice (some ⟨qx,0,none⟩) n n] 64 (0,0))∧RelAt (w.setCell ⟨g,0,none⟩ (.slice (some ⟨q,0,none⟩) n n)) qx n l∧Below W.heap.size W (w.setCell ⟨g,0,none⟩ (.slice (some ⟨q,0,none⟩) n n))∧W.heap.size≤gx:=by
 have hne:q≠g:=fun e=>by
  have:=hq.at_
  unfold zAo at this
  rw[e,hx] at this;simp at this
 refine⟨g,q,rfl,?_,⟨hq.at_.of_block (Below.heap_setCell _ _ _ _ hne),hq.len,hq.fits⟩,hb.setCell (p:=⟨g,0,none⟩) hge _,hge⟩
 rw[zAf hx];rfl
theorem Tryz.infoEvM:(Tryz.prog.info? 129).map (fun i=>(i.zero,i.size,i.bytes))=some (some (.agg (zAb Q.Ev.zero)),10,80):=by kernel_rfl
theorem zAQ.set {w:World} {g:Nat} {e:Q.Ev} (e':Q.Ev) (h:zAQ w g e) (i:Nat) (u:Value) (he:(zAb e).setIfInBounds i u=zAb e'):zAQ (w.setCell ⟨g,i,none⟩ u) g e':=by
 unfold zAQ at *
 rw[zAf h,he]
theorem zAQ.of2 {w:World} {g b i:Nat} {e:Q.Ev} {u:Value} (h:zAQ w g e) (hne:g≠b):zAQ (w.setCell ⟨b,i,none⟩ u) g e:=by
 unfold zAQ at *
 rw[Below.heap_setCell _ _ _ _ hne];exact h
theorem zAQ.range {w:World} {g:Nat} {e:Q.Ev} (h:zAQ w g e):w.rangeAt g 0 (zAb e).toList:=zBP h
theorem zAG {ops:Array Oper} {rest:List Oper} {op:Oper} {a:Act} {w:World} {R:Exit→Act→World→Prop} (x y:Operand) (hgd:op.guard=none) (ho:op.op=.store 129 x y)
  (g:Nat) (e d:Q.Ev) (hx:a.eval x=.pointer (some ⟨g,0,none⟩)) (hy:a.eval y=.agg (zAb e)) (hg:zAQ w g d)
  (h:∀ w',zAQ w' g e→w.grownBy w' (some g)→wpList Tryz.prog ops R rest (a.put op.dst undef) w'):wpList Tryz.prog ops R (op::rest) a w :=
 zCg hgd _ x y ho g (zAb e) (zAb d) _ hx hy hg rfl (by kernel_rfl) (by simp[zAb,Value.oneCell']) h
theorem zCl (B g:Nat) (m:Q.Mach) (ev:Value) (kind:Int) (st:P.Stm) (w:World) (h:MachIn w B g m ev) (hk:kind=0∨kind=1∨kind=2∨kind=3∨kind=4) :
  Calls Tryz.prog 138 #[.pointer (some ⟨g,0,none⟩),.int .i64 kind,.agg (zAd st)] w fun e w'=>e=.returned (.agg (zAb (m.event kind st)))∧Below w.heap.size w w':=by
 have HV:Hid (m.event kind st=⟨kind,m.thread,m.block,st.var,0,st.order,st.scope,if kind==3||kind==4 then m.bars else 0,(kind==0||kind==1)&&(st.kind==2||st.kind==3),if kind==0||kind==1 then m.asked else 0⟩):=rfl
 obtain⟨k0,k1,hsz,hbw⟩:=zBM w #[.int .i64 st.kind,.int .i64 st.line,.int .i64 st.dest,.int .i64 st.var,.bool st.a.reg,.int .i64 st.a.n,.bool st.b.reg,.int .i64 st.b.n,.int .i64 st.order,.int .i64 st.scope,.int .i64 st.label] #[.int .i64 0,.int .i64 0,.int .i64 0,.int .i64 0,.int .i64 0,.int .i64 0,.int .i64 0,.int .i64 0,.bool false,.int .u64 0] 97 129
 have HM:=h.below hbw
 have hgw:=h.lt
 have BW0:=zAa hbw
 have HMH:=zAa HM
 clear h HM hbw
 simp only[zAd]
 go_enter Tryz.func138,Tryz.ntmps138
 go_upto_region 1 with fail
 generalize hE:(w.alloc (.cells #[.int .i64 st.kind,.int .i64 st.line,.int .i64 st.dest,.int .i64 st.var,.bool st.a.reg,.int .i64 st.a.n,.bool st.b.reg,.int .i64 st.b.n,.int .i64 st.order,.int .i64 st.scope,.int .i64 st.label] 97)).alloc (.cells #[.int .i64 0,.int .i64 0,.int .i64 0,.int .i64 0,.int .i64 0,.int .i64 0,.int .i64 0,.int .i64 0,.bool false,.int .u64 0] 129)=W0 at *
 have HST:zAu W0 w.heap.size st:=k0
 obtain⟨s0,s1,s2,s3,s4,s5,s6,s7,s8,s9,s10,s11,s12⟩:=HST.facts
 obtain⟨c0,c1,c2,c3,c4,c5,c6,c7,c8,c9,c10,c11,c12,c13,cf⟩:=HMH.out.facts
 have xl:w.heap.size+1<W0.heap.size:=(Array.getElem?_eq_some_iff.1 k1).1
 have hg:=HMH.out.lt
 have K1:Hid (zAQ W0 (w.heap.size+1) Q.Ev.zero):=k1
 have hszl:w.heap.size+2≤W0.heap.size:=by omega
 clear c2 c3 c4 c5 c6 c7 c8 c9 c10 c13 k0 k1 HST hsz hE s3 s4 s6 s7 s8 s9 s12
 go_region_held3 (fun w'=>w'.cell? ⟨g,0,none⟩=some (.int .i64 m.thread)∧w'.cell? ⟨g,1,none⟩=some (.int .i64 m.block)∧w'.cell? ⟨w.heap.size,3,none⟩=some (.int .i64 st.var)∧w'.cell? ⟨w.heap.size,8,none⟩=some (.int .i64 st.order)∧w'.cell? ⟨w.heap.size,9,none⟩=some (.int .i64 st.scope)) (first | exact⟨c0,c1,s5,s10,s11⟩ | exact⟨(zAx hg).trans c0,(zAx hg).trans c1,(zAx s0).trans s5,(zAx s0).trans s10,(zAx s0).trans s11⟩) (first | fail)
 have E1:Hid (zAQ ((W0.alloc (.cells #[.int .i64 kind,.int .i64 m.thread,.int .i64 m.block,.int .i64 st.var,.int .i64 0,.int .i64 st.order,.int .i64 st.scope,.int .i64 0,.bool false,.int .u64 0] 129)).drew) W0.heap.size ⟨kind,m.thread,m.block,st.var,0,st.order,st.scope,0,false,0⟩):=heap_alloc_new W0 _
 have BX:Below W0.heap.size W0 ((W0.alloc (.cells #[.int .i64 kind,.int .i64 m.thread,.int .i64 m.block,.int .i64 st.var,.int .i64 0,.int .i64 st.order,.int .i64 st.scope,.int .i64 0,.bool false,.int .u64 0] 129)).drew):=((Below.refl _ _).alloc (Nat.le_refl _) _).drew
 have K2:=zAa (K1.out.below BX)
 have B1:=zAa (zAn BW0.out (Nat.le_refl _) BX)
 have d11:=cfL BX hg c11
 have d12:=cfL BX hg c12
 have t2:=cfL BX s0 s2
 have hsw:=BX.size
 have hgW:=Nat.lt_of_lt_of_le hg hsw
 have hsW:=Nat.lt_of_lt_of_le s0 hsw
 clear BX c0 c1 c11 c12 s1 s2 s5 s10 s11 cf
 generalize hW1:(W0.alloc (.cells #[.int .i64 kind,.int .i64 m.thread,.int .i64 m.block,.int .i64 st.var,.int .i64 0,.int .i64 st.order,.int .i64 st.scope,.int .i64 0,.bool false,.int .u64 0] 129)).drew=W1 at *
 clear hW1
 generalize hb7:W0.heap.size=b7 at *
 obtain⟨q0,q1,q2,q3,q4,q5,q6,q7,q8,q9,qf,ql⟩:=E1.out.facts
 rcases hk with rfl | rfl | rfl | rfl | rfl
 ·cases z2:(st.kind==2)<;>cases z3:(st.kind==3)
  ·have EF:Hid (zAQ ((W1.setCell ⟨b7,9,none⟩ (.int .u64 (m.asked:Nat))).setCell ⟨b7,8,none⟩ (.bool false)) b7 (m.event 0 st)):=by
    unfold Hid;rw[HV.out,z2,z3]
    exact (E1.out.set ⟨0,m.thread,m.block,st.var,0,st.order,st.scope,0,false,m.asked⟩ 9 _ rfl).set _ 8 _ rfl
   have KF:Hid (zAQ ((W1.setCell ⟨b7,9,none⟩ (.int .u64 (m.asked:Nat))).setCell ⟨b7,8,none⟩ (.bool false)) (w.heap.size+1) Q.Ev.zero):=by unfold Hid;exact (K2.out.of2 (by omega)).of2 (by omega)
   have BF:Hid (Below w.heap.size w ((W1.setCell ⟨b7,9,none⟩ (.int .u64 (m.asked:Nat))).setCell ⟨b7,8,none⟩ (.bool false))):=(B1.out.setCell (p:=⟨b7,9,none⟩) (by simp;omega) _).setCell (p:=⟨b7,8,none⟩) (by simp;omega) _
   go_upto_region 10 with fail
   generalize hWF:(W1.setCell ⟨b7,9,none⟩ (.int .u64 (m.asked:Nat))).setCell ⟨b7,8,none⟩ (.bool false)=WF at *
   go_wp2_with (first | (refine zAg (.tmp 7) rfl rfl b7 0 _ rfl EF.out.range ?_) | (refine zAG (.tmp 6) (.tmp 50) rfl rfl (w.heap.size+1) (m.event 0 st) Q.Ev.zero rfl rfl KF.out ?_;intro w9 hE9 hg9))
   refine zBd (p:=6) (w.heap.size+1) _ (by kernel_rfl) Tryz.underlying129 rfl (by kernel_rfl) rfl hE9 rfl ⟨rfl,BF.out.trans ⟨hg9.os,hg9.tape,hg9.output,hg9.size,fun k hk=>hg9.block k (by have:=BF.out.size;omega) (by simp;omega)⟩⟩
  ·have EF:Hid (zAQ ((W1.setCell ⟨b7,9,none⟩ (.int .u64 (m.asked:Nat))).setCell ⟨b7,8,none⟩ (.bool true)) b7 (m.event 0 st)):=by
    unfold Hid;rw[HV.out,z2,z3]
    exact (E1.out.set ⟨0,m.thread,m.block,st.var,0,st.order,st.scope,0,false,m.asked⟩ 9 _ rfl).set _ 8 _ rfl
   have KF:Hid (zAQ ((W1.setCell ⟨b7,9,none⟩ (.int .u64 (m.asked:Nat))).setCell ⟨b7,8,none⟩ (.bool true)) (w.heap.size+1) Q.Ev.zero):=by unfold Hid;exact (K2.out.of2 (by omega)).of2 (by omega)
   have BF:Hid (Below w.heap.size w ((W1.setCell ⟨b7,9,none⟩ (.int .u64 (m.asked:Nat))).setCell ⟨b7,8,none⟩ (.bool true))):=(B1.out.setCell (p:=⟨b7,9,none⟩) (by simp;omega) _).setCell (p:=⟨b7,8,none⟩) (by simp;omega) _
   go_upto_region 10 with fail
   generalize hWF:(W1.setCell ⟨b7,9,none⟩ (.int .u64 (m.asked:Nat))).setCell ⟨b7,8,none⟩ (.bool true)=WF at *
   go_wp2_with (first | (refine zAg (.tmp 7) rfl rfl b7 0 _ rfl EF.out.range ?_) | (refine zAG (.tmp 6) (.tmp 50) rfl rfl (w.heap.size+1) (m.event 0 st) Q.Ev.zero rfl rfl KF.out ?_;intro w9 hE9 hg9))
   refine zBd (p:=6) (w.heap.size+1) _ (by kernel_rfl) Tryz.underlying129 rfl (by kernel_rfl) rfl hE9 rfl ⟨rfl,BF.out.trans ⟨hg9.os,hg9.tape,hg9.output,hg9.size,fun k hk=>hg9.block k (by have:=BF.out.size;omega) (by simp;omega)⟩⟩
  ·have EF:Hid (zAQ ((W1.setCell ⟨b7,9,none⟩ (.int .u64 (m.asked:Nat))).setCell ⟨b7,8,none⟩ (.bool true)) b7 (m.event 0 st)):=by
    unfold Hid;rw[HV.out,z2,z3]
    exact (E1.out.set ⟨0,m.thread,m.block,st.var,0,st.order,st.scope,0,false,m.asked⟩ 9 _ rfl).set _ 8 _ rfl
   have KF:Hid (zAQ ((W1.setCell ⟨b7,9,none⟩ (.int .u64 (m.asked:Nat))).setCell ⟨b7,8,none⟩ (.bool true)) (w.heap.size+1) Q.Ev.zero):=by unfold Hid;exact (K2.out.of2 (by omega)).of2 (by omega)
   have BF:Hid (Below w.heap.size w ((W1.setCell ⟨b7,9,none⟩ (.int .u64 (m.asked:Nat))).setCell ⟨b7,8,none⟩ (.bool true))):=(B1.out.setCell (p:=⟨b7,9,none⟩) (by simp;omega) _).setCell (p:=⟨b7,8,none⟩) (by simp;omega) _
   go_upto_region 10 with fail
   generalize hWF:(W1.setCell ⟨b7,9,none⟩ (.int .u64 (m.asked:Nat))).setCell ⟨b7,8,none⟩ (.bool true)=WF at *
   go_wp2_with (first | (refine zAg (.tmp 7) rfl rfl b7 0 _ rfl EF.out.range ?_) | (refine zAG (.tmp 6) (.tmp 50) rfl rfl (w.heap.size+1) (m.event 0 st) Q.Ev.zero rfl rfl KF.out ?_;intro w9 hE9 hg9))
   refine zBd (p:=6) (w.heap.size+1) _ (by kernel_rfl) Tryz.underlying129 rfl (by kernel_rfl) rfl hE9 rfl ⟨rfl,BF.out.trans ⟨hg9.os,hg9.tape,hg9.output,hg9.size,fun k hk=>hg9.block k (by have:=BF.out.size;omega) (by simp;omega)⟩⟩
  ·have EF:Hid (zAQ ((W1.setCell ⟨b7,9,none⟩ (.int .u64 (m.asked:Nat))).setCell ⟨b7,8,none⟩ (.bool true)) b7 (m.event 0 st)):=by
    unfold Hid;rw[HV.out,z2,z3]
    exact (E1.out.set ⟨0,m.thread,m.block,st.var,0,st.order,st.scope,0,false,m.asked⟩ 9 _ rfl).set _ 8 _ rfl
   have KF:Hid (zAQ ((W1.setCell ⟨b7,9,none⟩ (.int .u64 (m.asked:Nat))).setCell ⟨b7,8,none⟩ (.bool true)) (w.heap.size+1) Q.Ev.zero):=by unfold Hid;exact (K2.out.of2 (by omega)).of2 (by omega)
   have BF:Hid (Below w.heap.size w ((W1.setCell ⟨b7,9,none⟩ (.int .u64 (m.asked:Nat))).setCell ⟨b7,8,none⟩ (.bool true))):=(B1.out.setCell (p:=⟨b7,9,none⟩) (by simp;omega) _).setCell (p:=⟨b7,8,none⟩) (by simp;omega) _
   go_upto_region 10 with fail
   generalize hWF:(W1.setCell ⟨b7,9,none⟩ (.int .u64 (m.asked:Nat))).setCell ⟨b7,8,none⟩ (.bool true)=WF at *
   go_wp2_with (first | (refine zAg (.tmp 7) rfl rfl b7 0 _ rfl EF.out.range ?_) | (refine zAG (.tmp 6) (.tmp 50) rfl rfl (w.heap.size+1) (m.event 0 st) Q.Ev.zero rfl rfl KF.out ?_;intro w9 hE9 hg9))
   refine zBd (p:=6) (w.heap.size+1) _ (by kernel_rfl) Tryz.underlying129 rfl (by kernel_rfl) rfl hE9 rfl ⟨rfl,BF.out.trans ⟨hg9.os,hg9.tape,hg9.output,hg9.size,fun k hk=>hg9.block k (by have:=BF.out.size;omega) (by simp;omega)⟩⟩
 ·cases z2:(st.kind==2)<;>cases z3:(st.kind==3)
  ·have EF:Hid (zAQ ((W1.setCell ⟨b7,9,none⟩ (.int .u64 (m.asked:Nat))).setCell ⟨b7,8,none⟩ (.bool false)) b7 (m.event 1 st)):=by
    unfold Hid;rw[HV.out,z2,z3]
    exact (E1.out.set ⟨1,m.thread,m.block,st.var,0,st.order,st.scope,0,false,m.asked⟩ 9 _ rfl).set _ 8 _ rfl
   have KF:Hid (zAQ ((W1.setCell ⟨b7,9,none⟩ (.int .u64 (m.asked:Nat))).setCell ⟨b7,8,none⟩ (.bool false)) (w.heap.size+1) Q.Ev.zero):=by unfold Hid;exact (K2.out.of2 (by omega)).of2 (by omega)
   have BF:Hid (Below w.heap.size w ((W1.setCell ⟨b7,9,none⟩ (.int .u64 (m.asked:Nat))).setCell ⟨b7,8,none⟩ (.bool false))):=(B1.out.setCell (p:=⟨b7,9,none⟩) (by simp;omega) _).setCell (p:=⟨b7,8,none⟩) (by simp;omega) _
   go_upto_region 10 with fail
   generalize hWF:(W1.setCell ⟨b7,9,none⟩ (.int .u64 (m.asked:Nat))).setCell ⟨b7,8,none⟩ (.bool false)=WF at *
   go_wp2_with (first | (refine zAg (.tmp 7) rfl rfl b7 0 _ rfl EF.out.range ?_) | (refine zAG (.tmp 6) (.tmp 50) rfl rfl (w.heap.size+1) (m.event 1 st) Q.Ev.zero rfl rfl KF.out ?_;intro w9 hE9 hg9))
   refine zBd (p:=6) (w.heap.size+1) _ (by kernel_rfl) Tryz.underlying129 rfl (by kernel_rfl) rfl hE9 rfl ⟨rfl,BF.out.trans ⟨hg9.os,hg9.tape,hg9.output,hg9.size,fun k hk=>hg9.block k (by have:=BF.out.size;omega) (by simp;omega)⟩⟩
  ·have EF:Hid (zAQ ((W1.setCell ⟨b7,9,none⟩ (.int .u64 (m.asked:Nat))).setCell ⟨b7,8,none⟩ (.bool true)) b7 (m.event 1 st)):=by
    unfold Hid;rw[HV.out,z2,z3]
    exact (E1.out.set ⟨1,m.thread,m.block,st.var,0,st.order,st.scope,0,false,m.asked⟩ 9 _ rfl).set _ 8 _ rfl
   have KF:Hid (zAQ ((W1.setCell ⟨b7,9,none⟩ (.int .u64 (m.asked:Nat))).setCell ⟨b7,8,none⟩ (.bool true)) (w.heap.size+1) Q.Ev.zero):=by unfold Hid;exact (K2.out.of2 (by omega)).of2 (by omega)
   have BF:Hid (Below w.heap.size w ((W1.setCell ⟨b7,9,none⟩ (.int .u64 (m.asked:Nat))).setCell ⟨b7,8,none⟩ (.bool true))):=(B1.out.setCell (p:=⟨b7,9,none⟩) (by simp;omega) _).setCell (p:=⟨b7,8,none⟩) (by simp;omega) _
   go_upto_region 10 with fail
   generalize hWF:(W1.setCell ⟨b7,9,none⟩ (.int .u64 (m.asked:Nat))).setCell ⟨b7,8,none⟩ (.bool true)=WF at *
   go_wp2_with (first | (refine zAg (.tmp 7) rfl rfl b7 0 _ rfl EF.out.range ?_) | (refine zAG (.tmp 6) (.tmp 50) rfl rfl (w.heap.size+1) (m.event 1 st) Q.Ev.zero rfl rfl KF.out ?_;intro w9 hE9 hg9))
   refine zBd (p:=6) (w.heap.size+1) _ (by kernel_rfl) Tryz.underlying129 rfl (by kernel_rfl) rfl hE9 rfl ⟨rfl,BF.out.trans ⟨hg9.os,hg9.tape,hg9.output,hg9.size,fun k hk=>hg9.block k (by have:=BF.out.size;omega) (by simp;omega)⟩⟩
  ·have EF:Hid (zAQ ((W1.setCell ⟨b7,9,none⟩ (.int .u64 (m.asked:Nat))).setCell ⟨b7,8,none⟩ (.bool true)) b7 (m.event 1 st)):=by
    unfold Hid;rw[HV.out,z2,z3]
    exact (E1.out.set ⟨1,m.thread,m.block,st.var,0,st.order,st.scope,0,false,m.asked⟩ 9 _ rfl).set _ 8 _ rfl
   have KF:Hid (zAQ ((W1.setCell ⟨b7,9,none⟩ (.int .u64 (m.asked:Nat))).setCell ⟨b7,8,none⟩ (.bool true)) (w.heap.size+1) Q.Ev.zero):=by unfold Hid;exact (K2.out.of2 (by omega)).of2 (by omega)
   have BF:Hid (Below w.heap.size w ((W1.setCell ⟨b7,9,none⟩ (.int .u64 (m.asked:Nat))).setCell ⟨b7,8,none⟩ (.bool true))):=(B1.out.setCell (p:=⟨b7,9,none⟩) (by simp;omega) _).setCell (p:=⟨b7,8,none⟩) (by simp;omega) _
   go_upto_region 10 with fail
   generalize hWF:(W1.setCell ⟨b7,9,none⟩ (.int .u64 (m.asked:Nat))).setCell ⟨b7,8,none⟩ (.bool true)=WF at *
   go_wp2_with (first | (refine zAg (.tmp 7) rfl rfl b7 0 _ rfl EF.out.range ?_) | (refine zAG (.tmp 6) (.tmp 50) rfl rfl (w.heap.size+1) (m.event 1 st) Q.Ev.zero rfl rfl KF.out ?_;intro w9 hE9 hg9))
   refine zBd (p:=6) (w.heap.size+1) _ (by kernel_rfl) Tryz.underlying129 rfl (by kernel_rfl) rfl hE9 rfl ⟨rfl,BF.out.trans ⟨hg9.os,hg9.tape,hg9.output,hg9.size,fun k hk=>hg9.block k (by have:=BF.out.size;omega) (by simp;omega)⟩⟩
  ·have EF:Hid (zAQ ((W1.setCell ⟨b7,9,none⟩ (.int .u64 (m.asked:Nat))).setCell ⟨b7,8,none⟩ (.bool true)) b7 (m.event 1 st)):=by
    unfold Hid;rw[HV.out,z2,z3]
    exact (E1.out.set ⟨1,m.thread,m.block,st.var,0,st.order,st.scope,0,false,m.asked⟩ 9 _ rfl).set _ 8 _ rfl
   have KF:Hid (zAQ ((W1.setCell ⟨b7,9,none⟩ (.int .u64 (m.asked:Nat))).setCell ⟨b7,8,none⟩ (.bool true)) (w.heap.size+1) Q.Ev.zero):=by unfold Hid;exact (K2.out.of2 (by omega)).of2 (by omega)
   have BF:Hid (Below w.heap.size w ((W1.setCell ⟨b7,9,none⟩ (.int .u64 (m.asked:Nat))).setCell ⟨b7,8,none⟩ (.bool true))):=(B1.out.setCell (p:=⟨b7,9,none⟩) (by simp;omega) _).setCell (p:=⟨b7,8,none⟩) (by simp;omega) _
   go_upto_region 10 with fail
   generalize hWF:(W1.setCell ⟨b7,9,none⟩ (.int .u64 (m.asked:Nat))).setCell ⟨b7,8,none⟩ (.bool true)=WF at *
   go_wp2_with (first | (refine zAg (.tmp 7) rfl rfl b7 0 _ rfl EF.out.range ?_) | (refine zAG (.tmp 6) (.tmp 50) rfl rfl (w.heap.size+1) (m.event 1 st) Q.Ev.zero rfl rfl KF.out ?_;intro w9 hE9 hg9))
   refine zBd (p:=6) (w.heap.size+1) _ (by kernel_rfl) Tryz.underlying129 rfl (by kernel_rfl) rfl hE9 rfl ⟨rfl,BF.out.trans ⟨hg9.os,hg9.tape,hg9.output,hg9.size,fun k hk=>hg9.block k (by have:=BF.out.size;omega) (by simp;omega)⟩⟩
 ·have EF:Hid (zAQ (W1) b7 (m.event 2 st)):=by
   unfold Hid;rw[HV.out]
   exact E1.out
  have KF:Hid (zAQ (W1) (w.heap.size+1) Q.Ev.zero):=by unfold Hid;exact K2.out
  have BF:Hid (Below w.heap.size w (W1)):=B1.out
  go_upto_region 10 with fail
  skip
  go_wp2_with (first | (refine zAg (.tmp 7) rfl rfl b7 0 _ rfl EF.out.range ?_) | (refine zAG (.tmp 6) (.tmp 50) rfl rfl (w.heap.size+1) (m.event 2 st) Q.Ev.zero rfl rfl KF.out ?_;intro w9 hE9 hg9))
  refine zBd (p:=6) (w.heap.size+1) _ (by kernel_rfl) Tryz.underlying129 rfl (by kernel_rfl) rfl hE9 rfl ⟨rfl,BF.out.trans ⟨hg9.os,hg9.tape,hg9.output,hg9.size,fun k hk=>hg9.block k (by have:=BF.out.size;omega) (by simp;omega)⟩⟩
 ·have EF:Hid (zAQ (W1.setCell ⟨b7,7,none⟩ (.int .i64 (m.bars:Nat))) b7 (m.event 3 st)):=by
   unfold Hid;rw[HV.out]
   exact E1.out.set _ 7 _ rfl
  have KF:Hid (zAQ (W1.setCell ⟨b7,7,none⟩ (.int .i64 (m.bars:Nat))) (w.heap.size+1) Q.Ev.zero):=by unfold Hid;exact K2.out.of2 (by omega)
  have BF:Hid (Below w.heap.size w (W1.setCell ⟨b7,7,none⟩ (.int .i64 (m.bars:Nat)))):=B1.out.setCell (p:=⟨b7,7,none⟩) (by simp;omega) _
  go_upto_region 10 with fail
  generalize hWF:W1.setCell ⟨b7,7,none⟩ (.int .i64 (m.bars:Nat))=WF at *
  go_wp2_with (first | (refine zAg (.tmp 7) rfl rfl b7 0 _ rfl EF.out.range ?_) | (refine zAG (.tmp 6) (.tmp 50) rfl rfl (w.heap.size+1) (m.event 3 st) Q.Ev.zero rfl rfl KF.out ?_;intro w9 hE9 hg9))
  refine zBd (p:=6) (w.heap.size+1) _ (by kernel_rfl) Tryz.underlying129 rfl (by kernel_rfl) rfl hE9 rfl ⟨rfl,BF.out.trans ⟨hg9.os,hg9.tape,hg9.output,hg9.size,fun k hk=>hg9.block k (by have:=BF.out.size;omega) (by simp;omega)⟩⟩
 ·have EF:Hid (zAQ (W1.setCell ⟨b7,7,none⟩ (.int .i64 (m.bars:Nat))) b7 (m.event 4 st)):=by
   unfold Hid;rw[HV.out]
   exact E1.out.set _ 7 _ rfl
  have KF:Hid (zAQ (W1.setCell ⟨b7,7,none⟩ (.int .i64 (m.bars:Nat))) (w.heap.size+1) Q.Ev.zero):=by unfold Hid;exact K2.out.of2 (by omega)
  have BF:Hid (Below w.heap.size w (W1.setCell ⟨b7,7,none⟩ (.int .i64 (m.bars:Nat)))):=B1.out.setCell (p:=⟨b7,7,none⟩) (by simp;omega) _
  go_upto_region 10 with fail
  generalize hWF:W1.setCell ⟨b7,7,none⟩ (.int .i64 (m.bars:Nat))=WF at *
  go_wp2_with (first | (refine zAg (.tmp 7) rfl rfl b7 0 _ rfl EF.out.range ?_) | (refine zAG (.tmp 6) (.tmp 50) rfl rfl (w.heap.size+1) (m.event 4 st) Q.Ev.zero rfl rfl KF.out ?_;intro w9 hE9 hg9))
  refine zBd (p:=6) (w.heap.size+1) _ (by kernel_rfl) Tryz.underlying129 rfl (by kernel_rfl) rfl hE9 rfl ⟨rfl,BF.out.trans ⟨hg9.os,hg9.tape,hg9.output,hg9.size,fun k hk=>hg9.block k (by have:=BF.out.size;omega) (by simp;omega)⟩⟩
end Go.Proofs.YtkmebkbpfmoeaaaGreat
