import Derived.Test.YtgceflcbckjjiaaGreatDoorC37
import Derived.Test.YtgceflcbckjjiaaGreatDoorC38
set_option linter.unusedVariables false
set_option linter.unusedSimpArgs false
set_option maxHeartbeats 12800000
namespace Go.Proofs.YtgceflcbckjjiaaGreatDoor
open Go Go.RowKit
set_option maxRecDepth 100000
theorem Tryz.infoRel1:(Tryz.prog.info? 68).map (fun i=>(i.zero,i.size,i.bytes))=some (some (.agg #[.slice none 0 0]),1,24):=by kernel_rfl
structure RelsIn (w:World) (v:Value) (n:Nat) (ls:List (List Nat)) (gs:List Nat):Prop where
 own:w.ownsRow 0 68 1 v ls.length (gs.map fun g=>.slice (some ⟨g,0,none⟩) n n)
 len:gs.length=ls.length
 rel:∀ i (h:i<ls.length) (g:Nat),gs[i]?=some g→RelAt w g n ls[i]
namespace Q
theorem fenceRows_len (es:List Ev):(zNV es).length=es.length:=by simp[zNV]
def zOX (f:Facts) (rd:List Nat) (w:Wd) (l:List (List Int)):List (List Nat):=(l.filter fun ds=>zOI rd (f.causeAt rd w ds) (f.fencesBehind (zNW (zNV w.events) ds))).map (f.causeAt rd w)
theorem causesL_cons (f:Facts) (rd:List Nat) (w:Wd) (r:List Int) (q:List (List Int)):zOX f rd w (r::q)=if zOI rd (f.causeAt rd w r) (f.fencesBehind (zNW (zNV w.events) r)) then f.causeAt rd w r::zOX f rd w q else zOX f rd w q:=by
 unfold zOX
 rw[List.filter_cons]
 split<;>rfl
end Q
theorem RelsIn.below {w w':World} {v:Value} {n:Nat} {ls:List (List Nat)} {gs:List Nat} (h:RelsIn w v n ls gs) (hb:Below w.heap.size w w'):RelsIn w' v n ls gs :=
 ⟨zAc h.own (fun k e=>hb.block k (h.own.lt k e).2),h.len,fun i hi g hg=>(h.rel i hi g hg).below hb⟩
theorem RelsIn.push {w w':World} {v v':Value} {n:Nat} {ls:List (List Nat)} {gs:List Nat} {q:Nat} {l:List Nat} {o:Obj} (h:RelsIn w v n ls gs) (hq:RelAt w q n l) (ho:w'.ownsRow 0 68 1 v' (ls.length+1) ((gs.map fun g=>.slice (some ⟨g,0,none⟩) n n)++[.slice (some ⟨q,0,none⟩) n n])) (hg:(w.alloc o).grownBy w' v.ownBlock):RelsIn w' v' n (ls++[l]) (gs++[q]):=by
 have K:∀ {g l},RelAt w g n l→RelAt w' g n l:=fun {g l} hr=>by
  refine⟨hr.at_.of_block ((hg.block g (by have:=hr.lt;simp;omega) (fun e=>?_)).trans (Below.heap_alloc _ _ _ hr.lt)),hr.len,hr.fits⟩
  have h1:=hr.at_
  unfold zAw at h1
  exact zAA h.own h1 (by decide) e.symm
 refine⟨by simpa using ho,by simp[h.len],fun i hi g' hg'=>?_⟩
 by_cases hlt:i<ls.length
 ·rw[List.getElem?_append_left (by rw[h.len];exact hlt)] at hg'
  rw[List.getElem_append_left hlt]
  exact K (h.rel i hlt g' hg')
 ·have hi2:i=ls.length:=by simp at hi;omega
  subst hi2
  rw[List.getElem?_append_right (by rw[h.len];exact Nat.le_refl _)] at hg'
  simp[h.len] at hg'
  subst hg'
  simpa using K hq
theorem zKz {k:Nat} (h:k<100000000):k+1≤maxLen∧(k+1)*24≤140737488355328:=by unfold maxLen;omega
theorem RelsIn.nil (w:World) (n:Nat):RelsIn w (.slice none 0 0) n [] []:=⟨by simpa using World.ownsRow_nil w 0 68 1,rfl,fun i h=>by simp at h⟩
theorem RelsIn.tick {w w':World} {v:Value} {n:Nat} {ls:List (List Nat)} {gs:List Nat} {go o gb gd:Nat} {bs ds:List Int} {b:Bool} (h:RelsIn w v n ls gs) (hT:Ticked w w' go o gd) (hv:∀ k,v.ownBlock=some k→k≠go∧k≠gd) {tg:TypeId} {cg:Array Value} (hc:CtrAt w go o gb gd bs ds b) (hg:w.heap[go]?=some (.cells cg tg (0,0))) (htg:156≠tg):RelsIn w' v n ls gs :=
 ⟨zAc h.own (fun k e=>hT.block k (hv k e).1 (hv k e).2),h.len,fun i hi g hg2=>by
  have q:=h.rel i hi g hg2
  exact⟨q.at_.of_block (hT.block g (zCW q.at_ hg htg) (zCW q.at_ (t:=3) hc.digits (by decide))),q.len,q.fits⟩⟩
def zGz (Wz:World) (go gro gb gd N1:Nat) (f:Q.Facts) (rd:List Nat) (wd:Q.Wd) (n:Nat) (fin:List (List Nat)) (p:Value × World) (m:Nat):Prop :=
 ∃ ds rest done gs,OrdOn p.2 go gro gb gd (Q.zNV wd.events) (Q.zNU wd.events (Q.zNV wd.events)) ds rest∧Below Wz.heap.size Wz p.2∧done++Q.zOX f rd wd rest=fin∧RelsIn p.2 p.1 n done gs∧(∀ k,p.1.ownBlock=some k→N1≤k)∧rest.length=m∧N1≤p.2.heap.size∧∃ cg,p.2.heap[go]?=some (.cells cg 124 (0,0))
theorem zIo {α:Type} (I:α→Nat→Prop):∃ μ:α→Nat,∀ w,(∃ n,I w n)→I w (μ w)∧∀ m,I w m→μ w≤m:=by
 have key:∀ P:Nat→Prop,(∃ n,P n)→∃ n,P n∧∀ m,P m→n≤m:=by
  intro P hP
  obtain⟨n,hn⟩:=hP
  induction n using Nat.strongRecOn with
  | ind n ih =>
   by_cases h:∃ m,m<n∧P m
   ·obtain⟨m,hm,hp⟩:=h
    exact ih m hm hp
   ·exact⟨n,hn,fun m hm=>by
     by_cases hl:m<n
     ·exact absurd ⟨m,hl,hm⟩ h
     ·omega⟩
 have k2:∀ w,∃ n,(∃ n,I w n)→I w n∧∀ m,I w m→n≤m:=fun w=>by
  by_cases h:∃ n,I w n
  ·obtain⟨n,hn⟩:=key (I w) h
   exact⟨n,fun _=>hn⟩
  ·exact⟨0,fun e=>absurd e h⟩
 exact⟨fun w=>Classical.choose (k2 w),fun w=>Classical.choose_spec (k2 w)⟩
theorem zFf (a:FA) (f:Q.Facts) (gr:Nat) (rd:List Nat) (ev rg:Value) (wd:Q.Wd) (w:World) (hf:FactsIn w a f) (hr:RelAt w gr a.n rd) (hw:WdIn w ev rg wd) (hfe:f.events=wd.events) (hn64:wd.events.length≤64) (hfin:(f.causes rd wd).length<100000000) :
  Calls Tryz.prog 48 #[.agg (zCF a gr),.agg #[ev,rg]] w fun e w'=>∃ v gs,e=.returned v∧RelsIn w' v a.n (f.causes rd wd) gs∧Below w.heap.size w w':=by
 have hnl:a.n=wd.events.length:=by rw[← hf.len,hfe]
 obtain⟨ea,ec,rfl,_⟩:=hw.evs.form
 obtain⟨ra,rc,rfl,_⟩:=hw.regs.form
 obtain⟨i0,hi0,hz0,hz1,hz2⟩:=info_parts Tryz.infoRel1
 obtain⟨μ,hμ⟩:∃ μ:Nat→Nat,True:=⟨id,trivial⟩
 clear hμ μ
 obtain⟨x,c,hev,_⟩:=hf.form
 obtain⟨n,ev,g1,g2,g3,g4,g5,g6,g7,g8,g9⟩:=a
 simp only at hev hr hnl
 subst hev
 simp only[zAp,zCF]
 obtain⟨k0,k1,hsz,hbw⟩:=zBN w #[.slice x n c,.slice (some ⟨g1,0,none⟩) n n,.slice (some ⟨g2,0,none⟩) n n,.slice (some ⟨g3,0,none⟩) n n,.slice (some ⟨g4,0,none⟩) n n,.slice (some ⟨g5,0,none⟩) n n,.slice (some ⟨g6,0,none⟩) n n,.slice (some ⟨g7,0,none⟩) n n,.slice (some ⟨g8,0,none⟩) n n,.slice (some ⟨g9,0,none⟩) n n,.slice (some ⟨gr,0,none⟩) n n] #[.slice ea wd.events.length ec,.slice ra wd.regs.length rc] 101 65
 have HF:=zAa (hf.below hbw)
 have HW0:=zAa hw
 have HNL:=zAa hnl
 have HFL:=zAa (Q.fenceRows_len wd.events)
 have HBL:=zAa (Q.zPm wd.events (Q.zNV wd.events))
 have HBM:=zAa (Q.zPl wd.events (Q.zNV wd.events) (by rw[HFL.out];exact hn64))
 have hwl64:(Q.zNV wd.events).length≤64:=by rw[HFL.out];exact hn64
 have hbl64:(Q.zNU wd.events (Q.zNV wd.events)).length<10000:=by rw[HBL.out];omega
 have HFIN:=zAa hfin
 have HFO:Hid (f.causes rd wd=Q.zOX f rd wd (Q.zOi (Q.zNU wd.events (Q.zNV wd.events)))):=rfl
 generalize f.causes rd wd=fin at *
 have Rr:=zAa (hr.below hbw)
 have BW0:=zAa hbw
 clear hbw hf hr hw hfe hnl hfin
 go_enter Tryz.func48,Tryz.ntmps48
 go_upto_region 1 with fail
 generalize hE:((w.alloc (.cells #[.slice x n c,.slice (some ⟨g1,0,none⟩) n n,.slice (some ⟨g2,0,none⟩) n n,.slice (some ⟨g3,0,none⟩) n n,.slice (some ⟨g4,0,none⟩) n n,.slice (some ⟨g5,0,none⟩) n n,.slice (some ⟨g6,0,none⟩) n n,.slice (some ⟨g7,0,none⟩) n n,.slice (some ⟨g8,0,none⟩) n n,.slice (some ⟨g9,0,none⟩) n n,.slice (some ⟨gr,0,none⟩) n n] 101)).alloc (.cells #[.slice ea wd.events.length ec,.slice ra wd.regs.length rc] 65))=W0 at *
 have c0_0_0:=ceL k0 0 _ rfl
 have c0_0_1:=ceL k0 1 _ rfl
 have c0_0_2:=ceL k0 2 _ rfl
 have c0_0_3:=ceL k0 3 _ rfl
 have c0_0_4:=ceL k0 4 _ rfl
 have c0_0_5:=ceL k0 5 _ rfl
 have c0_0_6:=ceL k0 6 _ rfl
 have c0_0_7:=ceL k0 7 _ rfl
 have c0_0_8:=ceL k0 8 _ rfl
 have c0_0_9:=ceL k0 9 _ rfl
 have c0_0_10:=ceL k0 10 _ rfl
 have l0_0:w.heap.size<W0.heap.size:=by omega
 have f0_0:∀ j,W0.frozen? ⟨w.heap.size,j,none⟩=false:=fun j=>by simp[World.frozen?,k0]
 have K0_0:=zAa k0
 have c0_1_0:=ceL k1 0 _ rfl
 have c0_1_1:=ceL k1 1 _ rfl
 have l0_1:w.heap.size+1<W0.heap.size:=by omega
 have f0_1:∀ j,W0.frozen? ⟨w.heap.size+1,j,none⟩=false:=fun j=>by simp[World.frozen?,k1]
 have K0_1:=zAa k1
 have hsq0:w.heap.size+2≤W0.heap.size:=by omega
 clear hE hsz k0 k1
 go_upto_region 3 with (first
  | (go_at_call 66;refine (zHA (FA.mk n (.slice x n c) g1 g2 g3 g4 g5 g6 g7 g8 g9) f gr _ _ (HF.out.below (Below.refl _ _)) (Rr.out.below (Below.refl _ _))).mono ?_;rintro e w0_0 ⟨q0_0,rfl,hq0_0,hb0_0⟩;have B0_0:Hid (Below W0.heap.size W0 w0_0):=hb0_0;have Q0_0:=zAa hq0_0;clear hq0_0))
 have k1_n:=heap_alloc_new w0_0 (.cells #[.slice (some ⟨q0_0,0,none⟩) n n] 68)
 have BX:Below W0.heap.size W0 (w0_0.alloc (.cells #[.slice (some ⟨q0_0,0,none⟩) n n] 68)):=B0_0.out.alloc B0_0.out.size _
 have hsq1:=B0_0.out.size
 have hwz:=BX.size
 have HF1:=zAa (HF.out.below BX)
 have R1_0:=zAa (Rr.out.below BX)
 have R1_1:=zAa (Q0_0.out.below ((Below.refl _ _).alloc (Nat.le_refl _) (.cells #[.slice (some ⟨q0_0,0,none⟩) n n] 68)))
 have BW1:=zAa (zAm BW0.out (Nat.le_refl _) BX)
 have d1_0:=cfL BX l0_0 c0_0_0
 have d1_1:=cfL BX l0_0 c0_0_1
 have d1_2:=cfL BX l0_0 c0_0_2
 have d1_3:=cfL BX l0_0 c0_0_3
 have d1_4:=cfL BX l0_0 c0_0_4
 have d1_5:=cfL BX l0_0 c0_0_5
 have d1_6:=cfL BX l0_0 c0_0_6
 have d1_7:=cfL BX l0_0 c0_0_7
 have d1_8:=cfL BX l0_0 c0_0_8
 have d1_9:=cfL BX l0_0 c0_0_9
 have d1_10:=cfL BX l0_0 c0_0_10
 have d1_11:=cfL BX l0_1 c0_1_0
 have d1_12:=cfL BX l0_1 c0_1_1
 have f1_0:∀ j,(w0_0.alloc (.cells #[.slice (some ⟨q0_0,0,none⟩) n n] 68)).frozen? ⟨w.heap.size,j,none⟩=false:=fun j=>(BX.frozen (p:=⟨w.heap.size,j,none⟩) l0_0).trans (f0_0 j)
 have l1_0:=Nat.lt_of_lt_of_le l0_0 hwz
 have K1_0:=zAa ((BX.block _ l0_0).trans K0_0.out)
 have f1_1:∀ j,(w0_0.alloc (.cells #[.slice (some ⟨q0_0,0,none⟩) n n] 68)).frozen? ⟨w.heap.size+1,j,none⟩=false:=fun j=>(BX.frozen (p:=⟨w.heap.size+1,j,none⟩) l0_1).trans (f0_1 j)
 have l1_1:=Nat.lt_of_lt_of_le l0_1 hwz
 have K1_1:=zAa ((BX.block _ l0_1).trans K0_1.out)
 have hn1:w0_0.heap.size<(w0_0.alloc (.cells #[.slice (some ⟨q0_0,0,none⟩) n n] 68)).heap.size:=by simp
 clear BX hwz
 generalize hE1:w0_0.alloc (.cells #[.slice (some ⟨q0_0,0,none⟩) n n] 68)=W1 at *
 obtain⟨cn1,fn1,ln1⟩:=zAk k1_n
 have fm1:∀ j,W1.frozen? ⟨w0_0.heap.size,j,none⟩=false:=fun j=>by simp[World.frozen?,k1_n]
 have KN1:=zAa k1_n
 clear k1_n hE1 hn1
 clear c0_0_0 c0_0_1 c0_0_2 c0_0_3 c0_0_4 c0_0_5 c0_0_6 c0_0_7 c0_0_8 c0_0_9 c0_0_10 c0_1_0 c0_1_1
 go_cut [7] from 16 to 23 (fun p wx=>∃ gx qx,p=.pointer (some ⟨gx,0,none⟩)∧wx.heap[gx]?=some (.cells #[.slice (some ⟨qx,0,none⟩) n n] 68 (0,0))∧RelAt wx qx n (Q.orR (f.tells (f.sees rd)) f.gathers)∧Below W1.heap.size W1 wx∧W1.heap.size≤gx)
 case first =>
  clear d1_10 d1_11 d1_12 f1_0 f1_1 fm1
  have hgeW:=Nat.le_refl W1.heap.size
  go_region_held3 (fun w'=>w'.cell? ⟨w.heap.size,0,none⟩=some (.slice x n c)∧w'.cell? ⟨w.heap.size,1,none⟩=some (.slice (some ⟨g1,0,none⟩) n n)∧w'.cell? ⟨w.heap.size,2,none⟩=some (.slice (some ⟨g2,0,none⟩) n n)∧w'.cell? ⟨w.heap.size,3,none⟩=some (.slice (some ⟨g3,0,none⟩) n n)∧w'.cell? ⟨w.heap.size,4,none⟩=some (.slice (some ⟨g4,0,none⟩) n n)∧w'.cell? ⟨w.heap.size,5,none⟩=some (.slice (some ⟨g5,0,none⟩) n n)∧w'.cell? ⟨w.heap.size,6,none⟩=some (.slice (some ⟨g6,0,none⟩) n n)∧w'.cell? ⟨w.heap.size,7,none⟩=some (.slice (some ⟨g7,0,none⟩) n n)∧w'.cell? ⟨w.heap.size,8,none⟩=some (.slice (some ⟨g8,0,none⟩) n n)∧w'.cell? ⟨w.heap.size,9,none⟩=some (.slice (some ⟨g9,0,none⟩) n n)∧w'.cell? ⟨w0_0.heap.size,0,none⟩=some (.slice (some ⟨q0_0,0,none⟩) n n)) (first | exact⟨d1_0,d1_1,d1_2,d1_3,d1_4,d1_5,d1_6,d1_7,d1_8,d1_9,cn1⟩ | exact⟨(zAh l1_0).trans d1_0,(zAh l1_0).trans d1_1,(zAh l1_0).trans d1_2,(zAh l1_0).trans d1_3,(zAh l1_0).trans d1_4,(zAh l1_0).trans d1_5,(zAh l1_0).trans d1_6,(zAh l1_0).trans d1_7,(zAh l1_0).trans d1_8,(zAh l1_0).trans d1_9,(zAh ln1).trans cn1⟩ | exact⟨c2_0_0,c2_0_1,c2_0_2,c2_0_3,c2_0_4,c2_0_5,c2_0_6,c2_0_7,c2_0_8,c2_0_9,c2_0_10⟩ | exact⟨(zAh e2_0_0).trans c2_0_0,(zAh e2_0_1).trans c2_0_1,(zAh e2_0_2).trans c2_0_2,(zAh e2_0_3).trans c2_0_3,(zAh e2_0_4).trans c2_0_4,(zAh e2_0_5).trans c2_0_5,(zAh e2_0_6).trans c2_0_6,(zAh e2_0_7).trans c2_0_7,(zAh e2_0_8).trans c2_0_8,(zAh e2_0_9).trans c2_0_9,(zAh e2_0_10).trans c2_0_10⟩ | exact⟨c2_1_0,c2_1_1,c2_1_2,c2_1_3,c2_1_4,c2_1_5,c2_1_6,c2_1_7,c2_1_8,c2_1_9,c2_1_10⟩ | exact⟨(zAh e2_1_0).trans c2_1_0,(zAh e2_1_1).trans c2_1_1,(zAh e2_1_2).trans c2_1_2,(zAh e2_1_3).trans c2_1_3,(zAh e2_1_4).trans c2_1_4,(zAh e2_1_5).trans c2_1_5,(zAh e2_1_6).trans c2_1_6,(zAh e2_1_7).trans c2_1_7,(zAh e2_1_8).trans c2_1_8,(zAh e2_1_9).trans c2_1_9,(zAh e2_1_10).trans c2_1_10⟩ | exact⟨(zAg (by omega)).trans c2_1_0,(zAg (by omega)).trans c2_1_1,(zAg (by omega)).trans c2_1_2,(zAg (by omega)).trans c2_1_3,(zAg (by omega)).trans c2_1_4,(zAg (by omega)).trans c2_1_5,(zAg (by omega)).trans c2_1_6,(zAg (by omega)).trans c2_1_7,(zAg (by omega)).trans c2_1_8,(zAg (by omega)).trans c2_1_9,(zAg (by omega)).trans c2_1_10⟩) (first
   | (go_at_call_of 67 (Value.slice (some ⟨q1_0,0,none⟩) n n);refine (zCg q1_0 g3 n _ _ _ (by first | exact Q1_0.out | exact Q1_0.out.below ((Below.refl _ _).alloc (Nat.le_refl _) _)) (HF1.out.r3.below (by first | exact B1_0.out | exact B1_0.out.alloc B1_0.out.size _))).mono ?_;rintro e w1_1 ⟨q1_1,rfl,hq1_1,hb1_1⟩;have B1_1:Hid (Below W1.heap.size W1 w1_1):=(by first | exact zAm B1_0.out (Nat.le_refl _) hb1_1 | exact zAm (B1_0.out.alloc B1_0.out.size _) (Nat.le_refl _) hb1_1);have c2_1_0:=cfL B1_1.out l1_0 d1_0;have c2_1_1:=cfL B1_1.out l1_0 d1_1;have c2_1_2:=cfL B1_1.out l1_0 d1_2;have c2_1_3:=cfL B1_1.out l1_0 d1_3;have c2_1_4:=cfL B1_1.out l1_0 d1_4;have c2_1_5:=cfL B1_1.out l1_0 d1_5;have c2_1_6:=cfL B1_1.out l1_0 d1_6;have c2_1_7:=cfL B1_1.out l1_0 d1_7;have c2_1_8:=cfL B1_1.out l1_0 d1_8;have c2_1_9:=cfL B1_1.out l1_0 d1_9;have c2_1_10:=cfL B1_1.out ln1 cn1;have e2_1_0:=Nat.lt_of_lt_of_le l1_0 B1_1.out.size;have e2_1_1:=Nat.lt_of_lt_of_le l1_0 B1_1.out.size;have e2_1_2:=Nat.lt_of_lt_of_le l1_0 B1_1.out.size;have e2_1_3:=Nat.lt_of_lt_of_le l1_0 B1_1.out.size;have e2_1_4:=Nat.lt_of_lt_of_le l1_0 B1_1.out.size;have e2_1_5:=Nat.lt_of_lt_of_le l1_0 B1_1.out.size;have e2_1_6:=Nat.lt_of_lt_of_le l1_0 B1_1.out.size;have e2_1_7:=Nat.lt_of_lt_of_le l1_0 B1_1.out.size;have e2_1_8:=Nat.lt_of_lt_of_le l1_0 B1_1.out.size;have e2_1_9:=Nat.lt_of_lt_of_le l1_0 B1_1.out.size;have e2_1_10:=Nat.lt_of_lt_of_le ln1 B1_1.out.size;(try (have bx1:w1_1.cell? ⟨w1_0.heap.size,0,none⟩=some (.slice none 0 0)∧w1_1.frozen? ⟨w1_0.heap.size,0,none⟩=false∧w1_1.heap[w1_0.heap.size]?=some (.cells #[.slice none 0 0] 68 (0,0)):=(by first | exact zBs hb1_1 | exact zBs (w:=w1_0.drew) hb1_1)));(try (have by1_0:w1_1.cell? ⟨W1.heap.size,0,none⟩=some (.slice none 0 0)∧w1_1.frozen? ⟨W1.heap.size,0,none⟩=false∧w1_1.heap[W1.heap.size]?=some (.cells #[.slice none 0 0] 68 (0,0)):=zFa hb1_1 bx0));(try have bc:=bx1.1);(try have bf:=bx1.2.1);(try have bc:=by1_0.1);(try have bf:=by1_0.2.1);have Q1_1:=zAa hq1_1;clear hq1_1)
   | (go_at_call 65;refine (zGx (FA.mk n (.slice x n c) g1 g2 g3 g4 g5 g6 g7 g8 g9) f q0_0 _ _ (HF1.out.below (by first | exact (Below.refl _ _).drew | exact ((Below.refl _ _).drew).alloc (by simp) _)) (R1_1.out.below (by first | exact (Below.refl _ _).drew | exact ((Below.refl _ _).drew).alloc (by simp) _))).mono ?_;rintro e w1_0 ⟨q1_0,rfl,hq1_0,hb1_0⟩;have B1_0:Hid (Below W1.heap.size W1 w1_0):=(by first | exact ((Below.refl W1.heap.size W1).drew).trans (hb1_0.mono (by simp)) | exact (((Below.refl W1.heap.size W1).drew).alloc (by simp) _).trans (hb1_0.mono (by simp)));have c2_0_0:=cfL B1_0.out l1_0 d1_0;have c2_0_1:=cfL B1_0.out l1_0 d1_1;have c2_0_2:=cfL B1_0.out l1_0 d1_2;have c2_0_3:=cfL B1_0.out l1_0 d1_3;have c2_0_4:=cfL B1_0.out l1_0 d1_4;have c2_0_5:=cfL B1_0.out l1_0 d1_5;have c2_0_6:=cfL B1_0.out l1_0 d1_6;have c2_0_7:=cfL B1_0.out l1_0 d1_7;have c2_0_8:=cfL B1_0.out l1_0 d1_8;have c2_0_9:=cfL B1_0.out l1_0 d1_9;have c2_0_10:=cfL B1_0.out ln1 cn1;have e2_0_0:=Nat.lt_of_lt_of_le l1_0 B1_0.out.size;have e2_0_1:=Nat.lt_of_lt_of_le l1_0 B1_0.out.size;have e2_0_2:=Nat.lt_of_lt_of_le l1_0 B1_0.out.size;have e2_0_3:=Nat.lt_of_lt_of_le l1_0 B1_0.out.size;have e2_0_4:=Nat.lt_of_lt_of_le l1_0 B1_0.out.size;have e2_0_5:=Nat.lt_of_lt_of_le l1_0 B1_0.out.size;have e2_0_6:=Nat.lt_of_lt_of_le l1_0 B1_0.out.size;have e2_0_7:=Nat.lt_of_lt_of_le l1_0 B1_0.out.size;have e2_0_8:=Nat.lt_of_lt_of_le l1_0 B1_0.out.size;have e2_0_9:=Nat.lt_of_lt_of_le l1_0 B1_0.out.size;have e2_0_10:=Nat.lt_of_lt_of_le ln1 B1_0.out.size;(try (have bx0:w1_0.cell? ⟨W1.heap.size,0,none⟩=some (.slice none 0 0)∧w1_0.frozen? ⟨W1.heap.size,0,none⟩=false∧w1_0.heap[W1.heap.size]?=some (.cells #[.slice none 0 0] 68 (0,0)):=(by first | exact zBs hb1_0 | exact zBs (w:=W1.drew) hb1_0)));(try have bc:=bx0.1);(try have bf:=bx0.2.1);have Q1_0:=zAa hq1_0;clear hq1_0))
  all_goals
   (try go_wp2)
   go_meet
   case rel=>first | exact zCZ B1_1.out Q1_1.out | exact zBH B1_1.out hgeW Q1_1.out by1_0.2.2 | exact zBH B1_1.out B1_0.out.size Q1_1.out bx1.2.2
 case rest =>
 obtain⟨gx2,qx2,rfl,kx2,hqx2,hbx2,hgx2⟩:=hcut
 have HF2:=zAa (HF1.out.below hbx2)
 have R2_0:=zAa (R1_0.out.below hbx2)
 have R2_1:=zAa (R1_1.out.below hbx2)
 have R2_2:=zAa hqx2
 have BW2:=zAa (zAm BW1.out (Nat.le_refl _) hbx2)
 have d2_0:=cfL hbx2 l1_0 d1_0
 have d2_1:=cfL hbx2 l1_0 d1_1
 have d2_2:=cfL hbx2 l1_0 d1_2
 have d2_3:=cfL hbx2 l1_0 d1_3
 have d2_4:=cfL hbx2 l1_0 d1_4
 have d2_5:=cfL hbx2 l1_0 d1_5
 have d2_6:=cfL hbx2 l1_0 d1_6
 have d2_7:=cfL hbx2 l1_0 d1_7
 have d2_8:=cfL hbx2 l1_0 d1_8
 have d2_9:=cfL hbx2 l1_0 d1_9
 have d2_10:=cfL hbx2 l1_0 d1_10
 have d2_11:=cfL hbx2 l1_1 d1_11
 have d2_12:=cfL hbx2 l1_1 d1_12
 have d2_13:=cfL hbx2 ln1 cn1
 have f2_0:∀ j,wc.frozen? ⟨w.heap.size,j,none⟩=false:=fun j=>(hbx2.frozen (p:=⟨w.heap.size,j,none⟩) l1_0).trans (f1_0 j)
 have l2_0:=Nat.lt_of_lt_of_le l1_0 hbx2.size
 have K2_0:=zAa ((hbx2.block _ l1_0).trans K1_0.out)
 have f2_1:∀ j,wc.frozen? ⟨w.heap.size+1,j,none⟩=false:=fun j=>(hbx2.frozen (p:=⟨w.heap.size+1,j,none⟩) l1_1).trans (f1_1 j)
 have l2_1:=Nat.lt_of_lt_of_le l1_1 hbx2.size
 have K2_1:=zAa ((hbx2.block _ l1_1).trans K1_1.out)
 have f2_2:∀ j,wc.frozen? ⟨w0_0.heap.size,j,none⟩=false:=fun j=>(hbx2.frozen (p:=⟨w0_0.heap.size,j,none⟩) ln1).trans (fm1 j)
 have l2_2:=Nat.lt_of_lt_of_le ln1 hbx2.size
 have K2_2:=zAa ((hbx2.block _ ln1).trans KN1.out)
 obtain⟨cn2,fn2,ln2⟩:=zAk kx2
 have KN2:=zAa kx2
 have HBX2:=zAa hbx2
 clear kx2 hqx2 hbx2 d1_0 d1_1 d1_2 d1_3 d1_4 d1_5 d1_6 d1_7 d1_8 d1_9 d1_10 d1_11 d1_12 cn1
 go_upto_region 4 with fail
 generalize wc=Wz at *
 have HWc:=zAa (HW0.out.below BW2.out)
 go_upto_region 5 with (first
  | (go_at_call 90;refine (zED _ _ wd.events _ HWc.out.evs ⟨_,_,_,rfl⟩ hn64).mono ?_;rintro e w1 ⟨gro,gb,gd,rfl,hir,hib,hid,hgr,hgb,hgd,hn1,hn2,hb1⟩;have B1:=zAa hb1;have IR:=zAa hir;have IB:=zAa hib;have ID:=zAa hid;clear hir hib hid hb1))
 have S0:Hid ((w1.alloc (.cells #[.slice (some ⟨gro,0,none⟩) (Q.zNV wd.events).length (Q.zNV wd.events).length,.slice (some ⟨gb,0,none⟩) (Q.zNU wd.events (Q.zNV wd.events)).length (Q.zNU wd.events (Q.zNV wd.events)).length,.slice (some ⟨gd,0,none⟩) (Q.zNU wd.events (Q.zNV wd.events)).length (Q.zNU wd.events (Q.zNV wd.events)).length,.bool false] 124)).heap[w1.heap.size]?=some (.cells #[.slice (some ⟨gro,0,none⟩) (Q.zNV wd.events).length (Q.zNV wd.events).length,.slice (some ⟨gb,0,none⟩) (Q.zNU wd.events (Q.zNV wd.events)).length (Q.zNU wd.events (Q.zNV wd.events)).length,.slice (some ⟨gd,0,none⟩) (Q.zNU wd.events (Q.zNV wd.events)).length (Q.zNU wd.events (Q.zNV wd.events)).length,.bool false] 124 (0,0))):=heap_alloc_new w1 _
 have BL:Hid (Below w1.heap.size w1 (w1.alloc (.cells #[.slice (some ⟨gro,0,none⟩) (Q.zNV wd.events).length (Q.zNV wd.events).length,.slice (some ⟨gb,0,none⟩) (Q.zNU wd.events (Q.zNV wd.events)).length (Q.zNU wd.events (Q.zNV wd.events)).length,.slice (some ⟨gd,0,none⟩) (Q.zNU wd.events (Q.zNV wd.events)).length (Q.zNU wd.events (Q.zNV wd.events)).length,.bool false] 124))):=(Below.refl _ _).alloc (Nat.le_refl _) _
 generalize w1.alloc (.cells #[.slice (some ⟨gro,0,none⟩) (Q.zNV wd.events).length (Q.zNV wd.events).length,.slice (some ⟨gb,0,none⟩) (Q.zNU wd.events (Q.zNV wd.events)).length (Q.zNU wd.events (Q.zNV wd.events)).length,.slice (some ⟨gd,0,none⟩) (Q.zNU wd.events (Q.zNV wd.events)).length (Q.zNU wd.events (Q.zNV wd.events)).length,.bool false] 124)=W1 at *
 have hs1:=B1.out.size
 have hs2:=BL.out.size
 have hs3:w1.heap.size<W1.heap.size:=(Array.getElem?_eq_some_iff.1 S0.out).1
 have hl1:=IR.out.lt
 have hl2:=IB.out.lt
 have hl3:=ID.out.lt
 have BWW:Hid (Below Wz.heap.size Wz W1):=zAm B1.out (Nat.le_refl _) BL.out
 have INI:Hid (zGz Wz w1.heap.size gro gb gd W1.heap.size f rd wd n fin (.slice none 0 0,W1) (Q.zOi (Q.zNU wd.events (Q.zNV wd.events))).length):=⟨_,_,[],[],zFz IR.out IB.out ID.out hn1 hn2 HBL.out S0.out BL.out,BWW.out,by rw[List.nil_append];exact HFO.out.symm,RelsIn.nil _ _,fun k e=>by simp[Value.ownBlock] at e,rfl,Nat.le_refl _,_,S0.out⟩
 have hgo1:Wz.heap.size≤w1.heap.size∧w1.heap.size<W1.heap.size:=⟨by omega,by omega⟩
 have hgr1:Wz.heap.size≤gro∧gro<W1.heap.size:=⟨by omega,by omega⟩
 have hgb1:Wz.heap.size≤gb∧gb<W1.heap.size:=⟨by omega,by omega⟩
 have hgd1:Wz.heap.size≤gd∧gd<W1.heap.size:=⟨by omega,by omega⟩
 clear BL B1 S0 IR IB ID hs1 hs2 hl1 hl2 hl3 hgr hgb hgd hs3 hn1 hn2
 generalize w1.heap.size=go at *
 generalize W1.heap.size=N1 at *
 generalize hsb:w0_0.heap.size=sb at *
 clear hsb
 obtain⟨μ,hμ⟩:=zIo (zGz Wz go gro gb gd N1 f rd wd n fin)
 have HMU:=zAa hμ
 clear hμ d2_0 d2_1 d2_2 d2_3 d2_4 d2_5 d2_6 d2_7 d2_8 d2_9 d2_10 d2_11 d2_12 d2_13 cn2 f2_0 f2_1 f2_2 fn2
 go_loopw [5] (fun v wr=>∃ v' m,v=v'∧Hid (zGz Wz go gro gb gd N1 f rd wd n fin (v',wr) m)) (fun v wr=>μ (v,wr))
 case atStart=>exact⟨_,_,rfl,INI⟩
 case round =>
 obtain⟨vv,m0,hv0,h0⟩:=hrel
 have hv0:=hv0.symm
 subst hv0
 obtain⟨hI,hmin⟩:=HMU.out (vv,wr) ⟨m0,h0.out⟩
 clear h0 hmin INI
 obtain⟨ds1,rest1,done,gs,hord,hbel,hfd,hrels,hvb,hlen,hn1s,cg,htg⟩:=hI
 simp only at hord hbel hrels hvb hlen hn1s htg
 have HTG:=zAa htg
 have ORD:=zAa hord
 have BEL:=zAa hbel
 have FD:=zAa hfd
 have RLS:=zAa hrels
 have HVB:=zAa hvb
 have HL:=zAa hlen
 have hdl:done.length<100000000:=by
  have:=HFIN.out
  rw[← hfd,List.length_append] at this
  omega
 obtain⟨va,vc,hvv⟩:=zCQ hrels.own
 subst hvv
 have lgo:go<wr.heap.size:=by omega
 clear hord hbel hfd hrels hvb hlen htg
 go_upto_region 6 with (first | (go_at_call 70;refine (zDh go gro gb gd _ _ ds1 rest1 _ ORD.out hbl64 HBM.out).mono ?_;rintro e w2 ⟨h1,hT⟩;have HT:=zAa hT;clear hT;rcases h1 with ⟨hr,rfl⟩ | ⟨r,q,hr,rfl,hon,hdo⟩))
 ·go_wp2
  go_ret
  have h3:=FD.out
  rw[hr] at h3
  simp only[Q.zOX,List.filter_nil,List.map_nil,List.append_nil] at h3
  rw[← h3]
  obtain⟨b,hcc⟩:=ORD.out.ctr.ctr
  exact⟨_,gs,rfl,RLS.out.tick HT.out (fun k e=>⟨by have:=HVB.out k e;omega,by have:=HVB.out k e;omega⟩) hcc HTG.out (by decide),(zAm BW2.out (Nat.le_refl _) BEL.out).trans (HT.out.below (by have:=BW2.out.size;omega) (by have:=BW2.out.size;omega))⟩
 ·have FDX:Hid (done++Q.zOX f rd wd (r::q)=fin):=by
   have h3:=FD.out
   rw[hr] at h3
   exact h3
  have HL2:Hid (q.length+1=μ (Value.slice va done.length vc,wr)):=by
   have h3:=HL.out
   rw[hr,List.length_cons] at h3
   exact h3
  obtain⟨b,hcc⟩:=ORD.out.ctr.ctr
  have RLS2:=zAa (RLS.out.tick HT.out (fun k e=>⟨by have:=HVB.out k e;omega,by have:=HVB.out k e;omega⟩) hcc HTG.out (by decide))
  have BEL2:Hid (Below Wz.heap.size Wz w2):=BEL.out.trans (HT.out.below (by omega) (by omega))
  have HTG2:Hid (∃ cg,w2.heap[go]?=some (.cells cg 124 (0,0))):=by
   obtain⟨c',h5,_⟩:=HT.out.shape _ _ _ HTG.out
   exact⟨c',h5⟩
  have ORD2:=zAa hon
  have HDO:=zAa hdo
  have hn2s:N1≤w2.heap.size:=by rw[HT.out.size];exact hn1s
  have HPL:Hid ((Q.zNW (Q.zNV wd.events) r).length=n):=by unfold Hid;rw[Q.zOr,HFL.out,HNL.out]
  have lgo2:go<w2.heap.size:=by rw[HT.out.size];exact lgo
  have HF3:=zAa (HF2.out.below BEL2.out)
  have R3_0:=zAa (R2_0.out.below BEL2.out)
  have R3_1:=zAa (R2_1.out.below BEL2.out)
  have R3_2:=zAa (R2_2.out.below BEL2.out)
  have BW3:=zAa (zAm BW2.out (Nat.le_refl _) BEL2.out)
  have K3_0:=zAa ((BEL2.out.block _ l2_0).trans K2_0.out)
  have K3_1:=zAa ((BEL2.out.block _ l2_2).trans K2_2.out)
  have K3_2:=zAa ((BEL2.out.block _ ln2).trans KN2.out)
  have l3_0:=Nat.lt_of_lt_of_le l2_0 BEL2.out.size
  have l3_1:=Nat.lt_of_lt_of_le l2_2 BEL2.out.size
  have l3_2:=Nat.lt_of_lt_of_le ln2 BEL2.out.size
  have d3_11:w2.cell? ⟨sb,0,none⟩=some (.slice (some ⟨q0_0,0,none⟩) n n):=by have h9:=K3_1.out;simp[World.cell?,h9]
  have d3_12:w2.cell? ⟨gx2,0,none⟩=some (.slice (some ⟨qx2,0,none⟩) n n):=by have h9:=K3_2.out;simp[World.cell?,h9]
  have kk:=K3_0.out
  have d3_0:=ceL kk 0 _ rfl
  have d3_1:=ceL kk 1 _ rfl
  have d3_2:=ceL kk 2 _ rfl
  have d3_3:=ceL kk 3 _ rfl
  have d3_4:=ceL kk 4 _ rfl
  have d3_5:=ceL kk 5 _ rfl
  have d3_6:=ceL kk 6 _ rfl
  have d3_7:=ceL kk 7 _ rfl
  have d3_8:=ceL kk 8 _ rfl
  have d3_9:=ceL kk 9 _ rfl
  have d3_10:=ceL kk 10 _ rfl
  have f3_0:∀ j,w2.frozen? ⟨w.heap.size,j,none⟩=false:=fun j=>by have h9:=K3_0.out;simp[World.frozen?,h9]
  have f3_1:∀ j,w2.frozen? ⟨sb,j,none⟩=false:=fun j=>by have h9:=K3_1.out;simp[World.frozen?,h9]
  have f3_2:∀ j,w2.frozen? ⟨gx2,j,none⟩=false:=fun j=>by have h9:=K3_2.out;simp[World.frozen?,h9]
  have hn12:=hn2s
  clear kk hr hon hdo HT FD HL hcc RLS BEL ORD HTG lgo hn1s cg BWW b
  clear HF HF1 HF2 R1_0 R1_1 R2_0 R2_1 R2_2 BW0 BW1 K0_0 K0_1 K1_0 K1_1 K2_0 K2_1 K2_2 KN1 KN2 HWc B0_0 Q0_0 Rr l0_0 f0_0 l0_1 f0_1 hsq0 hb0_0 hsq1 HBX2 f1_0 l1_0 f1_1 l1_1 fn1 ln1 fm1
  go_cut [9] from 27 to 30 (fun p wx=>∃ gx qx,p=.pointer (some ⟨gx,0,none⟩)∧wx.heap[gx]?=some (.cells #[.slice (some ⟨qx,0,none⟩) n n] 68 (0,0))∧RelAt wx qx n (f.fencesBehind (Q.zNW (Q.zNV wd.events) r))∧Below w2.heap.size w2 wx∧w2.heap.size≤gx)
  case first =>
   clear d3_10 d3_11 d3_12 f3_0 f3_1 f3_2
   have hgeW:=Nat.le_refl w2.heap.size
   go_region_held3 (fun w'=>w'.cell? ⟨w.heap.size,0,none⟩=some (.slice x n c)∧w'.cell? ⟨w.heap.size,1,none⟩=some (.slice (some ⟨g1,0,none⟩) n n)∧w'.cell? ⟨w.heap.size,2,none⟩=some (.slice (some ⟨g2,0,none⟩) n n)∧w'.cell? ⟨w.heap.size,3,none⟩=some (.slice (some ⟨g3,0,none⟩) n n)∧w'.cell? ⟨w.heap.size,4,none⟩=some (.slice (some ⟨g4,0,none⟩) n n)∧w'.cell? ⟨w.heap.size,5,none⟩=some (.slice (some ⟨g5,0,none⟩) n n)∧w'.cell? ⟨w.heap.size,6,none⟩=some (.slice (some ⟨g6,0,none⟩) n n)∧w'.cell? ⟨w.heap.size,7,none⟩=some (.slice (some ⟨g7,0,none⟩) n n)∧w'.cell? ⟨w.heap.size,8,none⟩=some (.slice (some ⟨g8,0,none⟩) n n)∧w'.cell? ⟨w.heap.size,9,none⟩=some (.slice (some ⟨g9,0,none⟩) n n)) (first | exact⟨d3_0,d3_1,d3_2,d3_3,d3_4,d3_5,d3_6,d3_7,d3_8,d3_9⟩ | exact⟨(zAh l3_0).trans d3_0,(zAh l3_0).trans d3_1,(zAh l3_0).trans d3_2,(zAh l3_0).trans d3_3,(zAh l3_0).trans d3_4,(zAh l3_0).trans d3_5,(zAh l3_0).trans d3_6,(zAh l3_0).trans d3_7,(zAh l3_0).trans d3_8,(zAh l3_0).trans d3_9⟩ | exact⟨c4_0_0,c4_0_1,c4_0_2,c4_0_3,c4_0_4,c4_0_5,c4_0_6,c4_0_7,c4_0_8,c4_0_9⟩ | exact⟨(zAh e4_0_0).trans c4_0_0,(zAh e4_0_1).trans c4_0_1,(zAh e4_0_2).trans c4_0_2,(zAh e4_0_3).trans c4_0_3,(zAh e4_0_4).trans c4_0_4,(zAh e4_0_5).trans c4_0_5,(zAh e4_0_6).trans c4_0_6,(zAh e4_0_7).trans c4_0_7,(zAh e4_0_8).trans c4_0_8,(zAh e4_0_9).trans c4_0_9⟩ | exact⟨c4_1_0,c4_1_1,c4_1_2,c4_1_3,c4_1_4,c4_1_5,c4_1_6,c4_1_7,c4_1_8,c4_1_9⟩ | exact⟨(zAh e4_1_0).trans c4_1_0,(zAh e4_1_1).trans c4_1_1,(zAh e4_1_2).trans c4_1_2,(zAh e4_1_3).trans c4_1_3,(zAh e4_1_4).trans c4_1_4,(zAh e4_1_5).trans c4_1_5,(zAh e4_1_6).trans c4_1_6,(zAh e4_1_7).trans c4_1_7,(zAh e4_1_8).trans c4_1_8,(zAh e4_1_9).trans c4_1_9⟩ | exact⟨(zAg (by omega)).trans c4_1_0,(zAg (by omega)).trans c4_1_1,(zAg (by omega)).trans c4_1_2,(zAg (by omega)).trans c4_1_3,(zAg (by omega)).trans c4_1_4,(zAg (by omega)).trans c4_1_5,(zAg (by omega)).trans c4_1_6,(zAg (by omega)).trans c4_1_7,(zAg (by omega)).trans c4_1_8,(zAg (by omega)).trans c4_1_9⟩) (first
    | (go_at_call 91;refine (zEb (FA.mk n (.slice x n c) g1 g2 g3 g4 g5 g6 g7 g8 g9) f _ (Q.zNW (Q.zNV wd.events) r) _ (HF3.out.below (by first | exact B3_0.out | exact B3_0.out.alloc B3_0.out.size _)) (by first | exact PL.out | exact PL.out.below ((Below.refl _ _).alloc (Nat.le_refl _) _)) HPL.out).mono ?_;rintro e w3_1 ⟨q3_1,rfl,hq3_1,hb3_1⟩;have B3_1:Hid (Below w2.heap.size w2 w3_1):=(by first | exact zAm B3_0.out (Nat.le_refl _) hb3_1 | exact zAm (B3_0.out.alloc B3_0.out.size _) (Nat.le_refl _) hb3_1);have c4_1_0:=cfL B3_1.out l3_0 d3_0;have c4_1_1:=cfL B3_1.out l3_0 d3_1;have c4_1_2:=cfL B3_1.out l3_0 d3_2;have c4_1_3:=cfL B3_1.out l3_0 d3_3;have c4_1_4:=cfL B3_1.out l3_0 d3_4;have c4_1_5:=cfL B3_1.out l3_0 d3_5;have c4_1_6:=cfL B3_1.out l3_0 d3_6;have c4_1_7:=cfL B3_1.out l3_0 d3_7;have c4_1_8:=cfL B3_1.out l3_0 d3_8;have c4_1_9:=cfL B3_1.out l3_0 d3_9;have e4_1_0:=Nat.lt_of_lt_of_le l3_0 B3_1.out.size;have e4_1_1:=Nat.lt_of_lt_of_le l3_0 B3_1.out.size;have e4_1_2:=Nat.lt_of_lt_of_le l3_0 B3_1.out.size;have e4_1_3:=Nat.lt_of_lt_of_le l3_0 B3_1.out.size;have e4_1_4:=Nat.lt_of_lt_of_le l3_0 B3_1.out.size;have e4_1_5:=Nat.lt_of_lt_of_le l3_0 B3_1.out.size;have e4_1_6:=Nat.lt_of_lt_of_le l3_0 B3_1.out.size;have e4_1_7:=Nat.lt_of_lt_of_le l3_0 B3_1.out.size;have e4_1_8:=Nat.lt_of_lt_of_le l3_0 B3_1.out.size;have e4_1_9:=Nat.lt_of_lt_of_le l3_0 B3_1.out.size;(try (have bx1:w3_1.cell? ⟨w3_0.heap.size,0,none⟩=some (.slice none 0 0)∧w3_1.frozen? ⟨w3_0.heap.size,0,none⟩=false∧w3_1.heap[w3_0.heap.size]?=some (.cells #[.slice none 0 0] 68 (0,0)):=(by first | exact zBs hb3_1 | exact zBs (w:=w3_0.drew) hb3_1)));(try (have by1_0:w3_1.cell? ⟨w2.heap.size,0,none⟩=some (.slice none 0 0)∧w3_1.frozen? ⟨w2.heap.size,0,none⟩=false∧w3_1.heap[w2.heap.size]?=some (.cells #[.slice none 0 0] 68 (0,0)):=zFa hb3_1 bx0));(try have bc:=bx1.1);(try have bf:=bx1.2.1);(try have bc:=by1_0.1);(try have bf:=by1_0.2.1);have Q3_1:=zAa hq3_1;clear hq3_1)
    | (go_at_call 71;refine (zCC go gro gb gd _ _ r q _ (ORD2.out.below (by first | exact (Below.refl _ _).drew | exact ((Below.refl _ _).drew).alloc (by simp) _)) HDO.out HBM.out hwl64).mono ?_;rintro e w3_0 ⟨gp,rfl,hip,hgp,hb3_0⟩;have B3_0:Hid (Below w2.heap.size w2 w3_0):=(by first | exact ((Below.refl w2.heap.size w2).drew).trans (hb3_0.mono (by simp)) | exact (((Below.refl w2.heap.size w2).drew).alloc (by simp) _).trans (hb3_0.mono (by simp)));have c4_0_0:=cfL B3_0.out l3_0 d3_0;have c4_0_1:=cfL B3_0.out l3_0 d3_1;have c4_0_2:=cfL B3_0.out l3_0 d3_2;have c4_0_3:=cfL B3_0.out l3_0 d3_3;have c4_0_4:=cfL B3_0.out l3_0 d3_4;have c4_0_5:=cfL B3_0.out l3_0 d3_5;have c4_0_6:=cfL B3_0.out l3_0 d3_6;have c4_0_7:=cfL B3_0.out l3_0 d3_7;have c4_0_8:=cfL B3_0.out l3_0 d3_8;have c4_0_9:=cfL B3_0.out l3_0 d3_9;have e4_0_0:=Nat.lt_of_lt_of_le l3_0 B3_0.out.size;have e4_0_1:=Nat.lt_of_lt_of_le l3_0 B3_0.out.size;have e4_0_2:=Nat.lt_of_lt_of_le l3_0 B3_0.out.size;have e4_0_3:=Nat.lt_of_lt_of_le l3_0 B3_0.out.size;have e4_0_4:=Nat.lt_of_lt_of_le l3_0 B3_0.out.size;have e4_0_5:=Nat.lt_of_lt_of_le l3_0 B3_0.out.size;have e4_0_6:=Nat.lt_of_lt_of_le l3_0 B3_0.out.size;have e4_0_7:=Nat.lt_of_lt_of_le l3_0 B3_0.out.size;have e4_0_8:=Nat.lt_of_lt_of_le l3_0 B3_0.out.size;have e4_0_9:=Nat.lt_of_lt_of_le l3_0 B3_0.out.size;(try (have bx0:w3_0.cell? ⟨w2.heap.size,0,none⟩=some (.slice none 0 0)∧w3_0.frozen? ⟨w2.heap.size,0,none⟩=false∧w3_0.heap[w2.heap.size]?=some (.cells #[.slice none 0 0] 68 (0,0)):=(by first | exact zBs hb3_0 | exact zBs (w:=w2.drew) hb3_0)));(try have bc:=bx0.1);(try have bf:=bx0.2.1);have PL:=zAa (show zBS _ (.slice (some ⟨gp,0,none⟩) (Q.zNV wd.events).length (Q.zNV wd.events).length) (Q.zNW (Q.zNV wd.events) r) from (by have h9:=hip.rowI (Q.zNV wd.events).length;rw[Q.zOr] at h9;exact h9));clear hip))
   all_goals
    (try go_wp2)
    go_meet
    case rel=>first | exact zCZ B3_1.out Q3_1.out | exact zBH B3_1.out hgeW Q3_1.out by1_0.2.2 | exact zBH B3_1.out B3_0.out.size Q3_1.out bx1.2.2
  case rest =>
  obtain⟨gx4,qx4,rfl,kx4,hqx4,hbx4,hgx4⟩:=hcut
  have HF4:=zAa (HF3.out.below hbx4)
  have R4_0:=zAa (R3_0.out.below hbx4)
  have R4_1:=zAa (R3_1.out.below hbx4)
  have R4_2:=zAa (R3_2.out.below hbx4)
  have R4_3:=zAa hqx4
  have BW4:=zAa (zAm BW3.out (Nat.le_refl _) hbx4)
  have d4_0:=cfL hbx4 l3_0 d3_0
  have d4_1:=cfL hbx4 l3_0 d3_1
  have d4_2:=cfL hbx4 l3_0 d3_2
  have d4_3:=cfL hbx4 l3_0 d3_3
  have d4_4:=cfL hbx4 l3_0 d3_4
  have d4_5:=cfL hbx4 l3_0 d3_5
  have d4_6:=cfL hbx4 l3_0 d3_6
  have d4_7:=cfL hbx4 l3_0 d3_7
  have d4_8:=cfL hbx4 l3_0 d3_8
  have d4_9:=cfL hbx4 l3_0 d3_9
  have d4_10:=cfL hbx4 l3_0 d3_10
  have d4_11:=cfL hbx4 l3_1 d3_11
  have d4_12:=cfL hbx4 l3_2 d3_12
  have f4_0:∀ j,wc.frozen? ⟨w.heap.size,j,none⟩=false:=fun j=>(hbx4.frozen (p:=⟨w.heap.size,j,none⟩) l3_0).trans (f3_0 j)
  have l4_0:=Nat.lt_of_lt_of_le l3_0 hbx4.size
  have K4_0:=zAa ((hbx4.block _ l3_0).trans K3_0.out)
  have f4_1:∀ j,wc.frozen? ⟨sb,j,none⟩=false:=fun j=>(hbx4.frozen (p:=⟨sb,j,none⟩) l3_1).trans (f3_1 j)
  have l4_1:=Nat.lt_of_lt_of_le l3_1 hbx4.size
  have K4_1:=zAa ((hbx4.block _ l3_1).trans K3_1.out)
  have f4_2:∀ j,wc.frozen? ⟨gx2,j,none⟩=false:=fun j=>(hbx4.frozen (p:=⟨gx2,j,none⟩) l3_2).trans (f3_2 j)
  have l4_2:=Nat.lt_of_lt_of_le l3_2 hbx4.size
  have K4_2:=zAa ((hbx4.block _ l3_2).trans K3_2.out)
  obtain⟨cn4,fn4,ln4⟩:=zAk kx4
  have KN4:=zAa kx4
  have HBX4:=zAa hbx4
  clear kx4 hqx4 hbx4 d3_0 d3_1 d3_2 d3_3 d3_4 d3_5 d3_6 d3_7 d3_8 d3_9 d3_10 d3_11 d3_12
  go_upto_region 7 with fail
  generalize wc=Wy at *
  have fm4:∀ j,Wy.frozen? ⟨gx4,j,none⟩=false:=fun j=>by have h9:=KN4.out;simp[World.frozen?,h9]
  go_cut [10] from 31 to 36 (fun p wx=>∃ gx qx,p=.pointer (some ⟨gx,0,none⟩)∧wx.heap[gx]?=some (.cells #[.slice (some ⟨qx,0,none⟩) n n] 68 (0,0))∧RelAt wx qx n (f.cause (f.sees rd) (Q.orR (Q.orR (f.tells (f.sees rd)) f.gathers) (f.fencesBehind (Q.zNW (Q.zNV wd.events) r))))∧Below Wy.heap.size Wy wx∧Wy.heap.size≤gx)
  case first =>
   clear f4_0 f4_1 f4_2 fm4
   have hgeW:=Nat.le_refl Wy.heap.size
   go_region_held3 (fun w'=>w'.cell? ⟨w.heap.size,0,none⟩=some (.slice x n c)∧w'.cell? ⟨w.heap.size,1,none⟩=some (.slice (some ⟨g1,0,none⟩) n n)∧w'.cell? ⟨w.heap.size,2,none⟩=some (.slice (some ⟨g2,0,none⟩) n n)∧w'.cell? ⟨w.heap.size,3,none⟩=some (.slice (some ⟨g3,0,none⟩) n n)∧w'.cell? ⟨w.heap.size,4,none⟩=some (.slice (some ⟨g4,0,none⟩) n n)∧w'.cell? ⟨w.heap.size,5,none⟩=some (.slice (some ⟨g5,0,none⟩) n n)∧w'.cell? ⟨w.heap.size,6,none⟩=some (.slice (some ⟨g6,0,none⟩) n n)∧w'.cell? ⟨w.heap.size,7,none⟩=some (.slice (some ⟨g7,0,none⟩) n n)∧w'.cell? ⟨w.heap.size,8,none⟩=some (.slice (some ⟨g8,0,none⟩) n n)∧w'.cell? ⟨w.heap.size,9,none⟩=some (.slice (some ⟨g9,0,none⟩) n n)∧w'.cell? ⟨w.heap.size,10,none⟩=some (.slice (some ⟨gr,0,none⟩) n n)∧w'.cell? ⟨sb,0,none⟩=some (.slice (some ⟨q0_0,0,none⟩) n n)∧w'.cell? ⟨gx2,0,none⟩=some (.slice (some ⟨qx2,0,none⟩) n n)∧w'.cell? ⟨gx4,0,none⟩=some (.slice (some ⟨qx4,0,none⟩) n n)) (first | exact⟨d4_0,d4_1,d4_2,d4_3,d4_4,d4_5,d4_6,d4_7,d4_8,d4_9,d4_10,d4_11,d4_12,cn4⟩ | exact⟨(zAh l4_0).trans d4_0,(zAh l4_0).trans d4_1,(zAh l4_0).trans d4_2,(zAh l4_0).trans d4_3,(zAh l4_0).trans d4_4,(zAh l4_0).trans d4_5,(zAh l4_0).trans d4_6,(zAh l4_0).trans d4_7,(zAh l4_0).trans d4_8,(zAh l4_0).trans d4_9,(zAh l4_0).trans d4_10,(zAh l4_1).trans d4_11,(zAh l4_2).trans d4_12,(zAh ln4).trans cn4⟩ | exact⟨c5_0_0,c5_0_1,c5_0_2,c5_0_3,c5_0_4,c5_0_5,c5_0_6,c5_0_7,c5_0_8,c5_0_9,c5_0_10,c5_0_11,c5_0_12,c5_0_13⟩ | exact⟨(zAh e5_0_0).trans c5_0_0,(zAh e5_0_1).trans c5_0_1,(zAh e5_0_2).trans c5_0_2,(zAh e5_0_3).trans c5_0_3,(zAh e5_0_4).trans c5_0_4,(zAh e5_0_5).trans c5_0_5,(zAh e5_0_6).trans c5_0_6,(zAh e5_0_7).trans c5_0_7,(zAh e5_0_8).trans c5_0_8,(zAh e5_0_9).trans c5_0_9,(zAh e5_0_10).trans c5_0_10,(zAh e5_0_11).trans c5_0_11,(zAh e5_0_12).trans c5_0_12,(zAh e5_0_13).trans c5_0_13⟩ | exact⟨c5_1_0,c5_1_1,c5_1_2,c5_1_3,c5_1_4,c5_1_5,c5_1_6,c5_1_7,c5_1_8,c5_1_9,c5_1_10,c5_1_11,c5_1_12,c5_1_13⟩ | exact⟨(zAh e5_1_0).trans c5_1_0,(zAh e5_1_1).trans c5_1_1,(zAh e5_1_2).trans c5_1_2,(zAh e5_1_3).trans c5_1_3,(zAh e5_1_4).trans c5_1_4,(zAh e5_1_5).trans c5_1_5,(zAh e5_1_6).trans c5_1_6,(zAh e5_1_7).trans c5_1_7,(zAh e5_1_8).trans c5_1_8,(zAh e5_1_9).trans c5_1_9,(zAh e5_1_10).trans c5_1_10,(zAh e5_1_11).trans c5_1_11,(zAh e5_1_12).trans c5_1_12,(zAh e5_1_13).trans c5_1_13⟩ | exact⟨(zAg (by omega)).trans c5_1_0,(zAg (by omega)).trans c5_1_1,(zAg (by omega)).trans c5_1_2,(zAg (by omega)).trans c5_1_3,(zAg (by omega)).trans c5_1_4,(zAg (by omega)).trans c5_1_5,(zAg (by omega)).trans c5_1_6,(zAg (by omega)).trans c5_1_7,(zAg (by omega)).trans c5_1_8,(zAg (by omega)).trans c5_1_9,(zAg (by omega)).trans c5_1_10,(zAg (by omega)).trans c5_1_11,(zAg (by omega)).trans c5_1_12,(zAg (by omega)).trans c5_1_13⟩) (first
    | (go_at_call 92;refine (zJr (FA.mk n (.slice x n c) g1 g2 g3 g4 g5 g6 g7 g8 g9) f gr _ q0_0 _ q4_0 _ _ (HF4.out.below (by first | exact B4_0.out | exact B4_0.out.alloc B4_0.out.size _)) (R4_0.out.below (by first | exact B4_0.out | exact B4_0.out.alloc B4_0.out.size _)) (R4_1.out.below (by first | exact B4_0.out | exact B4_0.out.alloc B4_0.out.size _)) (by first | exact Q4_0.out | exact Q4_0.out.below ((Below.refl _ _).alloc (Nat.le_refl _) _))).mono ?_;rintro e w4_1 ⟨q4_1,rfl,hq4_1,hb4_1⟩;have B4_1:Hid (Below Wy.heap.size Wy w4_1):=(by first | exact zAm B4_0.out (Nat.le_refl _) hb4_1 | exact zAm (B4_0.out.alloc B4_0.out.size _) (Nat.le_refl _) hb4_1);have c5_1_0:=cfL B4_1.out l4_0 d4_0;have c5_1_1:=cfL B4_1.out l4_0 d4_1;have c5_1_2:=cfL B4_1.out l4_0 d4_2;have c5_1_3:=cfL B4_1.out l4_0 d4_3;have c5_1_4:=cfL B4_1.out l4_0 d4_4;have c5_1_5:=cfL B4_1.out l4_0 d4_5;have c5_1_6:=cfL B4_1.out l4_0 d4_6;have c5_1_7:=cfL B4_1.out l4_0 d4_7;have c5_1_8:=cfL B4_1.out l4_0 d4_8;have c5_1_9:=cfL B4_1.out l4_0 d4_9;have c5_1_10:=cfL B4_1.out l4_0 d4_10;have c5_1_11:=cfL B4_1.out l4_1 d4_11;have c5_1_12:=cfL B4_1.out l4_2 d4_12;have c5_1_13:=cfL B4_1.out ln4 cn4;have e5_1_0:=Nat.lt_of_lt_of_le l4_0 B4_1.out.size;have e5_1_1:=Nat.lt_of_lt_of_le l4_0 B4_1.out.size;have e5_1_2:=Nat.lt_of_lt_of_le l4_0 B4_1.out.size;have e5_1_3:=Nat.lt_of_lt_of_le l4_0 B4_1.out.size;have e5_1_4:=Nat.lt_of_lt_of_le l4_0 B4_1.out.size;have e5_1_5:=Nat.lt_of_lt_of_le l4_0 B4_1.out.size;have e5_1_6:=Nat.lt_of_lt_of_le l4_0 B4_1.out.size;have e5_1_7:=Nat.lt_of_lt_of_le l4_0 B4_1.out.size;have e5_1_8:=Nat.lt_of_lt_of_le l4_0 B4_1.out.size;have e5_1_9:=Nat.lt_of_lt_of_le l4_0 B4_1.out.size;have e5_1_10:=Nat.lt_of_lt_of_le l4_0 B4_1.out.size;have e5_1_11:=Nat.lt_of_lt_of_le l4_1 B4_1.out.size;have e5_1_12:=Nat.lt_of_lt_of_le l4_2 B4_1.out.size;have e5_1_13:=Nat.lt_of_lt_of_le ln4 B4_1.out.size;(try (have bx1:w4_1.cell? ⟨w4_0.heap.size,0,none⟩=some (.slice none 0 0)∧w4_1.frozen? ⟨w4_0.heap.size,0,none⟩=false∧w4_1.heap[w4_0.heap.size]?=some (.cells #[.slice none 0 0] 68 (0,0)):=(by first | exact zBs hb4_1 | exact zBs (w:=w4_0.drew) hb4_1)));(try (have by1_0:w4_1.cell? ⟨Wy.heap.size,0,none⟩=some (.slice none 0 0)∧w4_1.frozen? ⟨Wy.heap.size,0,none⟩=false∧w4_1.heap[Wy.heap.size]?=some (.cells #[.slice none 0 0] 68 (0,0)):=zFa hb4_1 bx0));(try have bc:=bx1.1);(try have bf:=bx1.2.1);(try have bc:=by1_0.1);(try have bf:=by1_0.2.1);have Q4_1:=zAa hq4_1;clear hq4_1)
    | (go_at_call_of 67 (Value.slice (some ⟨qx2,0,none⟩) n n);refine (zCg qx2 qx4 n _ _ _ (R4_2.out.below (by first | exact (Below.refl _ _).drew | exact ((Below.refl _ _).drew).alloc (by simp) _)) (R4_3.out.below (by first | exact (Below.refl _ _).drew | exact ((Below.refl _ _).drew).alloc (by simp) _))).mono ?_;rintro e w4_0 ⟨q4_0,rfl,hq4_0,hb4_0⟩;have B4_0:Hid (Below Wy.heap.size Wy w4_0):=(by first | exact ((Below.refl Wy.heap.size Wy).drew).trans (hb4_0.mono (by simp)) | exact (((Below.refl Wy.heap.size Wy).drew).alloc (by simp) _).trans (hb4_0.mono (by simp)));have c5_0_0:=cfL B4_0.out l4_0 d4_0;have c5_0_1:=cfL B4_0.out l4_0 d4_1;have c5_0_2:=cfL B4_0.out l4_0 d4_2;have c5_0_3:=cfL B4_0.out l4_0 d4_3;have c5_0_4:=cfL B4_0.out l4_0 d4_4;have c5_0_5:=cfL B4_0.out l4_0 d4_5;have c5_0_6:=cfL B4_0.out l4_0 d4_6;have c5_0_7:=cfL B4_0.out l4_0 d4_7;have c5_0_8:=cfL B4_0.out l4_0 d4_8;have c5_0_9:=cfL B4_0.out l4_0 d4_9;have c5_0_10:=cfL B4_0.out l4_0 d4_10;have c5_0_11:=cfL B4_0.out l4_1 d4_11;have c5_0_12:=cfL B4_0.out l4_2 d4_12;have c5_0_13:=cfL B4_0.out ln4 cn4;have e5_0_0:=Nat.lt_of_lt_of_le l4_0 B4_0.out.size;have e5_0_1:=Nat.lt_of_lt_of_le l4_0 B4_0.out.size;have e5_0_2:=Nat.lt_of_lt_of_le l4_0 B4_0.out.size;have e5_0_3:=Nat.lt_of_lt_of_le l4_0 B4_0.out.size;have e5_0_4:=Nat.lt_of_lt_of_le l4_0 B4_0.out.size;have e5_0_5:=Nat.lt_of_lt_of_le l4_0 B4_0.out.size;have e5_0_6:=Nat.lt_of_lt_of_le l4_0 B4_0.out.size;have e5_0_7:=Nat.lt_of_lt_of_le l4_0 B4_0.out.size;have e5_0_8:=Nat.lt_of_lt_of_le l4_0 B4_0.out.size;have e5_0_9:=Nat.lt_of_lt_of_le l4_0 B4_0.out.size;have e5_0_10:=Nat.lt_of_lt_of_le l4_0 B4_0.out.size;have e5_0_11:=Nat.lt_of_lt_of_le l4_1 B4_0.out.size;have e5_0_12:=Nat.lt_of_lt_of_le l4_2 B4_0.out.size;have e5_0_13:=Nat.lt_of_lt_of_le ln4 B4_0.out.size;(try (have bx0:w4_0.cell? ⟨Wy.heap.size,0,none⟩=some (.slice none 0 0)∧w4_0.frozen? ⟨Wy.heap.size,0,none⟩=false∧w4_0.heap[Wy.heap.size]?=some (.cells #[.slice none 0 0] 68 (0,0)):=(by first | exact zBs hb4_0 | exact zBs (w:=Wy.drew) hb4_0)));(try have bc:=bx0.1);(try have bf:=bx0.2.1);have Q4_0:=zAa hq4_0;clear hq4_0))
   all_goals
    (try go_wp2)
    go_meet
    case rel=>first | exact zCZ B4_1.out Q4_1.out | exact zBH B4_1.out hgeW Q4_1.out by1_0.2.2 | exact zBH B4_1.out B4_0.out.size Q4_1.out bx1.2.2
  case rest =>
  obtain⟨gx5,qx5,rfl,kx5,hqx5,hbx5,hgx5⟩:=hcut
  have HF5:=zAa (HF4.out.below hbx5)
  have R5_0:=zAa (R4_0.out.below hbx5)
  have R5_1:=zAa (R4_1.out.below hbx5)
  have R5_2:=zAa (R4_2.out.below hbx5)
  have R5_3:=zAa (R4_3.out.below hbx5)
  have R5_4:=zAa hqx5
  have BW5:=zAa (zAm BW4.out (Nat.le_refl _) hbx5)
  have d5_0:=cfL hbx5 l4_0 d4_0
  have d5_1:=cfL hbx5 l4_0 d4_1
  have d5_2:=cfL hbx5 l4_0 d4_2
  have d5_3:=cfL hbx5 l4_0 d4_3
  have d5_4:=cfL hbx5 l4_0 d4_4
  have d5_5:=cfL hbx5 l4_0 d4_5
  have d5_6:=cfL hbx5 l4_0 d4_6
  have d5_7:=cfL hbx5 l4_0 d4_7
  have d5_8:=cfL hbx5 l4_0 d4_8
  have d5_9:=cfL hbx5 l4_0 d4_9
  have d5_10:=cfL hbx5 l4_0 d4_10
  have d5_11:=cfL hbx5 l4_1 d4_11
  have d5_12:=cfL hbx5 l4_2 d4_12
  have d5_13:=cfL hbx5 ln4 cn4
  have f5_0:∀ j,wc.frozen? ⟨w.heap.size,j,none⟩=false:=fun j=>(hbx5.frozen (p:=⟨w.heap.size,j,none⟩) l4_0).trans (f4_0 j)
  have l5_0:=Nat.lt_of_lt_of_le l4_0 hbx5.size
  have K5_0:=zAa ((hbx5.block _ l4_0).trans K4_0.out)
  have f5_1:∀ j,wc.frozen? ⟨sb,j,none⟩=false:=fun j=>(hbx5.frozen (p:=⟨sb,j,none⟩) l4_1).trans (f4_1 j)
  have l5_1:=Nat.lt_of_lt_of_le l4_1 hbx5.size
  have K5_1:=zAa ((hbx5.block _ l4_1).trans K4_1.out)
  have f5_2:∀ j,wc.frozen? ⟨gx2,j,none⟩=false:=fun j=>(hbx5.frozen (p:=⟨gx2,j,none⟩) l4_2).trans (f4_2 j)
  have l5_2:=Nat.lt_of_lt_of_le l4_2 hbx5.size
  have K5_2:=zAa ((hbx5.block _ l4_2).trans K4_2.out)
  have f5_3:∀ j,wc.frozen? ⟨gx4,j,none⟩=false:=fun j=>(hbx5.frozen (p:=⟨gx4,j,none⟩) ln4).trans (fm4 j)
  have l5_3:=Nat.lt_of_lt_of_le ln4 hbx5.size
  have K5_3:=zAa ((hbx5.block _ ln4).trans KN4.out)
  obtain⟨cn5,fn5,ln5⟩:=zAk kx5
  have KN5:=zAa kx5
  have HBX5:=zAa hbx5
  clear kx5 hqx5 hbx5 d4_0 d4_1 d4_2 d4_3 d4_4 d4_5 d4_6 d4_7 d4_8 d4_9 d4_10 d4_11 d4_12 cn4
  go_upto_region 8 with fail
  generalize wc=Wx at *
  have B25:=zAa (zAm HBX4.out (Nat.le_refl _) HBX5.out)
  have HCL:Hid (Q.zOX f rd wd (r::q)=if Q.zOI rd (f.cause (f.sees rd) (Q.orR (Q.orR (f.tells (f.sees rd)) f.gathers) (f.fencesBehind (Q.zNW (Q.zNV wd.events) r)))) (f.fencesBehind (Q.zNW (Q.zNV wd.events) r)) then (f.cause (f.sees rd) (Q.orR (Q.orR (f.tells (f.sees rd)) f.gathers) (f.fencesBehind (Q.zNW (Q.zNV wd.events) r))))::Q.zOX f rd wd q else Q.zOX f rd wd q):=Q.causesL_cons f rd wd r q
  generalize (f.cause (f.sees rd) (Q.orR (Q.orR (f.tells (f.sees rd)) f.gathers) (f.fencesBehind (Q.zNW (Q.zNV wd.events) r))))=cs at *
  generalize (f.fencesBehind (Q.zNW (Q.zNV wd.events) r))=fb at *
  obtain⟨cg,hcg⟩:=HTG2.out
  have HCG:=zAa hcg
  clear hcg HTG2
  clear HBX4 HBX5 f3_0 f3_1 f3_2 f4_0 f4_1 f4_2 fm4 fn4 K3_0 K3_1 K3_2 K4_0 K4_1 K4_2 KN4 HF3 HF4 R3_0 R3_1 R3_2 R4_0 R4_1 R4_2 BW4 l4_0 l4_1 l4_2 ln4 f5_0 f5_1 f5_2 f5_3 fn5 K5_0 K5_1 K5_2 K5_3 KN5 R5_1 R5_2 d5_11 d5_12 hgx4 hgx5 hgx2 l2_1 HPL HDO HFO HW0 HNL HFL HBL HBM hwl64 hbl64 hn64 hn12 BW5
  cases zc:Q.zOI rd cs fb
  ·have HFD:Hid (done++Q.zOX f rd wd q=fin):=by
    have h3:=FDX.out
    rw[HCL.out,zc] at h3
    exact h3
   go_wp2_with (first
    | (go_at_call 93;refine (zDT (FA.mk n (.slice x n c) g1 g2 g3 g4 g5 g6 g7 g8 g9) f gr rd qx5 cs qx4 fb _ HF5.out R5_0.out R5_4.out R5_3.out).mono ?_;rintro e w6 ⟨rfl,hb6⟩;rw[zc];have B6:=zAa (zAm B25.out (Nat.le_refl _) hb6);have RC6:=zAa (R5_4.out.below hb6);have y5:=cfL hb6 ln5 cn5;have ly5:=Nat.lt_of_lt_of_le ln5 hb6.size;have hs6:=B6.out.size;have HO6:Hid ((w6.alloc (.cells #[.slice (some ⟨qx5,0,none⟩) n n] 68)).ownsRow 0 68 1 (.slice va done.length vc) done.length (gs.map fun g=>.slice (some ⟨g,0,none⟩) n n)):=zAc RLS2.out.own (fun k e=>(Below.heap_alloc _ _ _ (by have:=(RLS2.out.own.lt k e).2;omega)).trans (B6.out.block k (RLS2.out.own.lt k e).2));have HN6:Hid (∀ j u,[Value.slice (some ⟨qx5,0,none⟩) n n][j]?=some u→(w6.alloc (.cells #[.slice (some ⟨qx5,0,none⟩) n n] 68)).cell? ((⟨w6.heap.size,0,none⟩:Addr).add j)=some u):=World.news_of_block (cs:=#[.slice (some ⟨qx5,0,none⟩) n n]) (t:=68) (fr:=(0,0)) (heap_alloc_new w6 _);clear hb6))
   have hR:zGz Wz go gro gb gd N1 f rd wd n fin (.slice va done.length vc,w6) q.length:=⟨r,q,done,gs,ORD2.out.below B6.out,zAm BEL2.out (Nat.le_refl _) B6.out,HFD.out,RLS2.out.below B6.out,HVB.out,rfl,by simp only;omega,cg,(B6.out.block go lgo2).trans HCG.out⟩
   go_roundw
   case rel=>exact⟨_,_,rfl,hR⟩
   case measure =>
    have h1:=(HMU.out _ ⟨_,hR⟩).2 _ hR
    exact Nat.lt_of_le_of_lt h1 (Nat.lt_of_lt_of_eq (Nat.lt_succ_self _) HL2.out)
  ·have HFD:Hid ((done++[cs])++Q.zOX f rd wd q=fin):=by
    have h3:=FDX.out
    rw[HCL.out,zc] at h3
    unfold Hid
    rw[← h3];simp
   go_wp2_with (first
    | (go_at_call 93;refine (zDT (FA.mk n (.slice x n c) g1 g2 g3 g4 g5 g6 g7 g8 g9) f gr rd qx5 cs qx4 fb _ HF5.out R5_0.out R5_4.out R5_3.out).mono ?_;rintro e w6 ⟨rfl,hb6⟩;rw[zc];have B6:=zAa (zAm B25.out (Nat.le_refl _) hb6);have RC6:=zAa (R5_4.out.below hb6);have y5:=cfL hb6 ln5 cn5;have ly5:=Nat.lt_of_lt_of_le ln5 hb6.size;have hs6:=B6.out.size;have HO6:Hid ((w6.alloc (.cells #[.slice (some ⟨qx5,0,none⟩) n n] 68)).ownsRow 0 68 1 (.slice va done.length vc) done.length (gs.map fun g=>.slice (some ⟨g,0,none⟩) n n)):=zAc RLS2.out.own (fun k e=>(Below.heap_alloc _ _ _ (by have:=(RLS2.out.own.lt k e).2;omega)).trans (B6.out.block k (RLS2.out.own.lt k e).2));have HN6:Hid (∀ j u,[Value.slice (some ⟨qx5,0,none⟩) n n][j]?=some u→(w6.alloc (.cells #[.slice (some ⟨qx5,0,none⟩) n n] 68)).cell? ((⟨w6.heap.size,0,none⟩:Addr).add j)=some u):=World.news_of_block (cs:=#[.slice (some ⟨qx5,0,none⟩) n n]) (t:=68) (fr:=(0,0)) (heap_alloc_new w6 _);clear hb6)
    | (at_builtin;refine wpList_append_lies _ rfl (.tmp 41) (.tmp 43) 102 rfl 0 68 i0 (.agg #[.slice none 0 0]) 1 24 Tryz.underlying102 hi0 hz0 hz1 hz2 rfl (by decide) _ done.length (gs.map fun g=>.slice (some ⟨g,0,none⟩) n n) rfl (by exact HO6.out) ⟨w6.heap.size,0,none⟩ 1 1 [.slice (some ⟨qx5,0,none⟩) n n] rfl rfl (by exact HN6.out) (by simp[Value.oneCell']) (by decide) (zKz hdl).1 (zKz hdl).2 (Nat.zero_le _) _ rfl ?_;intro gn cn w7 hown7 hgrow7 hat7 hlt7))
   have hN:∀ k,k<w2.heap.size→N1≤k∨k<N1→(Value.slice va done.length vc).ownBlock≠some k→w7.heap[k]?=w2.heap[k]?:=fun k h1 _ h2=>(hgrow7.block k (by simp;omega) (fun e=>h2 e.symm)).trans ((Below.heap_alloc _ _ _ (by omega)).trans (B6.out.block k h1))
   have hO:∀ k,k<N1→(Value.slice va done.length vc).ownBlock≠some k:=fun k h1 e=>by have:=HVB.out k e;omega
   have hK:∀ k,k<N1→w7.heap[k]?=w2.heap[k]?:=fun k h1=>hN k (by omega) (Or.inr h1) (hO k h1)
   have hsz7:w6.heap.size+1≤w7.heap.size:=by have:=hgrow7.size;simpa using this
   have hR:zGz Wz go gro gb gd N1 f rd wd n fin (.slice (some ⟨gn,0,none⟩) (done.length+1) cn,w7) q.length:=by
    refine⟨r,q,done++[cs],gs++[qx5],ORD2.out.off (hK _ hgo1.2) (hK _ hgr1.2) (hK _ hgb1.2) (hK _ hgd1.2) (by simp only;omega),⟨(hgrow7.os.trans B6.out.os).trans BEL2.out.os,(hgrow7.tape.trans B6.out.tape).trans BEL2.out.tape,(hgrow7.output.trans B6.out.output).trans BEL2.out.output,by have:=BEL2.out.size;simp only;omega,fun k hk=>(hK k (by omega)).trans (BEL2.out.block k hk)⟩,HFD.out,?_,fun k e=>?_,rfl,by simp only;omega,cg,(hK _ hgo1.2).trans HCG.out⟩
    ·exact RelsIn.push (RLS2.out.below B6.out) RC6.out hown7 hgrow7
    ·simp[Value.ownBlock] at e
     subst e
     rcases hat7 with h4 | h4
     ·exact HVB.out _ h4
     ·simp at h4;omega
   go_roundw
   case rel=>exact⟨_,_,rfl,hR⟩
   case measure =>
    have h1:=(HMU.out _ ⟨_,hR⟩).2 _ hR
    exact Nat.lt_of_le_of_lt h1 (Nat.lt_of_lt_of_eq (Nat.lt_succ_self _) HL2.out)
end Go.Proofs.YtgceflcbckjjiaaGreatDoor
