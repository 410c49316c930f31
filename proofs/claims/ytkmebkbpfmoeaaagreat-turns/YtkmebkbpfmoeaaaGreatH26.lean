import Derived.Test.YtkmebkbpfmoeaaaGreatH12
set_option linter.unusedVariables false
set_option linter.unusedSimpArgs false
set_option maxHeartbeats 12800000
namespace Go.Proofs.YtkmebkbpfmoeaaaGreat
open Go Go.RowKit
set_option maxRecDepth 100000
structure FactsMem (w:World) (fb:Nat) (a:FA) (f:Q.Facts):Prop where
 box:w.heap[fb]?=some (.cells (zAl a) 66 (0,0))
 fin:FactsIn w a f
 dis:[a.g1,a.g2,a.g3,a.g4,a.g5,a.g6,a.g7,a.g8,a.g9].Nodup
theorem FactsMem.below {w w':World} {fb:Nat} {a:FA} {f:Q.Facts} (h:FactsMem w fb a f) (hb:Below w.heap.size w w'):FactsMem w' fb a f :=
 ⟨(hb.block fb (Array.getElem?_eq_some_iff.1 h.box).1).trans h.box,h.fin.below hb,h.dis⟩
theorem zAF {w:World} {g fb:Nat} {l:List Nat} {c:Array Value} {t:TypeId} (h:zAo w g l) (k:w.heap[fb]?=some (.cells c t (0,0))) (ht:t≠127):fb≠g:=fun e=>by
 unfold zAo at h
 rw[← e,k] at h;simp at h;exact ht h.2
theorem zAW.grown {w w':World} {v:Value} {es:List Q.Ev} {g:Nat} {l:List Nat} (h:zAW w v es) (hs:zAo w g l) (hg:w.grownBy w' (some g)):zAW w' v es:=by
 refine zAc h (fun k e=>hg.block k (h.lt k e).2 ?_)
 intro hk
 simp at hk
 subst hk
 rcases h.2 with ⟨e1,_⟩ | ⟨g',cap,cur,e1,_,hh,_⟩
 ·rw[e1] at e;simp[Value.ownBlock] at e
 ·rw[e1] at e;simp[Value.ownBlock] at e
  subst e
  unfold zAo at hs
  rw[hs] at hh;simp at hh
theorem RelAt.grown {w w':World} {g h n:Nat} {l:List Nat} (hr:RelAt w g n l) (hne:g≠h) (hg:w.grownBy w' (some h)):RelAt w' g n l :=
 ⟨hr.at_.of_block (hg.block g hr.lt (by simpa using hne)),hr.len,hr.fits⟩
theorem zBg {w w':World} {g B:Nat} (hg:w.grownBy w' (some g)) (hB:B≤w.heap.size) (h:B≤g):Below B w w':=⟨hg.os,hg.tape,hg.output,hg.size,fun i hi=>hg.block i (by omega) (by simp;omega)⟩
theorem FactsMem.add1 {w w':World} {fb:Nat} {a:FA} {f:Q.Facts} (h:FactsMem w fb a f) (i k:Int) (hs:zAo w' a.g1 (Q.addR f.ahead i k)) (hg:w.grownBy w' (some a.g1)):FactsMem w' fb a { f with ahead:=Q.addR f.ahead i k }:=by
 have hd:=h.dis
 exact⟨(hg.block fb (Array.getElem?_eq_some_iff.1 h.box).1 (by have:=zAF h.fin.r1.at_ h.box (by decide);simpa using this)).trans h.box,
  ⟨h.fin.ev.grown h.fin.r1.at_ hg,h.fin.len,h.fin.n64,⟨hs,by rw[Q.zIL];exact h.fin.r1.len,Q.zID h.fin.r1.fits _ _⟩,h.fin.r2.grown (by intro e;rw[e] at hd;simp at hd) hg,h.fin.r3.grown (by intro e;rw[e] at hd;simp at hd) hg,h.fin.r4.grown (by intro e;rw[e] at hd;simp at hd) hg,h.fin.r5.grown (by intro e;rw[e] at hd;simp at hd) hg,h.fin.r6.grown (by intro e;rw[e] at hd;simp at hd) hg,h.fin.r7.grown (by intro e;rw[e] at hd;simp at hd) hg,h.fin.r8.grown (by intro e;rw[e] at hd;simp at hd) hg,h.fin.r9.grown (by intro e;rw[e] at hd;simp at hd) hg⟩,h.dis⟩
theorem FactsMem.rel1 {w:World} {fb:Nat} {a:FA} {f:Q.Facts} (h:FactsMem w fb a f):zDd w fb 1 a.g1 a.n f.ahead:=by
 refine⟨?_,h.fin.r1.at_,h.fin.r1.len,(Array.getElem?_eq_some_iff.1 h.box).1,zAF h.fin.r1.at_ h.box (by decide)⟩
 simp[World.cell?,h.box,zAl]
theorem FactsMem.add2 {w w':World} {fb:Nat} {a:FA} {f:Q.Facts} (h:FactsMem w fb a f) (i k:Int) (hs:zAo w' a.g2 (Q.addR f.strong i k)) (hg:w.grownBy w' (some a.g2)):FactsMem w' fb a { f with strong:=Q.addR f.strong i k }:=by
 have hd:=h.dis
 exact⟨(hg.block fb (Array.getElem?_eq_some_iff.1 h.box).1 (by have:=zAF h.fin.r2.at_ h.box (by decide);simpa using this)).trans h.box,
  ⟨h.fin.ev.grown h.fin.r2.at_ hg,h.fin.len,h.fin.n64,h.fin.r1.grown (by intro e;rw[e] at hd;simp at hd) hg,⟨hs,by rw[Q.zIL];exact h.fin.r2.len,Q.zID h.fin.r2.fits _ _⟩,h.fin.r3.grown (by intro e;rw[e] at hd;simp at hd) hg,h.fin.r4.grown (by intro e;rw[e] at hd;simp at hd) hg,h.fin.r5.grown (by intro e;rw[e] at hd;simp at hd) hg,h.fin.r6.grown (by intro e;rw[e] at hd;simp at hd) hg,h.fin.r7.grown (by intro e;rw[e] at hd;simp at hd) hg,h.fin.r8.grown (by intro e;rw[e] at hd;simp at hd) hg,h.fin.r9.grown (by intro e;rw[e] at hd;simp at hd) hg⟩,h.dis⟩
theorem FactsMem.rel2 {w:World} {fb:Nat} {a:FA} {f:Q.Facts} (h:FactsMem w fb a f):zDd w fb 2 a.g2 a.n f.strong:=by
 refine⟨?_,h.fin.r2.at_,h.fin.r2.len,(Array.getElem?_eq_some_iff.1 h.box).1,zAF h.fin.r2.at_ h.box (by decide)⟩
 simp[World.cell?,h.box,zAl]
theorem FactsMem.add3 {w w':World} {fb:Nat} {a:FA} {f:Q.Facts} (h:FactsMem w fb a f) (i k:Int) (hs:zAo w' a.g3 (Q.addR f.gathers i k)) (hg:w.grownBy w' (some a.g3)):FactsMem w' fb a { f with gathers:=Q.addR f.gathers i k }:=by
 have hd:=h.dis
 exact⟨(hg.block fb (Array.getElem?_eq_some_iff.1 h.box).1 (by have:=zAF h.fin.r3.at_ h.box (by decide);simpa using this)).trans h.box,
  ⟨h.fin.ev.grown h.fin.r3.at_ hg,h.fin.len,h.fin.n64,h.fin.r1.grown (by intro e;rw[e] at hd;simp at hd) hg,h.fin.r2.grown (by intro e;rw[e] at hd;simp at hd) hg,⟨hs,by rw[Q.zIL];exact h.fin.r3.len,Q.zID h.fin.r3.fits _ _⟩,h.fin.r4.grown (by intro e;rw[e] at hd;simp at hd) hg,h.fin.r5.grown (by intro e;rw[e] at hd;simp at hd) hg,h.fin.r6.grown (by intro e;rw[e] at hd;simp at hd) hg,h.fin.r7.grown (by intro e;rw[e] at hd;simp at hd) hg,h.fin.r8.grown (by intro e;rw[e] at hd;simp at hd) hg,h.fin.r9.grown (by intro e;rw[e] at hd;simp at hd) hg⟩,h.dis⟩
theorem FactsMem.rel3 {w:World} {fb:Nat} {a:FA} {f:Q.Facts} (h:FactsMem w fb a f):zDd w fb 3 a.g3 a.n f.gathers:=by
 refine⟨?_,h.fin.r3.at_,h.fin.r3.len,(Array.getElem?_eq_some_iff.1 h.box).1,zAF h.fin.r3.at_ h.box (by decide)⟩
 simp[World.cell?,h.box,zAl]
theorem FactsMem.add4 {w w':World} {fb:Nat} {a:FA} {f:Q.Facts} (h:FactsMem w fb a f) (i k:Int) (hs:zAo w' a.g4 (Q.addR f.fences i k)) (hg:w.grownBy w' (some a.g4)):FactsMem w' fb a { f with fences:=Q.addR f.fences i k }:=by
 have hd:=h.dis
 exact⟨(hg.block fb (Array.getElem?_eq_some_iff.1 h.box).1 (by have:=zAF h.fin.r4.at_ h.box (by decide);simpa using this)).trans h.box,
  ⟨h.fin.ev.grown h.fin.r4.at_ hg,h.fin.len,h.fin.n64,h.fin.r1.grown (by intro e;rw[e] at hd;simp at hd) hg,h.fin.r2.grown (by intro e;rw[e] at hd;simp at hd) hg,h.fin.r3.grown (by intro e;rw[e] at hd;simp at hd) hg,⟨hs,by rw[Q.zIL];exact h.fin.r4.len,Q.zID h.fin.r4.fits _ _⟩,h.fin.r5.grown (by intro e;rw[e] at hd;simp at hd) hg,h.fin.r6.grown (by intro e;rw[e] at hd;simp at hd) hg,h.fin.r7.grown (by intro e;rw[e] at hd;simp at hd) hg,h.fin.r8.grown (by intro e;rw[e] at hd;simp at hd) hg,h.fin.r9.grown (by intro e;rw[e] at hd;simp at hd) hg⟩,h.dis⟩
theorem FactsMem.rel4 {w:World} {fb:Nat} {a:FA} {f:Q.Facts} (h:FactsMem w fb a f):zDd w fb 4 a.g4 a.n f.fences:=by
 refine⟨?_,h.fin.r4.at_,h.fin.r4.len,(Array.getElem?_eq_some_iff.1 h.box).1,zAF h.fin.r4.at_ h.box (by decide)⟩
 simp[World.cell?,h.box,zAl]
theorem FactsMem.add5 {w w':World} {fb:Nat} {a:FA} {f:Q.Facts} (h:FactsMem w fb a f) (i k:Int) (hs:zAo w' a.g5 (Q.addR f.rows i k)) (hg:w.grownBy w' (some a.g5)):FactsMem w' fb a { f with rows:=Q.addR f.rows i k }:=by
 have hd:=h.dis
 exact⟨(hg.block fb (Array.getElem?_eq_some_iff.1 h.box).1 (by have:=zAF h.fin.r5.at_ h.box (by decide);simpa using this)).trans h.box,
  ⟨h.fin.ev.grown h.fin.r5.at_ hg,h.fin.len,h.fin.n64,h.fin.r1.grown (by intro e;rw[e] at hd;simp at hd) hg,h.fin.r2.grown (by intro e;rw[e] at hd;simp at hd) hg,h.fin.r3.grown (by intro e;rw[e] at hd;simp at hd) hg,h.fin.r4.grown (by intro e;rw[e] at hd;simp at hd) hg,⟨hs,by rw[Q.zIL];exact h.fin.r5.len,Q.zID h.fin.r5.fits _ _⟩,h.fin.r6.grown (by intro e;rw[e] at hd;simp at hd) hg,h.fin.r7.grown (by intro e;rw[e] at hd;simp at hd) hg,h.fin.r8.grown (by intro e;rw[e] at hd;simp at hd) hg,h.fin.r9.grown (by intro e;rw[e] at hd;simp at hd) hg⟩,h.dis⟩
theorem FactsMem.rel5 {w:World} {fb:Nat} {a:FA} {f:Q.Facts} (h:FactsMem w fb a f):zDd w fb 5 a.g5 a.n f.rows:=by
 refine⟨?_,h.fin.r5.at_,h.fin.r5.len,(Array.getElem?_eq_some_iff.1 h.box).1,zAF h.fin.r5.at_ h.box (by decide)⟩
 simp[World.cell?,h.box,zAl]
theorem FactsMem.add6 {w w':World} {fb:Nat} {a:FA} {f:Q.Facts} (h:FactsMem w fb a f) (i k:Int) (hs:zAo w' a.g6 (Q.addR f.hangs i k)) (hg:w.grownBy w' (some a.g6)):FactsMem w' fb a { f with hangs:=Q.addR f.hangs i k }:=by
 have hd:=h.dis
 exact⟨(hg.block fb (Array.getElem?_eq_some_iff.1 h.box).1 (by have:=zAF h.fin.r6.at_ h.box (by decide);simpa using this)).trans h.box,
  ⟨h.fin.ev.grown h.fin.r6.at_ hg,h.fin.len,h.fin.n64,h.fin.r1.grown (by intro e;rw[e] at hd;simp at hd) hg,h.fin.r2.grown (by intro e;rw[e] at hd;simp at hd) hg,h.fin.r3.grown (by intro e;rw[e] at hd;simp at hd) hg,h.fin.r4.grown (by intro e;rw[e] at hd;simp at hd) hg,h.fin.r5.grown (by intro e;rw[e] at hd;simp at hd) hg,⟨hs,by rw[Q.zIL];exact h.fin.r6.len,Q.zID h.fin.r6.fits _ _⟩,h.fin.r7.grown (by intro e;rw[e] at hd;simp at hd) hg,h.fin.r8.grown (by intro e;rw[e] at hd;simp at hd) hg,h.fin.r9.grown (by intro e;rw[e] at hd;simp at hd) hg⟩,h.dis⟩
theorem FactsMem.rel6 {w:World} {fb:Nat} {a:FA} {f:Q.Facts} (h:FactsMem w fb a f):zDd w fb 6 a.g6 a.n f.hangs:=by
 refine⟨?_,h.fin.r6.at_,h.fin.r6.len,(Array.getElem?_eq_some_iff.1 h.box).1,zAF h.fin.r6.at_ h.box (by decide)⟩
 simp[World.cell?,h.box,zAl]
theorem FactsMem.add7 {w w':World} {fb:Nat} {a:FA} {f:Q.Facts} (h:FactsMem w fb a f) (i k:Int) (hs:zAo w' a.g7 (Q.addR f.halves i k)) (hg:w.grownBy w' (some a.g7)):FactsMem w' fb a { f with halves:=Q.addR f.halves i k }:=by
 have hd:=h.dis
 exact⟨(hg.block fb (Array.getElem?_eq_some_iff.1 h.box).1 (by have:=zAF h.fin.r7.at_ h.box (by decide);simpa using this)).trans h.box,
  ⟨h.fin.ev.grown h.fin.r7.at_ hg,h.fin.len,h.fin.n64,h.fin.r1.grown (by intro e;rw[e] at hd;simp at hd) hg,h.fin.r2.grown (by intro e;rw[e] at hd;simp at hd) hg,h.fin.r3.grown (by intro e;rw[e] at hd;simp at hd) hg,h.fin.r4.grown (by intro e;rw[e] at hd;simp at hd) hg,h.fin.r5.grown (by intro e;rw[e] at hd;simp at hd) hg,h.fin.r6.grown (by intro e;rw[e] at hd;simp at hd) hg,⟨hs,by rw[Q.zIL];exact h.fin.r7.len,Q.zID h.fin.r7.fits _ _⟩,h.fin.r8.grown (by intro e;rw[e] at hd;simp at hd) hg,h.fin.r9.grown (by intro e;rw[e] at hd;simp at hd) hg⟩,h.dis⟩
theorem FactsMem.rel7 {w:World} {fb:Nat} {a:FA} {f:Q.Facts} (h:FactsMem w fb a f):zDd w fb 7 a.g7 a.n f.halves:=by
 refine⟨?_,h.fin.r7.at_,h.fin.r7.len,(Array.getElem?_eq_some_iff.1 h.box).1,zAF h.fin.r7.at_ h.box (by decide)⟩
 simp[World.cell?,h.box,zAl]
theorem FactsMem.add8 {w w':World} {fb:Nat} {a:FA} {f:Q.Facts} (h:FactsMem w fb a f) (i k:Int) (hs:zAo w' a.g8 (Q.addR f.sends i k)) (hg:w.grownBy w' (some a.g8)):FactsMem w' fb a { f with sends:=Q.addR f.sends i k }:=by
 have hd:=h.dis
 exact⟨(hg.block fb (Array.getElem?_eq_some_iff.1 h.box).1 (by have:=zAF h.fin.r8.at_ h.box (by decide);simpa using this)).trans h.box,
  ⟨h.fin.ev.grown h.fin.r8.at_ hg,h.fin.len,h.fin.n64,h.fin.r1.grown (by intro e;rw[e] at hd;simp at hd) hg,h.fin.r2.grown (by intro e;rw[e] at hd;simp at hd) hg,h.fin.r3.grown (by intro e;rw[e] at hd;simp at hd) hg,h.fin.r4.grown (by intro e;rw[e] at hd;simp at hd) hg,h.fin.r5.grown (by intro e;rw[e] at hd;simp at hd) hg,h.fin.r6.grown (by intro e;rw[e] at hd;simp at hd) hg,h.fin.r7.grown (by intro e;rw[e] at hd;simp at hd) hg,⟨hs,by rw[Q.zIL];exact h.fin.r8.len,Q.zID h.fin.r8.fits _ _⟩,h.fin.r9.grown (by intro e;rw[e] at hd;simp at hd) hg⟩,h.dis⟩
theorem FactsMem.rel8 {w:World} {fb:Nat} {a:FA} {f:Q.Facts} (h:FactsMem w fb a f):zDd w fb 8 a.g8 a.n f.sends:=by
 refine⟨?_,h.fin.r8.at_,h.fin.r8.len,(Array.getElem?_eq_some_iff.1 h.box).1,zAF h.fin.r8.at_ h.box (by decide)⟩
 simp[World.cell?,h.box,zAl]
theorem FactsMem.add9 {w w':World} {fb:Nat} {a:FA} {f:Q.Facts} (h:FactsMem w fb a f) (i k:Int) (hs:zAo w' a.g9 (Q.addR f.takes i k)) (hg:w.grownBy w' (some a.g9)):FactsMem w' fb a { f with takes:=Q.addR f.takes i k }:=by
 have hd:=h.dis
 exact⟨(hg.block fb (Array.getElem?_eq_some_iff.1 h.box).1 (by have:=zAF h.fin.r9.at_ h.box (by decide);simpa using this)).trans h.box,
  ⟨h.fin.ev.grown h.fin.r9.at_ hg,h.fin.len,h.fin.n64,h.fin.r1.grown (by intro e;rw[e] at hd;simp at hd) hg,h.fin.r2.grown (by intro e;rw[e] at hd;simp at hd) hg,h.fin.r3.grown (by intro e;rw[e] at hd;simp at hd) hg,h.fin.r4.grown (by intro e;rw[e] at hd;simp at hd) hg,h.fin.r5.grown (by intro e;rw[e] at hd;simp at hd) hg,h.fin.r6.grown (by intro e;rw[e] at hd;simp at hd) hg,h.fin.r7.grown (by intro e;rw[e] at hd;simp at hd) hg,h.fin.r8.grown (by intro e;rw[e] at hd;simp at hd) hg,⟨hs,by rw[Q.zIL];exact h.fin.r9.len,Q.zID h.fin.r9.fits _ _⟩⟩,h.dis⟩
theorem FactsMem.rel9 {w:World} {fb:Nat} {a:FA} {f:Q.Facts} (h:FactsMem w fb a f):zDd w fb 9 a.g9 a.n f.takes:=by
 refine⟨?_,h.fin.r9.at_,h.fin.r9.len,(Array.getElem?_eq_some_iff.1 h.box).1,zAF h.fin.r9.at_ h.box (by decide)⟩
 simp[World.cell?,h.box,zAl]
structure PS (B:Nat) (w wx:World) (fb:Nat) (a:FA) (f:Q.Facts) (b1 b2:Nat) (e1 e2:Q.Ev):Prop where
 mem:FactsMem wx fb a f
 bel:Below B w wx
 v1:zAQ wx b1 e1
 v2:zAQ wx b2 e2
 evs:∀ g e,zAQ w g e→zAQ wx g e
theorem PS.below {B:Nat} {w wx wy:World} {fb:Nat} {a:FA} {f:Q.Facts} {b1 b2:Nat} {e1 e2:Q.Ev} (h:PS B w wx fb a f b1 b2 e1 e2) (hb:Below wx.heap.size wx wy) (hB:B≤w.heap.size):PS B w wy fb a f b1 b2 e1 e2 :=
 ⟨h.mem.below hb,h.bel.trans (hb.mono (Nat.le_trans hB h.bel.size)),h.v1.below hb,h.v2.below hb,fun g e he=>(h.evs g e he).below hb⟩
theorem PS.add1 {B:Nat} {w wx wy:World} {fb:Nat} {a:FA} {f:Q.Facts} {b1 b2:Nat} {e1 e2:Q.Ev} (h:PS B w wx fb a f b1 b2 e1 e2) (hB:B≤w.heap.size) (hBg:B≤a.g1) (i k:Int) (hs:zAo wy a.g1 (Q.addR f.ahead i k)) (hg:wx.grownBy wy (some a.g1)):PS B w wy fb a { f with ahead:=Q.addR f.ahead i k } b1 b2 e1 e2 :=
 ⟨h.mem.add1 i k hs hg,h.bel.trans (zBg hg (Nat.le_trans hB h.bel.size) hBg),h.v1.grown h.mem.fin.r1.at_ hg,h.v2.grown h.mem.fin.r1.at_ hg,fun g e he=>(h.evs g e he).grown h.mem.fin.r1.at_ hg⟩
theorem PS.add2 {B:Nat} {w wx wy:World} {fb:Nat} {a:FA} {f:Q.Facts} {b1 b2:Nat} {e1 e2:Q.Ev} (h:PS B w wx fb a f b1 b2 e1 e2) (hB:B≤w.heap.size) (hBg:B≤a.g2) (i k:Int) (hs:zAo wy a.g2 (Q.addR f.strong i k)) (hg:wx.grownBy wy (some a.g2)):PS B w wy fb a { f with strong:=Q.addR f.strong i k } b1 b2 e1 e2 :=
 ⟨h.mem.add2 i k hs hg,h.bel.trans (zBg hg (Nat.le_trans hB h.bel.size) hBg),h.v1.grown h.mem.fin.r2.at_ hg,h.v2.grown h.mem.fin.r2.at_ hg,fun g e he=>(h.evs g e he).grown h.mem.fin.r2.at_ hg⟩
theorem PS.add3 {B:Nat} {w wx wy:World} {fb:Nat} {a:FA} {f:Q.Facts} {b1 b2:Nat} {e1 e2:Q.Ev} (h:PS B w wx fb a f b1 b2 e1 e2) (hB:B≤w.heap.size) (hBg:B≤a.g3) (i k:Int) (hs:zAo wy a.g3 (Q.addR f.gathers i k)) (hg:wx.grownBy wy (some a.g3)):PS B w wy fb a { f with gathers:=Q.addR f.gathers i k } b1 b2 e1 e2 :=
 ⟨h.mem.add3 i k hs hg,h.bel.trans (zBg hg (Nat.le_trans hB h.bel.size) hBg),h.v1.grown h.mem.fin.r3.at_ hg,h.v2.grown h.mem.fin.r3.at_ hg,fun g e he=>(h.evs g e he).grown h.mem.fin.r3.at_ hg⟩
theorem PS.add4 {B:Nat} {w wx wy:World} {fb:Nat} {a:FA} {f:Q.Facts} {b1 b2:Nat} {e1 e2:Q.Ev} (h:PS B w wx fb a f b1 b2 e1 e2) (hB:B≤w.heap.size) (hBg:B≤a.g4) (i k:Int) (hs:zAo wy a.g4 (Q.addR f.fences i k)) (hg:wx.grownBy wy (some a.g4)):PS B w wy fb a { f with fences:=Q.addR f.fences i k } b1 b2 e1 e2 :=
 ⟨h.mem.add4 i k hs hg,h.bel.trans (zBg hg (Nat.le_trans hB h.bel.size) hBg),h.v1.grown h.mem.fin.r4.at_ hg,h.v2.grown h.mem.fin.r4.at_ hg,fun g e he=>(h.evs g e he).grown h.mem.fin.r4.at_ hg⟩
theorem PS.add5 {B:Nat} {w wx wy:World} {fb:Nat} {a:FA} {f:Q.Facts} {b1 b2:Nat} {e1 e2:Q.Ev} (h:PS B w wx fb a f b1 b2 e1 e2) (hB:B≤w.heap.size) (hBg:B≤a.g5) (i k:Int) (hs:zAo wy a.g5 (Q.addR f.rows i k)) (hg:wx.grownBy wy (some a.g5)):PS B w wy fb a { f with rows:=Q.addR f.rows i k } b1 b2 e1 e2 :=
 ⟨h.mem.add5 i k hs hg,h.bel.trans (zBg hg (Nat.le_trans hB h.bel.size) hBg),h.v1.grown h.mem.fin.r5.at_ hg,h.v2.grown h.mem.fin.r5.at_ hg,fun g e he=>(h.evs g e he).grown h.mem.fin.r5.at_ hg⟩
theorem PS.add6 {B:Nat} {w wx wy:World} {fb:Nat} {a:FA} {f:Q.Facts} {b1 b2:Nat} {e1 e2:Q.Ev} (h:PS B w wx fb a f b1 b2 e1 e2) (hB:B≤w.heap.size) (hBg:B≤a.g6) (i k:Int) (hs:zAo wy a.g6 (Q.addR f.hangs i k)) (hg:wx.grownBy wy (some a.g6)):PS B w wy fb a { f with hangs:=Q.addR f.hangs i k } b1 b2 e1 e2 :=
 ⟨h.mem.add6 i k hs hg,h.bel.trans (zBg hg (Nat.le_trans hB h.bel.size) hBg),h.v1.grown h.mem.fin.r6.at_ hg,h.v2.grown h.mem.fin.r6.at_ hg,fun g e he=>(h.evs g e he).grown h.mem.fin.r6.at_ hg⟩
theorem PS.add7 {B:Nat} {w wx wy:World} {fb:Nat} {a:FA} {f:Q.Facts} {b1 b2:Nat} {e1 e2:Q.Ev} (h:PS B w wx fb a f b1 b2 e1 e2) (hB:B≤w.heap.size) (hBg:B≤a.g7) (i k:Int) (hs:zAo wy a.g7 (Q.addR f.halves i k)) (hg:wx.grownBy wy (some a.g7)):PS B w wy fb a { f with halves:=Q.addR f.halves i k } b1 b2 e1 e2 :=
 ⟨h.mem.add7 i k hs hg,h.bel.trans (zBg hg (Nat.le_trans hB h.bel.size) hBg),h.v1.grown h.mem.fin.r7.at_ hg,h.v2.grown h.mem.fin.r7.at_ hg,fun g e he=>(h.evs g e he).grown h.mem.fin.r7.at_ hg⟩
theorem PS.add8 {B:Nat} {w wx wy:World} {fb:Nat} {a:FA} {f:Q.Facts} {b1 b2:Nat} {e1 e2:Q.Ev} (h:PS B w wx fb a f b1 b2 e1 e2) (hB:B≤w.heap.size) (hBg:B≤a.g8) (i k:Int) (hs:zAo wy a.g8 (Q.addR f.sends i k)) (hg:wx.grownBy wy (some a.g8)):PS B w wy fb a { f with sends:=Q.addR f.sends i k } b1 b2 e1 e2 :=
 ⟨h.mem.add8 i k hs hg,h.bel.trans (zBg hg (Nat.le_trans hB h.bel.size) hBg),h.v1.grown h.mem.fin.r8.at_ hg,h.v2.grown h.mem.fin.r8.at_ hg,fun g e he=>(h.evs g e he).grown h.mem.fin.r8.at_ hg⟩
theorem PS.add9 {B:Nat} {w wx wy:World} {fb:Nat} {a:FA} {f:Q.Facts} {b1 b2:Nat} {e1 e2:Q.Ev} (h:PS B w wx fb a f b1 b2 e1 e2) (hB:B≤w.heap.size) (hBg:B≤a.g9) (i k:Int) (hs:zAo wy a.g9 (Q.addR f.takes i k)) (hg:wx.grownBy wy (some a.g9)):PS B w wy fb a { f with takes:=Q.addR f.takes i k } b1 b2 e1 e2 :=
 ⟨h.mem.add9 i k hs hg,h.bel.trans (zBg hg (Nat.le_trans hB h.bel.size) hBg),h.v1.grown h.mem.fin.r9.at_ hg,h.v2.grown h.mem.fin.r9.at_ hg,fun g e he=>(h.evs g e he).grown h.mem.fin.r9.at_ hg⟩
theorem zFh (i k:Nat):((i:Int)==(k:Int))=!(i != k):=by
 by_cases h:i=k
 ·subst h;simp
 ·have h':¬ ((i:Int)=(k:Int)):=by omega
  rw[beq_eq_false_iff_ne.2 h',show (i != k)=true by simpa using h];rfl
theorem zBN (a:FA) (f:Q.Facts) (i k:Nat) (e1 e2:Q.Ev) (w:World) (hf:FactsIn w a f) :
  Calls Tryz.prog 92 #[.agg (zAl a),.int .i64 (i:Int),.agg (zAb e1),.int .i64 (k:Int),.agg (zAb e2)] w fun e w'=>e=.returned (.bool (f.mayClash i e1 k e2))∧Below w.heap.size w w':=by
 have HM:Hid (f.mayClash i e1 k e2=(e1.kind==1&&i != k&&!Q.hasR f.strong i k&&e1.var==e2.var&&Q.zIY e2)):=rfl
 obtain⟨x,c,hev,hx⟩:=hf.form
 have hn64:=hf.n64
 have hln:=hf.len
 obtain⟨n,ev,g1,g2,g3,g4,g5,g6,g7,g8,g9⟩:=a
 simp only at hev hn64 hln hx
 subst hev
 simp only[zAl]
 obtain⟨k0,k1,k2,hsz,hbw⟩:=zDP w #[.slice x n c,.slice (some ⟨g1,0,none⟩) n n,.slice (some ⟨g2,0,none⟩) n n,.slice (some ⟨g3,0,none⟩) n n,.slice (some ⟨g4,0,none⟩) n n,.slice (some ⟨g5,0,none⟩) n n,.slice (some ⟨g6,0,none⟩) n n,.slice (some ⟨g7,0,none⟩) n n,.slice (some ⟨g8,0,none⟩) n n,.slice (some ⟨g9,0,none⟩) n n] (zAb e1) (zAb e2) 66 129 129
 have R2:=zAa (hf.r2.below hbw)
 have BW0:=zAa hbw
 have E1:Hid (zAQ _ _ e1):=k1
 have E2:Hid (zAQ _ _ e2):=k2
 simp only[zAb] at *
 clear hbw hf hx
 have z1':(e1.kind != 1)=!(e1.kind==1):=rfl
 have hik:=zFh i k
 cases z1:(e1.kind==1)
 ·rw[z1] at z1'
  have HV:Hid (f.mayClash i e1 k e2=false):=by unfold Hid;rw[HM.out,z1];rfl
  go_enter Tryz.func92,Tryz.ntmps92
  go_wp2
  go_ret
  rw[HV.out];exact⟨rfl,BW0.out⟩
 rw[z1] at z1'
 cases z2:(i != k)
 ·rw[z2] at hik
  have HV:Hid (f.mayClash i e1 k e2=false):=by unfold Hid;rw[HM.out,z1,z2];rfl
  go_enter Tryz.func92,Tryz.ntmps92
  go_wp2
  go_ret
  rw[HV.out];exact⟨rfl,BW0.out⟩
 rw[z2] at hik
 cases z3:Q.hasR f.strong (i:Int) (k:Int)
 rotate_left
 ·have HV:Hid (f.mayClash i e1 k e2=false):=by unfold Hid;rw[HM.out,z1,z2,z3];rfl
  go_enter Tryz.func92,Tryz.ntmps92
  go_wp2_with (first | (go_at_call 75;refine (zBE g2 n f.strong (i:Int) (k:Int) _ R2.out).mono ?_;rintro e w1 ⟨rfl,hb1⟩;rw[z3]))
  go_ret
  rw[HV.out];exact⟨rfl,zAn BW0.out (Nat.le_refl _) hb1⟩
 cases z4:(e1.var==e2.var)
 ·have HV:Hid (f.mayClash i e1 k e2=false):=by unfold Hid;rw[HM.out,z1,z2,z3,z4];rfl
  go_enter Tryz.func92,Tryz.ntmps92
  go_wp2_with (first | (go_at_call 75;refine (zBE g2 n f.strong (i:Int) (k:Int) _ R2.out).mono ?_;rintro e w1 ⟨rfl,hb1⟩;rw[z3];have F1:=zAa (E1.out.below hb1);obtain⟨x0,x1,x2,x3,x4,x5,x6,x7,x8,x9,xf,xl⟩:=F1.out.facts;clear x0 x1 x2 x4 x5 x6 x7 x8 x9;have F2:=zAa (E2.out.below hb1);obtain⟨y0,y1,y2,y3,y4,y5,y6,y7,y8,y9,yf,yl⟩:=F2.out.facts;clear y0 y1 y2 y4 y5 y6 y7 y8 y9))
  go_ret
  rw[HV.out];exact⟨rfl,zAn BW0.out (Nat.le_refl _) hb1⟩
 ·have HV:Hid (f.mayClash i e1 k e2=Q.zIY e2):=by unfold Hid;rw[HM.out,z1,z2,z3,z4];rfl
  go_enter Tryz.func92,Tryz.ntmps92
  go_wp2_with (first | (go_at_call 75;refine (zBE g2 n f.strong (i:Int) (k:Int) _ R2.out).mono ?_;rintro e w1 ⟨rfl,hb1⟩;rw[z3];have F1:=zAa (E1.out.below hb1);obtain⟨x0,x1,x2,x3,x4,x5,x6,x7,x8,x9,xf,xl⟩:=F1.out.facts;clear x0 x1 x2 x4 x5 x6 x7 x8 x9;have F2:=zAa (E2.out.below hb1);obtain⟨y0,y1,y2,y3,y4,y5,y6,y7,y8,y9,yf,yl⟩:=F2.out.facts) | (go_at_call 111;refine (zCI e2 _).mono ?_;rintro e w2 ⟨rfl,hb2⟩))
  go_ret
  rw[HV.out];exact⟨rfl,zAn (zAn BW0.out (Nat.le_refl _) hb1) (Nat.le_refl _) hb2⟩
end Go.Proofs.YtkmebkbpfmoeaaaGreat
