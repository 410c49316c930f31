import Derived.Test.YtkmebkbpfmoeaaaGreatH29
set_option linter.unusedVariables false
set_option linter.unusedSimpArgs false
set_option maxHeartbeats 12800000
namespace Go.Proofs.YtkmebkbpfmoeaaaGreat
open Go Go.RowKit
set_option maxRecDepth 100000
theorem zFk {w:World} {v:Value} {l:List Int} (h:zBA w v l) (k:Nat) (e:v.ownBlock=some k):k<w.heap.size:=by
 rcases h with ⟨e1,_⟩ | ⟨g',c,e1,_,hl,_⟩
 ·rw[e1] at e;simp[Value.ownBlock] at e
 ·rw[e1] at e;simp[Value.ownBlock] at e;omega
structure XF (P:Nat→Prop) (w w':World):Prop where
 os:w'.os=w.os
 tape:w'.tape=w.tape
 output:w'.output=w.output
 size:w.heap.size≤w'.heap.size
 block:∀ k,k<w.heap.size→¬ P k→w'.heap[k]?=w.heap[k]?
theorem XF.refl (P:Nat→Prop) (w:World):XF P w w:=⟨rfl,rfl,rfl,Nat.le_refl _,fun _ _ _=>rfl⟩
theorem XF.of_below {P:Nat→Prop} {w w':World} (hb:Below w.heap.size w w'):XF P w w':=⟨hb.os,hb.tape,hb.output,hb.size,fun k hk _=>hb.block k hk⟩
theorem XF.trans {P P':Nat→Prop} {w w1 w2:World} (h:XF P w w1) (h2:XF P' w1 w2) (hp:∀ k,k<w.heap.size→P' k→P k):XF P w w2 :=
 ⟨h2.os.trans h.os,h2.tape.trans h.tape,h2.output.trans h.output,Nat.le_trans h.size h2.size,fun k hk hn=>(h2.block k (Nat.lt_of_lt_of_le hk h.size) (fun e=>hn (hp k hk e))).trans (h.block k hk hn)⟩
theorem XF.below {P:Nat→Prop} {w w1 w2:World} (h:XF P w w1) (hb:Below w1.heap.size w1 w2):XF P w w2:=h.trans (XF.of_below (P:=fun _=>False) hb) (fun _ _ e=>e.elim)
theorem XF.of_ticked {w w':World} {gc o gd:Nat} (hT:Ticked w w' gc o gd):XF (fun k=>k=gc∨k=gd) w w' :=
 ⟨hT.os,hT.tape,hT.output,by rw[hT.size];exact Nat.le_refl _,fun k _ hn=>hT.block k (fun e=>hn (Or.inl e)) (fun e=>hn (Or.inr e))⟩
theorem XF.of_setCell (w:World) (g o:Nat) (v:Value):XF (fun k=>k=g) w (w.setCell ⟨g,o,none⟩ v) :=
 ⟨rfl,rfl,rfl,by simp,fun k _ hn=>Below.heap_setCell _ _ _ _ hn⟩
theorem OFrame.xf {w w':World} {g:Nat} {ov ov':Value} {fp fp':List Nat} (h:OFrame w w' g ov ov' fp fp'):XF (fun k=>k=g∨ov.ownBlock=some k) w w' :=
 ⟨h.os,h.tape,h.output,h.size,fun k hk hn=>h.block k hk (fun e=>hn (Or.inl e)) (fun e=>hn (Or.inr e))⟩
namespace Q
theorem ins_len (l:List (List Int)) (r:List Int):l.length≤(ins l r).length:=by
 induction l with
 | nil=>simp
 | cons x q ih =>
  rw[ins]
  split
  ·simp;omega
  ·split<;>simp
structure AnsOk (a:Ans):Prop where
 rise:zKi a.rows
 small:∀ x∈a.rows,Small x∧x.length<1000
theorem AnsOk.ins {a:Ans} (h:AnsOk a) (r:List Int) (hr:Small r∧r.length<1000) (b:Bool):AnsOk ⟨Q.ins a.rows r,b⟩ :=
 ⟨ins_rising h.rise,fun x hx=>by
  rcases ins_mem hx with rfl | hx
  ·exact hr
  ·exact h.small x hx⟩
theorem lastV_rng (es:List Ev) (v:Int) (ps:List Int) (h:∀ e∈es,0≤e.value∧e.value<4):0≤lastV es v ps∧lastV es v ps<4:=by
 unfold lastV
 have key:∀ (l:List Nat) (a:Int × Int),(0≤a.1∧a.1<4)→0≤(l.foldl (lastF v ps es) a).1∧(l.foldl (lastF v ps es) a).1<4:=by
  intro l
  induction l with
  | nil=>intro a ha;exact ha
  | cons i l ih =>
   intro a ha
   rw[List.foldl_cons]
   apply ih
   unfold lastF
   split
   ·by_cases hi:i<es.length
    ·rw[zDO es i hi];exact h _ (List.getElem_mem hi)
    ·simp[ev,hi,Ev.zero]
   ·exact ha
 exact key _ _ (by simp)
theorem zIJ {wd:Wd} (h:WdOk wd) (ps:List Int):Small (zJJ wd ps)∧(zJJ wd ps).length<1000:=by
 refine⟨fun x hx=>?_,by have:=h.regs;simp[zJJ];omega⟩
 rcases List.mem_append.1 hx with hx | hx
 ·exact h.vals x hx
 ·simp at hx
  rcases hx with rfl | rfl | rfl<;>exact lastV_rng _ _ _ h.evals
theorem ordBases_mem (es:List Ev) (rs:List Int) (hn:rs.length≤64):∀ b∈zIp es rs,b<1000000000:=by
 intro b hb
 simp only[zIp,List.mem_map,List.mem_range] at hb
 obtain⟨i,hi,rfl⟩:=hb
 unfold zIS
 have:=List.length_filter_le (ordB es rs i) (List.range i)
 simp at this;omega
theorem ordBases_len (es:List Ev) (rs:List Int):(zIp es rs).length=rs.length:=by simp[zIp]
theorem writeRows_len (es:List Ev):(zIj es).length=es.length:=by simp[zIj]
theorem zIy (rs ds:List Int):(zIv rs ds).length=rs.length:=by
 unfold zIv
 have k1:∀ (i:Nat) (l:List Nat) (p:List Int),(l.foldl (zJI rs i) p).length=p.length:=by
  intro i l
  induction l with
  | nil=>intro p;rfl
  | cons k l ih=>intro p;rw[List.foldl_cons,ih,placeK_len]
 have k2:∀ (l:List Nat) (p:List Int),(l.foldl (zJx rs ds) p).length=p.length:=by
  intro l
  induction l with
  | nil=>intro p;rfl
  | cons i l ih =>
   intro p
   rw[List.foldl_cons,ih]
   unfold zJx
   split
   ·simp
   ·rw[k1];simp
 rw[k2];simp
end Q
structure AnsOn (w:World) (g:Nat) (a:Q.Ans) (ov:Value) (vs:List Value) (fp:List Nat):Prop where
 out:OutAt w 0 g a.rows ov vs fp
 clash:w.cell? ⟨g,1,none⟩=some (.bool a.clash)
 ok:Q.AnsOk a
theorem AnsOn.off {w w':World} {g:Nat} {a:Q.Ans} {ov:Value} {vs:List Value} {fp:List Nat} (h:AnsOn w g a ov vs fp) (hg:w'.heap[g]?=w.heap[g]?) (ho:∀ k,ov.ownBlock=some k→w'.heap[k]?=w.heap[k]?) (hf:∀ k∈fp,w'.heap[k]?=w.heap[k]?) (hs:w.heap.size≤w'.heap.size):AnsOn w' g a ov vs fp :=
 ⟨h.out.off hg ho hf hs,(World.cell?_of_block (w:=w) (a:=⟨g,1,none⟩) hg).trans h.clash,h.ok⟩
theorem AnsOn.xf {P:Nat→Prop} {w w':World} {g:Nat} {a:Q.Ans} {ov:Value} {vs:List Value} {fp:List Nat} (h:AnsOn w g a ov vs fp) (hx:XF P w w') (hg:¬ P g) (ho:∀ k,ov.ownBlock=some k→¬ P k) (hf:∀ k∈fp,¬ P k):AnsOn w' g a ov vs fp :=
 h.off (hx.block g h.out.lt hg) (fun k e=>hx.block k (h.out.ownlt k e) (ho k e)) (fun k hk=>hx.block k (h.out.fpl k hk) (hf k hk)) hx.size
theorem AnsOn.below {w w':World} {g:Nat} {a:Q.Ans} {ov:Value} {vs:List Value} {fp:List Nat} (h:AnsOn w g a ov vs fp) (hb:Below w.heap.size w w'):AnsOn w' g a ov vs fp:=h.xf (XF.of_below (P:=fun _=>False) hb) (fun e=>e) (fun _ _ e=>e) (fun _ _ e=>e)
theorem AnsOn.ne {w:World} {g:Nat} {a:Q.Ans} {ov:Value} {vs:List Value} {fp:List Nat} (h:AnsOn w g a ov vs fp) {k:Nat} {c:Array Value} {t:TypeId} (hk:w.heap[k]?=some (.cells c t (0,0))) (h1:58≠t) (h2:58≠t):g≠k:=fun e=>by
 obtain⟨c',hty⟩:=h.out.ty
 rw[e,hk] at hty
 rcases hty with hty | hty
 ·simp at hty;exact h1 hty.2.symm
 ·simp at hty;exact h2 hty.2.symm
theorem AnsOn.free1 {w:World} {g:Nat} {a:Q.Ans} {ov:Value} {vs:List Value} {fp:List Nat} (h:AnsOn w g a ov vs fp):w.frozen? ⟨g,1,none⟩=false:=by
 obtain⟨c,hty⟩:=h.out.ty
 rcases hty with hty | hty<;>simp[World.frozen?,hty]
theorem AnsOn.own_ne {w:World} {g:Nat} {a:Q.Ans} {ov:Value} {vs:List Value} {fp:List Nat} (h:AnsOn w g a ov vs fp):ov.ownBlock≠some g:=by
 obtain⟨c',hty⟩:=h.out.ty
 rcases hty with hty | hty
 ·exact zAr h.out.rows.own hty (by decide)
 ·exact zAr h.out.rows.own hty (by decide)
theorem AnsOn.setClash {w:World} {g:Nat} {a:Q.Ans} {ov:Value} {vs:List Value} {fp:List Nat} (h:AnsOn w g a ov vs fp) (b:Bool):AnsOn (w.setCell ⟨g,1,none⟩ (.bool b)) g ⟨a.rows,b⟩ ov vs fp:=by
 have hne:=h.own_ne
 obtain⟨c,hty⟩:=h.out.ty
 refine⟨⟨(World.cell?_setCell_other _ _ _ _ (by simp)).trans h.out.cell,by simpa using h.out.lt,by rw[World.frozen?_setCell];exact h.out.free,⟨zAc h.out.rows.own (fun k e=>Below.heap_setCell _ _ _ _ (fun e2=>hne (by rw[e,e2]))),h.out.rows.len,fun i hi u hu=>(h.out.rows.rows i hi u hu).own _ (fun k e=>Below.heap_setCell _ _ _ _ (h.out.dis k (h.out.fps u (List.mem_of_getElem? hu) k e)).1) (by simp)⟩,⟨c.setIfInBounds 1 (.bool b),?_⟩,h.out.fps,by simpa using h.out.fpl,h.out.dis⟩,World.cell?_setCell_same _ _ _ h.clash,⟨h.ok.rise,h.ok.small⟩⟩
 rcases hty with hty | hty
 ·exact Or.inl (zAf hty 1 _)
 ·exact Or.inr (zAf hty 1 _)
structure AFrame (P:Nat→Prop) (w w':World) (ov ov':Value) (fp fp':List Nat):Prop where
 xf:XF P w w'
 own:ov'.ownBlock=ov.ownBlock∨∃ b,ov'.ownBlock=some b∧w.heap.size≤b
 fpn:∀ k∈fp',k∈fp∨w.heap.size≤k
theorem AFrame.refl (P:Nat→Prop) (w:World) (ov:Value) (fp:List Nat):AFrame P w w ov ov fp fp:=⟨XF.refl _ _,Or.inl rfl,fun _ h=>Or.inl h⟩
theorem AFrame.trans {P P':Nat→Prop} {w w1 w2:World} {ov ov1 ov2:Value} {fp fp1 fp2:List Nat} (h:AFrame P w w1 ov ov1 fp fp1) (h2:AFrame P' w1 w2 ov1 ov2 fp1 fp2) (hp:∀ k,k<w.heap.size→P' k→P k):AFrame P w w2 ov ov2 fp fp2 :=
 ⟨h.xf.trans h2.xf hp,by
  have hs:=h.xf.size
  rcases h2.own with e | ⟨b,e,hb⟩
  ·rcases h.own with e1 | ⟨b,e1,hb⟩
   ·exact Or.inl (e.trans e1)
   ·exact Or.inr ⟨b,e.trans e1,hb⟩
  ·exact Or.inr ⟨b,e,by omega⟩,fun k hk=>by
  have hs:=h.xf.size
  rcases h2.fpn k hk with h3 | h3
  ·exact h.fpn k h3
  ·exact Or.inr (by omega)⟩
theorem AFrame.x {P P':Nat→Prop} {w w1 w2:World} {ov ov1:Value} {fp fp1:List Nat} (h:AFrame P w w1 ov ov1 fp fp1) (h2:XF P' w1 w2) (hp:∀ k,k<w.heap.size→P' k→P k):AFrame P w w2 ov ov1 fp fp1 :=
 h.trans ⟨h2,Or.inl rfl,fun _ h=>Or.inl h⟩ hp
theorem AFrame.below {P:Nat→Prop} {w w1 w2:World} {ov ov1:Value} {fp fp1:List Nat} (h:AFrame P w w1 ov ov1 fp fp1) (hb:Below w1.heap.size w1 w2):AFrame P w w2 ov ov1 fp fp1 :=
 h.x (XF.of_below (P:=fun _=>False) hb) (fun _ _ e=>e.elim)
theorem OFrame.af {w w':World} {g:Nat} {ov ov':Value} {fp fp':List Nat} (h:OFrame w w' g ov ov' fp fp'):AFrame (fun k=>k=g∨ov.ownBlock=some k) w w' ov ov' fp fp':=⟨h.xf,h.own,h.fpn⟩
def Wr (g:Nat) (ov:Value) (k:Nat):Prop:=k=g∨ov.ownBlock=some k
structure OrdBase (w W1:World) (g go gr gb gd:Nat) (ov0:Value) (fp0:List Nat):Prop where
 lg:g<w.heap.size
 lo:∀ k,ov0.ownBlock=some k→k<w.heap.size
 lf:∀ k∈fp0,k<w.heap.size
 go1:w.heap.size≤go∧go<W1.heap.size
 gr1:w.heap.size≤gr∧gr<W1.heap.size
 gb1:w.heap.size≤gb∧gb<W1.heap.size
 gd1:w.heap.size≤gd∧gd<W1.heap.size
def zIi (g go gd:Nat) (ov0:Value) (k:Nat):Prop:=k=g∨k=go∨k=gd∨ov0.ownBlock=some k
structure OrdSt (w W1 wr:World) (g go gr gb gd:Nat) (ov0:Value) (fp0:List Nat) (rs bs ds:List Int) (rest:List (List Int)) (a:Q.Ans) (ov:Value) (vs:List Value) (fp:List Nat):Prop where
 base:OrdBase w W1 g go gr gb gd ov0 fp0
 fr:AFrame (zIi g go gd ov0) W1 wr ov0 ov fp0 fp
 ord:OrdOn wr go gr gb gd rs bs ds rest
 ans:AnsOn wr g a ov vs fp
section
variable {w W1 wr:World} {g go gr gb gd:Nat} {ov0:Value} {fp0:List Nat} {rs bs ds:List Int} {rest:List (List Int)} {a:Q.Ans} {ov:Value} {vs:List Value} {fp:List Nat}
theorem OrdSt.below (h:OrdSt w W1 wr g go gr gb gd ov0 fp0 rs bs ds rest a ov vs fp) {w2:World} (hb:Below wr.heap.size wr w2):OrdSt w W1 w2 g go gr gb gd ov0 fp0 rs bs ds rest a ov vs fp :=
 ⟨h.base,h.fr.below hb,h.ord.below hb,h.ans.below hb⟩
theorem OrdSt.ownb (h:OrdSt w W1 wr g go gr gb gd ov0 fp0 rs bs ds rest a ov vs fp) (k:Nat) (h1:w.heap.size≤k) (h2:k<W1.heap.size):ov.ownBlock≠some k:=fun e=>by
 rcases h.fr.own with e1 | ⟨b,e1,hb⟩
 ·have:=h.base.lo k (e1.symm.trans e);omega
 ·rw[e1] at e;simp at e;omega
theorem OrdSt.fpb (h:OrdSt w W1 wr g go gr gb gd ov0 fp0 rs bs ds rest a ov vs fp) (k:Nat) (h1:w.heap.size≤k) (h2:k<W1.heap.size):k ∉ fp:=fun e=>by
 rcases h.fr.fpn k e with e1 | e1
 ·have:=h.base.lf k e1;omega
 ·omega
theorem OrdSt.tick (h:OrdSt w W1 wr g go gr gb gd ov0 fp0 rs bs ds rest a ov vs fp) {w2:World} {ds2:List Int} {rest2:List (List Int)} (hT:Ticked wr w2 go 1 gd) (ho:OrdOn w2 go gr gb gd rs bs ds2 rest2):OrdSt w W1 w2 g go gr gb gd ov0 fp0 rs bs ds2 rest2 a ov vs fp:=by
 have b:=h.base
 refine⟨b,h.fr.x (XF.of_ticked hT) (fun k _ e=>?_),ho,h.ans.xf (XF.of_ticked hT) (fun e=>?_) (fun k e e2=>?_) (fun k hk e=>?_)⟩
 ·rcases e with e | e
  ·exact Or.inr (Or.inl e)
  ·exact Or.inr (Or.inr (Or.inl e))
 ·have:=b.lg;have:=b.go1.1;have:=b.gd1.1
  rcases e with e | e<;>omega
 ·rcases e2 with e2 | e2<;>subst e2
  ·exact h.ownb _ b.go1.1 b.go1.2 e
  ·exact h.ownb _ b.gd1.1 b.gd1.2 e
 ·rcases e with e | e<;>subst e
  ·exact h.fpb _ b.go1.1 b.go1.2 hk
  ·exact h.fpb _ b.gd1.1 b.gd1.2 hk
theorem OrdSt.tick0 (h:OrdSt w W1 wr g go gr gb gd ov0 fp0 rs bs ds rest a ov vs fp) {w2:World} (hT:Ticked wr w2 go 1 gd) (hb:Below w.heap.size w W1):AnsOn w2 g a ov vs fp∧AFrame (Wr g ov0) w w2 ov0 ov fp0 fp:=by
 have b:=h.base
 refine⟨h.ans.xf (XF.of_ticked hT) (fun e=>?_) (fun k e e2=>?_) (fun k hk e=>?_),(AFrame.mk (XF.of_below (P:=Wr g ov0) hb) (Or.inl rfl) (fun _ h=>Or.inl h):AFrame (Wr g ov0) w W1 ov0 ov0 fp0 fp0).trans (h.fr.x (XF.of_ticked hT) (fun k _ e=>?_)) (fun k hk e=>?_)⟩
 ·have:=b.lg;have:=b.go1.1;have:=b.gd1.1
  rcases e with e | e<;>omega
 ·rcases e2 with e2 | e2<;>subst e2
  ·exact h.ownb _ b.go1.1 b.go1.2 e
  ·exact h.ownb _ b.gd1.1 b.gd1.2 e
 ·rcases e with e | e<;>subst e
  ·exact h.fpb _ b.go1.1 b.go1.2 hk
  ·exact h.fpb _ b.gd1.1 b.gd1.2 hk
 ·rcases e with e | e
  ·exact Or.inr (Or.inl e)
  ·exact Or.inr (Or.inr (Or.inl e))
 ·have:=b.go1.1;have:=b.gd1.1
  rcases e with e | e | e | e
  ·exact Or.inl e
  ·omega
  ·omega
  ·exact Or.inr e
theorem OrdOn.off {w':World} (h:OrdOn wr go gr gb gd rs bs ds rest) (h1:w'.heap[go]?=wr.heap[go]?) (h2:w'.heap[gr]?=wr.heap[gr]?) (h3:w'.heap[gb]?=wr.heap[gb]?) (h4:w'.heap[gd]?=wr.heap[gd]?) (hs:wr.heap.size≤w'.heap.size):OrdOn w' go gr gb gd rs bs ds rest:=by
 obtain⟨b,hc,hq⟩:=h.ctr
 exact⟨(World.cell?_of_block (w:=wr) (a:=⟨go,0,none⟩) h1).trans h.r0,h.rows.of_block h2,⟨b,hc.of (fun j=>World.cell?_of_block (w:=wr) (a:=⟨go,j,none⟩) h1) (fun j=>World.frozen?_of_block (w:=wr) (a:=⟨go,j,none⟩) h1) (Nat.lt_of_lt_of_le hc.lt hs) h3 h4,hq⟩,h.len,h.ne,h.neg⟩
theorem OrdSt.ordx (h:OrdSt w W1 wr g go gr gb gd ov0 fp0 rs bs ds rest a ov vs fp) {w2:World} (hx:XF (Wr g ov) wr w2):OrdOn w2 go gr gb gd rs bs ds rest:=by
 have b:=h.base
 have hs:=h.fr.xf.size
 have K:∀ k,w.heap.size≤k→k<W1.heap.size→w2.heap[k]?=wr.heap[k]?:=fun k h1 h2=>hx.block k (by omega) (fun e=>by
  rcases e with e | e
  ·have:=b.lg;omega
  ·exact h.ownb k h1 h2 e)
 exact h.ord.off (K _ b.go1.1 b.go1.2) (K _ b.gr1.1 b.gr1.2) (K _ b.gb1.1 b.gb1.2) (K _ b.gd1.1 b.gd1.2) hx.size
theorem OrdSt.add (h:OrdSt w W1 wr g go gr gb gd ov0 fp0 rs bs ds rest a ov vs fp) {w2:World} {r:List Int} {ov':Value} {vs':List Value} {fp':List Nat} (hr:Q.Small r∧r.length<1000) (ho:OutAt w2 0 g (Q.ins a.rows r) ov' vs' fp') (hf:OFrame wr w2 g ov ov' fp fp'):OrdSt w W1 w2 g go gr gb gd ov0 fp0 rs bs ds rest ⟨Q.ins a.rows r,a.clash⟩ ov' vs' fp' :=
 ⟨h.base,h.fr.trans hf.af (fun k hk e=>by
  rcases e with e | e
  ·exact Or.inl e
  ·rcases h.fr.own with e1 | ⟨b,e1,hb⟩
   ·exact Or.inr (Or.inr (Or.inr (e1.symm.trans e)))
   ·rw[e1] at e;simp at e;omega),h.ordx hf.xf,⟨ho,hf.c1.trans h.ans.clash,h.ans.ok.ins r hr _⟩⟩
theorem OrdSt.step (h:OrdSt w W1 wr g go gr gb gd ov0 fp0 rs bs ds rest a ov vs fp) {w2:World} {a':Q.Ans} {ov':Value} {vs':List Value} {fp':List Nat} (ho:AnsOn w2 g a' ov' vs' fp') (hf:AFrame (Wr g ov) wr w2 ov ov' fp fp'):OrdSt w W1 w2 g go gr gb gd ov0 fp0 rs bs ds rest a' ov' vs' fp' :=
 ⟨h.base,h.fr.trans hf (fun k hk e=>by
  rcases e with e | e
  ·exact Or.inl e
  ·rcases h.fr.own with e1 | ⟨b,e1,hb⟩
   ·exact Or.inr (Or.inr (Or.inr (e1.symm.trans e)))
   ·rw[e1] at e;simp at e;omega),h.ordx hf.xf,ho⟩
theorem OrdSt.setClash (h:OrdSt w W1 wr g go gr gb gd ov0 fp0 rs bs ds rest a ov vs fp) (b:Bool):OrdSt w W1 (wr.setCell ⟨g,1,none⟩ (.bool b)) g go gr gb gd ov0 fp0 rs bs ds rest ⟨a.rows,b⟩ ov vs fp :=
 ⟨h.base,h.fr.x (XF.of_setCell _ _ _ _) (fun k _ e=>Or.inl e),h.ordx ⟨rfl,rfl,rfl,by simp,fun k _ hn=>Below.heap_setCell _ _ _ _ (fun e=>hn (Or.inl e))⟩,h.ans.setClash b⟩
theorem OrdSt.box (h:OrdSt w W1 wr g go gr gb gd ov0 fp0 rs bs ds rest a ov vs fp) (k:Nat) (h1:w.heap.size≤k) (h2:k<W1.heap.size) (h3:k≠go) (h4:k≠gd):wr.heap[k]?=W1.heap[k]? :=
 h.fr.xf.block k h2 (fun e=>by
  rcases e with e | e | e | e
  ·have:=h.base.lg;omega
  ·exact h3 e
  ·exact h4 e
  ·have:=h.base.lo k e;omega)
theorem OrdSt.oldb (h:OrdSt w W1 wr g go gr gb gd ov0 fp0 rs bs ds rest a ov vs fp) (hw:w.heap.size≤W1.heap.size) (k:Nat) (h1:k<w.heap.size) (h2:¬ Wr g ov0 k):wr.heap[k]?=W1.heap[k]? :=
 h.fr.xf.block k (by omega) (fun e=>by
  have:=h.base.go1.1
  have:=h.base.gd1.1
  rcases e with e | e | e | e
  ·exact h2 (Or.inl e)
  ·omega
  ·omega
  ·exact h2 (Or.inr e))
theorem OrdSt.done (h:OrdSt w W1 wr g go gr gb gd ov0 fp0 rs bs ds rest a ov vs fp) (hb:Below w.heap.size w W1):AFrame (Wr g ov0) w wr ov0 ov fp0 fp :=
 ⟨⟨h.fr.xf.os.trans hb.os,h.fr.xf.tape.trans hb.tape,h.fr.xf.output.trans hb.output,Nat.le_trans hb.size h.fr.xf.size,fun k hk hn=>(h.oldb hb.size k hk hn).trans (hb.block k hk)⟩,by
  have:=hb.size
  rcases h.fr.own with e | ⟨b,e,hl⟩
  ·exact Or.inl e
  ·exact Or.inr ⟨b,e,by omega⟩,fun k hk=>by
  have:=hb.size
  rcases h.fr.fpn k hk with e | e
  ·exact Or.inl e
  ·exact Or.inr (by omega)⟩
end
theorem FactsIn.wr {w W:World} {g:Nat} {a:Q.Ans} {ov:Value} {vs:List Value} {fp:List Nat} {fa:FA} {f:Q.Facts} (h:FactsIn w fa f) (hA:AnsOn w g a ov vs fp) (hk:∀ k,k<w.heap.size→¬ Wr g ov k→W.heap[k]?=w.heap[k]?):FactsIn W fa f:=by
 obtain⟨c,hty⟩:=hA.out.ty
 have hs:∀ g' l,zAo w g' l→¬ Wr g ov g':=fun g' l hg e=>by
  rcases e with e | e
  ·rcases hty with hty | hty<;>exact zCn hg hty (by decide) e
  ·unfold zAo at hg
   exact zAr hA.out.rows.own hg (by decide) e
 have he:∀ k,fa.ev.ownBlock=some k→¬ Wr g ov k:=fun k e e2=>by
  rcases e2 with e2 | e2
  ·subst e2
   rcases hty with hty | hty<;>exact zAr h.ev hty (by decide) e
  ·rcases hA.out.rows.own.2 with ⟨e3,_⟩ | ⟨b,c2,cur,e3,_,hb,_⟩
   ·rw[e3] at e2;simp[Value.ownBlock] at e2
   ·rw[e3] at e2;simp[Value.ownBlock] at e2
    subst e2
    exact zAr h.ev hb (by decide) e
 exact h.off (fun g' l hg=>hk g' hg.lt (hs g' l hg)) (zAc h.ev (fun k e=>hk k (h.ev.lt k e).2 (he k e)))
theorem RelAt.wr {w W:World} {g:Nat} {a:Q.Ans} {ov:Value} {vs:List Value} {fp:List Nat} {gr n:Nat} {l:List Nat} (h:RelAt w gr n l) (hA:AnsOn w g a ov vs fp) (hk:∀ k,k<w.heap.size→¬ Wr g ov k→W.heap[k]?=w.heap[k]?):RelAt W gr n l:=by
 obtain⟨c,hty⟩:=hA.out.ty
 refine⟨h.at_.of_block (hk gr h.lt (fun e=>?_)),h.len,h.fits⟩
 have hg:=h.at_
 rcases e with e | e
 ·rcases hty with hty | hty<;>exact zCn hg hty (by decide) e
 ·unfold zAo at hg
  exact zAr hA.out.rows.own hg (by decide) e
theorem WdIn.wr {w W:World} {g:Nat} {a:Q.Ans} {ov:Value} {vs:List Value} {fp:List Nat} {ev rg:Value} {wd:Q.Wd} (h:WdIn w ev rg wd) (hA:AnsOn w g a ov vs fp) (hr:∀ k,rg.ownBlock=some k→¬ Wr g ov k) (hk:∀ k,k<w.heap.size→¬ Wr g ov k→W.heap[k]?=w.heap[k]?) (hs:w.heap.size≤W.heap.size):WdIn W ev rg wd:=by
 obtain⟨c,hty⟩:=hA.out.ty
 refine⟨zAc h.evs (fun k e=>hk k (h.evs.lt k e).2 (fun e2=>?_)),h.regs.own _ (fun k e=>hk k ?_ (hr k e)) hs⟩
 ·rcases e2 with e2 | e2
  ·subst e2
   rcases hty with hty | hty<;>exact zAr h.evs hty (by decide) e
  ·rcases hA.out.rows.own.2 with ⟨e3,_⟩ | ⟨b,c2,cur,e3,_,hb,_⟩
   ·rw[e3] at e2;simp[Value.ownBlock] at e2
   ·rw[e3] at e2;simp[Value.ownBlock] at e2
    subst e2
    exact zAr h.evs hb (by decide) e
 ·rcases h.regs with ⟨e1,_⟩ | ⟨g',c,e1,_,hl,_⟩
  ·rw[e1] at e;simp[Value.ownBlock] at e
  ·rw[e1] at e;simp[Value.ownBlock] at e;omega
theorem zDA (gc:Nat) (A:WA) (rss:List (List Q.Run)) (st:Option RS) (ds:List Int) (rest:List (List Int)) (w:World) (h:CandOn w gc A rss st ds rest) (hn:rss.length<20) (hb:∀ r∈rss,r.length<100000000) (hok:∀ rs∈rss,∀ r∈rs,r.regs.length=4∧∀ e∈r.events,e.hangs<Q.M64) (hW:∀ d,Q.DigOk (zAT rss) d→Q.WdOk (Q.zIl rss d)) :
  Calls Tryz.prog 47 #[.pointer (some ⟨gc,0,none⟩)] w fun e w'=>∃ b,e=.returned (.bool b)∧zHx w w' gc A rss st (zCm rss st rest) b:=by
 have H0:Hid (zFi w gc A rss st (zCm rss st rest) w rest.length):=⟨st,ds,rest,h,rfl,rfl,CFrame.refl _ _ _ _,fun k h=>Or.inl h,fun k h=>Or.inl h⟩
 have HB:=zAa hb
 have HOK:=zAa hok
 have HW:=zAa hW
 generalize zCm rss st rest=R0 at *
 clear h hb hok hW
 obtain⟨μ,hμ⟩:=zCH (zFi w gc A rss st R0)
 have HMU:=zAa hμ
 clear hμ
 go_enter Tryz.func47,Tryz.ntmps47
 go_wp2
 go_loopw [] (fun wr=>∃ n,Hid (zFi w gc A rss st R0 wr n)) (fun wr=>μ wr)
 case atStart=>exact⟨_,H0⟩
 case round =>
  obtain⟨hI,hmin⟩:=HMU.out wr (by obtain⟨n,h⟩:=hrel;exact⟨n,h.out⟩)
  clear hrel hmin
  obtain⟨st1,ds1,rest1,hC,hR,hlen,hF,hN⟩:=hI
  have HC:=zAa hC
  have HR:=zAa hR
  have HL:=zAa hlen
  have HF:=zAa hF
  have HN:=zAa hN
  have lgc:=hC.box.lt
  have c21:=hC.beg
  clear hC hR hlen hF hN
  cases st1 with
  | none =>
   simp only[Option.isSome] at c21
   have HCW:Hid (CandW wr gc A rss ds1 rest1):=⟨HC.out.box,HC.out.ws,_,c21⟩
   have HR0:=HR
   have HF1:=HF
   clear HC HR HF HN
   go_wp2_with (first
    | (go_at_call 68;obtain⟨bb,c21w⟩:=HCW.out.beg;obtain⟨cc,hcc,_⟩:=id HCW.out.box;refine (zDS gc 13 A.rv A.vs A.wss A.gb A.gd rss ds1 rest1 cc 75 _ HCW.out.ws hcc (by decide) (by decide) (by decide) (by omega) HB.out).mono ?_;clear hcc;rintro e w3 ⟨h1,hT⟩;have p21:=(hT.cell 21 (by omega)).trans c21w;have BX3:=zAa (HCW.out.box.ticked hT);have pf:=BX3.out.free;have lg3:=BX3.out.lt;have F3:=zAa (HF1.out.ticked hT (Or.inl rfl));clear hT c21w;rcases h1 with ⟨hr,rfl⟩ | ⟨d,q,hr,rfl,hws,hdo⟩)
    | (go_at_call 69;have HDO:=zAa hdo;have HWK:=zAa (HW.out d hdo);have C4:=zAa (CW.start BX3.out hws F3.out);clear hws hdo;refine (zEA gc 13 A.rv A.vs A.wss A.gb A.gd rss d q _ C4.out.ws HDO.out (by omega) HWK.out.le HOK.out).mono ?_;rintro e w5 ⟨ev,rg,rfl,hwd,hrgf,hb5⟩;have C5:=zAa (C4.out.below hb5);have WD5:=zAa hwd;have RNE:Hid (rg.ownBlock≠some gc):=(fun e=>by have:=hrgf gc e;have:=C4.out.box.lt;omega);have RGL:Hid (∀ k,rg.ownBlock=some k→k<w5.heap.size):=(fun k e=>hwd.regs.ownlt k e);have RGN:Hid (∀ k,rg.ownBlock=some k→w.heap.size≤k):=(fun k e=>Nat.le_trans C4.out.fr.size (hrgf k e));obtain⟨ea,ec,hev,_⟩:=hwd.evs.form;obtain⟨ra,rc,hrg,_⟩:=hwd.regs.form;clear hwd hrgf hb5;subst hev hrg)
    | (refine wpList_store_mid rfl 61 (.tmp 29) (.tmp 27) rfl gc 0 #[.slice ea (Q.zIl rss d).events.length ec,.slice ra (Q.zIl rss d).regs.length rc] rfl rfl (C5.out.box.there 0 2 (by decide)) (by kernel_rfl) (by simp[Value.oneCell']) ?_;have D6:=zAa (CW1.start WD5.out RNE.out C5.out.box);have C6:=zAa (C5.out.set 0 [.slice ea (Q.zIl rss d).events.length ec,.slice ra (Q.zIl rss d).regs.length rc] (Or.inl (by simp)));have S6:w5.heap.size≤(w5.setCells gc 0 [.slice ea (Q.zIl rss d).events.length ec,.slice ra (Q.zIl rss d).regs.length rc]).heap.size:=(by rw[zAS];exact Nat.le_refl _);generalize w5.setCells gc 0 [.slice ea (Q.zIl rss d).events.length ec,.slice ra (Q.zIl rss d).regs.length rc]=w6 at *;have c60:=D6.out.c0;have c61:=D6.out.c1;have lg6:=C6.out.box.lt)
    | (go_at_call 70;refine (zDx _ (Q.zIl rss d).events _ D6.out.wdi.evs HWK.out.pos HWK.out.le HWK.out.hangs).mono ?_;rintro e w7 ⟨fa,rfl,hfn,hfin,hb7⟩;have C7:=zAa (C6.out.below hb7);have D7:=zAa (D6.out.below C6.out.box hb7);have FI7:=zAa hfin;obtain⟨fx,fcp,hfev,_⟩:=hfin.form;have S7:=hb7.size;clear hfin hb7)
    | (refine wpList_store_mid rfl 66 (.tmp 38) (.tmp 36) rfl gc 2 (zAl fa) rfl rfl (C7.out.box.there 2 10 (by decide)) (by kernel_rfl) (by simp[zAl,hfev,Value.oneCell']) ?_;have E8:=zAa (CW2.start FI7.out C7.out.box);have C8:=zAa (C7.out.set 2 (zAl fa).toList (Or.inl (by simp[zAl])));have D8:=zAa (D7.out.set C7.out.box 2 (zAl fa).toList (by simp[zAl]) (by decide));have S8:w7.heap.size≤(w7.setCells gc 2 (zAl fa).toList).heap.size:=(by rw[zAS];exact Nat.le_refl _);generalize w7.setCells gc 2 (zAl fa).toList=w8 at *;have c80:=D8.out.c0;have c81:=D8.out.c1;have lg8:=C8.out.box.lt)
    | (go_at_call 71;refine (zDa _ _ (Q.zIl rss d).events _ D8.out.wdi.evs ⟨_,_,_,rfl⟩ HWK.out.le).mono ?_;rintro e w9 ⟨cv,cvs,rgb,rgd,rfl,hri,hib,hid,hgb,hgd,hbd,hcvd,hcu,hb9⟩;have C9:=zAa (C8.out.below hb9);have D9:=zAa (D8.out.below C8.out.box hb9);have E9:=zAa (E8.out.below C8.out.box hb9);obtain⟨ca,cc2,hcv,_⟩:=hri.form;subst hcv;have RI9:=zAa hri;have IB9:=zAa hib;have ID9:=zAa hid;have HCU:=zAa hcu;have HCV:=zAa hcvd;clear hri hib hid hcu hcvd hb9)
    | (refine wpList_store_mid rfl 73 (.tmp 46) (.tmp 44) rfl gc 17 #[.slice ca (Q.zIk (Q.zIl rss d).events).length cc2,.slice (some ⟨rgb,0,none⟩) (Q.zIk (Q.zIl rss d).events).length (Q.zIk (Q.zIl rss d).events).length,.slice (some ⟨rgd,0,none⟩) (Q.zIk (Q.zIl rss d).events).length (Q.zIk (Q.zIl rss d).events).length,.bool false] rfl rfl (C9.out.box.there 17 4 (by decide)) (by kernel_rfl) (by simp[Value.oneCell']) ?_))
   ·go_wp2
    go_ret
    exact⟨false,rfl,F3.out,Or.inl ⟨rfl,by rw[← HR0.out,hr];rfl⟩⟩
   ·obtain⟨bc4,⟨_,_,_,_,_,cb4,cd4,_,_,_,_⟩,_⟩:=C8.out.ws.ctr
    have hA:=cb4.lt
    have hA2:=cd4.lt
    have hCN:=zFB C9.out D9.out E9.out RI9.out IB9.out ID9.out hgb hgd hbd HCV.out HCU.out lg8 ⟨hA,hA2⟩ (fun k e=>by have:=RGL.out k e;omega) HWK.out
    have F9:=C9.out.fr.set 17 [.slice ca (Q.zIk (Q.zIl rss d).events).length cc2,.slice (some ⟨rgb,0,none⟩) (Q.zIk (Q.zIl rss d).events).length (Q.zIk (Q.zIl rss d).events).length,.slice (some ⟨rgd,0,none⟩) (Q.zIk (Q.zIl rss d).events).length (Q.zIk (Q.zIl rss d).events).length,.bool false]
    have hsz8:=C8.out.fr.size
    have hR:zFi w gc A rss st R0 (w9.setCells gc 17 [.slice ca (Q.zIk (Q.zIl rss d).events).length cc2,.slice (some ⟨rgb,0,none⟩) (Q.zIk (Q.zIl rss d).events).length (Q.zIk (Q.zIl rss d).events).length,.slice (some ⟨rgd,0,none⟩) (Q.zIk (Q.zIl rss d).events).length (Q.zIk (Q.zIl rss d).events).length,.bool false]) q.length:=by
     refine⟨_,_,_,hCN,?_,rfl,F9,fun k hk=>Or.inr ?_,fun k hk=>Or.inr ?_⟩
     ·rw[← HR0.out,hr];simp[zCm,Q.zKp]
     ·obtain⟨s',e1,hnb⟩:=hk
      simp only[Option.some.injEq] at e1
      subst e1
      rcases hnb with h1 | h1 | ⟨u,hu,h1⟩ | h1 | h1
      ·exact RGN.out k h1
      ·have:=(RI9.out.own.lt k h1).1;omega
      ·have:=(HCU.out u hu k h1).1;omega
      ·simp only at h1;omega
      ·simp only at h1;omega
     ·obtain⟨s',e1,e2⟩:=hk
      simp only[Option.some.injEq] at e1
      subst e1
      simp only at e2;omega
    go_roundw
    case rel =>
     (repeat apply Exists.intro)
     exact⟨⟨_,hR⟩,rfl⟩
    case measure =>
     have h1:=(HMU.out _ ⟨_,hR⟩).2 _ hR
     have h2:=HL.out
     rw[hr] at h2
     simp only[List.length_cons] at h2
     omega
  | some s =>
   simp only[Option.isSome] at c21
   obtain⟨hon,hwk⟩:=HC.out.rs s rfl
   have HRD:=zAa hon.rd
   have HGD:Hid (s.R.gd=A.gd∨gdS st s.R.gd∨w.heap.size≤s.R.gd):=by
    rcases HN.out.2 s.R.gd ⟨s,rfl,rfl⟩ with h1 | h1
    ·exact Or.inr (Or.inl h1)
    ·exact Or.inr (Or.inr h1)
   have hcl:(Q.zIk s.wd.events).length<10000:=by rw[Q.zJO];have:=hwk.le;omega
   have HLM:=zAa (Q.lens_mem s.wd.events hwk.le)
   clear hon hwk
   go_upto_region 2 with (first | (go_at_call 67;refine (zGc gc 17 s.R.cv s.R.cvs s.R.gb s.R.gd (Q.zIk s.wd.events) s.ds s.rest _ HRD.out hcl HLM.out).mono ?_;rintro e w2 ⟨h1,hT⟩;have HT:=zAa hT;clear hT;rcases h1 with ⟨hr,rfl⟩ | ⟨r,q,hr,rfl,hrd,hdo⟩))
   ·have HCW:Hid (CandW w2 gc A rss ds1 rest1):=by
     have hon:=(HC.out.rs s rfl).1
     obtain⟨b,hc⟩:=HRD.out.ctr.ctr
     exact⟨HC.out.box.ticked HT.out,zGG HC.out.ws HT.out HC.out.box hon.n1 hon.n2 hc.digits,_,(HT.out.cell _ (by omega)).trans c21⟩
    have HR0:Hid (zCm rss none rest1=R0):=by unfold Hid;rw[← HR.out];simp[zCm,hr]
    have HF1:=zAa (HF.out.ticked HT.out HGD.out)
    clear HC HR HF HN HT HRD HGD HLM c21 lgc hr
    go_wp2_with (first
     | (go_at_call 68;obtain⟨bb,c21w⟩:=HCW.out.beg;obtain⟨cc,hcc,_⟩:=id HCW.out.box;refine (zDS gc 13 A.rv A.vs A.wss A.gb A.gd rss ds1 rest1 cc 75 _ HCW.out.ws hcc (by decide) (by decide) (by decide) (by omega) HB.out).mono ?_;clear hcc;rintro e w3 ⟨h1,hT⟩;have p21:=(hT.cell 21 (by omega)).trans c21w;have BX3:=zAa (HCW.out.box.ticked hT);have pf:=BX3.out.free;have lg3:=BX3.out.lt;have F3:=zAa (HF1.out.ticked hT (Or.inl rfl));clear hT c21w;rcases h1 with ⟨hr,rfl⟩ | ⟨d,q,hr,rfl,hws,hdo⟩)
     | (go_at_call 69;have HDO:=zAa hdo;have HWK:=zAa (HW.out d hdo);have C4:=zAa (CW.start BX3.out hws F3.out);clear hws hdo;refine (zEA gc 13 A.rv A.vs A.wss A.gb A.gd rss d q _ C4.out.ws HDO.out (by omega) HWK.out.le HOK.out).mono ?_;rintro e w5 ⟨ev,rg,rfl,hwd,hrgf,hb5⟩;have C5:=zAa (C4.out.below hb5);have WD5:=zAa hwd;have RNE:Hid (rg.ownBlock≠some gc):=(fun e=>by have:=hrgf gc e;have:=C4.out.box.lt;omega);have RGL:Hid (∀ k,rg.ownBlock=some k→k<w5.heap.size):=(fun k e=>hwd.regs.ownlt k e);have RGN:Hid (∀ k,rg.ownBlock=some k→w.heap.size≤k):=(fun k e=>Nat.le_trans C4.out.fr.size (hrgf k e));obtain⟨ea,ec,hev,_⟩:=hwd.evs.form;obtain⟨ra,rc,hrg,_⟩:=hwd.regs.form;clear hwd hrgf hb5;subst hev hrg)
     | (refine wpList_store_mid rfl 61 (.tmp 29) (.tmp 27) rfl gc 0 #[.slice ea (Q.zIl rss d).events.length ec,.slice ra (Q.zIl rss d).regs.length rc] rfl rfl (C5.out.box.there 0 2 (by decide)) (by kernel_rfl) (by simp[Value.oneCell']) ?_;have D6:=zAa (CW1.start WD5.out RNE.out C5.out.box);have C6:=zAa (C5.out.set 0 [.slice ea (Q.zIl rss d).events.length ec,.slice ra (Q.zIl rss d).regs.length rc] (Or.inl (by simp)));have S6:w5.heap.size≤(w5.setCells gc 0 [.slice ea (Q.zIl rss d).events.length ec,.slice ra (Q.zIl rss d).regs.length rc]).heap.size:=(by rw[zAS];exact Nat.le_refl _);generalize w5.setCells gc 0 [.slice ea (Q.zIl rss d).events.length ec,.slice ra (Q.zIl rss d).regs.length rc]=w6 at *;have c60:=D6.out.c0;have c61:=D6.out.c1;have lg6:=C6.out.box.lt)
     | (go_at_call 70;refine (zDx _ (Q.zIl rss d).events _ D6.out.wdi.evs HWK.out.pos HWK.out.le HWK.out.hangs).mono ?_;rintro e w7 ⟨fa,rfl,hfn,hfin,hb7⟩;have C7:=zAa (C6.out.below hb7);have D7:=zAa (D6.out.below C6.out.box hb7);have FI7:=zAa hfin;obtain⟨fx,fcp,hfev,_⟩:=hfin.form;have S7:=hb7.size;clear hfin hb7)
     | (refine wpList_store_mid rfl 66 (.tmp 38) (.tmp 36) rfl gc 2 (zAl fa) rfl rfl (C7.out.box.there 2 10 (by decide)) (by kernel_rfl) (by simp[zAl,hfev,Value.oneCell']) ?_;have E8:=zAa (CW2.start FI7.out C7.out.box);have C8:=zAa (C7.out.set 2 (zAl fa).toList (Or.inl (by simp[zAl])));have D8:=zAa (D7.out.set C7.out.box 2 (zAl fa).toList (by simp[zAl]) (by decide));have S8:w7.heap.size≤(w7.setCells gc 2 (zAl fa).toList).heap.size:=(by rw[zAS];exact Nat.le_refl _);generalize w7.setCells gc 2 (zAl fa).toList=w8 at *;have c80:=D8.out.c0;have c81:=D8.out.c1;have lg8:=C8.out.box.lt)
     | (go_at_call 71;refine (zDa _ _ (Q.zIl rss d).events _ D8.out.wdi.evs ⟨_,_,_,rfl⟩ HWK.out.le).mono ?_;rintro e w9 ⟨cv,cvs,rgb,rgd,rfl,hri,hib,hid,hgb,hgd,hbd,hcvd,hcu,hb9⟩;have C9:=zAa (C8.out.below hb9);have D9:=zAa (D8.out.below C8.out.box hb9);have E9:=zAa (E8.out.below C8.out.box hb9);obtain⟨ca,cc2,hcv,_⟩:=hri.form;subst hcv;have RI9:=zAa hri;have IB9:=zAa hib;have ID9:=zAa hid;have HCU:=zAa hcu;have HCV:=zAa hcvd;clear hri hib hid hcu hcvd hb9)
     | (refine wpList_store_mid rfl 73 (.tmp 46) (.tmp 44) rfl gc 17 #[.slice ca (Q.zIk (Q.zIl rss d).events).length cc2,.slice (some ⟨rgb,0,none⟩) (Q.zIk (Q.zIl rss d).events).length (Q.zIk (Q.zIl rss d).events).length,.slice (some ⟨rgd,0,none⟩) (Q.zIk (Q.zIl rss d).events).length (Q.zIk (Q.zIl rss d).events).length,.bool false] rfl rfl (C9.out.box.there 17 4 (by decide)) (by kernel_rfl) (by simp[Value.oneCell']) ?_))
    ·go_wp2
     go_ret
     exact⟨false,rfl,F3.out,Or.inl ⟨rfl,by rw[← HR0.out,hr];rfl⟩⟩
    ·obtain⟨bc4,⟨_,_,_,_,_,cb4,cd4,_,_,_,_⟩,_⟩:=C8.out.ws.ctr
     have hA:=cb4.lt
     have hA2:=cd4.lt
     have hCN:=zFB C9.out D9.out E9.out RI9.out IB9.out ID9.out hgb hgd hbd HCV.out HCU.out lg8 ⟨hA,hA2⟩ (fun k e=>by have:=RGL.out k e;omega) HWK.out
     have F9:=C9.out.fr.set 17 [.slice ca (Q.zIk (Q.zIl rss d).events).length cc2,.slice (some ⟨rgb,0,none⟩) (Q.zIk (Q.zIl rss d).events).length (Q.zIk (Q.zIl rss d).events).length,.slice (some ⟨rgd,0,none⟩) (Q.zIk (Q.zIl rss d).events).length (Q.zIk (Q.zIl rss d).events).length,.bool false]
     have hsz8:=C8.out.fr.size
     have hR:zFi w gc A rss st R0 (w9.setCells gc 17 [.slice ca (Q.zIk (Q.zIl rss d).events).length cc2,.slice (some ⟨rgb,0,none⟩) (Q.zIk (Q.zIl rss d).events).length (Q.zIk (Q.zIl rss d).events).length,.slice (some ⟨rgd,0,none⟩) (Q.zIk (Q.zIl rss d).events).length (Q.zIk (Q.zIl rss d).events).length,.bool false]) q.length:=by
      refine⟨_,_,_,hCN,?_,rfl,F9,fun k hk=>Or.inr ?_,fun k hk=>Or.inr ?_⟩
      ·rw[← HR0.out,hr];simp[zCm,Q.zKp]
      ·obtain⟨s',e1,hnb⟩:=hk
       simp only[Option.some.injEq] at e1
       subst e1
       rcases hnb with h1 | h1 | ⟨u,hu,h1⟩ | h1 | h1
       ·exact RGN.out k h1
       ·have:=(RI9.out.own.lt k h1).1;omega
       ·have:=(HCU.out u hu k h1).1;omega
       ·simp only at h1;omega
       ·simp only at h1;omega
      ·obtain⟨s',e1,e2⟩:=hk
       simp only[Option.some.injEq] at e1
       subst e1
       simp only at e2;omega
     go_roundw
     case rel =>
      (repeat apply Exists.intro)
      exact⟨⟨_,hR⟩,rfl⟩
     case measure =>
      have h1:=(HMU.out _ ⟨_,hR⟩).2 _ hR
      have h2:=HL.out
      rw[hr] at h2
      simp only[List.length_cons] at h2
      omega
   ·go_wp2
    go_ret
    exact⟨true,rfl,zFi.some HC.out HR.out HF.out HN.out HT.out hr hrd hdo (HF.out.ticked HT.out HGD.out)⟩
end Go.Proofs.YtkmebkbpfmoeaaaGreat
