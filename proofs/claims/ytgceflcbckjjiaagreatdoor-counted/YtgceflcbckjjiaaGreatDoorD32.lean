import Derived.Test.YtgceflcbckjjiaaGreatDoorD31
set_option linter.unusedVariables false
set_option linter.unusedSimpArgs false
set_option maxHeartbeats 12800000
namespace Go.Proofs.YtgceflcbckjjiaaGreatDoor
open Go Go.RowKit
set_option maxRecDepth 100000
namespace Q
def wrowF (es:List Ev) (k:Nat):Int:=if (ev es k).kind==1 then (ev es k).var else -1
theorem writeRows_range (es:List Ev):zJX es=(List.range es.length).map (wrowF es):=by
 unfold zJX
 apply List.ext_getElem
 ·simp
 ·intro i h1 h2
  simp at h1
  simp[wrowF,ev,h1]
end Q
theorem zDV (ev rg:Value) (es:List Q.Ev) (w:World) (he:zAZ w ev es) (hrg:∃ a n c,rg=.slice a n c) (hn:es.length≤64) :
  Calls Tryz.prog 69 #[.agg #[ev,rg]] w fun e w'=>zIx w w' (Q.zJX es) (Q.zKe es (Q.zJX es)) e:=by
 have hmk:∀ w,(Instr.makeSlice 32 (.int .i64 (es.length:Int)) (.int .i64 (es.length:Int))).run Tryz.prog w=.ok (.slice (some ⟨w.heap.size,0,none⟩) es.length es.length) (w.alloc (.cells (madeCells #[.int .i64 0] es.length) 3)) :=
  fun w=>run_make_row' 32 3 (.int .i64 0) 8 Tryz.underlying32 Tryz.infoInt rfl .i64 .i64 es.length (by omega) (by omega) w
 obtain⟨ea,ec,rfl,hea⟩:=he.form
 obtain⟨ra,rn,rc,rfl⟩:=hrg
 obtain⟨k0,k1,hsz,hbw⟩:=zCd w #[.slice ea es.length ec,.slice ra rn rc] #[.slice none 0 0,.slice none 0 0,.slice none 0 0,.bool false] 65 124
 have HE0:=zAa he
 have BW0:=zAa hbw
 have HRO:Hid (Q.zJX es=(List.range es.length).map (Q.wrowF es)):=Q.writeRows_range es
 have HRL:Hid ((Q.zJX es).length=es.length):=by simp[Hid,Q.zJX]
 clear hbw he
 go_enter Tryz.func69,Tryz.ntmps69
 go_upto_region 1 with fail
 generalize hE:(w.alloc (.cells #[.slice ea es.length ec,.slice ra rn rc] 65)).alloc (.cells #[.slice none 0 0,.slice none 0 0,.slice none 0 0,.bool false] 124)=W0 at *
 have c00:=ceL k0 0 _ rfl
 have c01:=ceL k0 1 _ rfl
 have l0:w.heap.size<W0.heap.size:=by omega
 have l1:w.heap.size+1<W0.heap.size:=by omega
 have hszl:w.heap.size+2≤W0.heap.size:=by omega
 have K1:=zAa k1
 have HM0:Hid (zAt (W0.alloc (.cells (madeCells #[.int .i64 0] es.length) 3)) W0.heap.size (Q.mixI (Q.wrowF es) es.length 0)):=by
  unfold Hid zAt;rw[Q.zLM,← zCp];exact heap_alloc_new W0 _
 have HB0:Hid (Below W0.heap.size W0 (W0.alloc (.cells (madeCells #[.int .i64 0] es.length) 3))):=(Below.refl _ _).alloc (Nat.le_refl _) _
 clear hE k0 k1 hsz
 go_wp2
 go_loopw [13] (fun j wr=>∃ (k:Nat),k≤es.length∧j=.int .i64 k∧Hid (zAt wr W0.heap.size (Q.mixI (Q.wrowF es) es.length k))∧Hid (Below W0.heap.size W0 wr)) (fun j _=>es.length-(intOf j).toNat)
 case atStart=>exact⟨0,Nat.zero_le _,rfl,HM0,HB0⟩
 case round =>
  obtain⟨k,hk,rfl,HI,HBL2⟩:=hrel
  by_cases hlt:k<es.length
  ·have hin:(k:Int)<(es.length:Int):=by omega
   obtain⟨be,rfl,hbe⟩:=hea (by omega)
   have hbeW:be<W0.heap.size:=by omega
   have HR1:Hid (wr.rangeAt be (k*10) (zAe (Q.ev es k)).toList):=zAv (HE0.out.range' rfl k (by omega)) ((HBL2.out.block be hbeW).trans (BW0.out.block be hbe))
   have HMS:=zAa (Q.zMe (Q.wrowF es) es.length k hlt)
   have HPF:Hid (Q.wrowF es k=if (Q.ev es k).kind==1 then (Q.ev es k).var else -1):=rfl
   generalize Q.ev es k=e1 at *
   have HI1:=zAa (HI.out.below ((Below.refl _ _).alloc (Nat.le_refl _) (.cells (zAe e1) 158)))
   have HBX1:Hid (Below W0.heap.size W0 (wr.alloc (.cells (zAe e1) 158))):=HBL2.out.alloc HBL2.out.size _
   have hkl:k<(Q.mixI (Q.wrowF es) es.length k).length:=by rw[Q.zLA];exact hlt
   have hkl2:k<((Q.mixI (Q.wrowF es) es.length k).set k (-1)).length:=by rw[List.length_set];exact hkl
   have t0:=HI1.out.cellD k hkl
   have ff:=HI1.out.free k
   have tl:=HI1.out.lt
   have JX:=zAa (HI1.out.set k (-1))
   have BX:Hid (Below W0.heap.size W0 ((wr.alloc (.cells (zAe e1) 158)).setCell ⟨W0.heap.size,k,none⟩ (.int .i64 (-1)))):=HBX1.out.setCell (p:=⟨W0.heap.size,k,none⟩) (Nat.le_refl _) _
   have EA:Hid (zAS ((wr.alloc (.cells (zAe e1) 158)).setCell ⟨W0.heap.size,k,none⟩ (.int .i64 (-1))) wr.heap.size e1):=by
    have h1:=zAS.new wr e1
    have h2:=HI.out.lt
    unfold Hid zAS at *
    rw[Below.heap_setCell _ _ _ _ (by simp;omega)];exact h1
   obtain⟨x0,x1,x2,x3,x4,x5,x6,x7,x8,x9,xf,xl⟩:=EA.out.facts
   simp only[zAe] at t0 ff tl x0 x1 x2 x3 x4 x5 x6 x7 x8 x9 xf xl
   generalize hgm:(Q.mixI (Q.wrowF es) es.length k).getD k 0=gm at *
   cases z1:(e1.kind==1)
   ·have HN:Hid ((Q.mixI (Q.wrowF es) es.length k).set k (-1)=Q.mixI (Q.wrowF es) es.length (k+1)):=by unfold Hid;rw[← HMS.out,HPF.out,z1];rfl
    rw[HN.out] at JX
    go_wp2_with (first | (refine zAg (.tmp 16) rfl rfl be (k*10) e1 rfl HR1.out ?_))
    go_roundw
    case rel=>exact⟨k+1,by omega,by go_num,JX,BX⟩
    case measure=>simp[intOf];omega
   ·have HN:Hid (((Q.mixI (Q.wrowF es) es.length k).set k (-1)).set k (e1.var)=Q.mixI (Q.wrowF es) es.length (k+1)):=by unfold Hid;rw[List.set_set,← HMS.out,HPF.out,z1];rfl
    have JY:=zAa (JX.out.set k (e1.var))
    have t5:=JX.out.cellD k hkl2
    simp only[zAe] at t5
    go_wp2_with (first | (refine zAg (.tmp 16) rfl rfl be (k*10) e1 rfl HR1.out ?_))
    go_roundw
    case rel=>exact⟨k+1,by omega,by go_num,by rw[← HN.out];exact JY,BX.out.setCell (p:=⟨W0.heap.size,k,none⟩) (Nat.le_refl _) _⟩
    case measure=>simp[intOf];omega
  ·have hkn:k=es.length:=by omega
   have HF:Hid (zAt wr W0.heap.size (Q.zJX es)):=by
    have h1:=HI.out
    rw[hkn,Q.zLN,← HRO.out] at h1
    exact h1
   have HE1:Hid (zAZ wr (.slice ea es.length ec) es):=HE0.out.keep fun q hq=>(HBL2.out.block q (by omega)).trans (BW0.out.block q hq)
   have d0:=cfL HBL2.out l0 c00
   have d1:=cfL HBL2.out l0 c01
   have ld0:=Nat.lt_of_lt_of_le l0 HBL2.out.size
   clear HI hea
   go_wp2_with (first | (go_at_call 116;refine (zGJ _ _ _ es (Q.zJX es) _ HE1.out ⟨_,_,_,rfl⟩ (by have h1:=HF.out.rowI es.length;rw[HRL.out] at h1;exact h1) (by rw[HRL.out]) (by rw[HRL.out];exact hn)).mono ?_;rintro e w2 ⟨gr,gb,gd,rfl,hir,hib,hid,hgr,hgb,hgd,hne,hne2,hb2⟩;have B2:Hid (Below W0.heap.size W0 w2):=zAr HBL2.out (Nat.le_refl _) hb2;have K2:=zAa ((B2.out.block _ l1).trans K1.out);obtain⟨t0,t1,t2,t3,tf,tl⟩:=zCq K2.out;have IB:=zAa hib;have ID:=zAa hid;have IR:=zAa hir))
   obtain⟨s0,s1,s2⟩:=zJc (s0:=.slice (some ⟨gr,0,none⟩) (Q.zJX es).length (Q.zJX es).length) (s1:=.slice (some ⟨gb,0,none⟩) (Q.zKe es (Q.zJX es)).length (Q.zKe es (Q.zJX es)).length) (s2:=.slice (some ⟨gd,0,none⟩) (Q.zKe es (Q.zJX es)).length (Q.zKe es (Q.zJX es)).length) (s3:=.bool false) K2.out
   have hws:=HBL2.out.size
   refine zBi (p:=2) (w.heap.size+1) _ (by kernel_rfl) Tryz.underlying124 rfl (by kernel_rfl) rfl (by exact s0) rfl ⟨gr,gb,gd,rfl,IR.out.of_block (s1 _ (by omega)),IB.out.of_block (s1 _ (by omega)),ID.out.of_block (s1 _ (by omega)),by omega,by omega,by omega,hne,hne2,s2 _ _ (by omega) (zAr BW0.out (Nat.le_refl _) B2.out)⟩
theorem zFP {w:World} {v:Value} {l:List Int} (h:zBS w v l) (k:Nat) (e:v.ownBlock=some k):k<w.heap.size:=by
 rcases h with ⟨e1,_⟩ | ⟨g',c,e1,_,hl⟩
 ·rw[e1] at e;simp[Value.ownBlock] at e
 ·rw[e1] at e;simp[Value.ownBlock] at e;omega
structure XF (P:Nat→Prop) (w w':World):Prop where
 os:w'.os=w.os
 tape:w'.tape=w.tape
 output:w'.output=w.output
 size:w.heap.size≤w'.heap.size
 block:∀ k,k<w.heap.size→¬ P k→w'.heap[k]?=w.heap[k]?
theorem XF.refl (P:Nat→Prop) (w:World):XF P w w:=⟨rfl,rfl,rfl,Nat.le_refl _,fun _ _ _=>rfl⟩
theorem XF.of_below {P:Nat→Prop} {w w':World} (hb:Below w.heap.size w w'):XF P w w':=⟨hb.os,hb.tape,hb.output,hb.size,fun k hk _=>hb.block k hk⟩
theorem XF.trans {P P':Nat→Prop} {w w1 w2:World} (h:XF P w w1) (h2:XF P' w1 w2) (hp:∀ k,k<w.heap.size→P' k→P k):XF P w w2 :=
 ⟨h2.os.trans h.os,h2.tape.trans h.tape,h2.output.trans h.output,Nat.le_trans h.size h2.size,fun k hk hn=>(h2.block k (Nat.lt_of_lt_of_le hk h.size) (fun e=>hn (hp k hk e))).trans (h.block k hk hn)⟩
theorem XF.below {P:Nat→Prop} {w w1 w2:World} (h:XF P w w1) (hb:Below w1.heap.size w1 w2):XF P w w2:=h.trans (XF.of_below (P:=fun _=>False) hb) (fun _ _ e=>e.elim)
theorem XF.of_ticked {w w':World} {gc o gd:Nat} (hT:Ticked w w' gc o gd):XF (fun k=>k=gc∨k=gd) w w' :=
 ⟨hT.os,hT.tape,hT.output,by rw[hT.size];exact Nat.le_refl _,fun k _ hn=>hT.block k (fun e=>hn (Or.inl e)) (fun e=>hn (Or.inr e))⟩
theorem XF.of_setCell (w:World) (g o:Nat) (v:Value):XF (fun k=>k=g) w (w.setCell ⟨g,o,none⟩ v) :=
 ⟨rfl,rfl,rfl,by simp,fun k _ hn=>Below.heap_setCell _ _ _ _ hn⟩
theorem OFrame.xf {w w':World} {g:Nat} {ov ov':Value} {fp fp':List Nat} (h:OFrame w w' g ov ov' fp fp'):XF (fun k=>k=g∨ov.ownBlock=some k) w w' :=
 ⟨h.os,h.tape,h.output,h.size,fun k hk hn=>h.block k hk (fun e=>hn (Or.inl e)) (fun e=>hn (Or.inr e))⟩
namespace Q
theorem ins_len (l:List (List Int)) (r:List Int):l.length≤(ins l r).length:=by
 induction l with
 | nil=>simp
 | cons x q ih =>
  rw[ins]
  split
  ·simp;omega
  ·split<;>simp
structure AnsOk (a:Ans):Prop where
 rise:zMk a.rows
 small:∀ x∈a.rows,Small x∧x.length<1000
theorem AnsOk.ins {a:Ans} (h:AnsOk a) (r:List Int) (hr:Small r∧r.length<1000) (b:Bool):AnsOk ⟨Q.ins a.rows r,b⟩ :=
 ⟨ins_rising h.rise,fun x hx=>by
  rcases ins_mem hx with rfl | hx
  ·exact hr
  ·exact h.small x hx⟩
theorem lastV_rng (es:List Ev) (v:Int) (ps:List Int) (h:∀ e∈es,0≤e.value∧e.value<4):0≤lastV es v ps∧lastV es v ps<4:=by
 unfold lastV
 have key:∀ (l:List Nat) (a:Int × Int),(0≤a.1∧a.1<4)→0≤(l.foldl (lastF v ps es) a).1∧(l.foldl (lastF v ps es) a).1<4:=by
  intro l
  induction l with
  | nil=>intro a ha;exact ha
  | cons i l ih =>
   intro a ha
   rw[List.foldl_cons]
   apply ih
   unfold lastF
   split
   ·by_cases hi:i<es.length
    ·rw[zEm es i hi];exact h _ (List.getElem_mem hi)
    ·simp[ev,hi,Ev.zero]
   ·exact ha
 exact key _ _ (by simp)
theorem zKF {wd:Wd} (h:WdOk wd) (ps:List Int):Small (zLK wd ps)∧(zLK wd ps).length<1000:=by
 refine⟨fun x hx=>?_,by have:=h.regs;simp[zLK];omega⟩
 rcases List.mem_append.1 hx with hx | hx
 ·exact h.vals x hx
 ·simp at hx
  rcases hx with rfl | rfl | rfl<;>exact lastV_rng _ _ _ h.evals
theorem ordBases_mem (es:List Ev) (rs:List Int) (hn:rs.length≤64):∀ b∈zKe es rs,b<1000000000:=by
 intro b hb
 simp only[zKe,List.mem_map,List.mem_range] at hb
 obtain⟨i,hi,rfl⟩:=hb
 unfold zKS
 have:=List.length_filter_le (ordB es rs i) (List.range i)
 simp at this;omega
theorem ordBases_len (es:List Ev) (rs:List Int):(zKe es rs).length=rs.length:=by simp[zKe]
theorem writeRows_len (es:List Ev):(zJX es).length=es.length:=by simp[zJX]
theorem zKL (rs ds:List Int):(zKp rs ds).length=rs.length:=by
 unfold zKp
 have k1:∀ (i:Nat) (l:List Nat) (p:List Int),(l.foldl (zLJ rs i) p).length=p.length:=by
  intro i l
  induction l with
  | nil=>intro p;rfl
  | cons k l ih=>intro p;rw[List.foldl_cons,ih,placeK_len]
 have k2:∀ (l:List Nat) (p:List Int),(l.foldl (zLw rs ds) p).length=p.length:=by
  intro l
  induction l with
  | nil=>intro p;rfl
  | cons i l ih =>
   intro p
   rw[List.foldl_cons,ih]
   unfold zLw
   split
   ·simp
   ·rw[k1];simp
 rw[k2];simp
end Q
structure AnsOn (w:World) (g:Nat) (a:Q.Ans) (ov:Value) (vs:List Value) (fp:List Nat):Prop where
 out:OutAt w 0 g a.rows ov vs fp
 clash:w.cell? ⟨g,1,none⟩=some (.bool a.clash)
 ok:Q.AnsOk a
theorem AnsOn.off {w w':World} {g:Nat} {a:Q.Ans} {ov:Value} {vs:List Value} {fp:List Nat} (h:AnsOn w g a ov vs fp) (hg:w'.heap[g]?=w.heap[g]?) (ho:∀ k,ov.ownBlock=some k→w'.heap[k]?=w.heap[k]?) (hf:∀ k∈fp,w'.heap[k]?=w.heap[k]?) (hs:w.heap.size≤w'.heap.size):AnsOn w' g a ov vs fp :=
 ⟨h.out.off hg ho hf hs,(World.cell?_of_block (w:=w) (a:=⟨g,1,none⟩) hg).trans h.clash,h.ok⟩
theorem AnsOn.xf {P:Nat→Prop} {w w':World} {g:Nat} {a:Q.Ans} {ov:Value} {vs:List Value} {fp:List Nat} (h:AnsOn w g a ov vs fp) (hx:XF P w w') (hg:¬ P g) (ho:∀ k,ov.ownBlock=some k→¬ P k) (hf:∀ k∈fp,¬ P k):AnsOn w' g a ov vs fp :=
 h.off (hx.block g h.out.lt hg) (fun k e=>hx.block k (h.out.ownlt k e) (ho k e)) (fun k hk=>hx.block k (h.out.fpl k hk) (hf k hk)) hx.size
theorem AnsOn.below {w w':World} {g:Nat} {a:Q.Ans} {ov:Value} {vs:List Value} {fp:List Nat} (h:AnsOn w g a ov vs fp) (hb:Below w.heap.size w w'):AnsOn w' g a ov vs fp:=h.xf (XF.of_below (P:=fun _=>False) hb) (fun e=>e) (fun _ _ e=>e) (fun _ _ e=>e)
theorem AnsOn.ne {w:World} {g:Nat} {a:Q.Ans} {ov:Value} {vs:List Value} {fp:List Nat} (h:AnsOn w g a ov vs fp) {k:Nat} {c:Array Value} {t:TypeId} (hk:w.heap[k]?=some (.cells c t (0,0))) (h1:62≠t) (h2:99≠t):g≠k:=fun e=>by
 obtain⟨c',hty⟩:=h.out.ty
 rw[e,hk] at hty
 rcases hty with hty | hty
 ·simp at hty;exact h1 hty.2.symm
 ·simp at hty;exact h2 hty.2.symm
theorem AnsOn.free1 {w:World} {g:Nat} {a:Q.Ans} {ov:Value} {vs:List Value} {fp:List Nat} (h:AnsOn w g a ov vs fp):w.frozen? ⟨g,1,none⟩=false:=by
 obtain⟨c,hty⟩:=h.out.ty
 rcases hty with hty | hty<;>simp[World.frozen?,hty]
theorem AnsOn.own_ne {w:World} {g:Nat} {a:Q.Ans} {ov:Value} {vs:List Value} {fp:List Nat} (h:AnsOn w g a ov vs fp):ov.ownBlock≠some g:=by
 obtain⟨c',hty⟩:=h.out.ty
 rcases hty with hty | hty
 ·exact zAx h.out.rows.own hty (by decide)
 ·exact zAx h.out.rows.own hty (by decide)
theorem AnsOn.setClash {w:World} {g:Nat} {a:Q.Ans} {ov:Value} {vs:List Value} {fp:List Nat} (h:AnsOn w g a ov vs fp) (b:Bool):AnsOn (w.setCell ⟨g,1,none⟩ (.bool b)) g ⟨a.rows,b⟩ ov vs fp:=by
 have hne:=h.own_ne
 obtain⟨c,hty⟩:=h.out.ty
 refine⟨⟨(World.cell?_setCell_other _ _ _ _ (by simp)).trans h.out.cell,by simpa using h.out.lt,by rw[World.frozen?_setCell];exact h.out.free,⟨zAd h.out.rows.own (fun k e=>Below.heap_setCell _ _ _ _ (fun e2=>hne (by rw[e,e2]))),h.out.rows.len,fun i hi u hu=>(h.out.rows.rows i hi u hu).own _ (fun k e=>Below.heap_setCell _ _ _ _ (h.out.dis k (h.out.fps u (List.mem_of_getElem? hu) k e)).1) (by simp)⟩,⟨c.setIfInBounds 1 (.bool b),?_⟩,h.out.fps,by simpa using h.out.fpl,h.out.dis⟩,World.cell?_setCell_same _ _ _ h.clash,⟨h.ok.rise,h.ok.small⟩⟩
 rcases hty with hty | hty
 ·exact Or.inl (zAf hty 1 _)
 ·exact Or.inr (zAf hty 1 _)
structure AFrame (P:Nat→Prop) (w w':World) (ov ov':Value) (fp fp':List Nat):Prop where
 xf:XF P w w'
 own:ov'.ownBlock=ov.ownBlock∨∃ b,ov'.ownBlock=some b∧w.heap.size≤b
 fpn:∀ k∈fp',k∈fp∨w.heap.size≤k
theorem AFrame.refl (P:Nat→Prop) (w:World) (ov:Value) (fp:List Nat):AFrame P w w ov ov fp fp:=⟨XF.refl _ _,Or.inl rfl,fun _ h=>Or.inl h⟩
theorem AFrame.trans {P P':Nat→Prop} {w w1 w2:World} {ov ov1 ov2:Value} {fp fp1 fp2:List Nat} (h:AFrame P w w1 ov ov1 fp fp1) (h2:AFrame P' w1 w2 ov1 ov2 fp1 fp2) (hp:∀ k,k<w.heap.size→P' k→P k):AFrame P w w2 ov ov2 fp fp2 :=
 ⟨h.xf.trans h2.xf hp,by
  have hs:=h.xf.size
  rcases h2.own with e | ⟨b,e,hb⟩
  ·rcases h.own with e1 | ⟨b,e1,hb⟩
   ·exact Or.inl (e.trans e1)
   ·exact Or.inr ⟨b,e.trans e1,hb⟩
  ·exact Or.inr ⟨b,e,by omega⟩,fun k hk=>by
  have hs:=h.xf.size
  rcases h2.fpn k hk with h3 | h3
  ·exact h.fpn k h3
  ·exact Or.inr (by omega)⟩
theorem AFrame.x {P P':Nat→Prop} {w w1 w2:World} {ov ov1:Value} {fp fp1:List Nat} (h:AFrame P w w1 ov ov1 fp fp1) (h2:XF P' w1 w2) (hp:∀ k,k<w.heap.size→P' k→P k):AFrame P w w2 ov ov1 fp fp1 :=
 h.trans ⟨h2,Or.inl rfl,fun _ h=>Or.inl h⟩ hp
theorem AFrame.below {P:Nat→Prop} {w w1 w2:World} {ov ov1:Value} {fp fp1:List Nat} (h:AFrame P w w1 ov ov1 fp fp1) (hb:Below w1.heap.size w1 w2):AFrame P w w2 ov ov1 fp fp1 :=
 h.x (XF.of_below (P:=fun _=>False) hb) (fun _ _ e=>e.elim)
theorem OFrame.af {w w':World} {g:Nat} {ov ov':Value} {fp fp':List Nat} (h:OFrame w w' g ov ov' fp fp'):AFrame (fun k=>k=g∨ov.ownBlock=some k) w w' ov ov' fp fp':=⟨h.xf,h.own,h.fpn⟩
def Wr (g:Nat) (ov:Value) (k:Nat):Prop:=k=g∨ov.ownBlock=some k
structure OrdBase (w W1:World) (g go gr gb gd:Nat) (ov0:Value) (fp0:List Nat):Prop where
 lg:g<w.heap.size
 lo:∀ k,ov0.ownBlock=some k→k<w.heap.size
 lf:∀ k∈fp0,k<w.heap.size
 go1:w.heap.size≤go∧go<W1.heap.size
 gr1:w.heap.size≤gr∧gr<W1.heap.size
 gb1:w.heap.size≤gb∧gb<W1.heap.size
 gd1:w.heap.size≤gd∧gd<W1.heap.size
def zJM (g go gd:Nat) (ov0:Value) (k:Nat):Prop:=k=g∨k=go∨k=gd∨ov0.ownBlock=some k
structure OrdSt (w W1 wr:World) (g go gr gb gd:Nat) (ov0:Value) (fp0:List Nat) (rs bs ds:List Int) (rest:List (List Int)) (a:Q.Ans) (ov:Value) (vs:List Value) (fp:List Nat):Prop where
 base:OrdBase w W1 g go gr gb gd ov0 fp0
 fr:AFrame (zJM g go gd ov0) W1 wr ov0 ov fp0 fp
 ord:OrdOn wr go gr gb gd rs bs ds rest
 ans:AnsOn wr g a ov vs fp
section
variable {w W1 wr:World} {g go gr gb gd:Nat} {ov0:Value} {fp0:List Nat} {rs bs ds:List Int} {rest:List (List Int)} {a:Q.Ans} {ov:Value} {vs:List Value} {fp:List Nat}
theorem OrdSt.below (h:OrdSt w W1 wr g go gr gb gd ov0 fp0 rs bs ds rest a ov vs fp) {w2:World} (hb:Below wr.heap.size wr w2):OrdSt w W1 w2 g go gr gb gd ov0 fp0 rs bs ds rest a ov vs fp :=
 ⟨h.base,h.fr.below hb,h.ord.below hb,h.ans.below hb⟩
theorem OrdSt.ownb (h:OrdSt w W1 wr g go gr gb gd ov0 fp0 rs bs ds rest a ov vs fp) (k:Nat) (h1:w.heap.size≤k) (h2:k<W1.heap.size):ov.ownBlock≠some k:=fun e=>by
 rcases h.fr.own with e1 | ⟨b,e1,hb⟩
 ·have:=h.base.lo k (e1.symm.trans e);omega
 ·rw[e1] at e;simp at e;omega
theorem OrdSt.fpb (h:OrdSt w W1 wr g go gr gb gd ov0 fp0 rs bs ds rest a ov vs fp) (k:Nat) (h1:w.heap.size≤k) (h2:k<W1.heap.size):k ∉ fp:=fun e=>by
 rcases h.fr.fpn k e with e1 | e1
 ·have:=h.base.lf k e1;omega
 ·omega
theorem OrdSt.tick (h:OrdSt w W1 wr g go gr gb gd ov0 fp0 rs bs ds rest a ov vs fp) {w2:World} {ds2:List Int} {rest2:List (List Int)} (hT:Ticked wr w2 go 1 gd) (ho:OrdOn w2 go gr gb gd rs bs ds2 rest2):OrdSt w W1 w2 g go gr gb gd ov0 fp0 rs bs ds2 rest2 a ov vs fp:=by
 have b:=h.base
 refine⟨b,h.fr.x (XF.of_ticked hT) (fun k _ e=>?_),ho,h.ans.xf (XF.of_ticked hT) (fun e=>?_) (fun k e e2=>?_) (fun k hk e=>?_)⟩
 ·rcases e with e | e
  ·exact Or.inr (Or.inl e)
  ·exact Or.inr (Or.inr (Or.inl e))
 ·have:=b.lg;have:=b.go1.1;have:=b.gd1.1
  rcases e with e | e<;>omega
 ·rcases e2 with e2 | e2<;>subst e2
  ·exact h.ownb _ b.go1.1 b.go1.2 e
  ·exact h.ownb _ b.gd1.1 b.gd1.2 e
 ·rcases e with e | e<;>subst e
  ·exact h.fpb _ b.go1.1 b.go1.2 hk
  ·exact h.fpb _ b.gd1.1 b.gd1.2 hk
theorem OrdSt.tick0 (h:OrdSt w W1 wr g go gr gb gd ov0 fp0 rs bs ds rest a ov vs fp) {w2:World} (hT:Ticked wr w2 go 1 gd) (hb:Below w.heap.size w W1):AnsOn w2 g a ov vs fp∧AFrame (Wr g ov0) w w2 ov0 ov fp0 fp:=by
 have b:=h.base
 refine⟨h.ans.xf (XF.of_ticked hT) (fun e=>?_) (fun k e e2=>?_) (fun k hk e=>?_),(AFrame.mk (XF.of_below (P:=Wr g ov0) hb) (Or.inl rfl) (fun _ h=>Or.inl h):AFrame (Wr g ov0) w W1 ov0 ov0 fp0 fp0).trans (h.fr.x (XF.of_ticked hT) (fun k _ e=>?_)) (fun k hk e=>?_)⟩
 ·have:=b.lg;have:=b.go1.1;have:=b.gd1.1
  rcases e with e | e<;>omega
 ·rcases e2 with e2 | e2<;>subst e2
  ·exact h.ownb _ b.go1.1 b.go1.2 e
  ·exact h.ownb _ b.gd1.1 b.gd1.2 e
 ·rcases e with e | e<;>subst e
  ·exact h.fpb _ b.go1.1 b.go1.2 hk
  ·exact h.fpb _ b.gd1.1 b.gd1.2 hk
 ·rcases e with e | e
  ·exact Or.inr (Or.inl e)
  ·exact Or.inr (Or.inr (Or.inl e))
 ·have:=b.go1.1;have:=b.gd1.1
  rcases e with e | e | e | e
  ·exact Or.inl e
  ·omega
  ·omega
  ·exact Or.inr e
theorem OrdOn.off {w':World} (h:OrdOn wr go gr gb gd rs bs ds rest) (h1:w'.heap[go]?=wr.heap[go]?) (h2:w'.heap[gr]?=wr.heap[gr]?) (h3:w'.heap[gb]?=wr.heap[gb]?) (h4:w'.heap[gd]?=wr.heap[gd]?) (hs:wr.heap.size≤w'.heap.size):OrdOn w' go gr gb gd rs bs ds rest:=by
 obtain⟨b,hc,hq⟩:=h.ctr
 exact⟨(World.cell?_of_block (w:=wr) (a:=⟨go,0,none⟩) h1).trans h.r0,h.rows.of_block h2,⟨b,hc.of (fun j=>World.cell?_of_block (w:=wr) (a:=⟨go,j,none⟩) h1) (fun j=>World.frozen?_of_block (w:=wr) (a:=⟨go,j,none⟩) h1) (Nat.lt_of_lt_of_le hc.lt hs) h3 h4,hq⟩,h.len,h.ne,h.neg⟩
theorem OrdSt.ordx (h:OrdSt w W1 wr g go gr gb gd ov0 fp0 rs bs ds rest a ov vs fp) {w2:World} (hx:XF (Wr g ov) wr w2):OrdOn w2 go gr gb gd rs bs ds rest:=by
 have b:=h.base
 have hs:=h.fr.xf.size
 have K:∀ k,w.heap.size≤k→k<W1.heap.size→w2.heap[k]?=wr.heap[k]?:=fun k h1 h2=>hx.block k (by omega) (fun e=>by
  rcases e with e | e
  ·have:=b.lg;omega
  ·exact h.ownb k h1 h2 e)
 exact h.ord.off (K _ b.go1.1 b.go1.2) (K _ b.gr1.1 b.gr1.2) (K _ b.gb1.1 b.gb1.2) (K _ b.gd1.1 b.gd1.2) hx.size
theorem OrdSt.add (h:OrdSt w W1 wr g go gr gb gd ov0 fp0 rs bs ds rest a ov vs fp) {w2:World} {r:List Int} {ov':Value} {vs':List Value} {fp':List Nat} (hr:Q.Small r∧r.length<1000) (ho:OutAt w2 0 g (Q.ins a.rows r) ov' vs' fp') (hf:OFrame wr w2 g ov ov' fp fp'):OrdSt w W1 w2 g go gr gb gd ov0 fp0 rs bs ds rest ⟨Q.ins a.rows r,a.clash⟩ ov' vs' fp' :=
 ⟨h.base,h.fr.trans hf.af (fun k hk e=>by
  rcases e with e | e
  ·exact Or.inl e
  ·rcases h.fr.own with e1 | ⟨b,e1,hb⟩
   ·exact Or.inr (Or.inr (Or.inr (e1.symm.trans e)))
   ·rw[e1] at e;simp at e;omega),h.ordx hf.xf,⟨ho,hf.c1.trans h.ans.clash,h.ans.ok.ins r hr _⟩⟩
theorem OrdSt.step (h:OrdSt w W1 wr g go gr gb gd ov0 fp0 rs bs ds rest a ov vs fp) {w2:World} {a':Q.Ans} {ov':Value} {vs':List Value} {fp':List Nat} (ho:AnsOn w2 g a' ov' vs' fp') (hf:AFrame (Wr g ov) wr w2 ov ov' fp fp'):OrdSt w W1 w2 g go gr gb gd ov0 fp0 rs bs ds rest a' ov' vs' fp' :=
 ⟨h.base,h.fr.trans hf (fun k hk e=>by
  rcases e with e | e
  ·exact Or.inl e
  ·rcases h.fr.own with e1 | ⟨b,e1,hb⟩
   ·exact Or.inr (Or.inr (Or.inr (e1.symm.trans e)))
   ·rw[e1] at e;simp at e;omega),h.ordx hf.xf,ho⟩
theorem OrdSt.setClash (h:OrdSt w W1 wr g go gr gb gd ov0 fp0 rs bs ds rest a ov vs fp) (b:Bool):OrdSt w W1 (wr.setCell ⟨g,1,none⟩ (.bool b)) g go gr gb gd ov0 fp0 rs bs ds rest ⟨a.rows,b⟩ ov vs fp :=
 ⟨h.base,h.fr.x (XF.of_setCell _ _ _ _) (fun k _ e=>Or.inl e),h.ordx ⟨rfl,rfl,rfl,by simp,fun k _ hn=>Below.heap_setCell _ _ _ _ (fun e=>hn (Or.inl e))⟩,h.ans.setClash b⟩
theorem OrdSt.box (h:OrdSt w W1 wr g go gr gb gd ov0 fp0 rs bs ds rest a ov vs fp) (k:Nat) (h1:w.heap.size≤k) (h2:k<W1.heap.size) (h3:k≠go) (h4:k≠gd):wr.heap[k]?=W1.heap[k]? :=
 h.fr.xf.block k h2 (fun e=>by
  rcases e with e | e | e | e
  ·have:=h.base.lg;omega
  ·exact h3 e
  ·exact h4 e
  ·have:=h.base.lo k e;omega)
theorem OrdSt.oldb (h:OrdSt w W1 wr g go gr gb gd ov0 fp0 rs bs ds rest a ov vs fp) (hw:w.heap.size≤W1.heap.size) (k:Nat) (h1:k<w.heap.size) (h2:¬ Wr g ov0 k):wr.heap[k]?=W1.heap[k]? :=
 h.fr.xf.block k (by omega) (fun e=>by
  have:=h.base.go1.1
  have:=h.base.gd1.1
  rcases e with e | e | e | e
  ·exact h2 (Or.inl e)
  ·omega
  ·omega
  ·exact h2 (Or.inr e))
theorem OrdSt.done (h:OrdSt w W1 wr g go gr gb gd ov0 fp0 rs bs ds rest a ov vs fp) (hb:Below w.heap.size w W1):AFrame (Wr g ov0) w wr ov0 ov fp0 fp :=
 ⟨⟨h.fr.xf.os.trans hb.os,h.fr.xf.tape.trans hb.tape,h.fr.xf.output.trans hb.output,Nat.le_trans hb.size h.fr.xf.size,fun k hk hn=>(h.oldb hb.size k hk hn).trans (hb.block k hk)⟩,by
  have:=hb.size
  rcases h.fr.own with e | ⟨b,e,hl⟩
  ·exact Or.inl e
  ·exact Or.inr ⟨b,e,by omega⟩,fun k hk=>by
  have:=hb.size
  rcases h.fr.fpn k hk with e | e
  ·exact Or.inl e
  ·exact Or.inr (by omega)⟩
end
theorem FactsIn.wr {w W:World} {g:Nat} {a:Q.Ans} {ov:Value} {vs:List Value} {fp:List Nat} {fa:FA} {f:Q.Facts} (h:FactsIn w fa f) (hA:AnsOn w g a ov vs fp) (hk:∀ k,k<w.heap.size→¬ Wr g ov k→W.heap[k]?=w.heap[k]?):FactsIn W fa f:=by
 obtain⟨c,hty⟩:=hA.out.ty
 have hs:∀ g' l,zAs w g' l→¬ Wr g ov g':=fun g' l hg e=>by
  rcases e with e | e
  ·rcases hty with hty | hty<;>exact zCG hg hty (by decide) e
  ·unfold zAs at hg
   exact zAx hA.out.rows.own hg (by decide) e
 have he:∀ k,fa.ev.ownBlock=some k→¬ Wr g ov k:=fun k e e2=>by
  rcases e2 with e2 | e2
  ·subst e2
   rcases hty with hty | hty<;>exact zAx h.ev hty (by decide) e
  ·rcases hA.out.rows.own.2 with ⟨e3,_⟩ | ⟨b,c2,cur,e3,_,hb,_⟩
   ·rw[e3] at e2;simp[Value.ownBlock] at e2
   ·rw[e3] at e2;simp[Value.ownBlock] at e2
    subst e2
    exact zAx h.ev hb (by decide) e
 exact h.off (fun g' l hg=>hk g' hg.lt (hs g' l hg)) (zAd h.ev (fun k e=>hk k (h.ev.lt k e).2 (he k e)))
theorem RelAt.wr {w W:World} {g:Nat} {a:Q.Ans} {ov:Value} {vs:List Value} {fp:List Nat} {gr n:Nat} {l:List Nat} (h:RelAt w gr n l) (hA:AnsOn w g a ov vs fp) (hk:∀ k,k<w.heap.size→¬ Wr g ov k→W.heap[k]?=w.heap[k]?):RelAt W gr n l:=by
 obtain⟨c,hty⟩:=hA.out.ty
 refine⟨h.at_.of_block (hk gr h.lt (fun e=>?_)),h.len,h.fits⟩
 have hg:=h.at_
 rcases e with e | e
 ·rcases hty with hty | hty<;>exact zCG hg hty (by decide) e
 ·unfold zAs at hg
  exact zAx hA.out.rows.own hg (by decide) e
theorem WdIn.wr {w W:World} {g:Nat} {a:Q.Ans} {ov:Value} {vs:List Value} {fp:List Nat} {ev rg:Value} {wd:Q.Wd} (h:WdIn w ev rg wd) (hA:AnsOn w g a ov vs fp) (hr:∀ k,rg.ownBlock=some k→¬ Wr g ov k) (hk:∀ k,k<w.heap.size→¬ Wr g ov k→W.heap[k]?=w.heap[k]?) (hs:w.heap.size≤W.heap.size):WdIn W ev rg wd:=by
 obtain⟨c,hty⟩:=hA.out.ty
 refine⟨zAd h.evs (fun k e=>hk k (h.evs.lt k e).2 (fun e2=>?_)),h.regs.own _ (fun k e=>hk k ?_ (hr k e)) hs⟩
 ·rcases e2 with e2 | e2
  ·subst e2
   rcases hty with hty | hty<;>exact zAx h.evs hty (by decide) e
  ·rcases hA.out.rows.own.2 with ⟨e3,_⟩ | ⟨b,c2,cur,e3,_,hb,_⟩
   ·rw[e3] at e2;simp[Value.ownBlock] at e2
   ·rw[e3] at e2;simp[Value.ownBlock] at e2
    subst e2
    exact zAx h.evs hb (by decide) e
 ·rcases h.regs with ⟨e1,_⟩ | ⟨g',c,e1,_,hl⟩
  ·rw[e1] at e;simp[Value.ownBlock] at e
  ·rw[e1] at e;simp[Value.ownBlock] at e;omega
end Go.Proofs.YtgceflcbckjjiaaGreatDoor
