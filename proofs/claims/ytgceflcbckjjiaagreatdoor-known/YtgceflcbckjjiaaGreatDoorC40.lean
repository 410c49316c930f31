import Derived.Test.YtgceflcbckjjiaaGreatDoorC39
set_option linter.unusedVariables false
set_option linter.unusedSimpArgs false
set_option maxHeartbeats 12800000
namespace Go.Proofs.YtgceflcbckjjiaaGreatDoor
open Go Go.RowKit
set_option maxRecDepth 100000
theorem zKm (g:Nat) (an:Q.Ans) (ov:Value) (vs:List Value) (fp:List Nat) (vr:Value) (r:List Int) (fa:FA) (f:Q.Facts) (gr gf:Nat) (cs:List Nat) (w:World) (hA:AnsOn w g an ov vs fp) (hr:zBS w vr r) (hsr:Q.Small r∧r.length<1000) (hvr:∀ k,vr.ownBlock=some k→¬ Wr g ov k) (hf:FactsIn w fa f) (hc:RelAt w gf fa.n cs) (hn:an.rows.length<100000000) :
  Calls Tryz.prog 98 #[.pointer (some ⟨g,0,none⟩),vr,.agg (zCF fa gr),.agg #[.slice (some ⟨gf,0,none⟩) fa.n fa.n]] w fun e w'=>e=.returned (.tuple #[])∧∃ ov' vs' fp',AnsOn w' g ⟨Q.ins an.rows r,if an.clash then true else f.clashes cs⟩ ov' vs' fp'∧AFrame (Wr g ov) w w' ov ov' fp fp':=by
 obtain⟨x,c,hev,_⟩:=hf.form
 obtain⟨n,ev,g1,g2,g3,g4,g5,g6,g7,g8,g9⟩:=fa
 obtain⟨ya,yc,rfl,_⟩:=hr.form
 simp only at hev hc
 subst hev
 simp only[zCF]
 obtain⟨k0,k1,hsz,hbw⟩:=zBN w #[.slice x n c,.slice (some ⟨g1,0,none⟩) n n,.slice (some ⟨g2,0,none⟩) n n,.slice (some ⟨g3,0,none⟩) n n,.slice (some ⟨g4,0,none⟩) n n,.slice (some ⟨g5,0,none⟩) n n,.slice (some ⟨g6,0,none⟩) n n,.slice (some ⟨g7,0,none⟩) n n,.slice (some ⟨g8,0,none⟩) n n,.slice (some ⟨g9,0,none⟩) n n,.slice (some ⟨gr,0,none⟩) n n] #[.slice (some ⟨gf,0,none⟩) n n] 101 68
 have HA0:=zAa hA
 have HA:=zAa (hA.below hbw)
 have HR:=zAa (hr.below hbw)
 have HF:=zAa (hf.below hbw)
 have HC:=zAa (hc.below hbw)
 have BW0:=zAa hbw
 have HVR:=zAa hvr
 generalize hfa:(⟨Q.ins an.rows r,if an.clash then true else f.clashes cs⟩:Q.Ans)=fin
 have HFA:=zAa hfa
 clear hfa
 have lg:=hA.out.lt
 have hol:=zAa hA.out.ownlt
 have hws:w.heap.size+2≤0+w.heap.size+2:=by omega
 clear hws hbw hf hc hr hA hvr
 go_enter Tryz.func98,Tryz.ntmps98
 go_upto_region 1 with fail
 generalize hE:(w.alloc (.cells #[.slice x n c,.slice (some ⟨g1,0,none⟩) n n,.slice (some ⟨g2,0,none⟩) n n,.slice (some ⟨g3,0,none⟩) n n,.slice (some ⟨g4,0,none⟩) n n,.slice (some ⟨g5,0,none⟩) n n,.slice (some ⟨g6,0,none⟩) n n,.slice (some ⟨g7,0,none⟩) n n,.slice (some ⟨g8,0,none⟩) n n,.slice (some ⟨g9,0,none⟩) n n,.slice (some ⟨gr,0,none⟩) n n] 101)).alloc (.cells #[.slice (some ⟨gf,0,none⟩) n n] 68)=W0 at *
 have l0:w.heap.size<W0.heap.size:=by omega
 have l1:w.heap.size+1<W0.heap.size:=by omega
 have K0:=zAa k0
 have K1:=zAa k1
 clear hE hsz k0 k1
 cases z:an.clash
 ·go_wp2_with (first
   | (go_at_call 74;refine (zDa 0 g _ ov an.rows vs fp r _ HA.out.out HR.out HA.out.ok.rise HA.out.ok.small hsr hn (Nat.zero_le _) (fun k e=>⟨fun e2=>HVR.out k e (Or.inl e2),fun e2=>HVR.out k e (Or.inr e2)⟩)).mono ?_;rintro e w1 ⟨rfl,ov',vs',fp',ho,hof⟩;have HO:=zAa ho;have OF:=zAa hof;have p1:w1.cell? ⟨g,1,none⟩=some (.bool an.clash):=hof.c1.trans HA.out.clash;rw[z] at p1;have lg1:g<w1.heap.size:=ho.lt;have KE:Hid (∀ k,k<W0.heap.size→¬ Wr g ov k→w1.heap[k]?=W0.heap[k]?):=(fun k h1 h2=>hof.block k h1 (fun e=>h2 (Or.inl e)) (fun e=>h2 (Or.inr e)));have k0':w1.heap[w.heap.size]?=some (.cells #[.slice x n c,.slice (some ⟨g1,0,none⟩) n n,.slice (some ⟨g2,0,none⟩) n n,.slice (some ⟨g3,0,none⟩) n n,.slice (some ⟨g4,0,none⟩) n n,.slice (some ⟨g5,0,none⟩) n n,.slice (some ⟨g6,0,none⟩) n n,.slice (some ⟨g7,0,none⟩) n n,.slice (some ⟨g8,0,none⟩) n n,.slice (some ⟨g9,0,none⟩) n n,.slice (some ⟨gr,0,none⟩) n n] 101 (0,0)):=(hof.block _ l0 (by omega) (fun e=>by have:=hol.out _ e;omega)).trans K0.out;have k1':w1.heap[w.heap.size+1]?=some (.cells #[.slice (some ⟨gf,0,none⟩) n n] 68 (0,0)):=(hof.block _ l1 (by omega) (fun e=>by have:=hol.out _ e;omega)).trans K1.out;have lw1:w.heap.size<w1.heap.size:=Nat.lt_of_lt_of_le l0 hof.size;have lw2:w.heap.size+1<w1.heap.size:=Nat.lt_of_lt_of_le l1 hof.size;clear ho hof;have d0:=ceL k0' 0 _ rfl;have d1:=ceL k0' 1 _ rfl;have d2:=ceL k0' 2 _ rfl;have d3:=ceL k0' 3 _ rfl;have d4:=ceL k0' 4 _ rfl;have d5:=ceL k0' 5 _ rfl;have d6:=ceL k0' 6 _ rfl;have d7:=ceL k0' 7 _ rfl;have d8:=ceL k0' 8 _ rfl;have d9:=ceL k0' 9 _ rfl;have e0:=ceL k1' 0 _ rfl;clear k0' k1';have HF1:=zAa (HF.out.wr HA.out KE.out);have HC1:=zAa (HC.out.wr HA.out KE.out);have AN1:Hid (AnsOn w1 g ⟨Q.ins an.rows r,false⟩ ov' vs' fp'):=⟨HO.out,p1,HA.out.ok.ins r hsr _⟩)
   | (go_at_call 75;refine (zEB (FA.mk n (.slice x n c) g1 g2 g3 g4 g5 g6 g7 g8 g9) f gf cs _ HF1.out HC1.out).mono ?_;rintro e w2 ⟨rfl,hb2⟩;have B2:=zAa hb2;have q1:=cfL B2.out lg1 p1;have lg2:=Nat.lt_of_lt_of_le lg1 B2.out.size;have fz:=(AN1.out.below B2.out).free1;clear hb2))
  go_end0
  refine⟨rfl,ov',vs',fp',?_,?_⟩
  ·have h5:=(AN1.out.below B2.out).setClash (f.clashes cs)
   rw[← HFA.out,z]
   exact h5
  ·exact (((AFrame.refl (Wr g ov) w ov fp).below BW0.out).trans OF.out.af (fun k _ e=>e)).below B2.out |>.x (XF.of_setCell _ _ _ _) (fun k _ e=>Or.inl e)
 ·go_wp2_with (first
   | (go_at_call 74;refine (zDa 0 g _ ov an.rows vs fp r _ HA.out.out HR.out HA.out.ok.rise HA.out.ok.small hsr hn (Nat.zero_le _) (fun k e=>⟨fun e2=>HVR.out k e (Or.inl e2),fun e2=>HVR.out k e (Or.inr e2)⟩)).mono ?_;rintro e w1 ⟨rfl,ov',vs',fp',ho,hof⟩;have HO:=zAa ho;have OF:=zAa hof;have p1:w1.cell? ⟨g,1,none⟩=some (.bool an.clash):=hof.c1.trans HA.out.clash;rw[z] at p1;have lg1:g<w1.heap.size:=ho.lt;have KE:Hid (∀ k,k<W0.heap.size→¬ Wr g ov k→w1.heap[k]?=W0.heap[k]?):=(fun k h1 h2=>hof.block k h1 (fun e=>h2 (Or.inl e)) (fun e=>h2 (Or.inr e)));have k0':w1.heap[w.heap.size]?=some (.cells #[.slice x n c,.slice (some ⟨g1,0,none⟩) n n,.slice (some ⟨g2,0,none⟩) n n,.slice (some ⟨g3,0,none⟩) n n,.slice (some ⟨g4,0,none⟩) n n,.slice (some ⟨g5,0,none⟩) n n,.slice (some ⟨g6,0,none⟩) n n,.slice (some ⟨g7,0,none⟩) n n,.slice (some ⟨g8,0,none⟩) n n,.slice (some ⟨g9,0,none⟩) n n,.slice (some ⟨gr,0,none⟩) n n] 101 (0,0)):=(hof.block _ l0 (by omega) (fun e=>by have:=hol.out _ e;omega)).trans K0.out;have k1':w1.heap[w.heap.size+1]?=some (.cells #[.slice (some ⟨gf,0,none⟩) n n] 68 (0,0)):=(hof.block _ l1 (by omega) (fun e=>by have:=hol.out _ e;omega)).trans K1.out;have lw1:w.heap.size<w1.heap.size:=Nat.lt_of_lt_of_le l0 hof.size;have lw2:w.heap.size+1<w1.heap.size:=Nat.lt_of_lt_of_le l1 hof.size;clear ho hof))
  go_end0
  refine⟨rfl,ov',vs',fp',?_,?_⟩
  ·rw[← HFA.out,z]
   exact⟨HO.out,p1,HA.out.ok.ins r hsr _⟩
  exact ((AFrame.refl (Wr g ov) w ov fp).below BW0.out).trans OF.out.af (fun k _ e=>e)
namespace Q
theorem tgtTake_rows (o:List Int) (f:Facts) (bh ms:List Nat) (a:Ans) (c:List Nat):a.rows.length≤(zOW o f bh ms a c).rows.length:=by
 unfold zOW;split
 ·exact ins_len _ _
 ·exact Nat.le_refl _
theorem zPF (wd:Wd) (f:Facts) (rd:List Nat) (cs:List (List Nat)) (a:Ans) (ds:List Int):a.rows.length≤(zOF wd f rd cs a ds).rows.length:=by
 unfold zOF;split
 ·exact zOT _ (tgtTake_rows _ _ _ _) _ _
 ·exact Nat.le_refl _
end Q
def zGA (w W1:World) (g go gr gb gd:Nat) (ov0:Value) (fp0:List Nat) (wd:Q.Wd) (f:Q.Facts) (rd:List Nat) (cs:List (List Nat)) (fin:Q.Ans) (wr:World) (n:Nat):Prop :=
 ∃ ds rest a ov vs fp,OrdSt w W1 wr g go gr gb gd ov0 fp0 (Q.zNS wd.events) (Q.zNU wd.events (Q.zNS wd.events)) ds rest a ov vs fp∧rest.foldl (Q.zOF wd f rd cs) a=fin∧rest.length=n
theorem RelsIn.wr {w W:World} {g:Nat} {a:Q.Ans} {ov:Value} {vs:List Value} {fp:List Nat} {v:Value} {n:Nat} {ls:List (List Nat)} {gs:List Nat} (h:RelsIn w v n ls gs) (hA:AnsOn w g a ov vs fp) (hk:∀ k,k<w.heap.size→¬ Wr g ov k→W.heap[k]?=w.heap[k]?):RelsIn W v n ls gs:=by
 obtain⟨c,hty⟩:=hA.out.ty
 refine⟨zAc h.own (fun k e=>hk k (h.own.lt k e).2 (fun e2=>?_)),h.len,fun i hi g' hg=>(h.rel i hi g' hg).wr hA hk⟩
 rcases e2 with e2 | e2
 ·subst e2
  rcases hty with hty | hty<;>exact zAA h.own hty (by decide) e
 ·rcases hA.out.rows.own.2 with ⟨e3,_⟩ | ⟨b,c2,cur,e3,_,hb,_⟩
  ·rw[e3] at e2;simp[Value.ownBlock] at e2
  ·rw[e3] at e2;simp[Value.ownBlock] at e2
   subst e2
   exact zAA h.own hb (by decide) e
theorem zMk {w w':World} {g:Nat} {ov ov':Value} {fp fp':List Nat} {k:Nat} (h:AFrame (Wr g ov) w w' ov ov' fp fp') (hk:k<w.heap.size) (e:Wr g ov' k):Wr g ov k:=by
 rcases e with e | e
 ·exact Or.inl e
 ·rcases h.own with e1 | ⟨b,e1,hb⟩
  ·exact Or.inr (e1.symm.trans e)
  ·rw[e1] at e;simp at e;omega
theorem AnsOn.ownNe {w:World} {g:Nat} {a:Q.Ans} {ov:Value} {vs:List Value} {fp:List Nat} (h:AnsOn w g a ov vs fp) {k:Nat} {c:Array Value} {t:TypeId} (hk:w.heap[k]?=some (.cells c t (0,0))) (h1:32≠t):ov.ownBlock≠some k:=zAA h.out.rows.own hk h1
theorem zFB (g:Nat) (an:Q.Ans) (ov:Value) (vs:List Value) (fp:List Nat) (ev rg:Value) (wd:Q.Wd) (fa:FA) (f:Q.Facts) (gq:Nat) (rd:List Nat) (cv:Value) (cs:List (List Nat)) (gs:List Nat) (w:World) (hA:AnsOn w g an ov vs fp) (hw:WdIn w ev rg wd) (hok:Q.WdOk wd) (hf:FactsIn w fa f) (hfe:f.events=wd.events) (hr:RelAt w gq fa.n rd) (hcs:RelsIn w cv fa.n cs gs) (hcl:cs.length<100000000) (hap:∀ k,rg.ownBlock=some k→¬ Wr g ov k) (hfin:(Q.zPj wd f rd cs an).rows.length<100000000) :
  Calls Tryz.prog 49 #[.pointer (some ⟨g,0,none⟩),.agg #[ev,rg],.agg (zCF fa gq),cv] w fun e w'=>e=.returned (.tuple #[])∧∃ ov' vs' fp',AnsOn w' g (Q.zPj wd f rd cs an) ov' vs' fp'∧AFrame (Wr g ov) w w' ov ov' fp fp':=by
 obtain⟨ea,ec,rfl,_⟩:=hw.evs.form
 obtain⟨ra,rc,rfl,_⟩:=hw.regs.form
 obtain⟨ca,cc,rfl⟩:=zCQ hcs.own
 obtain⟨x,c,hev,_⟩:=hf.form
 have hnl:fa.n=wd.events.length:=by rw[← hf.len,hfe]
 obtain⟨n,ev,g1,g2,g3,g4,g5,g6,g7,g8,g9⟩:=fa
 simp only at hev hr hcs hnl
 subst hev
 simp only[zCF]
 obtain⟨k0,k1,hsz,hbw⟩:=zBN w #[.slice ea wd.events.length ec,.slice ra wd.regs.length rc] #[.slice x n c,.slice (some ⟨g1,0,none⟩) n n,.slice (some ⟨g2,0,none⟩) n n,.slice (some ⟨g3,0,none⟩) n n,.slice (some ⟨g4,0,none⟩) n n,.slice (some ⟨g5,0,none⟩) n n,.slice (some ⟨g6,0,none⟩) n n,.slice (some ⟨g7,0,none⟩) n n,.slice (some ⟨g8,0,none⟩) n n,.slice (some ⟨g9,0,none⟩) n n,.slice (some ⟨gq,0,none⟩) n n] 65 101
 have HA0:=zAa hA
 have HW0:=zAa hw
 have HF0:=zAa hf
 have HR0:=zAa hr
 have HC0:=zAa hcs
 have HWb:=zAa (hw.below hbw)
 have BW0:=zAa hbw
 have HAP:=zAa hap
 have HOK:=zAa hok
 have HFE:=zAa hfe
 have HNL:=zAa hnl
 have HFIN:=zAa hfin
 have hn64:=hok.le
 have lg:=hA.out.lt
 have HOL:=zAa hA.out.ownlt
 have HFPL:=zAa hA.out.fpl
 have HWL:=zAa (Q.zPE wd.events)
 have HBL:=zAa (Q.zPm wd.events (Q.zNS wd.events))
 have HBM:=zAa (Q.zPl wd.events (Q.zNS wd.events) (by rw[HWL.out];exact hn64))
 have hwl64:(Q.zNS wd.events).length≤64:=by rw[HWL.out];exact hn64
 have hbl64:(Q.zNU wd.events (Q.zNS wd.events)).length<10000:=by rw[HBL.out];omega
 have HFO:Hid ((Q.zOi (Q.zNU wd.events (Q.zNS wd.events))).foldl (Q.zOF wd f rd cs) an=Q.zPj wd f rd cs an):=rfl
 generalize Q.zPj wd f rd cs an=fin at *
 clear hbw hf hr hcs hA hw hap hok hfe hnl hfin
 go_enter Tryz.func49,Tryz.ntmps49
 go_upto_region 1 with fail
 generalize hE:(w.alloc (.cells #[.slice ea wd.events.length ec,.slice ra wd.regs.length rc] 65)).alloc (.cells #[.slice x n c,.slice (some ⟨g1,0,none⟩) n n,.slice (some ⟨g2,0,none⟩) n n,.slice (some ⟨g3,0,none⟩) n n,.slice (some ⟨g4,0,none⟩) n n,.slice (some ⟨g5,0,none⟩) n n,.slice (some ⟨g6,0,none⟩) n n,.slice (some ⟨g7,0,none⟩) n n,.slice (some ⟨g8,0,none⟩) n n,.slice (some ⟨g9,0,none⟩) n n,.slice (some ⟨gq,0,none⟩) n n] 101)=W0 at *
 have l0:w.heap.size<W0.heap.size:=by omega
 have l1:w.heap.size+1<W0.heap.size:=by omega
 have K0:=zAa k0
 have K1:=zAa k1
 have c00:=ceL k0 0 _ rfl
 have c01:=ceL k0 1 _ rfl
 clear hE hsz k0 k1
 go_upto_region 2 with (first
  | (go_at_call 69;refine (zCX _ _ wd.events _ HWb.out.evs ⟨_,_,_,rfl⟩ hn64).mono ?_;rintro e w1 ⟨gr,gb,gd,rfl,hir,hib,hid,hgr,hgb,hgd,hn1,hn2,hb1⟩;have B1:=zAa hb1;have IR:=zAa hir;have IB:=zAa hib;have ID:=zAa hid;clear hir hib hid hb1))
 have S0:Hid ((w1.alloc (.cells #[.slice (some ⟨gr,0,none⟩) (Q.zNS wd.events).length (Q.zNS wd.events).length,.slice (some ⟨gb,0,none⟩) (Q.zNU wd.events (Q.zNS wd.events)).length (Q.zNU wd.events (Q.zNS wd.events)).length,.slice (some ⟨gd,0,none⟩) (Q.zNU wd.events (Q.zNS wd.events)).length (Q.zNU wd.events (Q.zNS wd.events)).length,.bool false] 124)).heap[w1.heap.size]?=some (.cells #[.slice (some ⟨gr,0,none⟩) (Q.zNS wd.events).length (Q.zNS wd.events).length,.slice (some ⟨gb,0,none⟩) (Q.zNU wd.events (Q.zNS wd.events)).length (Q.zNU wd.events (Q.zNS wd.events)).length,.slice (some ⟨gd,0,none⟩) (Q.zNU wd.events (Q.zNS wd.events)).length (Q.zNU wd.events (Q.zNS wd.events)).length,.bool false] 124 (0,0))):=heap_alloc_new w1 _
 have BL:Hid (Below w1.heap.size w1 (w1.alloc (.cells #[.slice (some ⟨gr,0,none⟩) (Q.zNS wd.events).length (Q.zNS wd.events).length,.slice (some ⟨gb,0,none⟩) (Q.zNU wd.events (Q.zNS wd.events)).length (Q.zNU wd.events (Q.zNS wd.events)).length,.slice (some ⟨gd,0,none⟩) (Q.zNU wd.events (Q.zNS wd.events)).length (Q.zNU wd.events (Q.zNS wd.events)).length,.bool false] 124))):=(Below.refl _ _).alloc (Nat.le_refl _) _
 generalize w1.alloc (.cells #[.slice (some ⟨gr,0,none⟩) (Q.zNS wd.events).length (Q.zNS wd.events).length,.slice (some ⟨gb,0,none⟩) (Q.zNU wd.events (Q.zNS wd.events)).length (Q.zNU wd.events (Q.zNS wd.events)).length,.slice (some ⟨gd,0,none⟩) (Q.zNU wd.events (Q.zNS wd.events)).length (Q.zNU wd.events (Q.zNS wd.events)).length,.bool false] 124)=W1 at *
 have hs1:=B1.out.size
 have hs2:=BL.out.size
 have hs3:w1.heap.size<W1.heap.size:=(Array.getElem?_eq_some_iff.1 S0.out).1
 have hl1:=IR.out.lt
 have hl2:=IB.out.lt
 have hl3:=ID.out.lt
 have BWW:Hid (Below w.heap.size w W1):=zAm (zAm BW0.out (Nat.le_refl _) B1.out) (Nat.le_refl _) BL.out
 have INI:Hid (zGA w W1 g w1.heap.size gr gb gd ov fp wd f rd cs fin W1 (Q.zOi (Q.zNU wd.events (Q.zNS wd.events))).length):=⟨_,_,an,ov,vs,fp,⟨⟨lg,HOL.out,HFPL.out,⟨by omega,by omega⟩,⟨by omega,by omega⟩,⟨by omega,by omega⟩,⟨by omega,by omega⟩⟩,AFrame.refl _ _ _ _,zFz IR.out IB.out ID.out hn1 hn2 HBL.out S0.out BL.out,HA0.out.below BWW.out⟩,HFO.out,rfl⟩
 have K0':=zAa ((BL.out.block _ (by omega)).trans ((B1.out.block _ l0).trans K0.out))
 have K1':=zAa ((BL.out.block _ (by omega)).trans ((B1.out.block _ l1).trans K1.out))
 clear K0 K1
 have K0:=K0'
 have K1:=K1'
 have l0':w.heap.size<W1.heap.size:=by omega
 have l1':w.heap.size+1<W1.heap.size:=by omega
 have hgo:w.heap.size+2≤w1.heap.size:=by omega
 have hgd2:w.heap.size+2≤gd:=by omega
 have hrg1:wd.regs.length<1000:=by have:=HOK.out.regs;omega
 clear K0' K1' BL B1 S0 IR IB ID c00 c01 hs1 hs2 hl1 hl2 hl3 hgr hgb hgd
 generalize w1.heap.size=go at *
 clear hs3
 obtain⟨μ,hμ⟩:=zCE (zGA w W1 g go gr gb gd ov fp wd f rd cs fin)
 have HMU:=zAa hμ
 clear hμ
 go_loopw [] (fun wr=>∃ n,Hid (zGA w W1 g go gr gb gd ov fp wd f rd cs fin wr n)) (fun wr=>μ wr)
 case atStart=>exact⟨_,INI⟩
 case round =>
  obtain⟨hI,hmin⟩:=HMU.out wr (by obtain⟨n,h⟩:=hrel;exact⟨n,h.out⟩)
  clear hrel hmin INI
  obtain⟨ds1,rest1,a1,ov1,vs1,fp1,hST,hFD,hlen⟩:=hI
  have ST:=zAa hST
  have FD:=zAa hFD
  have HL:=zAa hlen
  have hrows:a1.rows.length<100000000:=by
   have:=Q.zOT _ (Q.zPF wd f rd cs) rest1 a1
   rw[hFD] at this
   have:=HFIN.out
   omega
  have lgo:=Nat.lt_of_lt_of_le hST.base.go1.2 hST.fr.xf.size
  clear hST hFD hlen
  go_upto_region 3 with (first | (go_at_call 70;refine (zDh go gr gb gd _ _ ds1 rest1 _ ST.out.ord hbl64 HBM.out).mono ?_;rintro e w2 ⟨h1,hT⟩;have HT:=zAa hT;clear hT;rcases h1 with ⟨hr,rfl⟩ | ⟨r,q,hr,rfl,hon,hdo⟩))
  ·go_wp2
   go_end0
   obtain⟨hq1,hq2⟩:=ST.out.tick0 HT.out BWW.out
   have h3:=FD.out
   rw[hr] at h3
   simp only[List.foldl_nil] at h3
   rw[← h3]
   exact⟨rfl,ov1,vs1,fp1,hq1,hq2⟩
  ·have ST2:=zAa (ST.out.tick HT.out hon)
   have HDO:=zAa hdo
   have FD2:Hid (q.foldl (Q.zOF wd f rd cs) (Q.zOF wd f rd cs a1 r)=fin):=by
    have h3:=FD.out
    rw[hr,List.foldl_cons] at h3
    exact h3
   have hrow2:(Q.zOF wd f rd cs a1 r).rows.length<100000000:=by
    have:=Q.zOT _ (Q.zPF wd f rd cs) q (Q.zOF wd f rd cs a1 r)
    rw[FD2.out] at this
    have:=HFIN.out
    omega
   have HROW2:=zAa hrow2
   have HL2:Hid (q.length+1=μ wr):=by
    have h3:=HL.out
    rw[hr,List.length_cons] at h3
    exact h3
   have HPW:Hid ((Q.zNW (Q.zNS wd.events) r).length=wd.events.length):=by unfold Hid;rw[Q.zOr,HWL.out]
   have HPL:Hid ((Q.zNW (Q.zNS wd.events) r).length=n):=by unfold Hid;rw[HPW.out,HNL.out]
   have lgo2:go<w2.heap.size:=by rw[HT.out.size];exact lgo
   clear ST FD HL hr hon hdo HT hrow2
   go_upto_region 5 with (first
    | (go_at_call 94;refine (zDc (FA.mk n (.slice x n c) g1 g2 g3 g4 g5 g6 g7 g8 g9) f _ (Q.zNW (Q.zNS wd.events) r) _ FI3.out RI3.out HPL.out).mono ?_;rintro e w4 ⟨q4,rfl,hq4,hb4⟩;have ST4:=zAa (ST3.out.below hb4);have RI4:=zAa (RI3.out.below hb4);have RQ4:=zAa hq4;clear hq4 hb4)
    | (go_at_call 71;refine (zCC go gr gb gd _ _ r q _ ST2.out.ord HDO.out HBM.out hwl64).mono ?_;rintro e w3 ⟨gp,rfl,hip,hgp,hb3⟩;have ST3:=zAa (ST2.out.below hb3);have RI3:Hid (zBS w3 (.slice (some ⟨gp,0,none⟩) (Q.zNS wd.events).length (Q.zNS wd.events).length) (Q.zNW (Q.zNS wd.events) r)):=(by have h9:=hip.rowI (Q.zNS wd.events).length;rw[Q.zOr] at h9;exact h9);have FI3:=zAa (HF0.out.wr HA0.out (ST3.out.done BWW.out).xf.block);have ls3:=Nat.lt_of_lt_of_le l1' ST3.out.fr.xf.size;have kk1:w3.heap[w.heap.size+1]?=some (.cells #[.slice x n c,.slice (some ⟨g1,0,none⟩) n n,.slice (some ⟨g2,0,none⟩) n n,.slice (some ⟨g3,0,none⟩) n n,.slice (some ⟨g4,0,none⟩) n n,.slice (some ⟨g5,0,none⟩) n n,.slice (some ⟨g6,0,none⟩) n n,.slice (some ⟨g7,0,none⟩) n n,.slice (some ⟨g8,0,none⟩) n n,.slice (some ⟨g9,0,none⟩) n n,.slice (some ⟨gq,0,none⟩) n n] 101 (0,0)):=(ST3.out.box _ (by omega) l1' (by omega) (by omega)).trans K1.out;have d0:=ceL kk1 0 _ rfl;have d1:=ceL kk1 1 _ rfl;have d2:=ceL kk1 2 _ rfl;have d3:=ceL kk1 3 _ rfl;have d4:=ceL kk1 4 _ rfl;have d5:=ceL kk1 5 _ rfl;have d6:=ceL kk1 6 _ rfl;have d7:=ceL kk1 7 _ rfl;have d8:=ceL kk1 8 _ rfl;have d9:=ceL kk1 9 _ rfl;clear kk1;clear hip hb3))
   have KA:Hid ((w4.alloc (.cells #[.slice (some ⟨q4,0,none⟩) n n] 68)).heap[w4.heap.size]?=some (.cells #[.slice (some ⟨q4,0,none⟩) n n] 68 (0,0))):=heap_alloc_new w4 _
   have BA:Hid (Below w4.heap.size w4 (w4.alloc (.cells #[.slice (some ⟨q4,0,none⟩) n n] 68))):=(Below.refl _ _).alloc (Nat.le_refl _) _
   clear FI3 ls3 d0 d1 d2 d3 d4 d5 d6 d7 d8 d9
   generalize w4.alloc (.cells #[.slice (some ⟨q4,0,none⟩) n n] 68)=Va at *
   have STa:=zAa (ST4.out.below BA.out)
   have RIa:=zAa (RI4.out.below BA.out)
   have RQa:=zAa (RQ4.out.below BA.out)
   have FIa:=zAa (HF0.out.wr HA0.out ((STa.out.done BWW.out).xf).block)
   have RRa:=zAa (HR0.out.wr HA0.out ((STa.out.done BWW.out).xf).block)
   have lsa:=Nat.lt_of_lt_of_le l1' STa.out.fr.xf.size
   obtain⟨ka0,ka1,ka2⟩:=zAk KA.out
   have kk1:Va.heap[w.heap.size+1]?=some (.cells #[.slice x n c,.slice (some ⟨g1,0,none⟩) n n,.slice (some ⟨g2,0,none⟩) n n,.slice (some ⟨g3,0,none⟩) n n,.slice (some ⟨g4,0,none⟩) n n,.slice (some ⟨g5,0,none⟩) n n,.slice (some ⟨g6,0,none⟩) n n,.slice (some ⟨g7,0,none⟩) n n,.slice (some ⟨g8,0,none⟩) n n,.slice (some ⟨g9,0,none⟩) n n,.slice (some ⟨gq,0,none⟩) n n] 101 (0,0)):=(STa.out.box _ (by omega) l1' (by omega) (by omega)).trans K1.out;have e0:=ceL kk1 0 _ rfl;have e1:=ceL kk1 1 _ rfl;have e2:=ceL kk1 2 _ rfl;have e3:=ceL kk1 3 _ rfl;have e4:=ceL kk1 4 _ rfl;have e5:=ceL kk1 5 _ rfl;have e6:=ceL kk1 6 _ rfl;have e7:=ceL kk1 7 _ rfl;have e8:=ceL kk1 8 _ rfl;have e9:=ceL kk1 9 _ rfl;have e10:=ceL kk1 10 _ rfl;clear kk1
   generalize hbb:w4.heap.size=bb at *
   clear hbb ST4 RI4 RQ4 BA ST2 ST3 RI3
   go_upto_region 6 with (first
    | (go_at_call 95;refine (zDb (FA.mk n (.slice x n c) g1 g2 g3 g4 g5 g6 g7 g8 g9) f gq rd q4 (Q.zOn f.events (Q.zNW (Q.zNS wd.events) r)) _ FIa.out RRa.out RQa.out).mono ?_;rintro e w5 ⟨q5,rfl,hq5,hb5⟩;have ST5:=zAa (STa.out.below hb5);have B5:=zAa hb5;have RQ5:=zAa hq5;clear hq5 hb5))
   have KB:Hid ((w5.alloc (.cells #[.slice (some ⟨q5,0,none⟩) n n] 68)).heap[w5.heap.size]?=some (.cells #[.slice (some ⟨q5,0,none⟩) n n] 68 (0,0))):=heap_alloc_new w5 _
   have BB:Hid (Below w5.heap.size w5 (w5.alloc (.cells #[.slice (some ⟨q5,0,none⟩) n n] 68))):=(Below.refl _ _).alloc (Nat.le_refl _) _
   have BAB:Hid (Below Va.heap.size Va (w5.alloc (.cells #[.slice (some ⟨q5,0,none⟩) n n] 68))):=zAm B5.out (Nat.le_refl _) BB.out
   clear e0 e1 e2 e3 e4 e5 e6 e7 e8 e9 e10
   generalize w5.alloc (.cells #[.slice (some ⟨q5,0,none⟩) n n] 68)=Vb at *
   have STb:=zAa (ST5.out.below BB.out)
   have RIb:=zAa (RIa.out.below BAB.out)
   have RQb:=zAa (RQa.out.below BAB.out)
   have RMb:=zAa (RQ5.out.below BB.out)
   have FIb:=zAa (HF0.out.wr HA0.out ((STb.out.done BWW.out).xf).block)
   have RRb:=zAa (HR0.out.wr HA0.out ((STb.out.done BWW.out).xf).block)
   have lsb:=Nat.lt_of_lt_of_le l1' STb.out.fr.xf.size
   have KAb:=zAa ((BAB.out.block bb ka2).trans KA.out)
   obtain⟨ja0,ja1,ja2⟩:=zAk KAb.out
   obtain⟨kb0,kb1,kb2⟩:=zAk KB.out
   have kk1:Vb.heap[w.heap.size+1]?=some (.cells #[.slice x n c,.slice (some ⟨g1,0,none⟩) n n,.slice (some ⟨g2,0,none⟩) n n,.slice (some ⟨g3,0,none⟩) n n,.slice (some ⟨g4,0,none⟩) n n,.slice (some ⟨g5,0,none⟩) n n,.slice (some ⟨g6,0,none⟩) n n,.slice (some ⟨g7,0,none⟩) n n,.slice (some ⟨g8,0,none⟩) n n,.slice (some ⟨g9,0,none⟩) n n,.slice (some ⟨gq,0,none⟩) n n] 101 (0,0)):=(STb.out.box _ (by omega) l1' (by omega) (by omega)).trans K1.out;have h0:=ceL kk1 0 _ rfl;have h1:=ceL kk1 1 _ rfl;have h2:=ceL kk1 2 _ rfl;have h3:=ceL kk1 3 _ rfl;have h4:=ceL kk1 4 _ rfl;have h5:=ceL kk1 5 _ rfl;have h6:=ceL kk1 6 _ rfl;have h7:=ceL kk1 7 _ rfl;have h8:=ceL kk1 8 _ rfl;have h9:=ceL kk1 9 _ rfl;have h10:=ceL kk1 10 _ rfl;clear kk1
   generalize hbm:w5.heap.size=bm at *
   clear hbm ST5 RQ5 BB BAB B5 STa RIa RQa FIa RRa lsa ka0 ka1 ka2 KA
   cases zs:f.mayStand rd (Q.zOn f.events (Q.zNW (Q.zNS wd.events) r)) (Q.thenR rd (Q.zOn f.events (Q.zNW (Q.zNS wd.events) r)))
   ·have HSO:Hid (Q.zOF wd f rd cs a1 r=a1):=by unfold Hid Q.zOF;rw[zs];rfl
    go_wp2_with (first
     | (go_at_call 96;refine (zDU (FA.mk n (.slice x n c) g1 g2 g3 g4 g5 g6 g7 g8 g9) f gq rd q4 (Q.zOn f.events (Q.zNW (Q.zNS wd.events) r)) q5 (Q.thenR rd (Q.zOn f.events (Q.zNW (Q.zNS wd.events) r))) _ FIb.out RRb.out RQb.out RMb.out).mono ?_;rintro e w6 ⟨rfl,hb6⟩;rw[zs];have B6:=zAa hb6;have ST6:=zAa (STb.out.below hb6);have ls6:=Nat.lt_of_lt_of_le l0' ST6.out.fr.xf.size;clear hb6;have kk0:w6.heap[w.heap.size]?=some (.cells #[.slice ea wd.events.length ec,.slice ra wd.regs.length rc] 65 (0,0)):=(ST6.out.box _ (by omega) l0' (by omega) (by omega)).trans K0.out;have u0:=ceL kk0 0 _ rfl;have u1:=ceL kk0 1 _ rfl;clear kk0))
    have hR:zGA w W1 g go gr gb gd ov fp wd f rd cs fin w6 q.length:=⟨r,q,a1,ov1,vs1,fp1,ST6.out,by have h3:=FD2.out;rw[HSO.out] at h3;exact h3,rfl⟩
    go_roundw
    case rel=>exact⟨_,hR⟩
    case measure =>
     have h1:=(HMU.out _ ⟨_,hR⟩).2 _ hR
     have h2:=HL2.out
     omega
   ·have HSO:Hid (Q.zOF wd f rd cs a1 r=cs.foldl (Q.zOW (Q.zPg wd (Q.zNW (Q.zNS wd.events) r)) f (Q.zOn f.events (Q.zNW (Q.zNS wd.events) r)) (Q.thenR rd (Q.zOn f.events (Q.zNW (Q.zNS wd.events) r)))) a1):=by unfold Hid Q.zOF;rw[zs];rfl
    have HSM:=zAa (Q.zOC HOK.out (Q.zNW (Q.zNS wd.events) r))
    go_upto_region 9 with (first
     | (go_at_call 73;refine (zDi _ _ _ wd (Q.zNW (Q.zNS wd.events) r) _ (HW0.out.wr HA0.out HAP.out (ST6.out.done BWW.out).xf.block (ST6.out.done BWW.out).xf.size) (RIb.out.below B6.out) HPW.out hn64 hrg1).mono ?_;rintro e w7 ⟨vo,rfl,hro,hfo,hb7⟩;have ST7:=zAa (ST6.out.below hb7);have HVO:Hid (∀ k,vo.ownBlock=some k→k<w7.heap.size∧k≠g∧ov1.ownBlock≠some k):=(fun k e=>⟨zFx hro k e,fun e2=>by have:=hfo k e;have:=ST6.out.ans.out.lt;omega,fun e2=>by have:=hfo k e;have:=ST6.out.ans.out.ownlt k e2;omega⟩);have RO7:=zAa hro;obtain⟨va,vc,hvo,_⟩:=hro.form;have B7:=zAa hb7;clear hfo hb7)
     | (go_at_call 96;refine (zDU (FA.mk n (.slice x n c) g1 g2 g3 g4 g5 g6 g7 g8 g9) f gq rd q4 (Q.zOn f.events (Q.zNW (Q.zNS wd.events) r)) q5 (Q.thenR rd (Q.zOn f.events (Q.zNW (Q.zNS wd.events) r))) _ FIb.out RRb.out RQb.out RMb.out).mono ?_;rintro e w6 ⟨rfl,hb6⟩;rw[zs];have B6:=zAa hb6;have ST6:=zAa (STb.out.below hb6);have ls6:=Nat.lt_of_lt_of_le l0' ST6.out.fr.xf.size;clear hb6;have kk0:w6.heap[w.heap.size]?=some (.cells #[.slice ea wd.events.length ec,.slice ra wd.regs.length rc] 65 (0,0)):=(ST6.out.box _ (by omega) l0' (by omega) (by omega)).trans K0.out;have u0:=ceL kk0 0 _ rfl;have u1:=ceL kk0 1 _ rfl;clear kk0))
    subst hvo
    have B67:=zAa (zAm B6.out (Nat.le_refl _) B7.out)
    have RB7:=zAa (RQb.out.below B67.out)
    have RM7:=zAa (RMb.out.below B67.out)
    have KA7:=zAa ((B67.out.block bb ja2).trans KAb.out)
    have KB7:=zAa ((B67.out.block bm kb2).trans KB.out)
    have HBB:Hid (¬ Wr g ov1 bb):=fun e=>by
     rcases e with e | e
     ·exact ST7.out.ans.ne KA7.out (by decide) (by decide) e.symm
     ·exact ST7.out.ans.ownNe KA7.out (by decide) e
    have HBM2:Hid (¬ Wr g ov1 bm):=fun e=>by
     rcases e with e | e
     ·exact ST7.out.ans.ne KB7.out (by decide) (by decide) e.symm
     ·exact ST7.out.ans.ownNe KB7.out (by decide) e
    have lbb:bb<w7.heap.size:=Nat.lt_of_lt_of_le ja2 B67.out.size
    have lbm:bm<w7.heap.size:=Nat.lt_of_lt_of_le kb2 B67.out.size
    rw[HSO.out] at HROW2 FD2
    generalize hA2:cs.foldl (Q.zOW (Q.zPg wd (Q.zNW (Q.zNS wd.events) r)) f (Q.zOn f.events (Q.zNW (Q.zNS wd.events) r)) (Q.thenR rd (Q.zOn f.events (Q.zNW (Q.zNS wd.events) r)))) a1=A2 at *
    have HA2:=zAa hA2
    generalize hoc:Q.zPg wd (Q.zNW (Q.zNS wd.events) r)=oc at *
    clear hA2 hro h0 h1 h2 h3 h4 h5 h6 h7 h8 h9 h10 ja0 ja1 ja2 kb0 kb1 kb2 KAb KB RQb RMb B6 B7 B67 FIb RRb RIb lsb u0 u1 ls6 HSO HPW HPL hoc
    generalize (Q.thenR rd (Q.zOn f.events (Q.zNW (Q.zNS wd.events) r)))=ms at *
    generalize (Q.zOn f.events (Q.zNW (Q.zNS wd.events) r))=bh at *
    go_loopw [39] (fun jv wr=>∃ (i:Nat) (a:Q.Ans) (ovi:Value) (vsi:List Value) (fpi:List Nat),i≤cs.length∧jv=.int .i64 i∧Hid (OrdSt w W1 wr g go gr gb gd ov fp (Q.zNS wd.events) (Q.zNU wd.events (Q.zNS wd.events)) r q a ovi vsi fpi)∧Hid (AFrame (Wr g ov1) w7 wr ov1 ovi fp1 fpi)∧Hid ((cs.drop i).foldl (Q.zOW oc f bh ms) a=A2)) (fun jv _=>cs.length-(intOf jv).toNat)
    case atStart=>exact⟨0,a1,ov1,vs1,fp1,Nat.zero_le _,rfl,ST7,AFrame.refl _ _ _ _,by rw[List.drop_zero];exact HA2.out⟩
    case round =>
     obtain⟨i,a,ovi,vsi,fpi,hi,rfl,STI,AFI,FDI⟩:=hrel
     have hra:a.rows.length<100000000:=by
      have h1:=Q.zOT _ (Q.tgtTake_rows oc f bh ms) (cs.drop i) a
      have h2:=HROW2.out
      rw[FDI.out] at h1
      omega
     clear HA2
     by_cases hlt:i<cs.length
     ·have hin:(i:Int)<(cs.length:Int):=by omega
      obtain⟨cb,hca⟩:∃ cb,ca=some ⟨cb,0,none⟩:=by
       rcases HC0.out.own.2 with ⟨e1,h0⟩ | ⟨cb,c2,cur,e1,_⟩
       ·omega
       ·simp only[Value.slice.injEq] at e1
        exact⟨cb,e1.1⟩
      subst hca
      have RCI:=zAa (HC0.out.wr HA0.out ((STI.out.done BWW.out).xf).block)
      have hgl:i<gs.length:=by rw[HC0.out.len];exact hlt
      have HGI:=zAa (RCI.out.rel i hlt gs[i] (List.getElem?_eq_getElem hgl))
      have ci:=RCI.out.own.cellAt i (by omega)
      have lcb:=(RCI.out.own.lt cb rfl).2
      simp only[List.getElem?_map,List.getElem?_eq_getElem hgl,Option.map_some] at ci
      have FDN:Hid ((cs.drop (i+1)).foldl (Q.zOW oc f bh ms) (Q.zOW oc f bh ms a cs[i])=A2):=by
       have h3:=FDI.out
       rw[List.drop_eq_getElem_cons hlt,List.foldl_cons] at h3
       exact h3
      generalize gs[i]=gi at *
      generalize cs[i]=ca1 at *
      have RBI:=zAa (RB7.out.wr ST7.out.ans AFI.out.xf.block)
      have RMI:=zAa (RM7.out.wr ST7.out.ans AFI.out.xf.block)
      have ROI:=zAa (RO7.out.own wr (fun k e=>AFI.out.xf.block k (HVO.out k e).1 (fun e2=>by
       rcases e2 with e2 | e2
       ·exact (HVO.out k e).2.1 e2
       ·exact (HVO.out k e).2.2 e2)) AFI.out.xf.size)
      have HVI:Hid (∀ k,(Value.slice va oc.length vc).ownBlock=some k→¬ Wr g ovi k):=fun k e e2=>by
       rcases e2 with e2 | e2
       ·exact (HVO.out k e).2.1 e2
       ·rcases AFI.out.own with e3 | ⟨b,e3,hb⟩
        ·exact (HVO.out k e).2.2 (e3.symm.trans e2)
        ·rw[e3] at e2;simp at e2
         have:=(HVO.out k e).1;omega
      have FII:=zAa (HF0.out.wr HA0.out ((STI.out.done BWW.out).xf).block)
      have KBI:=zAa ((AFI.out.xf.block bb lbb HBB.out).trans KA7.out)
      have KMI:=zAa ((AFI.out.xf.block bm lbm HBM2.out).trans KB7.out)
      have KCI:=zAa ((STI.out.box _ (by omega) l1' (by omega) (by omega)).trans K1.out)
      clear RCI FDI hgl
      have BAI:Hid (Below wr.heap.size wr (wr.alloc (.cells #[.slice (some ⟨gi,0,none⟩) n n] 68))):=(Below.refl _ _).alloc (Nat.le_refl _) _
      have KNI:Hid ((wr.alloc (.cells #[.slice (some ⟨gi,0,none⟩) n n] 68)).heap[wr.heap.size]?=some (.cells #[.slice (some ⟨gi,0,none⟩) n n] 68 (0,0))):=heap_alloc_new wr _
      have lbi:=Nat.lt_of_lt_of_le lbb AFI.out.xf.size
      have lmi:=Nat.lt_of_lt_of_le lbm AFI.out.xf.size
      have lci:=Nat.lt_of_lt_of_le l1' STI.out.fr.xf.size
      go_upto_region 11 with fail
      generalize wr.alloc (.cells #[.slice (some ⟨gi,0,none⟩) n n] 68)=Vc at *
      obtain⟨kn0,kn1,kn2⟩:=zAk KNI.out
      have kkb:=(BAI.out.block _ lbi).trans KBI.out
      have kkm:=(BAI.out.block _ lmi).trans KMI.out
      have kkc:=(BAI.out.block _ lci).trans KCI.out
      obtain⟨xb0,xb1,xb2⟩:=zAk kkb
      obtain⟨xm0,xm1,xm2⟩:=zAk kkm
      have STC:=zAa (STI.out.below BAI.out)
      have AFC:=zAa (AFI.out.below BAI.out)
      have RBC:=zAa (RBI.out.below BAI.out)
      have RMC:=zAa (RMI.out.below BAI.out)
      have RGC:=zAa (HGI.out.below BAI.out)
      have ROC:=zAa (ROI.out.below BAI.out)
      have FIC:=zAa (FII.out.below BAI.out)
      have lcc:w.heap.size+1<Vc.heap.size:=Nat.lt_of_lt_of_le lci BAI.out.size
      generalize hnb:wr.heap.size=nb at *
      have KKC:=zAa kkc
      clear hnb STI AFI RBI RMI HGI ROI FII KBI KMI KCI BAI KNI lbi lmi lci kkb kkm kkc ci lcb
      cases za:Q.zQT ca1 bh ms
      ·have HTK:Hid (Q.zOW oc f bh ms a ca1=a):=by unfold Hid Q.zOW;rw[za];rfl
       go_wp2_with (first
        | (go_at_call 97;refine (zEZ gi q4 q5 n ca1 bh ms _ RGC.out RBC.out RMC.out).mono ?_;rintro e w8 ⟨rfl,hb8⟩;rw[za];have ST8:=zAa (STC.out.below hb8);have AF8:=zAa (AFC.out.below hb8);have RG8:=zAa (RGC.out.below hb8);have RO8:=zAa (ROC.out.below hb8);have FI8:=zAa (FIC.out.below hb8);have yn0:=cfL hb8 kn2 kn0;have yn2:=Nat.lt_of_lt_of_le kn2 hb8.size;have yc2:=Nat.lt_of_lt_of_le lcc hb8.size;have kk8:=(hb8.block _ lcc).trans KKC.out;have y0:=ceL kk8 0 _ rfl;have y1:=ceL kk8 1 _ rfl;have y2:=ceL kk8 2 _ rfl;have y3:=ceL kk8 3 _ rfl;have y4:=ceL kk8 4 _ rfl;have y5:=ceL kk8 5 _ rfl;have y6:=ceL kk8 6 _ rfl;have y7:=ceL kk8 7 _ rfl;have y8:=ceL kk8 8 _ rfl;have y9:=ceL kk8 9 _ rfl;have y10:=ceL kk8 10 _ rfl;clear kk8 hb8))
       go_roundw
       case rel=>exact⟨i+1,a,ovi,vsi,fpi,by omega,by go_num,ST8,AF8,by have h3:=FDN.out;rw[HTK.out] at h3;exact h3⟩
       case measure=>simp[intOf];omega
      ·have HTK:Hid (Q.zOW oc f bh ms a ca1=⟨Q.ins a.rows oc,if a.clash then true else f.clashes ca1⟩):=by unfold Hid Q.zOW;rw[za];rfl
       go_wp2_with (first
        | (go_at_call 97;refine (zEZ gi q4 q5 n ca1 bh ms _ RGC.out RBC.out RMC.out).mono ?_;rintro e w8 ⟨rfl,hb8⟩;rw[za];have ST8:=zAa (STC.out.below hb8);have AF8:=zAa (AFC.out.below hb8);have RG8:=zAa (RGC.out.below hb8);have RO8:=zAa (ROC.out.below hb8);have FI8:=zAa (FIC.out.below hb8);have yn0:=cfL hb8 kn2 kn0;have yn2:=Nat.lt_of_lt_of_le kn2 hb8.size;have yc2:=Nat.lt_of_lt_of_le lcc hb8.size;have kk8:=(hb8.block _ lcc).trans KKC.out;have y0:=ceL kk8 0 _ rfl;have y1:=ceL kk8 1 _ rfl;have y2:=ceL kk8 2 _ rfl;have y3:=ceL kk8 3 _ rfl;have y4:=ceL kk8 4 _ rfl;have y5:=ceL kk8 5 _ rfl;have y6:=ceL kk8 6 _ rfl;have y7:=ceL kk8 7 _ rfl;have y8:=ceL kk8 8 _ rfl;have y9:=ceL kk8 9 _ rfl;have y10:=ceL kk8 10 _ rfl;clear kk8 hb8)
        | (go_at_call 98;refine (zKm g a ovi vsi fpi _ oc (FA.mk n (.slice x n c) g1 g2 g3 g4 g5 g6 g7 g8 g9) f gq gi ca1 _ ST8.out.ans RO8.out HSM.out HVI.out FI8.out RG8.out hra).mono ?_;rintro e w9 ⟨rfl,ov9,vs9,fp9,hA9,hF9⟩;have ST9:=zAa (ST8.out.step hA9 hF9);have AF9:=zAa (AF8.out.trans hF9 (fun k hk e=>zMk AF8.out hk e));clear hA9 hF9))
       go_roundw
       case rel=>exact⟨i+1,_,ov9,vs9,fp9,by omega,by go_num,ST9,AF9,by have h3:=FDN.out;rw[HTK.out] at h3;exact h3⟩
       case measure=>simp[intOf];omega
     ·have hie:i=cs.length:=by omega
      have hnlt:decide ((i:Int)<(cs.length:Int))=false:=decide_eq_false (by omega)
      have haA:a=A2:=by
       have h3:=FDI.out
       rw[hie,List.drop_length] at h3
       exact h3
      have hR:zGA w W1 g go gr gb gd ov fp wd f rd cs fin wr q.length:=⟨r,q,a,ovi,vsi,fpi,STI.out,by rw[haA];exact FD2.out,rfl⟩
      go_wp2
      go_roundw
      case rel=>exact⟨_,hR⟩
      case measure =>
       have h1:=(HMU.out _ ⟨_,hR⟩).2 _ hR
       have h2:=HL2.out
       omega
end Go.Proofs.YtgceflcbckjjiaaGreatDoor
