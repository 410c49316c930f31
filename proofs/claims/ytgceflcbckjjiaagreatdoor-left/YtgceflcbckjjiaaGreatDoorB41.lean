import Derived.Test.YtgceflcbckjjiaaGreatDoorB40
set_option linter.unusedVariables false
set_option linter.unusedSimpArgs false
namespace Go.Proofs.YtgceflcbckjjiaaGreatDoor
open Go Go.RowKit
set_option maxRecDepth 100000
namespace Q
theorem tgtCand_rows (a:Ans) (c:Cand):a.rows.length≤(tgtCand a c).rows.length:=by
 unfold tgtCand;split
 ·exact Nat.le_refl _
 ·exact fold_rows _ (tgtOrder_rows _ _ _ _) _ _
theorem target_eq (ts:List P.Thr):(candsL (remS (runs ts) none (digitRows (lensR (runs ts))))).foldl tgtCand ⟨[],false⟩=target ts:=by rw[← cands_eq];rfl
theorem causes_len (f:Facts) (rd:List Nat) (w:Wd):(f.causes rd w).length≤(digitRows (ordBases w.events (fenceRows w.events))).length:=by
 unfold Facts.causes
 rw[List.length_map];exact List.length_filter_le _ _
end Q
set_option maxHeartbeats 12800000 in
theorem tgtOutcomes_any (B bt cap:Nat) (ts:List P.Thr) (w:World) (h:ThreadsAt w B (.slice (some ⟨bt,0,none⟩) ts.length cap) ts) (hn:ts.length<20) (hok:∀ t∈ts,(∀ s∈t.stmts,Q.StOk s)∧t.stmts.length<900∧Q.codes t.stmts<100000) (hrb:∀ r∈Q.runs ts,r.length<100000000) (hrn:∀ rs∈Q.runs ts,∀ r∈rs,r.regs.length=4∧∀ e∈r.events,e.hangs<Q.M64) (hW:∀ d,Q.DigOk (lensR (Q.runs ts)) d→Q.WdOk (Q.worldAt (Q.runs ts) d)) (hfin:(Q.target ts).rows.length<100000000) :
  Calls Tryz.prog 29 #[.agg #[.slice (some ⟨bt,0,none⟩) ts.length cap]] w fun e w'=>∃ ov vs,e=.returned (.tuple #[ov,.bool (Q.target ts).clash])∧RowsI w' 0 ov (Q.target ts).rows vs∧Below w.heap.size w w':=by
 obtain⟨k0,k1,hsz,hbw⟩:=boxes2 w #[.slice (some ⟨bt,0,none⟩) ts.length cap] #[.slice none 0 0,.bool false] 48 99
 have HT:=hide (h.keep fun k hk=>hbw.block k hk)
 have HOK:=hide hok
 have HRB:=hide hrb
 have HRN:=hide hrn
 have HW:=hide hW
 have HFIN:=hide hfin
 have BW0:=hide hbw
 have HEQ:=hide (Q.target_eq ts)
 have hrl:(Q.runs ts).length<20:=by rw[Q.runs_len];exact hn
 generalize Q.target ts=fin at *
 clear hbw h hok hrb hrn hW hfin
 go_enter Tryz.func29,Tryz.ntmps29
 go_upto_region 2 with fail
 generalize hE:(w.alloc (.cells #[.slice (some ⟨bt,0,none⟩) ts.length cap] 48)).alloc (.cells #[.slice none 0 0,.bool false] 99)=W0 at *
 have c00:W0.cell? ⟨w.heap.size,0,none⟩=some (.slice (some ⟨bt,0,none⟩) ts.length cap):=by simp[World.cell?,k0]
 have l0:w.heap.size<W0.heap.size:=by omega
 have l1:w.heap.size+1<W0.heap.size:=by omega
 have K1:=hide k1
 clear hE k0 k1 hsz
 go_upto_region 3 with (first
  | (go_at_call 34;refine (candidatesOf_any B bt cap ts _ HT.out hn HOK.out).mono ?_;rintro e w1 ⟨rv,vs,wss,gb,gd,rfl,⟨xa,xn,xc,hrv⟩,hra,hib,hid,hgb,hgd,hne,hb1⟩;obtain⟨ya,yc,hrv2⟩:=own_form hra.own;rw[hrv] at hrv2;simp only[Value.slice.injEq] at hrv2;obtain⟨-,hxn, -⟩:=hrv2;subst hxn;subst hrv;have RA1:=hide hra;have IB1:=hide hib;have ID1:=hide hid;have B1:=hide hb1;have KB:Hid ((w1.alloc (.cells #[.slice none 0 0,.slice none 0 0,.slice none 0 0,.slice none 0 0,.slice none 0 0,.slice none 0 0,.slice none 0 0,.slice none 0 0,.slice none 0 0,.slice none 0 0,.slice none 0 0,.slice none 0 0,.slice none 0 0,.slice none 0 0,.slice none 0 0,.slice none 0 0,.bool false,.slice none 0 0,.slice none 0 0,.slice none 0 0,.bool false,.bool false] 79)).heap[w1.heap.size]?=some (.cells #[.slice none 0 0,.slice none 0 0,.slice none 0 0,.slice none 0 0,.slice none 0 0,.slice none 0 0,.slice none 0 0,.slice none 0 0,.slice none 0 0,.slice none 0 0,.slice none 0 0,.slice none 0 0,.slice none 0 0,.slice none 0 0,.slice none 0 0,.slice none 0 0,.bool false,.slice none 0 0,.slice none 0 0,.slice none 0 0,.bool false,.bool false] 79 (0,0))):=heap_alloc_new w1 _;have BA:Hid (Below w1.heap.size w1 (w1.alloc (.cells #[.slice none 0 0,.slice none 0 0,.slice none 0 0,.slice none 0 0,.slice none 0 0,.slice none 0 0,.slice none 0 0,.slice none 0 0,.slice none 0 0,.slice none 0 0,.slice none 0 0,.slice none 0 0,.slice none 0 0,.slice none 0 0,.slice none 0 0,.slice none 0 0,.bool false,.slice none 0 0,.slice none 0 0,.slice none 0 0,.bool false,.bool false] 79))):=(Below.refl _ _).alloc (Nat.le_refl _) _;clear hra hib hid hb1)
  | (refine wpList_store_mid rfl 79 (.tmp 5) (.tmp 9) rfl w1.heap.size 0 (candC (.slice xa (Q.runs ts).length xc) (.slice (some ⟨gb,0,none⟩) (Q.runs ts).length (Q.runs ts).length) (.slice (some ⟨gd,0,none⟩) (Q.runs ts).length (Q.runs ts).length) (.bool false)) rfl rfl (there_off KB.out (by simp[candC])) (by kernel_rfl) (by simp[candC,Value.oneCell']) ?_;have SW:=hide (setCells_whole (candC (.slice xa (Q.runs ts).length xc) (.slice (some ⟨gb,0,none⟩) (Q.runs ts).length (Q.runs ts).length) (.slice (some ⟨gd,0,none⟩) (Q.runs ts).length (Q.runs ts).length) (.bool false)).toList KB.out (by simp[candC]));generalize (w1.alloc (.cells #[.slice none 0 0,.slice none 0 0,.slice none 0 0,.slice none 0 0,.slice none 0 0,.slice none 0 0,.slice none 0 0,.slice none 0 0,.slice none 0 0,.slice none 0 0,.slice none 0 0,.slice none 0 0,.slice none 0 0,.slice none 0 0,.slice none 0 0,.slice none 0 0,.bool false,.slice none 0 0,.slice none 0 0,.slice none 0 0,.bool false,.bool false] 79)).setCells w1.heap.size 0 (candC (.slice xa (Q.runs ts).length xc) (.slice (some ⟨gb,0,none⟩) (Q.runs ts).length (Q.runs ts).length) (.slice (some ⟨gd,0,none⟩) (Q.runs ts).length (Q.runs ts).length) (.bool false)).toList=W1 at *))
 obtain⟨s0,s1,s2⟩:=SW.out
 have BL:=hide (s2 w1 w1.heap.size (Nat.le_refl _) BA.out)
 have S0:=hide s0
 have hs1:=B1.out.size
 have hs2:=BL.out.size
 have KG:=hide ((BL.out.block _ (by omega)).trans ((B1.out.block _ l1).trans K1.out))
 have BWW:Hid (Below w.heap.size w W1):=bstep (bstep BW0.out (Nat.le_refl _) B1.out) (Nat.le_refl _) BL.out
 have INI:Hid (OutInv w w1.heap.size (w.heap.size+1) ⟨.slice xa (Q.runs ts).length xc,vs,wss,gb,gd⟩ (Q.runs ts) Q.tgtCand fin W1 (Q.candsL (remS (Q.runs ts) none (Q.digitRows (lensR (Q.runs ts))))).length):=⟨none,_,_,_,_,_,_,both_start (t:=99) RA1.out IB1.out ID1.out hne (by simpa using S0.out) BL.out KG.out (Or.inr rfl) (by omega) (by omega) (by omega) BWW.out,HEQ.out,rfl⟩
 generalize (⟨.slice xa (Q.runs ts).length xc,vs,wss,gb,gd⟩:WA)=A at *
 clear s0 s1 s2 SW BL S0 KG BWW RA1 IB1 ID1 B1 KB BA HT K1 BW0 HEQ c00 hs1 hs2 HOK
 generalize w1.heap.size=gc at *
 obtain⟨μ,hμ⟩:=least_fun (OutInv w gc (w.heap.size+1) A (Q.runs ts) Q.tgtCand fin)
 have HMU:=hide hμ
 clear hμ
 simp only[Act.put]
 go_loopw [] (fun wr=>∃ m,Hid (OutInv w gc (w.heap.size+1) A (Q.runs ts) Q.tgtCand fin wr m)) (fun wr=>μ wr)
 case atStart=>exact⟨_,INI⟩
 case round =>
  obtain⟨hI,hmin⟩:=HMU.out wr (by obtain⟨n,h⟩:=hrel;exact⟨n,h.out⟩)
  clear hrel hmin INI
  obtain⟨st,ds,rest,an,ov,vs1,fp,hB,hFD,hlen⟩:=hI
  have BO:=hide hB
  have FD:=hide hFD
  have HL:=hide hlen
  have lgc:=hB.cand.box.lt
  clear hB hFD hlen
  go_upto_region 4 with (first | (go_at_call 35;refine (candNext_any gc A _ st ds rest _ BO.out.cand hrl HRB.out HRN.out HW.out).mono ?_;rintro e w2 ⟨b,rfl,hF,h1⟩;have HF2:=hide hF;clear hF;rcases h1 with ⟨rfl,hcs⟩ | ⟨rfl,s,ds2,rest2,gr,hnow,hcs,hnb,hgs⟩))
  ·obtain⟨hA2,hbl2⟩:=BO.out.frame HF2.out
   have HA2:=hide hA2
   have HBL2:=hide hbl2
   have hfa:an=fin:=by
    have h3:=FD.out
    rw[hcs] at h3
    exact h3
   subst hfa
   have c0:=hA2.out.cell
   have c1:=hA2.clash
   have lg2:=hA2.out.lt
   obtain⟨oa,oc,hov,_⟩:=hA2.out.rows.form
   subst hov
   clear hA2 hbl2 hcs
   go_upto_region 8 with fail
   go_region_held3 (fun w'=>w'.cell? ⟨w.heap.size+1,1,none⟩=some (.bool an.clash)∧w'.cell? ⟨w.heap.size+1,0,none⟩=some (.slice oa an.rows.length oc)) (first | exact⟨c1,c0⟩) (first
    | (go_at_call 38;refine (rows_any (w.heap.size+1) (.slice oa an.rows.length oc) _ (by exact c0) (by exact lg2) ⟨_,_,_,rfl⟩).mono ?_;rintro e w3 ⟨rfl,rfl⟩))
   all_goals
    (try go_wp2)
    go_ret2
    exact⟨_,vs1,rfl,HA2.out.out.rows.below (Below.refl _ _).drew,HBL2.out.drew⟩
  ·have B2:=hide (BO.out.next HF2.out hnow.on hnb hgs)
   have HCS:=hide hcs
   have NOW:=hide hnow
   obtain⟨hon,hwk⟩:=hnow.on.rs s rfl
   have HON:=hide hon
   have HWK:=hide hwk
   have l2:=hnow.on.box.lt
   have hfc:=hon.fc
   have k10:=hnow.c12
   have k11:=hon.c0
   have k12:=hon.c1
   have REL2:=hide hnow.rel
   obtain⟨fx,fcp,hfev,_⟩:=hon.fin.form
   obtain⟨ea,ec,hev,_⟩:=hon.wdi.evs.form
   obtain⟨ra,rc,hrg,_⟩:=hon.wdi.regs.form
   have FI2:=hide hon.fin
   have WI2:=hide hon.wdi
   have FDN:Hid ((Q.candsL (remS (Q.runs ts) (some s) rest2)).foldl Q.tgtCand (Q.tgtCand an (Q.candOf (s.wd,s.ds)))=fin):=by
    have h3:=FD.out
    rw[hcs,List.foldl_cons] at h3
    exact h3
   have HLN:Hid ((Q.candsL (remS (Q.runs ts) (some s) rest2)).length+1=μ wr):=by
    have h3:=HL.out
    rw[hcs,List.length_cons] at h3
    exact h3
   have hrows:(Q.tgtCand an (Q.candOf (s.wd,s.ds))).rows.length<100000000:=by
    have h3:=Q.fold_rows _ Q.tgtCand_rows (Q.candsL (remS (Q.runs ts) (some s) rest2)) (Q.tgtCand an (Q.candOf (s.wd,s.ds)))
    have h4:=HFIN.out
    rw[FDN.out] at h3
    omega
   have HROWS:=hide hrows
   have HEV:=hide (Q.factsOf_events s.wd.events)
   clear hnow hon hwk hcs hnb hgs HF2 hrows FD HL BO HCS NOW HON
   obtain⟨⟨ev,rg,⟨n,fev,g1,g2,g3,g4,g5,g6,g7,g8,g9⟩,cv,cvs,rgb,rgd⟩,wd,dr,rr⟩:=s
   simp only at hfev hfc k10 k11 k12 hev hrg REL2 FI2 WI2 HWK HEV
   subst hfev
   subst hev
   subst hrg
   have k0:w2.cell? ⟨gc,2,none⟩=some (.slice fx n fcp):=hfc 0 _ rfl
   have k1:w2.cell? ⟨gc,3,none⟩=some (.slice (some ⟨g1,0,none⟩) n n):=hfc 1 _ rfl
   have k2:w2.cell? ⟨gc,4,none⟩=some (.slice (some ⟨g2,0,none⟩) n n):=hfc 2 _ rfl
   have k3:w2.cell? ⟨gc,5,none⟩=some (.slice (some ⟨g3,0,none⟩) n n):=hfc 3 _ rfl
   have k4:w2.cell? ⟨gc,6,none⟩=some (.slice (some ⟨g4,0,none⟩) n n):=hfc 4 _ rfl
   have k5:w2.cell? ⟨gc,7,none⟩=some (.slice (some ⟨g5,0,none⟩) n n):=hfc 5 _ rfl
   have k6:w2.cell? ⟨gc,8,none⟩=some (.slice (some ⟨g6,0,none⟩) n n):=hfc 6 _ rfl
   have k7:w2.cell? ⟨gc,9,none⟩=some (.slice (some ⟨g7,0,none⟩) n n):=hfc 7 _ rfl
   have k8:w2.cell? ⟨gc,10,none⟩=some (.slice (some ⟨g8,0,none⟩) n n):=hfc 8 _ rfl
   have k9:w2.cell? ⟨gc,11,none⟩=some (.slice (some ⟨g9,0,none⟩) n n):=hfc 9 _ rfl
   clear hfc
   have HCLN:Hid (((Q.factsOf wd.events).causes (Q.candOf (wd,dr)).reads wd).length<100000000):=Nat.lt_of_le_of_lt (Q.causes_len _ _ _) HWK.out.fo
   go_upto_region 5 with fail
   have KA:Hid ((w2.alloc (.cells #[.slice fx n fcp,.slice (some ⟨g1,0,none⟩) n n,.slice (some ⟨g2,0,none⟩) n n,.slice (some ⟨g3,0,none⟩) n n,.slice (some ⟨g4,0,none⟩) n n,.slice (some ⟨g5,0,none⟩) n n,.slice (some ⟨g6,0,none⟩) n n,.slice (some ⟨g7,0,none⟩) n n,.slice (some ⟨g8,0,none⟩) n n,.slice (some ⟨g9,0,none⟩) n n,.slice (some ⟨gr,0,none⟩) n n] 101)).heap[w2.heap.size]?=some (.cells #[.slice fx n fcp,.slice (some ⟨g1,0,none⟩) n n,.slice (some ⟨g2,0,none⟩) n n,.slice (some ⟨g3,0,none⟩) n n,.slice (some ⟨g4,0,none⟩) n n,.slice (some ⟨g5,0,none⟩) n n,.slice (some ⟨g6,0,none⟩) n n,.slice (some ⟨g7,0,none⟩) n n,.slice (some ⟨g8,0,none⟩) n n,.slice (some ⟨g9,0,none⟩) n n,.slice (some ⟨gr,0,none⟩) n n] 101 (0,0))):=heap_alloc_new w2 _
   have BV:Hid (Below w2.heap.size w2 (w2.alloc (.cells #[.slice fx n fcp,.slice (some ⟨g1,0,none⟩) n n,.slice (some ⟨g2,0,none⟩) n n,.slice (some ⟨g3,0,none⟩) n n,.slice (some ⟨g4,0,none⟩) n n,.slice (some ⟨g5,0,none⟩) n n,.slice (some ⟨g6,0,none⟩) n n,.slice (some ⟨g7,0,none⟩) n n,.slice (some ⟨g8,0,none⟩) n n,.slice (some ⟨g9,0,none⟩) n n,.slice (some ⟨gr,0,none⟩) n n] 101))):=(Below.refl _ _).alloc (Nat.le_refl _) _
   generalize w2.alloc (.cells #[.slice fx n fcp,.slice (some ⟨g1,0,none⟩) n n,.slice (some ⟨g2,0,none⟩) n n,.slice (some ⟨g3,0,none⟩) n n,.slice (some ⟨g4,0,none⟩) n n,.slice (some ⟨g5,0,none⟩) n n,.slice (some ⟨g6,0,none⟩) n n,.slice (some ⟨g7,0,none⟩) n n,.slice (some ⟨g8,0,none⟩) n n,.slice (some ⟨g9,0,none⟩) n n,.slice (some ⟨gr,0,none⟩) n n] 101)=Va at *
   have BO3:=hide (B2.out.below BV.out)
   have FI3:=hide (FI2.out.below BV.out)
   have WI3:=hide (WI2.out.below BV.out)
   have RL3:=hide (REL2.out.below BV.out)
   have lgv:=Nat.lt_of_lt_of_le l2 BV.out.size
   have lgg:=BO3.out.ans.out.lt
   have ka2:w2.heap.size<Va.heap.size:=(Array.getElem?_eq_some_iff.1 KA.out).1
   have kka:=KA.out
   have m0:=(BV.out.cell (p:=⟨gc,2,none⟩) l2).trans k0
   have m1:=(BV.out.cell (p:=⟨gc,3,none⟩) l2).trans k1
   have m2:=(BV.out.cell (p:=⟨gc,4,none⟩) l2).trans k2
   have m3:=(BV.out.cell (p:=⟨gc,5,none⟩) l2).trans k3
   have m4:=(BV.out.cell (p:=⟨gc,6,none⟩) l2).trans k4
   have m5:=(BV.out.cell (p:=⟨gc,7,none⟩) l2).trans k5
   have m6:=(BV.out.cell (p:=⟨gc,8,none⟩) l2).trans k6
   have m7:=(BV.out.cell (p:=⟨gc,9,none⟩) l2).trans k7
   have m8:=(BV.out.cell (p:=⟨gc,10,none⟩) l2).trans k8
   have m9:=(BV.out.cell (p:=⟨gc,11,none⟩) l2).trans k9
   have m10:=(BV.out.cell (p:=⟨gc,12,none⟩) l2).trans k10
   have m11:=(BV.out.cell (p:=⟨gc,0,none⟩) l2).trans k11
   have m12:=(BV.out.cell (p:=⟨gc,1,none⟩) l2).trans k12
   have x0:Va.cell? ⟨w2.heap.size,0,none⟩=some (.slice fx n fcp):=by simp[World.cell?,kka]
   have x1:Va.cell? ⟨w2.heap.size,1,none⟩=some (.slice (some ⟨g1,0,none⟩) n n):=by simp[World.cell?,kka]
   have x2:Va.cell? ⟨w2.heap.size,2,none⟩=some (.slice (some ⟨g2,0,none⟩) n n):=by simp[World.cell?,kka]
   have x3:Va.cell? ⟨w2.heap.size,3,none⟩=some (.slice (some ⟨g3,0,none⟩) n n):=by simp[World.cell?,kka]
   have x4:Va.cell? ⟨w2.heap.size,4,none⟩=some (.slice (some ⟨g4,0,none⟩) n n):=by simp[World.cell?,kka]
   have x5:Va.cell? ⟨w2.heap.size,5,none⟩=some (.slice (some ⟨g5,0,none⟩) n n):=by simp[World.cell?,kka]
   have x6:Va.cell? ⟨w2.heap.size,6,none⟩=some (.slice (some ⟨g6,0,none⟩) n n):=by simp[World.cell?,kka]
   have x7:Va.cell? ⟨w2.heap.size,7,none⟩=some (.slice (some ⟨g7,0,none⟩) n n):=by simp[World.cell?,kka]
   have x8:Va.cell? ⟨w2.heap.size,8,none⟩=some (.slice (some ⟨g8,0,none⟩) n n):=by simp[World.cell?,kka]
   have x9:Va.cell? ⟨w2.heap.size,9,none⟩=some (.slice (some ⟨g9,0,none⟩) n n):=by simp[World.cell?,kka]
   have x10:Va.cell? ⟨w2.heap.size,10,none⟩=some (.slice (some ⟨gr,0,none⟩) n n):=by simp[World.cell?,kka]
   generalize hbb:w2.heap.size=bb at *
   clear hbb kka k0 k1 k2 k3 k4 k5 k6 k7 k8 k9 k10 k11 k12
   have HTC:Hid (Q.tgtCand an (Q.candOf (wd,dr))=if ((Q.factsOf wd.events).causes (Q.candOf (wd,dr)).reads wd).isEmpty then an else Q.tgtOrders wd (Q.factsOf wd.events) (Q.candOf (wd,dr)).reads ((Q.factsOf wd.events).causes (Q.candOf (wd,dr)).reads wd) an):=rfl
   simp only[] at FDN HROWS
   generalize hCS:(Q.factsOf wd.events).causes (Q.candOf (wd,dr)).reads wd=CS at *
   have HCSE:=hide hCS
   clear hCS
   cases CS with
   | nil =>
    rw[HTC.out] at FDN HROWS
    simp only[List.isEmpty_nil,if_true] at FDN HROWS
    go_wp2_with (first
     | (go_at_call 48;refine (causes_any (FA.mk n (.slice fx n fcp) g1 g2 g3 g4 g5 g6 g7 g8 g9) (Q.factsOf wd.events) gr (Q.candOf (wd,dr)).reads _ _ wd _ FI3.out RL3.out WI3.out HEV.out HWK.out.le (by rw[HCSE.out];exact HCLN.out)).mono ?_;rw[HCSE.out];rintro e w4 ⟨cvv,gs4,rfl,hrl4,hb4⟩;have RS4:=hide hrl4;have B4:=hide hb4;obtain⟨ca4,cc4,hcv⟩:=own_form hrl4.own;subst hcv;have k4:=(hb4.block _ ka2).trans KA.out;have y0:w4.cell? ⟨bb,0,none⟩=some (.slice fx n fcp):=(by simp[World.cell?,k4]);have y1:w4.cell? ⟨bb,1,none⟩=some (.slice (some ⟨g1,0,none⟩) n n):=(by simp[World.cell?,k4]);have y2:w4.cell? ⟨bb,2,none⟩=some (.slice (some ⟨g2,0,none⟩) n n):=(by simp[World.cell?,k4]);have y3:w4.cell? ⟨bb,3,none⟩=some (.slice (some ⟨g3,0,none⟩) n n):=(by simp[World.cell?,k4]);have y4:w4.cell? ⟨bb,4,none⟩=some (.slice (some ⟨g4,0,none⟩) n n):=(by simp[World.cell?,k4]);have y5:w4.cell? ⟨bb,5,none⟩=some (.slice (some ⟨g5,0,none⟩) n n):=(by simp[World.cell?,k4]);have y6:w4.cell? ⟨bb,6,none⟩=some (.slice (some ⟨g6,0,none⟩) n n):=(by simp[World.cell?,k4]);have y7:w4.cell? ⟨bb,7,none⟩=some (.slice (some ⟨g7,0,none⟩) n n):=(by simp[World.cell?,k4]);have y8:w4.cell? ⟨bb,8,none⟩=some (.slice (some ⟨g8,0,none⟩) n n):=(by simp[World.cell?,k4]);have y9:w4.cell? ⟨bb,9,none⟩=some (.slice (some ⟨g9,0,none⟩) n n):=(by simp[World.cell?,k4]);have y10:w4.cell? ⟨bb,10,none⟩=some (.slice (some ⟨gr,0,none⟩) n n):=(by simp[World.cell?,k4]);have lb4:=Nat.lt_of_lt_of_le ka2 hb4.size;have lv4:=Nat.lt_of_lt_of_le lgv hb4.size;have v0:=(hb4.cell (p:=⟨gc,0,none⟩) lgv).trans m11;have v1:=(hb4.cell (p:=⟨gc,1,none⟩) lgv).trans m12;clear hrl4 hb4 k4))
    have hR:OutInv w gc (w.heap.size+1) A (Q.runs ts) Q.tgtCand fin w4 (Q.candsL (remS (Q.runs ts) (some ⟨⟨.slice ea wd.events.length ec,.slice ra wd.regs.length rc,(FA.mk n (.slice fx n fcp) g1 g2 g3 g4 g5 g6 g7 g8 g9),cv,cvs,rgb,rgd⟩,wd,dr,rr⟩) rest2)).length:=⟨_,_,_,_,_,_,_,BO3.out.below B4.out,FDN.out,rfl⟩
    go_roundw
    case rel=>exact⟨_,hR⟩
    case measure =>
     have h1:=(HMU.out _ ⟨_,hR⟩).2 _ hR
     have h2:=HLN.out
     omega
   | cons CS0 CS1 =>
    rw[HTC.out] at FDN HROWS
    simp only[List.isEmpty_cons,Bool.false_eq_true,if_false] at FDN HROWS
    have HROWS2:=HROWS
    have hpos:((0:Int)<((CS0::CS1).length:Int)):=by simp
    generalize hCC:CS0::CS1=CS at *
    go_wp2_with (first
     | (go_at_call 48;refine (causes_any (FA.mk n (.slice fx n fcp) g1 g2 g3 g4 g5 g6 g7 g8 g9) (Q.factsOf wd.events) gr (Q.candOf (wd,dr)).reads _ _ wd _ FI3.out RL3.out WI3.out HEV.out HWK.out.le (by rw[HCSE.out];exact HCLN.out)).mono ?_;rw[HCSE.out];rintro e w4 ⟨cvv,gs4,rfl,hrl4,hb4⟩;have RS4:=hide hrl4;have B4:=hide hb4;obtain⟨ca4,cc4,hcv⟩:=own_form hrl4.own;subst hcv;have k4:=(hb4.block _ ka2).trans KA.out;have y0:w4.cell? ⟨bb,0,none⟩=some (.slice fx n fcp):=(by simp[World.cell?,k4]);have y1:w4.cell? ⟨bb,1,none⟩=some (.slice (some ⟨g1,0,none⟩) n n):=(by simp[World.cell?,k4]);have y2:w4.cell? ⟨bb,2,none⟩=some (.slice (some ⟨g2,0,none⟩) n n):=(by simp[World.cell?,k4]);have y3:w4.cell? ⟨bb,3,none⟩=some (.slice (some ⟨g3,0,none⟩) n n):=(by simp[World.cell?,k4]);have y4:w4.cell? ⟨bb,4,none⟩=some (.slice (some ⟨g4,0,none⟩) n n):=(by simp[World.cell?,k4]);have y5:w4.cell? ⟨bb,5,none⟩=some (.slice (some ⟨g5,0,none⟩) n n):=(by simp[World.cell?,k4]);have y6:w4.cell? ⟨bb,6,none⟩=some (.slice (some ⟨g6,0,none⟩) n n):=(by simp[World.cell?,k4]);have y7:w4.cell? ⟨bb,7,none⟩=some (.slice (some ⟨g7,0,none⟩) n n):=(by simp[World.cell?,k4]);have y8:w4.cell? ⟨bb,8,none⟩=some (.slice (some ⟨g8,0,none⟩) n n):=(by simp[World.cell?,k4]);have y9:w4.cell? ⟨bb,9,none⟩=some (.slice (some ⟨g9,0,none⟩) n n):=(by simp[World.cell?,k4]);have y10:w4.cell? ⟨bb,10,none⟩=some (.slice (some ⟨gr,0,none⟩) n n):=(by simp[World.cell?,k4]);have lb4:=Nat.lt_of_lt_of_le ka2 hb4.size;have lv4:=Nat.lt_of_lt_of_le lgv hb4.size;have v0:=(hb4.cell (p:=⟨gc,0,none⟩) lgv).trans m11;have v1:=(hb4.cell (p:=⟨gc,1,none⟩) lgv).trans m12;clear hrl4 hb4 k4)
     | (go_at_call 49;refine (tgtOrders_any (w.heap.size+1) an ov vs1 fp _ _ wd (FA.mk n (.slice fx n fcp) g1 g2 g3 g4 g5 g6 g7 g8 g9) (Q.factsOf wd.events) gr (Q.candOf (wd,dr)).reads _ CS gs4 _ (BO3.out.below B4.out).ans (WI3.out.below B4.out) HWK.out (FI3.out.below B4.out) HEV.out (RL3.out.below B4.out) RS4.out HCLN.out (fun k e=>BO3.out.nb k ⟨_,rfl,Or.inl e⟩) HROWS2.out).mono ?_;rintro e w5 ⟨rfl,ov5,vs5,fp5,hA5,hF5⟩;have BO5:=hide ((BO3.out.below B4.out).grow hA5 hF5);clear hA5 hF5))
    have hR:OutInv w gc (w.heap.size+1) A (Q.runs ts) Q.tgtCand fin w5 (Q.candsL (remS (Q.runs ts) (some ⟨⟨.slice ea wd.events.length ec,.slice ra wd.regs.length rc,(FA.mk n (.slice fx n fcp) g1 g2 g3 g4 g5 g6 g7 g8 g9),cv,cvs,rgb,rgd⟩,wd,dr,rr⟩) rest2)).length:=⟨_,_,_,_,_,_,_,BO5.out,FDN.out,rfl⟩
    go_roundw
    case rel=>exact⟨_,hR⟩
    case measure =>
     have h1:=(HMU.out _ ⟨_,hR⟩).2 _ hR
     have h2:=HLN.out
     omega
namespace P
def evS:List Stm→Int
 | []=>0
 | s::r=>(if s.kind==4 then 1 else if s.kind==5 then 2 else 0)+evS r
def evT:List Thr→Int
 | []=>0
 | t::r=>evS t.stmts+evT r
end P
set_option maxHeartbeats 3200000 in
theorem events_any (B bt n cap:Nat) (ts:List P.Thr) (w:World) (h:ThreadsAt w B (.slice (some ⟨bt,0,none⟩) n cap) ts) (hn:n=ts.length) (hnb:n<10) (hst:∀ t∈ts,t.stmts.length<10000) :
  Calls Tryz.prog 47 #[.agg #[.slice (some ⟨bt,0,none⟩) n cap]] w fun e w'=>e=.returned (.bool (decide (50<P.evT ts)))∧Below w.heap.size w w':=by
 have HA:=hide h
 have HN:=hide hn
 have HS:=hide hst
 clear h hn hst
 go_enter Tryz.func47,Tryz.ntmps47
 go_wp2
 go_loopw [3,11] (fun c i wr=>∃ k:Nat,∃ m:Int,k≤n∧i=.int .i64 k∧c=.int .i64 m∧0≤m∧m≤20000*k∧Hid (P.evT ts=m+P.evT (ts.drop k))∧Below w.heap.size w wr) (fun _ i _=>n-(intOf i).toNat)
 case atStart=>exact⟨0,0,Nat.zero_le _,rfl,rfl,by omega,by omega,by unfold Hid;simp,(Below.refl _ _).alloc (Nat.le_refl _) _⟩
 case round =>
  obtain⟨k,m,hk,rfl,rfl,hm0,hm1,HB,hbel⟩:=hrel
  by_cases hlt:k<n
  ·have hkl:k<ts.length:=by rw[← HN.out];exact hlt
   obtain⟨hbt,sa,sc,c0,c1,c2,ho⟩:=thr_at HA.out HN.out k hkl
   have d0:=(hbel.cell (p:=⟨bt,k*3,none⟩) hbt).trans c0
   have d1:=(hbel.cell (p:=⟨bt,k*3+1,none⟩) hbt).trans c1
   have d2:=(hbel.cell (p:=⟨bt,k*3+2,none⟩) hbt).trans c2
   have hls:=HS.out ts[k] (List.getElem_mem hkl)
   have HD:=hide (P.drop_cons ts k hkl)
   have HO:=hide ho
   generalize hst:ts[k]=t at *
   have hsa:0<t.stmts.length→∃ b,sa=some ⟨b,0,none⟩∧b<w.heap.size:=fun h0=>by
    rcases ho.2 with ⟨e,h0'⟩ | ⟨b',c',cur,e,hb',hg',_⟩
    ·omega
    ·simp only[Value.slice.injEq] at e
     exact⟨b',e.1,(Array.getElem?_eq_some_iff.1 hg').1⟩
   clear hst c0 c1 c2 ho
   have hws:w.heap.size≤wr.heap.size:=hbel.size
   have hbel1:Below w.heap.size w (wr.alloc (.cells #[.int .i64 t.block,.int .i64 t.line,.slice sa t.stmts.length sc] 88)):=hbel.alloc hws _
   have HB1:=hide hbel1
   clear hbel1 hbel
   go_wp2
   go_loopw [3,18] (fun c j w2=>∃ q:Nat,∃ p:Int,q≤t.stmts.length∧j=.int .i64 q∧c=.int .i64 p∧m≤p∧p≤m+2*q∧Hid (m+P.evS t.stmts=p+P.evS (t.stmts.drop q))∧Below w.heap.size w w2) (fun _ j _=>t.stmts.length-(intOf j).toNat)
   case atStart=>exact⟨0,m,Nat.zero_le _,rfl,rfl,by omega,by omega,by unfold Hid;simp,HB1.out⟩
   case round =>
    obtain⟨q,p,hq,rfl,rfl,hp0,hp1,HI,hbel⟩:=hrel
    by_cases hql:q<t.stmts.length
    ·obtain⟨b,rfl,hblt⟩:=hsa (by omega)
     have hr:=hide (rangeAt_keep (range_stm HO.out rfl q hql) (hbel.block b hblt))
     have HQ:=hide (P.drop_cons t.stmts q hql)
     generalize hst:t.stmts[q]=st at hr HQ
     clear hst
     have hws2:=hbel.size
     cases h4:(st.kind==4)
     rotate_left
     ·have HI':Hid (m+P.evS t.stmts=(p+1)+P.evS (t.stmts.drop (q+1))):=by
       unfold Hid;rw[HI.out,HQ.out,P.evS];simp[h4];omega
      go_wp2_with (first | (refine wpList_load_at (.tmp 20) rfl rfl b (q*11) st rfl hr.out ?_))
      go_roundw
      case rel=>exact⟨q+1,p+1,by omega,by go_num,by go_num,by omega,by simp;omega,HI',hbel.alloc hws2 _⟩
      case measure=>simp[intOf];omega
     have h4':¬ st.kind=4:=by simpa using h4
     cases h5:(st.kind==5)
     ·have HI':Hid (m+P.evS t.stmts=p+P.evS (t.stmts.drop (q+1))):=by
       unfold Hid;rw[HI.out,HQ.out,P.evS];simp[h4',h5]
      go_wp2_with (first | (refine wpList_load_at (.tmp 20) rfl rfl b (q*11) st rfl hr.out ?_))
      go_roundw
      case rel=>exact⟨q+1,p,by omega,by go_num,by go_num,by omega,by simp;omega,HI',hbel.alloc hws2 _⟩
      case measure=>simp[intOf];omega
     ·have HI':Hid (m+P.evS t.stmts=(p+2)+P.evS (t.stmts.drop (q+1))):=by
       unfold Hid;rw[HI.out,HQ.out,P.evS];simp[h4',h5];omega
      go_wp2_with (first | (refine wpList_load_at (.tmp 20) rfl rfl b (q*11) st rfl hr.out ?_))
      go_roundw
      case rel=>exact⟨q+1,p+2,by omega,by go_num,by go_num,by omega,by simp;omega,HI',hbel.alloc hws2 _⟩
      case measure=>simp[intOf];omega
    ·have HB':Hid (P.evT ts=p+P.evT (ts.drop (k+1))):=by
      have e:m+P.evS t.stmts=p:=by rw[HI.out,List.drop_eq_nil_of_le (by omega)];simp[P.evS]
      unfold Hid;rw[HB.out,HD.out,P.evT];omega
     go_wp2
     go_roundw
     case rel=>exact⟨k+1,p,by omega,by go_num,rfl,by omega,by simp;omega,HB',hbel⟩
     case measure=>simp[intOf];omega
  ·have HB':Hid (P.evT ts=m):=by
    unfold Hid;rw[HB.out,List.drop_eq_nil_of_le (by have:=HN.out;omega)];simp[P.evT]
   go_wp2
   go_ret
   rw[HB'.out]
   exact⟨rfl,hbel⟩
end Go.Proofs.YtgceflcbckjjiaaGreatDoor
