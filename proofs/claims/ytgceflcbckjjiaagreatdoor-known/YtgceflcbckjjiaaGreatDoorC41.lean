import Derived.Test.YtgceflcbckjjiaaGreatDoorC40
set_option linter.unusedVariables false
set_option linter.unusedSimpArgs false
set_option maxHeartbeats 12800000
namespace Go.Proofs.YtgceflcbckjjiaaGreatDoor
open Go Go.RowKit
set_option maxRecDepth 100000
namespace Q
theorem tgtCand_rows (a:Ans) (c:Cand):a.rows.length≤(zOO a c).rows.length:=by
 unfold zOO;split
 ·exact Nat.le_refl _
 ·exact zOT _ (zPF _ _ _ _) _ _
theorem target_eq (ts:List P.Thr):(zOu (zCu (runs ts) none (zOi (zBO (runs ts))))).foldl zOO ⟨[],false⟩=target ts:=by rw[← cands_eq];rfl
theorem causes_len (f:Facts) (rd:List Nat) (w:Wd):(f.causes rd w).length≤(zOi (zNU w.events (zNV w.events))).length:=by
 unfold Facts.causes
 rw[List.length_map];exact List.length_filter_le _ _
end Q
theorem zEE (B bt cap:Nat) (ts:List P.Thr) (w:World) (h:zAn w B (.slice (some ⟨bt,0,none⟩) ts.length cap) ts) (hn:ts.length<20) (hok:∀ t∈ts,(∀ s∈t.stmts,Q.StOk s)∧t.stmts.length<900∧Q.codes t.stmts<100000) (hrb:∀ r∈Q.runs ts,r.length<100000000) (hrn:∀ rs∈Q.runs ts,∀ r∈rs,r.regs.length=4∧∀ e∈r.events,e.hangs<Q.M64) (hW:∀ d,Q.DigOk (zBO (Q.runs ts)) d→Q.WdOk (Q.zNX (Q.runs ts) d)) (hfin:(Q.target ts).rows.length<100000000) :
  Calls Tryz.prog 29 #[.agg #[.slice (some ⟨bt,0,none⟩) ts.length cap]] w fun e w'=>∃ ov vs,e=.returned (.tuple #[ov,.bool (Q.target ts).clash])∧RowsI w' 0 ov (Q.target ts).rows vs∧Below w.heap.size w w':=by
 obtain⟨k0,k1,hsz,hbw⟩:=zBN w #[.slice (some ⟨bt,0,none⟩) ts.length cap] #[.slice none 0 0,.bool false] 48 99
 have HT:=zAa (h.keep fun k hk=>hbw.block k hk)
 have HOK:=zAa hok
 have HRB:=zAa hrb
 have HRN:=zAa hrn
 have HW:=zAa hW
 have HFIN:=zAa hfin
 have BW0:=zAa hbw
 have HEQ:=zAa (Q.target_eq ts)
 have hrl:(Q.runs ts).length<20:=by rw[Q.zPD];exact hn
 generalize Q.target ts=fin at *
 clear hbw h hok hrb hrn hW hfin
 go_enter Tryz.func29,Tryz.ntmps29
 go_upto_region 2 with fail
 generalize hE:(w.alloc (.cells #[.slice (some ⟨bt,0,none⟩) ts.length cap] 48)).alloc (.cells #[.slice none 0 0,.bool false] 99)=W0 at *
 have c00:=ceL k0 0 _ rfl
 have l0:w.heap.size<W0.heap.size:=by omega
 have l1:w.heap.size+1<W0.heap.size:=by omega
 have K1:=zAa k1
 clear hE k0 k1 hsz
 go_upto_region 3 with (first
  | (go_at_call 34;refine (zCS B bt cap ts _ HT.out hn HOK.out).mono ?_;rintro e w1 ⟨rv,vs,wss,gb,gd,rfl,⟨xa,xn,xc,hrv⟩,hra,hib,hid,hgb,hgd,hne,hb1⟩;obtain⟨ya,yc,hrv2⟩:=zCQ hra.own;rw[hrv] at hrv2;simp only[Value.slice.injEq] at hrv2;obtain⟨-,hxn, -⟩:=hrv2;subst hxn;subst hrv;have RA1:=zAa hra;have IB1:=zAa hib;have ID1:=zAa hid;have B1:=zAa hb1;have KB:Hid ((w1.alloc (.cells #[.slice none 0 0,.slice none 0 0,.slice none 0 0,.slice none 0 0,.slice none 0 0,.slice none 0 0,.slice none 0 0,.slice none 0 0,.slice none 0 0,.slice none 0 0,.slice none 0 0,.slice none 0 0,.slice none 0 0,.slice none 0 0,.slice none 0 0,.slice none 0 0,.bool false,.slice none 0 0,.slice none 0 0,.slice none 0 0,.bool false,.bool false] 79)).heap[w1.heap.size]?=some (.cells #[.slice none 0 0,.slice none 0 0,.slice none 0 0,.slice none 0 0,.slice none 0 0,.slice none 0 0,.slice none 0 0,.slice none 0 0,.slice none 0 0,.slice none 0 0,.slice none 0 0,.slice none 0 0,.slice none 0 0,.slice none 0 0,.slice none 0 0,.slice none 0 0,.bool false,.slice none 0 0,.slice none 0 0,.slice none 0 0,.bool false,.bool false] 79 (0,0))):=heap_alloc_new w1 _;have BA:Hid (Below w1.heap.size w1 (w1.alloc (.cells #[.slice none 0 0,.slice none 0 0,.slice none 0 0,.slice none 0 0,.slice none 0 0,.slice none 0 0,.slice none 0 0,.slice none 0 0,.slice none 0 0,.slice none 0 0,.slice none 0 0,.slice none 0 0,.slice none 0 0,.slice none 0 0,.slice none 0 0,.slice none 0 0,.bool false,.slice none 0 0,.slice none 0 0,.slice none 0 0,.bool false,.bool false] 79))):=(Below.refl _ _).alloc (Nat.le_refl _) _;clear hra hib hid hb1)
  | (refine wpList_store_mid rfl 79 (.tmp 5) (.tmp 9) rfl w1.heap.size 0 (zBY (.slice xa (Q.runs ts).length xc) (.slice (some ⟨gb,0,none⟩) (Q.runs ts).length (Q.runs ts).length) (.slice (some ⟨gd,0,none⟩) (Q.runs ts).length (Q.runs ts).length) (.bool false)) rfl rfl (zCh KB.out (by simp[zBY])) (by kernel_rfl) (by simp[zBY,Value.oneCell']) ?_;have SW:=zAa (zBG (zBY (.slice xa (Q.runs ts).length xc) (.slice (some ⟨gb,0,none⟩) (Q.runs ts).length (Q.runs ts).length) (.slice (some ⟨gd,0,none⟩) (Q.runs ts).length (Q.runs ts).length) (.bool false)).toList KB.out (by simp[zBY]));generalize (w1.alloc (.cells #[.slice none 0 0,.slice none 0 0,.slice none 0 0,.slice none 0 0,.slice none 0 0,.slice none 0 0,.slice none 0 0,.slice none 0 0,.slice none 0 0,.slice none 0 0,.slice none 0 0,.slice none 0 0,.slice none 0 0,.slice none 0 0,.slice none 0 0,.slice none 0 0,.bool false,.slice none 0 0,.slice none 0 0,.slice none 0 0,.bool false,.bool false] 79)).setCells w1.heap.size 0 (zBY (.slice xa (Q.runs ts).length xc) (.slice (some ⟨gb,0,none⟩) (Q.runs ts).length (Q.runs ts).length) (.slice (some ⟨gd,0,none⟩) (Q.runs ts).length (Q.runs ts).length) (.bool false)).toList=W1 at *))
 obtain⟨s0,s1,s2⟩:=SW.out
 have BL:=zAa (s2 w1 w1.heap.size (Nat.le_refl _) BA.out)
 have S0:=zAa s0
 have hs1:=B1.out.size
 have hs2:=BL.out.size
 have KG:=zAa ((BL.out.block _ (by omega)).trans ((B1.out.block _ l1).trans K1.out))
 have BWW:Hid (Below w.heap.size w W1):=zAm (zAm BW0.out (Nat.le_refl _) B1.out) (Nat.le_refl _) BL.out
 have INI:Hid (zDC w w1.heap.size (w.heap.size+1) ⟨.slice xa (Q.runs ts).length xc,vs,wss,gb,gd⟩ (Q.runs ts) Q.zOO fin W1 (Q.zOu (zCu (Q.runs ts) none (Q.zOi (zBO (Q.runs ts))))).length):=⟨none,_,_,_,_,_,_,zFd (t:=99) RA1.out IB1.out ID1.out hne (by simpa using S0.out) BL.out KG.out (Or.inr rfl) (by omega) (by omega) (by omega) BWW.out,HEQ.out,rfl⟩
 generalize (⟨.slice xa (Q.runs ts).length xc,vs,wss,gb,gd⟩:WA)=A at *
 clear s0 s1 s2 SW BL S0 KG BWW RA1 IB1 ID1 B1 KB BA HT K1 BW0 HEQ c00 hs1 hs2 HOK
 generalize w1.heap.size=gc at *
 obtain⟨μ,hμ⟩:=zCE (zDC w gc (w.heap.size+1) A (Q.runs ts) Q.zOO fin)
 have HMU:=zAa hμ
 clear hμ
 simp only[Act.put]
 go_loopw [] (fun wr=>∃ m,Hid (zDC w gc (w.heap.size+1) A (Q.runs ts) Q.zOO fin wr m)) (fun wr=>μ wr)
 case atStart=>exact⟨_,INI⟩
 case round =>
  obtain⟨hI,hmin⟩:=HMU.out wr (by obtain⟨n,h⟩:=hrel;exact⟨n,h.out⟩)
  clear hrel hmin INI
  obtain⟨st,ds,rest,an,ov,vs1,fp,hB,hFD,hlen⟩:=hI
  have BO:=zAa hB
  have FD:=zAa hFD
  have HL:=zAa hlen
  have lgc:=hB.cand.box.lt
  clear hB hFD hlen
  go_upto_region 4 with (first | (go_at_call 35;refine (zDS gc A _ st ds rest _ BO.out.cand hrl HRB.out HRN.out HW.out).mono ?_;rintro e w2 ⟨b,rfl,hF,h1⟩;have HF2:=zAa hF;clear hF;rcases h1 with ⟨rfl,hcs⟩ | ⟨rfl,s,ds2,rest2,gr,hnow,hcs,hnb,hgs⟩))
  ·obtain⟨hA2,hbl2⟩:=BO.out.frame HF2.out
   have HA2:=zAa hA2
   have HBL2:=zAa hbl2
   have hfa:an=fin:=by
    have h3:=FD.out
    rw[hcs] at h3
    exact h3
   subst hfa
   have c0:=hA2.out.cell
   have c1:=hA2.clash
   have lg2:=hA2.out.lt
   obtain⟨oa,oc,hov,_⟩:=hA2.out.rows.form
   subst hov
   clear hA2 hbl2 hcs
   go_upto_region 8 with fail
   go_region_held3 (fun w'=>w'.cell? ⟨w.heap.size+1,1,none⟩=some (.bool an.clash)∧w'.cell? ⟨w.heap.size+1,0,none⟩=some (.slice oa an.rows.length oc)) (first | exact⟨c1,c0⟩) (first
    | (go_at_call 38;refine (zHz (w.heap.size+1) (.slice oa an.rows.length oc) _ (by exact c0) (by exact lg2) ⟨_,_,_,rfl⟩).mono ?_;rintro e w3 ⟨rfl,rfl⟩))
   all_goals
    (try go_wp2)
    go_ret2
    exact⟨_,vs1,rfl,HA2.out.out.rows.below (Below.refl _ _).drew,HBL2.out.drew⟩
  ·have B2:=zAa (BO.out.next HF2.out hnow.on hnb hgs)
   have HCS:=zAa hcs
   have NOW:=zAa hnow
   obtain⟨hon,hwk⟩:=hnow.on.rs s rfl
   have HON:=zAa hon
   have HWK:=zAa hwk
   have l2:=hnow.on.box.lt
   have hfc:=hon.fc
   have k10:=hnow.c12
   have k11:=hon.c0
   have k12:=hon.c1
   have REL2:=zAa hnow.rel
   obtain⟨fx,fcp,hfev,_⟩:=hon.fin.form
   obtain⟨ea,ec,hev,_⟩:=hon.wdi.evs.form
   obtain⟨ra,rc,hrg,_⟩:=hon.wdi.regs.form
   have FI2:=zAa hon.fin
   have WI2:=zAa hon.wdi
   have FDN:Hid ((Q.zOu (zCu (Q.runs ts) (some s) rest2)).foldl Q.zOO (Q.zOO an (Q.zOx (s.wd,s.ds)))=fin):=by
    have h3:=FD.out
    rw[hcs,List.foldl_cons] at h3
    exact h3
   have HLN:Hid ((Q.zOu (zCu (Q.runs ts) (some s) rest2)).length+1=μ wr):=by
    have h3:=HL.out
    rw[hcs,List.length_cons] at h3
    exact h3
   have hrows:(Q.zOO an (Q.zOx (s.wd,s.ds))).rows.length<100000000:=by
    have h3:=Q.zOT _ Q.tgtCand_rows (Q.zOu (zCu (Q.runs ts) (some s) rest2)) (Q.zOO an (Q.zOx (s.wd,s.ds)))
    have h4:=HFIN.out
    rw[FDN.out] at h3
    omega
   have HROWS:=zAa hrows
   have HEV:=zAa (Q.zPt s.wd.events)
   clear hnow hon hwk hcs hnb hgs HF2 hrows FD HL BO HCS NOW HON
   obtain⟨⟨ev,rg,⟨n,fev,g1,g2,g3,g4,g5,g6,g7,g8,g9⟩,cv,cvs,rgb,rgd⟩,wd,dr,rr⟩:=s
   simp only at hfev hfc k10 k11 k12 hev hrg REL2 FI2 WI2 HWK HEV
   subst hfev
   subst hev
   subst hrg
   have k0:w2.cell? ⟨gc,2,none⟩=some (.slice fx n fcp):=hfc 0 _ rfl
   have k1:w2.cell? ⟨gc,3,none⟩=some (.slice (some ⟨g1,0,none⟩) n n):=hfc 1 _ rfl
   have k2:w2.cell? ⟨gc,4,none⟩=some (.slice (some ⟨g2,0,none⟩) n n):=hfc 2 _ rfl
   have k3:w2.cell? ⟨gc,5,none⟩=some (.slice (some ⟨g3,0,none⟩) n n):=hfc 3 _ rfl
   have k4:w2.cell? ⟨gc,6,none⟩=some (.slice (some ⟨g4,0,none⟩) n n):=hfc 4 _ rfl
   have k5:w2.cell? ⟨gc,7,none⟩=some (.slice (some ⟨g5,0,none⟩) n n):=hfc 5 _ rfl
   have k6:w2.cell? ⟨gc,8,none⟩=some (.slice (some ⟨g6,0,none⟩) n n):=hfc 6 _ rfl
   have k7:w2.cell? ⟨gc,9,none⟩=some (.slice (some ⟨g7,0,none⟩) n n):=hfc 7 _ rfl
   have k8:w2.cell? ⟨gc,10,none⟩=some (.slice (some ⟨g8,0,none⟩) n n):=hfc 8 _ rfl
   have k9:w2.cell? ⟨gc,11,none⟩=some (.slice (some ⟨g9,0,none⟩) n n):=hfc 9 _ rfl
   clear hfc
   have HCLN:Hid (((Q.zOp wd.events).causes (Q.zOx (wd,dr)).reads wd).length<100000000):=Nat.lt_of_le_of_lt (Q.causes_len _ _ _) HWK.out.fo
   go_upto_region 5 with fail
   have KA:Hid ((w2.alloc (.cells #[.slice fx n fcp,.slice (some ⟨g1,0,none⟩) n n,.slice (some ⟨g2,0,none⟩) n n,.slice (some ⟨g3,0,none⟩) n n,.slice (some ⟨g4,0,none⟩) n n,.slice (some ⟨g5,0,none⟩) n n,.slice (some ⟨g6,0,none⟩) n n,.slice (some ⟨g7,0,none⟩) n n,.slice (some ⟨g8,0,none⟩) n n,.slice (some ⟨g9,0,none⟩) n n,.slice (some ⟨gr,0,none⟩) n n] 101)).heap[w2.heap.size]?=some (.cells #[.slice fx n fcp,.slice (some ⟨g1,0,none⟩) n n,.slice (some ⟨g2,0,none⟩) n n,.slice (some ⟨g3,0,none⟩) n n,.slice (some ⟨g4,0,none⟩) n n,.slice (some ⟨g5,0,none⟩) n n,.slice (some ⟨g6,0,none⟩) n n,.slice (some ⟨g7,0,none⟩) n n,.slice (some ⟨g8,0,none⟩) n n,.slice (some ⟨g9,0,none⟩) n n,.slice (some ⟨gr,0,none⟩) n n] 101 (0,0))):=heap_alloc_new w2 _
   have BV:Hid (Below w2.heap.size w2 (w2.alloc (.cells #[.slice fx n fcp,.slice (some ⟨g1,0,none⟩) n n,.slice (some ⟨g2,0,none⟩) n n,.slice (some ⟨g3,0,none⟩) n n,.slice (some ⟨g4,0,none⟩) n n,.slice (some ⟨g5,0,none⟩) n n,.slice (some ⟨g6,0,none⟩) n n,.slice (some ⟨g7,0,none⟩) n n,.slice (some ⟨g8,0,none⟩) n n,.slice (some ⟨g9,0,none⟩) n n,.slice (some ⟨gr,0,none⟩) n n] 101))):=(Below.refl _ _).alloc (Nat.le_refl _) _
   generalize w2.alloc (.cells #[.slice fx n fcp,.slice (some ⟨g1,0,none⟩) n n,.slice (some ⟨g2,0,none⟩) n n,.slice (some ⟨g3,0,none⟩) n n,.slice (some ⟨g4,0,none⟩) n n,.slice (some ⟨g5,0,none⟩) n n,.slice (some ⟨g6,0,none⟩) n n,.slice (some ⟨g7,0,none⟩) n n,.slice (some ⟨g8,0,none⟩) n n,.slice (some ⟨g9,0,none⟩) n n,.slice (some ⟨gr,0,none⟩) n n] 101)=Va at *
   have BO3:=zAa (B2.out.below BV.out)
   have FI3:=zAa (FI2.out.below BV.out)
   have WI3:=zAa (WI2.out.below BV.out)
   have RL3:=zAa (REL2.out.below BV.out)
   have lgv:=Nat.lt_of_lt_of_le l2 BV.out.size
   have lgg:=BO3.out.ans.out.lt
   have ka2:w2.heap.size<Va.heap.size:=(Array.getElem?_eq_some_iff.1 KA.out).1
   have kka:=KA.out
   have m0:=cfL BV.out l2 k0
   have m1:=cfL BV.out l2 k1
   have m2:=cfL BV.out l2 k2
   have m3:=cfL BV.out l2 k3
   have m4:=cfL BV.out l2 k4
   have m5:=cfL BV.out l2 k5
   have m6:=cfL BV.out l2 k6
   have m7:=cfL BV.out l2 k7
   have m8:=cfL BV.out l2 k8
   have m9:=cfL BV.out l2 k9
   have m10:=cfL BV.out l2 k10
   have m11:=cfL BV.out l2 k11
   have m12:=cfL BV.out l2 k12
   have x0:=ceL kka 0 _ rfl
   have x1:=ceL kka 1 _ rfl
   have x2:=ceL kka 2 _ rfl
   have x3:=ceL kka 3 _ rfl
   have x4:=ceL kka 4 _ rfl
   have x5:=ceL kka 5 _ rfl
   have x6:=ceL kka 6 _ rfl
   have x7:=ceL kka 7 _ rfl
   have x8:=ceL kka 8 _ rfl
   have x9:=ceL kka 9 _ rfl
   have x10:=ceL kka 10 _ rfl
   generalize hbb:w2.heap.size=bb at *
   clear hbb kka k0 k1 k2 k3 k4 k5 k6 k7 k8 k9 k10 k11 k12
   have HTC:Hid (Q.zOO an (Q.zOx (wd,dr))=if ((Q.zOp wd.events).causes (Q.zOx (wd,dr)).reads wd).isEmpty then an else Q.zPj wd (Q.zOp wd.events) (Q.zOx (wd,dr)).reads ((Q.zOp wd.events).causes (Q.zOx (wd,dr)).reads wd) an):=rfl
   simp only[] at FDN HROWS
   generalize hCS:(Q.zOp wd.events).causes (Q.zOx (wd,dr)).reads wd=CS at *
   have HCSE:=zAa hCS
   clear hCS
   cases CS with
   | nil =>
    rw[HTC.out] at FDN HROWS
    simp only[List.isEmpty_nil,if_true] at FDN HROWS
    go_wp2_with (first
     | (go_at_call 48;refine (zFf (FA.mk n (.slice fx n fcp) g1 g2 g3 g4 g5 g6 g7 g8 g9) (Q.zOp wd.events) gr (Q.zOx (wd,dr)).reads _ _ wd _ FI3.out RL3.out WI3.out HEV.out HWK.out.le (by rw[HCSE.out];exact HCLN.out)).mono ?_;rw[HCSE.out];rintro e w4 ⟨cvv,gs4,rfl,hrl4,hb4⟩;have RS4:=zAa hrl4;have B4:=zAa hb4;obtain⟨ca4,cc4,hcv⟩:=zCQ hrl4.own;subst hcv;have k4:=(hb4.block _ ka2).trans KA.out;have y0:=ceL k4 0 _ rfl;have y1:=ceL k4 1 _ rfl;have y2:=ceL k4 2 _ rfl;have y3:=ceL k4 3 _ rfl;have y4:=ceL k4 4 _ rfl;have y5:=ceL k4 5 _ rfl;have y6:=ceL k4 6 _ rfl;have y7:=ceL k4 7 _ rfl;have y8:=ceL k4 8 _ rfl;have y9:=ceL k4 9 _ rfl;have y10:=ceL k4 10 _ rfl;have lb4:=Nat.lt_of_lt_of_le ka2 hb4.size;have lv4:=Nat.lt_of_lt_of_le lgv hb4.size;have v0:=cfL hb4 lgv m11;have v1:=cfL hb4 lgv m12;clear hrl4 hb4 k4))
    have hR:zDC w gc (w.heap.size+1) A (Q.runs ts) Q.zOO fin w4 (Q.zOu (zCu (Q.runs ts) (some ⟨⟨.slice ea wd.events.length ec,.slice ra wd.regs.length rc,(FA.mk n (.slice fx n fcp) g1 g2 g3 g4 g5 g6 g7 g8 g9),cv,cvs,rgb,rgd⟩,wd,dr,rr⟩) rest2)).length:=⟨_,_,_,_,_,_,_,BO3.out.below B4.out,FDN.out,rfl⟩
    go_roundw
    case rel=>exact⟨_,hR⟩
    case measure =>
     have h1:=(HMU.out _ ⟨_,hR⟩).2 _ hR
     have h2:=HLN.out
     omega
   | cons CS0 CS1 =>
    rw[HTC.out] at FDN HROWS
    simp only[List.isEmpty_cons,Bool.false_eq_true,if_false] at FDN HROWS
    have HROWS2:=HROWS
    have hpos:((0:Int)<((CS0::CS1).length:Int)):=by simp
    generalize hCC:CS0::CS1=CS at *
    go_wp2_with (first
     | (go_at_call 48;refine (zFf (FA.mk n (.slice fx n fcp) g1 g2 g3 g4 g5 g6 g7 g8 g9) (Q.zOp wd.events) gr (Q.zOx (wd,dr)).reads _ _ wd _ FI3.out RL3.out WI3.out HEV.out HWK.out.le (by rw[HCSE.out];exact HCLN.out)).mono ?_;rw[HCSE.out];rintro e w4 ⟨cvv,gs4,rfl,hrl4,hb4⟩;have RS4:=zAa hrl4;have B4:=zAa hb4;obtain⟨ca4,cc4,hcv⟩:=zCQ hrl4.own;subst hcv;have k4:=(hb4.block _ ka2).trans KA.out;have y0:=ceL k4 0 _ rfl;have y1:=ceL k4 1 _ rfl;have y2:=ceL k4 2 _ rfl;have y3:=ceL k4 3 _ rfl;have y4:=ceL k4 4 _ rfl;have y5:=ceL k4 5 _ rfl;have y6:=ceL k4 6 _ rfl;have y7:=ceL k4 7 _ rfl;have y8:=ceL k4 8 _ rfl;have y9:=ceL k4 9 _ rfl;have y10:=ceL k4 10 _ rfl;have lb4:=Nat.lt_of_lt_of_le ka2 hb4.size;have lv4:=Nat.lt_of_lt_of_le lgv hb4.size;have v0:=cfL hb4 lgv m11;have v1:=cfL hb4 lgv m12;clear hrl4 hb4 k4)
     | (go_at_call 49;refine (zFB (w.heap.size+1) an ov vs1 fp _ _ wd (FA.mk n (.slice fx n fcp) g1 g2 g3 g4 g5 g6 g7 g8 g9) (Q.zOp wd.events) gr (Q.zOx (wd,dr)).reads _ CS gs4 _ (BO3.out.below B4.out).ans (WI3.out.below B4.out) HWK.out (FI3.out.below B4.out) HEV.out (RL3.out.below B4.out) RS4.out HCLN.out (fun k e=>BO3.out.nb k ⟨_,rfl,Or.inl e⟩) HROWS2.out).mono ?_;rintro e w5 ⟨rfl,ov5,vs5,fp5,hA5,hF5⟩;have BO5:=zAa ((BO3.out.below B4.out).grow hA5 hF5);clear hA5 hF5))
    have hR:zDC w gc (w.heap.size+1) A (Q.runs ts) Q.zOO fin w5 (Q.zOu (zCu (Q.runs ts) (some ⟨⟨.slice ea wd.events.length ec,.slice ra wd.regs.length rc,(FA.mk n (.slice fx n fcp) g1 g2 g3 g4 g5 g6 g7 g8 g9),cv,cvs,rgb,rgd⟩,wd,dr,rr⟩) rest2)).length:=⟨_,_,_,_,_,_,_,BO5.out,FDN.out,rfl⟩
    go_roundw
    case rel=>exact⟨_,hR⟩
    case measure =>
     have h1:=(HMU.out _ ⟨_,hR⟩).2 _ hR
     have h2:=HLN.out
     omega
namespace P
def evS:List Stm→Int
 | []=>0
 | s::r=>(if s.kind==4 then 1 else if s.kind==5 then 2 else 0)+evS r
def evT:List Thr→Int
 | []=>0
 | t::r=>evS t.stmts+evT r
end P
theorem zFg (B bt n cap:Nat) (ts:List P.Thr) (w:World) (h:zAn w B (.slice (some ⟨bt,0,none⟩) n cap) ts) (hn:n=ts.length) (hnb:n<10) (hst:∀ t∈ts,t.stmts.length<10000) :
  Calls Tryz.prog 47 #[.agg #[.slice (some ⟨bt,0,none⟩) n cap]] w fun e w'=>e=.returned (.bool (decide (50<P.evT ts)))∧Below w.heap.size w w':=by
 have HA:=zAa h
 have HN:=zAa hn
 have HS:=zAa hst
 clear h hn hst
 go_enter Tryz.func47,Tryz.ntmps47
 go_wp2
 go_loopw [3,11] (fun c i wr=>∃ k:Nat,∃ m:Int,k≤n∧i=.int .i64 k∧c=.int .i64 m∧0≤m∧m≤20000*k∧Hid (P.evT ts=m+P.evT (ts.drop k))∧Below w.heap.size w wr) (fun _ i _=>n-(intOf i).toNat)
 case atStart=>exact⟨0,0,Nat.zero_le _,rfl,rfl,by omega,by omega,by unfold Hid;simp,(Below.refl _ _).alloc (Nat.le_refl _) _⟩
 case round =>
  obtain⟨k,m,hk,rfl,rfl,hm0,hm1,HB,hbel⟩:=hrel
  by_cases hlt:k<n
  ·have hkl:k<ts.length:=by rw[← HN.out];exact hlt
   obtain⟨hbt,sa,sc,c0,c1,c2,ho⟩:=zCp HA.out HN.out k hkl
   have d0:=cfL hbel hbt c0
   have d1:=cfL hbel hbt c1
   have d2:=cfL hbel hbt c2
   have hls:=HS.out ts[k] (List.getElem_mem hkl)
   have HD:=zAa (P.zOq ts k hkl)
   have HO:=zAa ho
   generalize hst:ts[k]=t at *
   have hsa:0<t.stmts.length→∃ b,sa=some ⟨b,0,none⟩∧b<w.heap.size:=fun h0=>by
    rcases ho.2 with ⟨e,h0'⟩ | ⟨b',c',cur,e,hb',hg',_⟩
    ·omega
    ·simp only[Value.slice.injEq] at e
     exact⟨b',e.1,(Array.getElem?_eq_some_iff.1 hg').1⟩
   clear hst c0 c1 c2 ho
   have hws:w.heap.size≤wr.heap.size:=hbel.size
   have hbel1:Below w.heap.size w (wr.alloc (.cells #[.int .i64 t.block,.int .i64 t.line,.slice sa t.stmts.length sc] 88)):=hbel.alloc hws _
   have HB1:=zAa hbel1
   clear hbel1 hbel
   go_wp2
   go_loopw [3,18] (fun c j w2=>∃ q:Nat,∃ p:Int,q≤t.stmts.length∧j=.int .i64 q∧c=.int .i64 p∧m≤p∧p≤m+2*q∧Hid (m+P.evS t.stmts=p+P.evS (t.stmts.drop q))∧Below w.heap.size w w2) (fun _ j _=>t.stmts.length-(intOf j).toNat)
   case atStart=>exact⟨0,m,Nat.zero_le _,rfl,rfl,by omega,by omega,by unfold Hid;simp,HB1.out⟩
   case round =>
    obtain⟨q,p,hq,rfl,rfl,hp0,hp1,HI,hbel⟩:=hrel
    by_cases hql:q<t.stmts.length
    ·obtain⟨b,rfl,hblt⟩:=hsa (by omega)
     have hr:=zAa (zAy (zBd HO.out rfl q hql) (hbel.block b hblt))
     have HQ:=zAa (P.zOq t.stmts q hql)
     generalize hst:t.stmts[q]=st at hr HQ
     clear hst
     have hws2:=hbel.size
     cases h4:(st.kind==4)
     rotate_left
     ·have HI':Hid (m+P.evS t.stmts=(p+1)+P.evS (t.stmts.drop (q+1))):=by
       unfold Hid;rw[HI.out,HQ.out,P.evS];simp[h4];omega
      go_wp2_with (first | (refine zAj (.tmp 20) rfl rfl b (q*11) st rfl hr.out ?_))
      go_roundw
      case rel=>exact⟨q+1,p+1,by omega,by go_num,by go_num,by omega,by simp;omega,HI',hbel.alloc hws2 _⟩
      case measure=>simp[intOf];omega
     have h4':¬ st.kind=4:=by simpa using h4
     cases h5:(st.kind==5)
     ·have HI':Hid (m+P.evS t.stmts=p+P.evS (t.stmts.drop (q+1))):=by
       unfold Hid;rw[HI.out,HQ.out,P.evS];simp[h4',h5]
      go_wp2_with (first | (refine zAj (.tmp 20) rfl rfl b (q*11) st rfl hr.out ?_))
      go_roundw
      case rel=>exact⟨q+1,p,by omega,by go_num,by go_num,by omega,by simp;omega,HI',hbel.alloc hws2 _⟩
      case measure=>simp[intOf];omega
     ·have HI':Hid (m+P.evS t.stmts=(p+2)+P.evS (t.stmts.drop (q+1))):=by
       unfold Hid;rw[HI.out,HQ.out,P.evS];simp[h4',h5];omega
      go_wp2_with (first | (refine zAj (.tmp 20) rfl rfl b (q*11) st rfl hr.out ?_))
      go_roundw
      case rel=>exact⟨q+1,p+2,by omega,by go_num,by go_num,by omega,by simp;omega,HI',hbel.alloc hws2 _⟩
      case measure=>simp[intOf];omega
    ·have HB':Hid (P.evT ts=p+P.evT (ts.drop (k+1))):=by
      have e:m+P.evS t.stmts=p:=by rw[HI.out,List.drop_eq_nil_of_le (by omega)];simp[P.evS]
      unfold Hid;rw[HB.out,HD.out,P.evT];omega
     go_wp2
     go_roundw
     case rel=>exact⟨k+1,p,by omega,by go_num,rfl,by omega,by simp;omega,HB',hbel⟩
     case measure=>simp[intOf];omega
  ·have HB':Hid (P.evT ts=m):=by
    unfold Hid;rw[HB.out,List.drop_eq_nil_of_le (by have:=HN.out;omega)];simp[P.evT]
   go_wp2
   go_ret
   rw[HB'.out]
   exact⟨rfl,hbel⟩
end Go.Proofs.YtgceflcbckjjiaaGreatDoor
namespace Go.Proofs.YtgceflcbckjjiaaGreatDoor
namespace P
def zQc (a b:UInt8):List UInt8→List (List UInt8)
 | []=>[[]]
 | [x]=>[[x]]
 | x::y::r=>if x=a∧y=b then []::zQc a b r else match zQc a b (y::r) with
  | h::t=>(x::h)::t
  | []=>[[x]]
def preH (c:List UInt8):List (List UInt8)→List (List UInt8)
 | h::t=>(c++h)::t
 | []=>[c]
theorem zQd (a b:UInt8):∀ l:List UInt8,zQc a b l≠[]
 | []=>by simp[zQc]
 | [x]=>by simp[zQc]
 | x::y::r=>by
  unfold zQc
  split
  ·simp
  ·split<;>simp
theorem splitW_hit (a b:UInt8) (r:List UInt8):zQc a b (a::b::r)=[]::zQc a b r:=by simp[zQc]
theorem splitW_miss (a b x:UInt8) (q:List UInt8) (h:¬ (x=a∧q.head?=some b)):zQc a b (x::q)=preH [x] (zQc a b q):=by
 cases q with
 | nil=>simp[zQc,preH]
 | cons y r =>
  have h':¬ (x=a∧y=b):=fun e=>h ⟨e.1,by simp[e.2]⟩
  rw[zQc,if_neg h']
  cases hs:zQc a b (y::r) with
  | nil=>exact absurd hs (zQd _ _ _)
  | cons p t=>rfl
theorem preH_preH (c d:List UInt8) (l:List (List UInt8)) (h:l≠[]):preH c (preH d l)=preH (c++d) l:=by
 cases l with
 | nil=>exact absurd rfl h
 | cons p t=>simp[preH]
theorem zQK (l:List (List UInt8)) (h:l≠[]):preH [] l=l:=by
 cases l with
 | nil=>exact absurd rfl h
 | cons p t=>simp[preH]
theorem splitW_short (a b:UInt8) (l:List UInt8) (h:l.length≤1):zQc a b l=[l]:=by
 match l,h with
 | [],_=>rfl
 | [x],_=>rfl
theorem splitW_le (a b:UInt8):∀ (l:List UInt8),(zQc a b l).length≤l.length+1
 | []=>by simp[zQc]
 | [x]=>by simp[zQc]
 | x::y::r=>by
  unfold zQc
  have h1:=splitW_le a b r
  have h2:=splitW_le a b (y::r)
  split
  ·simp;omega
  ·split
   ·rename_i e;rw[e] at h2;simp at h2 ⊢;omega
   ·simp
def cutA (l:List UInt8):List UInt8 × List (List UInt8) :=
 (l.takeWhile (fun c=>c != 32),if l.any (fun c=>c==32) then zQc 44 32 ((l.dropWhile (fun c=>c != 32)).drop 1) else [])
def zOz (w:List UInt8):Int × Bool:=if w=regT 0 then (0,true) else if w=regT 1 then (1,true) else if w=regT 2 then (2,true) else if w=regT 3 then (3,true) else (0,false)
def zOR (w:List UInt8):Int × Bool:=if w=celT 0 then (0,true) else if w=celT 1 then (1,true) else if w=celT 2 then (2,true) else (0,false)
def zOs (w:List UInt8):Opd × Bool :=
 if w=dec 0 then (⟨false,0⟩,true) else if w=dec 1 then (⟨false,1⟩,true) else if w=dec 2 then (⟨false,2⟩,true) else if w=dec 3 then (⟨false,3⟩,true) else (⟨true,(zOz w).1⟩,(zOz w).2)
def ordGo (kind:Int) (w:List UInt8):Nat→Nat→Option (Int × Int)
 | 0,_=>none
 | f+1,k=>if zQe kind ((k / 2:Nat):Int)&&w==sufO ((k / 2:Nat):Int) ((k % 2:Nat):Int) then some (((k / 2:Nat):Int),((k % 2:Nat):Int)) else ordGo kind w f (k+1)
def zOt (st:Stm) (w:List UInt8):Stm × Bool :=
 if isOrd st.kind then match ordGo st.kind w 12 0 with
  | some (o,s)=>({ st with order:=o,scope:=s },true)
  | none=>(st,false)
 else (st,w==[])
def partR (st:Stm) (c:UInt8) (w:List UInt8):Stm × Bool :=
 if c=100 then ({ st with dest:=(zOz w).1 },(zOz w).2)
 else if c=118 then ({ st with var:=(zOR w).1 },(zOR w).2)
 else if c=97 then ({ st with a:=(zOs w).1 },(zOs w).2)
 else if c=98 then ({ st with b:=(zOs w).1 },(zOs w).2)
 else (st,w==labT st.label)
def zPQ (st:Stm):List UInt8→List (List UInt8)→Stm × Bool
 | c::cs,w::ws=>if (partR st c w).2 then zPQ (partR st c w).1 cs ws else (Stm.zero,false)
 | _,_=>(st,true)
def zOv (st:Stm) (cs:List UInt8) (ws:List (List UInt8)):Stm × Bool :=
 if cs.length != ws.length then (Stm.zero,false) else zPQ st cs ws
def stmGo (first:List UInt8) (ops:List (List UInt8)) (next:Int):Nat→Int→Stm × Bool
 | 0,_=>(Stm.zero,false)
 | f+1,k =>
  if (layT k).1.isPrefixOf first then
   let st:Stm:=if k==10 then { Stm.zero with kind:=k,label:=next } else { Stm.zero with kind:=k }
   if (zOt st (first.drop (layT k).1.length)).2 then zOv (zOt st (first.drop (layT k).1.length)).1 (layT k).2 ops
   else stmGo first ops next f (k+1)
  else stmGo first ops next f (k+1)
def stmA (l:List UInt8) (next:Int):Stm × Bool:=stmGo (cutA l).1 (cutA l).2 next 11 0
def thrT (b:Int):List UInt8:=[46,116,104,114,101,97,100,32]++dec b
def openL (r:Rd):Int:=r.opn.getLast?.getD 0
def takeA (r:Rd) (l:List UInt8):Rd × Bool :=
 if l=thrT 0 then zPd r 0 r.line else if l=thrT 1 then zPd r 1 r.line
 else if openL r != 0&&l==labT (openL r)++[58] then putD r { Stm.zero with kind:=11,line:=r.line }
 else if !(stmA l (r.ifs+1)).2||((stmA l (r.ifs+1)).1.kind==5&&openL r != 0) then (r,false)
 else putD r { (stmA l (r.ifs+1)).1 with line:=r.line }
def runA (r:Rd):List (List UInt8)→Rd × Bool
 | []=>(r,true)
 | x::xs=>if (takeA { r with line:=r.line+1 } x).2 then runA (takeA { r with line:=r.line+1 } x).1 xs else ((takeA { r with line:=r.line+1 } x).1,false)
def Rd.zeroA:Rd:=⟨[],0,0,0,[],40⟩
def zNZ (l:List UInt8):List Thr × Int :=
 let q:=runA Rd.zeroA (zOd 10 l).dropLast
 if q.2 then
  if (zOd 10 l).getLast?≠some []∨q.1.opn≠[]∨q.1.threads=[] then ([],q.1.line+1) else (q.1.threads,0)
 else ([],q.1.line)
theorem zQm (r:Rd) (l:List UInt8):(takeA r l).1.line=r.line∧(takeA r l).1.most=r.most:=by
 unfold takeA
 split
 ·exact beginD_keep _ _ _
 split
 ·exact beginD_keep _ _ _
 split
 ·exact putD_keep _ _
 split
 ·exact⟨rfl,rfl⟩
 ·exact putD_keep _ _
theorem zQz (xs:List (List UInt8)):∀ (r r':Rd) (x:List UInt8),runA r xs=(r',true)→runA r (xs++[x])=takeA { r' with line:=r'.line+1 } x:=by
 induction xs with
 | nil =>
  intro r r' x h
  simp[runA] at h
  subst h
  simp only[List.nil_append,runA]
  cases ht:(takeA { r with line:=r.line+1 } x).2
  ·simp[← ht]
  ·simp[← ht]
 | cons y ys ih =>
  intro r r' x h
  simp only[runA] at h
  simp only[List.cons_append,runA]
  cases ht:(takeA { r with line:=r.line+1 } y).2
  ·simp[ht] at h
  ·simp only[ht,if_true] at h ⊢
   exact ih _ _ _ h
theorem runA_more (xs:List (List UInt8)):∀ (r:Rd) (ys:List (List UInt8)),(runA r xs).2=false→runA r (xs++ys)=runA r xs:=by
 induction xs with
 | nil=>intro r ys h;simp[runA] at h
 | cons y zs ih =>
  intro r ys h
  simp only[List.cons_append,runA] at h ⊢
  cases ht:(takeA { r with line:=r.line+1 } y).2
  ·simp
  ·simp only[ht,if_true] at h ⊢
   exact ih _ _ h
end P
end Go.Proofs.YtgceflcbckjjiaaGreatDoor
