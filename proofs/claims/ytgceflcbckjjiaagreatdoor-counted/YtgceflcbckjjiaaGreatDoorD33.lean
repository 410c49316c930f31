import Derived.Test.YtgceflcbckjjiaaGreatDoorD31
set_option linter.unusedVariables false
set_option linter.unusedSimpArgs false
set_option maxHeartbeats 12800000
namespace Go.Proofs.YtgceflcbckjjiaaGreatDoor
open Go Go.RowKit
set_option maxRecDepth 100000
theorem zDW (gc:Nat) (A:WA) (rss:List (List Q.Run)) (st:Option RS) (ds:List Int) (rest:List (List Int)) (w:World) (h:CandOn w gc A rss st ds rest) (hn:rss.length<20) (hb:∀ r∈rss,r.length<100000000) (hok:∀ rs∈rss,∀ r∈rs,r.regs.length=4∧∀ e∈r.events,e.hangs<Q.M64) (hW:∀ d,Q.DigOk (zBL rss) d→Q.WdOk (Q.zKa rss d)) :
  Calls Tryz.prog 61 #[.pointer (some ⟨gc,0,none⟩)] w fun e w'=>∃ b,e=.returned (.bool b)∧zIz w w' gc A rss st (zCF rss st rest) b:=by
 have H0:Hid (zFN w gc A rss st (zCF rss st rest) w rest.length):=⟨st,ds,rest,h,rfl,rfl,CFrame.refl _ _ _ _,fun k h=>Or.inl h,fun k h=>Or.inl h⟩
 have HB:=zAa hb
 have HOK:=zAa hok
 have HW:=zAa hW
 generalize zCF rss st rest=R0 at *
 clear h hb hok hW
 obtain⟨μ,hμ⟩:=zCZ (zFN w gc A rss st R0)
 have HMU:=zAa hμ
 clear hμ
 go_enter Tryz.func61,Tryz.ntmps61
 go_wp2
 go_loopw [] (fun wr=>∃ n,Hid (zFN w gc A rss st R0 wr n)) (fun wr=>μ wr)
 case atStart=>exact⟨_,H0⟩
 case round =>
  obtain⟨hI,hmin⟩:=HMU.out wr (by obtain⟨n,h⟩:=hrel;exact⟨n,h.out⟩)
  clear hrel hmin
  obtain⟨st1,ds1,rest1,hC,hR,hlen,hF,hN⟩:=hI
  have HC:=zAa hC
  have HR:=zAa hR
  have HL:=zAa hlen
  have HF:=zAa hF
  have HN:=zAa hN
  have lgc:=hC.box.lt
  have c21:=hC.beg
  clear hC hR hlen hF hN
  cases st1 with
  | none =>
   simp only[Option.isSome] at c21
   have HCW:Hid (CandW wr gc A rss ds1 rest1):=⟨HC.out.box,HC.out.ws,_,c21⟩
   have HR0:=HR
   have HF1:=HF
   clear HC HR HF HN
   go_wp2_with (first
    | (go_at_call 105;obtain⟨bb,c21w⟩:=HCW.out.beg;obtain⟨cc,hcc,_⟩:=id HCW.out.box;refine (zEp gc 13 A.rv A.vs A.wss A.gb A.gd rss ds1 rest1 cc 79 _ HCW.out.ws hcc (by decide) (by decide) (by decide) (by omega) HB.out).mono ?_;clear hcc;rintro e w3 ⟨h1,hT⟩;have p21:=(hT.cell 21 (by omega)).trans c21w;have BX3:=zAa (HCW.out.box.ticked hT);have pf:=BX3.out.free;have lg3:=BX3.out.lt;have F3:=zAa (HF1.out.ticked hT (Or.inl rfl));clear hT c21w;rcases h1 with ⟨hr,rfl⟩ | ⟨d,q,hr,rfl,hws,hdo⟩)
    | (go_at_call 106;have HDO:=zAa hdo;have HWK:=zAa (HW.out d hdo);have C4:=zAa (CW.start BX3.out hws F3.out);clear hws hdo;refine (zFd gc 13 A.rv A.vs A.wss A.gb A.gd rss d q _ C4.out.ws HDO.out (by omega) HWK.out.le HOK.out).mono ?_;rintro e w5 ⟨ev,rg,rfl,hwd,hrgf,hb5⟩;have C5:=zAa (C4.out.below hb5);have WD5:=zAa hwd;have RNE:Hid (rg.ownBlock≠some gc):=(fun e=>by have:=hrgf gc e;have:=C4.out.box.lt;omega);have RGL:Hid (∀ k,rg.ownBlock=some k→k<w5.heap.size):=(fun k e=>hwd.regs.ownlt k e);have RGN:Hid (∀ k,rg.ownBlock=some k→w.heap.size≤k):=(fun k e=>Nat.le_trans C4.out.fr.size (hrgf k e));obtain⟨ea,ec,hev,_⟩:=hwd.evs.form;obtain⟨ra,rc,hrg,_⟩:=hwd.regs.form;clear hwd hrgf hb5;subst hev hrg)
    | (refine wpList_store_mid rfl 65 (.tmp 29) (.tmp 27) rfl gc 0 #[.slice ea (Q.zKa rss d).events.length ec,.slice ra (Q.zKa rss d).regs.length rc] rfl rfl (C5.out.box.there 0 2 (by decide)) (by kernel_rfl) (by simp[Value.oneCell']) ?_;have D6:=zAa (CW1.start WD5.out RNE.out C5.out.box);have C6:=zAa (C5.out.set 0 [.slice ea (Q.zKa rss d).events.length ec,.slice ra (Q.zKa rss d).regs.length rc] (Or.inl (by simp)));have S6:w5.heap.size≤(w5.setCells gc 0 [.slice ea (Q.zKa rss d).events.length ec,.slice ra (Q.zKa rss d).regs.length rc]).heap.size:=(by rw[zAU];exact Nat.le_refl _);generalize w5.setCells gc 0 [.slice ea (Q.zKa rss d).events.length ec,.slice ra (Q.zKa rss d).regs.length rc]=w6 at *;have c60:=D6.out.c0;have c61:=D6.out.c1;have lg6:=C6.out.box.lt)
    | (go_at_call 107;refine (zDT _ (Q.zKa rss d).events _ D6.out.wdi.evs HWK.out.pos HWK.out.le HWK.out.hangs).mono ?_;rintro e w7 ⟨fa,rfl,hfn,hfin,hb7⟩;have C7:=zAa (C6.out.below hb7);have D7:=zAa (D6.out.below C6.out.box hb7);have FI7:=zAa hfin;obtain⟨fx,fcp,hfev,_⟩:=hfin.form;have S7:=hb7.size;clear hfin hb7)
    | (refine wpList_store_mid rfl 70 (.tmp 38) (.tmp 36) rfl gc 2 (zAn fa) rfl rfl (C7.out.box.there 2 10 (by decide)) (by kernel_rfl) (by simp[zAn,hfev,Value.oneCell']) ?_;have E8:=zAa (CW2.start FI7.out C7.out.box);have C8:=zAa (C7.out.set 2 (zAn fa).toList (Or.inl (by simp[zAn])));have D8:=zAa (D7.out.set C7.out.box 2 (zAn fa).toList (by simp[zAn]) (by decide));have S8:w7.heap.size≤(w7.setCells gc 2 (zAn fa).toList).heap.size:=(by rw[zAU];exact Nat.le_refl _);generalize w7.setCells gc 2 (zAn fa).toList=w8 at *;have c80:=D8.out.c0;have c81:=D8.out.c1;have lg8:=C8.out.box.lt)
    | (go_at_call 108;refine (zDs _ _ (Q.zKa rss d).events _ D8.out.wdi.evs ⟨_,_,_,rfl⟩ HWK.out.le).mono ?_;rintro e w9 ⟨cv,cvs,rgb,rgd,rfl,hri,hib,hid,hgb,hgd,hbd,hcvd,hcu,hb9⟩;have C9:=zAa (C8.out.below hb9);have D9:=zAa (D8.out.below C8.out.box hb9);have E9:=zAa (E8.out.below C8.out.box hb9);obtain⟨ca,cc2,hcv,_⟩:=hri.form;subst hcv;have RI9:=zAa hri;have IB9:=zAa hib;have ID9:=zAa hid;have HCU:=zAa hcu;have HCV:=zAa hcvd;clear hri hib hid hcu hcvd hb9)
    | (refine wpList_store_mid rfl 77 (.tmp 46) (.tmp 44) rfl gc 17 #[.slice ca (Q.zJY (Q.zKa rss d).events).length cc2,.slice (some ⟨rgb,0,none⟩) (Q.zJY (Q.zKa rss d).events).length (Q.zJY (Q.zKa rss d).events).length,.slice (some ⟨rgd,0,none⟩) (Q.zJY (Q.zKa rss d).events).length (Q.zJY (Q.zKa rss d).events).length,.bool false] rfl rfl (C9.out.box.there 17 4 (by decide)) (by kernel_rfl) (by simp[Value.oneCell']) ?_))
   ·go_wp2
    go_ret
    exact⟨false,rfl,F3.out,Or.inl ⟨rfl,by rw[← HR0.out,hr];rfl⟩⟩
   ·obtain⟨bc4,⟨_,_,_,_,_,cb4,cd4,_,_,_,_⟩,_⟩:=C8.out.ws.ctr
    have hA:=cb4.lt
    have hA2:=cd4.lt
    have hCN:=zGm C9.out D9.out E9.out RI9.out IB9.out ID9.out hgb hgd hbd HCV.out HCU.out lg8 ⟨hA,hA2⟩ (fun k e=>by have:=RGL.out k e;omega) HWK.out
    have F9:=C9.out.fr.set 17 [.slice ca (Q.zJY (Q.zKa rss d).events).length cc2,.slice (some ⟨rgb,0,none⟩) (Q.zJY (Q.zKa rss d).events).length (Q.zJY (Q.zKa rss d).events).length,.slice (some ⟨rgd,0,none⟩) (Q.zJY (Q.zKa rss d).events).length (Q.zJY (Q.zKa rss d).events).length,.bool false]
    have hsz8:=C8.out.fr.size
    have hR:zFN w gc A rss st R0 (w9.setCells gc 17 [.slice ca (Q.zJY (Q.zKa rss d).events).length cc2,.slice (some ⟨rgb,0,none⟩) (Q.zJY (Q.zKa rss d).events).length (Q.zJY (Q.zKa rss d).events).length,.slice (some ⟨rgd,0,none⟩) (Q.zJY (Q.zKa rss d).events).length (Q.zJY (Q.zKa rss d).events).length,.bool false]) q.length:=by
     refine⟨_,_,_,hCN,?_,rfl,F9,fun k hk=>Or.inr ?_,fun k hk=>Or.inr ?_⟩
     ·rw[← HR0.out,hr];simp[zCF,Q.zMq]
     ·obtain⟨s',e1,hnb⟩:=hk
      simp only[Option.some.injEq] at e1
      subst e1
      rcases hnb with h1 | h1 | ⟨u,hu,h1⟩ | h1 | h1
      ·exact RGN.out k h1
      ·have:=(RI9.out.own.lt k h1).1;omega
      ·have:=(HCU.out u hu k h1).1;omega
      ·simp only at h1;omega
      ·simp only at h1;omega
     ·obtain⟨s',e1,e2⟩:=hk
      simp only[Option.some.injEq] at e1
      subst e1
      simp only at e2;omega
    go_roundw
    case rel =>
     (repeat apply Exists.intro)
     exact⟨⟨_,hR⟩,rfl⟩
    case measure =>
     have h1:=(HMU.out _ ⟨_,hR⟩).2 _ hR
     have h2:=HL.out
     rw[hr] at h2
     simp only[List.length_cons] at h2
     omega
  | some s =>
   simp only[Option.isSome] at c21
   obtain⟨hon,hwk⟩:=HC.out.rs s rfl
   have HRD:=zAa hon.rd
   have HGD:Hid (s.R.gd=A.gd∨gdS st s.R.gd∨w.heap.size≤s.R.gd):=by
    rcases HN.out.2 s.R.gd ⟨s,rfl,rfl⟩ with h1 | h1
    ·exact Or.inr (Or.inl h1)
    ·exact Or.inr (Or.inr h1)
   have hcl:(Q.zJY s.wd.events).length<10000:=by rw[Q.zLP];have:=hwk.le;omega
   have HLM:=zAa (Q.lens_mem s.wd.events hwk.le)
   clear hon hwk
   go_upto_region 2 with (first | (go_at_call 104;refine (zGK gc 17 s.R.cv s.R.cvs s.R.gb s.R.gd (Q.zJY s.wd.events) s.ds s.rest _ HRD.out hcl HLM.out).mono ?_;rintro e w2 ⟨h1,hT⟩;have HT:=zAa hT;clear hT;rcases h1 with ⟨hr,rfl⟩ | ⟨r,q,hr,rfl,hrd,hdo⟩))
   ·have HCW:Hid (CandW w2 gc A rss ds1 rest1):=by
     have hon:=(HC.out.rs s rfl).1
     obtain⟨b,hc⟩:=HRD.out.ctr.ctr
     exact⟨HC.out.box.ticked HT.out,zHv HC.out.ws HT.out HC.out.box hon.n1 hon.n2 hc.digits,_,(HT.out.cell _ (by omega)).trans c21⟩
    have HR0:Hid (zCF rss none rest1=R0):=by unfold Hid;rw[← HR.out];simp[zCF,hr]
    have HF1:=zAa (HF.out.ticked HT.out HGD.out)
    clear HC HR HF HN HT HRD HGD HLM c21 lgc hr
    go_wp2_with (first
     | (go_at_call 105;obtain⟨bb,c21w⟩:=HCW.out.beg;obtain⟨cc,hcc,_⟩:=id HCW.out.box;refine (zEp gc 13 A.rv A.vs A.wss A.gb A.gd rss ds1 rest1 cc 79 _ HCW.out.ws hcc (by decide) (by decide) (by decide) (by omega) HB.out).mono ?_;clear hcc;rintro e w3 ⟨h1,hT⟩;have p21:=(hT.cell 21 (by omega)).trans c21w;have BX3:=zAa (HCW.out.box.ticked hT);have pf:=BX3.out.free;have lg3:=BX3.out.lt;have F3:=zAa (HF1.out.ticked hT (Or.inl rfl));clear hT c21w;rcases h1 with ⟨hr,rfl⟩ | ⟨d,q,hr,rfl,hws,hdo⟩)
     | (go_at_call 106;have HDO:=zAa hdo;have HWK:=zAa (HW.out d hdo);have C4:=zAa (CW.start BX3.out hws F3.out);clear hws hdo;refine (zFd gc 13 A.rv A.vs A.wss A.gb A.gd rss d q _ C4.out.ws HDO.out (by omega) HWK.out.le HOK.out).mono ?_;rintro e w5 ⟨ev,rg,rfl,hwd,hrgf,hb5⟩;have C5:=zAa (C4.out.below hb5);have WD5:=zAa hwd;have RNE:Hid (rg.ownBlock≠some gc):=(fun e=>by have:=hrgf gc e;have:=C4.out.box.lt;omega);have RGL:Hid (∀ k,rg.ownBlock=some k→k<w5.heap.size):=(fun k e=>hwd.regs.ownlt k e);have RGN:Hid (∀ k,rg.ownBlock=some k→w.heap.size≤k):=(fun k e=>Nat.le_trans C4.out.fr.size (hrgf k e));obtain⟨ea,ec,hev,_⟩:=hwd.evs.form;obtain⟨ra,rc,hrg,_⟩:=hwd.regs.form;clear hwd hrgf hb5;subst hev hrg)
     | (refine wpList_store_mid rfl 65 (.tmp 29) (.tmp 27) rfl gc 0 #[.slice ea (Q.zKa rss d).events.length ec,.slice ra (Q.zKa rss d).regs.length rc] rfl rfl (C5.out.box.there 0 2 (by decide)) (by kernel_rfl) (by simp[Value.oneCell']) ?_;have D6:=zAa (CW1.start WD5.out RNE.out C5.out.box);have C6:=zAa (C5.out.set 0 [.slice ea (Q.zKa rss d).events.length ec,.slice ra (Q.zKa rss d).regs.length rc] (Or.inl (by simp)));have S6:w5.heap.size≤(w5.setCells gc 0 [.slice ea (Q.zKa rss d).events.length ec,.slice ra (Q.zKa rss d).regs.length rc]).heap.size:=(by rw[zAU];exact Nat.le_refl _);generalize w5.setCells gc 0 [.slice ea (Q.zKa rss d).events.length ec,.slice ra (Q.zKa rss d).regs.length rc]=w6 at *;have c60:=D6.out.c0;have c61:=D6.out.c1;have lg6:=C6.out.box.lt)
     | (go_at_call 107;refine (zDT _ (Q.zKa rss d).events _ D6.out.wdi.evs HWK.out.pos HWK.out.le HWK.out.hangs).mono ?_;rintro e w7 ⟨fa,rfl,hfn,hfin,hb7⟩;have C7:=zAa (C6.out.below hb7);have D7:=zAa (D6.out.below C6.out.box hb7);have FI7:=zAa hfin;obtain⟨fx,fcp,hfev,_⟩:=hfin.form;have S7:=hb7.size;clear hfin hb7)
     | (refine wpList_store_mid rfl 70 (.tmp 38) (.tmp 36) rfl gc 2 (zAn fa) rfl rfl (C7.out.box.there 2 10 (by decide)) (by kernel_rfl) (by simp[zAn,hfev,Value.oneCell']) ?_;have E8:=zAa (CW2.start FI7.out C7.out.box);have C8:=zAa (C7.out.set 2 (zAn fa).toList (Or.inl (by simp[zAn])));have D8:=zAa (D7.out.set C7.out.box 2 (zAn fa).toList (by simp[zAn]) (by decide));have S8:w7.heap.size≤(w7.setCells gc 2 (zAn fa).toList).heap.size:=(by rw[zAU];exact Nat.le_refl _);generalize w7.setCells gc 2 (zAn fa).toList=w8 at *;have c80:=D8.out.c0;have c81:=D8.out.c1;have lg8:=C8.out.box.lt)
     | (go_at_call 108;refine (zDs _ _ (Q.zKa rss d).events _ D8.out.wdi.evs ⟨_,_,_,rfl⟩ HWK.out.le).mono ?_;rintro e w9 ⟨cv,cvs,rgb,rgd,rfl,hri,hib,hid,hgb,hgd,hbd,hcvd,hcu,hb9⟩;have C9:=zAa (C8.out.below hb9);have D9:=zAa (D8.out.below C8.out.box hb9);have E9:=zAa (E8.out.below C8.out.box hb9);obtain⟨ca,cc2,hcv,_⟩:=hri.form;subst hcv;have RI9:=zAa hri;have IB9:=zAa hib;have ID9:=zAa hid;have HCU:=zAa hcu;have HCV:=zAa hcvd;clear hri hib hid hcu hcvd hb9)
     | (refine wpList_store_mid rfl 77 (.tmp 46) (.tmp 44) rfl gc 17 #[.slice ca (Q.zJY (Q.zKa rss d).events).length cc2,.slice (some ⟨rgb,0,none⟩) (Q.zJY (Q.zKa rss d).events).length (Q.zJY (Q.zKa rss d).events).length,.slice (some ⟨rgd,0,none⟩) (Q.zJY (Q.zKa rss d).events).length (Q.zJY (Q.zKa rss d).events).length,.bool false] rfl rfl (C9.out.box.there 17 4 (by decide)) (by kernel_rfl) (by simp[Value.oneCell']) ?_))
    ·go_wp2
     go_ret
     exact⟨false,rfl,F3.out,Or.inl ⟨rfl,by rw[← HR0.out,hr];rfl⟩⟩
    ·obtain⟨bc4,⟨_,_,_,_,_,cb4,cd4,_,_,_,_⟩,_⟩:=C8.out.ws.ctr
     have hA:=cb4.lt
     have hA2:=cd4.lt
     have hCN:=zGm C9.out D9.out E9.out RI9.out IB9.out ID9.out hgb hgd hbd HCV.out HCU.out lg8 ⟨hA,hA2⟩ (fun k e=>by have:=RGL.out k e;omega) HWK.out
     have F9:=C9.out.fr.set 17 [.slice ca (Q.zJY (Q.zKa rss d).events).length cc2,.slice (some ⟨rgb,0,none⟩) (Q.zJY (Q.zKa rss d).events).length (Q.zJY (Q.zKa rss d).events).length,.slice (some ⟨rgd,0,none⟩) (Q.zJY (Q.zKa rss d).events).length (Q.zJY (Q.zKa rss d).events).length,.bool false]
     have hsz8:=C8.out.fr.size
     have hR:zFN w gc A rss st R0 (w9.setCells gc 17 [.slice ca (Q.zJY (Q.zKa rss d).events).length cc2,.slice (some ⟨rgb,0,none⟩) (Q.zJY (Q.zKa rss d).events).length (Q.zJY (Q.zKa rss d).events).length,.slice (some ⟨rgd,0,none⟩) (Q.zJY (Q.zKa rss d).events).length (Q.zJY (Q.zKa rss d).events).length,.bool false]) q.length:=by
      refine⟨_,_,_,hCN,?_,rfl,F9,fun k hk=>Or.inr ?_,fun k hk=>Or.inr ?_⟩
      ·rw[← HR0.out,hr];simp[zCF,Q.zMq]
      ·obtain⟨s',e1,hnb⟩:=hk
       simp only[Option.some.injEq] at e1
       subst e1
       rcases hnb with h1 | h1 | ⟨u,hu,h1⟩ | h1 | h1
       ·exact RGN.out k h1
       ·have:=(RI9.out.own.lt k h1).1;omega
       ·have:=(HCU.out u hu k h1).1;omega
       ·simp only at h1;omega
       ·simp only at h1;omega
      ·obtain⟨s',e1,e2⟩:=hk
       simp only[Option.some.injEq] at e1
       subst e1
       simp only at e2;omega
     go_roundw
     case rel =>
      (repeat apply Exists.intro)
      exact⟨⟨_,hR⟩,rfl⟩
     case measure =>
      have h1:=(HMU.out _ ⟨_,hR⟩).2 _ hR
      have h2:=HL.out
      rw[hr] at h2
      simp only[List.length_cons] at h2
      omega
   ·go_wp2
    go_ret
    exact⟨true,rfl,zFN.some HC.out HR.out HF.out HN.out HT.out hr hrd hdo (HF.out.ticked HT.out HGD.out)⟩
namespace Q
def zLj (p:Wd × List Int):Cand:=⟨p.1,zKw p.1.events,(zKw p.1.events).reads (zLn (zJY p.1.events) p.2)⟩
def zKE (l:List (Wd × List Int)):List Cand:=(l.map zLj).filter fun c=>!c.facts.hangsOn c.reads
theorem candsL_cons (p:Wd × List Int) (l:List (Wd × List Int)):zKE (p::l)=if (zLj p).facts.hangsOn (zLj p).reads then zKE l else zLj p::zKE l:=by
 unfold zKE
 rw[List.map_cons,List.filter_cons]
 cases (zLj p).facts.hangsOn (zLj p).reads<;>rfl
theorem readsOf_len (cs:List (List Int)) (ds:List Int):(zLn cs ds).length=cs.length:=by simp[zLn]
end Q
structure CandNow (w:World) (gc:Nat) (A:WA) (rss:List (List Q.Run)) (s:RS) (ds:List Int) (rest:List (List Int)) (gr:Nat):Prop where
 on:CandOn w gc A rss (some s) ds rest
 c12:w.cell? ⟨gc,12,none⟩=some (.slice (some ⟨gr,0,none⟩) s.R.fa.n s.R.fa.n)
 rel:RelAt w gr s.R.fa.n (Q.zLj (s.wd,s.ds)).reads
def zJf (w w':World) (gc:Nat) (A:WA) (rss:List (List Q.Run)) (st:Option RS) (cs:List Q.Cand) (b:Bool):Prop :=
 CFrame w w' gc A st∧((b=false∧cs=[])∨(b=true∧∃ s ds rest gr,CandNow w' gc A rss s ds rest gr∧cs=Q.zLj (s.wd,s.ds)::Q.zKE (zCF rss (some s) rest)∧(∀ k,s.R.nb k→nbS st k∨w.heap.size≤k)∧(gdS st s.R.gd∨w.heap.size≤s.R.gd)))
def zIm (w:World) (gc:Nat) (A:WA) (rss:List (List Q.Run)) (st:Option RS) (C0:List Q.Cand) (wr:World) (n:Nat):Prop :=
 ∃ st1 ds1 rest1,CandOn wr gc A rss st1 ds1 rest1∧Q.zKE (zCF rss st1 rest1)=C0∧(zCF rss st1 rest1).length=n∧CFrame w wr gc A st∧(∀ k,nbS st1 k→nbS st k∨w.heap.size≤k)∧∀ k,gdS st1 k→gdS st k∨w.heap.size≤k
theorem CandOn.set12 {w:World} {gc:Nat} {A:WA} {rss:List (List Q.Run)} {s:RS} {ds:List Int} {rest:List (List Int)} (h:CandOn w gc A rss (some s) ds rest) (v:Value):CandOn (w.setCell ⟨gc,12,none⟩ v) gc A rss (some s) ds rest∧(w.setCell ⟨gc,12,none⟩ v).cell? ⟨gc,12,none⟩=some v∧∀ k,k≠gc→(w.setCell ⟨gc,12,none⟩ v).heap[k]?=w.heap[k]?:=by
 obtain⟨b6,r6,o6,k6⟩:=h.box.set 12 [v] (by simp)
 obtain⟨cc,hcc,_⟩:=id h.box
 obtain⟨hon,hwk⟩:=h.rs s rfl
 obtain⟨b,hc⟩:=hon.rd.ctr.ctr
 refine⟨⟨b6,WsOn.upd h.ws hcc (by decide) (by decide) (by decide) (fun j h1 h2=>o6 j (Or.inr (by simp;omega))) (fun j=>b6.free j) k6 (by simp),(o6 21 (Or.inr (by simp))).trans h.beg,fun s' hs'=>?_⟩,r6 0 _ rfl,k6⟩
 simp only[Option.some.injEq] at hs'
 subst hs'
 refine⟨⟨(o6 0 (Or.inl (by decide))).trans hon.c0,(o6 1 (Or.inl (by decide))).trans hon.c1,zHw hon.wdi hon.n3.2 h.box 12 [v] (by simp),World.rangeAt_setCells_apart hon.fc gc 12 [v] (Or.inr (Or.inl (by simp[zAn]))),zFO hon.fin h.box 12 [v] (by simp),⟨(o6 17 (Or.inr (by simp))).trans hon.rd.c0,?_,?_,hon.rd.nc,hon.rd.ne⟩,hon.n1,hon.n2,hon.n3⟩,hwk⟩
 ·exact⟨zAd hon.rd.rows.own (fun k e=>k6 k (fun e2=>hon.rd.nc.2 (by rw[e,e2]))),hon.rd.rows.len,fun i hi x hx=>(hon.rd.rows.rows i hi x hx).own _ (fun k e=>k6 k (hon.rd.ne x (List.mem_of_getElem? hx) k e).2) (by simp)⟩
 ·obtain⟨b,⟨c0,c1,c2,cf,cl,cb,cd,n1,n2,n3,n4⟩,h5⟩:=hon.rd.ctr
  exact⟨b,⟨(o6 18 (Or.inr (by simp))).trans c0,(o6 19 (Or.inr (by simp))).trans c1,(o6 20 (Or.inr (by simp))).trans c2,b6.free,by simpa using cl,cb.of_block (k6 _ (fun e=>n2 e.symm)),cd.of_block (k6 _ (fun e=>n1 e.symm)),n1,n2,n3,n4⟩,h5⟩
theorem zFf (gc:Nat) (A:WA) (rss:List (List Q.Run)) (st:Option RS) (ds:List Int) (rest:List (List Int)) (w:World) (h:CandOn w gc A rss st ds rest) (hn:rss.length<20) (hb:∀ r∈rss,r.length<100000000) (hok:∀ rs∈rss,∀ r∈rs,r.regs.length=4∧∀ e∈r.events,e.hangs<Q.M64) (hW:∀ d,Q.DigOk (zBL rss) d→Q.WdOk (Q.zKa rss d)) :
  Calls Tryz.prog 35 #[.pointer (some ⟨gc,0,none⟩)] w fun e w'=>∃ b,e=.returned (.bool b)∧zJf w w' gc A rss st (Q.zKE (zCF rss st rest)) b:=by
 have H0:Hid (zIm w gc A rss st (Q.zKE (zCF rss st rest)) w (zCF rss st rest).length):=⟨st,ds,rest,h,rfl,rfl,CFrame.refl _ _ _ _,fun k h=>Or.inl h,fun k h=>Or.inl h⟩
 have HB:=zAa hb
 have HOK:=zAa hok
 have HW:=zAa hW
 generalize Q.zKE (zCF rss st rest)=C0 at *
 generalize (zCF rss st rest).length=N0 at *
 clear h hb hok hW
 obtain⟨μ,hμ⟩:=zCZ (zIm w gc A rss st C0)
 have HMU:=zAa hμ
 clear hμ
 go_enter Tryz.func35,Tryz.ntmps35
 go_wp2
 go_loopw [] (fun wr=>∃ n,Hid (zIm w gc A rss st C0 wr n)) (fun wr=>μ wr)
 case atStart=>exact⟨_,H0⟩
 case round =>
  obtain⟨hI,hmin⟩:=HMU.out wr (by obtain⟨n,h⟩:=hrel;exact⟨n,h.out⟩)
  clear hrel hmin
  obtain⟨st1,ds1,rest1,hC,hR,hlen,hF,hN,hG⟩:=hI
  have HC:=zAa hC
  have HR:=zAa hR
  have HL:=zAa hlen
  have HF:=zAa hF
  have HN:=zAa hN
  have HG:=zAa hG
  have lgc:=hC.box.lt
  clear hC hR hlen hF hN hG
  go_upto_region 2 with (first | (go_at_call 61;refine (zDW gc A rss st1 ds1 rest1 _ HC.out hn HB.out HOK.out HW.out).mono ?_;rintro e w2 ⟨b,rfl,hfr,h1⟩;have F2:=zAa (HF.out.trans hfr HG.out);clear hfr;rcases h1 with ⟨rfl,hrem⟩ | ⟨rfl,s,ds2,rest2,hcn,hrem,hdo,hnb,hgs⟩))
  ·go_wp2
   go_ret
   exact⟨false,rfl,F2.out,Or.inl ⟨rfl,by rw[← HR.out,hrem];rfl⟩⟩
  ·have CN:=zAa hcn
   have HREM:=zAa hrem
   have HDO:=zAa hdo
   obtain⟨hon,hwk⟩:=hcn.rs s rfl
   have HON:=zAa hon
   have HWK:=zAa hwk
   have HSZ:=zAa HF.out.size
   have HNB:Hid (∀ k,s.R.nb k→nbS st k∨w.heap.size≤k):=fun k hk=>by
    rcases hnb k hk with h1 | h1
    ·exact HN.out k h1
    ·exact Or.inr (Nat.le_trans HSZ.out h1)
   have HGS:Hid (gdS st s.R.gd∨w.heap.size≤s.R.gd):=by
    rcases hgs with h1 | h1
    ·exact HG.out _ h1
    ·exact Or.inr (Nat.le_trans HSZ.out h1)
   have l2:=hcn.box.lt
   have BX2:=zAa hcn.box
   obtain⟨fx,fcp,hfev,_⟩:=hon.fin.form
   have hcl:(Q.zJY s.wd.events).length<1000:=by rw[Q.zLP];have:=hwk.le;omega
   have HCM:Hid (∀ c∈Q.zJY s.wd.events,c.length<1000):=fun c hc=>by have:=Q.choices_mem s.wd.events hwk.le c hc;omega
   have HRL:Hid ((Q.zLn (Q.zJY s.wd.events) s.ds).length=(Q.zJY s.wd.events).length):=Q.readsOf_len _ _
   have hfc:=hon.fc
   obtain⟨⟨ev0,rg,fa,cv,cvs,rgb,rgd⟩,wd,dr,rr⟩:=s
   obtain⟨n,ev,g1,g2,g3,g4,g5,g6,g7,g8,g9⟩:=fa
   simp only at hfev hfc hcl
   subst hfev
   have k0:w2.cell? ⟨gc,2,none⟩=some (.slice fx n fcp):=hfc 0 _ rfl
   have k1:w2.cell? ⟨gc,3,none⟩=some (.slice (some ⟨g1,0,none⟩) n n):=hfc 1 _ rfl
   have k2:w2.cell? ⟨gc,4,none⟩=some (.slice (some ⟨g2,0,none⟩) n n):=hfc 2 _ rfl
   have k3:w2.cell? ⟨gc,5,none⟩=some (.slice (some ⟨g3,0,none⟩) n n):=hfc 3 _ rfl
   have k4:w2.cell? ⟨gc,6,none⟩=some (.slice (some ⟨g4,0,none⟩) n n):=hfc 4 _ rfl
   have k5:w2.cell? ⟨gc,7,none⟩=some (.slice (some ⟨g5,0,none⟩) n n):=hfc 5 _ rfl
   have k6:w2.cell? ⟨gc,8,none⟩=some (.slice (some ⟨g6,0,none⟩) n n):=hfc 6 _ rfl
   have k7:w2.cell? ⟨gc,9,none⟩=some (.slice (some ⟨g7,0,none⟩) n n):=hfc 7 _ rfl
   have k8:w2.cell? ⟨gc,10,none⟩=some (.slice (some ⟨g8,0,none⟩) n n):=hfc 8 _ rfl
   have k9:w2.cell? ⟨gc,11,none⟩=some (.slice (some ⟨g9,0,none⟩) n n):=hfc 9 _ rfl
   have f12:=BX2.out.free 12
   have t12:=(BX2.out.there 12 1 (by decide) 0 (by decide)).1
   obtain⟨v12,k12⟩:=Option.isSome_iff_exists.1 t12
   simp only[Nat.add_zero] at k12
   clear hcn hrem hdo hon hwk hnb hgs hfc t12
   go_region_held3 (fun w'=>w'.cell? ⟨gc,2,none⟩=some (.slice fx n fcp)∧w'.cell? ⟨gc,3,none⟩=some (.slice (some ⟨g1,0,none⟩) n n)∧w'.cell? ⟨gc,4,none⟩=some (.slice (some ⟨g2,0,none⟩) n n)∧w'.cell? ⟨gc,5,none⟩=some (.slice (some ⟨g3,0,none⟩) n n)∧w'.cell? ⟨gc,6,none⟩=some (.slice (some ⟨g4,0,none⟩) n n)∧w'.cell? ⟨gc,7,none⟩=some (.slice (some ⟨g5,0,none⟩) n n)∧w'.cell? ⟨gc,8,none⟩=some (.slice (some ⟨g6,0,none⟩) n n)∧w'.cell? ⟨gc,9,none⟩=some (.slice (some ⟨g7,0,none⟩) n n)∧w'.cell? ⟨gc,10,none⟩=some (.slice (some ⟨g8,0,none⟩) n n)∧w'.cell? ⟨gc,11,none⟩=some (.slice (some ⟨g9,0,none⟩) n n)) (first | exact⟨k0,k1,k2,k3,k4,k5,k6,k7,k8,k9⟩ | exact⟨m0,m1,m2,m3,m4,m5,m6,m7,m8,m9⟩ | exact⟨z0,z1,z2,z3,z4,z5,z6,z7,z8,z9⟩ | exact⟨(World.cell?_setCell_other _ _ _ _ (by simp)).trans z0,(World.cell?_setCell_other _ _ _ _ (by simp)).trans z1,(World.cell?_setCell_other _ _ _ _ (by simp)).trans z2,(World.cell?_setCell_other _ _ _ _ (by simp)).trans z3,(World.cell?_setCell_other _ _ _ _ (by simp)).trans z4,(World.cell?_setCell_other _ _ _ _ (by simp)).trans z5,(World.cell?_setCell_other _ _ _ _ (by simp)).trans z6,(World.cell?_setCell_other _ _ _ _ (by simp)).trans z7,(World.cell?_setCell_other _ _ _ _ (by simp)).trans z8,(World.cell?_setCell_other _ _ _ _ (by simp)).trans z9⟩) (first
    | (go_at_call_of 62 (Value.agg #[Value.slice fx n fcp,Value.slice (some ⟨g1,0,none⟩) n n,Value.slice (some ⟨g2,0,none⟩) n n,Value.slice (some ⟨g3,0,none⟩) n n,Value.slice (some ⟨g4,0,none⟩) n n,Value.slice (some ⟨g5,0,none⟩) n n,Value.slice (some ⟨g6,0,none⟩) n n,Value.slice (some ⟨g7,0,none⟩) n n,Value.slice (some ⟨g8,0,none⟩) n n,Value.slice (some ⟨g9,0,none⟩) n n]);refine (zGI (FA.mk n (.slice fx n fcp) g1 g2 g3 g4 g5 g6 g7 g8 g9) (Q.zKw wd.events) _ (Q.zLn (Q.zJY wd.events) dr) _ FI3.out RI3.out (by rw[HRL.out];omega)).mono ?_;rintro e w4 ⟨gr,rfl,hrel,hb4⟩;have B4:Hid (Below w2.heap.size w2 w4):=zAr B3.out (Nat.le_refl _) hb4;have REL4:=zAa hrel;have q12:=cfL B4.out l2 k12;have qf:=(B4.out.frozen (p:=⟨gc,12,none⟩) l2).trans f12;have lq:=Nat.lt_of_lt_of_le l2 B4.out.size;have z0:=cfL B4.out l2 k0;have z1:=cfL B4.out l2 k1;have z2:=cfL B4.out l2 k2;have z3:=cfL B4.out l2 k3;have z4:=cfL B4.out l2 k4;have z5:=cfL B4.out l2 k5;have z6:=cfL B4.out l2 k6;have z7:=cfL B4.out l2 k7;have z8:=cfL B4.out l2 k8;have z9:=cfL B4.out l2 k9;clear hrel hb4)
    | (go_at_call 63;refine (zGL gc 17 cv cvs rgb rgd (Q.zJY wd.events) dr rr _ (HON.out.rd.below (Below.refl _ _).drew) HDO.out (by omega) HCM.out).mono ?_;rintro e w3 ⟨gi,rfl,hints,hgi,hb3⟩;have B3:Hid (Below w2.heap.size w2 w3):=((Below.refl w2.heap.size w2).drew).trans (hb3.mono (by simp));have RI3:Hid (zBS w3 (.slice (some ⟨gi,0,none⟩) (Q.zJY wd.events).length (Q.zJY wd.events).length) (Q.zLn (Q.zJY wd.events) dr)):=(by have h9:=hints.rowI (Q.zJY wd.events).length;rw[HRL.out] at h9;exact h9);have FI3:=zAa (HON.out.fin.below B3.out);have l3:=Nat.lt_of_lt_of_le l2 B3.out.size;have m0:=cfL B3.out l2 k0;have m1:=cfL B3.out l2 k1;have m2:=cfL B3.out l2 k2;have m3:=cfL B3.out l2 k3;have m4:=cfL B3.out l2 k4;have m5:=cfL B3.out l2 k5;have m6:=cfL B3.out l2 k6;have m7:=cfL B3.out l2 k7;have m8:=cfL B3.out l2 k8;have m9:=cfL B3.out l2 k9;clear hints hb3))
   obtain⟨hcn5,c12,hk5⟩:=(CN.out.below B4.out).set12 (.slice (some ⟨gr,0,none⟩) n n)
   have CN5:=zAa hcn5
   have hon5:=(hcn5.rs _ rfl).1
   have FI5:=zAa hon5.fin
   have hfc:=hon5.fc
   have F5:Hid (CFrame w (w4.setCell ⟨gc,12,none⟩ (.slice (some ⟨gr,0,none⟩) n n)) gc A st):=(F2.out.below B4.out).set 12 [.slice (some ⟨gr,0,none⟩) n n]
   have REL5:Hid (RelAt (w4.setCell ⟨gc,12,none⟩ (.slice (some ⟨gr,0,none⟩) n n)) gr n ((Q.zKw wd.events).reads (Q.zLn (Q.zJY wd.events) dr))):=by
    obtain⟨cc,hcc,_⟩:=(CN.out.below B4.out).box
    exact⟨REL4.out.at_.of_block (hk5 gr (zCG REL4.out.at_ hcc (by decide))),REL4.out.len,REL4.out.fits⟩
   have l5:=hcn5.box.lt
   clear CN HON FI3 RI3 REL4 q12 qf lq B4 B3 hk5 F2 BX2 f12 k12 l3 hcn5 hon5 HDO HCM HRL m0 z0 m1 z1 m2 z2 m3 z3 m4 z4 m5 z5 m6 z6 m7 z7 m8 z8 m9 z9
   generalize w4.setCell ⟨gc,12,none⟩ (.slice (some ⟨gr,0,none⟩) n n)=w5 at *
   clear k0 k1 k2 k3 k4 k5 k6 k7 k8 k9
   have k0:w5.cell? ⟨gc,2,none⟩=some (.slice fx n fcp):=hfc 0 _ rfl
   have k1:w5.cell? ⟨gc,3,none⟩=some (.slice (some ⟨g1,0,none⟩) n n):=hfc 1 _ rfl
   have k2:w5.cell? ⟨gc,4,none⟩=some (.slice (some ⟨g2,0,none⟩) n n):=hfc 2 _ rfl
   have k3:w5.cell? ⟨gc,5,none⟩=some (.slice (some ⟨g3,0,none⟩) n n):=hfc 3 _ rfl
   have k4:w5.cell? ⟨gc,6,none⟩=some (.slice (some ⟨g4,0,none⟩) n n):=hfc 4 _ rfl
   have k5:w5.cell? ⟨gc,7,none⟩=some (.slice (some ⟨g5,0,none⟩) n n):=hfc 5 _ rfl
   have k6:w5.cell? ⟨gc,8,none⟩=some (.slice (some ⟨g6,0,none⟩) n n):=hfc 6 _ rfl
   have k7:w5.cell? ⟨gc,9,none⟩=some (.slice (some ⟨g7,0,none⟩) n n):=hfc 7 _ rfl
   have k8:w5.cell? ⟨gc,10,none⟩=some (.slice (some ⟨g8,0,none⟩) n n):=hfc 8 _ rfl
   have k9:w5.cell? ⟨gc,11,none⟩=some (.slice (some ⟨g9,0,none⟩) n n):=hfc 9 _ rfl
   clear hfc
   go_upto_region 3 with fail
   go_region_held3 (fun w'=>w'.cell? ⟨gc,2,none⟩=some (.slice fx n fcp)∧w'.cell? ⟨gc,3,none⟩=some (.slice (some ⟨g1,0,none⟩) n n)∧w'.cell? ⟨gc,4,none⟩=some (.slice (some ⟨g2,0,none⟩) n n)∧w'.cell? ⟨gc,5,none⟩=some (.slice (some ⟨g3,0,none⟩) n n)∧w'.cell? ⟨gc,6,none⟩=some (.slice (some ⟨g4,0,none⟩) n n)∧w'.cell? ⟨gc,7,none⟩=some (.slice (some ⟨g5,0,none⟩) n n)∧w'.cell? ⟨gc,8,none⟩=some (.slice (some ⟨g6,0,none⟩) n n)∧w'.cell? ⟨gc,9,none⟩=some (.slice (some ⟨g7,0,none⟩) n n)∧w'.cell? ⟨gc,10,none⟩=some (.slice (some ⟨g8,0,none⟩) n n)∧w'.cell? ⟨gc,11,none⟩=some (.slice (some ⟨g9,0,none⟩) n n)∧w'.cell? ⟨gc,12,none⟩=some (.slice (some ⟨gr,0,none⟩) n n)) (first | exact⟨k0,k1,k2,k3,k4,k5,k6,k7,k8,k9,c12⟩ | exact⟨m0,m1,m2,m3,m4,m5,m6,m7,m8,m9,m10⟩) (first
    | (go_at_call 64;refine (zFE (FA.mk n (.slice fx n fcp) g1 g2 g3 g4 g5 g6 g7 g8 g9) (Q.zKw wd.events) gr ((Q.zKw wd.events).reads (Q.zLn (Q.zJY wd.events) dr)) _ (FI5.out.below (Below.refl _ _).drew) (REL5.out.below (Below.refl _ _).drew)).mono ?_;rintro e w6 ⟨rfl,hb6⟩;have B6:Hid (Below w5.heap.size w5 w6):=((Below.refl w5.heap.size w5).drew).trans (hb6.mono (by simp));generalize hH:(Q.zKw wd.events).hangsOn ((Q.zKw wd.events).reads (Q.zLn (Q.zJY wd.events) dr))=hh at *;have HH:=zAa hH;have m0:=cfL B6.out l5 k0;have m1:=cfL B6.out l5 k1;have m2:=cfL B6.out l5 k2;have m3:=cfL B6.out l5 k3;have m4:=cfL B6.out l5 k4;have m5:=cfL B6.out l5 k5;have m6:=cfL B6.out l5 k6;have m7:=cfL B6.out l5 k7;have m8:=cfL B6.out l5 k8;have m9:=cfL B6.out l5 k9;have m10:=cfL B6.out l5 c12;clear hH hb6))
   have CN6:=zAa (CN5.out.below B6.out)
   have REL6:=zAa (REL5.out.below B6.out)
   have F6:=zAa (F5.out.below B6.out)
   have HCC:Hid (Q.zKE (zCF rss st1 rest1)=if hh then Q.zKE (zCF rss (some ⟨⟨ev0,rg,⟨n,.slice fx n fcp,g1,g2,g3,g4,g5,g6,g7,g8,g9⟩,cv,cvs,rgb,rgd⟩,wd,dr,rr⟩) rest2) else Q.zLj (wd,dr)::Q.zKE (zCF rss (some ⟨⟨ev0,rg,⟨n,.slice fx n fcp,g1,g2,g3,g4,g5,g6,g7,g8,g9⟩,cv,cvs,rgb,rgd⟩,wd,dr,rr⟩) rest2)):=by
    unfold Hid
    rw[HREM.out,Q.candsL_cons,← HH.out];rfl
   clear HH
   cases hh with
   | true =>
    have hR:zIm w gc A rss st C0 w6 (zCF rss (some ⟨⟨ev0,rg,⟨n,.slice fx n fcp,g1,g2,g3,g4,g5,g6,g7,g8,g9⟩,cv,cvs,rgb,rgd⟩,wd,dr,rr⟩) rest2).length:=by
     refine⟨_,_,_,CN6.out,?_,rfl,F6.out,fun k hk=>?_,fun k hk=>?_⟩
     ·have h1:=HCC.out
      rw[if_pos rfl] at h1
      rw[← h1];exact HR.out
     ·obtain⟨s',e1,h1⟩:=hk
      simp only[Option.some.injEq] at e1
      subst e1
      exact HNB.out k h1
     ·obtain⟨s',e1,h1⟩:=hk
      simp only[Option.some.injEq] at e1
      subst e1
      subst h1
      exact HGS.out
    go_wp2
    go_roundw
    case rel=>exact⟨_,hR⟩
    case measure =>
     have h1:=(HMU.out _ ⟨_,hR⟩).2 _ hR
     have h2:=HL.out
     rw[HREM.out] at h2
     simp only[List.length_cons] at h2
     omega
   | false =>
    have hF:Q.zKE (zCF rss st1 rest1)=Q.zLj (wd,dr)::Q.zKE (zCF rss (some ⟨⟨ev0,rg,⟨n,.slice fx n fcp,g1,g2,g3,g4,g5,g6,g7,g8,g9⟩,cv,cvs,rgb,rgd⟩,wd,dr,rr⟩) rest2):=by
     have h1:=HCC.out
     rw[if_neg (by decide)] at h1
     exact h1
    go_wp2
    go_ret
    exact⟨true,rfl,F6.out,Or.inr ⟨rfl,_,_,_,gr,⟨CN6.out,m10,REL6.out⟩,by rw[← HR.out];exact hF,HNB.out,HGS.out⟩⟩
end Go.Proofs.YtgceflcbckjjiaaGreatDoor
