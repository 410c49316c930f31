import Derived.Test.YtkmebkbpfmoeaaaGreatH36
set_option linter.unusedVariables false
set_option linter.unusedSimpArgs false
set_option maxHeartbeats 12800000
namespace Go.Proofs.YtkmebkbpfmoeaaaGreat
open Go Go.RowKit
set_option maxRecDepth 100000
namespace Q
theorem srcCand_rows (a:Ans) (c:Cand):a.rows.length≤(zJb a c).rows.length:=zKk _ (srcOrder_rows _ _ _ _) _ _
theorem source_eq (ts:List P.Thr):(zII (zCm (runs ts) none (zIE (zAT (runs ts))))).foldl zJb ⟨[],false⟩=zIC ts:=by rw[← cands_eq];rfl
end Q
theorem zDC (B bt cap:Nat) (ts:List P.Thr) (w:World) (h:zAv w B (.slice (some ⟨bt,0,none⟩) ts.length cap) ts) (hn:ts.length<20) (hok:∀ t∈ts,(∀ s∈t.stmts,Q.StOk s)∧t.stmts.length<900∧Q.codes t.stmts<100000) (hrb:∀ r∈Q.runs ts,r.length<100000000) (hrn:∀ rs∈Q.runs ts,∀ r∈rs,r.regs.length=4∧∀ e∈r.events,e.hangs<Q.M64) (hW:∀ d,Q.DigOk (zAT (Q.runs ts)) d→Q.WdOk (Q.zIl (Q.runs ts) d)) (hfin:(Q.zIC ts).rows.length<100000000) :
  Calls Tryz.prog 25 #[.agg #[.slice (some ⟨bt,0,none⟩) ts.length cap]] w fun e w'=>∃ ov vs,e=.returned (.tuple #[ov,.bool (Q.zIC ts).clash])∧RowsI w' 0 ov (Q.zIC ts).rows vs∧Below w.heap.size w w':=by
 obtain⟨k0,k1,hsz,hbw⟩:=zBM w #[.slice (some ⟨bt,0,none⟩) ts.length cap] #[.slice none 0 0,.bool false] 45 58
 have HT:=zAa (h.keep fun k hk=>hbw.block k hk)
 have HOK:=zAa hok
 have HRB:=zAa hrb
 have HRN:=zAa hrn
 have HW:=zAa hW
 have HFIN:=zAa hfin
 have BW0:=zAa hbw
 have HEQ:=zAa (Q.source_eq ts)
 have hrl:(Q.runs ts).length<20:=by rw[Q.zJD];exact hn
 generalize Q.zIC ts=fin at *
 clear hbw h hok hrb hrn hW hfin
 go_enter Tryz.func25,Tryz.ntmps25
 go_upto_region 2 with fail
 generalize hE:(w.alloc (.cells #[.slice (some ⟨bt,0,none⟩) ts.length cap] 45)).alloc (.cells #[.slice none 0 0,.bool false] 58)=W0 at *
 have c00:=ceL k0 0 _ rfl
 have l0:w.heap.size<W0.heap.size:=by omega
 have l1:w.heap.size+1<W0.heap.size:=by omega
 have K1:=zAa k1
 clear hE k0 k1 hsz
 go_upto_region 3 with (first
  | (go_at_call 31;refine (zDf B bt cap ts _ HT.out hn HOK.out).mono ?_;rintro e w1 ⟨rv,vs,wss,gb,gd,rfl,⟨xa,xn,xc,hrv⟩,hra,hib,hid,hgb,hgd,hne,hb1⟩;obtain⟨ya,yc,hrv2⟩:=zFC hra.own;rw[hrv] at hrv2;simp only[Value.slice.injEq] at hrv2;obtain⟨-,hxn, -⟩:=hrv2;subst hxn;subst hrv;have RA1:=zAa hra;have IB1:=zAa hib;have ID1:=zAa hid;have B1:=zAa hb1;have KB:Hid ((w1.alloc (.cells #[.slice none 0 0,.slice none 0 0,.slice none 0 0,.slice none 0 0,.slice none 0 0,.slice none 0 0,.slice none 0 0,.slice none 0 0,.slice none 0 0,.slice none 0 0,.slice none 0 0,.slice none 0 0,.slice none 0 0,.slice none 0 0,.slice none 0 0,.slice none 0 0,.bool false,.slice none 0 0,.slice none 0 0,.slice none 0 0,.bool false,.bool false] 75)).heap[w1.heap.size]?=some (.cells #[.slice none 0 0,.slice none 0 0,.slice none 0 0,.slice none 0 0,.slice none 0 0,.slice none 0 0,.slice none 0 0,.slice none 0 0,.slice none 0 0,.slice none 0 0,.slice none 0 0,.slice none 0 0,.slice none 0 0,.slice none 0 0,.slice none 0 0,.slice none 0 0,.bool false,.slice none 0 0,.slice none 0 0,.slice none 0 0,.bool false,.bool false] 75 (0,0))):=heap_alloc_new w1 _;have BA:Hid (Below w1.heap.size w1 (w1.alloc (.cells #[.slice none 0 0,.slice none 0 0,.slice none 0 0,.slice none 0 0,.slice none 0 0,.slice none 0 0,.slice none 0 0,.slice none 0 0,.slice none 0 0,.slice none 0 0,.slice none 0 0,.slice none 0 0,.slice none 0 0,.slice none 0 0,.slice none 0 0,.slice none 0 0,.bool false,.slice none 0 0,.slice none 0 0,.slice none 0 0,.bool false,.bool false] 75))):=(Below.refl _ _).alloc (Nat.le_refl _) _;clear hra hib hid hb1)
  | (refine wpList_store_mid rfl 75 (.tmp 5) (.tmp 8) rfl w1.heap.size 0 (zCf (.slice xa (Q.runs ts).length xc) (.slice (some ⟨gb,0,none⟩) (Q.runs ts).length (Q.runs ts).length) (.slice (some ⟨gd,0,none⟩) (Q.runs ts).length (Q.runs ts).length) (.bool false)) rfl rfl (zCa KB.out (by simp[zCf])) (by kernel_rfl) (by simp[zCf,Value.oneCell']) ?_;have SW:=zAa (zBB (zCf (.slice xa (Q.runs ts).length xc) (.slice (some ⟨gb,0,none⟩) (Q.runs ts).length (Q.runs ts).length) (.slice (some ⟨gd,0,none⟩) (Q.runs ts).length (Q.runs ts).length) (.bool false)).toList KB.out (by simp[zCf]));generalize (w1.alloc (.cells #[.slice none 0 0,.slice none 0 0,.slice none 0 0,.slice none 0 0,.slice none 0 0,.slice none 0 0,.slice none 0 0,.slice none 0 0,.slice none 0 0,.slice none 0 0,.slice none 0 0,.slice none 0 0,.slice none 0 0,.slice none 0 0,.slice none 0 0,.slice none 0 0,.bool false,.slice none 0 0,.slice none 0 0,.slice none 0 0,.bool false,.bool false] 75)).setCells w1.heap.size 0 (zCf (.slice xa (Q.runs ts).length xc) (.slice (some ⟨gb,0,none⟩) (Q.runs ts).length (Q.runs ts).length) (.slice (some ⟨gd,0,none⟩) (Q.runs ts).length (Q.runs ts).length) (.bool false)).toList=W1 at *))
 obtain⟨s0,s1,s2⟩:=SW.out
 have BL:=zAa (s2 w1 w1.heap.size (Nat.le_refl _) BA.out)
 have S0:=zAa s0
 have hs1:=B1.out.size
 have hs2:=BL.out.size
 have KG:=zAa ((BL.out.block _ (by omega)).trans ((B1.out.block _ l1).trans K1.out))
 have BWW:Hid (Below w.heap.size w W1):=zAn (zAn BW0.out (Nat.le_refl _) B1.out) (Nat.le_refl _) BL.out
 have INI:Hid (zFD w w1.heap.size (w.heap.size+1) ⟨.slice xa (Q.runs ts).length xc,vs,wss,gb,gd⟩ (Q.runs ts) Q.zJb fin W1 (Q.zII (zCm (Q.runs ts) none (Q.zIE (zAT (Q.runs ts))))).length):=⟨none,_,_,_,_,_,_,zGg (t:=58) RA1.out IB1.out ID1.out hne (by simpa using S0.out) BL.out KG.out (Or.inl rfl) (by omega) (by omega) (by omega) BWW.out,HEQ.out,rfl⟩
 generalize (⟨.slice xa (Q.runs ts).length xc,vs,wss,gb,gd⟩:WA)=A at *
 clear s0 s1 s2 SW BL S0 KG BWW RA1 IB1 ID1 B1 KB BA HT K1 BW0 HEQ c00 hs1 hs2 HOK
 generalize w1.heap.size=gc at *
 obtain⟨μ,hμ⟩:=zCH (zFD w gc (w.heap.size+1) A (Q.runs ts) Q.zJb fin)
 have HMU:=zAa hμ
 clear hμ
 simp only[Act.put]
 go_loopw [] (fun wr=>∃ m,Hid (zFD w gc (w.heap.size+1) A (Q.runs ts) Q.zJb fin wr m)) (fun wr=>μ wr)
 case atStart=>exact⟨_,INI⟩
 case round =>
  obtain⟨hI,hmin⟩:=HMU.out wr (by obtain⟨n,h⟩:=hrel;exact⟨n,h.out⟩)
  clear hrel hmin INI
  obtain⟨st,ds,rest,an,ov,vs1,fp,hB,hFD,hlen⟩:=hI
  have BO:=zAa hB
  have FD:=zAa hFD
  have HL:=zAa hlen
  have lgc:=hB.cand.box.lt
  clear hB hFD hlen
  go_upto_region 4 with (first | (go_at_call 32;refine (zEC gc A _ st ds rest _ BO.out.cand hrl HRB.out HRN.out HW.out).mono ?_;rintro e w2 ⟨b,rfl,hF,h1⟩;have HF2:=zAa hF;clear hF;rcases h1 with ⟨rfl,hcs⟩ | ⟨rfl,s,ds2,rest2,gr,hnow,hcs,hnb,hgs⟩))
  ·obtain⟨hA2,hbl2⟩:=BO.out.frame HF2.out
   have HA2:=zAa hA2
   have HBL2:=zAa hbl2
   have hfa:an=fin:=by
    have h3:=FD.out
    rw[hcs] at h3
    exact h3
   subst hfa
   have c0:=hA2.out.cell
   have c1:=hA2.clash
   have lg2:=hA2.out.lt
   obtain⟨oa,oc,hov,_⟩:=hA2.out.rows.form
   subst hov
   clear hA2 hbl2 hcs
   go_upto_region 6 with fail
   go_region_held3 (fun w'=>w'.cell? ⟨w.heap.size+1,1,none⟩=some (.bool an.clash)∧w'.cell? ⟨w.heap.size+1,0,none⟩=some (.slice oa an.rows.length oc)) (first | exact⟨c1,c0⟩) (first
    | (go_at_call 35;refine (zHm (w.heap.size+1) (.slice oa an.rows.length oc) _ (by exact c0) (by exact lg2) ⟨_,_,_,rfl⟩).mono ?_;rintro e w3 ⟨rfl,rfl⟩))
   all_goals
    (try go_wp2)
    go_ret2
    exact⟨_,vs1,rfl,HA2.out.out.rows.below (Below.refl _ _).drew,HBL2.out.drew⟩
  ·have B2:=zAa (BO.out.next HF2.out hnow.on hnb hgs)
   have HCS:=zAa hcs
   have NOW:=zAa hnow
   obtain⟨hon,hwk⟩:=hnow.on.rs s rfl
   have HON:=zAa hon
   have HWK:=zAa hwk
   have l2:=hnow.on.box.lt
   have hfc:=hon.fc
   have k10:=hnow.c12
   have k11:=hon.c0
   have k12:=hon.c1
   have REL2:=zAa hnow.rel
   obtain⟨fx,fcp,hfev,_⟩:=hon.fin.form
   obtain⟨ea,ec,hev,_⟩:=hon.wdi.evs.form
   obtain⟨ra,rc,hrg,_⟩:=hon.wdi.regs.form
   have FI2:=zAa hon.fin
   have WI2:=zAa hon.wdi
   have FDN:Hid ((Q.zII (zCm (Q.runs ts) (some s) rest2)).foldl Q.zJb (Q.zJb an (Q.zJi (s.wd,s.ds)))=fin):=by
    have h3:=FD.out
    rw[hcs,List.foldl_cons] at h3
    exact h3
   have HLN:Hid ((Q.zII (zCm (Q.runs ts) (some s) rest2)).length+1=μ wr):=by
    have h3:=HL.out
    rw[hcs,List.length_cons] at h3
    exact h3
   have hrows:(Q.zJb an (Q.zJi (s.wd,s.ds))).rows.length<100000000:=by
    have h3:=Q.zKk _ Q.srcCand_rows (Q.zII (zCm (Q.runs ts) (some s) rest2)) (Q.zJb an (Q.zJi (s.wd,s.ds)))
    have h4:=HFIN.out
    rw[FDN.out] at h3
    omega
   have HROWS:=zAa hrows
   have HEV:=zAa (Q.factsOf_events s.wd.events)
   clear hnow hon hwk hcs hnb hgs HF2 hrows FD HL BO HCS NOW HON
   obtain⟨⟨ev,rg,⟨n,fev,g1,g2,g3,g4,g5,g6,g7,g8,g9⟩,cv,cvs,rgb,rgd⟩,wd,dr,rr⟩:=s
   simp only at hfev hfc k10 k11 k12 hev hrg REL2 FI2 WI2 HWK HEV
   subst hfev
   subst hev
   subst hrg
   have k0:w2.cell? ⟨gc,2,none⟩=some (.slice fx n fcp):=hfc 0 _ rfl
   have k1:w2.cell? ⟨gc,3,none⟩=some (.slice (some ⟨g1,0,none⟩) n n):=hfc 1 _ rfl
   have k2:w2.cell? ⟨gc,4,none⟩=some (.slice (some ⟨g2,0,none⟩) n n):=hfc 2 _ rfl
   have k3:w2.cell? ⟨gc,5,none⟩=some (.slice (some ⟨g3,0,none⟩) n n):=hfc 3 _ rfl
   have k4:w2.cell? ⟨gc,6,none⟩=some (.slice (some ⟨g4,0,none⟩) n n):=hfc 4 _ rfl
   have k5:w2.cell? ⟨gc,7,none⟩=some (.slice (some ⟨g5,0,none⟩) n n):=hfc 5 _ rfl
   have k6:w2.cell? ⟨gc,8,none⟩=some (.slice (some ⟨g6,0,none⟩) n n):=hfc 6 _ rfl
   have k7:w2.cell? ⟨gc,9,none⟩=some (.slice (some ⟨g7,0,none⟩) n n):=hfc 7 _ rfl
   have k8:w2.cell? ⟨gc,10,none⟩=some (.slice (some ⟨g8,0,none⟩) n n):=hfc 8 _ rfl
   have k9:w2.cell? ⟨gc,11,none⟩=some (.slice (some ⟨g9,0,none⟩) n n):=hfc 9 _ rfl
   clear hfc
   go_upto_region 5 with (first
    | (go_at_call 33;refine (zEE (FA.mk n (.slice fx n fcp) g1 g2 g3 g4 g5 g6 g7 g8 g9) (Q.zIx wd.events) gr (Q.zJi (wd,dr)).reads _ FI2.out REL2.out).mono ?_;rintro e w3 ⟨q3,rfl,hq3,hb3⟩;have B3:=zAa hb3;have RQ3:=zAa hq3;clear hq3 hb3))
   have KA:Hid ((w3.alloc (.cells #[.slice (some ⟨q3,0,none⟩) n n] 64)).heap[w3.heap.size]?=some (.cells #[.slice (some ⟨q3,0,none⟩) n n] 64 (0,0))):=heap_alloc_new w3 _
   have BA:Hid (Below w3.heap.size w3 (w3.alloc (.cells #[.slice (some ⟨q3,0,none⟩) n n] 64))):=(Below.refl _ _).alloc (Nat.le_refl _) _
   generalize w3.alloc (.cells #[.slice (some ⟨q3,0,none⟩) n n] 64)=Va at *
   have BV:=zAa (zAn B3.out (Nat.le_refl _) BA.out)
   have BO3:=zAa (B2.out.below BV.out)
   have FI3:=zAa (FI2.out.below BV.out)
   have WI3:=zAa (WI2.out.below BV.out)
   have RL3:=zAa (REL2.out.below BV.out)
   have RB3:=zAa (RQ3.out.below BA.out)
   obtain⟨ka0,ka1,ka2⟩:=zAm KA.out
   have lgv:=Nat.lt_of_lt_of_le l2 BV.out.size
   have lgg:=BO3.out.ans.out.lt
   have m0:=cfL BV.out l2 k0
   have m1:=cfL BV.out l2 k1
   have m2:=cfL BV.out l2 k2
   have m3:=cfL BV.out l2 k3
   have m4:=cfL BV.out l2 k4
   have m5:=cfL BV.out l2 k5
   have m6:=cfL BV.out l2 k6
   have m7:=cfL BV.out l2 k7
   have m8:=cfL BV.out l2 k8
   have m9:=cfL BV.out l2 k9
   have m10:=cfL BV.out l2 k10
   have m11:=cfL BV.out l2 k11
   have m12:=cfL BV.out l2 k12
   generalize hbb:w3.heap.size=bb at *
   clear hbb BA B3 RQ3 KA k0 k1 k2 k3 k4 k5 k6 k7 k8 k9 k10 k11 k12
   go_wp2_with (first
    | (go_at_call 34;refine (zEe (w.heap.size+1) an ov vs1 fp _ _ wd (FA.mk n (.slice fx n fcp) g1 g2 g3 g4 g5 g6 g7 g8 g9) (Q.zIx wd.events) gr (Q.zJi (wd,dr)).reads q3 ((Q.zIx wd.events).before (Q.zJi (wd,dr)).reads) _ BO3.out.ans WI3.out HWK.out FI3.out HEV.out RL3.out RB3.out (fun k e=>BO3.out.nb k ⟨_,rfl,Or.inl e⟩) HROWS.out).mono ?_;rintro e w4 ⟨rfl,ov4,vs4,fp4,hA4,hF4⟩;have BO4:=zAa (BO3.out.grow hA4 hF4);clear hA4 hF4))
   have hR:zFD w gc (w.heap.size+1) A (Q.runs ts) Q.zJb fin w4 (Q.zII (zCm (Q.runs ts) (some ⟨⟨.slice ea wd.events.length ec,.slice ra wd.regs.length rc,(FA.mk n (.slice fx n fcp) g1 g2 g3 g4 g5 g6 g7 g8 g9),cv,cvs,rgb,rgd⟩,wd,dr,rr⟩) rest2)).length:=⟨_,_,_,_,_,_,_,BO4.out,FDN.out,rfl⟩
   go_roundw
   case rel=>exact⟨_,hR⟩
   case measure =>
    have h1:=(HMU.out _ ⟨_,hR⟩).2 _ hR
    have h2:=HLN.out
    omega


namespace Q
end Q

structure RelsIn (w:World) (v:Value) (n:Nat) (ls:List (List Nat)) (gs:List Nat):Prop where
 own:w.ownsRow 0 64 1 v ls.length (gs.map fun g=>.slice (some ⟨g,0,none⟩) n n)
 len:gs.length=ls.length
 rel:∀ i (h:i<ls.length) (g:Nat),gs[i]?=some g→RelAt w g n ls[i]
namespace Q
end Q
theorem RelsIn.below {w w':World} {v:Value} {n:Nat} {ls:List (List Nat)} {gs:List Nat} (h:RelsIn w v n ls gs) (hb:Below w.heap.size w w'):RelsIn w' v n ls gs :=
 ⟨zAc h.own (fun k e=>hb.block k (h.own.lt k e).2),h.len,fun i hi g hg=>(h.rel i hi g hg).below hb⟩
theorem RelsIn.nil (w:World) (n:Nat):RelsIn w (.slice none 0 0) n [] []:=⟨by simpa using World.ownsRow_nil w 0 64 1,rfl,fun i h=>by simp at h⟩
theorem RelsIn.tick {w w':World} {v:Value} {n:Nat} {ls:List (List Nat)} {gs:List Nat} {go o gb gd:Nat} {bs ds:List Int} {b:Bool} (h:RelsIn w v n ls gs) (hT:Ticked w w' go o gd) (hv:∀ k,v.ownBlock=some k→k≠go∧k≠gd) {tg:TypeId} {cg:Array Value} (hc:CtrAt w go o gb gd bs ds b) (hg:w.heap[go]?=some (.cells cg tg (0,0))) (htg:127≠tg):RelsIn w' v n ls gs :=
 ⟨zAc h.own (fun k e=>hT.block k (hv k e).1 (hv k e).2),h.len,fun i hi g hg2=>by
  have q:=h.rel i hi g hg2
  exact⟨q.at_.of_block (hT.block g (zCn q.at_ hg htg) (zCn q.at_ (t:=3) hc.digits (by decide))),q.len,q.fits⟩⟩

namespace Q
end Q
theorem RelsIn.wr {w W:World} {g:Nat} {a:Q.Ans} {ov:Value} {vs:List Value} {fp:List Nat} {v:Value} {n:Nat} {ls:List (List Nat)} {gs:List Nat} (h:RelsIn w v n ls gs) (hA:AnsOn w g a ov vs fp) (hk:∀ k,k<w.heap.size→¬ Wr g ov k→W.heap[k]?=w.heap[k]?):RelsIn W v n ls gs:=by
 obtain⟨c,hty⟩:=hA.out.ty
 refine⟨zAc h.own (fun k e=>hk k (h.own.lt k e).2 (fun e2=>?_)),h.len,fun i hi g' hg=>(h.rel i hi g' hg).wr hA hk⟩
 rcases e2 with e2 | e2
 ·subst e2
  rcases hty with hty | hty<;>exact zAr h.own hty (by decide) e
 ·rcases hA.out.rows.own.2 with ⟨e3,_⟩ | ⟨b,c2,cur,e3,_,hb,_⟩
  ·rw[e3] at e2;simp[Value.ownBlock] at e2
  ·rw[e3] at e2;simp[Value.ownBlock] at e2
   subst e2
   exact zAr h.own hb (by decide) e
namespace Q
end Q
namespace P
end P
end Go.Proofs.YtkmebkbpfmoeaaaGreat
namespace Go.Proofs.YtkmebkbpfmoeaaaGreat
namespace P
end P
end Go.Proofs.YtkmebkbpfmoeaaaGreat
namespace Go.Proofs.YtkmebkbpfmoeaaaGreat
open Go Go.RowKit
set_option maxRecDepth 100000

def zHS (w:World) (v:Value) (ws:List ByteArray):Prop:=∃ a cap,v=.slice a ws.length cap∧ws.length≤cap∧(ws≠[]→∃ g,a=some ⟨g,0,none⟩∧zAt w g 0 ws∧g<w.heap.size)



theorem zHS.below {w w':World} {v:Value} {ws:List ByteArray} (h:zHS w v ws) (hb:Below w.heap.size w w'):zHS w' v ws:=by
 obtain⟨a,cap,e,hc,hw⟩:=h
 refine⟨a,cap,e,hc,fun hne=>?_⟩
 obtain⟨g,e1,h1,h2⟩:=hw hne
 exact⟨g,e1,h1.below hb,Nat.lt_of_lt_of_le h2 hb.size⟩

end Go.Proofs.YtkmebkbpfmoeaaaGreat
namespace Go.Proofs.YtkmebkbpfmoeaaaGreat
namespace P
end P
end Go.Proofs.YtkmebkbpfmoeaaaGreat
namespace Go.Proofs.YtkmebkbpfmoeaaaGreat
open Go Go.RowKit
set_option maxRecDepth 100000

theorem zDc {fn:Func} {p q u v:Tmp} (h:fn.results=#[.tmp p,.tmp q,.tmp u,.tmp v]) (tmps:Array Value) (Pg:Program) (w:World) :
  (results fn tmps).run Pg w=.ok (.tuple #[tmps.getD p undef,tmps.getD q undef,tmps.getD u undef,tmps.getD v undef]) w:=by
 simp only[results,h]
 simp[Sem.run_bind,Result.andThen]
theorem zEF (s:ByteArray) (w:World) (h:s.size≤8192) (hf:((P.kernel s.toList).2.1 != 0)=true) :
  Calls Tryz.prog 13 #[.string s] w fun e w'=>e=.returned (.tuple #[.slice none 0 0,.bool false,.int .i64 (P.kernel s.toList).2.1,.int .i64 (P.kernel s.toList).2.2])∧Below w.heap.size w w':=by
 go_enter Tryz.func13,Tryz.ntmps13
 go_wp2_with (first | (go_at_call 24;refine (zDQ s _ h).mono ?_;rintro e w1 ⟨tv,rfl,⟨ta,tm,tc,rfl⟩,_,hb1⟩))
 refine bodyPost_ret (zDc rfl _ _ _) rfl ⟨rfl,?_⟩
 exact hb1.alloc hb1.size _
namespace P
end P
namespace Q
structure KerOk (ts:List P.Thr):Prop where
 few:ts.length<20
 thr:∀ t∈ts,(∀ s∈t.stmts,StOk s)∧t.stmts.length<900∧codes t.stmts<100000
 rb:∀ r∈runs ts,r.length<100000000
 rn:∀ rs∈runs ts,∀ r∈rs,r.regs.length=4∧∀ e∈r.events,e.hangs<M64
 wd:∀ d,DigOk (zAT (runs ts)) d→WdOk (zIl (runs ts) d)
end Q
theorem zGM (s:ByteArray) (w:World) (hs:s.size≤8192) (h0:(P.kernel s.toList).2.1=0) (hl0:(P.kernel s.toList).2.2=0) (hk:Q.KerOk (P.kernel s.toList).1) (hfin:(Q.zIC (P.kernel s.toList).1).rows.length<100000000) :
  Calls Tryz.prog 13 #[.string s] w fun e w'=>∃ ov vs,e=.returned (.tuple #[ov,.bool (Q.zIC (P.kernel s.toList).1).clash,.int .i64 0,.int .i64 0])∧RowsI w' 0 ov (Q.zIC (P.kernel s.toList).1).rows vs∧Below w.heap.size w w':=by
 have HRD:=zAa (zDQ s w hs)
 unfold Hid at HRD
 rw[h0,hl0] at HRD
 have HRD2:=zAa HRD
 clear HRD h0 hl0
 generalize (P.kernel s.toList).1=ts at *
 have HK:=zAa hk
 have HFIN:=zAa hfin
 clear hk hfin hs
 generalize hq:(Q.zIC ts).clash=qc
 have HQ:=zAa hq
 clear hq
 go_enter Tryz.func13,Tryz.ntmps13
 go_wp2_with (first
  | (go_at_call 24;refine HRD2.out.mono ?_;rintro e w1 ⟨tv,rfl,_,hth,hb1⟩;obtain⟨bt,tc,rfl,hth,_⟩:=hth rfl;have HTH:=zAa (hth.keep (w':=w1.alloc (.cells #[.slice (some ⟨bt,0,none⟩) ts.length tc] 45)) (fun k hk=>Below.heap_alloc _ _ _ hk));have B1:=zAa (hb1.alloc hb1.size (.cells #[.slice (some ⟨bt,0,none⟩) ts.length tc] 45));clear hth hb1)
  | (go_at_call 25;refine (zDC _ bt tc ts _ HTH.out HK.out.few HK.out.thr HK.out.rb HK.out.rn HK.out.wd HFIN.out).mono ?_;rw[HQ.out];rintro e w2 ⟨ov,vs,rfl,hri,hb2⟩;have RI2:=zAa hri;have B2:=zAa (zAn B1.out (Nat.le_refl _) hb2);clear hri hb2))
 refine bodyPost_ret (zDc rfl _ _ _) rfl ⟨ov,vs,rfl,RI2.out,B2.out⟩
end Go.Proofs.YtkmebkbpfmoeaaaGreat
namespace Go.Proofs.YtkmebkbpfmoeaaaGreat
set_option maxRecDepth 100000
namespace Q
def isStp (s:P.Stm):Bool:=s.kind==2||s.kind==3
theorem give_events (m:Mach) (d v:Int) (s:Nat):(m.give d v s).events=m.events:=by unfold Mach.give;split<;>rfl
theorem giveRead_events (m:Mach) (d:Int) (r:Nat):(m.giveRead d r).events=m.events:=give_events _ _ _ _
theorem give_regs (m:Mach) (d v:Int) (s:Nat):(m.give d v s).regs.length=m.regs.length:=by unfold Mach.give;split<;>simp
def adds (m:Mach) (st:P.Stm):List Ev :=
 if st.kind==0 then [{ m.event 0 st with value:=(m.unread % 4:Nat) }]
 else if st.kind==1 then [{ m.event 1 st with value:=m.value st.a,hangs:=m.asked ||| m.madeOf st.a }]
 else if st.kind==2 then [{ m.event 0 st with value:=(m.unread % 4:Nat) },{ m.event 1 st with value:=(m.value st.a+(m.read st).valueOf m.events.length) % 4,hangs:=m.asked ||| (m.madeOf st.a ||| one (m.events.length:Nat)) }]
 else if st.kind==3 then [{ m.event 0 st with value:=(m.unread % 4:Nat) },{ m.event 1 st with value:=m.value st.a,hangs:=m.asked ||| m.madeOf st.a }]
 else if st.kind==4 then [m.event 2 st]
 else if st.kind==5 then [m.event 3 st,m.event 4 st]
 else []
theorem doIt_events (m:Mach) (st:P.Stm):(m.doIt st).events=m.events++adds m st:=by
 unfold Mach.doIt adds
 by_cases h0:(st.kind==0)=true
 ·rw[if_pos h0,if_pos h0,giveRead_events];rfl
 rw[if_neg h0,if_neg h0]
 by_cases h1:(st.kind==1)=true
 ·rw[if_pos h1,if_pos h1];rfl
 rw[if_neg h1,if_neg h1]
 by_cases h2:(st.kind==2)=true
 ·rw[if_pos (by rw[h2];rfl),if_pos h2]
  unfold Mach.step
  rw[if_pos h2,giveRead_events]
  show (m.events++[_])++[_]=_
  rw[List.append_assoc];rfl
 rw[if_neg h2]
 by_cases h3:(st.kind==3)=true
 ·rw[if_pos (by rw[h3];simp),if_pos h3]
  unfold Mach.step
  rw[if_neg h2,giveRead_events]
  show (m.events++[_])++[_]=_
  rw[List.append_assoc];rfl
 rw[if_neg (by simp only[Bool.not_eq_true] at h2 h3;rw[h2,h3];simp),if_neg h3]
 by_cases h4:(st.kind==4)=true
 ·rw[if_pos h4,if_pos h4];rfl
 rw[if_neg h4,if_neg h4]
 by_cases h5:(st.kind==5)=true
 ·rw[if_pos h5,if_pos h5];rfl
 rw[if_neg h5,if_neg h5]
 split
 ·rw[give_events];simp
 ·simp
def addsC (p:Mach × Nat) (st:P.Stm):List Ev:=if p.2==0 then (if st.kind==10 then [] else adds p.1 st) else []
theorem carry_events (p:Mach × Nat) (st:P.Stm):(carry p st).1.events=p.1.events++addsC p st:=by
 unfold carry addsC
 split
 ·split
  ·simp[Mach.ask]
  ·exact doIt_events _ _
 ·split
  ·simp
  ·split<;>simp
theorem adds_len (m:Mach) (st:P.Stm):((adds m st).length:Int)≤(if P.nE st then 1 else 0)+((if isStp st then 1 else 0)+(if st.kind==5 then 1 else 0)):=by
 unfold adds P.nE isStp
 by_cases h0:st.kind=0
 ·simp[h0]
 by_cases h1:st.kind=1
 ·simp[h1]
 by_cases h2:st.kind=2
 ·simp[h2]
 by_cases h3:st.kind=3
 ·simp[h3]
 by_cases h4:st.kind=4
 ·simp[h4]
 by_cases h5:st.kind=5
 ·simp[h5]
 simp[h0,h1,h2,h3,h4,h5]
 split<;>omega
theorem addsC_len (p:Mach × Nat) (st:P.Stm):((addsC p st).length:Int)≤(if P.nE st then 1 else 0)+((if isStp st then 1 else 0)+(if st.kind==5 then 1 else 0)):=by
 have:=adds_len p.1 st
 have h0:(0:Int)≤(if P.nE st then 1 else 0)+((if isStp st then 1 else 0)+(if st.kind==5 then 1 else 0)):=by
  (repeat' split)<;>omega
 unfold addsC
 split
 ·split
  ·simpa using h0
  ·exact this
 ·simpa using h0
theorem adds_sc (m:Mach) (st:P.Stm):(((adds m st).filter isSC).length:Int)≤if P.isF st then 1 else 0:=by
 unfold adds P.isF
 by_cases h0:st.kind=0
 ·simp[h0,isSC,Mach.event]
 by_cases h1:st.kind=1
 ·simp[h1,isSC,Mach.event]
 by_cases h2:st.kind=2
 ·simp[h2,isSC,Mach.event]
 by_cases h3:st.kind=3
 ·simp[h3,isSC,Mach.event]
 by_cases h4:st.kind=4
 ·by_cases h5:st.order=5
  ·simp[h4,h5,isSC,Mach.event]
  ·simp[h4,h5,isSC,Mach.event]
 by_cases h5:st.kind=5
 ·simp[h5,isSC,Mach.event]
 simp[h0,h1,h2,h3,h4,h5]
theorem addsC_sc (p:Mach × Nat) (st:P.Stm):(((addsC p st).filter isSC).length:Int)≤if P.isF st then 1 else 0:=by
 have:=adds_sc p.1 st
 have h0:(0:Int)≤if P.isF st then 1 else 0:=by split<;>omega
 unfold addsC
 split
 ·split
  ·simpa using h0
  ·exact this
 ·simpa using h0
theorem fold_len:∀ (ss:List P.Stm) (p:Mach × Nat),((ss.foldl carry p).1.events.length:Int)≤p.1.events.length+(P.cnt P.nE ss+(P.cnt isStp ss+P.bars ss))
 | [],p=>by simp[P.cnt,P.bars]
 | s::ss,p=>by
  rw[List.foldl_cons]
  have h1:=fold_len ss (carry p s)
  have h2:=addsC_len p s
  rw[carry_events,List.length_append] at h1
  simp only[P.cnt,P.bars]
  push_cast at h1
  omega
theorem fold_sc:∀ (ss:List P.Stm) (p:Mach × Nat),(((ss.foldl carry p).1.events.filter isSC).length:Int)≤(p.1.events.filter isSC).length+P.cnt P.isF ss
 | [],p=>by simp[P.cnt]
 | s::ss,p=>by
  rw[List.foldl_cons]
  have h1:=fold_sc ss (carry p s)
  have h2:=addsC_sc p s
  rw[carry_events,List.filter_append,List.length_append] at h1
  simp only[P.cnt]
  push_cast at h1
  omega
theorem fold_ok:∀ (ss:List P.Stm) (p:Mach × Nat) (n:Nat),(∀ s∈ss,StOk s)→p.1.Ok n→(ss.foldl carry p).1.Ok (n+ss.length)
 | [],p,n,_,h=>h
 | s::ss,p,n,hs,h=>by
  rw[List.foldl_cons,List.length_cons,show n+(ss.length+1)=n+1+ss.length by omega]
  exact fold_ok ss _ _ (fun x hx=>hs x (List.mem_cons_of_mem _ hx)) (carry_ok h (hs s (by simp)))
theorem doIt_regs (m:Mach) (st:P.Stm):(m.doIt st).regs.length=m.regs.length:=by
 unfold Mach.doIt Mach.giveRead Mach.step Mach.giveRead
 split
 ·rw[give_regs];rfl
 split
 ·rfl
 split
 ·rw[give_regs];split<;>rfl
 split
 ·rfl
 split
 ·rfl
 split
 ·rw[give_regs]
 ·rfl
theorem carry_regs (p:Mach × Nat) (st:P.Stm):(carry p st).1.regs.length=p.1.regs.length:=by
 unfold carry
 split
 ·split
  ·rfl
  ·exact doIt_regs _ _
 ·split
  ·rfl
  ·split<;>rfl
theorem fold_regs:∀ (ss:List P.Stm) (p:Mach × Nat),(ss.foldl carry p).1.regs.length=p.1.regs.length
 | [],p=>rfl
 | s::ss,p=>by rw[List.foldl_cons,fold_regs ss,carry_regs]
structure RunOk (r:Run) (t:P.Thr):Prop where
 regs:r.regs.length=4
 vals:∀ x∈r.regs,0≤x∧x<4
 evs:∀ e∈r.events,0≤e.value∧e.value<4∧e.hangs<M64
 len:(r.events.length:Int)≤P.cnt P.nE t.stmts+(P.cnt isStp t.stmts+P.bars t.stmts)
 sc:((r.events.filter isSC).length:Int)≤P.cnt P.isF t.stmts
theorem codes_pow:∀ (ss:List P.Stm) (c:Nat),((ss.foldl (fun c st=>if P.reads st.kind then c*4 else c) c:Nat):Int)=c*4 ^ (P.cnt P.isR ss).toNat
 | [],c=>by simp[P.cnt]
 | s::ss,c=>by
  rw[List.foldl_cons,codes_pow ss]
  have hb:=(P.zJw P.isR ss).1
  simp only[P.cnt]
  have e:P.isR s=P.reads s.kind:=rfl
  rw[e]
  cases hr:P.reads s.kind
  ·simp
  ·simp only[if_true]
   rw[show (1+P.cnt P.isR ss).toNat=(P.cnt P.isR ss).toNat+1 by omega,Int.pow_succ]
   push_cast
   rw[Int.mul_comm (4 ^ _) 4,Int.mul_assoc]
theorem codes_eq (ss:List P.Stm):codes ss=4 ^ (P.cnt P.isR ss).toNat:=by
 have:=codes_pow ss 1
 unfold codes
 have h2:((4 ^ (P.cnt P.isR ss).toNat:Nat):Int)=4 ^ (P.cnt P.isR ss).toNat:=by push_cast;rfl
 rw[← Int.natCast_inj,this,h2];simp
theorem run_ok {t:P.Thr} {i:Nat} (hs:∀ s∈t.stmts,StOk s) (hc:codes t.stmts<1000000000) {r:Run} (h:r∈zJS t i):RunOk r t:=by
 unfold zJS zIU at h
 obtain⟨c,hcm,rfl⟩:=List.mem_map.1 h
 have hlt:c<codes t.stmts:=by simpa using (List.mem_filter.1 hcm).1
 have h1:=fold_ok t.stmts (Mach.start i t.block c,0) 0 hs (start_ok _ _ _ (by omega))
 have h2:=fold_len t.stmts (Mach.start i t.block c,0)
 have h3:=fold_sc t.stmts (Mach.start i t.block c,0)
 have h4:=fold_regs t.stmts (Mach.start i t.block c,0)
 simp only[Mach.start,List.filter_nil,List.length_nil] at h2 h3
 exact⟨h4,h1.regs,h1.evs,by simp only[runAt,zJB,Mach.run];simp only[Mach.start];push_cast at h2;omega,by simp only[runAt,zJB,Mach.run];simp only[Mach.start];push_cast at h3;omega⟩
end Q
end Go.Proofs.YtkmebkbpfmoeaaaGreat
