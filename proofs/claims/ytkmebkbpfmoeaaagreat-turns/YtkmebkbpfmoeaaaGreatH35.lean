import Derived.Test.YtkmebkbpfmoeaaaGreatH34
set_option linter.unusedVariables false
set_option linter.unusedSimpArgs false
set_option maxHeartbeats 12800000
namespace Go.Proofs.YtkmebkbpfmoeaaaGreat
open Go Go.RowKit
set_option maxRecDepth 100000
namespace Q
theorem zKk {α:Type} (F:Ans→α→Ans) (hF:∀ a x,a.rows.length≤(F a x).rows.length):∀ (l:List α) (a:Ans),a.rows.length≤(l.foldl F a).rows.length
 | [],a=>Nat.le_refl _
 | x::l,a=>by rw[List.foldl_cons];exact Nat.le_trans (hF a x) (zKk F hF l _)
theorem srcOrder_rows (wd:Wd) (f:Facts) (rd bf:List Nat) (a:Ans) (ds:List Int):a.rows.length≤(zIG wd f rd bf a ds).rows.length:=by
 unfold zIG;split
 ·exact ins_len _ _
 ·exact Nat.le_refl _
end Q
theorem zHn {w1 W1:World} {gr gb gd:Nat} {rs bs:List Int} (hr:zAp w1 gr rs) (hb:zAp w1 gb bs) (hd:zAp w1 gd (Q.zeros bs.length)) (n1:gr≠gd) (n2:gb≠gd) (hl:bs.length=rs.length)
  (hgo:W1.heap[w1.heap.size]?=some (.cells #[.slice (some ⟨gr,0,none⟩) rs.length rs.length,.slice (some ⟨gb,0,none⟩) bs.length bs.length,.slice (some ⟨gd,0,none⟩) bs.length bs.length,.bool false] 108 (0,0))) (hB:Below w1.heap.size w1 W1):OrdOn W1 w1.heap.size gr gb gd rs bs (Q.zeros bs.length) (Q.zIE bs):=by
 obtain⟨t0,t1,t2,t3,tf,tl⟩:=zBZ hgo
 have l1:=hr.lt
 have l2:=hb.lt
 have l3:=hd.lt
 have e:(Q.zeros bs.length).length=bs.length:=by simp[Q.zeros]
 exact⟨t0,hr.below hB,⟨false,⟨t1,by rw[e];exact t2,t3,tf,tl,hb.below hB,hd.below hB,by omega,by omega,n2,e⟩,Or.inl ⟨rfl,rfl,rfl⟩⟩,hl,n1,by omega⟩
def zDT (w W1:World) (g go gr gb gd:Nat) (ov0:Value) (fp0:List Nat) (wd:Q.Wd) (f:Q.Facts) (rd bf:List Nat) (fin:Q.Ans) (wr:World) (n:Nat):Prop :=
 ∃ ds rest a ov vs fp,OrdSt w W1 wr g go gr gb gd ov0 fp0 (Q.zIj wd.events) (Q.zIp wd.events (Q.zIj wd.events)) ds rest a ov vs fp∧rest.foldl (Q.zIG wd f rd bf) a=fin∧rest.length=n
theorem zEe (g:Nat) (an:Q.Ans) (ov:Value) (vs:List Value) (fp:List Nat) (ev rg:Value) (wd:Q.Wd) (fa:FA) (f:Q.Facts) (gq:Nat) (rd:List Nat) (gf:Nat) (bf:List Nat) (w:World) (hA:AnsOn w g an ov vs fp) (hw:WdIn w ev rg wd) (hok:Q.WdOk wd) (hf:FactsIn w fa f) (hfe:f.events=wd.events) (hr:RelAt w gq fa.n rd) (hb:RelAt w gf fa.n bf) (hap:∀ k,rg.ownBlock=some k→¬ Wr g ov k) (hfin:(Q.zJp wd f rd bf an).rows.length<100000000) :
  Calls Tryz.prog 34 #[.pointer (some ⟨g,0,none⟩),.agg #[ev,rg],.agg (zCO fa gq gf)] w fun e w'=>e=.returned (.tuple #[])∧∃ ov' vs' fp',AnsOn w' g (Q.zJp wd f rd bf an) ov' vs' fp'∧AFrame (Wr g ov) w w' ov ov' fp fp':=by
 obtain⟨ea,ec,rfl,_⟩:=hw.evs.form
 obtain⟨ra,rc,rfl,_⟩:=hw.regs.form
 obtain⟨x,c,hev,_⟩:=hf.form
 have hnl:fa.n=wd.events.length:=by rw[← hf.len,hfe]
 obtain⟨n,ev,g1,g2,g3,g4,g5,g6,g7,g8,g9⟩:=fa
 simp only at hev hr hb hnl
 subst hev
 simp only[zCO]
 obtain⟨k0,k1,hsz,hbw⟩:=zBM w #[.slice ea wd.events.length ec,.slice ra wd.regs.length rc] #[.slice x n c,.slice (some ⟨g1,0,none⟩) n n,.slice (some ⟨g2,0,none⟩) n n,.slice (some ⟨g3,0,none⟩) n n,.slice (some ⟨g4,0,none⟩) n n,.slice (some ⟨g5,0,none⟩) n n,.slice (some ⟨g6,0,none⟩) n n,.slice (some ⟨g7,0,none⟩) n n,.slice (some ⟨g8,0,none⟩) n n,.slice (some ⟨g9,0,none⟩) n n,.slice (some ⟨gq,0,none⟩) n n,.slice (some ⟨gf,0,none⟩) n n] 61 80
 have HA0:=zAa hA
 have HW0:=zAa hw
 have HF0:=zAa hf
 have HR0:=zAa hr
 have HB0:=zAa hb
 have HWb:=zAa (hw.below hbw)
 have BW0:=zAa hbw
 have HAP:=zAa hap
 have HOK:=zAa hok
 have HFE:=zAa hfe
 have HNL:=zAa hnl
 have HFIN:=zAa hfin
 have hn64:=hok.le
 have lg:=hA.out.lt
 have HOL:=zAa hA.out.ownlt
 have HFPL:=zAa hA.out.fpl
 have HWL:=zAa (Q.writeRows_len wd.events)
 have HBL:=zAa (Q.ordBases_len wd.events (Q.zIj wd.events))
 have HBM:=zAa (Q.ordBases_mem wd.events (Q.zIj wd.events) (by rw[HWL.out];exact hn64))
 have hwl64:(Q.zIj wd.events).length≤64:=by rw[HWL.out];exact hn64
 have hbl64:(Q.zIp wd.events (Q.zIj wd.events)).length<10000:=by rw[HBL.out];omega
 have HFO:Hid ((Q.zIE (Q.zIp wd.events (Q.zIj wd.events))).foldl (Q.zIG wd f rd bf) an=Q.zJp wd f rd bf an):=rfl
 generalize Q.zJp wd f rd bf an=fin at *
 clear hbw hf hr hb hA hw hap hok hfe hnl hfin
 go_enter Tryz.func34,Tryz.ntmps34
 go_upto_region 1 with fail
 generalize hE:(w.alloc (.cells #[.slice ea wd.events.length ec,.slice ra wd.regs.length rc] 61)).alloc (.cells #[.slice x n c,.slice (some ⟨g1,0,none⟩) n n,.slice (some ⟨g2,0,none⟩) n n,.slice (some ⟨g3,0,none⟩) n n,.slice (some ⟨g4,0,none⟩) n n,.slice (some ⟨g5,0,none⟩) n n,.slice (some ⟨g6,0,none⟩) n n,.slice (some ⟨g7,0,none⟩) n n,.slice (some ⟨g8,0,none⟩) n n,.slice (some ⟨g9,0,none⟩) n n,.slice (some ⟨gq,0,none⟩) n n,.slice (some ⟨gf,0,none⟩) n n] 80)=W0 at *
 have l0:w.heap.size<W0.heap.size:=by omega
 have l1:w.heap.size+1<W0.heap.size:=by omega
 have K0:=zAa k0
 have K1:=zAa k1
 have c00:=ceL k0 0 _ rfl
 have c01:=ceL k0 1 _ rfl
 clear hE hsz k0 k1
 go_upto_region 2 with (first
  | (go_at_call 55;refine (zDz _ _ wd.events _ HWb.out.evs ⟨_,_,_,rfl⟩ hn64).mono ?_;rintro e w1 ⟨gr,gb,gd,rfl,hir,hib,hid,hgr,hgb,hgd,hn1,hn2,hb1⟩;have B1:=zAa hb1;have IR:=zAa hir;have IB:=zAa hib;have ID:=zAa hid;clear hir hib hid hb1))
 have S0:Hid ((w1.alloc (.cells #[.slice (some ⟨gr,0,none⟩) (Q.zIj wd.events).length (Q.zIj wd.events).length,.slice (some ⟨gb,0,none⟩) (Q.zIp wd.events (Q.zIj wd.events)).length (Q.zIp wd.events (Q.zIj wd.events)).length,.slice (some ⟨gd,0,none⟩) (Q.zIp wd.events (Q.zIj wd.events)).length (Q.zIp wd.events (Q.zIj wd.events)).length,.bool false] 108)).heap[w1.heap.size]?=some (.cells #[.slice (some ⟨gr,0,none⟩) (Q.zIj wd.events).length (Q.zIj wd.events).length,.slice (some ⟨gb,0,none⟩) (Q.zIp wd.events (Q.zIj wd.events)).length (Q.zIp wd.events (Q.zIj wd.events)).length,.slice (some ⟨gd,0,none⟩) (Q.zIp wd.events (Q.zIj wd.events)).length (Q.zIp wd.events (Q.zIj wd.events)).length,.bool false] 108 (0,0))):=heap_alloc_new w1 _
 have BL:Hid (Below w1.heap.size w1 (w1.alloc (.cells #[.slice (some ⟨gr,0,none⟩) (Q.zIj wd.events).length (Q.zIj wd.events).length,.slice (some ⟨gb,0,none⟩) (Q.zIp wd.events (Q.zIj wd.events)).length (Q.zIp wd.events (Q.zIj wd.events)).length,.slice (some ⟨gd,0,none⟩) (Q.zIp wd.events (Q.zIj wd.events)).length (Q.zIp wd.events (Q.zIj wd.events)).length,.bool false] 108))):=(Below.refl _ _).alloc (Nat.le_refl _) _
 generalize w1.alloc (.cells #[.slice (some ⟨gr,0,none⟩) (Q.zIj wd.events).length (Q.zIj wd.events).length,.slice (some ⟨gb,0,none⟩) (Q.zIp wd.events (Q.zIj wd.events)).length (Q.zIp wd.events (Q.zIj wd.events)).length,.slice (some ⟨gd,0,none⟩) (Q.zIp wd.events (Q.zIj wd.events)).length (Q.zIp wd.events (Q.zIj wd.events)).length,.bool false] 108)=W1 at *
 have hs1:=B1.out.size
 have hs2:=BL.out.size
 have hs3:w1.heap.size<W1.heap.size:=(Array.getElem?_eq_some_iff.1 S0.out).1
 have hl1:=IR.out.lt
 have hl2:=IB.out.lt
 have hl3:=ID.out.lt
 have BWW:Hid (Below w.heap.size w W1):=zAn (zAn BW0.out (Nat.le_refl _) B1.out) (Nat.le_refl _) BL.out
 have INI:Hid (zDT w W1 g w1.heap.size gr gb gd ov fp wd f rd bf fin W1 (Q.zIE (Q.zIp wd.events (Q.zIj wd.events))).length):=⟨_,_,an,ov,vs,fp,⟨⟨lg,HOL.out,HFPL.out,⟨by omega,by omega⟩,⟨by omega,by omega⟩,⟨by omega,by omega⟩,⟨by omega,by omega⟩⟩,AFrame.refl _ _ _ _,zHn IR.out IB.out ID.out hn1 hn2 HBL.out S0.out BL.out,HA0.out.below BWW.out⟩,HFO.out,rfl⟩
 have K0':=zAa ((BL.out.block _ (by omega)).trans ((B1.out.block _ l0).trans K0.out))
 have K1':=zAa ((BL.out.block _ (by omega)).trans ((B1.out.block _ l1).trans K1.out))
 clear K0 K1
 have K0:=K0'
 have K1:=K1'
 have l0':w.heap.size<W1.heap.size:=by omega
 have l1':w.heap.size+1<W1.heap.size:=by omega
 have hgo:w.heap.size+2≤w1.heap.size:=by omega
 have hgd2:w.heap.size+2≤gd:=by omega
 have hrg1:wd.regs.length<1000:=by have:=HOK.out.regs;omega
 clear K0' K1' BL B1 S0 IR IB ID c00 c01 hs1 hs2 hl1 hl2 hl3 hgr hgb hgd
 generalize w1.heap.size=go at *
 clear hs3
 obtain⟨μ,hμ⟩:=zCH (zDT w W1 g go gr gb gd ov fp wd f rd bf fin)
 have HMU:=zAa hμ
 clear hμ
 go_loopw [] (fun wr=>∃ n,Hid (zDT w W1 g go gr gb gd ov fp wd f rd bf fin wr n)) (fun wr=>μ wr)
 case atStart=>exact⟨_,INI⟩
 case round =>
  obtain⟨hI,hmin⟩:=HMU.out wr (by obtain⟨n,h⟩:=hrel;exact⟨n,h.out⟩)
  clear hrel hmin INI
  obtain⟨ds1,rest1,a1,ov1,vs1,fp1,hST,hFD,hlen⟩:=hI
  have ST:=zAa hST
  have FD:=zAa hFD
  have HL:=zAa hlen
  have hrows:a1.rows.length<100000000:=by
   have:=Q.zKk _ (Q.srcOrder_rows wd f rd bf) rest1 a1
   rw[hFD] at this
   have:=HFIN.out
   omega
  have lgo:=Nat.lt_of_lt_of_le hST.base.go1.2 hST.fr.xf.size
  clear hST hFD hlen
  go_upto_region 3 with (first | (go_at_call 56;refine (zFb go gr gb gd _ _ ds1 rest1 _ ST.out.ord hbl64 HBM.out).mono ?_;rintro e w2 ⟨h1,hT⟩;have HT:=zAa hT;clear hT;rcases h1 with ⟨hr,rfl⟩ | ⟨r,q,hr,rfl,hon,hdo⟩))
  ·go_wp2
   go_end0
   obtain⟨hq1,hq2⟩:=ST.out.tick0 HT.out BWW.out
   have h3:=FD.out
   rw[hr] at h3
   simp only[List.foldl_nil] at h3
   rw[← h3]
   exact⟨rfl,ov1,vs1,fp1,hq1,hq2⟩
  ·have ST2:=zAa (ST.out.tick HT.out hon)
   have HDO:=zAa hdo
   have FD2:Hid (q.foldl (Q.zIG wd f rd bf) (Q.zIG wd f rd bf a1 r)=fin):=by
    have h3:=FD.out
    rw[hr,List.foldl_cons] at h3
    exact h3
   have HL2:Hid (q.length+1=μ wr):=by
    have h3:=HL.out
    rw[hr,List.length_cons] at h3
    exact h3
   have HPW:Hid ((Q.zIv (Q.zIj wd.events) r).length=wd.events.length):=by unfold Hid;rw[Q.zIy,HWL.out]
   have HPL:Hid ((Q.zIv (Q.zIj wd.events) r).length=n):=by unfold Hid;rw[HPW.out,HNL.out]
   have lgo2:go<w2.heap.size:=by rw[HT.out.size];exact lgo
   clear ST FD HL hr hon hdo HT
   cases zm:f.mayBe rd bf (Q.zIv (Q.zIj wd.events) r)
   ·have HSO:Hid (Q.zIG wd f rd bf a1 r=a1):=by unfold Hid Q.zIG;rw[zm];rfl
    go_wp2_with (first
     | (go_at_call 58;refine (zDB (FA.mk n (.slice x n c) g1 g2 g3 g4 g5 g6 g7 g8 g9) f gq rd gf bf _ FI3.out RR3.out RB3.out _ (Q.zIv (Q.zIj wd.events) r) RI3.out HPL.out).mono ?_;rintro e w4 ⟨rfl,hb4⟩;rw[zm];have ST4:=zAa (ST3.out.below hb4);have RI4:=zAa (RI3.out.below hb4);have WI4:=zAa (HW0.out.wr HA0.out HAP.out (ST4.out.done BWW.out).xf.block (ST4.out.done BWW.out).xf.size);have ls4:=Nat.lt_of_lt_of_le l0' ST4.out.fr.xf.size;have kk0:w4.heap[w.heap.size]?=some (.cells #[.slice ea wd.events.length ec,.slice ra wd.regs.length rc] 61 (0,0)):=ST4.out.box _ (by omega) l0' (by omega) (by omega) |>.trans K0.out;have u0:=ceL kk0 0 _ rfl;have u1:=ceL kk0 1 _ rfl;clear kk0;clear hb4)
     | (go_at_call 57;refine (zCN go gr gb gd _ _ r q _ ST2.out.ord HDO.out HBM.out hwl64).mono ?_;rintro e w3 ⟨gp,rfl,hip,hgp,hb3⟩;have ST3:=zAa (ST2.out.below hb3);have RI3:Hid (zBA w3 (.slice (some ⟨gp,0,none⟩) (Q.zIj wd.events).length (Q.zIj wd.events).length) (Q.zIv (Q.zIj wd.events) r)):=(by have h9:=hip.rowI (Q.zIj wd.events).length (by rw[Q.zIy];exact Nat.le_refl _);rw[Q.zIy] at h9;exact h9);have FI3:=zAa (HF0.out.wr HA0.out (ST3.out.done BWW.out).xf.block);have RR3:=zAa (HR0.out.wr HA0.out (ST3.out.done BWW.out).xf.block);have RB3:=zAa (HB0.out.wr HA0.out (ST3.out.done BWW.out).xf.block);have ls3:=Nat.lt_of_lt_of_le l1' ST3.out.fr.xf.size;have ls3b:=Nat.lt_of_lt_of_le l0' ST3.out.fr.xf.size;have kk1:w3.heap[w.heap.size+1]?=some (.cells #[.slice x n c,.slice (some ⟨g1,0,none⟩) n n,.slice (some ⟨g2,0,none⟩) n n,.slice (some ⟨g3,0,none⟩) n n,.slice (some ⟨g4,0,none⟩) n n,.slice (some ⟨g5,0,none⟩) n n,.slice (some ⟨g6,0,none⟩) n n,.slice (some ⟨g7,0,none⟩) n n,.slice (some ⟨g8,0,none⟩) n n,.slice (some ⟨g9,0,none⟩) n n,.slice (some ⟨gq,0,none⟩) n n,.slice (some ⟨gf,0,none⟩) n n] 80 (0,0)):=ST3.out.box _ (by omega) l1' (by omega) (by omega) |>.trans K1.out;have d0:=ceL kk1 0 _ rfl;have d1:=ceL kk1 1 _ rfl;have d2:=ceL kk1 2 _ rfl;have d3:=ceL kk1 3 _ rfl;have d4:=ceL kk1 4 _ rfl;have d5:=ceL kk1 5 _ rfl;have d6:=ceL kk1 6 _ rfl;have d7:=ceL kk1 7 _ rfl;have d8:=ceL kk1 8 _ rfl;have d9:=ceL kk1 9 _ rfl;have d10:=ceL kk1 10 _ rfl;have d11:=ceL kk1 11 _ rfl;clear kk1;clear hip hb3))
    have hR:zDT w W1 g go gr gb gd ov fp wd f rd bf fin w4 q.length:=⟨r,q,a1,ov1,vs1,fp1,ST4.out,by have h3:=FD2.out;rw[HSO.out] at h3;exact h3,rfl⟩
    go_roundw
    case rel=>exact⟨_,hR⟩
    case measure =>
     have h1:=(HMU.out _ ⟨_,hR⟩).2 _ hR
     have h2:=HL2.out
     omega
   ·cases zc:a1.clash
    ·have HSO:Hid (Q.zIG wd f rd bf a1 r=⟨Q.ins a1.rows (Q.zJJ wd (Q.zIv (Q.zIj wd.events) r)),f.clashes bf⟩):=by unfold Hid Q.zIG;rw[zm,zc];rfl
     go_wp2_with (first
      | (go_at_call 61;refine (zFl (FA.mk n (.slice x n c) g1 g2 g3 g4 g5 g6 g7 g8 g9) f gf bf _ FI6.out RB6.out).mono ?_;rintro e w7 ⟨rfl,hb7⟩;have ST7:=zAa (ST6.out.below hb7);have p7:=ST7.out.ans.clash;simp only[zc] at p7;have lg7:=ST7.out.ans.out.lt;have fz7:=ST7.out.ans.free1;clear hb7)
      | (go_at_call 60;refine (zDR 0 g _ ov1 a1.rows vs1 fp1 (Q.zJJ wd (Q.zIv (Q.zIj wd.events) r)) _ ST5.out.ans.out RO5.out ST5.out.ans.ok.rise ST5.out.ans.ok.small (Q.zIJ HOK.out _) hrows (Nat.zero_le _) HVO.out).mono ?_;rintro e w6 ⟨rfl,ov6,vs6,fp6,ho6,hof6⟩;have ST6:=zAa (ST5.out.add (Q.zIJ HOK.out _) ho6 hof6);have p6:=ST6.out.ans.clash;simp only[zc] at p6;have lg6:=ST6.out.ans.out.lt;have fz6:=ST6.out.ans.free1;have FI6:=zAa (HF0.out.wr HA0.out (ST6.out.done BWW.out).xf.block);have RB6:=zAa (HB0.out.wr HA0.out (ST6.out.done BWW.out).xf.block);have ls6:=Nat.lt_of_lt_of_le l1' ST6.out.fr.xf.size;have kk1:w6.heap[w.heap.size+1]?=some (.cells #[.slice x n c,.slice (some ⟨g1,0,none⟩) n n,.slice (some ⟨g2,0,none⟩) n n,.slice (some ⟨g3,0,none⟩) n n,.slice (some ⟨g4,0,none⟩) n n,.slice (some ⟨g5,0,none⟩) n n,.slice (some ⟨g6,0,none⟩) n n,.slice (some ⟨g7,0,none⟩) n n,.slice (some ⟨g8,0,none⟩) n n,.slice (some ⟨g9,0,none⟩) n n,.slice (some ⟨gq,0,none⟩) n n,.slice (some ⟨gf,0,none⟩) n n] 80 (0,0)):=ST6.out.box _ (by omega) l1' (by omega) (by omega) |>.trans K1.out;have m0:=ceL kk1 0 _ rfl;have m1:=ceL kk1 1 _ rfl;have m2:=ceL kk1 2 _ rfl;have m3:=ceL kk1 3 _ rfl;have m4:=ceL kk1 4 _ rfl;have m5:=ceL kk1 5 _ rfl;have m6:=ceL kk1 6 _ rfl;have m7:=ceL kk1 7 _ rfl;have m8:=ceL kk1 8 _ rfl;have m9:=ceL kk1 9 _ rfl;have m11:=ceL kk1 11 _ rfl;clear kk1;clear ho6 hof6)
      | (go_at_call 59;refine (zDv _ _ _ wd (Q.zIv (Q.zIj wd.events) r) _ WI4.out RI4.out HPW.out hn64 hrg1).mono ?_;rintro e w5 ⟨vo,rfl,hro,hfo,hb5⟩;have ST5:=zAa (ST4.out.below hb5);have HVO:Hid (∀ k,vo.ownBlock=some k→k≠g∧ov1.ownBlock≠some k):=(fun k e=>⟨fun e2=>by have:=hfo k e;have:=ST4.out.ans.out.lt;omega,fun e2=>by have:=hfo k e;have:=ST4.out.ans.out.ownlt k e2;omega⟩);have RO5:=zAa hro;obtain⟨va,vc,hvo,_⟩:=hro.form;subst hvo;have lg5:=ST5.out.ans.out.lt;clear hro hfo hb5)
      | (go_at_call 58;refine (zDB (FA.mk n (.slice x n c) g1 g2 g3 g4 g5 g6 g7 g8 g9) f gq rd gf bf _ FI3.out RR3.out RB3.out _ (Q.zIv (Q.zIj wd.events) r) RI3.out HPL.out).mono ?_;rintro e w4 ⟨rfl,hb4⟩;rw[zm];have ST4:=zAa (ST3.out.below hb4);have RI4:=zAa (RI3.out.below hb4);have WI4:=zAa (HW0.out.wr HA0.out HAP.out (ST4.out.done BWW.out).xf.block (ST4.out.done BWW.out).xf.size);have ls4:=Nat.lt_of_lt_of_le l0' ST4.out.fr.xf.size;have kk0:w4.heap[w.heap.size]?=some (.cells #[.slice ea wd.events.length ec,.slice ra wd.regs.length rc] 61 (0,0)):=ST4.out.box _ (by omega) l0' (by omega) (by omega) |>.trans K0.out;have u0:=ceL kk0 0 _ rfl;have u1:=ceL kk0 1 _ rfl;clear kk0;clear hb4)
      | (go_at_call 57;refine (zCN go gr gb gd _ _ r q _ ST2.out.ord HDO.out HBM.out hwl64).mono ?_;rintro e w3 ⟨gp,rfl,hip,hgp,hb3⟩;have ST3:=zAa (ST2.out.below hb3);have RI3:Hid (zBA w3 (.slice (some ⟨gp,0,none⟩) (Q.zIj wd.events).length (Q.zIj wd.events).length) (Q.zIv (Q.zIj wd.events) r)):=(by have h9:=hip.rowI (Q.zIj wd.events).length (by rw[Q.zIy];exact Nat.le_refl _);rw[Q.zIy] at h9;exact h9);have FI3:=zAa (HF0.out.wr HA0.out (ST3.out.done BWW.out).xf.block);have RR3:=zAa (HR0.out.wr HA0.out (ST3.out.done BWW.out).xf.block);have RB3:=zAa (HB0.out.wr HA0.out (ST3.out.done BWW.out).xf.block);have ls3:=Nat.lt_of_lt_of_le l1' ST3.out.fr.xf.size;have ls3b:=Nat.lt_of_lt_of_le l0' ST3.out.fr.xf.size;have kk1:w3.heap[w.heap.size+1]?=some (.cells #[.slice x n c,.slice (some ⟨g1,0,none⟩) n n,.slice (some ⟨g2,0,none⟩) n n,.slice (some ⟨g3,0,none⟩) n n,.slice (some ⟨g4,0,none⟩) n n,.slice (some ⟨g5,0,none⟩) n n,.slice (some ⟨g6,0,none⟩) n n,.slice (some ⟨g7,0,none⟩) n n,.slice (some ⟨g8,0,none⟩) n n,.slice (some ⟨g9,0,none⟩) n n,.slice (some ⟨gq,0,none⟩) n n,.slice (some ⟨gf,0,none⟩) n n] 80 (0,0)):=ST3.out.box _ (by omega) l1' (by omega) (by omega) |>.trans K1.out;have d0:=ceL kk1 0 _ rfl;have d1:=ceL kk1 1 _ rfl;have d2:=ceL kk1 2 _ rfl;have d3:=ceL kk1 3 _ rfl;have d4:=ceL kk1 4 _ rfl;have d5:=ceL kk1 5 _ rfl;have d6:=ceL kk1 6 _ rfl;have d7:=ceL kk1 7 _ rfl;have d8:=ceL kk1 8 _ rfl;have d9:=ceL kk1 9 _ rfl;have d10:=ceL kk1 10 _ rfl;have d11:=ceL kk1 11 _ rfl;clear kk1;clear hip hb3))
     have hR:zDT w W1 g go gr gb gd ov fp wd f rd bf fin (w7.setCell ⟨g,1,none⟩ (.bool (f.clashes bf))) q.length:=⟨r,q,_,_,_,_,ST7.out.setClash (f.clashes bf),by have h3:=FD2.out;rw[HSO.out] at h3;exact h3,rfl⟩
     go_roundw
     case rel=>exact⟨_,hR⟩
     case measure =>
      have h1:=(HMU.out _ ⟨_,hR⟩).2 _ hR
      have h2:=HL2.out
      omega
    ·have HSO:Hid (Q.zIG wd f rd bf a1 r=⟨Q.ins a1.rows (Q.zJJ wd (Q.zIv (Q.zIj wd.events) r)),true⟩):=by unfold Hid Q.zIG;rw[zm,zc];rfl
     go_wp2_with (first
      | (go_at_call 60;refine (zDR 0 g _ ov1 a1.rows vs1 fp1 (Q.zJJ wd (Q.zIv (Q.zIj wd.events) r)) _ ST5.out.ans.out RO5.out ST5.out.ans.ok.rise ST5.out.ans.ok.small (Q.zIJ HOK.out _) hrows (Nat.zero_le _) HVO.out).mono ?_;rintro e w6 ⟨rfl,ov6,vs6,fp6,ho6,hof6⟩;have ST6:=zAa (ST5.out.add (Q.zIJ HOK.out _) ho6 hof6);have p6:=ST6.out.ans.clash;simp only[zc] at p6;have lg6:=ST6.out.ans.out.lt;have fz6:=ST6.out.ans.free1;have FI6:=zAa (HF0.out.wr HA0.out (ST6.out.done BWW.out).xf.block);have RB6:=zAa (HB0.out.wr HA0.out (ST6.out.done BWW.out).xf.block);have ls6:=Nat.lt_of_lt_of_le l1' ST6.out.fr.xf.size;have kk1:w6.heap[w.heap.size+1]?=some (.cells #[.slice x n c,.slice (some ⟨g1,0,none⟩) n n,.slice (some ⟨g2,0,none⟩) n n,.slice (some ⟨g3,0,none⟩) n n,.slice (some ⟨g4,0,none⟩) n n,.slice (some ⟨g5,0,none⟩) n n,.slice (some ⟨g6,0,none⟩) n n,.slice (some ⟨g7,0,none⟩) n n,.slice (some ⟨g8,0,none⟩) n n,.slice (some ⟨g9,0,none⟩) n n,.slice (some ⟨gq,0,none⟩) n n,.slice (some ⟨gf,0,none⟩) n n] 80 (0,0)):=ST6.out.box _ (by omega) l1' (by omega) (by omega) |>.trans K1.out;have m0:=ceL kk1 0 _ rfl;have m1:=ceL kk1 1 _ rfl;have m2:=ceL kk1 2 _ rfl;have m3:=ceL kk1 3 _ rfl;have m4:=ceL kk1 4 _ rfl;have m5:=ceL kk1 5 _ rfl;have m6:=ceL kk1 6 _ rfl;have m7:=ceL kk1 7 _ rfl;have m8:=ceL kk1 8 _ rfl;have m9:=ceL kk1 9 _ rfl;have m11:=ceL kk1 11 _ rfl;clear kk1;clear ho6 hof6)
      | (go_at_call 59;refine (zDv _ _ _ wd (Q.zIv (Q.zIj wd.events) r) _ WI4.out RI4.out HPW.out hn64 hrg1).mono ?_;rintro e w5 ⟨vo,rfl,hro,hfo,hb5⟩;have ST5:=zAa (ST4.out.below hb5);have HVO:Hid (∀ k,vo.ownBlock=some k→k≠g∧ov1.ownBlock≠some k):=(fun k e=>⟨fun e2=>by have:=hfo k e;have:=ST4.out.ans.out.lt;omega,fun e2=>by have:=hfo k e;have:=ST4.out.ans.out.ownlt k e2;omega⟩);have RO5:=zAa hro;obtain⟨va,vc,hvo,_⟩:=hro.form;subst hvo;have lg5:=ST5.out.ans.out.lt;clear hro hfo hb5)
      | (go_at_call 58;refine (zDB (FA.mk n (.slice x n c) g1 g2 g3 g4 g5 g6 g7 g8 g9) f gq rd gf bf _ FI3.out RR3.out RB3.out _ (Q.zIv (Q.zIj wd.events) r) RI3.out HPL.out).mono ?_;rintro e w4 ⟨rfl,hb4⟩;rw[zm];have ST4:=zAa (ST3.out.below hb4);have RI4:=zAa (RI3.out.below hb4);have WI4:=zAa (HW0.out.wr HA0.out HAP.out (ST4.out.done BWW.out).xf.block (ST4.out.done BWW.out).xf.size);have ls4:=Nat.lt_of_lt_of_le l0' ST4.out.fr.xf.size;have kk0:w4.heap[w.heap.size]?=some (.cells #[.slice ea wd.events.length ec,.slice ra wd.regs.length rc] 61 (0,0)):=ST4.out.box _ (by omega) l0' (by omega) (by omega) |>.trans K0.out;have u0:=ceL kk0 0 _ rfl;have u1:=ceL kk0 1 _ rfl;clear kk0;clear hb4)
      | (go_at_call 57;refine (zCN go gr gb gd _ _ r q _ ST2.out.ord HDO.out HBM.out hwl64).mono ?_;rintro e w3 ⟨gp,rfl,hip,hgp,hb3⟩;have ST3:=zAa (ST2.out.below hb3);have RI3:Hid (zBA w3 (.slice (some ⟨gp,0,none⟩) (Q.zIj wd.events).length (Q.zIj wd.events).length) (Q.zIv (Q.zIj wd.events) r)):=(by have h9:=hip.rowI (Q.zIj wd.events).length (by rw[Q.zIy];exact Nat.le_refl _);rw[Q.zIy] at h9;exact h9);have FI3:=zAa (HF0.out.wr HA0.out (ST3.out.done BWW.out).xf.block);have RR3:=zAa (HR0.out.wr HA0.out (ST3.out.done BWW.out).xf.block);have RB3:=zAa (HB0.out.wr HA0.out (ST3.out.done BWW.out).xf.block);have ls3:=Nat.lt_of_lt_of_le l1' ST3.out.fr.xf.size;have ls3b:=Nat.lt_of_lt_of_le l0' ST3.out.fr.xf.size;have kk1:w3.heap[w.heap.size+1]?=some (.cells #[.slice x n c,.slice (some ⟨g1,0,none⟩) n n,.slice (some ⟨g2,0,none⟩) n n,.slice (some ⟨g3,0,none⟩) n n,.slice (some ⟨g4,0,none⟩) n n,.slice (some ⟨g5,0,none⟩) n n,.slice (some ⟨g6,0,none⟩) n n,.slice (some ⟨g7,0,none⟩) n n,.slice (some ⟨g8,0,none⟩) n n,.slice (some ⟨g9,0,none⟩) n n,.slice (some ⟨gq,0,none⟩) n n,.slice (some ⟨gf,0,none⟩) n n] 80 (0,0)):=ST3.out.box _ (by omega) l1' (by omega) (by omega) |>.trans K1.out;have d0:=ceL kk1 0 _ rfl;have d1:=ceL kk1 1 _ rfl;have d2:=ceL kk1 2 _ rfl;have d3:=ceL kk1 3 _ rfl;have d4:=ceL kk1 4 _ rfl;have d5:=ceL kk1 5 _ rfl;have d6:=ceL kk1 6 _ rfl;have d7:=ceL kk1 7 _ rfl;have d8:=ceL kk1 8 _ rfl;have d9:=ceL kk1 9 _ rfl;have d10:=ceL kk1 10 _ rfl;have d11:=ceL kk1 11 _ rfl;clear kk1;clear hip hb3))
     have hR:zDT w W1 g go gr gb gd ov fp wd f rd bf fin w6 q.length:=⟨r,q,_,_,_,_,ST6.out,by have h3:=FD2.out;rw[HSO.out] at h3;rw[zc];exact h3,rfl⟩
     go_roundw
     case rel=>exact⟨_,hR⟩
     case measure =>
      have h1:=(HMU.out _ ⟨_,hR⟩).2 _ hR
      have h2:=HL2.out
      omega
theorem zHo (a:FA) (f:Q.Facts) (gr:Nat) (rd:List Nat) (w:World) (hf:FactsIn w a f) (hr:RelAt w gr a.n rd) :
  Calls Tryz.prog 52 #[.agg (zAl a),.agg #[.slice (some ⟨gr,0,none⟩) a.n a.n]] w fun e w'=>zFv w w' a.n (f.sees rd) e:=by
 obtain⟨x,c,hev,_⟩:=hf.form
 obtain⟨n,ev,g1,g2,g3,g4,g5,g6,g7,g8,g9⟩:=a
 simp only at hev hr
 subst hev
 simp only[zAl]
 obtain⟨k0,k1,k2,hsz,hbw⟩:=zDP w #[.slice x n c,.slice (some ⟨g1,0,none⟩) n n,.slice (some ⟨g2,0,none⟩) n n,.slice (some ⟨g3,0,none⟩) n n,.slice (some ⟨g4,0,none⟩) n n,.slice (some ⟨g5,0,none⟩) n n,.slice (some ⟨g6,0,none⟩) n n,.slice (some ⟨g7,0,none⟩) n n,.slice (some ⟨g8,0,none⟩) n n,.slice (some ⟨g9,0,none⟩) n n] #[.slice (some ⟨gr,0,none⟩) n n] #[.slice none 0 0] 66 64 64
 have HF:=zAa (hf.below hbw)
 have Rr:=zAa (hr.below hbw)
 have BW0:=zAa hbw
 clear hbw hf hr
 go_enter Tryz.func52,Tryz.ntmps52
 go_upto_region 1 with fail
 generalize hE:(((w.alloc (.cells #[.slice x n c,.slice (some ⟨g1,0,none⟩) n n,.slice (some ⟨g2,0,none⟩) n n,.slice (some ⟨g3,0,none⟩) n n,.slice (some ⟨g4,0,none⟩) n n,.slice (some ⟨g5,0,none⟩) n n,.slice (some ⟨g6,0,none⟩) n n,.slice (some ⟨g7,0,none⟩) n n,.slice (some ⟨g8,0,none⟩) n n,.slice (some ⟨g9,0,none⟩) n n] 66)).alloc (.cells #[.slice (some ⟨gr,0,none⟩) n n] 64)).alloc (.cells #[.slice none 0 0] 64))=W0 at *
 have c0_0_0:=ceL k0 0 _ rfl
 have c0_0_1:=ceL k0 1 _ rfl
 have c0_0_2:=ceL k0 2 _ rfl
 have c0_0_3:=ceL k0 3 _ rfl
 have c0_0_4:=ceL k0 4 _ rfl
 have c0_0_5:=ceL k0 5 _ rfl
 have c0_0_6:=ceL k0 6 _ rfl
 have c0_0_7:=ceL k0 7 _ rfl
 have c0_0_8:=ceL k0 8 _ rfl
 have c0_0_9:=ceL k0 9 _ rfl
 have l0_0:w.heap.size<W0.heap.size:=by omega
 have f0_0:∀ j,W0.frozen? ⟨w.heap.size,j,none⟩=false:=fun j=>by simp[World.frozen?,k0]
 have K0_0:=zAa k0
 have c0_1_0:=ceL k1 0 _ rfl
 have l0_1:w.heap.size+1<W0.heap.size:=by omega
 have f0_1:∀ j,W0.frozen? ⟨w.heap.size+1,j,none⟩=false:=fun j=>by simp[World.frozen?,k1]
 have K0_1:=zAa k1
 have c0_2_0:=ceL k2 0 _ rfl
 have l0_2:w.heap.size+2<W0.heap.size:=by omega
 have f0_2:∀ j,W0.frozen? ⟨w.heap.size+2,j,none⟩=false:=fun j=>by simp[World.frozen?,k2]
 have K0_2:=zAa k2
 have hsq0:w.heap.size+3≤W0.heap.size:=by omega
 clear hE hsz k0 k1 k2
 go_upto_region 2 with (first
  | (go_at_call_of 77 (Value.slice (some ⟨gr,0,none⟩) n n);refine (zDr gr g2 n _ _ _ (Rr.out.below (Below.refl _ _)) (HF.out.r2.below (Below.refl _ _))).mono ?_;rintro e w0_0 ⟨q0_0,rfl,hq0_0,hb0_0⟩;have B0_0:Hid (Below W0.heap.size W0 w0_0):=hb0_0;have c1_0_0:=cfL B0_0.out l0_1 c0_1_0;have Q0_0:=zAa hq0_0;clear hq0_0))
 have k1_n:=heap_alloc_new w0_0 (.cells #[.slice (some ⟨q0_0,0,none⟩) n n] 64)
 have BX:Below W0.heap.size W0 (w0_0.alloc (.cells #[.slice (some ⟨q0_0,0,none⟩) n n] 64)):=B0_0.out.alloc B0_0.out.size _
 have hsq1:=B0_0.out.size
 have hwz:=BX.size
 have HF1:=zAa (HF.out.below BX)
 have R1_0:=zAa (Rr.out.below BX)
 have R1_1:=zAa (Q0_0.out.below ((Below.refl _ _).alloc (Nat.le_refl _) (.cells #[.slice (some ⟨q0_0,0,none⟩) n n] 64)))
 have BW1:=zAa (zAn BW0.out (Nat.le_refl _) BX)
 have d1_0:=cfL BX l0_0 c0_0_0
 have d1_1:=cfL BX l0_0 c0_0_1
 have d1_2:=cfL BX l0_0 c0_0_2
 have d1_3:=cfL BX l0_0 c0_0_3
 have d1_4:=cfL BX l0_0 c0_0_4
 have d1_5:=cfL BX l0_0 c0_0_5
 have d1_6:=cfL BX l0_0 c0_0_6
 have d1_7:=cfL BX l0_0 c0_0_7
 have d1_8:=cfL BX l0_0 c0_0_8
 have d1_9:=cfL BX l0_0 c0_0_9
 have d1_10:=cfL BX l0_1 c0_1_0
 have d1_11:=cfL BX l0_2 c0_2_0
 have f1_0:∀ j,(w0_0.alloc (.cells #[.slice (some ⟨q0_0,0,none⟩) n n] 64)).frozen? ⟨w.heap.size,j,none⟩=false:=fun j=>(BX.frozen (p:=⟨w.heap.size,j,none⟩) l0_0).trans (f0_0 j)
 have l1_0:=Nat.lt_of_lt_of_le l0_0 hwz
 have K1_0:=zAa ((BX.block _ l0_0).trans K0_0.out)
 have f1_1:∀ j,(w0_0.alloc (.cells #[.slice (some ⟨q0_0,0,none⟩) n n] 64)).frozen? ⟨w.heap.size+1,j,none⟩=false:=fun j=>(BX.frozen (p:=⟨w.heap.size+1,j,none⟩) l0_1).trans (f0_1 j)
 have l1_1:=Nat.lt_of_lt_of_le l0_1 hwz
 have K1_1:=zAa ((BX.block _ l0_1).trans K0_1.out)
 have f1_2:∀ j,(w0_0.alloc (.cells #[.slice (some ⟨q0_0,0,none⟩) n n] 64)).frozen? ⟨w.heap.size+2,j,none⟩=false:=fun j=>(BX.frozen (p:=⟨w.heap.size+2,j,none⟩) l0_2).trans (f0_2 j)
 have l1_2:=Nat.lt_of_lt_of_le l0_2 hwz
 have K1_2:=zAa ((BX.block _ l0_2).trans K0_2.out)
 have hn1:w0_0.heap.size<(w0_0.alloc (.cells #[.slice (some ⟨q0_0,0,none⟩) n n] 64)).heap.size:=by simp
 clear BX hwz
 generalize hE1:w0_0.alloc (.cells #[.slice (some ⟨q0_0,0,none⟩) n n] 64)=W1 at *
 obtain⟨cn1,fn1,ln1⟩:=zAm k1_n
 have fm1:∀ j,W1.frozen? ⟨w0_0.heap.size,j,none⟩=false:=fun j=>by simp[World.frozen?,k1_n]
 have KN1:=zAa k1_n
 clear k1_n hE1 hn1
 clear c0_0_0 c0_0_1 c0_0_2 c0_0_3 c0_0_4 c0_0_5 c0_0_6 c0_0_7 c0_0_8 c0_0_9 c0_1_0 c0_2_0
 go_upto_region 3 with (first
  | (go_at_call_of 54 (Value.slice (some ⟨q1_0,0,none⟩) n n);refine (zCq q1_0 n _ _ Q1_0.out).mono ?_;rintro e w1_1 ⟨q1_1,rfl,hq1_1,hb1_1⟩;have B1_1:Hid (Below W1.heap.size W1 w1_1):=zAn B1_0.out (Nat.le_refl _) hb1_1;have Q1_1:=zAa hq1_1;clear hq1_1)
  | (go_at_call_of 76 (Value.slice (some ⟨q0_0,0,none⟩) n n);refine (zBm q0_0 g7 n _ _ _ (R1_1.out.below (Below.refl _ _)) (HF1.out.r7.below (Below.refl _ _))).mono ?_;rintro e w1_0 ⟨q1_0,rfl,hq1_0,hb1_0⟩;have B1_0:Hid (Below W1.heap.size W1 w1_0):=hb1_0;have Q1_0:=zAa hq1_0;clear hq1_0))
 have k2_n:=heap_alloc_new w1_1 (.cells #[.slice (some ⟨q1_1,0,none⟩) n n] 64)
 have BX:Below W1.heap.size W1 (w1_1.alloc (.cells #[.slice (some ⟨q1_1,0,none⟩) n n] 64)):=B1_1.out.alloc B1_1.out.size _
 have hsq2:=B1_1.out.size
 have hwz:=BX.size
 have HF2:=zAa (HF1.out.below BX)
 have R2_0:=zAa (R1_0.out.below BX)
 have R2_1:=zAa (R1_1.out.below BX)
 have R2_2:=zAa ((Q1_0.out.below hb1_1).below ((Below.refl _ _).alloc (Nat.le_refl _) (.cells #[.slice (some ⟨q1_1,0,none⟩) n n] 64)))
 have R2_3:=zAa (Q1_1.out.below ((Below.refl _ _).alloc (Nat.le_refl _) (.cells #[.slice (some ⟨q1_1,0,none⟩) n n] 64)))
 have BW2:=zAa (zAn BW1.out (Nat.le_refl _) BX)
 have d2_0:=cfL BX l1_0 d1_0
 have d2_1:=cfL BX l1_0 d1_1
 have d2_2:=cfL BX l1_0 d1_2
 have d2_3:=cfL BX l1_0 d1_3
 have d2_4:=cfL BX l1_0 d1_4
 have d2_5:=cfL BX l1_0 d1_5
 have d2_6:=cfL BX l1_0 d1_6
 have d2_7:=cfL BX l1_0 d1_7
 have d2_8:=cfL BX l1_0 d1_8
 have d2_9:=cfL BX l1_0 d1_9
 have d2_10:=cfL BX l1_1 d1_10
 have d2_11:=cfL BX l1_2 d1_11
 have d2_12:=cfL BX ln1 cn1
 have f2_0:∀ j,(w1_1.alloc (.cells #[.slice (some ⟨q1_1,0,none⟩) n n] 64)).frozen? ⟨w.heap.size,j,none⟩=false:=fun j=>(BX.frozen (p:=⟨w.heap.size,j,none⟩) l1_0).trans (f1_0 j)
 have l2_0:=Nat.lt_of_lt_of_le l1_0 hwz
 have K2_0:=zAa ((BX.block _ l1_0).trans K1_0.out)
 have f2_1:∀ j,(w1_1.alloc (.cells #[.slice (some ⟨q1_1,0,none⟩) n n] 64)).frozen? ⟨w.heap.size+1,j,none⟩=false:=fun j=>(BX.frozen (p:=⟨w.heap.size+1,j,none⟩) l1_1).trans (f1_1 j)
 have l2_1:=Nat.lt_of_lt_of_le l1_1 hwz
 have K2_1:=zAa ((BX.block _ l1_1).trans K1_1.out)
 have f2_2:∀ j,(w1_1.alloc (.cells #[.slice (some ⟨q1_1,0,none⟩) n n] 64)).frozen? ⟨w.heap.size+2,j,none⟩=false:=fun j=>(BX.frozen (p:=⟨w.heap.size+2,j,none⟩) l1_2).trans (f1_2 j)
 have l2_2:=Nat.lt_of_lt_of_le l1_2 hwz
 have K2_2:=zAa ((BX.block _ l1_2).trans K1_2.out)
 have f2_3:∀ j,(w1_1.alloc (.cells #[.slice (some ⟨q1_1,0,none⟩) n n] 64)).frozen? ⟨w0_0.heap.size,j,none⟩=false:=fun j=>(BX.frozen (p:=⟨w0_0.heap.size,j,none⟩) ln1).trans (fm1 j)
 have l2_3:=Nat.lt_of_lt_of_le ln1 hwz
 have K2_3:=zAa ((BX.block _ ln1).trans KN1.out)
 have hn2:w1_1.heap.size<(w1_1.alloc (.cells #[.slice (some ⟨q1_1,0,none⟩) n n] 64)).heap.size:=by simp
 clear BX hwz
 generalize hE2:w1_1.alloc (.cells #[.slice (some ⟨q1_1,0,none⟩) n n] 64)=W2 at *
 obtain⟨cn2,fn2,ln2⟩:=zAm k2_n
 have fm2:∀ j,W2.frozen? ⟨w1_1.heap.size,j,none⟩=false:=fun j=>by simp[World.frozen?,k2_n]
 have KN2:=zAa k2_n
 clear k2_n hE2 hn2
 clear d1_0 d1_1 d1_2 d1_3 d1_4 d1_5 d1_6 d1_7 d1_8 d1_9 d1_10 d1_11 cn1
 clear d2_0 d2_1 d2_2 d2_3 d2_4 d2_5 d2_6 d2_7 d2_8 d2_9 d2_10
 clear f2_0 f2_1 f2_3 fm2
 go_region_held3 (fun w'=>w'.cell? ⟨w0_0.heap.size,0,none⟩=some (.slice (some ⟨q0_0,0,none⟩) n n)∧w'.cell? ⟨w1_1.heap.size,0,none⟩=some (.slice (some ⟨q1_1,0,none⟩) n n)) (first | exact⟨d2_12,cn2⟩ | exact⟨c3_0_0,c3_0_1⟩ | exact⟨c3_1_0,c3_1_1⟩ | exact⟨(zAh (by omega)).trans c3_1_0,(zAh (by omega)).trans c3_1_1⟩) (first
  | (go_at_call_of 53 (Value.slice (some ⟨q0_0,0,none⟩) n n);refine (zCu q0_0 q2_0 n _ _ _ (R2_1.out.below B2_0.out) Q2_0.out).mono ?_;rintro e w2_1 ⟨q2_1,rfl,hq2_1,hb2_1⟩;have B2_1:Hid (Below W2.heap.size W2 w2_1):=zAn B2_0.out (Nat.le_refl _) hb2_1;have c3_1_0:=cfL B2_1.out l2_3 d2_12;have c3_1_1:=cfL B2_1.out ln2 cn2;have z3_1:=(B2_1.out.frozen (p:=⟨w.heap.size+2,0,none⟩) l2_2).trans (f2_2 0);have y3_1:=cfL B2_1.out l2_2 d2_11;have Q2_1:=zAa hq2_1;clear hq2_1)
  | (go_at_call_of 76 (Value.slice (some ⟨q1_1,0,none⟩) n n);refine (zBm q1_1 q0_0 n _ _ _ (R2_3.out.below (Below.refl _ _).drew) (R2_1.out.below (Below.refl _ _).drew)).mono ?_;rintro e w2_0 ⟨q2_0,rfl,hq2_0,hb2_0⟩;have B2_0:Hid (Below W2.heap.size W2 w2_0):=((Below.refl W2.heap.size W2).drew).trans (hb2_0.mono (by simp));have c3_0_0:=cfL B2_0.out l2_3 d2_12;have c3_0_1:=cfL B2_0.out ln2 cn2;have z3_0:=(B2_0.out.frozen (p:=⟨w.heap.size+2,0,none⟩) l2_2).trans (f2_2 0);have y3_0:=cfL B2_0.out l2_2 d2_11;have Q2_0:=zAa hq2_0;clear hq2_0))
 all_goals
  (try go_wp2)
  have KR:=zAf ((B2_1.out.block _ l2_2).trans K2_2.out) 0 (.slice (some ⟨q2_1,0,none⟩) n n)
  refine zBv (p:=4) (w.heap.size+2) _ (by kernel_rfl) rfl (by exact KR) rfl ⟨q2_1,rfl,⟨(Q2_1.out).at_.of_block (Below.heap_setCell _ _ _ _ (by have:=Q2_1.out.at_;unfold zAo at this;intro e;rw[e] at this;rw[(B2_1.out.block _ l2_2).trans K2_2.out] at this;simp at this)),(Q2_1.out).len,(Q2_1.out).fits⟩,(zAn BW2.out (Nat.le_refl _) B2_1.out).setCell (p:=⟨w.heap.size+2,0,none⟩) (by simp) _⟩
end Go.Proofs.YtkmebkbpfmoeaaaGreat
