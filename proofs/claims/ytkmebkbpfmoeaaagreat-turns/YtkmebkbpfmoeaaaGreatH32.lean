import Derived.Test.YtkmebkbpfmoeaaaGreatH31
set_option linter.unusedVariables false
set_option linter.unusedSimpArgs false
set_option maxHeartbeats 12800000
namespace Go.Proofs.YtkmebkbpfmoeaaaGreat
open Go Go.RowKit
set_option maxRecDepth 100000
namespace Q
theorem factsOf_events (es:List Ev):(zIx es).events=es:=by
 have k1:∀ (i:Nat) (l:List Nat) (f:Facts),(l.foldl (fun f k=>f.pair i (ev es i) k (ev es k)) f).events=f.events:=by
  intro i l
  induction l with
  | nil=>intro f;rfl
  | cons k l ih=>intro f;rw[List.foldl_cons,ih];rfl
 have k2:∀ (l:List Nat) (f:Facts),(l.foldl (zJe es) f).events=f.events:=by
  intro l
  induction l with
  | nil=>intro f;rfl
  | cons k l ih=>intro f;rw[List.foldl_cons,ih];exact k1 _ _ _
 exact k2 _ _
end Q
theorem zHm (g:Nat) (ov:Value) (w:World) (hc:w.cell? ⟨g,0,none⟩=some ov) (hl:g<w.heap.size) (hf:∃ a n c,ov=.slice a n c) :
  Calls Tryz.prog 35 #[.pointer (some ⟨g,0,none⟩)] w fun e w'=>e=.returned ov∧w'=w:=by
 obtain⟨a,n,c,rfl⟩:=hf
 go_enter Tryz.func35,Tryz.ntmps35
 go_wp2
 go_ret
 exact⟨rfl,rfl⟩
theorem zED {w1 W1:World} {rv:Value} {vs:List Value} {wss:List (List Value)} {gb gd:Nat} {rss:List (List Q.Run)} (h:RunsAll w1 0 rv rss vs wss) (hb:zAp w1 gb (zAT rss)) (hd:zAp w1 gd (Q.zeros rss.length)) (hne:gb≠gd)
  (hW:W1.heap[w1.heap.size]?=some (.cells (zCf rv (.slice (some ⟨gb,0,none⟩) rss.length rss.length) (.slice (some ⟨gd,0,none⟩) rss.length rss.length) (.bool false)) 75 (0,0))) (hB:Below w1.heap.size w1 W1) :
  CandOn W1 w1.heap.size ⟨rv,vs,wss,gb,gd⟩ rss none (Q.zeros rss.length) (Q.zIE (zAT rss)):=by
 have l2:=hb.lt
 have l3:=hd.lt
 have hc:∀ j (v:Value),(zCf rv (.slice (some ⟨gb,0,none⟩) rss.length rss.length) (.slice (some ⟨gd,0,none⟩) rss.length rss.length) (.bool false))[j]?=some v→W1.cell? ⟨w1.heap.size,j,none⟩=some v:=fun j v hv=>by simp only[World.cell?,hW];simpa using hv
 have e1:(zAT rss).length=rss.length:=by simp[zAT]
 have e2:(Q.zeros rss.length).length=rss.length:=by simp[Q.zeros]
 refine⟨⟨_,hW,by simp[zCf]⟩,⟨hc 13 _ rfl,h.below hB,false,⟨?_,?_,hc 16 _ rfl,fun j=>by simp[World.frozen?,hW],(Array.getElem?_eq_some_iff.1 hW).1,hb.below hB,hd.below hB,?_,?_,hne,?_⟩,Or.inl ⟨rfl,?_,rfl⟩⟩,hc 21 _ rfl,fun s hs=>by simp at hs⟩
 ·rw[show (List.map (fun r=>((r:List Q.Run).length:Int)) rss).length=rss.length by simp];exact hc 14 _ rfl
 ·rw[e2];exact hc 15 _ rfl
 ·simp only;omega
 ·simp only;omega
 ·rw[e2];simp
 ·simp
theorem zGK {W:World} {g:Nat} {t:TypeId} (h:W.heap[g]?=some (.cells #[.slice none 0 0,.bool false] t (0,0))) (ht:t=58∨t=58):AnsOn W g ⟨[],false⟩ (.slice none 0 0) [] []:=by
 have hl:=(Array.getElem?_eq_some_iff.1 h).1
 refine⟨⟨by simp[World.cell?,h],hl,by simp[World.frozen?,h],⟨World.ownsRow_nil _ _ _ _,rfl,fun i hi=>by simp at hi⟩,⟨#[.slice none 0 0,.bool false],?_⟩,fun u hu=>by simp at hu,fun k hk=>by simp at hk,fun k hk=>by simp at hk⟩,by simp[World.cell?,h],⟨by simp[Q.zKi],fun x hx=>by simp at hx⟩⟩
 rcases ht with rfl | rfl
 ·exact Or.inl h
 ·exact Or.inr h
def zFD (w0:World) (gc g:Nat) (A:WA) (rss:List (List Q.Run)) (F:Q.Ans→Q.Cand→Q.Ans) (fin:Q.Ans) (wr:World) (m:Nat):Prop :=
 ∃ st ds rest a ov vs fp,BothOn w0 wr gc g A rss st ds rest a ov vs fp∧(Q.zII (zCm rss st rest)).foldl F a=fin∧(Q.zII (zCm rss st rest)).length=m
theorem zGg {w w1 W1:World} {g:Nat} {rv:Value} {vs:List Value} {wss:List (List Value)} {gb gd:Nat} {rss:List (List Q.Run)} {t:TypeId} (h:RunsAll w1 0 rv rss vs wss) (hb:zAp w1 gb (zAT rss)) (hd:zAp w1 gd (Q.zeros rss.length)) (hne:gb≠gd)
  (hW:W1.heap[w1.heap.size]?=some (.cells (zCf rv (.slice (some ⟨gb,0,none⟩) rss.length rss.length) (.slice (some ⟨gd,0,none⟩) rss.length rss.length) (.bool false)) 75 (0,0))) (hB:Below w1.heap.size w1 W1)
  (hg:W1.heap[g]?=some (.cells #[.slice none 0 0,.bool false] t (0,0))) (ht:t=58∨t=58) (hw:w.heap.size≤w1.heap.size) (hg0:w.heap.size≤g) (hgd:w.heap.size≤gd) (hbl:Below w.heap.size w W1) :
  BothOn w W1 w1.heap.size g ⟨rv,vs,wss,gb,gd⟩ rss none (Q.zeros rss.length) (Q.zIE (zAT rss)) ⟨[],false⟩ (.slice none 0 0) [] [] :=
 ⟨zED h hb hd hne hW hB,zGK hg ht,fun k hk=>by obtain⟨s,hs,_⟩:=hk;simp at hs,fun k hk=>by simp at hk,⟨hw,hg0,hgd,fun k hk=>by obtain⟨s,hs,_⟩:=hk;simp at hs,fun k e=>by simp[Value.ownBlock] at e,fun k hk=>by simp at hk⟩,hbl⟩
end Go.Proofs.YtkmebkbpfmoeaaaGreat
namespace Go.Proofs.YtkmebkbpfmoeaaaGreat
open Go Go.RowKit
def zCO (a:FA) (gr gf:Nat):Array Value:=#[a.ev,.slice (some ⟨a.g1,0,none⟩) a.n a.n,.slice (some ⟨a.g2,0,none⟩) a.n a.n,.slice (some ⟨a.g3,0,none⟩) a.n a.n,.slice (some ⟨a.g4,0,none⟩) a.n a.n,.slice (some ⟨a.g5,0,none⟩) a.n a.n,.slice (some ⟨a.g6,0,none⟩) a.n a.n,.slice (some ⟨a.g7,0,none⟩) a.n a.n,.slice (some ⟨a.g8,0,none⟩) a.n a.n,.slice (some ⟨a.g9,0,none⟩) a.n a.n,.slice (some ⟨gr,0,none⟩) a.n a.n,.slice (some ⟨gf,0,none⟩) a.n a.n]
end Go.Proofs.YtkmebkbpfmoeaaaGreat
namespace Go.Proofs.YtkmebkbpfmoeaaaGreat
open Go Go.RowKit
set_option maxRecDepth 100000
theorem zDg (a:FA) (f:Q.Facts) (gr:Nat) (rd:List Nat) (gf:Nat) (bf:List Nat) (gl:Nat) (lk:List Nat) (w:World) (hf:FactsIn w a f) (hr:RelAt w gr a.n rd) (hb:RelAt w gf a.n bf) (hl:RelAt w gl a.n lk) :
  Calls Tryz.prog 87 #[.agg (zCO a gr gf),.agg #[.slice (some ⟨gl,0,none⟩) a.n a.n]] w fun e w'=>e=.returned (.bool (f.fencesCircle bf lk))∧Below w.heap.size w w':=by
 obtain⟨x,c,hev,_⟩:=hf.form
 obtain⟨n,ev,g1,g2,g3,g4,g5,g6,g7,g8,g9⟩:=a
 simp only at hev hr hb hl
 subst hev
 simp only[zAl,zCO]
 obtain⟨k0,k1,hsz,hbw⟩:=zBM w #[.slice x n c,.slice (some ⟨g1,0,none⟩) n n,.slice (some ⟨g2,0,none⟩) n n,.slice (some ⟨g3,0,none⟩) n n,.slice (some ⟨g4,0,none⟩) n n,.slice (some ⟨g5,0,none⟩) n n,.slice (some ⟨g6,0,none⟩) n n,.slice (some ⟨g7,0,none⟩) n n,.slice (some ⟨g8,0,none⟩) n n,.slice (some ⟨g9,0,none⟩) n n,.slice (some ⟨gr,0,none⟩) n n,.slice (some ⟨gf,0,none⟩) n n] #[.slice (some ⟨gl,0,none⟩) n n] 80 64
 have HF:=zAa (hf.below hbw)
 have Rr:=zAa (hr.below hbw)
 have Rb:=zAa (hb.below hbw)
 have Rl:=zAa (hl.below hbw)
 have BW0:=zAa hbw
 clear hbw hf hr hb hl
 go_enter Tryz.func87,Tryz.ntmps87
 go_upto_region 1 with fail
 generalize hE:((w.alloc (.cells #[.slice x n c,.slice (some ⟨g1,0,none⟩) n n,.slice (some ⟨g2,0,none⟩) n n,.slice (some ⟨g3,0,none⟩) n n,.slice (some ⟨g4,0,none⟩) n n,.slice (some ⟨g5,0,none⟩) n n,.slice (some ⟨g6,0,none⟩) n n,.slice (some ⟨g7,0,none⟩) n n,.slice (some ⟨g8,0,none⟩) n n,.slice (some ⟨g9,0,none⟩) n n,.slice (some ⟨gr,0,none⟩) n n,.slice (some ⟨gf,0,none⟩) n n] 80)).alloc (.cells #[.slice (some ⟨gl,0,none⟩) n n] 64))=W0 at *
 have c0_0_0:=ceL k0 0 _ rfl
 have c0_0_1:=ceL k0 1 _ rfl
 have c0_0_2:=ceL k0 2 _ rfl
 have c0_0_3:=ceL k0 3 _ rfl
 have c0_0_4:=ceL k0 4 _ rfl
 have c0_0_5:=ceL k0 5 _ rfl
 have c0_0_6:=ceL k0 6 _ rfl
 have c0_0_7:=ceL k0 7 _ rfl
 have c0_0_8:=ceL k0 8 _ rfl
 have c0_0_9:=ceL k0 9 _ rfl
 have c0_0_10:=ceL k0 10 _ rfl
 have c0_0_11:=ceL k0 11 _ rfl
 have l0_0:w.heap.size<W0.heap.size:=by omega
 have f0_0:∀ j,W0.frozen? ⟨w.heap.size,j,none⟩=false:=fun j=>by simp[World.frozen?,k0]
 have K0_0:=zAa k0
 have c0_1_0:=ceL k1 0 _ rfl
 have l0_1:w.heap.size+1<W0.heap.size:=by omega
 have f0_1:∀ j,W0.frozen? ⟨w.heap.size+1,j,none⟩=false:=fun j=>by simp[World.frozen?,k1]
 have K0_1:=zAa k1
 have hsq0:w.heap.size+2≤W0.heap.size:=by omega
 clear hE hsz k0 k1
 go_cut [5] from 6 to 12 (fun p wx=>∃ gx qx,p=.pointer (some ⟨gx,0,none⟩)∧wx.heap[gx]?=some (.cells #[.slice (some ⟨qx,0,none⟩) n n] 64 (0,0))∧RelAt wx qx n (Q.thenR (Q.thenR bf lk) bf)∧Below W0.heap.size W0 wx∧W0.heap.size≤gx)
 case first =>
  clear c0_0_0 c0_0_1 c0_0_2 c0_0_3 c0_0_4 c0_0_5 c0_0_6 c0_0_7 c0_0_8 c0_0_9 c0_0_10 f0_0 f0_1
  have hgeW:=Nat.le_refl W0.heap.size
  go_region_held3 (fun w'=>w'.cell? ⟨w.heap.size,11,none⟩=some (.slice (some ⟨gf,0,none⟩) n n)∧w'.cell? ⟨w.heap.size+1,0,none⟩=some (.slice (some ⟨gl,0,none⟩) n n)) (first | exact⟨c0_0_11,c0_1_0⟩ | exact⟨(zAx l0_0).trans c0_0_11,(zAx l0_1).trans c0_1_0⟩ | exact⟨c1_0_0,c1_0_1⟩ | exact⟨(zAx e1_0_0).trans c1_0_0,(zAx e1_0_1).trans c1_0_1⟩ | exact⟨c1_1_0,c1_1_1⟩ | exact⟨(zAx e1_1_0).trans c1_1_0,(zAx e1_1_1).trans c1_1_1⟩ | exact⟨(zAh (by omega)).trans c1_1_0,(zAh (by omega)).trans c1_1_1⟩) (first
   | (go_at_call_of 76 (Value.slice (some ⟨q0_0,0,none⟩) n n);refine (zBm q0_0 gf n _ _ _ (by first | exact Q0_0.out | exact Q0_0.out.below ((Below.refl _ _).alloc (Nat.le_refl _) _)) (Rb.out.below (by first | exact B0_0.out | exact B0_0.out.alloc B0_0.out.size _))).mono ?_;rintro e w0_1 ⟨q0_1,rfl,hq0_1,hb0_1⟩;have B0_1:Hid (Below W0.heap.size W0 w0_1):=(by first | exact zAn B0_0.out (Nat.le_refl _) hb0_1 | exact zAn (B0_0.out.alloc B0_0.out.size _) (Nat.le_refl _) hb0_1);have c1_1_0:=cfL B0_1.out l0_0 c0_0_11;have c1_1_1:=cfL B0_1.out l0_1 c0_1_0;have e1_1_0:=Nat.lt_of_lt_of_le l0_0 B0_1.out.size;have e1_1_1:=Nat.lt_of_lt_of_le l0_1 B0_1.out.size;(try (have bx1:w0_1.cell? ⟨w0_0.heap.size,0,none⟩=some (.slice none 0 0)∧w0_1.frozen? ⟨w0_0.heap.size,0,none⟩=false∧w0_1.heap[w0_0.heap.size]?=some (.cells #[.slice none 0 0] 64 (0,0)):=(by first | exact zCZ hb0_1 | exact zCZ (w:=w0_0.drew) hb0_1)));(try (have by1_0:w0_1.cell? ⟨W0.heap.size,0,none⟩=some (.slice none 0 0)∧w0_1.frozen? ⟨W0.heap.size,0,none⟩=false∧w0_1.heap[W0.heap.size]?=some (.cells #[.slice none 0 0] 64 (0,0)):=zHu hb0_1 bx0));(try have bc:=bx1.1);(try have bf:=bx1.2.1);(try have bc:=by1_0.1);(try have bf:=by1_0.2.1);have Q0_1:=zAa hq0_1;clear hq0_1)
   | (go_at_call_of 76 (Value.slice (some ⟨gf,0,none⟩) n n);refine (zBm gf gl n _ _ _ (Rb.out.below (by first | exact (Below.refl _ _).drew | exact ((Below.refl _ _).drew).alloc (by simp) _)) (Rl.out.below (by first | exact (Below.refl _ _).drew | exact ((Below.refl _ _).drew).alloc (by simp) _))).mono ?_;rintro e w0_0 ⟨q0_0,rfl,hq0_0,hb0_0⟩;have B0_0:Hid (Below W0.heap.size W0 w0_0):=(by first | exact ((Below.refl W0.heap.size W0).drew).trans (hb0_0.mono (by simp)) | exact (((Below.refl W0.heap.size W0).drew).alloc (by simp) _).trans (hb0_0.mono (by simp)));have c1_0_0:=cfL B0_0.out l0_0 c0_0_11;have c1_0_1:=cfL B0_0.out l0_1 c0_1_0;have e1_0_0:=Nat.lt_of_lt_of_le l0_0 B0_0.out.size;have e1_0_1:=Nat.lt_of_lt_of_le l0_1 B0_0.out.size;(try (have bx0:w0_0.cell? ⟨W0.heap.size,0,none⟩=some (.slice none 0 0)∧w0_0.frozen? ⟨W0.heap.size,0,none⟩=false∧w0_0.heap[W0.heap.size]?=some (.cells #[.slice none 0 0] 64 (0,0)):=(by first | exact zCZ hb0_0 | exact zCZ (w:=W0.drew) hb0_0)));(try have bc:=bx0.1);(try have bf:=bx0.2.1);have Q0_0:=zAa hq0_0;clear hq0_0))
  all_goals
   (try go_wp2)
   go_meet
   case rel=>first | exact zFy B0_1.out Q0_1.out | exact zDj B0_1.out hgeW Q0_1.out by1_0.2.2 | exact zDj B0_1.out B0_0.out.size Q0_1.out bx1.2.2
 case rest =>
 obtain⟨gx1,qx1,rfl,kx1,hqx1,hbx1,hgx1⟩:=hcut
 have HF1:=zAa (HF.out.below hbx1)
 have R1_0:=zAa (Rr.out.below hbx1)
 have R1_1:=zAa (Rb.out.below hbx1)
 have R1_2:=zAa (Rl.out.below hbx1)
 have R1_3:=zAa hqx1
 have BW1:=zAa (zAn BW0.out (Nat.le_refl _) hbx1)
 have d1_0:=cfL hbx1 l0_0 c0_0_0
 have d1_1:=cfL hbx1 l0_0 c0_0_1
 have d1_2:=cfL hbx1 l0_0 c0_0_2
 have d1_3:=cfL hbx1 l0_0 c0_0_3
 have d1_4:=cfL hbx1 l0_0 c0_0_4
 have d1_5:=cfL hbx1 l0_0 c0_0_5
 have d1_6:=cfL hbx1 l0_0 c0_0_6
 have d1_7:=cfL hbx1 l0_0 c0_0_7
 have d1_8:=cfL hbx1 l0_0 c0_0_8
 have d1_9:=cfL hbx1 l0_0 c0_0_9
 have d1_10:=cfL hbx1 l0_0 c0_0_10
 have d1_11:=cfL hbx1 l0_0 c0_0_11
 have d1_12:=cfL hbx1 l0_1 c0_1_0
 have f1_0:∀ j,wc.frozen? ⟨w.heap.size,j,none⟩=false:=fun j=>(hbx1.frozen (p:=⟨w.heap.size,j,none⟩) l0_0).trans (f0_0 j)
 have l1_0:=Nat.lt_of_lt_of_le l0_0 hbx1.size
 have K1_0:=zAa ((hbx1.block _ l0_0).trans K0_0.out)
 have f1_1:∀ j,wc.frozen? ⟨w.heap.size+1,j,none⟩=false:=fun j=>(hbx1.frozen (p:=⟨w.heap.size+1,j,none⟩) l0_1).trans (f0_1 j)
 have l1_1:=Nat.lt_of_lt_of_le l0_1 hbx1.size
 have K1_1:=zAa ((hbx1.block _ l0_1).trans K0_1.out)
 obtain⟨cn1,fn1,ln1⟩:=zAm kx1
 have KN1:=zAa kx1
 clear kx1 hqx1 hbx1 c0_0_0 c0_0_1 c0_0_2 c0_0_3 c0_0_4 c0_0_5 c0_0_6 c0_0_7 c0_0_8 c0_0_9 c0_0_10 c0_0_11 c0_1_0
 go_upto_region 2 with fail
 clear d1_0 d1_1 d1_2 d1_3 d1_5 d1_6 d1_7 d1_8 d1_9 d1_10 d1_12
 clear f1_0 f1_1 fn1
 go_region_held3 (fun w'=>w'.cell? ⟨w.heap.size,4,none⟩=some (.slice (some ⟨g4,0,none⟩) n n)∧w'.cell? ⟨w.heap.size,11,none⟩=some (.slice (some ⟨gf,0,none⟩) n n)∧w'.cell? ⟨gx1,0,none⟩=some (.slice (some ⟨qx1,0,none⟩) n n)) (first | exact⟨d1_4,d1_11,cn1⟩ | exact⟨c2_0_0,c2_0_1,c2_0_2⟩ | exact⟨c2_1_0,c2_1_1,c2_1_2⟩ | exact⟨c2_2_0,c2_2_1,c2_2_2⟩) (first
  | (go_at_call_of 74 (Value.slice (some ⟨q1_1,0,none⟩) n n);refine (zDs q1_1 n _ _ Q1_1.out).mono ?_;rintro e w1_2 ⟨rfl,hb1_2⟩;have B1_2:Hid (Below wc.heap.size wc w1_2):=zAn B1_1.out (Nat.le_refl _) hb1_2;have c2_2_0:=cfL B1_2.out l1_0 d1_4;have c2_2_1:=cfL B1_2.out l1_0 d1_11;have c2_2_2:=cfL B1_2.out ln1 cn1;skip)
  | (go_at_call_of 77 (Value.slice (some ⟨q1_0,0,none⟩) n n);refine (zDr q1_0 g4 n _ _ _ Q1_0.out (HF1.out.r4.below B1_0.out)).mono ?_;rintro e w1_1 ⟨q1_1,rfl,hq1_1,hb1_1⟩;have B1_1:Hid (Below wc.heap.size wc w1_1):=zAn B1_0.out (Nat.le_refl _) hb1_1;have c2_1_0:=cfL B1_1.out l1_0 d1_4;have c2_1_1:=cfL B1_1.out l1_0 d1_11;have c2_1_2:=cfL B1_1.out ln1 cn1;have Q1_1:=zAa hq1_1;clear hq1_1)
  | (go_at_call_of 53 (Value.slice (some ⟨gf,0,none⟩) n n);refine (zCu gf qx1 n _ _ _ (R1_1.out.below (Below.refl _ _).drew) (R1_3.out.below (Below.refl _ _).drew)).mono ?_;rintro e w1_0 ⟨q1_0,rfl,hq1_0,hb1_0⟩;have B1_0:Hid (Below wc.heap.size wc w1_0):=((Below.refl wc.heap.size wc).drew).trans (hb1_0.mono (by simp));have c2_0_0:=cfL B1_0.out l1_0 d1_4;have c2_0_1:=cfL B1_0.out l1_0 d1_11;have c2_0_2:=cfL B1_0.out ln1 cn1;have Q1_0:=zAa hq1_0;clear hq1_0))
 all_goals
  go_wp2
  go_ret
  exact⟨rfl,zAn BW1.out (Nat.le_refl _) B1_2.out⟩
theorem zCP (a:FA) (f:Q.Facts) (gr:Nat) (rd:List Nat) (gb:Nat) (bh:List Nat) (w:World) (hf:FactsIn w a f) (hr:RelAt w gr a.n rd) (hb:RelAt w gb a.n bh) :
  Calls Tryz.prog 84 #[.agg (zAl a),.agg #[.slice (some ⟨gr,0,none⟩) a.n a.n],.agg #[.slice (some ⟨gb,0,none⟩) a.n a.n]] w fun e w'=>zFv w w' a.n (Q.thenR rd bh) e:=by
 obtain⟨x,c,hev,_⟩:=hf.form
 obtain⟨n,ev,g1,g2,g3,g4,g5,g6,g7,g8,g9⟩:=a
 simp only at hev hr hb
 subst hev
 simp only[zAl]
 obtain⟨k0,k1,k2,k3,hsz,hbw⟩:=zHt w #[.slice x n c,.slice (some ⟨g1,0,none⟩) n n,.slice (some ⟨g2,0,none⟩) n n,.slice (some ⟨g3,0,none⟩) n n,.slice (some ⟨g4,0,none⟩) n n,.slice (some ⟨g5,0,none⟩) n n,.slice (some ⟨g6,0,none⟩) n n,.slice (some ⟨g7,0,none⟩) n n,.slice (some ⟨g8,0,none⟩) n n,.slice (some ⟨g9,0,none⟩) n n] #[.slice (some ⟨gr,0,none⟩) n n] #[.slice (some ⟨gb,0,none⟩) n n] #[.slice none 0 0] 66 64 64 64
 have HF:=zAa (hf.below hbw)
 have Rr:=zAa (hr.below hbw)
 have Rb:=zAa (hb.below hbw)
 have BW0:=zAa hbw
 clear hbw hf hr hb
 go_enter Tryz.func84,Tryz.ntmps84
 go_upto_region 1 with fail
 generalize hE:((((w.alloc (.cells #[.slice x n c,.slice (some ⟨g1,0,none⟩) n n,.slice (some ⟨g2,0,none⟩) n n,.slice (some ⟨g3,0,none⟩) n n,.slice (some ⟨g4,0,none⟩) n n,.slice (some ⟨g5,0,none⟩) n n,.slice (some ⟨g6,0,none⟩) n n,.slice (some ⟨g7,0,none⟩) n n,.slice (some ⟨g8,0,none⟩) n n,.slice (some ⟨g9,0,none⟩) n n] 66)).alloc (.cells #[.slice (some ⟨gr,0,none⟩) n n] 64)).alloc (.cells #[.slice (some ⟨gb,0,none⟩) n n] 64)).alloc (.cells #[.slice none 0 0] 64))=W0 at *
 have c0_0_0:=ceL k0 0 _ rfl
 have c0_0_1:=ceL k0 1 _ rfl
 have c0_0_2:=ceL k0 2 _ rfl
 have c0_0_3:=ceL k0 3 _ rfl
 have c0_0_4:=ceL k0 4 _ rfl
 have c0_0_5:=ceL k0 5 _ rfl
 have c0_0_6:=ceL k0 6 _ rfl
 have c0_0_7:=ceL k0 7 _ rfl
 have c0_0_8:=ceL k0 8 _ rfl
 have c0_0_9:=ceL k0 9 _ rfl
 have l0_0:w.heap.size<W0.heap.size:=by omega
 have f0_0:∀ j,W0.frozen? ⟨w.heap.size,j,none⟩=false:=fun j=>by simp[World.frozen?,k0]
 have K0_0:=zAa k0
 have c0_1_0:=ceL k1 0 _ rfl
 have l0_1:w.heap.size+1<W0.heap.size:=by omega
 have f0_1:∀ j,W0.frozen? ⟨w.heap.size+1,j,none⟩=false:=fun j=>by simp[World.frozen?,k1]
 have K0_1:=zAa k1
 have c0_2_0:=ceL k2 0 _ rfl
 have l0_2:w.heap.size+2<W0.heap.size:=by omega
 have f0_2:∀ j,W0.frozen? ⟨w.heap.size+2,j,none⟩=false:=fun j=>by simp[World.frozen?,k2]
 have K0_2:=zAa k2
 have c0_3_0:=ceL k3 0 _ rfl
 have l0_3:w.heap.size+3<W0.heap.size:=by omega
 have f0_3:∀ j,W0.frozen? ⟨w.heap.size+3,j,none⟩=false:=fun j=>by simp[World.frozen?,k3]
 have K0_3:=zAa k3
 have hsq0:w.heap.size+4≤W0.heap.size:=by omega
 clear hE hsz k0 k1 k2 k3
 go_wp2_with (first
  | (go_at_call_of 76 (Value.slice (some ⟨gr,0,none⟩) n n);refine (zBm gr gb n _ _ _ (Rr.out.below (Below.refl _ _)) (Rb.out.below (Below.refl _ _))).mono ?_;rintro e w0_0 ⟨q0_0,rfl,hq0_0,hb0_0⟩;have B0_0:Hid (Below W0.heap.size W0 w0_0):=hb0_0;have c1_0_0:=cfL B0_0.out l0_1 c0_1_0;have c1_0_1:=cfL B0_0.out l0_2 c0_2_0;have z1_0:=(B0_0.out.frozen (p:=⟨w.heap.size+3,0,none⟩) l0_3).trans (f0_3 0);have y1_0:=cfL B0_0.out l0_3 c0_3_0;have Q0_0:=zAa hq0_0;clear hq0_0))
 all_goals
  (try go_wp2)
  have KR:=zAf ((B0_0.out.block _ l0_3).trans K0_3.out) 0 (.slice (some ⟨q0_0,0,none⟩) n n)
  refine zBv (p:=6) (w.heap.size+3) _ (by kernel_rfl) rfl (by exact KR) rfl ⟨q0_0,rfl,⟨(Q0_0.out).at_.of_block (Below.heap_setCell _ _ _ _ (by have:=Q0_0.out.at_;unfold zAo at this;intro e;rw[e] at this;rw[(B0_0.out.block _ l0_3).trans K0_3.out] at this;simp at this)),(Q0_0.out).len,(Q0_0.out).fits⟩,(zAn BW0.out (Nat.le_refl _) B0_0.out).setCell (p:=⟨w.heap.size+3,0,none⟩) (by simp) _⟩
theorem zFE (a:FA) (f:Q.Facts) (gr:Nat) (rd:List Nat) (gb:Nat) (bh:List Nat) (gm:Nat) (ms:List Nat) (w:World) (hf:FactsIn w a f) (hr:RelAt w gr a.n rd) (hb:RelAt w gb a.n bh) (hm:RelAt w gm a.n ms) :
  Calls Tryz.prog 86 #[.agg (zAl a),.agg #[.slice (some ⟨gr,0,none⟩) a.n a.n],.agg #[.slice (some ⟨gb,0,none⟩) a.n a.n],.agg #[.slice (some ⟨gm,0,none⟩) a.n a.n]] w fun e w'=>zFv w w' a.n (Q.zJa rd bh ms) e:=by
 obtain⟨x,c,hev,_⟩:=hf.form
 obtain⟨n,ev,g1,g2,g3,g4,g5,g6,g7,g8,g9⟩:=a
 simp only at hev hr hb hm
 subst hev
 simp only[zAl]
 obtain⟨k0,k1,k2,k3,k4,hsz,hbw⟩:=zHV w #[.slice x n c,.slice (some ⟨g1,0,none⟩) n n,.slice (some ⟨g2,0,none⟩) n n,.slice (some ⟨g3,0,none⟩) n n,.slice (some ⟨g4,0,none⟩) n n,.slice (some ⟨g5,0,none⟩) n n,.slice (some ⟨g6,0,none⟩) n n,.slice (some ⟨g7,0,none⟩) n n,.slice (some ⟨g8,0,none⟩) n n,.slice (some ⟨g9,0,none⟩) n n] #[.slice (some ⟨gr,0,none⟩) n n] #[.slice (some ⟨gb,0,none⟩) n n] #[.slice (some ⟨gm,0,none⟩) n n] #[.slice none 0 0] 66 64 64 64 64
 have HF:=zAa (hf.below hbw)
 have Rr:=zAa (hr.below hbw)
 have Rb:=zAa (hb.below hbw)
 have Rm:=zAa (hm.below hbw)
 have BW0:=zAa hbw
 clear hbw hf hr hb hm
 go_enter Tryz.func86,Tryz.ntmps86
 go_upto_region 1 with fail
 generalize hE:(((((w.alloc (.cells #[.slice x n c,.slice (some ⟨g1,0,none⟩) n n,.slice (some ⟨g2,0,none⟩) n n,.slice (some ⟨g3,0,none⟩) n n,.slice (some ⟨g4,0,none⟩) n n,.slice (some ⟨g5,0,none⟩) n n,.slice (some ⟨g6,0,none⟩) n n,.slice (some ⟨g7,0,none⟩) n n,.slice (some ⟨g8,0,none⟩) n n,.slice (some ⟨g9,0,none⟩) n n] 66)).alloc (.cells #[.slice (some ⟨gr,0,none⟩) n n] 64)).alloc (.cells #[.slice (some ⟨gb,0,none⟩) n n] 64)).alloc (.cells #[.slice (some ⟨gm,0,none⟩) n n] 64)).alloc (.cells #[.slice none 0 0] 64))=W0 at *
 have c0_0_0:=ceL k0 0 _ rfl
 have c0_0_1:=ceL k0 1 _ rfl
 have c0_0_2:=ceL k0 2 _ rfl
 have c0_0_3:=ceL k0 3 _ rfl
 have c0_0_4:=ceL k0 4 _ rfl
 have c0_0_5:=ceL k0 5 _ rfl
 have c0_0_6:=ceL k0 6 _ rfl
 have c0_0_7:=ceL k0 7 _ rfl
 have c0_0_8:=ceL k0 8 _ rfl
 have c0_0_9:=ceL k0 9 _ rfl
 have l0_0:w.heap.size<W0.heap.size:=by omega
 have f0_0:∀ j,W0.frozen? ⟨w.heap.size,j,none⟩=false:=fun j=>by simp[World.frozen?,k0]
 have K0_0:=zAa k0
 have c0_1_0:=ceL k1 0 _ rfl
 have l0_1:w.heap.size+1<W0.heap.size:=by omega
 have f0_1:∀ j,W0.frozen? ⟨w.heap.size+1,j,none⟩=false:=fun j=>by simp[World.frozen?,k1]
 have K0_1:=zAa k1
 have c0_2_0:=ceL k2 0 _ rfl
 have l0_2:w.heap.size+2<W0.heap.size:=by omega
 have f0_2:∀ j,W0.frozen? ⟨w.heap.size+2,j,none⟩=false:=fun j=>by simp[World.frozen?,k2]
 have K0_2:=zAa k2
 have c0_3_0:=ceL k3 0 _ rfl
 have l0_3:w.heap.size+3<W0.heap.size:=by omega
 have f0_3:∀ j,W0.frozen? ⟨w.heap.size+3,j,none⟩=false:=fun j=>by simp[World.frozen?,k3]
 have K0_3:=zAa k3
 have c0_4_0:=ceL k4 0 _ rfl
 have l0_4:w.heap.size+4<W0.heap.size:=by omega
 have f0_4:∀ j,W0.frozen? ⟨w.heap.size+4,j,none⟩=false:=fun j=>by simp[World.frozen?,k4]
 have K0_4:=zAa k4
 have hsq0:w.heap.size+5≤W0.heap.size:=by omega
 clear hE hsz k0 k1 k2 k3 k4
 clear c0_0_0 c0_0_1 c0_0_2 c0_0_3 c0_0_4 c0_0_5 c0_0_6 c0_0_7 c0_0_8 c0_0_9
 clear f0_0 f0_1 f0_2 f0_3
 go_region_held3 (fun w'=>w'.cell? ⟨w.heap.size+1,0,none⟩=some (.slice (some ⟨gr,0,none⟩) n n)∧w'.cell? ⟨w.heap.size+2,0,none⟩=some (.slice (some ⟨gb,0,none⟩) n n)∧w'.cell? ⟨w.heap.size+3,0,none⟩=some (.slice (some ⟨gm,0,none⟩) n n)) (first | exact⟨c0_1_0,c0_2_0,c0_3_0⟩ | exact⟨c1_0_0,c1_0_1,c1_0_2⟩ | exact⟨c1_1_0,c1_1_1,c1_1_2⟩ | exact⟨c1_2_0,c1_2_1,c1_2_2⟩ | exact⟨(zAh (by omega)).trans c1_2_0,(zAh (by omega)).trans c1_2_1,(zAh (by omega)).trans c1_2_2⟩) (first
  | (go_at_call_of 53 (Value.slice (some ⟨q0_1,0,none⟩) n n);refine (zCu q0_1 gm n _ _ _ Q0_1.out (Rm.out.below B0_1.out)).mono ?_;rintro e w0_2 ⟨q0_2,rfl,hq0_2,hb0_2⟩;have B0_2:Hid (Below W0.heap.size W0 w0_2):=zAn B0_1.out (Nat.le_refl _) hb0_2;have c1_2_0:=cfL B0_2.out l0_1 c0_1_0;have c1_2_1:=cfL B0_2.out l0_2 c0_2_0;have c1_2_2:=cfL B0_2.out l0_3 c0_3_0;have z1_2:=(B0_2.out.frozen (p:=⟨w.heap.size+4,0,none⟩) l0_4).trans (f0_4 0);have y1_2:=cfL B0_2.out l0_4 c0_4_0;have Q0_2:=zAa hq0_2;clear hq0_2)
  | (go_at_call_of 53 (Value.slice (some ⟨q0_0,0,none⟩) n n);refine (zCu q0_0 gb n _ _ _ Q0_0.out (Rb.out.below B0_0.out)).mono ?_;rintro e w0_1 ⟨q0_1,rfl,hq0_1,hb0_1⟩;have B0_1:Hid (Below W0.heap.size W0 w0_1):=zAn B0_0.out (Nat.le_refl _) hb0_1;have c1_1_0:=cfL B0_1.out l0_1 c0_1_0;have c1_1_1:=cfL B0_1.out l0_2 c0_2_0;have c1_1_2:=cfL B0_1.out l0_3 c0_3_0;have z1_1:=(B0_1.out.frozen (p:=⟨w.heap.size+4,0,none⟩) l0_4).trans (f0_4 0);have y1_1:=cfL B0_1.out l0_4 c0_4_0;have Q0_1:=zAa hq0_1;clear hq0_1)
  | (go_at_call_of 110 (Value.slice (some ⟨gr,0,none⟩) n n);refine (zFW gr n _ _ (Rr.out.below (Below.refl _ _).drew)).mono ?_;rintro e w0_0 ⟨q0_0,rfl,hq0_0,hb0_0⟩;have B0_0:Hid (Below W0.heap.size W0 w0_0):=((Below.refl W0.heap.size W0).drew).trans (hb0_0.mono (by simp));have c1_0_0:=cfL B0_0.out l0_1 c0_1_0;have c1_0_1:=cfL B0_0.out l0_2 c0_2_0;have c1_0_2:=cfL B0_0.out l0_3 c0_3_0;have z1_0:=(B0_0.out.frozen (p:=⟨w.heap.size+4,0,none⟩) l0_4).trans (f0_4 0);have y1_0:=cfL B0_0.out l0_4 c0_4_0;have Q0_0:=zAa hq0_0;clear hq0_0))
 all_goals
  (try go_wp2)
  have KR:=zAf ((B0_2.out.block _ l0_4).trans K0_4.out) 0 (.slice (some ⟨q0_2,0,none⟩) n n)
  refine zBv (p:=8) (w.heap.size+4) _ (by kernel_rfl) rfl (by exact KR) rfl ⟨q0_2,rfl,⟨(Q0_2.out).at_.of_block (Below.heap_setCell _ _ _ _ (by have:=Q0_2.out.at_;unfold zAo at this;intro e;rw[e] at this;rw[(B0_2.out.block _ l0_4).trans K0_4.out] at this;simp at this)),(Q0_2.out).len,(Q0_2.out).fits⟩,(zAn BW0.out (Nat.le_refl _) B0_2.out).setCell (p:=⟨w.heap.size+4,0,none⟩) (by simp) _⟩
theorem zCQ (a:FA) (f:Q.Facts) (gm:Nat) (ms:List Nat) (gb:Nat) (bh:List Nat) (w:World) (hf:FactsIn w a f) (hm:RelAt w gm a.n ms) (hb:RelAt w gb a.n bh) :
  Calls Tryz.prog 85 #[.agg (zAl a),.agg #[.slice (some ⟨gm,0,none⟩) a.n a.n],.agg #[.slice (some ⟨gb,0,none⟩) a.n a.n]] w fun e w'=>e=.returned (.bool (f.splits ms bh))∧Below w.heap.size w w':=by
 obtain⟨x,c,hev,_⟩:=hf.form
 obtain⟨n,ev,g1,g2,g3,g4,g5,g6,g7,g8,g9⟩:=a
 simp only at hev hm hb
 subst hev
 simp only[zAl]
 obtain⟨k0,k1,k2,hsz,hbw⟩:=zDP w #[.slice x n c,.slice (some ⟨g1,0,none⟩) n n,.slice (some ⟨g2,0,none⟩) n n,.slice (some ⟨g3,0,none⟩) n n,.slice (some ⟨g4,0,none⟩) n n,.slice (some ⟨g5,0,none⟩) n n,.slice (some ⟨g6,0,none⟩) n n,.slice (some ⟨g7,0,none⟩) n n,.slice (some ⟨g8,0,none⟩) n n,.slice (some ⟨g9,0,none⟩) n n] #[.slice (some ⟨gm,0,none⟩) n n] #[.slice (some ⟨gb,0,none⟩) n n] 66 64 64
 have HF:=zAa (hf.below hbw)
 have Rm:=zAa (hm.below hbw)
 have Rb:=zAa (hb.below hbw)
 have BW0:=zAa hbw
 clear hbw hf hm hb
 go_enter Tryz.func85,Tryz.ntmps85
 go_upto_region 1 with fail
 generalize hE:(((w.alloc (.cells #[.slice x n c,.slice (some ⟨g1,0,none⟩) n n,.slice (some ⟨g2,0,none⟩) n n,.slice (some ⟨g3,0,none⟩) n n,.slice (some ⟨g4,0,none⟩) n n,.slice (some ⟨g5,0,none⟩) n n,.slice (some ⟨g6,0,none⟩) n n,.slice (some ⟨g7,0,none⟩) n n,.slice (some ⟨g8,0,none⟩) n n,.slice (some ⟨g9,0,none⟩) n n] 66)).alloc (.cells #[.slice (some ⟨gm,0,none⟩) n n] 64)).alloc (.cells #[.slice (some ⟨gb,0,none⟩) n n] 64))=W0 at *
 have c0_0_0:=ceL k0 0 _ rfl
 have c0_0_1:=ceL k0 1 _ rfl
 have c0_0_2:=ceL k0 2 _ rfl
 have c0_0_3:=ceL k0 3 _ rfl
 have c0_0_4:=ceL k0 4 _ rfl
 have c0_0_5:=ceL k0 5 _ rfl
 have c0_0_6:=ceL k0 6 _ rfl
 have c0_0_7:=ceL k0 7 _ rfl
 have c0_0_8:=ceL k0 8 _ rfl
 have c0_0_9:=ceL k0 9 _ rfl
 have l0_0:w.heap.size<W0.heap.size:=by omega
 have f0_0:∀ j,W0.frozen? ⟨w.heap.size,j,none⟩=false:=fun j=>by simp[World.frozen?,k0]
 have K0_0:=zAa k0
 have c0_1_0:=ceL k1 0 _ rfl
 have l0_1:w.heap.size+1<W0.heap.size:=by omega
 have f0_1:∀ j,W0.frozen? ⟨w.heap.size+1,j,none⟩=false:=fun j=>by simp[World.frozen?,k1]
 have K0_1:=zAa k1
 have c0_2_0:=ceL k2 0 _ rfl
 have l0_2:w.heap.size+2<W0.heap.size:=by omega
 have f0_2:∀ j,W0.frozen? ⟨w.heap.size+2,j,none⟩=false:=fun j=>by simp[World.frozen?,k2]
 have K0_2:=zAa k2
 have hsq0:w.heap.size+3≤W0.heap.size:=by omega
 clear hE hsz k0 k1 k2
 clear c0_0_0 c0_0_1 c0_0_2 c0_0_3 c0_0_4 c0_0_5 c0_0_6 c0_0_8 c0_0_9
 clear f0_0 f0_1 f0_2
 go_region_held3 (fun w'=>w'.cell? ⟨w.heap.size,7,none⟩=some (.slice (some ⟨g7,0,none⟩) n n)∧w'.cell? ⟨w.heap.size+1,0,none⟩=some (.slice (some ⟨gm,0,none⟩) n n)∧w'.cell? ⟨w.heap.size+2,0,none⟩=some (.slice (some ⟨gb,0,none⟩) n n)) (first | exact⟨c0_0_7,c0_1_0,c0_2_0⟩ | exact⟨c1_0_0,c1_0_1,c1_0_2⟩ | exact⟨c1_1_0,c1_1_1,c1_1_2⟩ | exact⟨c1_2_0,c1_2_1,c1_2_2⟩) (first
  | (go_at_call_of 82 (Value.slice (some ⟨q0_1,0,none⟩) n n);refine (zBI q0_1 n _ _ Q0_1.out).mono ?_;rintro e w0_2 ⟨rfl,hb0_2⟩;have B0_2:Hid (Below W0.heap.size W0 w0_2):=zAn B0_1.out (Nat.le_refl _) hb0_2;have c1_2_0:=cfL B0_2.out l0_0 c0_0_7;have c1_2_1:=cfL B0_2.out l0_1 c0_1_0;have c1_2_2:=cfL B0_2.out l0_2 c0_2_0;skip)
  | (go_at_call_of 76 (Value.slice (some ⟨q0_0,0,none⟩) n n);refine (zBm q0_0 gb n _ _ _ Q0_0.out (Rb.out.below B0_0.out)).mono ?_;rintro e w0_1 ⟨q0_1,rfl,hq0_1,hb0_1⟩;have B0_1:Hid (Below W0.heap.size W0 w0_1):=zAn B0_0.out (Nat.le_refl _) hb0_1;have c1_1_0:=cfL B0_1.out l0_0 c0_0_7;have c1_1_1:=cfL B0_1.out l0_1 c0_1_0;have c1_1_2:=cfL B0_1.out l0_2 c0_2_0;have Q0_1:=zAa hq0_1;clear hq0_1)
  | (go_at_call_of 76 (Value.slice (some ⟨g7,0,none⟩) n n);refine (zBm g7 gm n _ _ _ (HF.out.r7.below (Below.refl _ _).drew) (Rm.out.below (Below.refl _ _).drew)).mono ?_;rintro e w0_0 ⟨q0_0,rfl,hq0_0,hb0_0⟩;have B0_0:Hid (Below W0.heap.size W0 w0_0):=((Below.refl W0.heap.size W0).drew).trans (hb0_0.mono (by simp));have c1_0_0:=cfL B0_0.out l0_0 c0_0_7;have c1_0_1:=cfL B0_0.out l0_1 c0_1_0;have c1_0_2:=cfL B0_0.out l0_2 c0_2_0;have Q0_0:=zAa hq0_0;clear hq0_0))
 all_goals
  go_wp2
  go_ret
  exact⟨rfl,zAn BW0.out (Nat.le_refl _) B0_2.out⟩
end Go.Proofs.YtkmebkbpfmoeaaaGreat
