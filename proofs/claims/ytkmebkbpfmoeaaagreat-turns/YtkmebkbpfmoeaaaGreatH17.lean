import Derived.Test.YtkmebkbpfmoeaaaGreatH16
set_option linter.unusedVariables false
set_option linter.unusedSimpArgs false
set_option maxHeartbeats 12800000
namespace Go.Proofs.YtkmebkbpfmoeaaaGreat
open Go Go.RowKit
set_option maxRecDepth 100000
theorem zDu {w:World} {B g:Nat} {m:Q.Mach} {ev:Value} (h:MachIn w B g m ev):some g≠ev.ownBlock:=fun e=>by
 rcases h.evs.2 with ⟨e1,_⟩ | ⟨g',cap,cur,e1,_,hh,_⟩
 ·rw[e1] at e;simp[Value.ownBlock] at e
 ·rw[e1] at e;simp[Value.ownBlock] at e
  subst e
  rw[h.box] at hh;simp at hh
theorem zHc {w W0 Wd w1:World} {B g gn cn:Nat} {m:Q.Mach} {ev:Value} {e:Q.Ev} (hm:MachIn w B g m ev) (hb0:Below w.heap.size w W0) (hd:Below W0.heap.size W0 Wd) (hs:w.heap.size<Wd.heap.size)
  (hown:w1.ownsRow B 129 10 (.slice (some ⟨gn,0,none⟩) (m.events.length+1) cn) (m.events.length+1) (zAL m.events++(zAb e).toList)) (hgrow:Wd.grownBy w1 ev.ownBlock) (hat:ev.ownBlock=some gn∨w.heap.size≤gn) :
  MachIn (w1.setCell ⟨g,13,none⟩ (.slice (some ⟨gn,0,none⟩) (m.events.length+1) cn)) B g (m.put e) (.slice (some ⟨gn,0,none⟩) (m.events.length+1) cn)∧MFrame w (w1.setCell ⟨g,13,none⟩ (.slice (some ⟨gn,0,none⟩) (m.events.length+1) cn)) g ev (.slice (some ⟨gn,0,none⟩) (m.events.length+1) cn):=by
 have hbd:Below w.heap.size w Wd:=zAn hb0 (Nat.le_refl _) hd
 have hg1:w1.heap[g]?=some (.cells (zCC m ev) 147 (0,0)):=(hgrow.block g (by have:=hm.lt;omega) (zDu hm)).trans ((hbd.block g hm.lt).trans hm.box)
 have hgn:gn≠g:=fun e1=>by
  rcases hown.2 with ⟨e2,_⟩ | ⟨g',cap,cur,e2,_,hh,_⟩
  ·simp at e2
  ·simp only[Value.slice.injEq,Option.some.injEq,Addr.mk.injEq] at e2
   rw[← e2.1.1,e1,hg1] at hh;simp at hh
 refine⟨⟨?_,?_,hm.ge,hm.lr,hm.lm⟩,?_⟩
 ·rw[zAf hg1];rfl
 ·have e1:(m.put e).events.length=m.events.length+1:=by simp[Q.Mach.put]
  have e2:zAL (m.put e).events=zAL m.events++(zAb e).toList:=by simp only[Q.Mach.put];rw[zCB,zDM]
  rw[e1,e2]
  refine zAc hown (fun k hk=>Below.heap_setCell _ _ _ _ ?_)
  simp[Value.ownBlock] at hk
  simp;omega
 ·refine⟨hgrow.os.trans hbd.os,hgrow.tape.trans hbd.tape,hgrow.output.trans hbd.output,by have:=hgrow.size;simp;omega,fun k hk hkg hke=>?_,?_⟩
  ·rw[Below.heap_setCell _ _ _ _ hkg,hgrow.block k (by omega) (fun h=>hke h.symm),hbd.block k hk]
  ·rcases hat with h | h
   ·exact Or.inl (by rw[h];rfl)
   ·exact Or.inr ⟨gn,rfl,h⟩
theorem zCE (B g:Nat) (m:Q.Mach) (ev:Value) (e:Q.Ev) (w:World) (h:MachIn w B g m ev) (hn:m.events.length<10000) (hB:B≤w.heap.size) :
  Calls Tryz.prog 139 #[.pointer (some ⟨g,0,none⟩),.agg (zAb e)] w fun x w'=>x=.returned (.int .i64 (m.events.length:Int))∧∃ ev',MachIn w' B g (m.put e) ev'∧MFrame w w' g ev ev':=by
 obtain⟨i0,hi,hz0,hz1,hz2⟩:=info_parts Tryz.infoEvM
 obtain⟨k0,hsz,hbw⟩:=zBt w (zAb e) 129
 have HM0:=zAa (h.below hbw)
 have H:=zAa h
 have BW0:=zAa hbw
 obtain⟨sa,sc,rfl,hsa⟩:=h.form
 clear h hbw hsa
 simp only[zAb] at *
 go_enter Tryz.func139,Tryz.ntmps139
 go_upto_region 1 with fail
 generalize hE:w.alloc (.cells #[.int .i64 e.kind,.int .i64 e.thread,.int .i64 e.block,.int .i64 e.var,.int .i64 e.value,.int .i64 e.order,.int .i64 e.scope,.int .i64 e.bars,.bool e.step,.int .u64 (e.hangs:Nat)] 129)=W0 at *
 have HE0:zAQ W0 w.heap.size e:=k0
 obtain⟨x0,x1,x2,x3,x4,x5,x6,x7,x8,x9,xf,xl⟩:=HE0.facts
 obtain⟨c0,c1,c2,c3,c4,c5,c6,c7,c8,c9,c10,c11,c12,c13,cf⟩:=HM0.out.facts
 have hg:=HM0.out.lt
 have hszl:w.heap.size+1≤W0.heap.size:=by omega
 have hge:=HM0.out.ge
 have hne:=zDu HM0.out
 have HO:Hid ((W0.drew.alloc (.cells (zAb e) 129)).ownsRow B 129 10 (.slice sa m.events.length sc) m.events.length (zAL m.events)):=zAc HM0.out.evs (fun k hk=>Below.heap_alloc _ _ _ (HM0.out.evs.lt k hk).2)
 have HN:Hid (∀ j u,(zAb e).toList[j]?=some u→(W0.drew.alloc (.cells (zAb e) 129)).cell? ((⟨W0.heap.size,0,none⟩:Addr).add j)=some u) :=
  World.news_of_block (cs:=zAb e) (t:=129) (fr:=(0,0)) (heap_alloc_new W0.drew _)
 have HC:Hid ((W0.drew.alloc (.cells (zAb e) 129)).cell? ⟨g,13,none⟩=some (.slice sa m.events.length sc)):=(zAx (w:=W0.drew) hg).trans c13
 have HFZ:Hid ((W0.drew.alloc (.cells (zAb e) 129)).frozen? ⟨g,13,none⟩=false):=by
  unfold Hid;rw[World.frozen?_of_block (w:=W0.drew) (a:=⟨g,13,none⟩) (Below.heap_alloc _ _ _ hg)];exact cf 13
 clear c0 c1 c2 c3 c4 c5 c6 c7 c8 c9 c10 c11 c12 k0 hE HE0 hsz
 go_region_law (refine step_append_lies _ rfl (.tmp 9) (.tmp 11) 59 rfl B 129 i0 (.agg (zAb Q.Ev.zero)) 10 80 Tryz.underlying59 hi hz0 hz1 hz2 rfl (by decide) (.slice sa m.events.length sc) m.events.length (zAL m.events) (by simp[Act.eval]) (by exact HO.out) ⟨W0.heap.size,0,none⟩ 1 1 (zAb e).toList (by simp[Act.eval]) rfl (by exact HN.out) (by simp[zAb,Value.oneCell']) (by decide) (by unfold maxLen;omega) (by omega) (by simp;omega) (W0.heap.size+1) (by simp) ?_;intro gn cn w1 hown1 hgrow hat hlt1;have c1:=(hgrow.cell_far ⟨g,13,none⟩ (by simp;omega) hne).trans HC.out;have f1:=(hgrow.frozen_far ⟨g,13,none⟩ (by simp;omega) hne).trans HFZ.out;have hwl:W0.heap.size+1≤w1.heap.size:=by have:=hgrow.size;simp at this;omega)
 all_goals
  obtain⟨q1,q2⟩:=zHc (Wd:=W0.drew.alloc (.cells (zAb e) 129)) H.out BW0.out (((Below.refl _ _).drew).alloc (by simp) _) (by simp;omega) hown1 hgrow (by rcases hat with h | h;exact Or.inl h;exact Or.inr (by omega))
  have Q1:=zAa q1
  have Q2:=zAa q2
  have hgw1:g<w1.heap.size:=by omega
  have hns:((m.events.length+1:Nat):Int)-1=(m.events.length:Int):=by omega
  clear q1 q2 hown1 hgrow
  go_wp2
  go_ret
  exact⟨by first | rfl | (congr 2;omega),_,Q1.out,Q2.out⟩
def zCv (B g:Nat) (w w':World) (ev:Value) (m:Q.Mach):Prop:=∃ ev',MachIn w' B g m ev'∧MFrame w w' g ev ev'
theorem zCv.next {B g:Nat} {w w1 w2:World} {ev ev1:Value} {m:Q.Mach} (h:MFrame w w1 g ev ev1) (k:zCv B g w1 w2 ev1 m):zCv B g w w2 ev m:=by
 obtain⟨ev',h1,h2⟩:=k
 exact⟨ev',h1,h.trans h2⟩
theorem zEw (B g:Nat) (m:Q.Mach) (ev:Value) (st:P.Stm) (w:World) (h:MachIn w B g m ev) (hn:m.events.length<10000) (hB:B≤w.heap.size) (hu:m.unread<1000000000) :
  Calls Tryz.prog 134 #[.pointer (some ⟨g,0,none⟩),.agg (zAd st)] w fun x w'=>x=.returned (.int .i64 (m.events.length:Int))∧zCv B g w w' ev (m.read st):=by
 have hgw:=h.lt
 have H:=zAa h
 obtain⟨k0,hsz,hbw⟩:=zBt w (zAd st) 97
 have HM0:=zAa (h.below hbw)
 have HST:zAu _ _ st:=k0
 have HST0:=zAa HST
 have BW0:=zAa hbw
 have HE:Hid (m.read st={ m with unread:=m.unread / 4 }.put { m.event 0 st with value:=(m.unread % 4:Nat) }):=rfl
 clear h hbw HST k0 hsz
 simp only[zAd] at *
 go_enter Tryz.func134,Tryz.ntmps134
 go_upto_region 2 with (first | (go_at_call 138;refine (zCl B g m ev 0 st _ HM0.out (Or.inl rfl)).mono ?_;rintro e w1 ⟨rfl,hb1⟩;generalize hev:m.event 0 st=e0 at *;simp only[zAb]))
 have E1:Hid (zAQ (w1.alloc (.cells (zAb e0) 129)) w1.heap.size e0):=zAQ.new w1 e0
 have BX:Below w.heap.size w (w1.alloc (.cells (zAb e0) 129)):=(zAn BW0.out (Nat.le_refl _) hb1).alloc (by have:=hb1.size;simp at this;omega) _
 have HM1:=zAa (H.out.below BX)
 have B1:=zAa BX
 have hlb:w1.heap.size<(w1.alloc (.cells (zAb e0) 129)).heap.size:=by simp
 have hwb:w.heap.size≤w1.heap.size:=(zAn BW0.out (Nat.le_refl _) hb1).size
 clear BX hb1
 simp only[zAb] at E1 HM1 B1 hlb
 generalize hb:w1.heap.size=b at *
 generalize hW1:w1.alloc _=W1 at *
 obtain⟨c0,c1,c2,c3,c4,c5,c6,c7,c8,c9,c10,c11,c12,c13,cf⟩:=HM1.out.facts
 have hg:=HM1.out.lt
 obtain⟨x0,x1,x2,x3,x4,x5,x6,x7,x8,x9,xf,xl⟩:=E1.out.facts
 clear c0 c1 c3 c4 c5 c6 c7 c8 c9 c10 c11 c12 c13 x0 x1 x2 x3 x5 x6 x7 x8 x9 hW1
 go_upto_region 4 with fail
 have hbg:b≠g:=by omega
 have E2:Hid (zAQ ((W1.setCell ⟨b,4,none⟩ (.int .i64 ((m.unread:Int) % 4))).setCell ⟨g,2,none⟩ (.int .i64 ((m.unread:Int) / 4))) b { e0 with value:=(m.unread % 4:Nat) }):=zAQ.of2 (E1.out.set _ 4 _ rfl) hbg
 have HM2:Hid (MachIn ((W1.setCell ⟨b,4,none⟩ (.int .i64 ((m.unread:Int) % 4))).setCell ⟨g,2,none⟩ (.int .i64 ((m.unread:Int) / 4))) B g { m with unread:=m.unread / 4 } ev):=by
  have hx:MachIn (W1.setCell ⟨b,4,none⟩ (.int .i64 ((m.unread:Int) % 4))) B g m ev:=H.out.below (B1.out.setCell (p:=⟨b,4,none⟩) hwb _)
  refine hx.set ?_ (fun k hk=>Below.heap_setCell _ _ _ _ hk) rfl hx.lr hx.lm
  rw[zAf hx.box];rfl
 have FR:Hid (MFrame w ((W1.setCell ⟨b,4,none⟩ (.int .i64 ((m.unread:Int) % 4))).setCell ⟨g,2,none⟩ (.int .i64 ((m.unread:Int) / 4))) g ev ev):=(MFrame.of (B1.out.setCell (p:=⟨b,4,none⟩) hwb _) g ev).trans (MFrame.set ev [(2,.int .i64 ((m.unread:Int) / 4))])
 have hsz2:w.heap.size≤((W1.setCell ⟨b,4,none⟩ (.int .i64 ((m.unread:Int) % 4))).setCell ⟨g,2,none⟩ (.int .i64 ((m.unread:Int) / 4))).heap.size:=FR.out.size
 generalize hW2:(W1.setCell ⟨b,4,none⟩ (.int .i64 ((m.unread:Int) % 4))).setCell ⟨g,2,none⟩ (.int .i64 ((m.unread:Int) / 4))=W2 at *
 generalize he1:({ e0 with value:=(m.unread % 4:Nat) }:Q.Ev)=e1 at *
 have HE1:=zAa he1
 have HEV:=zAa hev
 clear he1 hev hW2 c2 cf x4 xf xl
 go_wp2_with (first | (refine zAg (.tmp 5) rfl rfl b 0 e1 rfl E2.out.range ?_) | (go_at_call 139;refine (zCE B g _ ev e1 _ HM2.out hn (by omega)).mono ?_;rintro e w3 ⟨rfl,ev',hm3,hf3⟩))
 go_ret
 refine⟨rfl,ev',?_,FR.out.trans hf3⟩
 rw[HE.out];exact hm3
theorem zCM (B g:Nat) (m:Q.Mach) (ev:Value) (st:P.Stm) (v:Int) (s:Nat) (w:World) (h:MachIn w B g m ev) (hn:m.events.length<10000) (hB:B≤w.heap.size) (ha:m.asked<Q.M64) (hs:s<Q.M64) :
  Calls Tryz.prog 147 #[.pointer (some ⟨g,0,none⟩),.agg (zAd st),.int .i64 v,.int .u64 (s:Nat)] w fun x w'=>x=.returned (.tuple #[])∧zCv B g w w' ev (m.write st v s):=by
 have hgw:=h.lt
 have H:=zAa h
 obtain⟨k0,hsz,hbw⟩:=zBt w (zAd st) 97
 have HM0:=zAa (h.below hbw)
 have BW0:=zAa hbw
 have HE:Hid (m.write st v s=m.put { m.event 1 st with value:=v,hangs:=m.asked ||| s }):=rfl
 have hor:=bits_or_u64_nat m.asked s ha hs
 have HEH:Hid ((m.event 1 st).hangs=m.asked):=rfl
 clear h hbw k0 hsz
 simp only[zAd] at *
 go_enter Tryz.func147,Tryz.ntmps147
 go_upto_region 2 with (first | (go_at_call 138;refine (zCl B g m ev 1 st _ HM0.out (Or.inr (Or.inl rfl))).mono ?_;rintro e w1 ⟨rfl,hb1⟩;generalize hev:m.event 1 st=e0 at *;simp only[zAb]))
 have E1:Hid (zAQ (w1.alloc (.cells (zAb e0) 129)) w1.heap.size e0):=zAQ.new w1 e0
 have BX:Below w.heap.size w (w1.alloc (.cells (zAb e0) 129)):=(zAn BW0.out (Nat.le_refl _) hb1).alloc (by have:=hb1.size;simp at this;omega) _
 have HM1:=zAa (H.out.below BX)
 have B1:=zAa BX
 have hlb:w1.heap.size<(w1.alloc (.cells (zAb e0) 129)).heap.size:=by simp
 have hwb:w.heap.size≤w1.heap.size:=(zAn BW0.out (Nat.le_refl _) hb1).size
 clear BX hb1
 simp only[zAb] at E1 HM1 B1 hlb
 generalize hb:w1.heap.size=b at *
 generalize hW1:w1.alloc _=W1 at *
 obtain⟨x0,x1,x2,x3,x4,x5,x6,x7,x8,x9,xf,xl⟩:=E1.out.facts
 rw[HEH.out] at x9
 clear x0 x1 x2 x3 x5 x6 x7 x8 hW1
 go_upto_region 4 with fail
 have hbg:b≠g:=by omega
 have E2:Hid (zAQ ((W1.setCell ⟨b,4,none⟩ (.int .i64 v)).setCell ⟨b,9,none⟩ (.int .u64 ((m.asked ||| s:Nat):Int))) b { e0 with value:=v,hangs:=m.asked ||| s }):=(E1.out.set { e0 with value:=v } 4 _ rfl).set _ 9 _ rfl
 have BF:Hid (Below w.heap.size w ((W1.setCell ⟨b,4,none⟩ (.int .i64 v)).setCell ⟨b,9,none⟩ (.int .u64 ((m.asked ||| s:Nat):Int)))):=(B1.out.setCell (p:=⟨b,4,none⟩) hwb _).setCell (p:=⟨b,9,none⟩) hwb _
 have HM2:=zAa (H.out.below BF.out)
 generalize hW2:(W1.setCell ⟨b,4,none⟩ (.int .i64 v)).setCell ⟨b,9,none⟩ (.int .u64 ((m.asked ||| s:Nat):Int))=W2 at *
 generalize he1:({ e0 with value:=v,hangs:=m.asked ||| s }:Q.Ev)=e1 at *
 have HE1:=zAa he1
 have HEV:=zAa hev
 have hsz2:=BF.out.size
 clear he1 hev hW2 x4 x9 xf xl
 go_wp2_with (first | (refine zAg (.tmp 8) rfl rfl b 0 e1 rfl E2.out.range ?_) | (go_at_call 139;refine (zCE B g _ ev e1 _ HM2.out hn (by omega)).mono ?_;rintro e w3 ⟨rfl,ev',hm3,hf3⟩))
 go_end0
 refine⟨rfl,ev',?_,(MFrame.of BF.out g ev).trans hf3⟩
 rw[HE.out];exact hm3
theorem zBk {m:Q.Mach} (hm:∀ x∈m.made,x<Q.M64) (a:P.Opd):m.madeOf a<Q.M64:=by
 unfold Q.Mach.madeOf
 split
 ·split
  ·decide
  ·by_cases h:a.n.toNat<m.made.length
   ·rw[Q.getD_in _ _ h];exact hm _ (List.getElem_mem h)
   ·rw[Q.getD_out _ _ (by omega)];decide
 ·decide
theorem zGa (B g:Nat) (m:Q.Mach) (ev:Value) (st:P.Stm) (w:World) (h:MachIn w B g m ev) (hn:m.events.length<10000) (hB:B≤w.heap.size) (ha:m.asked<Q.M64) (hm:∀ x∈m.made,x<Q.M64) :
  Calls Tryz.prog 136 #[.pointer (some ⟨g,0,none⟩),.agg (zAd st)] w fun x w'=>x=.returned (.tuple #[])∧zCv B g w w' ev (m.store st):=by
 have H:=zAa h
 obtain⟨k0,hsz,hbw⟩:=zBt w (zAd st) 97
 have HM0:=zAa (h.below hbw)
 have BW0:=zAa hbw
 have HST:Hid (zAu _ _ st):=k0
 have HE:Hid (m.store st=m.write st (m.value ⟨st.a.reg,st.a.n⟩) (m.madeOf ⟨st.a.reg,st.a.n⟩)):=rfl
 have hml:=zBk hm ⟨st.a.reg,st.a.n⟩
 have hszB:=hbw.size
 clear h hbw k0 hsz
 simp only[zAd] at *
 go_enter Tryz.func136,Tryz.ntmps136
 go_upto_region 1 with fail
 generalize hE:w.alloc (.cells #[.int .i64 st.kind,.int .i64 st.line,.int .i64 st.dest,.int .i64 st.var,.bool st.a.reg,.int .i64 st.a.n,.bool st.b.reg,.int .i64 st.b.n,.int .i64 st.order,.int .i64 st.scope,.int .i64 st.label] 97)=W0 at *
 obtain⟨s0,s1,s2,s3,s4,s5,s6,s7,s8,s9,s10,s11,s12⟩:=HST.out.facts
 clear hE
 go_wp2_with (first
  | (go_at_call 147;refine (zCM B g m ev st _ _ _ HM2.out hn (by omega) ha hml).mono ?_;rintro e w3 ⟨rfl,hm3⟩)
  | (go_at_call 119;refine (zBc B g m ev st.a.reg st.a.n _ HM1.out).mono ?_;rintro e w2 ⟨rfl,hb2⟩;have HM2:=zAa (HM1.out.below hb2);have hz2:=hb2.size;have HS2:=zAa (HS1.out.below hb2);clear s0 s1 s2 s3 s4 s5 s6 s7 s8 s9 s10 s11 s12;obtain⟨s0,s1,s2,s3,s4,s5,s6,s7,s8,s9,s10,s11,s12⟩:=HS2.out.facts)
  | (go_at_call 120;refine (zBY B g m ev st.a.reg st.a.n _ HM0.out).mono ?_;rintro e w1 ⟨rfl,hb1⟩;have HM1:=zAa (HM0.out.below hb1);have hz1:=hb1.size;have HS1:=zAa (HST.out.below hb1);clear s0 s1 s2 s3 s4 s5 s6 s7 s8 s9 s10 s11 s12;obtain⟨s0,s1,s2,s3,s4,s5,s6,s7,s8,s9,s10,s11,s12⟩:=HS1.out.facts))
 go_end0
 refine⟨rfl,zCv.next (MFrame.of (zAn (zAn BW0.out (Nat.le_refl _) hb1) (Nat.le_refl _) hb2) g ev) ?_⟩
 rw[HE.out];exact hm3
theorem zEx (B g:Nat) (m:Q.Mach) (ev:Value) (st:P.Stm) (w:World) (h:MachIn w B g m ev) (hn:m.events.length+1<10000) (hB:B≤w.heap.size) (hbr:m.bars<10000) :
  Calls Tryz.prog 140 #[.pointer (some ⟨g,0,none⟩),.agg (zAd st)] w fun x w'=>x=.returned (.tuple #[])∧zCv B g w w' ev (m.barrier st):=by
 have hgw:=h.lt
 have H:=zAa h
 obtain⟨k0,hsz,hbw⟩:=zBt w (zAd st) 97
 have HM0:=zAa (h.below hbw)
 have BW0:=zAa hbw
 have HST:Hid (zAu _ _ st):=k0
 have HE:Hid (m.barrier st={ (m.put (m.event 3 st)).put (m.event 4 st) with bars:=m.bars+1 }):=by
  unfold Hid Q.Mach.barrier Q.Mach.put;simp
 have hszB:=hbw.size
 clear h hbw k0 hsz
 simp only[zAd] at *
 go_enter Tryz.func140,Tryz.ntmps140
 go_upto_region 1 with fail
 generalize hE:w.alloc (.cells #[.int .i64 st.kind,.int .i64 st.line,.int .i64 st.dest,.int .i64 st.var,.bool st.a.reg,.int .i64 st.a.n,.bool st.b.reg,.int .i64 st.b.n,.int .i64 st.order,.int .i64 st.scope,.int .i64 st.label] 97)=W0 at *
 obtain⟨s0,s1,s2,s3,s4,s5,s6,s7,s8,s9,s10,s11,s12⟩:=HST.out.facts
 clear hE
 go_upto_region 2 with (first | (go_at_call 138;refine (zCl B g m ev 3 st _ HM0.out (by omega)).mono ?_;rintro e w1 ⟨rfl,hb1⟩;generalize hev:m.event 3 st=e0 at *;simp only[zAb]))
 have E1:Hid (zAQ (w1.alloc (.cells (zAb e0) 129)) w1.heap.size e0):=zAQ.new w1 e0
 have BX:Below W0.heap.size W0 (w1.alloc (.cells (zAb e0) 129)):=hb1.alloc hb1.size _
 have HM1:=zAa (HM0.out.below BX)
 have HS1:=zAa (HST.out.below BX)
 have B1:=zAa (zAn BW0.out (Nat.le_refl _) BX)
 have hwb:w.heap.size≤w1.heap.size:=by have:=hb1.size;omega
 clear BX hb1 s0 s1 s2 s3 s4 s5 s6 s7 s8 s9 s10 s11 s12
 simp only[zAb] at E1 HM1 B1 HS1
 generalize hb:w1.heap.size=b at *
 generalize hW1:w1.alloc _=W1 at *
 clear hW1
 obtain⟨s0,s1,s2,s3,s4,s5,s6,s7,s8,s9,s10,s11,s12⟩:=HS1.out.facts
 go_upto_region 3 with (first | (go_at_call 138;refine (zCl B g m ev 4 st _ HM1.out (by omega)).mono ?_;rintro e w2 ⟨rfl,hb2⟩;generalize hev4:m.event 4 st=e4 at *;simp only[zAb]))
 have E2:Hid (zAQ (w2.alloc (.cells (zAb e4) 129)) w2.heap.size e4):=zAQ.new w2 e4
 have BX:Below W1.heap.size W1 (w2.alloc (.cells (zAb e4) 129)):=hb2.alloc hb2.size _
 have HM2:=zAa (HM1.out.below BX)
 have E1b:=zAa (E1.out.below BX)
 have B2:=zAa (zAn B1.out (Nat.le_refl _) BX)
 have hbl1:=E1.out.lt
 have hbl2:W1.heap.size≤w2.heap.size:=hb2.size
 have hwl1:=B1.out.size
 clear BX hb2 s0 s1 s2 s3 s4 s5 s6 s7 s8 s9 s10 s11 s12
 simp only[zAb] at E2 HM2 B2 E1b
 generalize hb':w2.heap.size=b2 at *
 generalize hW2:w2.alloc _=W2 at *
 clear hW2
 have hown:∀ k,ev.ownBlock=some k→k<w.heap.size:=fun k hk=>(H.out.evs.lt k hk).2
 have hsw2:=B2.out.size
 have HEV:=zAa hev
 have HEV4:=zAa hev4
 clear hev hev4
 go_upto_region 4 with (first | (refine zAg (.tmp 4) rfl rfl b 0 e0 rfl E1b.out.range ?_) | (go_at_call 139;refine (zCE B g m ev e0 _ HM2.out (by omega) (by omega)).mono ?_;rintro e w3 ⟨rfl,ev3,hm3,hf3⟩))
 have E3:Hid (zAQ w3 b2 e4):=by
  have h1:=E2.out
  have h2:=h1.lt
  unfold Hid zAQ at *
  rw[hf3.block b2 h2 (by omega) (fun e=>by have:=hown b2 e;omega)];exact h1
 have HM3:=zAa hm3
 have F3:=zAa ((MFrame.of B2.out g ev).trans hf3)
 have hl3:=hf3.size
 clear hm3 hf3
 go_upto_region 5 with (first | (refine zAg (.tmp 5) rfl rfl b2 0 e4 rfl E3.out.range ?_) | (go_at_call 139;refine (zCE B g _ ev3 e4 _ HM3.out (by simp[Q.Mach.put];omega) (by omega)).mono ?_;rintro e w4 ⟨rfl,ev4,hm4,hf4⟩))
 have hg4:=hm4.lt
 obtain⟨c0,c1,c2,c3,c4,c5,c6,c7,c8,c9,c10,c11,c12,c13,cf⟩:=hm4.facts
 have HM4:=zAa hm4
 have F4:=zAa (F3.out.trans hf4)
 have c12':w4.cell? ⟨g,12,none⟩=some (.int .i64 (m.bars:Nat)):=c12
 clear c0 c1 c2 c3 c4 c5 c6 c7 c8 c9 c10 c11 c12 c13 hm4 hf4
 go_wp2
 go_end0
 refine⟨rfl,ev4,?_,F4.out.trans (MFrame.set ev4 [(12,.int .i64 ((m.bars:Int)+1))])⟩
 rw[HE.out]
 refine HM4.out.set ?_ (fun k hk=>Below.heap_setCell _ _ _ _ hk) rfl HM4.out.lr HM4.out.lm
 rw[zAf HM4.out.box];rfl
namespace Q
structure Mach.Ok (m:Mach) (n:Nat):Prop where
 regs:∀ x∈m.regs,0≤x∧x<4
 made:∀ x∈m.made,x<M64
 asked:m.asked<M64
 evs:∀ e∈m.events,0≤e.value∧e.value<4∧e.hangs<M64
 len:m.events.length≤2*n
 bars:m.bars≤n
 unread:m.unread<1000000000
def OpOk (a:P.Opd):Prop:=0≤a.n∧a.n<4
def StOk (st:P.Stm):Prop:=OpOk st.a∧OpOk st.b
theorem getD_bd (l:List Int) (h:∀ x∈l,0≤x∧x<4) (i:Nat):0≤l.getD i 0∧l.getD i 0<4:=by
 by_cases hi:i<l.length
 ·rw[zAH l i hi];exact h _ (List.getElem_mem hi)
 ·simp[List.getD,List.getElem?_eq_none (by omega:l.length≤i)]
theorem Mach.Ok.value {m:Mach} {n:Nat} (h:m.Ok n) {a:P.Opd} (ha:OpOk a):0≤m.value a∧m.value a<4:=by
 unfold Mach.value
 split
 ·split
  ·omega
  ·exact getD_bd _ h.regs _
 ·exact ha
theorem Mach.Ok.valueOf {m:Mach} {n:Nat} (h:m.Ok n) (i:Nat):0≤m.valueOf i∧m.valueOf i<4:=by
 unfold Mach.valueOf
 by_cases hi:i<m.events.length
 ·have e:m.events.getD i Ev.zero=m.events[i]:=by simp[hi]
  rw[e];have:=h.evs _ (List.getElem_mem hi);omega
 ·have e:m.events.getD i Ev.zero=Ev.zero:=by simp[List.getElem?_eq_none (by omega:m.events.length≤i)]
  rw[e];simp[Ev.zero]
theorem Mach.Ok.give {m:Mach} {n:Nat} (h:m.Ok n) (d v:Int) (s:Nat) (hv:0≤v∧v<4) (hs:s<M64):(m.give d v s).Ok n:=by
 unfold Mach.give
 split
 ·exact h
 ·refine⟨fun x hx=>?_,fun x hx=>?_,h.asked,h.evs,h.len,h.bars,h.unread⟩
  ·rcases List.mem_or_eq_of_mem_set hx with hx | rfl
   ·exact h.regs x hx
   ·exact hv
  ·rcases List.mem_or_eq_of_mem_set hx with hx | rfl
   ·exact h.made x hx
   ·exact hs
theorem Mach.Ok.more {m:Mach} {n:Nat} (h:m.Ok n):m.Ok (n+1):=⟨h.regs,h.made,h.asked,h.evs,by have:=h.len;omega,by have:=h.bars;omega,h.unread⟩
theorem Mach.Ok.read {m:Mach} {n:Nat} (h:m.Ok n) (st:P.Stm):(∀ x∈(m.read st).regs,0≤x∧x<4)∧(∀ x∈(m.read st).made,x<M64)∧(m.read st).asked<M64∧(∀ e∈(m.read st).events,0≤e.value∧e.value<4∧e.hangs<M64)∧(m.read st).events.length=m.events.length+1∧(m.read st).unread<1000000000:=by
 refine⟨h.regs,h.made,h.asked,fun e he=>?_,by simp[Mach.read],by have:=h.unread;simp[Mach.read];omega⟩
 simp only[Mach.read,List.mem_append,List.mem_singleton] at he
 rcases he with he | rfl
 ·exact h.evs e he
 ·refine⟨by simp;omega,by simp;omega,?_⟩
  simp[Mach.event];exact h.asked
end Q
theorem zCe (B g k:Nat) (m:Q.Mach) (ev:Value) (st:P.Stm) (w:World) (h:MachIn w B g m ev) (hok:m.Ok k) (hst:Q.StOk st) :
  Calls Tryz.prog 141 #[.pointer (some ⟨g,0,none⟩),.agg (zAd st)] w fun x w'=>x=.returned (.int .i64 (m.result st))∧Below w.heap.size w w':=by
 obtain⟨k0,hsz,hbw⟩:=zBt w (zAd st) 97
 have HM0:=zAa (h.below hbw)
 have BW0:=zAa hbw
 have HST:Hid (zAu _ _ st):=k0
 have HE:Hid (m.result st=if st.kind==7 then (m.value ⟨st.a.reg,st.a.n⟩+m.value ⟨st.b.reg,st.b.n⟩) % 4 else if st.kind==8 then (m.value ⟨st.a.reg,st.a.n⟩+4-m.value ⟨st.b.reg,st.b.n⟩) % 4 else if st.kind==9 then (if m.value ⟨st.a.reg,st.a.n⟩==m.value ⟨st.b.reg,st.b.n⟩ then 1 else 0) else m.value ⟨st.a.reg,st.a.n⟩):=rfl
 have ha:=hok.value (a:=⟨st.a.reg,st.a.n⟩) hst.1
 have hb:=hok.value (a:=⟨st.b.reg,st.b.n⟩) hst.2
 clear h hbw k0 hsz hok hst
 simp only[zAd] at *
 go_enter Tryz.func141,Tryz.ntmps141
 go_upto_region 1 with fail
 generalize hE:w.alloc (.cells #[.int .i64 st.kind,.int .i64 st.line,.int .i64 st.dest,.int .i64 st.var,.bool st.a.reg,.int .i64 st.a.n,.bool st.b.reg,.int .i64 st.b.n,.int .i64 st.order,.int .i64 st.scope,.int .i64 st.label] 97)=W0 at *
 obtain⟨s0,s1,s2,s3,s4,s5,s6,s7,s8,s9,s10,s11,s12⟩:=HST.out.facts
 clear hE
 go_upto_region 2 with (first
  | (go_at_call 120;refine (zBY B g m ev st.a.reg st.a.n _ HM0.out).mono ?_;rintro e w1 ⟨rfl,hb1⟩;have HM1:=zAa (HM0.out.below hb1);have HS1:=zAa (HST.out.below hb1);have B1:=zAa (zAn BW0.out (Nat.le_refl _) hb1);clear s0 s1 s2 s3 s4 s5 s6 s7 s8 s9 s10 s11 s12;obtain⟨s0,s1,s2,s3,s4,s5,s6,s7,s8,s9,s10,s11,s12⟩:=HS1.out.facts))
 go_upto_region 3 with (first
  | (go_at_call 120;refine (zBY B g m ev st.b.reg st.b.n _ HM1.out).mono ?_;rintro e w2 ⟨rfl,hb2⟩;have HS2:=zAa (HS1.out.below hb2);have B2:=zAa (zAn B1.out (Nat.le_refl _) hb2);clear s0 s1 s2 s3 s4 s5 s6 s7 s8 s9 s10 s11 s12;obtain⟨s0,s1,s2,s3,s4,s5,s6,s7,s8,s9,s10,s11,s12⟩:=HS2.out.facts))
 generalize m.value ⟨st.a.reg,st.a.n⟩=x at *
 generalize m.value ⟨st.b.reg,st.b.n⟩=y at *
 cases z7:(st.kind==7)
 rotate_left
 ·have HV:Hid (m.result st=(x+y) % 4):=by unfold Hid;rw[HE.out,z7];rfl
  go_wp2
  go_ret
  rw[HV.out];exact⟨rfl,B2.out⟩
 cases z8:(st.kind==8)
 rotate_left
 ·have HV:Hid (m.result st=(x+4-y) % 4):=by unfold Hid;rw[HE.out,z7,z8];rfl
  go_wp2
  go_ret
  rw[HV.out];exact⟨rfl,B2.out⟩
 cases z9:(st.kind==9)
 ·have HV:Hid (m.result st=x):=by unfold Hid;rw[HE.out,z7,z8,z9];rfl
  go_wp2
  go_ret
  rw[HV.out];exact⟨rfl,B2.out⟩
 cases zz:(x==y)
 ·have HV:Hid (m.result st=0):=by unfold Hid;rw[HE.out,z7,z8,z9,zz];rfl
  go_wp2
  go_ret
  rw[HV.out];exact⟨rfl,B2.out⟩
 ·have HV:Hid (m.result st=1):=by unfold Hid;rw[HE.out,z7,z8,z9,zz];rfl
  go_wp2
  go_ret
  rw[HV.out];exact⟨rfl,B2.out⟩
end Go.Proofs.YtkmebkbpfmoeaaaGreat
namespace Go.Proofs.YtkmebkbpfmoeaaaGreat
namespace P
theorem digit_okG {c:UInt8} {n:Int} (h:(digit c n).2=true):0≤(digit c n).1∧(digit c n).1<n:=by
 unfold digit at h ⊢
 simp only[Bool.and_eq_true,decide_eq_true_eq] at h ⊢
 omega
theorem register_okG {p:List UInt8} (h:(zIn p).2=true):0≤(zIn p).1∧(zIn p).1<4:=by
 obtain⟨d,rfl⟩:=register_word h
 simp only[zIn,if_true] at h ⊢
 exact digit_okG h
theorem operand_okG {p:List UInt8} (h:(zIz p).2=true):Q.OpOk (zIz p).1:=by
 match p,h with
 | [],h=>simp[zIz,zIn] at h
 | [c],h=>exact digit_okG (n:=4) h
 | a::b::r,h=>exact register_okG (p:=a::b::r) h
theorem zero_okG:Q.OpOk Opd.zero:=⟨by decide,by decide⟩
theorem ordering_okG {st st':Stm} {r:List (List UInt8)} (h:zJd st r=(st',true)) (hs:Q.StOk st):Q.StOk st':=by
 rcases ordering_word h with ⟨o,rfl,h0,rfl⟩ | ⟨o,s,rfl,h1,h2,h3,rfl,h5⟩<;>exact hs
theorem step_okG {st st':Stm} {r:List (List UInt8)} {k:Int} (h:step st k r=(st',true)) (hs:Q.StOk st):Q.StOk st':=by
 match r,h with
 | [],h=>simp[step] at h
 | [_],h=>simp[step] at h
 | p::v::r,h =>
  simp only[step] at h
  split at h
  ·rename_i ht
   simp only[target] at ht h
   split at ht
   ·rename_i hv
    rw[if_pos hv] at h
    exact ordering_okG h ⟨operand_okG ht,hs.2⟩
   ·simp at ht
  ·simp at h
theorem sum_okG {st st':Stm} {r:List (List UInt8)} (h:sum st r=(st',true)) (hs:Q.StOk st):Q.StOk st':=by
 match r,h with
 | [],h=>simp[sum] at h
 | [a],h =>
  simp only[sum] at h
  split at h
  ·rename_i ha
   simp only[Prod.mk.injEq] at h
   rw[← h.1]
   exact⟨operand_okG ha,hs.2⟩
  ·simp at h
 | [_,_],h=>simp[sum] at h
 | [a,s,b],h =>
  simp only[sum] at h
  split at h
  ·rename_i ha
   split at h
   ·simp only[Prod.mk.injEq] at h
    rw[← h.1]
    exact⟨operand_okG ha,operand_okG h.2⟩
   ·simp at h
  ·simp at h
 | _::_::_::_::_,h=>simp[sum] at h
theorem statement_okG {ws:List (List UInt8)} {st:Stm} (h:zIu ws=(st,true)):Q.StOk st:=by
 have hz:Q.StOk Stm.zero:=⟨zero_okG,zero_okG⟩
 cases ws with
 | nil=>simp[zIu] at h
 | cons c r =>
  simp only[zIu] at h
  split at h
  ·match r,h with
   | [],h=>simp[store] at h
   | [_],h=>simp[store] at h
   | p::v::r,h =>
    simp only[store] at h
    split at h
    ·rename_i ht
     simp only[target] at ht h
     split at ht
     ·rename_i hv
      rw[if_pos hv] at h
      exact ordering_okG h ⟨operand_okG ht,zero_okG⟩
     ·simp at ht
    ·simp at h
  ·split at h
   ·simp only[fence] at h
    exact ordering_okG h ⟨zero_okG,zero_okG⟩
   ·split at h
    ·simp only[Prod.mk.injEq] at h
     rw[← h.1];exact⟨zero_okG,zero_okG⟩
    ·split at h
     ·match r,h with
      | [],h=>simp[zJF] at h
      | [a],h =>
       simp only[zJF,Prod.mk.injEq] at h
       rw[← h.1];exact⟨operand_okG h.2,zero_okG⟩
      | _::_::_,h=>simp[zJF] at h
     ·split at h
      ·simp only[Prod.mk.injEq] at h
       rw[← h.1];exact⟨zero_okG,zero_okG⟩
      ·match r,h with
       | [],h=>simp[zIt] at h
       | [_],h=>simp[zIt] at h
       | e::d::r,h =>
        simp only[zIt] at h
        split at h
        ·split at h
         ·split at h
          ·cases r with
           | nil=>simp[load] at h
           | cons v r =>
            simp only[load] at h
            split at h
            ·exact ordering_okG h ⟨zero_okG,zero_okG⟩
            ·simp at h
          ·split at h
           ·exact step_okG h ⟨zero_okG,zero_okG⟩
           ·split at h
            ·exact step_okG h ⟨zero_okG,zero_okG⟩
            ·exact sum_okG h ⟨zero_okG,zero_okG⟩
         ·simp at h
        ·simp at h
theorem takes_put {r r':Rd} {ws:List (List UInt8)} (h:takes r ws=(r',true)):(∃ t,t.stmts=[]∧t.line=r.line∧r'.threads=r.threads++[t]∧r'.count=0∧r.opn=[]∧r'.opn=[])∨∃ st l lb,zIu ws=(st,true)∧r.threads≠[]∧r'.threads=putLast r.threads { st with line:=l,label:=lb }∧((st.kind=11∧r'.count=r.count∧r'.opn.length+1=r.opn.length)∨(r.count<8∧r'.count=r.count+1∧st.kind≠11∧(r'.opn.length:Int)=r.opn.length+if st.kind==10 then 1 else 0)):=by
 unfold takes at h
 split at h
 ·refine Or.inl ?_
  unfold zIX at h
  split at h
  ·simp at h
  ·rename_i hno
   have ho:r.opn=[]:=List.eq_nil_of_length_eq_zero (by omega)
   split at h
   ·split at h
    ·simp only[Prod.mk.injEq] at h
     exact⟨⟨_,r.line,[]⟩,rfl,rfl,by rw[← h.1],by rw[← h.1],ho,by rw[← h.1];exact ho⟩
    ·simp at h
   ·simp at h
 ·split at h
  ·simp at h
  ·rename_i hne
   have hts:r.threads≠[]:=by simpa using hne
   refine Or.inr ?_
   simp only[] at h
   split at h
   ·rename_i hs
    have e0:zIu ws=((zIu ws).1,true):=by rw[← hs]
    split at h
    ·rename_i h11
     unfold ends at h
     split at h
     ·simp at h
     ·rename_i lo hlo
      simp only[Prod.mk.injEq] at h
      have hne0:r.opn≠[]:=by intro e;rw[e] at hlo;simp at hlo
      refine⟨(zIu ws).1,r.line,_,e0,hts,by rw[← h.1];rfl,Or.inl ⟨by simpa using h11,by rw[← h.1];rfl,?_⟩⟩
      rw[← h.1]
      show r.opn.dropLast.length+1=r.opn.length
      have:=List.length_pos_iff.2 hne0
      rw[List.length_dropLast];omega
    ·rename_i h11
     split at h
     ·simp at h
     ·rename_i h8
      split at h
      ·rename_i h10
       split at h
       ·simp at h
       ·unfold branch at h
        split at h
        ·simp at h
        ·simp only[Prod.mk.injEq] at h
         exact⟨(zIu ws).1,r.line,r.ifs+1,e0,hts,by rw[← h.1];rfl,Or.inr ⟨by omega,by rw[← h.1];rfl,by simpa using h11,by rw[← h.1,if_pos h10];simp[put]⟩⟩
      ·rename_i h10
       simp only[Prod.mk.injEq] at h
       exact⟨(zIu ws).1,r.line,(zIu ws).1.label,e0,hts,by rw[← h.1];rfl,Or.inr ⟨by omega,by rw[← h.1];rfl,by simpa using h11,by rw[← h.1,if_neg h10];simp[put]⟩⟩
   ·simp at h
def AllT (G:Stm→Prop) (ts:List Thr):Prop:=∀ t∈ts,∀ s∈t.stmts,G s
theorem allT_put {G:Stm→Prop} {s:Stm} (hs:G s):∀ {ts:List Thr},AllT G ts→AllT G (putLast ts s)
 | [],h=>h
 | [t],h=>fun u hu x hx=>by
  simp[putLast] at hu
  subst hu
  rcases List.mem_append.1 hx with hx | hx
  ·exact h t (by simp) x hx
  ·simp at hx;rw[hx];exact hs
 | a::b::ts,h=>fun u hu x hx=>by
  rw[putLast] at hu
  rcases List.mem_cons.1 hu with rfl | hu
  ·exact h u (by simp) x hx
  ·exact allT_put hs (fun v hv=>h v (List.mem_cons_of_mem _ hv)) u hu x hx
theorem run_all {G:Stm→Prop} (hG:∀ st l lb,G st→G { st with line:=l,label:=lb }) (hS:∀ ws st,zIu ws=(st,true)→G st):∀ (xs:List (List UInt8)) (r r':Rd),zJZ r xs=(r',true)→AllT G r.threads→AllT G r'.threads
 | [],r,r',h,hr=>by simp[zJZ] at h;rw[← h];exact hr
 | x::xs,r,r',h,hr=>by
  simp only[zJZ] at h
  split at h
  ·rename_i ht
   have e:takes { r with line:=r.line+1 } (zIr 32 x)=((takes { r with line:=r.line+1 } (zIr 32 x)).1,true):=by rw[← ht]
   refine run_all hG hS xs _ r' h ?_
   rcases takes_put e with ⟨t,ht1,_,hth,_⟩ | ⟨st,l,lb,hst,hne,hth,_⟩
   ·rw[hth]
    intro u hu x hx
    rcases List.mem_append.1 hu with hu | hu
    ·exact hr u hu x hx
    ·simp at hu;rw[hu,ht1] at hx;simp at hx
   ·rw[hth]
    exact allT_put (hG _ _ _ (hS _ _ hst)) hr
  ·simp at h
end P
end Go.Proofs.YtkmebkbpfmoeaaaGreat
