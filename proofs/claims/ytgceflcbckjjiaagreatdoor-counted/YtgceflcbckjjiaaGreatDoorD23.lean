import Derived.Test.YtgceflcbckjjiaaGreatDoorD22
set_option linter.unusedVariables false
set_option linter.unusedSimpArgs false
set_option maxHeartbeats 12800000
namespace Go.Proofs.YtgceflcbckjjiaaGreatDoor
open Go Go.RowKit
set_option maxRecDepth 100000
def zCL (B g:Nat) (w w':World) (ev:Value) (m:Q.Mach):Prop:=∃ ev',MachIn w' B g m ev'∧MFrame w w' g ev ev'
theorem zCL.next {B g:Nat} {w w1 w2:World} {ev ev1:Value} {m:Q.Mach} (h:MFrame w w1 g ev ev1) (k:zCL B g w1 w2 ev1 m):zCL B g w w2 ev m:=by
 obtain⟨ev',h1,h2⟩:=k
 exact⟨ev',h1,h.trans h2⟩
theorem zEZ (B g:Nat) (m:Q.Mach) (ev:Value) (st:P.Stm) (w:World) (h:MachIn w B g m ev) (hn:m.events.length<10000) (hB:B≤w.heap.size) (hu:m.unread<1000000000) :
  Calls Tryz.prog 194 #[.pointer (some ⟨g,0,none⟩),.agg (zAb st)] w fun x w'=>x=.returned (.int .i64 (m.events.length:Int))∧zCL B g w w' ev (m.read st):=by
 have hgw:=h.lt
 have H:=zAa h
 obtain⟨k0,hsz,hbw⟩:=zBC w (zAb st) 96
 have HM0:=zAa (h.below hbw)
 have HST:zAw _ _ st:=k0
 have HST0:=zAa HST
 have BW0:=zAa hbw
 have HE:Hid (m.read st={ m with unread:=m.unread / 4 }.put { m.event 0 st with value:=(m.unread % 4:Nat) }):=rfl
 clear h hbw HST k0 hsz
 simp only[zAb] at *
 go_enter Tryz.func194,Tryz.ntmps194
 go_upto_region 2 with (first | (go_at_call 198;refine (zCE B g m ev 0 st _ HM0.out (Or.inl rfl)).mono ?_;rintro e w1 ⟨rfl,hb1⟩;generalize hev:m.event 0 st=e0 at *;simp only[zAe]))
 have E1:Hid (zAS (w1.alloc (.cells (zAe e0) 158)) w1.heap.size e0):=zAS.new w1 e0
 have BX:Below w.heap.size w (w1.alloc (.cells (zAe e0) 158)):=(zAr BW0.out (Nat.le_refl _) hb1).alloc (by have:=hb1.size;simp at this;omega) _
 have HM1:=zAa (H.out.below BX)
 have B1:=zAa BX
 have hlb:w1.heap.size<(w1.alloc (.cells (zAe e0) 158)).heap.size:=by simp
 have hwb:w.heap.size≤w1.heap.size:=(zAr BW0.out (Nat.le_refl _) hb1).size
 clear BX hb1
 simp only[zAe] at E1 HM1 B1 hlb
 generalize hb:w1.heap.size=b at *
 generalize hW1:w1.alloc _=W1 at *
 obtain⟨c0,c1,c2,c3,c4,c5,c6,c7,c8,c9,c10,c11,c12,c13,cf⟩:=HM1.out.facts
 have hg:=HM1.out.lt
 obtain⟨x0,x1,x2,x3,x4,x5,x6,x7,x8,x9,xf,xl⟩:=E1.out.facts
 clear c0 c1 c3 c4 c5 c6 c7 c8 c9 c10 c11 c12 c13 x0 x1 x2 x3 x5 x6 x7 x8 x9 hW1
 go_upto_region 4 with fail
 have hbg:b≠g:=by omega
 have E2:Hid (zAS ((W1.setCell ⟨b,4,none⟩ (.int .i64 ((m.unread:Int) % 4))).setCell ⟨g,2,none⟩ (.int .i64 ((m.unread:Int) / 4))) b { e0 with value:=(m.unread % 4:Nat) }):=zAS.of2 (E1.out.set _ 4 _ rfl) hbg
 have HM2:Hid (MachIn ((W1.setCell ⟨b,4,none⟩ (.int .i64 ((m.unread:Int) % 4))).setCell ⟨g,2,none⟩ (.int .i64 ((m.unread:Int) / 4))) B g { m with unread:=m.unread / 4 } ev):=by
  have hx:MachIn (W1.setCell ⟨b,4,none⟩ (.int .i64 ((m.unread:Int) % 4))) B g m ev:=H.out.below (B1.out.setCell (p:=⟨b,4,none⟩) hwb _)
  refine hx.set ?_ (fun k hk=>Below.heap_setCell _ _ _ _ hk) rfl hx.lr hx.lm
  rw[zAf hx.box];rfl
 have FR:Hid (MFrame w ((W1.setCell ⟨b,4,none⟩ (.int .i64 ((m.unread:Int) % 4))).setCell ⟨g,2,none⟩ (.int .i64 ((m.unread:Int) / 4))) g ev ev):=(MFrame.of (B1.out.setCell (p:=⟨b,4,none⟩) hwb _) g ev).trans (MFrame.set ev [(2,.int .i64 ((m.unread:Int) / 4))])
 have hsz2:w.heap.size≤((W1.setCell ⟨b,4,none⟩ (.int .i64 ((m.unread:Int) % 4))).setCell ⟨g,2,none⟩ (.int .i64 ((m.unread:Int) / 4))).heap.size:=FR.out.size
 generalize hW2:(W1.setCell ⟨b,4,none⟩ (.int .i64 ((m.unread:Int) % 4))).setCell ⟨g,2,none⟩ (.int .i64 ((m.unread:Int) / 4))=W2 at *
 generalize he1:({ e0 with value:=(m.unread % 4:Nat) }:Q.Ev)=e1 at *
 have HE1:=zAa he1
 have HEV:=zAa hev
 clear he1 hev hW2 c2 cf x4 xf xl
 go_wp2_with (first | (refine zAg (.tmp 5) rfl rfl b 0 e1 rfl E2.out.range ?_) | (go_at_call 199;refine (zCW B g _ ev e1 _ HM2.out hn (by omega)).mono ?_;rintro e w3 ⟨rfl,ev',hm3,hf3⟩))
 go_ret
 refine⟨rfl,ev',?_,FR.out.trans hf3⟩
 rw[HE.out];exact hm3
theorem zDh (B g:Nat) (m:Q.Mach) (ev:Value) (st:P.Stm) (v:Int) (s:Nat) (w:World) (h:MachIn w B g m ev) (hn:m.events.length<10000) (hB:B≤w.heap.size) (ha:m.asked<Q.M64) (hs:s<Q.M64) :
  Calls Tryz.prog 213 #[.pointer (some ⟨g,0,none⟩),.agg (zAb st),.int .i64 v,.int .u64 (s:Nat)] w fun x w'=>x=.returned (.tuple #[])∧zCL B g w w' ev (m.write st v s):=by
 have hgw:=h.lt
 have H:=zAa h
 obtain⟨k0,hsz,hbw⟩:=zBC w (zAb st) 96
 have HM0:=zAa (h.below hbw)
 have BW0:=zAa hbw
 have HE:Hid (m.write st v s=m.put { m.event 1 st with value:=v,hangs:=m.asked ||| s }):=rfl
 have hor:=bits_or_u64_nat m.asked s ha hs
 have HEH:Hid ((m.event 1 st).hangs=m.asked):=rfl
 clear h hbw k0 hsz
 simp only[zAb] at *
 go_enter Tryz.func213,Tryz.ntmps213
 go_upto_region 2 with (first | (go_at_call 198;refine (zCE B g m ev 1 st _ HM0.out (Or.inr (Or.inl rfl))).mono ?_;rintro e w1 ⟨rfl,hb1⟩;generalize hev:m.event 1 st=e0 at *;simp only[zAe]))
 have E1:Hid (zAS (w1.alloc (.cells (zAe e0) 158)) w1.heap.size e0):=zAS.new w1 e0
 have BX:Below w.heap.size w (w1.alloc (.cells (zAe e0) 158)):=(zAr BW0.out (Nat.le_refl _) hb1).alloc (by have:=hb1.size;simp at this;omega) _
 have HM1:=zAa (H.out.below BX)
 have B1:=zAa BX
 have hlb:w1.heap.size<(w1.alloc (.cells (zAe e0) 158)).heap.size:=by simp
 have hwb:w.heap.size≤w1.heap.size:=(zAr BW0.out (Nat.le_refl _) hb1).size
 clear BX hb1
 simp only[zAe] at E1 HM1 B1 hlb
 generalize hb:w1.heap.size=b at *
 generalize hW1:w1.alloc _=W1 at *
 obtain⟨x0,x1,x2,x3,x4,x5,x6,x7,x8,x9,xf,xl⟩:=E1.out.facts
 rw[HEH.out] at x9
 clear x0 x1 x2 x3 x5 x6 x7 x8 hW1
 go_upto_region 4 with fail
 have hbg:b≠g:=by omega
 have E2:Hid (zAS ((W1.setCell ⟨b,4,none⟩ (.int .i64 v)).setCell ⟨b,9,none⟩ (.int .u64 ((m.asked ||| s:Nat):Int))) b { e0 with value:=v,hangs:=m.asked ||| s }):=(E1.out.set { e0 with value:=v } 4 _ rfl).set _ 9 _ rfl
 have BF:Hid (Below w.heap.size w ((W1.setCell ⟨b,4,none⟩ (.int .i64 v)).setCell ⟨b,9,none⟩ (.int .u64 ((m.asked ||| s:Nat):Int)))):=(B1.out.setCell (p:=⟨b,4,none⟩) hwb _).setCell (p:=⟨b,9,none⟩) hwb _
 have HM2:=zAa (H.out.below BF.out)
 generalize hW2:(W1.setCell ⟨b,4,none⟩ (.int .i64 v)).setCell ⟨b,9,none⟩ (.int .u64 ((m.asked ||| s:Nat):Int))=W2 at *
 generalize he1:({ e0 with value:=v,hangs:=m.asked ||| s }:Q.Ev)=e1 at *
 have HE1:=zAa he1
 have HEV:=zAa hev
 have hsz2:=BF.out.size
 clear he1 hev hW2 x4 x9 xf xl
 go_wp2_with (first | (refine zAg (.tmp 8) rfl rfl b 0 e1 rfl E2.out.range ?_) | (go_at_call 199;refine (zCW B g _ ev e1 _ HM2.out hn (by omega)).mono ?_;rintro e w3 ⟨rfl,ev',hm3,hf3⟩))
 go_end0
 refine⟨rfl,ev',?_,(MFrame.of BF.out g ev).trans hf3⟩
 rw[HE.out];exact hm3
theorem zBp {m:Q.Mach} (hm:∀ x∈m.made,x<Q.M64) (a:P.Opd):m.madeOf a<Q.M64:=by
 unfold Q.Mach.madeOf
 split
 ·split
  ·decide
  ·by_cases h:a.n.toNat<m.made.length
   ·rw[Q.getD_in _ _ h];exact hm _ (List.getElem_mem h)
   ·rw[Q.getD_out _ _ (by omega)];decide
 ·decide
theorem zGM (B g:Nat) (m:Q.Mach) (ev:Value) (st:P.Stm) (w:World) (h:MachIn w B g m ev) (hn:m.events.length<10000) (hB:B≤w.heap.size) (ha:m.asked<Q.M64) (hm:∀ x∈m.made,x<Q.M64) :
  Calls Tryz.prog 196 #[.pointer (some ⟨g,0,none⟩),.agg (zAb st)] w fun x w'=>x=.returned (.tuple #[])∧zCL B g w w' ev (m.store st):=by
 have H:=zAa h
 obtain⟨k0,hsz,hbw⟩:=zBC w (zAb st) 96
 have HM0:=zAa (h.below hbw)
 have BW0:=zAa hbw
 have HST:Hid (zAw _ _ st):=k0
 have HE:Hid (m.store st=m.write st (m.value ⟨st.a.reg,st.a.n⟩) (m.madeOf ⟨st.a.reg,st.a.n⟩)):=rfl
 have hml:=zBp hm ⟨st.a.reg,st.a.n⟩
 have hszB:=hbw.size
 clear h hbw k0 hsz
 simp only[zAb] at *
 go_enter Tryz.func196,Tryz.ntmps196
 go_upto_region 1 with fail
 generalize hE:w.alloc (.cells #[.int .i64 st.kind,.int .i64 st.line,.int .i64 st.dest,.int .i64 st.var,.bool st.a.reg,.int .i64 st.a.n,.bool st.b.reg,.int .i64 st.b.n,.int .i64 st.order,.int .i64 st.scope,.int .i64 st.label] 96)=W0 at *
 obtain⟨s0,s1,s2,s3,s4,s5,s6,s7,s8,s9,s10,s11,s12⟩:=HST.out.facts
 clear hE
 go_wp2_with (first
  | (go_at_call 213;refine (zDh B g m ev st _ _ _ HM2.out hn (by omega) ha hml).mono ?_;rintro e w3 ⟨rfl,hm3⟩)
  | (go_at_call 175;refine (zBj B g m ev st.a.reg st.a.n _ HM1.out).mono ?_;rintro e w2 ⟨rfl,hb2⟩;have HM2:=zAa (HM1.out.below hb2);have hz2:=hb2.size;have HS2:=zAa (HS1.out.below hb2);clear s0 s1 s2 s3 s4 s5 s6 s7 s8 s9 s10 s11 s12;obtain⟨s0,s1,s2,s3,s4,s5,s6,s7,s8,s9,s10,s11,s12⟩:=HS2.out.facts)
  | (go_at_call 176;refine (zCr B g m ev st.a.reg st.a.n _ HM0.out).mono ?_;rintro e w1 ⟨rfl,hb1⟩;have HM1:=zAa (HM0.out.below hb1);have hz1:=hb1.size;have HS1:=zAa (HST.out.below hb1);clear s0 s1 s2 s3 s4 s5 s6 s7 s8 s9 s10 s11 s12;obtain⟨s0,s1,s2,s3,s4,s5,s6,s7,s8,s9,s10,s11,s12⟩:=HS1.out.facts))
 go_end0
 refine⟨rfl,zCL.next (MFrame.of (zAr (zAr BW0.out (Nat.le_refl _) hb1) (Nat.le_refl _) hb2) g ev) ?_⟩
 rw[HE.out];exact hm3
theorem zFa (B g:Nat) (m:Q.Mach) (ev:Value) (st:P.Stm) (w:World) (h:MachIn w B g m ev) (hn:m.events.length+1<10000) (hB:B≤w.heap.size) (hbr:m.bars<10000) :
  Calls Tryz.prog 200 #[.pointer (some ⟨g,0,none⟩),.agg (zAb st)] w fun x w'=>x=.returned (.tuple #[])∧zCL B g w w' ev (m.barrier st):=by
 have hgw:=h.lt
 have H:=zAa h
 obtain⟨k0,hsz,hbw⟩:=zBC w (zAb st) 96
 have HM0:=zAa (h.below hbw)
 have BW0:=zAa hbw
 have HST:Hid (zAw _ _ st):=k0
 have HE:Hid (m.barrier st={ (m.put (m.event 3 st)).put (m.event 4 st) with bars:=m.bars+1 }):=by
  unfold Hid Q.Mach.barrier Q.Mach.put;simp
 have hszB:=hbw.size
 clear h hbw k0 hsz
 simp only[zAb] at *
 go_enter Tryz.func200,Tryz.ntmps200
 go_upto_region 1 with fail
 generalize hE:w.alloc (.cells #[.int .i64 st.kind,.int .i64 st.line,.int .i64 st.dest,.int .i64 st.var,.bool st.a.reg,.int .i64 st.a.n,.bool st.b.reg,.int .i64 st.b.n,.int .i64 st.order,.int .i64 st.scope,.int .i64 st.label] 96)=W0 at *
 obtain⟨s0,s1,s2,s3,s4,s5,s6,s7,s8,s9,s10,s11,s12⟩:=HST.out.facts
 clear hE
 go_upto_region 2 with (first | (go_at_call 198;refine (zCE B g m ev 3 st _ HM0.out (by omega)).mono ?_;rintro e w1 ⟨rfl,hb1⟩;generalize hev:m.event 3 st=e0 at *;simp only[zAe]))
 have E1:Hid (zAS (w1.alloc (.cells (zAe e0) 158)) w1.heap.size e0):=zAS.new w1 e0
 have BX:Below W0.heap.size W0 (w1.alloc (.cells (zAe e0) 158)):=hb1.alloc hb1.size _
 have HM1:=zAa (HM0.out.below BX)
 have HS1:=zAa (HST.out.below BX)
 have B1:=zAa (zAr BW0.out (Nat.le_refl _) BX)
 have hwb:w.heap.size≤w1.heap.size:=by have:=hb1.size;omega
 clear BX hb1 s0 s1 s2 s3 s4 s5 s6 s7 s8 s9 s10 s11 s12
 simp only[zAe] at E1 HM1 B1 HS1
 generalize hb:w1.heap.size=b at *
 generalize hW1:w1.alloc _=W1 at *
 clear hW1
 obtain⟨s0,s1,s2,s3,s4,s5,s6,s7,s8,s9,s10,s11,s12⟩:=HS1.out.facts
 go_upto_region 3 with (first | (go_at_call 198;refine (zCE B g m ev 4 st _ HM1.out (by omega)).mono ?_;rintro e w2 ⟨rfl,hb2⟩;generalize hev4:m.event 4 st=e4 at *;simp only[zAe]))
 have E2:Hid (zAS (w2.alloc (.cells (zAe e4) 158)) w2.heap.size e4):=zAS.new w2 e4
 have BX:Below W1.heap.size W1 (w2.alloc (.cells (zAe e4) 158)):=hb2.alloc hb2.size _
 have HM2:=zAa (HM1.out.below BX)
 have E1b:=zAa (E1.out.below BX)
 have B2:=zAa (zAr B1.out (Nat.le_refl _) BX)
 have hbl1:=E1.out.lt
 have hbl2:W1.heap.size≤w2.heap.size:=hb2.size
 have hwl1:=B1.out.size
 clear BX hb2 s0 s1 s2 s3 s4 s5 s6 s7 s8 s9 s10 s11 s12
 simp only[zAe] at E2 HM2 B2 E1b
 generalize hb':w2.heap.size=b2 at *
 generalize hW2:w2.alloc _=W2 at *
 clear hW2
 have hown:∀ k,ev.ownBlock=some k→k<w.heap.size:=fun k hk=>(H.out.evs.lt k hk).2
 have hsw2:=B2.out.size
 have HEV:=zAa hev
 have HEV4:=zAa hev4
 clear hev hev4
 go_upto_region 4 with (first | (refine zAg (.tmp 4) rfl rfl b 0 e0 rfl E1b.out.range ?_) | (go_at_call 199;refine (zCW B g m ev e0 _ HM2.out (by omega) (by omega)).mono ?_;rintro e w3 ⟨rfl,ev3,hm3,hf3⟩))
 have E3:Hid (zAS w3 b2 e4):=by
  have h1:=E2.out
  have h2:=h1.lt
  unfold Hid zAS at *
  rw[hf3.block b2 h2 (by omega) (fun e=>by have:=hown b2 e;omega)];exact h1
 have HM3:=zAa hm3
 have F3:=zAa ((MFrame.of B2.out g ev).trans hf3)
 have hl3:=hf3.size
 clear hm3 hf3
 go_upto_region 5 with (first | (refine zAg (.tmp 5) rfl rfl b2 0 e4 rfl E3.out.range ?_) | (go_at_call 199;refine (zCW B g _ ev3 e4 _ HM3.out (by simp[Q.Mach.put];omega) (by omega)).mono ?_;rintro e w4 ⟨rfl,ev4,hm4,hf4⟩))
 have hg4:=hm4.lt
 obtain⟨c0,c1,c2,c3,c4,c5,c6,c7,c8,c9,c10,c11,c12,c13,cf⟩:=hm4.facts
 have HM4:=zAa hm4
 have F4:=zAa (F3.out.trans hf4)
 have c12':w4.cell? ⟨g,12,none⟩=some (.int .i64 (m.bars:Nat)):=c12
 clear c0 c1 c2 c3 c4 c5 c6 c7 c8 c9 c10 c11 c12 c13 hm4 hf4
 go_wp2
 go_end0
 refine⟨rfl,ev4,?_,F4.out.trans (MFrame.set ev4 [(12,.int .i64 ((m.bars:Int)+1))])⟩
 rw[HE.out]
 refine HM4.out.set ?_ (fun k hk=>Below.heap_setCell _ _ _ _ hk) rfl HM4.out.lr HM4.out.lm
 rw[zAf HM4.out.box];rfl
namespace Q
structure Mach.Ok (m:Mach) (n:Nat):Prop where
 regs:∀ x∈m.regs,0≤x∧x<4
 made:∀ x∈m.made,x<M64
 asked:m.asked<M64
 evs:∀ e∈m.events,0≤e.value∧e.value<4∧e.hangs<M64
 len:m.events.length≤2*n
 bars:m.bars≤n
 unread:m.unread<1000000000
def OpOk (a:P.Opd):Prop:=0≤a.n∧a.n<4
def StOk (st:P.Stm):Prop:=OpOk st.a∧OpOk st.b
theorem getD_bd (l:List Int) (h:∀ x∈l,0≤x∧x<4) (i:Nat):0≤l.getD i 0∧l.getD i 0<4:=by
 by_cases hi:i<l.length
 ·rw[zAP l i hi];exact h _ (List.getElem_mem hi)
 ·simp[List.getD,List.getElem?_eq_none (by omega:l.length≤i)]
theorem Mach.Ok.value {m:Mach} {n:Nat} (h:m.Ok n) {a:P.Opd} (ha:OpOk a):0≤m.value a∧m.value a<4:=by
 unfold Mach.value
 split
 ·split
  ·omega
  ·exact getD_bd _ h.regs _
 ·exact ha
theorem Mach.Ok.valueOf {m:Mach} {n:Nat} (h:m.Ok n) (i:Nat):0≤m.valueOf i∧m.valueOf i<4:=by
 unfold Mach.valueOf
 by_cases hi:i<m.events.length
 ·have e:m.events.getD i Ev.zero=m.events[i]:=by simp[hi]
  rw[e];have:=h.evs _ (List.getElem_mem hi);omega
 ·have e:m.events.getD i Ev.zero=Ev.zero:=by simp[List.getElem?_eq_none (by omega:m.events.length≤i)]
  rw[e];simp[Ev.zero]
theorem Mach.Ok.give {m:Mach} {n:Nat} (h:m.Ok n) (d v:Int) (s:Nat) (hv:0≤v∧v<4) (hs:s<M64):(m.give d v s).Ok n:=by
 unfold Mach.give
 split
 ·exact h
 ·refine⟨fun x hx=>?_,fun x hx=>?_,h.asked,h.evs,h.len,h.bars,h.unread⟩
  ·rcases List.mem_or_eq_of_mem_set hx with hx | rfl
   ·exact h.regs x hx
   ·exact hv
  ·rcases List.mem_or_eq_of_mem_set hx with hx | rfl
   ·exact h.made x hx
   ·exact hs
theorem Mach.Ok.more {m:Mach} {n:Nat} (h:m.Ok n):m.Ok (n+1):=⟨h.regs,h.made,h.asked,h.evs,by have:=h.len;omega,by have:=h.bars;omega,h.unread⟩
theorem Mach.Ok.read {m:Mach} {n:Nat} (h:m.Ok n) (st:P.Stm):(∀ x∈(m.read st).regs,0≤x∧x<4)∧(∀ x∈(m.read st).made,x<M64)∧(m.read st).asked<M64∧(∀ e∈(m.read st).events,0≤e.value∧e.value<4∧e.hangs<M64)∧(m.read st).events.length=m.events.length+1∧(m.read st).unread<1000000000:=by
 refine⟨h.regs,h.made,h.asked,fun e he=>?_,by simp[Mach.read],by have:=h.unread;simp[Mach.read];omega⟩
 simp only[Mach.read,List.mem_append,List.mem_singleton] at he
 rcases he with he | rfl
 ·exact h.evs e he
 ·refine⟨by simp;omega,by simp;omega,?_⟩
  simp[Mach.event];exact h.asked
end Q
theorem zCy (B g k:Nat) (m:Q.Mach) (ev:Value) (st:P.Stm) (w:World) (h:MachIn w B g m ev) (hok:m.Ok k) (hst:Q.StOk st) :
  Calls Tryz.prog 201 #[.pointer (some ⟨g,0,none⟩),.agg (zAb st)] w fun x w'=>x=.returned (.int .i64 (m.result st))∧Below w.heap.size w w':=by
 obtain⟨k0,hsz,hbw⟩:=zBC w (zAb st) 96
 have HM0:=zAa (h.below hbw)
 have BW0:=zAa hbw
 have HST:Hid (zAw _ _ st):=k0
 have HE:Hid (m.result st=if st.kind==7 then (m.value ⟨st.a.reg,st.a.n⟩+m.value ⟨st.b.reg,st.b.n⟩) % 4 else if st.kind==8 then (m.value ⟨st.a.reg,st.a.n⟩+4-m.value ⟨st.b.reg,st.b.n⟩) % 4 else if st.kind==9 then (if m.value ⟨st.a.reg,st.a.n⟩==m.value ⟨st.b.reg,st.b.n⟩ then 1 else 0) else m.value ⟨st.a.reg,st.a.n⟩):=rfl
 have ha:=hok.value (a:=⟨st.a.reg,st.a.n⟩) hst.1
 have hb:=hok.value (a:=⟨st.b.reg,st.b.n⟩) hst.2
 clear h hbw k0 hsz hok hst
 simp only[zAb] at *
 go_enter Tryz.func201,Tryz.ntmps201
 go_upto_region 1 with fail
 generalize hE:w.alloc (.cells #[.int .i64 st.kind,.int .i64 st.line,.int .i64 st.dest,.int .i64 st.var,.bool st.a.reg,.int .i64 st.a.n,.bool st.b.reg,.int .i64 st.b.n,.int .i64 st.order,.int .i64 st.scope,.int .i64 st.label] 96)=W0 at *
 obtain⟨s0,s1,s2,s3,s4,s5,s6,s7,s8,s9,s10,s11,s12⟩:=HST.out.facts
 clear hE
 go_upto_region 2 with (first
  | (go_at_call 176;refine (zCr B g m ev st.a.reg st.a.n _ HM0.out).mono ?_;rintro e w1 ⟨rfl,hb1⟩;have HM1:=zAa (HM0.out.below hb1);have HS1:=zAa (HST.out.below hb1);have B1:=zAa (zAr BW0.out (Nat.le_refl _) hb1);clear s0 s1 s2 s3 s4 s5 s6 s7 s8 s9 s10 s11 s12;obtain⟨s0,s1,s2,s3,s4,s5,s6,s7,s8,s9,s10,s11,s12⟩:=HS1.out.facts))
 go_upto_region 3 with (first
  | (go_at_call 176;refine (zCr B g m ev st.b.reg st.b.n _ HM1.out).mono ?_;rintro e w2 ⟨rfl,hb2⟩;have HS2:=zAa (HS1.out.below hb2);have B2:=zAa (zAr B1.out (Nat.le_refl _) hb2);clear s0 s1 s2 s3 s4 s5 s6 s7 s8 s9 s10 s11 s12;obtain⟨s0,s1,s2,s3,s4,s5,s6,s7,s8,s9,s10,s11,s12⟩:=HS2.out.facts))
 generalize m.value ⟨st.a.reg,st.a.n⟩=x at *
 generalize m.value ⟨st.b.reg,st.b.n⟩=y at *
 cases z7:(st.kind==7)
 rotate_left
 ·have HV:Hid (m.result st=(x+y) % 4):=by unfold Hid;rw[HE.out,z7];rfl
  go_wp2
  go_ret
  rw[HV.out];exact⟨rfl,B2.out⟩
 cases z8:(st.kind==8)
 rotate_left
 ·have HV:Hid (m.result st=(x+4-y) % 4):=by unfold Hid;rw[HE.out,z7,z8];rfl
  go_wp2
  go_ret
  rw[HV.out];exact⟨rfl,B2.out⟩
 cases z9:(st.kind==9)
 ·have HV:Hid (m.result st=x):=by unfold Hid;rw[HE.out,z7,z8,z9];rfl
  go_wp2
  go_ret
  rw[HV.out];exact⟨rfl,B2.out⟩
 cases zz:(x==y)
 ·have HV:Hid (m.result st=0):=by unfold Hid;rw[HE.out,z7,z8,z9,zz];rfl
  go_wp2
  go_ret
  rw[HV.out];exact⟨rfl,B2.out⟩
 ·have HV:Hid (m.result st=1):=by unfold Hid;rw[HE.out,z7,z8,z9,zz];rfl
  go_wp2
  go_ret
  rw[HV.out];exact⟨rfl,B2.out⟩
theorem zFb (B g k:Nat) (m:Q.Mach) (ev:Value) (st:P.Stm) (w:World) (h:MachIn w B g m ev) (hok:m.Ok k) (hst:Q.StOk st) (hk:k<1000) (hB:B≤w.heap.size) :
  Calls Tryz.prog 197 #[.pointer (some ⟨g,0,none⟩),.agg (zAb st)] w fun x w'=>x=.returned (.tuple #[])∧zCL B g w w' ev (m.step st):=by
 obtain⟨k0,hsz,hbw⟩:=zBC w (zAb st) 96
 have HM0:=zAa (h.below hbw)
 have BW0:=zAa hbw
 have HST:Hid (zAw _ _ st):=k0
 have ha:=hok.value (a:=⟨st.a.reg,st.a.n⟩) hst.1
 have hml:=zBp hok.made ⟨st.a.reg,st.a.n⟩
 have hlen:=hok.len
 have hun:=hok.unread
 obtain⟨r1,r2,r3,r4,r5,r6⟩:=hok.read st
 have hvr:0≤(m.read st).valueOf m.events.length∧(m.read st).valueOf m.events.length<4:=by
  have hx:(m.read st).Ok (k+1):=⟨r1,r2,r3,r4,by omega,by have:=hok.bars;show m.bars≤k+1;omega,r6⟩
  exact hx.valueOf _
 have hone:=Q.zMz (m.events.length:Nat)
 have hor:=bits_or_u64_nat (m.madeOf ⟨st.a.reg,st.a.n⟩) (Q.one (m.events.length:Nat)) hml hone
 have hol:=Q.or_lt hml hone
 have hszB:=hbw.size
 have HWL:Hid (∀ v s,((m.read st).write st v s).events.length=m.events.length+2):=fun v s=>by simp[Q.Mach.write,Q.Mach.put,Q.Mach.read]
 clear h hbw k0 hsz r1 r2 r4 r6
 simp only[zAb] at *
 go_enter Tryz.func197,Tryz.ntmps197
 go_upto_region 1 with fail
 generalize hE:w.alloc (.cells #[.int .i64 st.kind,.int .i64 st.line,.int .i64 st.dest,.int .i64 st.var,.bool st.a.reg,.int .i64 st.a.n,.bool st.b.reg,.int .i64 st.b.n,.int .i64 st.order,.int .i64 st.scope,.int .i64 st.label] 96)=W0 at *
 obtain⟨s0,s1,s2,s3,s4,s5,s6,s7,s8,s9,s10,s11,s12⟩:=HST.out.facts
 clear hE
 go_upto_region 4 with (first
  | (go_at_call 194;refine (zEZ B g m ev st _ HM2.out (by omega) (by omega) hun).mono ?_;rintro e w3 ⟨rfl,ev3,hm3,hf3⟩;have HM3:=zAa hm3;have HS3:=zAa (hf3.stm HM2.out HS2.out);have hz3:=hf3.size;have F3:=zAa ((MFrame.of (zAr (zAr BW0.out (Nat.le_refl _) hb1) (Nat.le_refl _) hb2) g ev).trans hf3);clear hm3 hf3 s0 s1 s2 s3 s4 s5 s6 s7 s8 s9 s10 s11 s12;obtain⟨s0,s1,s2,s3,s4,s5,s6,s7,s8,s9,s10,s11,s12⟩:=HS3.out.facts)
  | (go_at_call 175;refine (zBj B g m ev st.a.reg st.a.n _ HM1.out).mono ?_;rintro e w2 ⟨rfl,hb2⟩;have HM2:=zAa (HM1.out.below hb2);have hz2:=hb2.size;have HS2:=zAa (HS1.out.below hb2);clear s0 s1 s2 s3 s4 s5 s6 s7 s8 s9 s10 s11 s12;obtain⟨s0,s1,s2,s3,s4,s5,s6,s7,s8,s9,s10,s11,s12⟩:=HS2.out.facts)
  | (go_at_call 176;refine (zCr B g m ev st.a.reg st.a.n _ HM0.out).mono ?_;rintro e w1 ⟨rfl,hb1⟩;have HM1:=zAa (HM0.out.below hb1);have hz1:=hb1.size;have HS1:=zAa (HST.out.below hb1);clear s0 s1 s2 s3 s4 s5 s6 s7 s8 s9 s10 s11 s12;obtain⟨s0,s1,s2,s3,s4,s5,s6,s7,s8,s9,s10,s11,s12⟩:=HS1.out.facts))
 cases z2:(st.kind==2)
 ·have HE:Hid (m.step st=((m.read st).write st (m.value ⟨st.a.reg,st.a.n⟩) (m.madeOf ⟨st.a.reg,st.a.n⟩)).giveRead st.dest m.events.length):=by unfold Hid Q.Mach.step;rw[z2];rfl
  generalize m.value ⟨st.a.reg,st.a.n⟩=x at *
  generalize m.madeOf ⟨st.a.reg,st.a.n⟩=y at *
  go_wp2_with (first
   | (go_at_call 195;refine (zCD B g _ ev4 st.dest m.events.length _ HM4.out (by rw[HWL.out];omega) (by rw[HWL.out];omega)).mono ?_;rintro e w5 ⟨rfl,hm5,hf5⟩)
   | (go_at_call 213;refine (zDh B g (m.read st) ev3 st x y _ HM3.out (by omega) (by omega) r3 hml).mono ?_;rintro e w4 ⟨rfl,ev4,hm4,hf4⟩;have HM4:=zAa hm4;have HS4:=zAa (hf4.stm HM3.out HS3.out);have F4:=zAa (F3.out.trans hf4);clear hm4 hf4 s0 s1 s2 s3 s4 s5 s6 s7 s8 s9 s10 s11 s12;obtain⟨s0,s1,s2,s3,s4,s5,s6,s7,s8,s9,s10,s11,s12⟩:=HS4.out.facts))
  go_end0
  refine⟨rfl,ev4,?_,F4.out.trans hf5⟩
  rw[HE.out];exact hm5
 ·have HE:Hid (m.step st=((m.read st).write st ((m.value ⟨st.a.reg,st.a.n⟩+(m.read st).valueOf m.events.length) % 4) (m.madeOf ⟨st.a.reg,st.a.n⟩ ||| Q.one (m.events.length:Nat))).giveRead st.dest m.events.length):=by unfold Hid Q.Mach.step;rw[z2];rfl
  generalize hx:m.value ⟨st.a.reg,st.a.n⟩=x at *
  generalize hy:m.madeOf ⟨st.a.reg,st.a.n⟩=y at *
  generalize hv:(m.read st).valueOf m.events.length=v at *
  clear hx hy
  go_wp2_with (first
   | (go_at_call 195;refine (zCD B g _ ev4 st.dest m.events.length _ HM4.out (by rw[HWL.out];omega) (by rw[HWL.out];omega)).mono ?_;rintro e w5 ⟨rfl,hm5,hf5⟩)
   | (go_at_call 213;refine (zDh B g (m.read st) ev3 st ((x+v) % 4) (y ||| Q.one (m.events.length:Nat)) _ HM3.out (by omega) (by omega) r3 hol).mono ?_;rintro e w4 ⟨rfl,ev4,hm4,hf4⟩;have HM4:=zAa hm4;have HS4:=zAa (hf4.stm HM3.out HS3.out);have F4:=zAa (F3.out.trans hf4);clear hm4 hf4 s0 s1 s2 s3 s4 s5 s6 s7 s8 s9 s10 s11 s12;obtain⟨s0,s1,s2,s3,s4,s5,s6,s7,s8,s9,s10,s11,s12⟩:=HS4.out.facts)
   | (go_at_call 212;refine (zDQ B g (m.read st) ev3 m.events.length _ HM3.out (by omega) (by omega)).mono ?_;rintro e w' ⟨rfl,hw'⟩;have hw':=hw'.symm;subst hw';rw[hv])
   | (go_at_call 159;refine (zEv _ _).mono ?_;rintro e w' ⟨rfl,hw'⟩;have hw':=hw'.symm;subst hw'))
  go_end0
  refine⟨rfl,ev4,?_,F4.out.trans hf5⟩
  rw[HE.out];exact hm5
end Go.Proofs.YtgceflcbckjjiaaGreatDoor
