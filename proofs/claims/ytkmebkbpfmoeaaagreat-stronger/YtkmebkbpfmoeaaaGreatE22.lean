import Derived.Test.YtkmebkbpfmoeaaaGreatE21
set_option linter.unusedVariables false
set_option linter.unusedSimpArgs false
set_option maxHeartbeats 12800000
namespace Go.Proofs.YtkmebkbpfmoeaaaGreat
open Go Go.RowKit
set_option maxRecDepth 100000
structure RdOn (w:World) (g o:Nat) (cv:Value) (vs:List Value) (gb gd:Nat) (cs:List (List Int)) (ds:List Int) (rest:List (List Int)):Prop where
 c0:w.cell? ⟨g,o,none⟩=some cv
 rows:RowsI w 0 cv cs vs
 ctr:zDf w g (o+1) gb gd (Q.lens cs) ds rest
 nc:cv.ownBlock≠some gd∧cv.ownBlock≠some g
 ne:∀ u∈vs,∀ k,u.ownBlock=some k→k≠gd∧k≠g
theorem RdOn.below {w w':World} {g o:Nat} {cv:Value} {vs:List Value} {gb gd:Nat} {cs:List (List Int)} {ds:List Int} {rest:List (List Int)} (h:RdOn w g o cv vs gb gd cs ds rest) (hb:Below w.heap.size w w'):RdOn w' g o cv vs gb gd cs ds rest:=by
 obtain⟨b,hc⟩:=h.ctr.ctr
 exact⟨(hb.cell hc.lt).trans h.c0,h.rows.below hb,h.ctr.below hb,h.nc,h.ne⟩
theorem RowsI.ticked {w w':World} {B g o gd:Nat} {v:Value} {rs:List (List Int)} {vs:List Value} (h:RowsI w B v rs vs) (hT:Ticked w w' g o gd) (hv:v.ownBlock≠some gd∧v.ownBlock≠some g) (hne:∀ u∈vs,∀ k,u.ownBlock=some k→k≠gd∧k≠g):RowsI w' B v rs vs :=
 ⟨zAd h.own (fun k e=>hT.block k (fun e2=>hv.2 (by rw[e,e2])) (fun e2=>hv.1 (by rw[e,e2]))),h.len,fun i hi x hx=>(h.rows i hi x hx).own w' (fun k e=>hT.block k (hne x (List.mem_of_getElem? hx) k e).2 (hne x (List.mem_of_getElem? hx) k e).1) (by rw[hT.size];exact Nat.le_refl _)⟩
theorem zGd (g o:Nat) (cv:Value) (vs:List Value) (gb gd:Nat) (cs:List (List Int)) (ds:List Int) (rest:List (List Int)) (w:World) (h:RdOn w g o cv vs gb gd cs ds rest) (hn:cs.length<10000) (hb:∀ b∈Q.lens cs,b<1000000000) :
  Calls Tryz.prog 67 #[.pointer (some ⟨g,o,none⟩)] w fun e w'=>((rest=[]∧e=.returned (.bool false))∨∃ r q,rest=r::q∧e=.returned (.bool true)∧RdOn w' g o cv vs gb gd cs r q∧Q.DigOk (Q.lens cs) r)∧Ticked w w' g (o+1) gd:=by
 have H:=zAa h
 obtain⟨b,hc⟩:=h.ctr.ctr
 have hl:=hc.lt
 clear h hc
 go_enter Tryz.func67,Tryz.ntmps67
 go_wp2_with (first | (go_at_call 80;refine (zFg g (o+1) gb gd (Q.lens cs) ds rest _ H.out.ctr (by rw[Q.zJc];exact hn) hb).mono ?_;rintro e w' ⟨h1,hT⟩;have HT:=zAa hT;rcases h1 with ⟨hr,rfl⟩ | ⟨r,q,hr,rfl,hc,hd⟩))
 ·go_ret
  exact⟨Or.inl ⟨hr,rfl⟩,HT.out⟩
 ·go_ret
  have T:=HT.out
  exact⟨Or.inr ⟨r,q,hr,rfl,⟨(T.cell o (by omega)).trans H.out.c0,H.out.rows.ticked T H.out.nc H.out.ne,hc,H.out.nc,H.out.ne⟩,hd⟩,T⟩
namespace Q
def readF (cs:List (List Int)) (ds:List Int) (i:Nat):Int:=(cs.getD i []).getD (ds.getD i 0).toNat (-1)
theorem readsOf_map (cs:List (List Int)) (ds:List Int):zJi cs ds=(List.range cs.length).map (readF cs ds):=rfl
theorem lens_get (cs:List (List Int)) (i:Nat) (h:i<cs.length):(lens cs).getD i 0=(cs[i].length:Int):=by
 rw[zAH _ _ (by rw[zJc];exact h)];simp[lens]
end Q
theorem zGe (g o:Nat) (cv:Value) (vs:List Value) (gb gd:Nat) (cs:List (List Int)) (ds:List Int) (rest:List (List Int)) (w:World) (h:RdOn w g o cv vs gb gd cs ds rest) (hd:Q.DigOk (Q.lens cs) ds) (hn:cs.length<1000) (hb:∀ c∈cs,c.length<1000) :
  Calls Tryz.prog 49 #[.pointer (some ⟨g,o,none⟩)] w fun e w'=>∃ gr,e=.returned (.slice (some ⟨gr,0,none⟩) cs.length cs.length)∧zAq w' gr (Q.zJi cs ds)∧w.heap.size≤gr∧Below w.heap.size w w':=by
 have hmk:∀ w,(Instr.makeSlice 31 (.int .i64 (cs.length:Int)) (.int .i64 (cs.length:Int))).run Tryz.prog w=.ok (.slice (some ⟨w.heap.size,0,none⟩) cs.length cs.length) (w.alloc (.cells (madeCells #[.int .i64 0] cs.length) 3)) :=
  fun w=>run_make_row' 31 3 (.int .i64 0) 8 Tryz.underlying31 Tryz.infoInt rfl .i64 .i64 cs.length (by omega) (by omega) w
 obtain⟨bg,hc⟩:=h.ctr.ctr
 have hdl:ds.length=cs.length:=by rw[hc.len,Q.zJc]
 obtain⟨ca,cc,rfl,hca⟩:=h.rows.form
 have c0:=h.c0
 have c2:=hc.c1
 rw[hdl] at c2
 have hgl:=hc.lt
 have HDG:=zAa hc.digits
 have hgd:=hc.digits.lt
 have HRW:=zAa h.rows
 have HDB:Hid (∀ i (hi:i<cs.length),0≤ds.getD i 0∧ds.getD i 0<(cs[i].length:Int)):=fun i hi=>by
  have h1:=hd.rng i (by omega)
  rw[Q.lens_get cs i hi] at h1
  rw[zAH ds i (by omega)];exact h1
 have HRE:=zAa (Q.readsOf_map cs ds)
 have HCB:=zAa hb
 have HM0:Hid (zAq (w.alloc (.cells (madeCells #[.int .i64 0] cs.length) 3)) w.heap.size (Q.mixI (Q.readF cs ds) cs.length 0)):=by
  unfold Hid zAq;rw[Q.zJF,← zBZ];exact heap_alloc_new w _
 have HB0:Hid (Below w.heap.size w (w.alloc (.cells (madeCells #[.int .i64 0] cs.length) 3))):=(Below.refl _ _).alloc (Nat.le_refl _) _
 have c2':w.cell? ⟨g,o+2,none⟩=some (.slice (some ⟨gd,0,none⟩) cs.length cs.length):=c2
 clear h hc hd c2 hb
 go_enter Tryz.func49,Tryz.ntmps49
 go_wp2
 go_loopw [17] (fun j wr=>∃ (k:Nat),k≤cs.length∧j=.int .i64 k∧Hid (zAq wr w.heap.size (Q.mixI (Q.readF cs ds) cs.length k))∧Hid (Below w.heap.size w wr)) (fun j _=>cs.length-(intOf j).toNat)
 case atStart=>exact⟨0,Nat.zero_le _,rfl,HM0,HB0⟩
 case round =>
  obtain⟨k,hk,rfl,HI,HB⟩:=hrel
  by_cases hlt:k<cs.length
  ·have hin:(k:Int)<(cs.length:Int):=by omega
   obtain⟨bc,rfl,_,hbc,hcs⟩:=hca (by omega)
   have hkv:k<vs.length:=by rw[HRW.out.len];exact hlt
   have HRK:=HRW.out.rows k hlt vs[k] (List.getElem?_eq_getElem hkv)
   obtain⟨ma,mc,hmv,hma⟩:=HRK.form
   have hdb:=HDB.out k hlt
   obtain⟨d,hdd⟩:∃ d:Nat,ds.getD k 0=(d:Int):=⟨(ds.getD k 0).toNat,by omega⟩
   have hdl2:d<cs[k].length:=by omega
   obtain⟨gm,hgm,hgml,hcm⟩:=hma (by omega)
   have e1:=(HB.out.cell (p:=⟨bc,k,none⟩) hbc).trans (hcs k hkv)
   rw[hmv,hgm] at e1
   have l1:=Nat.lt_of_lt_of_le hbc HB.out.size
   have d0:=cfL HB.out hgl c0
   have d2:=(HB.out.cell (p:=⟨g,o+2,none⟩) hgl).trans c2'
   have lg:=Nat.lt_of_lt_of_le hgl HB.out.size
   have dg:wr.cell? ⟨gd,k,none⟩=some (.int .i64 (d:Int)):=by rw[← hdd];exact (HB.out.cell (p:=⟨gd,k,none⟩) hgd).trans (HDG.out.cellD k (by omega))
   have lgd:=Nat.lt_of_lt_of_le hgd HB.out.size
   have dm:wr.cell? ⟨gm,d,none⟩=some (.int .i64 (cs[k].getD d (-1))):=by rw[zAH _ _ hdl2];exact (HB.out.cell (p:=⟨gm,d,none⟩) hgml).trans (hcm d hdl2)
   have lgm:=Nat.lt_of_lt_of_le hgml HB.out.size
   have lp:=HI.out.lt
   have hkl:k<(Q.mixI (Q.readF cs ds) cs.length k).length:=by rw[Q.zJx];exact hlt
   have cp:=HI.out.cellD k hkl
   have fp:=HI.out.free k
   have HJ1:=zAa ((HI.out.set k (-1)).set k (cs[k].getD d (-1)))
   have HMS:=zAa (Q.zJX (Q.readF cs ds) cs.length k hlt)
   have HRF:Hid (Q.readF cs ds k=cs[k].getD d (-1)):=by
    unfold Hid Q.readF
    have e2:cs.getD k []=cs[k]:=by simp[hlt]
    rw[e2,hdd];rfl
   rw[HRF.out] at HMS
   rw[List.set_set,HMS.out] at HJ1
   have hdI:(d:Int)<(cs[k].length:Int):=by omega
   have hcb:=HCB.out cs[k] (List.getElem_mem hlt)
   clear hdd hmv hma hcm HRK hcs hdb hgm
   generalize cs[k].getD d (-1)=val at *
   generalize hcl:cs[k].length=cl at *
   generalize (Q.mixI (Q.readF cs ds) cs.length k).getD k 0=pk0 at *
   have BJ:Hid (Below w.heap.size w ((wr.setCell ⟨w.heap.size,k,none⟩ (.int .i64 (-1))).setCell ⟨w.heap.size,k,none⟩ (.int .i64 val))):=(HB.out.setCell (p:=⟨w.heap.size,k,none⟩) (Nat.le_refl _) _).setCell (p:=⟨w.heap.size,k,none⟩) (Nat.le_refl _) _
   have n1:g≠w.heap.size:=by omega
   have n2:gd≠w.heap.size:=by omega
   have n3:gm≠w.heap.size:=by omega
   have n4:bc≠w.heap.size:=by omega
   clear hcl
   go_wp2
   go_roundw
   case rel=>exact⟨k+1,by omega,by go_num,HJ1,BJ⟩
   case measure=>simp[intOf];omega
  ·have hkn:k=cs.length:=by omega
   go_wp2
   go_ret
   refine⟨w.heap.size,rfl,?_,Nat.le_refl _,HB.out⟩
   have h1:=HI.out
   rw[hkn,Q.zJG,← HRE.out] at h1
   exact h1
theorem zEG (B g k:Nat) (m:Q.Mach) (ev:Value) (st:P.Stm) (w:World) (h:MachIn w B g m ev) (hok:m.Ok k) (hst:Q.StOk st) (hk:k<1000) (hB:B≤w.heap.size) :
  Calls Tryz.prog 137 #[.pointer (some ⟨g,0,none⟩),.agg (zAe st)] w fun x w'=>x=.returned (.tuple #[])∧zCv B g w w' ev (m.step st):=by
 obtain⟨k0,hsz,hbw⟩:=zBw w (zAe st) 97
 have HM0:=zAa (h.below hbw)
 have BW0:=zAa hbw
 have HST:Hid (zAv _ _ st):=k0
 have ha:=hok.value (a:=⟨st.a.reg,st.a.n⟩) hst.1
 have hml:=zBm hok.made ⟨st.a.reg,st.a.n⟩
 have hlen:=hok.len
 have hun:=hok.unread
 obtain⟨r1,r2,r3,r4,r5,r6⟩:=hok.read st
 have hvr:0≤(m.read st).valueOf m.events.length∧(m.read st).valueOf m.events.length<4:=by
  have hx:(m.read st).Ok (k+1):=⟨r1,r2,r3,r4,by omega,by have:=hok.bars;show m.bars≤k+1;omega,r6⟩
  exact hx.valueOf _
 have hone:=Q.zKs (m.events.length:Nat)
 have hor:=bits_or_u64_nat (m.madeOf ⟨st.a.reg,st.a.n⟩) (Q.one (m.events.length:Nat)) hml hone
 have hol:=Q.or_lt hml hone
 have hszB:=hbw.size
 have HWL:Hid (∀ v s,((m.read st).write st v s).events.length=m.events.length+2):=fun v s=>by simp[Q.Mach.write,Q.Mach.put,Q.Mach.read]
 clear h hbw k0 hsz r1 r2 r4 r6
 simp only[zAe] at *
 go_enter Tryz.func137,Tryz.ntmps137
 go_upto_region 1 with fail
 generalize hE:w.alloc (.cells #[.int .i64 st.kind,.int .i64 st.line,.int .i64 st.dest,.int .i64 st.var,.bool st.a.reg,.int .i64 st.a.n,.bool st.b.reg,.int .i64 st.b.n,.int .i64 st.order,.int .i64 st.scope,.int .i64 st.label] 97)=W0 at *
 obtain⟨s0,s1,s2,s3,s4,s5,s6,s7,s8,s9,s10,s11,s12⟩:=HST.out.facts
 clear hE
 go_upto_region 4 with (first
  | (go_at_call 134;refine (zEE B g m ev st _ HM2.out (by omega) (by omega) hun).mono ?_;rintro e w3 ⟨rfl,ev3,hm3,hf3⟩;have HM3:=zAa hm3;have HS3:=zAa (hf3.stm HM2.out HS2.out);have hz3:=hf3.size;have F3:=zAa ((MFrame.of (zAo (zAo BW0.out (Nat.le_refl _) hb1) (Nat.le_refl _) hb2) g ev).trans hf3);clear hm3 hf3 s0 s1 s2 s3 s4 s5 s6 s7 s8 s9 s10 s11 s12;obtain⟨s0,s1,s2,s3,s4,s5,s6,s7,s8,s9,s10,s11,s12⟩:=HS3.out.facts)
  | (go_at_call 119;refine (zBe B g m ev st.a.reg st.a.n _ HM1.out).mono ?_;rintro e w2 ⟨rfl,hb2⟩;have HM2:=zAa (HM1.out.below hb2);have hz2:=hb2.size;have HS2:=zAa (HS1.out.below hb2);clear s0 s1 s2 s3 s4 s5 s6 s7 s8 s9 s10 s11 s12;obtain⟨s0,s1,s2,s3,s4,s5,s6,s7,s8,s9,s10,s11,s12⟩:=HS2.out.facts)
  | (go_at_call 120;refine (zCa B g m ev st.a.reg st.a.n _ HM0.out).mono ?_;rintro e w1 ⟨rfl,hb1⟩;have HM1:=zAa (HM0.out.below hb1);have hz1:=hb1.size;have HS1:=zAa (HST.out.below hb1);clear s0 s1 s2 s3 s4 s5 s6 s7 s8 s9 s10 s11 s12;obtain⟨s0,s1,s2,s3,s4,s5,s6,s7,s8,s9,s10,s11,s12⟩:=HS1.out.facts))
 cases z2:(st.kind==2)
 ·have HE:Hid (m.step st=((m.read st).write st (m.value ⟨st.a.reg,st.a.n⟩) (m.madeOf ⟨st.a.reg,st.a.n⟩)).giveRead st.dest m.events.length):=by unfold Hid Q.Mach.step;rw[z2];rfl
  generalize m.value ⟨st.a.reg,st.a.n⟩=x at *
  generalize m.madeOf ⟨st.a.reg,st.a.n⟩=y at *
  go_wp2_with (first
   | (go_at_call 135;refine (zCm B g _ ev4 st.dest m.events.length _ HM4.out (by rw[HWL.out];omega) (by rw[HWL.out];omega)).mono ?_;rintro e w5 ⟨rfl,hm5,hf5⟩)
   | (go_at_call 147;refine (zCM B g (m.read st) ev3 st x y _ HM3.out (by omega) (by omega) r3 hml).mono ?_;rintro e w4 ⟨rfl,ev4,hm4,hf4⟩;have HM4:=zAa hm4;have HS4:=zAa (hf4.stm HM3.out HS3.out);have F4:=zAa (F3.out.trans hf4);clear hm4 hf4 s0 s1 s2 s3 s4 s5 s6 s7 s8 s9 s10 s11 s12;obtain⟨s0,s1,s2,s3,s4,s5,s6,s7,s8,s9,s10,s11,s12⟩:=HS4.out.facts))
  go_end0
  refine⟨rfl,ev4,?_,F4.out.trans hf5⟩
  rw[HE.out];exact hm5
 ·have HE:Hid (m.step st=((m.read st).write st ((m.value ⟨st.a.reg,st.a.n⟩+(m.read st).valueOf m.events.length) % 4) (m.madeOf ⟨st.a.reg,st.a.n⟩ ||| Q.one (m.events.length:Nat))).giveRead st.dest m.events.length):=by unfold Hid Q.Mach.step;rw[z2];rfl
  generalize hx:m.value ⟨st.a.reg,st.a.n⟩=x at *
  generalize hy:m.madeOf ⟨st.a.reg,st.a.n⟩=y at *
  generalize hv:(m.read st).valueOf m.events.length=v at *
  clear hx hy
  go_wp2_with (first
   | (go_at_call 135;refine (zCm B g _ ev4 st.dest m.events.length _ HM4.out (by rw[HWL.out];omega) (by rw[HWL.out];omega)).mono ?_;rintro e w5 ⟨rfl,hm5,hf5⟩)
   | (go_at_call 147;refine (zCM B g (m.read st) ev3 st ((x+v) % 4) (y ||| Q.one (m.events.length:Nat)) _ HM3.out (by omega) (by omega) r3 hol).mono ?_;rintro e w4 ⟨rfl,ev4,hm4,hf4⟩;have HM4:=zAa hm4;have HS4:=zAa (hf4.stm HM3.out HS3.out);have F4:=zAa (F3.out.trans hf4);clear hm4 hf4 s0 s1 s2 s3 s4 s5 s6 s7 s8 s9 s10 s11 s12;obtain⟨s0,s1,s2,s3,s4,s5,s6,s7,s8,s9,s10,s11,s12⟩:=HS4.out.facts)
   | (go_at_call 146;refine (zDv B g (m.read st) ev3 m.events.length _ HM3.out (by omega) (by omega)).mono ?_;rintro e w' ⟨rfl,hw'⟩;have hw':=hw'.symm;subst hw';rw[hv])
   | (go_at_call 107;refine (zEa _ _).mono ?_;rintro e w' ⟨rfl,hw'⟩;have hw':=hw'.symm;subst hw'))
  go_end0
  refine⟨rfl,ev4,?_,F4.out.trans hf5⟩
  rw[HE.out];exact hm5
theorem zHH (B g k:Nat) (m:Q.Mach) (ev:Value) (st:P.Stm) (w:World) (h:MachIn w B g m ev) (hok:m.Ok k) (hst:Q.StOk st) (hk:k<1000) (hB:B≤w.heap.size) :
  Calls Tryz.prog 121 #[.pointer (some ⟨g,0,none⟩),.agg (zAe st)] w fun x w'=>x=.returned (.tuple #[])∧zCv B g w w' ev (m.doIt st):=by
 obtain⟨k0,hsz,hbw⟩:=zBw w (zAe st) 97
 have HM0:=zAa (h.below hbw)
 have BW0:=zAa hbw
 have HST:Hid (zAv _ _ st):=k0
 have HOK:=zAa hok
 have HSO:=zAa hst
 have hlen:=hok.len
 have hszB:=hbw.size
 have HD:Hid (m.doIt st=if st.kind==0 then (m.read st).giveRead st.dest m.events.length else if st.kind==1 then m.store st else if st.kind==2||st.kind==3 then m.step st else if st.kind==4 then m.put (m.event 2 st) else if st.kind==5 then m.barrier st else if st.kind==6||st.kind==7||st.kind==8||st.kind==9 then m.give st.dest (m.result st) (m.madeOf ⟨st.a.reg,st.a.n⟩ ||| m.madeOf ⟨st.b.reg,st.b.n⟩) else m):=rfl
 clear h hbw k0 hsz hok hst
 simp only[zAe] at *
 go_enter Tryz.func121,Tryz.ntmps121
 go_upto_region 1 with fail
 generalize hE:w.alloc (.cells #[.int .i64 st.kind,.int .i64 st.line,.int .i64 st.dest,.int .i64 st.var,.bool st.a.reg,.int .i64 st.a.n,.bool st.b.reg,.int .i64 st.b.n,.int .i64 st.order,.int .i64 st.scope,.int .i64 st.label] 97)=W0 at *
 obtain⟨s0,s1,s2,s3,s4,s5,s6,s7,s8,s9,s10,s11,s12⟩:=HST.out.facts
 clear hE
 cases z0:(st.kind==0)
 rotate_left
 ·have hrl:(m.read st).events.length=m.events.length+1:=(HOK.out.read st).2.2.2.2.1
  have HE:Hid (m.doIt st=(m.read st).giveRead st.dest m.events.length):=by unfold Hid;rw[HD.out,z0];rfl
  have hun:=HOK.out.unread
  go_wp2_with (first
   | (go_at_call 135;refine (zCm B g _ ev3 st.dest m.events.length _ HM3.out (by omega) (by omega)).mono ?_;rintro e w5 ⟨rfl,hm5,hf5⟩)
   | (go_at_call 134;refine (zEE B g m ev st _ HM0.out (by omega) (by omega) hun).mono ?_;rintro e w3 ⟨rfl,ev3,hm3,hf3⟩;have HM3:=zAa hm3;have HS3:=zAa (hf3.stm HM0.out HST.out);have F3:=zAa ((MFrame.of BW0.out g ev).trans hf3);clear hm3 hf3;clear s0 s1 s2 s3 s4 s5 s6 s7 s8 s9 s10 s11 s12;obtain⟨s0,s1,s2,s3,s4,s5,s6,s7,s8,s9,s10,s11,s12⟩:=HS3.out.facts))
  go_end0
  refine⟨rfl,ev3,?_,F3.out.trans hf5⟩
  rw[HE.out];exact hm5
 cases z1:(st.kind==1)
 rotate_left
 ·skip
  have HE:Hid (m.doIt st=m.store st):=by unfold Hid;rw[HD.out,z0,z1];rfl
  go_wp2_with (first | (go_at_call 136;refine (zGb B g m ev st _ HM0.out (by omega) (by omega) HOK.out.asked HOK.out.made).mono ?_;rintro e w3 ⟨rfl,hm3⟩))
  go_end0
  refine⟨rfl,zCv.next (MFrame.of BW0.out g ev) ?_⟩
  rw[HE.out];exact hm3
 cases z2:(st.kind==2)
 rotate_left
 ·skip
  have HE:Hid (m.doIt st=m.step st):=by unfold Hid;rw[HD.out,z0,z1,z2];rfl
  go_wp2_with (first | (go_at_call 137;refine (zEG B g k m ev st _ HM0.out HOK.out HSO.out hk (by omega)).mono ?_;rintro e w3 ⟨rfl,hm3⟩))
  go_end0
  refine⟨rfl,zCv.next (MFrame.of BW0.out g ev) ?_⟩
  rw[HE.out];exact hm3
 cases z3:(st.kind==3)
 rotate_left
 ·skip
  have HE:Hid (m.doIt st=m.step st):=by unfold Hid;rw[HD.out,z0,z1,z2,z3];rfl
  go_wp2_with (first | (go_at_call 137;refine (zEG B g k m ev st _ HM0.out HOK.out HSO.out hk (by omega)).mono ?_;rintro e w3 ⟨rfl,hm3⟩))
  go_end0
  refine⟨rfl,zCv.next (MFrame.of BW0.out g ev) ?_⟩
  rw[HE.out];exact hm3
 cases z4:(st.kind==4)
 rotate_left
 ·skip
  have HE:Hid (m.doIt st=m.put (m.event 2 st)):=by unfold Hid;rw[HD.out,z0,z1,z2,z3,z4];rfl
  go_upto_region 12 with (first | (go_at_call 138;refine (zCn B g m ev 2 st _ HM0.out (by omega)).mono ?_;rintro e w1 ⟨rfl,hb1⟩;generalize hev:m.event 2 st=e0 at *;simp only[zAb]))
  have E1:Hid (zAR (w1.alloc (.cells (zAb e0) 129)) w1.heap.size e0):=zAR.new w1 e0
  have BX:Below W0.heap.size W0 (w1.alloc (.cells (zAb e0) 129)):=hb1.alloc hb1.size _
  have HM1:=zAa (HM0.out.below BX)
  have B1:=zAa (zAo BW0.out (Nat.le_refl _) BX)
  have hs1:=BX.size
  clear BX hb1 hev
  simp only[zAb] at E1 HM1 B1 hs1
  generalize hb:w1.heap.size=b at *
  generalize hW1:w1.alloc _=W1 at *
  clear hW1
  go_wp2_with (first | (refine zAg (.tmp 5) rfl rfl b 0 e0 rfl E1.out.range ?_) | (go_at_call 139;refine (zCD B g m ev e0 _ HM1.out (by omega) (by omega)).mono ?_;rintro e w3 ⟨rfl,ev3,hm3,hf3⟩))
  go_end0
  refine⟨rfl,ev3,?_,(MFrame.of B1.out g ev).trans hf3⟩
  rw[HE.out];exact hm3
 cases z5:(st.kind==5)
 rotate_left
 ·skip
  have HE:Hid (m.doIt st=m.barrier st):=by unfold Hid;rw[HD.out,z0,z1,z2,z3,z4,z5];rfl
  have hbr:=HOK.out.bars
  go_wp2_with (first | (go_at_call 140;refine (zEF B g m ev st _ HM0.out (by omega) (by omega) (by omega)).mono ?_;rintro e w3 ⟨rfl,hm3⟩))
  go_end0
  refine⟨rfl,zCv.next (MFrame.of BW0.out g ev) ?_⟩
  rw[HE.out];exact hm3
 have hma:=zBm HOK.out.made ⟨st.a.reg,st.a.n⟩
 have hmb:=zBm HOK.out.made ⟨st.b.reg,st.b.n⟩
 have hor:=bits_or_u64_nat (m.madeOf ⟨st.a.reg,st.a.n⟩) (m.madeOf ⟨st.b.reg,st.b.n⟩) hma hmb
 cases z6:(st.kind==6)
 rotate_left
 ·skip
  have HE:Hid (m.doIt st=m.give st.dest (m.result st) (m.madeOf ⟨st.a.reg,st.a.n⟩ ||| m.madeOf ⟨st.b.reg,st.b.n⟩)):=by unfold Hid;rw[HD.out,z0,z1,z2,z3,z4,z5,z6];rfl
  go_upto_region 20 with (first | (go_at_call 141;refine (zCg B g k m ev st _ HM0.out HOK.out HSO.out).mono ?_;rintro e w1 ⟨rfl,hb1⟩;have HM1:=zAa (HM0.out.below hb1);have HS1:=zAa (HST.out.below hb1);have B1:=zAa (zAo BW0.out (Nat.le_refl _) hb1);clear s0 s1 s2 s3 s4 s5 s6 s7 s8 s9 s10 s11 s12;obtain⟨s0,s1,s2,s3,s4,s5,s6,s7,s8,s9,s10,s11,s12⟩:=HS1.out.facts))
  generalize m.result st=rv at *
  generalize hma':m.madeOf ⟨st.a.reg,st.a.n⟩=ma at *
  generalize hmb':m.madeOf ⟨st.b.reg,st.b.n⟩=mb at *
  have HMA:=zAa hma'
  have HMB:=zAa hmb'
  clear hma' hmb'
  clear s1 s2 s3 s4 s5 s10 s11 s12
  go_region_held3 (fun w'=>w'.cell? ⟨w.heap.size,4,none⟩=some (.bool st.a.reg)∧w'.cell? ⟨w.heap.size,5,none⟩=some (.int .i64 st.a.n)∧w'.cell? ⟨w.heap.size,6,none⟩=some (.bool st.b.reg)∧w'.cell? ⟨w.heap.size,7,none⟩=some (.int .i64 st.b.n)) (first | exact⟨s6,s7,s8,s9⟩ | exact⟨p6,p7,p8,p9⟩ | exact⟨q6,q7,q8,q9⟩) (first
   | (go_at_call_of 119 (Value.bool st.b.reg);refine (zBe B g m ev st.b.reg st.b.n _ (HM1.out.below BB1.out)).mono ?_;rintro e v2 ⟨rfl,hc2⟩;have BB2:Hid (Below w1.heap.size w1 v2):=zAo BB1.out (Nat.le_refl _) hc2;rw[HMB.out];have q6:=cfL BB2.out s0 s6;have q7:=cfL BB2.out s0 s7;have q8:=cfL BB2.out s0 s8;have q9:=cfL BB2.out s0 s9)
   | (go_at_call 119;refine (zBe B g m ev st.a.reg st.a.n _ (HM1.out.below (Below.refl _ _).drew)).mono ?_;rintro e v1 ⟨rfl,hc1⟩;have BB1:Hid (Below w1.heap.size w1 v1):=((Below.refl w1.heap.size w1).drew).trans (hc1.mono (by simp));rw[HMA.out];have p6:=cfL BB1.out s0 s6;have p7:=cfL BB1.out s0 s7;have p8:=cfL BB1.out s0 s8;have p9:=cfL BB1.out s0 s9))
  have HS2:=zAa (HS1.out.below BB2.out)
  have HM2:=zAa (HM1.out.below BB2.out)
  have F2:=zAa (MFrame.of (zAo B1.out (Nat.le_refl _) BB2.out) g ev)
  obtain⟨t0,t1,t2,t3,t4,t5,t6,t7,t8,t9,t10,t11,t12⟩:=HS2.out.facts
  go_wp2_with (first | (go_at_call 142;refine (zCC B g m ev st.dest rv (ma ||| mb) _ HM2.out).mono ?_;rintro e w5 ⟨rfl,hm5,hf5⟩))
  go_end0
  refine⟨rfl,ev,?_,F2.out.trans hf5⟩
  rw[HE.out];exact hm5
 cases z7:(st.kind==7)
 rotate_left
 ·skip
  have HE:Hid (m.doIt st=m.give st.dest (m.result st) (m.madeOf ⟨st.a.reg,st.a.n⟩ ||| m.madeOf ⟨st.b.reg,st.b.n⟩)):=by unfold Hid;rw[HD.out,z0,z1,z2,z3,z4,z5,z6,z7];rfl
  go_upto_region 20 with (first | (go_at_call 141;refine (zCg B g k m ev st _ HM0.out HOK.out HSO.out).mono ?_;rintro e w1 ⟨rfl,hb1⟩;have HM1:=zAa (HM0.out.below hb1);have HS1:=zAa (HST.out.below hb1);have B1:=zAa (zAo BW0.out (Nat.le_refl _) hb1);clear s0 s1 s2 s3 s4 s5 s6 s7 s8 s9 s10 s11 s12;obtain⟨s0,s1,s2,s3,s4,s5,s6,s7,s8,s9,s10,s11,s12⟩:=HS1.out.facts))
  generalize m.result st=rv at *
  generalize hma':m.madeOf ⟨st.a.reg,st.a.n⟩=ma at *
  generalize hmb':m.madeOf ⟨st.b.reg,st.b.n⟩=mb at *
  have HMA:=zAa hma'
  have HMB:=zAa hmb'
  clear hma' hmb'
  clear s1 s2 s3 s4 s5 s10 s11 s12
  go_region_held3 (fun w'=>w'.cell? ⟨w.heap.size,4,none⟩=some (.bool st.a.reg)∧w'.cell? ⟨w.heap.size,5,none⟩=some (.int .i64 st.a.n)∧w'.cell? ⟨w.heap.size,6,none⟩=some (.bool st.b.reg)∧w'.cell? ⟨w.heap.size,7,none⟩=some (.int .i64 st.b.n)) (first | exact⟨s6,s7,s8,s9⟩ | exact⟨p6,p7,p8,p9⟩ | exact⟨q6,q7,q8,q9⟩) (first
   | (go_at_call_of 119 (Value.bool st.b.reg);refine (zBe B g m ev st.b.reg st.b.n _ (HM1.out.below BB1.out)).mono ?_;rintro e v2 ⟨rfl,hc2⟩;have BB2:Hid (Below w1.heap.size w1 v2):=zAo BB1.out (Nat.le_refl _) hc2;rw[HMB.out];have q6:=cfL BB2.out s0 s6;have q7:=cfL BB2.out s0 s7;have q8:=cfL BB2.out s0 s8;have q9:=cfL BB2.out s0 s9)
   | (go_at_call 119;refine (zBe B g m ev st.a.reg st.a.n _ (HM1.out.below (Below.refl _ _).drew)).mono ?_;rintro e v1 ⟨rfl,hc1⟩;have BB1:Hid (Below w1.heap.size w1 v1):=((Below.refl w1.heap.size w1).drew).trans (hc1.mono (by simp));rw[HMA.out];have p6:=cfL BB1.out s0 s6;have p7:=cfL BB1.out s0 s7;have p8:=cfL BB1.out s0 s8;have p9:=cfL BB1.out s0 s9))
  have HS2:=zAa (HS1.out.below BB2.out)
  have HM2:=zAa (HM1.out.below BB2.out)
  have F2:=zAa (MFrame.of (zAo B1.out (Nat.le_refl _) BB2.out) g ev)
  obtain⟨t0,t1,t2,t3,t4,t5,t6,t7,t8,t9,t10,t11,t12⟩:=HS2.out.facts
  go_wp2_with (first | (go_at_call 142;refine (zCC B g m ev st.dest rv (ma ||| mb) _ HM2.out).mono ?_;rintro e w5 ⟨rfl,hm5,hf5⟩))
  go_end0
  refine⟨rfl,ev,?_,F2.out.trans hf5⟩
  rw[HE.out];exact hm5
 cases z8:(st.kind==8)
 rotate_left
 ·skip
  have HE:Hid (m.doIt st=m.give st.dest (m.result st) (m.madeOf ⟨st.a.reg,st.a.n⟩ ||| m.madeOf ⟨st.b.reg,st.b.n⟩)):=by unfold Hid;rw[HD.out,z0,z1,z2,z3,z4,z5,z6,z7,z8];rfl
  go_upto_region 20 with (first | (go_at_call 141;refine (zCg B g k m ev st _ HM0.out HOK.out HSO.out).mono ?_;rintro e w1 ⟨rfl,hb1⟩;have HM1:=zAa (HM0.out.below hb1);have HS1:=zAa (HST.out.below hb1);have B1:=zAa (zAo BW0.out (Nat.le_refl _) hb1);clear s0 s1 s2 s3 s4 s5 s6 s7 s8 s9 s10 s11 s12;obtain⟨s0,s1,s2,s3,s4,s5,s6,s7,s8,s9,s10,s11,s12⟩:=HS1.out.facts))
  generalize m.result st=rv at *
  generalize hma':m.madeOf ⟨st.a.reg,st.a.n⟩=ma at *
  generalize hmb':m.madeOf ⟨st.b.reg,st.b.n⟩=mb at *
  have HMA:=zAa hma'
  have HMB:=zAa hmb'
  clear hma' hmb'
  clear s1 s2 s3 s4 s5 s10 s11 s12
  go_region_held3 (fun w'=>w'.cell? ⟨w.heap.size,4,none⟩=some (.bool st.a.reg)∧w'.cell? ⟨w.heap.size,5,none⟩=some (.int .i64 st.a.n)∧w'.cell? ⟨w.heap.size,6,none⟩=some (.bool st.b.reg)∧w'.cell? ⟨w.heap.size,7,none⟩=some (.int .i64 st.b.n)) (first | exact⟨s6,s7,s8,s9⟩ | exact⟨p6,p7,p8,p9⟩ | exact⟨q6,q7,q8,q9⟩) (first
   | (go_at_call_of 119 (Value.bool st.b.reg);refine (zBe B g m ev st.b.reg st.b.n _ (HM1.out.below BB1.out)).mono ?_;rintro e v2 ⟨rfl,hc2⟩;have BB2:Hid (Below w1.heap.size w1 v2):=zAo BB1.out (Nat.le_refl _) hc2;rw[HMB.out];have q6:=cfL BB2.out s0 s6;have q7:=cfL BB2.out s0 s7;have q8:=cfL BB2.out s0 s8;have q9:=cfL BB2.out s0 s9)
   | (go_at_call 119;refine (zBe B g m ev st.a.reg st.a.n _ (HM1.out.below (Below.refl _ _).drew)).mono ?_;rintro e v1 ⟨rfl,hc1⟩;have BB1:Hid (Below w1.heap.size w1 v1):=((Below.refl w1.heap.size w1).drew).trans (hc1.mono (by simp));rw[HMA.out];have p6:=cfL BB1.out s0 s6;have p7:=cfL BB1.out s0 s7;have p8:=cfL BB1.out s0 s8;have p9:=cfL BB1.out s0 s9))
  have HS2:=zAa (HS1.out.below BB2.out)
  have HM2:=zAa (HM1.out.below BB2.out)
  have F2:=zAa (MFrame.of (zAo B1.out (Nat.le_refl _) BB2.out) g ev)
  obtain⟨t0,t1,t2,t3,t4,t5,t6,t7,t8,t9,t10,t11,t12⟩:=HS2.out.facts
  go_wp2_with (first | (go_at_call 142;refine (zCC B g m ev st.dest rv (ma ||| mb) _ HM2.out).mono ?_;rintro e w5 ⟨rfl,hm5,hf5⟩))
  go_end0
  refine⟨rfl,ev,?_,F2.out.trans hf5⟩
  rw[HE.out];exact hm5
 cases z9:(st.kind==9)
 rotate_left
 ·skip
  have HE:Hid (m.doIt st=m.give st.dest (m.result st) (m.madeOf ⟨st.a.reg,st.a.n⟩ ||| m.madeOf ⟨st.b.reg,st.b.n⟩)):=by unfold Hid;rw[HD.out,z0,z1,z2,z3,z4,z5,z6,z7,z8,z9];rfl
  go_upto_region 20 with (first | (go_at_call 141;refine (zCg B g k m ev st _ HM0.out HOK.out HSO.out).mono ?_;rintro e w1 ⟨rfl,hb1⟩;have HM1:=zAa (HM0.out.below hb1);have HS1:=zAa (HST.out.below hb1);have B1:=zAa (zAo BW0.out (Nat.le_refl _) hb1);clear s0 s1 s2 s3 s4 s5 s6 s7 s8 s9 s10 s11 s12;obtain⟨s0,s1,s2,s3,s4,s5,s6,s7,s8,s9,s10,s11,s12⟩:=HS1.out.facts))
  generalize m.result st=rv at *
  generalize hma':m.madeOf ⟨st.a.reg,st.a.n⟩=ma at *
  generalize hmb':m.madeOf ⟨st.b.reg,st.b.n⟩=mb at *
  have HMA:=zAa hma'
  have HMB:=zAa hmb'
  clear hma' hmb'
  clear s1 s2 s3 s4 s5 s10 s11 s12
  go_region_held3 (fun w'=>w'.cell? ⟨w.heap.size,4,none⟩=some (.bool st.a.reg)∧w'.cell? ⟨w.heap.size,5,none⟩=some (.int .i64 st.a.n)∧w'.cell? ⟨w.heap.size,6,none⟩=some (.bool st.b.reg)∧w'.cell? ⟨w.heap.size,7,none⟩=some (.int .i64 st.b.n)) (first | exact⟨s6,s7,s8,s9⟩ | exact⟨p6,p7,p8,p9⟩ | exact⟨q6,q7,q8,q9⟩) (first
   | (go_at_call_of 119 (Value.bool st.b.reg);refine (zBe B g m ev st.b.reg st.b.n _ (HM1.out.below BB1.out)).mono ?_;rintro e v2 ⟨rfl,hc2⟩;have BB2:Hid (Below w1.heap.size w1 v2):=zAo BB1.out (Nat.le_refl _) hc2;rw[HMB.out];have q6:=cfL BB2.out s0 s6;have q7:=cfL BB2.out s0 s7;have q8:=cfL BB2.out s0 s8;have q9:=cfL BB2.out s0 s9)
   | (go_at_call 119;refine (zBe B g m ev st.a.reg st.a.n _ (HM1.out.below (Below.refl _ _).drew)).mono ?_;rintro e v1 ⟨rfl,hc1⟩;have BB1:Hid (Below w1.heap.size w1 v1):=((Below.refl w1.heap.size w1).drew).trans (hc1.mono (by simp));rw[HMA.out];have p6:=cfL BB1.out s0 s6;have p7:=cfL BB1.out s0 s7;have p8:=cfL BB1.out s0 s8;have p9:=cfL BB1.out s0 s9))
  have HS2:=zAa (HS1.out.below BB2.out)
  have HM2:=zAa (HM1.out.below BB2.out)
  have F2:=zAa (MFrame.of (zAo B1.out (Nat.le_refl _) BB2.out) g ev)
  obtain⟨t0,t1,t2,t3,t4,t5,t6,t7,t8,t9,t10,t11,t12⟩:=HS2.out.facts
  go_wp2_with (first | (go_at_call 142;refine (zCC B g m ev st.dest rv (ma ||| mb) _ HM2.out).mono ?_;rintro e w5 ⟨rfl,hm5,hf5⟩))
  go_end0
  refine⟨rfl,ev,?_,F2.out.trans hf5⟩
  rw[HE.out];exact hm5
 have HE:Hid (m.doIt st=m):=by unfold Hid;rw[HD.out,z0,z1,z2,z3,z4,z5,z6,z7,z8,z9];rfl
 go_wp2
 go_end0
 refine⟨rfl,ev,?_,MFrame.of BW0.out g ev⟩
 rw[HE.out];exact HM0.out
end Go.Proofs.YtkmebkbpfmoeaaaGreat
