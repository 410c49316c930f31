import Derived.Test.YtkmebkbpfmoeaaaGreatE16
set_option linter.unusedVariables false
set_option linter.unusedSimpArgs false
set_option maxHeartbeats 12800000
namespace Go.Proofs.YtkmebkbpfmoeaaaGreat
open Go Go.RowKit
set_option maxRecDepth 100000
theorem Tryz.infoEvM:(Tryz.prog.info? 129).map (fun i=>(i.zero,i.size,i.bytes))=some (some (.agg (zAb Q.Ev.zero)),10,80):=by kernel_rfl
theorem zAR.set {w:World} {g:Nat} {e:Q.Ev} (e':Q.Ev) (h:zAR w g e) (i:Nat) (u:Value) (he:(zAb e).setIfInBounds i u=zAb e'):zAR (w.setCell ⟨g,i,none⟩ u) g e':=by
 unfold zAR at *
 rw[zAf h,he]
theorem zAR.of2 {w:World} {g b i:Nat} {e:Q.Ev} {u:Value} (h:zAR w g e) (hne:g≠b):zAR (w.setCell ⟨b,i,none⟩ u) g e:=by
 unfold zAR at *
 rw[Below.heap_setCell _ _ _ _ hne];exact h
theorem zAR.range {w:World} {g:Nat} {e:Q.Ev} (h:zAR w g e):w.rangeAt g 0 (zAb e).toList:=zBR h
theorem zAG {ops:Array Oper} {rest:List Oper} {op:Oper} {a:Act} {w:World} {R:Exit→Act→World→Prop} (x y:Operand) (hgd:op.guard=none) (ho:op.op=.store 129 x y)
  (g:Nat) (e d:Q.Ev) (hx:a.eval x=.pointer (some ⟨g,0,none⟩)) (hy:a.eval y=.agg (zAb e)) (hg:zAR w g d)
  (h:∀ w',zAR w' g e→w.grownBy w' (some g)→wpList Tryz.prog ops R rest (a.put op.dst undef) w'):wpList Tryz.prog ops R (op::rest) a w :=
 zCi hgd _ x y ho g (zAb e) (zAb d) _ hx hy hg rfl (by kernel_rfl) (by simp[zAb,Value.oneCell']) h
theorem zCn (B g:Nat) (m:Q.Mach) (ev:Value) (kind:Int) (st:P.Stm) (w:World) (h:MachIn w B g m ev) (hk:kind=0∨kind=1∨kind=2∨kind=3∨kind=4) :
  Calls Tryz.prog 138 #[.pointer (some ⟨g,0,none⟩),.int .i64 kind,.agg (zAe st)] w fun e w'=>e=.returned (.agg (zAb (m.event kind st)))∧Below w.heap.size w w':=by
 have HV:Hid (m.event kind st=⟨kind,m.thread,m.block,st.var,0,st.order,st.scope,if kind==3||kind==4 then m.bars else 0,(kind==0||kind==1)&&(st.kind==2||st.kind==3),if kind==0||kind==1 then m.asked else 0⟩):=rfl
 obtain⟨k0,k1,hsz,hbw⟩:=zBO w #[.int .i64 st.kind,.int .i64 st.line,.int .i64 st.dest,.int .i64 st.var,.bool st.a.reg,.int .i64 st.a.n,.bool st.b.reg,.int .i64 st.b.n,.int .i64 st.order,.int .i64 st.scope,.int .i64 st.label] #[.int .i64 0,.int .i64 0,.int .i64 0,.int .i64 0,.int .i64 0,.int .i64 0,.int .i64 0,.int .i64 0,.bool false,.int .u64 0] 97 129
 have HM:=h.below hbw
 have hgw:=h.lt
 have BW0:=zAa hbw
 have HMH:=zAa HM
 clear h HM hbw
 simp only[zAe]
 go_enter Tryz.func138,Tryz.ntmps138
 go_upto_region 1 with fail
 generalize hE:(w.alloc (.cells #[.int .i64 st.kind,.int .i64 st.line,.int .i64 st.dest,.int .i64 st.var,.bool st.a.reg,.int .i64 st.a.n,.bool st.b.reg,.int .i64 st.b.n,.int .i64 st.order,.int .i64 st.scope,.int .i64 st.label] 97)).alloc (.cells #[.int .i64 0,.int .i64 0,.int .i64 0,.int .i64 0,.int .i64 0,.int .i64 0,.int .i64 0,.int .i64 0,.bool false,.int .u64 0] 129)=W0 at *
 have HST:zAv W0 w.heap.size st:=k0
 obtain⟨s0,s1,s2,s3,s4,s5,s6,s7,s8,s9,s10,s11,s12⟩:=HST.facts
 obtain⟨c0,c1,c2,c3,c4,c5,c6,c7,c8,c9,c10,c11,c12,c13,cf⟩:=HMH.out.facts
 have xl:w.heap.size+1<W0.heap.size:=(Array.getElem?_eq_some_iff.1 k1).1
 have hg:=HMH.out.lt
 have K1:Hid (zAR W0 (w.heap.size+1) Q.Ev.zero):=k1
 have hszl:w.heap.size+2≤W0.heap.size:=by omega
 clear c2 c3 c4 c5 c6 c7 c8 c9 c10 c13 k0 k1 HST hsz hE s3 s4 s6 s7 s8 s9 s12
 go_region_held3 (fun w'=>w'.cell? ⟨g,0,none⟩=some (.int .i64 m.thread)∧w'.cell? ⟨g,1,none⟩=some (.int .i64 m.block)∧w'.cell? ⟨w.heap.size,3,none⟩=some (.int .i64 st.var)∧w'.cell? ⟨w.heap.size,8,none⟩=some (.int .i64 st.order)∧w'.cell? ⟨w.heap.size,9,none⟩=some (.int .i64 st.scope)) (first | exact⟨c0,c1,s5,s10,s11⟩ | exact⟨(zAy hg).trans c0,(zAy hg).trans c1,(zAy s0).trans s5,(zAy s0).trans s10,(zAy s0).trans s11⟩) (first | fail)
 have E1:Hid (zAR ((W0.alloc (.cells #[.int .i64 kind,.int .i64 m.thread,.int .i64 m.block,.int .i64 st.var,.int .i64 0,.int .i64 st.order,.int .i64 st.scope,.int .i64 0,.bool false,.int .u64 0] 129)).drew) W0.heap.size ⟨kind,m.thread,m.block,st.var,0,st.order,st.scope,0,false,0⟩):=heap_alloc_new W0 _
 have BX:Below W0.heap.size W0 ((W0.alloc (.cells #[.int .i64 kind,.int .i64 m.thread,.int .i64 m.block,.int .i64 st.var,.int .i64 0,.int .i64 st.order,.int .i64 st.scope,.int .i64 0,.bool false,.int .u64 0] 129)).drew):=((Below.refl _ _).alloc (Nat.le_refl _) _).drew
 have K2:=zAa (K1.out.below BX)
 have B1:=zAa (zAo BW0.out (Nat.le_refl _) BX)
 have d11:=cfL BX hg c11
 have d12:=cfL BX hg c12
 have t2:=cfL BX s0 s2
 have hsw:=BX.size
 have hgW:=Nat.lt_of_lt_of_le hg hsw
 have hsW:=Nat.lt_of_lt_of_le s0 hsw
 clear BX c0 c1 c11 c12 s1 s2 s5 s10 s11 cf
 generalize hW1:(W0.alloc (.cells #[.int .i64 kind,.int .i64 m.thread,.int .i64 m.block,.int .i64 st.var,.int .i64 0,.int .i64 st.order,.int .i64 st.scope,.int .i64 0,.bool false,.int .u64 0] 129)).drew=W1 at *
 clear hW1
 generalize hb7:W0.heap.size=b7 at *
 obtain⟨q0,q1,q2,q3,q4,q5,q6,q7,q8,q9,qf,ql⟩:=E1.out.facts
 rcases hk with rfl | rfl | rfl | rfl | rfl
 ·cases z2:(st.kind==2)<;>cases z3:(st.kind==3)
  ·have EF:Hid (zAR ((W1.setCell ⟨b7,9,none⟩ (.int .u64 (m.asked:Nat))).setCell ⟨b7,8,none⟩ (.bool false)) b7 (m.event 0 st)):=by
    unfold Hid;rw[HV.out,z2,z3]
    exact (E1.out.set ⟨0,m.thread,m.block,st.var,0,st.order,st.scope,0,false,m.asked⟩ 9 _ rfl).set _ 8 _ rfl
   have KF:Hid (zAR ((W1.setCell ⟨b7,9,none⟩ (.int .u64 (m.asked:Nat))).setCell ⟨b7,8,none⟩ (.bool false)) (w.heap.size+1) Q.Ev.zero):=by unfold Hid;exact (K2.out.of2 (by omega)).of2 (by omega)
   have BF:Hid (Below w.heap.size w ((W1.setCell ⟨b7,9,none⟩ (.int .u64 (m.asked:Nat))).setCell ⟨b7,8,none⟩ (.bool false))):=(B1.out.setCell (p:=⟨b7,9,none⟩) (by simp;omega) _).setCell (p:=⟨b7,8,none⟩) (by simp;omega) _
   go_upto_region 10 with fail
   generalize hWF:(W1.setCell ⟨b7,9,none⟩ (.int .u64 (m.asked:Nat))).setCell ⟨b7,8,none⟩ (.bool false)=WF at *
   go_wp2_with (first | (refine zAg (.tmp 7) rfl rfl b7 0 _ rfl EF.out.range ?_) | (refine zAG (.tmp 6) (.tmp 50) rfl rfl (w.heap.size+1) (m.event 0 st) Q.Ev.zero rfl rfl KF.out ?_;intro w9 hE9 hg9))
   refine zBf (p:=6) (w.heap.size+1) _ (by kernel_rfl) Tryz.underlying129 rfl (by kernel_rfl) rfl hE9 rfl ⟨rfl,BF.out.trans ⟨hg9.os,hg9.tape,hg9.output,hg9.size,fun k hk=>hg9.block k (by have:=BF.out.size;omega) (by simp;omega)⟩⟩
  ·have EF:Hid (zAR ((W1.setCell ⟨b7,9,none⟩ (.int .u64 (m.asked:Nat))).setCell ⟨b7,8,none⟩ (.bool true)) b7 (m.event 0 st)):=by
    unfold Hid;rw[HV.out,z2,z3]
    exact (E1.out.set ⟨0,m.thread,m.block,st.var,0,st.order,st.scope,0,false,m.asked⟩ 9 _ rfl).set _ 8 _ rfl
   have KF:Hid (zAR ((W1.setCell ⟨b7,9,none⟩ (.int .u64 (m.asked:Nat))).setCell ⟨b7,8,none⟩ (.bool true)) (w.heap.size+1) Q.Ev.zero):=by unfold Hid;exact (K2.out.of2 (by omega)).of2 (by omega)
   have BF:Hid (Below w.heap.size w ((W1.setCell ⟨b7,9,none⟩ (.int .u64 (m.asked:Nat))).setCell ⟨b7,8,none⟩ (.bool true))):=(B1.out.setCell (p:=⟨b7,9,none⟩) (by simp;omega) _).setCell (p:=⟨b7,8,none⟩) (by simp;omega) _
   go_upto_region 10 with fail
   generalize hWF:(W1.setCell ⟨b7,9,none⟩ (.int .u64 (m.asked:Nat))).setCell ⟨b7,8,none⟩ (.bool true)=WF at *
   go_wp2_with (first | (refine zAg (.tmp 7) rfl rfl b7 0 _ rfl EF.out.range ?_) | (refine zAG (.tmp 6) (.tmp 50) rfl rfl (w.heap.size+1) (m.event 0 st) Q.Ev.zero rfl rfl KF.out ?_;intro w9 hE9 hg9))
   refine zBf (p:=6) (w.heap.size+1) _ (by kernel_rfl) Tryz.underlying129 rfl (by kernel_rfl) rfl hE9 rfl ⟨rfl,BF.out.trans ⟨hg9.os,hg9.tape,hg9.output,hg9.size,fun k hk=>hg9.block k (by have:=BF.out.size;omega) (by simp;omega)⟩⟩
  ·have EF:Hid (zAR ((W1.setCell ⟨b7,9,none⟩ (.int .u64 (m.asked:Nat))).setCell ⟨b7,8,none⟩ (.bool true)) b7 (m.event 0 st)):=by
    unfold Hid;rw[HV.out,z2,z3]
    exact (E1.out.set ⟨0,m.thread,m.block,st.var,0,st.order,st.scope,0,false,m.asked⟩ 9 _ rfl).set _ 8 _ rfl
   have KF:Hid (zAR ((W1.setCell ⟨b7,9,none⟩ (.int .u64 (m.asked:Nat))).setCell ⟨b7,8,none⟩ (.bool true)) (w.heap.size+1) Q.Ev.zero):=by unfold Hid;exact (K2.out.of2 (by omega)).of2 (by omega)
   have BF:Hid (Below w.heap.size w ((W1.setCell ⟨b7,9,none⟩ (.int .u64 (m.asked:Nat))).setCell ⟨b7,8,none⟩ (.bool true))):=(B1.out.setCell (p:=⟨b7,9,none⟩) (by simp;omega) _).setCell (p:=⟨b7,8,none⟩) (by simp;omega) _
   go_upto_region 10 with fail
   generalize hWF:(W1.setCell ⟨b7,9,none⟩ (.int .u64 (m.asked:Nat))).setCell ⟨b7,8,none⟩ (.bool true)=WF at *
   go_wp2_with (first | (refine zAg (.tmp 7) rfl rfl b7 0 _ rfl EF.out.range ?_) | (refine zAG (.tmp 6) (.tmp 50) rfl rfl (w.heap.size+1) (m.event 0 st) Q.Ev.zero rfl rfl KF.out ?_;intro w9 hE9 hg9))
   refine zBf (p:=6) (w.heap.size+1) _ (by kernel_rfl) Tryz.underlying129 rfl (by kernel_rfl) rfl hE9 rfl ⟨rfl,BF.out.trans ⟨hg9.os,hg9.tape,hg9.output,hg9.size,fun k hk=>hg9.block k (by have:=BF.out.size;omega) (by simp;omega)⟩⟩
  ·have EF:Hid (zAR ((W1.setCell ⟨b7,9,none⟩ (.int .u64 (m.asked:Nat))).setCell ⟨b7,8,none⟩ (.bool true)) b7 (m.event 0 st)):=by
    unfold Hid;rw[HV.out,z2,z3]
    exact (E1.out.set ⟨0,m.thread,m.block,st.var,0,st.order,st.scope,0,false,m.asked⟩ 9 _ rfl).set _ 8 _ rfl
   have KF:Hid (zAR ((W1.setCell ⟨b7,9,none⟩ (.int .u64 (m.asked:Nat))).setCell ⟨b7,8,none⟩ (.bool true)) (w.heap.size+1) Q.Ev.zero):=by unfold Hid;exact (K2.out.of2 (by omega)).of2 (by omega)
   have BF:Hid (Below w.heap.size w ((W1.setCell ⟨b7,9,none⟩ (.int .u64 (m.asked:Nat))).setCell ⟨b7,8,none⟩ (.bool true))):=(B1.out.setCell (p:=⟨b7,9,none⟩) (by simp;omega) _).setCell (p:=⟨b7,8,none⟩) (by simp;omega) _
   go_upto_region 10 with fail
   generalize hWF:(W1.setCell ⟨b7,9,none⟩ (.int .u64 (m.asked:Nat))).setCell ⟨b7,8,none⟩ (.bool true)=WF at *
   go_wp2_with (first | (refine zAg (.tmp 7) rfl rfl b7 0 _ rfl EF.out.range ?_) | (refine zAG (.tmp 6) (.tmp 50) rfl rfl (w.heap.size+1) (m.event 0 st) Q.Ev.zero rfl rfl KF.out ?_;intro w9 hE9 hg9))
   refine zBf (p:=6) (w.heap.size+1) _ (by kernel_rfl) Tryz.underlying129 rfl (by kernel_rfl) rfl hE9 rfl ⟨rfl,BF.out.trans ⟨hg9.os,hg9.tape,hg9.output,hg9.size,fun k hk=>hg9.block k (by have:=BF.out.size;omega) (by simp;omega)⟩⟩
 ·cases z2:(st.kind==2)<;>cases z3:(st.kind==3)
  ·have EF:Hid (zAR ((W1.setCell ⟨b7,9,none⟩ (.int .u64 (m.asked:Nat))).setCell ⟨b7,8,none⟩ (.bool false)) b7 (m.event 1 st)):=by
    unfold Hid;rw[HV.out,z2,z3]
    exact (E1.out.set ⟨1,m.thread,m.block,st.var,0,st.order,st.scope,0,false,m.asked⟩ 9 _ rfl).set _ 8 _ rfl
   have KF:Hid (zAR ((W1.setCell ⟨b7,9,none⟩ (.int .u64 (m.asked:Nat))).setCell ⟨b7,8,none⟩ (.bool false)) (w.heap.size+1) Q.Ev.zero):=by unfold Hid;exact (K2.out.of2 (by omega)).of2 (by omega)
   have BF:Hid (Below w.heap.size w ((W1.setCell ⟨b7,9,none⟩ (.int .u64 (m.asked:Nat))).setCell ⟨b7,8,none⟩ (.bool false))):=(B1.out.setCell (p:=⟨b7,9,none⟩) (by simp;omega) _).setCell (p:=⟨b7,8,none⟩) (by simp;omega) _
   go_upto_region 10 with fail
   generalize hWF:(W1.setCell ⟨b7,9,none⟩ (.int .u64 (m.asked:Nat))).setCell ⟨b7,8,none⟩ (.bool false)=WF at *
   go_wp2_with (first | (refine zAg (.tmp 7) rfl rfl b7 0 _ rfl EF.out.range ?_) | (refine zAG (.tmp 6) (.tmp 50) rfl rfl (w.heap.size+1) (m.event 1 st) Q.Ev.zero rfl rfl KF.out ?_;intro w9 hE9 hg9))
   refine zBf (p:=6) (w.heap.size+1) _ (by kernel_rfl) Tryz.underlying129 rfl (by kernel_rfl) rfl hE9 rfl ⟨rfl,BF.out.trans ⟨hg9.os,hg9.tape,hg9.output,hg9.size,fun k hk=>hg9.block k (by have:=BF.out.size;omega) (by simp;omega)⟩⟩
  ·have EF:Hid (zAR ((W1.setCell ⟨b7,9,none⟩ (.int .u64 (m.asked:Nat))).setCell ⟨b7,8,none⟩ (.bool true)) b7 (m.event 1 st)):=by
    unfold Hid;rw[HV.out,z2,z3]
    exact (E1.out.set ⟨1,m.thread,m.block,st.var,0,st.order,st.scope,0,false,m.asked⟩ 9 _ rfl).set _ 8 _ rfl
   have KF:Hid (zAR ((W1.setCell ⟨b7,9,none⟩ (.int .u64 (m.asked:Nat))).setCell ⟨b7,8,none⟩ (.bool true)) (w.heap.size+1) Q.Ev.zero):=by unfold Hid;exact (K2.out.of2 (by omega)).of2 (by omega)
   have BF:Hid (Below w.heap.size w ((W1.setCell ⟨b7,9,none⟩ (.int .u64 (m.asked:Nat))).setCell ⟨b7,8,none⟩ (.bool true))):=(B1.out.setCell (p:=⟨b7,9,none⟩) (by simp;omega) _).setCell (p:=⟨b7,8,none⟩) (by simp;omega) _
   go_upto_region 10 with fail
   generalize hWF:(W1.setCell ⟨b7,9,none⟩ (.int .u64 (m.asked:Nat))).setCell ⟨b7,8,none⟩ (.bool true)=WF at *
   go_wp2_with (first | (refine zAg (.tmp 7) rfl rfl b7 0 _ rfl EF.out.range ?_) | (refine zAG (.tmp 6) (.tmp 50) rfl rfl (w.heap.size+1) (m.event 1 st) Q.Ev.zero rfl rfl KF.out ?_;intro w9 hE9 hg9))
   refine zBf (p:=6) (w.heap.size+1) _ (by kernel_rfl) Tryz.underlying129 rfl (by kernel_rfl) rfl hE9 rfl ⟨rfl,BF.out.trans ⟨hg9.os,hg9.tape,hg9.output,hg9.size,fun k hk=>hg9.block k (by have:=BF.out.size;omega) (by simp;omega)⟩⟩
  ·have EF:Hid (zAR ((W1.setCell ⟨b7,9,none⟩ (.int .u64 (m.asked:Nat))).setCell ⟨b7,8,none⟩ (.bool true)) b7 (m.event 1 st)):=by
    unfold Hid;rw[HV.out,z2,z3]
    exact (E1.out.set ⟨1,m.thread,m.block,st.var,0,st.order,st.scope,0,false,m.asked⟩ 9 _ rfl).set _ 8 _ rfl
   have KF:Hid (zAR ((W1.setCell ⟨b7,9,none⟩ (.int .u64 (m.asked:Nat))).setCell ⟨b7,8,none⟩ (.bool true)) (w.heap.size+1) Q.Ev.zero):=by unfold Hid;exact (K2.out.of2 (by omega)).of2 (by omega)
   have BF:Hid (Below w.heap.size w ((W1.setCell ⟨b7,9,none⟩ (.int .u64 (m.asked:Nat))).setCell ⟨b7,8,none⟩ (.bool true))):=(B1.out.setCell (p:=⟨b7,9,none⟩) (by simp;omega) _).setCell (p:=⟨b7,8,none⟩) (by simp;omega) _
   go_upto_region 10 with fail
   generalize hWF:(W1.setCell ⟨b7,9,none⟩ (.int .u64 (m.asked:Nat))).setCell ⟨b7,8,none⟩ (.bool true)=WF at *
   go_wp2_with (first | (refine zAg (.tmp 7) rfl rfl b7 0 _ rfl EF.out.range ?_) | (refine zAG (.tmp 6) (.tmp 50) rfl rfl (w.heap.size+1) (m.event 1 st) Q.Ev.zero rfl rfl KF.out ?_;intro w9 hE9 hg9))
   refine zBf (p:=6) (w.heap.size+1) _ (by kernel_rfl) Tryz.underlying129 rfl (by kernel_rfl) rfl hE9 rfl ⟨rfl,BF.out.trans ⟨hg9.os,hg9.tape,hg9.output,hg9.size,fun k hk=>hg9.block k (by have:=BF.out.size;omega) (by simp;omega)⟩⟩
  ·have EF:Hid (zAR ((W1.setCell ⟨b7,9,none⟩ (.int .u64 (m.asked:Nat))).setCell ⟨b7,8,none⟩ (.bool true)) b7 (m.event 1 st)):=by
    unfold Hid;rw[HV.out,z2,z3]
    exact (E1.out.set ⟨1,m.thread,m.block,st.var,0,st.order,st.scope,0,false,m.asked⟩ 9 _ rfl).set _ 8 _ rfl
   have KF:Hid (zAR ((W1.setCell ⟨b7,9,none⟩ (.int .u64 (m.asked:Nat))).setCell ⟨b7,8,none⟩ (.bool true)) (w.heap.size+1) Q.Ev.zero):=by unfold Hid;exact (K2.out.of2 (by omega)).of2 (by omega)
   have BF:Hid (Below w.heap.size w ((W1.setCell ⟨b7,9,none⟩ (.int .u64 (m.asked:Nat))).setCell ⟨b7,8,none⟩ (.bool true))):=(B1.out.setCell (p:=⟨b7,9,none⟩) (by simp;omega) _).setCell (p:=⟨b7,8,none⟩) (by simp;omega) _
   go_upto_region 10 with fail
   generalize hWF:(W1.setCell ⟨b7,9,none⟩ (.int .u64 (m.asked:Nat))).setCell ⟨b7,8,none⟩ (.bool true)=WF at *
   go_wp2_with (first | (refine zAg (.tmp 7) rfl rfl b7 0 _ rfl EF.out.range ?_) | (refine zAG (.tmp 6) (.tmp 50) rfl rfl (w.heap.size+1) (m.event 1 st) Q.Ev.zero rfl rfl KF.out ?_;intro w9 hE9 hg9))
   refine zBf (p:=6) (w.heap.size+1) _ (by kernel_rfl) Tryz.underlying129 rfl (by kernel_rfl) rfl hE9 rfl ⟨rfl,BF.out.trans ⟨hg9.os,hg9.tape,hg9.output,hg9.size,fun k hk=>hg9.block k (by have:=BF.out.size;omega) (by simp;omega)⟩⟩
 ·have EF:Hid (zAR (W1) b7 (m.event 2 st)):=by
   unfold Hid;rw[HV.out]
   exact E1.out
  have KF:Hid (zAR (W1) (w.heap.size+1) Q.Ev.zero):=by unfold Hid;exact K2.out
  have BF:Hid (Below w.heap.size w (W1)):=B1.out
  go_upto_region 10 with fail
  skip
  go_wp2_with (first | (refine zAg (.tmp 7) rfl rfl b7 0 _ rfl EF.out.range ?_) | (refine zAG (.tmp 6) (.tmp 50) rfl rfl (w.heap.size+1) (m.event 2 st) Q.Ev.zero rfl rfl KF.out ?_;intro w9 hE9 hg9))
  refine zBf (p:=6) (w.heap.size+1) _ (by kernel_rfl) Tryz.underlying129 rfl (by kernel_rfl) rfl hE9 rfl ⟨rfl,BF.out.trans ⟨hg9.os,hg9.tape,hg9.output,hg9.size,fun k hk=>hg9.block k (by have:=BF.out.size;omega) (by simp;omega)⟩⟩
 ·have EF:Hid (zAR (W1.setCell ⟨b7,7,none⟩ (.int .i64 (m.bars:Nat))) b7 (m.event 3 st)):=by
   unfold Hid;rw[HV.out]
   exact E1.out.set _ 7 _ rfl
  have KF:Hid (zAR (W1.setCell ⟨b7,7,none⟩ (.int .i64 (m.bars:Nat))) (w.heap.size+1) Q.Ev.zero):=by unfold Hid;exact K2.out.of2 (by omega)
  have BF:Hid (Below w.heap.size w (W1.setCell ⟨b7,7,none⟩ (.int .i64 (m.bars:Nat)))):=B1.out.setCell (p:=⟨b7,7,none⟩) (by simp;omega) _
  go_upto_region 10 with fail
  generalize hWF:W1.setCell ⟨b7,7,none⟩ (.int .i64 (m.bars:Nat))=WF at *
  go_wp2_with (first | (refine zAg (.tmp 7) rfl rfl b7 0 _ rfl EF.out.range ?_) | (refine zAG (.tmp 6) (.tmp 50) rfl rfl (w.heap.size+1) (m.event 3 st) Q.Ev.zero rfl rfl KF.out ?_;intro w9 hE9 hg9))
  refine zBf (p:=6) (w.heap.size+1) _ (by kernel_rfl) Tryz.underlying129 rfl (by kernel_rfl) rfl hE9 rfl ⟨rfl,BF.out.trans ⟨hg9.os,hg9.tape,hg9.output,hg9.size,fun k hk=>hg9.block k (by have:=BF.out.size;omega) (by simp;omega)⟩⟩
 ·have EF:Hid (zAR (W1.setCell ⟨b7,7,none⟩ (.int .i64 (m.bars:Nat))) b7 (m.event 4 st)):=by
   unfold Hid;rw[HV.out]
   exact E1.out.set _ 7 _ rfl
  have KF:Hid (zAR (W1.setCell ⟨b7,7,none⟩ (.int .i64 (m.bars:Nat))) (w.heap.size+1) Q.Ev.zero):=by unfold Hid;exact K2.out.of2 (by omega)
  have BF:Hid (Below w.heap.size w (W1.setCell ⟨b7,7,none⟩ (.int .i64 (m.bars:Nat)))):=B1.out.setCell (p:=⟨b7,7,none⟩) (by simp;omega) _
  go_upto_region 10 with fail
  generalize hWF:W1.setCell ⟨b7,7,none⟩ (.int .i64 (m.bars:Nat))=WF at *
  go_wp2_with (first | (refine zAg (.tmp 7) rfl rfl b7 0 _ rfl EF.out.range ?_) | (refine zAG (.tmp 6) (.tmp 50) rfl rfl (w.heap.size+1) (m.event 4 st) Q.Ev.zero rfl rfl KF.out ?_;intro w9 hE9 hg9))
  refine zBf (p:=6) (w.heap.size+1) _ (by kernel_rfl) Tryz.underlying129 rfl (by kernel_rfl) rfl hE9 rfl ⟨rfl,BF.out.trans ⟨hg9.os,hg9.tape,hg9.output,hg9.size,fun k hk=>hg9.block k (by have:=BF.out.size;omega) (by simp;omega)⟩⟩
theorem zDw {w:World} {B g:Nat} {m:Q.Mach} {ev:Value} (h:MachIn w B g m ev):some g≠ev.ownBlock:=fun e=>by
 rcases h.evs.2 with ⟨e1,_⟩ | ⟨g',cap,cur,e1,_,hh,_⟩
 ·rw[e1] at e;simp[Value.ownBlock] at e
 ·rw[e1] at e;simp[Value.ownBlock] at e
  subst e
  rw[h.box] at hh;simp at hh
theorem zHa {w W0 Wd w1:World} {B g gn cn:Nat} {m:Q.Mach} {ev:Value} {e:Q.Ev} (hm:MachIn w B g m ev) (hb0:Below w.heap.size w W0) (hd:Below W0.heap.size W0 Wd) (hs:w.heap.size<Wd.heap.size)
  (hown:w1.ownsRow B 129 10 (.slice (some ⟨gn,0,none⟩) (m.events.length+1) cn) (m.events.length+1) (zAM m.events++(zAb e).toList)) (hgrow:Wd.grownBy w1 ev.ownBlock) (hat:ev.ownBlock=some gn∨w.heap.size≤gn) :
  MachIn (w1.setCell ⟨g,13,none⟩ (.slice (some ⟨gn,0,none⟩) (m.events.length+1) cn)) B g (m.put e) (.slice (some ⟨gn,0,none⟩) (m.events.length+1) cn)∧MFrame w (w1.setCell ⟨g,13,none⟩ (.slice (some ⟨gn,0,none⟩) (m.events.length+1) cn)) g ev (.slice (some ⟨gn,0,none⟩) (m.events.length+1) cn):=by
 have hbd:Below w.heap.size w Wd:=zAo hb0 (Nat.le_refl _) hd
 have hg1:w1.heap[g]?=some (.cells (zCB m ev) 147 (0,0)):=(hgrow.block g (by have:=hm.lt;omega) (zDw hm)).trans ((hbd.block g hm.lt).trans hm.box)
 have hgn:gn≠g:=fun e1=>by
  rcases hown.2 with ⟨e2,_⟩ | ⟨g',cap,cur,e2,_,hh,_⟩
  ·simp at e2
  ·simp only[Value.slice.injEq,Option.some.injEq,Addr.mk.injEq] at e2
   rw[← e2.1.1,e1,hg1] at hh;simp at hh
 refine⟨⟨?_,?_,hm.ge,hm.lr,hm.lm⟩,?_⟩
 ·rw[zAf hg1];rfl
 ·have e1:(m.put e).events.length=m.events.length+1:=by simp[Q.Mach.put]
  have e2:zAM (m.put e).events=zAM m.events++(zAb e).toList:=by simp only[Q.Mach.put];rw[zCA,zDP]
  rw[e1,e2]
  refine zAd hown (fun k hk=>Below.heap_setCell _ _ _ _ ?_)
  simp[Value.ownBlock] at hk
  simp;omega
 ·refine⟨hgrow.os.trans hbd.os,hgrow.tape.trans hbd.tape,hgrow.output.trans hbd.output,by have:=hgrow.size;simp;omega,fun k hk hkg hke=>?_,?_⟩
  ·rw[Below.heap_setCell _ _ _ _ hkg,hgrow.block k (by omega) (fun h=>hke h.symm),hbd.block k hk]
  ·rcases hat with h | h
   ·exact Or.inl (by rw[h];rfl)
   ·exact Or.inr ⟨gn,rfl,h⟩
theorem zCD (B g:Nat) (m:Q.Mach) (ev:Value) (e:Q.Ev) (w:World) (h:MachIn w B g m ev) (hn:m.events.length<10000) (hB:B≤w.heap.size) :
  Calls Tryz.prog 139 #[.pointer (some ⟨g,0,none⟩),.agg (zAb e)] w fun x w'=>x=.returned (.int .i64 (m.events.length:Int))∧∃ ev',MachIn w' B g (m.put e) ev'∧MFrame w w' g ev ev':=by
 obtain⟨i0,hi,hz0,hz1,hz2⟩:=info_parts Tryz.infoEvM
 obtain⟨k0,hsz,hbw⟩:=zBw w (zAb e) 129
 have HM0:=zAa (h.below hbw)
 have H:=zAa h
 have BW0:=zAa hbw
 obtain⟨sa,sc,rfl,hsa⟩:=h.form
 clear h hbw hsa
 simp only[zAb] at *
 go_enter Tryz.func139,Tryz.ntmps139
 go_upto_region 1 with fail
 generalize hE:w.alloc (.cells #[.int .i64 e.kind,.int .i64 e.thread,.int .i64 e.block,.int .i64 e.var,.int .i64 e.value,.int .i64 e.order,.int .i64 e.scope,.int .i64 e.bars,.bool e.step,.int .u64 (e.hangs:Nat)] 129)=W0 at *
 have HE0:zAR W0 w.heap.size e:=k0
 obtain⟨x0,x1,x2,x3,x4,x5,x6,x7,x8,x9,xf,xl⟩:=HE0.facts
 obtain⟨c0,c1,c2,c3,c4,c5,c6,c7,c8,c9,c10,c11,c12,c13,cf⟩:=HM0.out.facts
 have hg:=HM0.out.lt
 have hszl:w.heap.size+1≤W0.heap.size:=by omega
 have hge:=HM0.out.ge
 have hne:=zDw HM0.out
 have HO:Hid ((W0.drew.alloc (.cells (zAb e) 129)).ownsRow B 129 10 (.slice sa m.events.length sc) m.events.length (zAM m.events)):=zAd HM0.out.evs (fun k hk=>Below.heap_alloc _ _ _ (HM0.out.evs.lt k hk).2)
 have HN:Hid (∀ j u,(zAb e).toList[j]?=some u→(W0.drew.alloc (.cells (zAb e) 129)).cell? ((⟨W0.heap.size,0,none⟩:Addr).add j)=some u) :=
  World.news_of_block (cs:=zAb e) (t:=129) (fr:=(0,0)) (heap_alloc_new W0.drew _)
 have HC:Hid ((W0.drew.alloc (.cells (zAb e) 129)).cell? ⟨g,13,none⟩=some (.slice sa m.events.length sc)):=(zAy (w:=W0.drew) hg).trans c13
 have HFZ:Hid ((W0.drew.alloc (.cells (zAb e) 129)).frozen? ⟨g,13,none⟩=false):=by
  unfold Hid;rw[World.frozen?_of_block (w:=W0.drew) (a:=⟨g,13,none⟩) (Below.heap_alloc _ _ _ hg)];exact cf 13
 clear c0 c1 c2 c3 c4 c5 c6 c7 c8 c9 c10 c11 c12 k0 hE HE0 hsz
 go_region_law (refine step_append_lies _ rfl (.tmp 9) (.tmp 11) 59 rfl B 129 i0 (.agg (zAb Q.Ev.zero)) 10 80 Tryz.underlying59 hi hz0 hz1 hz2 rfl (by decide) (.slice sa m.events.length sc) m.events.length (zAM m.events) (by simp[Act.eval]) (by exact HO.out) ⟨W0.heap.size,0,none⟩ 1 1 (zAb e).toList (by simp[Act.eval]) rfl (by exact HN.out) (by simp[zAb,Value.oneCell']) (by decide) (by unfold maxLen;omega) (by omega) (by simp;omega) (W0.heap.size+1) (by simp) ?_;intro gn cn w1 hown1 hgrow hat hlt1;have c1:=(hgrow.cell_far ⟨g,13,none⟩ (by simp;omega) hne).trans HC.out;have f1:=(hgrow.frozen_far ⟨g,13,none⟩ (by simp;omega) hne).trans HFZ.out;have hwl:W0.heap.size+1≤w1.heap.size:=by have:=hgrow.size;simp at this;omega)
 all_goals
  obtain⟨q1,q2⟩:=zHa (Wd:=W0.drew.alloc (.cells (zAb e) 129)) H.out BW0.out (((Below.refl _ _).drew).alloc (by simp) _) (by simp;omega) hown1 hgrow (by rcases hat with h | h;exact Or.inl h;exact Or.inr (by omega))
  have Q1:=zAa q1
  have Q2:=zAa q2
  have hgw1:g<w1.heap.size:=by omega
  have hns:((m.events.length+1:Nat):Int)-1=(m.events.length:Int):=by omega
  clear q1 q2 hown1 hgrow
  go_wp2
  go_ret
  exact⟨by first | rfl | (congr 2;omega),_,Q1.out,Q2.out⟩
def zCv (B g:Nat) (w w':World) (ev:Value) (m:Q.Mach):Prop:=∃ ev',MachIn w' B g m ev'∧MFrame w w' g ev ev'
theorem zCv.next {B g:Nat} {w w1 w2:World} {ev ev1:Value} {m:Q.Mach} (h:MFrame w w1 g ev ev1) (k:zCv B g w1 w2 ev1 m):zCv B g w w2 ev m:=by
 obtain⟨ev',h1,h2⟩:=k
 exact⟨ev',h1,h.trans h2⟩
theorem zEE (B g:Nat) (m:Q.Mach) (ev:Value) (st:P.Stm) (w:World) (h:MachIn w B g m ev) (hn:m.events.length<10000) (hB:B≤w.heap.size) (hu:m.unread<1000000000) :
  Calls Tryz.prog 134 #[.pointer (some ⟨g,0,none⟩),.agg (zAe st)] w fun x w'=>x=.returned (.int .i64 (m.events.length:Int))∧zCv B g w w' ev (m.read st):=by
 have hgw:=h.lt
 have H:=zAa h
 obtain⟨k0,hsz,hbw⟩:=zBw w (zAe st) 97
 have HM0:=zAa (h.below hbw)
 have HST:zAv _ _ st:=k0
 have HST0:=zAa HST
 have BW0:=zAa hbw
 have HE:Hid (m.read st={ m with unread:=m.unread / 4 }.put { m.event 0 st with value:=(m.unread % 4:Nat) }):=rfl
 clear h hbw HST k0 hsz
 simp only[zAe] at *
 go_enter Tryz.func134,Tryz.ntmps134
 go_upto_region 2 with (first | (go_at_call 138;refine (zCn B g m ev 0 st _ HM0.out (Or.inl rfl)).mono ?_;rintro e w1 ⟨rfl,hb1⟩;generalize hev:m.event 0 st=e0 at *;simp only[zAb]))
 have E1:Hid (zAR (w1.alloc (.cells (zAb e0) 129)) w1.heap.size e0):=zAR.new w1 e0
 have BX:Below w.heap.size w (w1.alloc (.cells (zAb e0) 129)):=(zAo BW0.out (Nat.le_refl _) hb1).alloc (by have:=hb1.size;simp at this;omega) _
 have HM1:=zAa (H.out.below BX)
 have B1:=zAa BX
 have hlb:w1.heap.size<(w1.alloc (.cells (zAb e0) 129)).heap.size:=by simp
 have hwb:w.heap.size≤w1.heap.size:=(zAo BW0.out (Nat.le_refl _) hb1).size
 clear BX hb1
 simp only[zAb] at E1 HM1 B1 hlb
 generalize hb:w1.heap.size=b at *
 generalize hW1:w1.alloc _=W1 at *
 obtain⟨c0,c1,c2,c3,c4,c5,c6,c7,c8,c9,c10,c11,c12,c13,cf⟩:=HM1.out.facts
 have hg:=HM1.out.lt
 obtain⟨x0,x1,x2,x3,x4,x5,x6,x7,x8,x9,xf,xl⟩:=E1.out.facts
 clear c0 c1 c3 c4 c5 c6 c7 c8 c9 c10 c11 c12 c13 x0 x1 x2 x3 x5 x6 x7 x8 x9 hW1
 go_upto_region 4 with fail
 have hbg:b≠g:=by omega
 have E2:Hid (zAR ((W1.setCell ⟨b,4,none⟩ (.int .i64 ((m.unread:Int) % 4))).setCell ⟨g,2,none⟩ (.int .i64 ((m.unread:Int) / 4))) b { e0 with value:=(m.unread % 4:Nat) }):=zAR.of2 (E1.out.set _ 4 _ rfl) hbg
 have HM2:Hid (MachIn ((W1.setCell ⟨b,4,none⟩ (.int .i64 ((m.unread:Int) % 4))).setCell ⟨g,2,none⟩ (.int .i64 ((m.unread:Int) / 4))) B g { m with unread:=m.unread / 4 } ev):=by
  have hx:MachIn (W1.setCell ⟨b,4,none⟩ (.int .i64 ((m.unread:Int) % 4))) B g m ev:=H.out.below (B1.out.setCell (p:=⟨b,4,none⟩) hwb _)
  refine hx.set ?_ (fun k hk=>Below.heap_setCell _ _ _ _ hk) rfl hx.lr hx.lm
  rw[zAf hx.box];rfl
 have FR:Hid (MFrame w ((W1.setCell ⟨b,4,none⟩ (.int .i64 ((m.unread:Int) % 4))).setCell ⟨g,2,none⟩ (.int .i64 ((m.unread:Int) / 4))) g ev ev):=(MFrame.of (B1.out.setCell (p:=⟨b,4,none⟩) hwb _) g ev).trans (MFrame.set ev [(2,.int .i64 ((m.unread:Int) / 4))])
 have hsz2:w.heap.size≤((W1.setCell ⟨b,4,none⟩ (.int .i64 ((m.unread:Int) % 4))).setCell ⟨g,2,none⟩ (.int .i64 ((m.unread:Int) / 4))).heap.size:=FR.out.size
 generalize hW2:(W1.setCell ⟨b,4,none⟩ (.int .i64 ((m.unread:Int) % 4))).setCell ⟨g,2,none⟩ (.int .i64 ((m.unread:Int) / 4))=W2 at *
 generalize he1:({ e0 with value:=(m.unread % 4:Nat) }:Q.Ev)=e1 at *
 have HE1:=zAa he1
 have HEV:=zAa hev
 clear he1 hev hW2 c2 cf x4 xf xl
 go_wp2_with (first | (refine zAg (.tmp 5) rfl rfl b 0 e1 rfl E2.out.range ?_) | (go_at_call 139;refine (zCD B g _ ev e1 _ HM2.out hn (by omega)).mono ?_;rintro e w3 ⟨rfl,ev',hm3,hf3⟩))
 go_ret
 refine⟨rfl,ev',?_,FR.out.trans hf3⟩
 rw[HE.out];exact hm3
theorem zCM (B g:Nat) (m:Q.Mach) (ev:Value) (st:P.Stm) (v:Int) (s:Nat) (w:World) (h:MachIn w B g m ev) (hn:m.events.length<10000) (hB:B≤w.heap.size) (ha:m.asked<Q.M64) (hs:s<Q.M64) :
  Calls Tryz.prog 147 #[.pointer (some ⟨g,0,none⟩),.agg (zAe st),.int .i64 v,.int .u64 (s:Nat)] w fun x w'=>x=.returned (.tuple #[])∧zCv B g w w' ev (m.write st v s):=by
 have hgw:=h.lt
 have H:=zAa h
 obtain⟨k0,hsz,hbw⟩:=zBw w (zAe st) 97
 have HM0:=zAa (h.below hbw)
 have BW0:=zAa hbw
 have HE:Hid (m.write st v s=m.put { m.event 1 st with value:=v,hangs:=m.asked ||| s }):=rfl
 have hor:=bits_or_u64_nat m.asked s ha hs
 have HEH:Hid ((m.event 1 st).hangs=m.asked):=rfl
 clear h hbw k0 hsz
 simp only[zAe] at *
 go_enter Tryz.func147,Tryz.ntmps147
 go_upto_region 2 with (first | (go_at_call 138;refine (zCn B g m ev 1 st _ HM0.out (Or.inr (Or.inl rfl))).mono ?_;rintro e w1 ⟨rfl,hb1⟩;generalize hev:m.event 1 st=e0 at *;simp only[zAb]))
 have E1:Hid (zAR (w1.alloc (.cells (zAb e0) 129)) w1.heap.size e0):=zAR.new w1 e0
 have BX:Below w.heap.size w (w1.alloc (.cells (zAb e0) 129)):=(zAo BW0.out (Nat.le_refl _) hb1).alloc (by have:=hb1.size;simp at this;omega) _
 have HM1:=zAa (H.out.below BX)
 have B1:=zAa BX
 have hlb:w1.heap.size<(w1.alloc (.cells (zAb e0) 129)).heap.size:=by simp
 have hwb:w.heap.size≤w1.heap.size:=(zAo BW0.out (Nat.le_refl _) hb1).size
 clear BX hb1
 simp only[zAb] at E1 HM1 B1 hlb
 generalize hb:w1.heap.size=b at *
 generalize hW1:w1.alloc _=W1 at *
 obtain⟨x0,x1,x2,x3,x4,x5,x6,x7,x8,x9,xf,xl⟩:=E1.out.facts
 rw[HEH.out] at x9
 clear x0 x1 x2 x3 x5 x6 x7 x8 hW1
 go_upto_region 4 with fail
 have hbg:b≠g:=by omega
 have E2:Hid (zAR ((W1.setCell ⟨b,4,none⟩ (.int .i64 v)).setCell ⟨b,9,none⟩ (.int .u64 ((m.asked ||| s:Nat):Int))) b { e0 with value:=v,hangs:=m.asked ||| s }):=(E1.out.set { e0 with value:=v } 4 _ rfl).set _ 9 _ rfl
 have BF:Hid (Below w.heap.size w ((W1.setCell ⟨b,4,none⟩ (.int .i64 v)).setCell ⟨b,9,none⟩ (.int .u64 ((m.asked ||| s:Nat):Int)))):=(B1.out.setCell (p:=⟨b,4,none⟩) hwb _).setCell (p:=⟨b,9,none⟩) hwb _
 have HM2:=zAa (H.out.below BF.out)
 generalize hW2:(W1.setCell ⟨b,4,none⟩ (.int .i64 v)).setCell ⟨b,9,none⟩ (.int .u64 ((m.asked ||| s:Nat):Int))=W2 at *
 generalize he1:({ e0 with value:=v,hangs:=m.asked ||| s }:Q.Ev)=e1 at *
 have HE1:=zAa he1
 have HEV:=zAa hev
 have hsz2:=BF.out.size
 clear he1 hev hW2 x4 x9 xf xl
 go_wp2_with (first | (refine zAg (.tmp 8) rfl rfl b 0 e1 rfl E2.out.range ?_) | (go_at_call 139;refine (zCD B g _ ev e1 _ HM2.out hn (by omega)).mono ?_;rintro e w3 ⟨rfl,ev',hm3,hf3⟩))
 go_end0
 refine⟨rfl,ev',?_,(MFrame.of BF.out g ev).trans hf3⟩
 rw[HE.out];exact hm3
theorem zBm {m:Q.Mach} (hm:∀ x∈m.made,x<Q.M64) (a:P.Opd):m.madeOf a<Q.M64:=by
 unfold Q.Mach.madeOf
 split
 ·split
  ·decide
  ·by_cases h:a.n.toNat<m.made.length
   ·rw[Q.getD_in _ _ h];exact hm _ (List.getElem_mem h)
   ·rw[Q.getD_out _ _ (by omega)];decide
 ·decide
theorem zGb (B g:Nat) (m:Q.Mach) (ev:Value) (st:P.Stm) (w:World) (h:MachIn w B g m ev) (hn:m.events.length<10000) (hB:B≤w.heap.size) (ha:m.asked<Q.M64) (hm:∀ x∈m.made,x<Q.M64) :
  Calls Tryz.prog 136 #[.pointer (some ⟨g,0,none⟩),.agg (zAe st)] w fun x w'=>x=.returned (.tuple #[])∧zCv B g w w' ev (m.store st):=by
 have H:=zAa h
 obtain⟨k0,hsz,hbw⟩:=zBw w (zAe st) 97
 have HM0:=zAa (h.below hbw)
 have BW0:=zAa hbw
 have HST:Hid (zAv _ _ st):=k0
 have HE:Hid (m.store st=m.write st (m.value ⟨st.a.reg,st.a.n⟩) (m.madeOf ⟨st.a.reg,st.a.n⟩)):=rfl
 have hml:=zBm hm ⟨st.a.reg,st.a.n⟩
 have hszB:=hbw.size
 clear h hbw k0 hsz
 simp only[zAe] at *
 go_enter Tryz.func136,Tryz.ntmps136
 go_upto_region 1 with fail
 generalize hE:w.alloc (.cells #[.int .i64 st.kind,.int .i64 st.line,.int .i64 st.dest,.int .i64 st.var,.bool st.a.reg,.int .i64 st.a.n,.bool st.b.reg,.int .i64 st.b.n,.int .i64 st.order,.int .i64 st.scope,.int .i64 st.label] 97)=W0 at *
 obtain⟨s0,s1,s2,s3,s4,s5,s6,s7,s8,s9,s10,s11,s12⟩:=HST.out.facts
 clear hE
 go_wp2_with (first
  | (go_at_call 147;refine (zCM B g m ev st _ _ _ HM2.out hn (by omega) ha hml).mono ?_;rintro e w3 ⟨rfl,hm3⟩)
  | (go_at_call 119;refine (zBe B g m ev st.a.reg st.a.n _ HM1.out).mono ?_;rintro e w2 ⟨rfl,hb2⟩;have HM2:=zAa (HM1.out.below hb2);have hz2:=hb2.size;have HS2:=zAa (HS1.out.below hb2);clear s0 s1 s2 s3 s4 s5 s6 s7 s8 s9 s10 s11 s12;obtain⟨s0,s1,s2,s3,s4,s5,s6,s7,s8,s9,s10,s11,s12⟩:=HS2.out.facts)
  | (go_at_call 120;refine (zCa B g m ev st.a.reg st.a.n _ HM0.out).mono ?_;rintro e w1 ⟨rfl,hb1⟩;have HM1:=zAa (HM0.out.below hb1);have hz1:=hb1.size;have HS1:=zAa (HST.out.below hb1);clear s0 s1 s2 s3 s4 s5 s6 s7 s8 s9 s10 s11 s12;obtain⟨s0,s1,s2,s3,s4,s5,s6,s7,s8,s9,s10,s11,s12⟩:=HS1.out.facts))
 go_end0
 refine⟨rfl,zCv.next (MFrame.of (zAo (zAo BW0.out (Nat.le_refl _) hb1) (Nat.le_refl _) hb2) g ev) ?_⟩
 rw[HE.out];exact hm3
theorem zEF (B g:Nat) (m:Q.Mach) (ev:Value) (st:P.Stm) (w:World) (h:MachIn w B g m ev) (hn:m.events.length+1<10000) (hB:B≤w.heap.size) (hbr:m.bars<10000) :
  Calls Tryz.prog 140 #[.pointer (some ⟨g,0,none⟩),.agg (zAe st)] w fun x w'=>x=.returned (.tuple #[])∧zCv B g w w' ev (m.barrier st):=by
 have hgw:=h.lt
 have H:=zAa h
 obtain⟨k0,hsz,hbw⟩:=zBw w (zAe st) 97
 have HM0:=zAa (h.below hbw)
 have BW0:=zAa hbw
 have HST:Hid (zAv _ _ st):=k0
 have HE:Hid (m.barrier st={ (m.put (m.event 3 st)).put (m.event 4 st) with bars:=m.bars+1 }):=by
  unfold Hid Q.Mach.barrier Q.Mach.put;simp
 have hszB:=hbw.size
 clear h hbw k0 hsz
 simp only[zAe] at *
 go_enter Tryz.func140,Tryz.ntmps140
 go_upto_region 1 with fail
 generalize hE:w.alloc (.cells #[.int .i64 st.kind,.int .i64 st.line,.int .i64 st.dest,.int .i64 st.var,.bool st.a.reg,.int .i64 st.a.n,.bool st.b.reg,.int .i64 st.b.n,.int .i64 st.order,.int .i64 st.scope,.int .i64 st.label] 97)=W0 at *
 obtain⟨s0,s1,s2,s3,s4,s5,s6,s7,s8,s9,s10,s11,s12⟩:=HST.out.facts
 clear hE
 go_upto_region 2 with (first | (go_at_call 138;refine (zCn B g m ev 3 st _ HM0.out (by omega)).mono ?_;rintro e w1 ⟨rfl,hb1⟩;generalize hev:m.event 3 st=e0 at *;simp only[zAb]))
 have E1:Hid (zAR (w1.alloc (.cells (zAb e0) 129)) w1.heap.size e0):=zAR.new w1 e0
 have BX:Below W0.heap.size W0 (w1.alloc (.cells (zAb e0) 129)):=hb1.alloc hb1.size _
 have HM1:=zAa (HM0.out.below BX)
 have HS1:=zAa (HST.out.below BX)
 have B1:=zAa (zAo BW0.out (Nat.le_refl _) BX)
 have hwb:w.heap.size≤w1.heap.size:=by have:=hb1.size;omega
 clear BX hb1 s0 s1 s2 s3 s4 s5 s6 s7 s8 s9 s10 s11 s12
 simp only[zAb] at E1 HM1 B1 HS1
 generalize hb:w1.heap.size=b at *
 generalize hW1:w1.alloc _=W1 at *
 clear hW1
 obtain⟨s0,s1,s2,s3,s4,s5,s6,s7,s8,s9,s10,s11,s12⟩:=HS1.out.facts
 go_upto_region 3 with (first | (go_at_call 138;refine (zCn B g m ev 4 st _ HM1.out (by omega)).mono ?_;rintro e w2 ⟨rfl,hb2⟩;generalize hev4:m.event 4 st=e4 at *;simp only[zAb]))
 have E2:Hid (zAR (w2.alloc (.cells (zAb e4) 129)) w2.heap.size e4):=zAR.new w2 e4
 have BX:Below W1.heap.size W1 (w2.alloc (.cells (zAb e4) 129)):=hb2.alloc hb2.size _
 have HM2:=zAa (HM1.out.below BX)
 have E1b:=zAa (E1.out.below BX)
 have B2:=zAa (zAo B1.out (Nat.le_refl _) BX)
 have hbl1:=E1.out.lt
 have hbl2:W1.heap.size≤w2.heap.size:=hb2.size
 have hwl1:=B1.out.size
 clear BX hb2 s0 s1 s2 s3 s4 s5 s6 s7 s8 s9 s10 s11 s12
 simp only[zAb] at E2 HM2 B2 E1b
 generalize hb':w2.heap.size=b2 at *
 generalize hW2:w2.alloc _=W2 at *
 clear hW2
 have hown:∀ k,ev.ownBlock=some k→k<w.heap.size:=fun k hk=>(H.out.evs.lt k hk).2
 have hsw2:=B2.out.size
 have HEV:=zAa hev
 have HEV4:=zAa hev4
 clear hev hev4
 go_upto_region 4 with (first | (refine zAg (.tmp 4) rfl rfl b 0 e0 rfl E1b.out.range ?_) | (go_at_call 139;refine (zCD B g m ev e0 _ HM2.out (by omega) (by omega)).mono ?_;rintro e w3 ⟨rfl,ev3,hm3,hf3⟩))
 have E3:Hid (zAR w3 b2 e4):=by
  have h1:=E2.out
  have h2:=h1.lt
  unfold Hid zAR at *
  rw[hf3.block b2 h2 (by omega) (fun e=>by have:=hown b2 e;omega)];exact h1
 have HM3:=zAa hm3
 have F3:=zAa ((MFrame.of B2.out g ev).trans hf3)
 have hl3:=hf3.size
 clear hm3 hf3
 go_upto_region 5 with (first | (refine zAg (.tmp 5) rfl rfl b2 0 e4 rfl E3.out.range ?_) | (go_at_call 139;refine (zCD B g _ ev3 e4 _ HM3.out (by simp[Q.Mach.put];omega) (by omega)).mono ?_;rintro e w4 ⟨rfl,ev4,hm4,hf4⟩))
 have hg4:=hm4.lt
 obtain⟨c0,c1,c2,c3,c4,c5,c6,c7,c8,c9,c10,c11,c12,c13,cf⟩:=hm4.facts
 have HM4:=zAa hm4
 have F4:=zAa (F3.out.trans hf4)
 have c12':w4.cell? ⟨g,12,none⟩=some (.int .i64 (m.bars:Nat)):=c12
 clear c0 c1 c2 c3 c4 c5 c6 c7 c8 c9 c10 c11 c12 c13 hm4 hf4
 go_wp2
 go_end0
 refine⟨rfl,ev4,?_,F4.out.trans (MFrame.set ev4 [(12,.int .i64 ((m.bars:Int)+1))])⟩
 rw[HE.out]
 refine HM4.out.set ?_ (fun k hk=>Below.heap_setCell _ _ _ _ hk) rfl HM4.out.lr HM4.out.lm
 rw[zAf HM4.out.box];rfl
end Go.Proofs.YtkmebkbpfmoeaaaGreat
