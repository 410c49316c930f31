import Derived.Test.YtgceflcbckjjiaaGreatDoorD21
import Derived.Test.YtgceflcbckjjiaaGreatDoorD17
set_option linter.unusedVariables false
set_option linter.unusedSimpArgs false
set_option maxHeartbeats 12800000
namespace Go.Proofs.YtgceflcbckjjiaaGreatDoor
open Go Go.RowKit
set_option maxRecDepth 100000
theorem Tryz.infoEvM:(Tryz.prog.info? 158).map (fun i=>(i.zero,i.size,i.bytes))=some (some (.agg (zAe Q.Ev.zero)),10,80):=by kernel_rfl
theorem zAS.set {w:World} {g:Nat} {e:Q.Ev} (e':Q.Ev) (h:zAS w g e) (i:Nat) (u:Value) (he:(zAe e).setIfInBounds i u=zAe e'):zAS (w.setCell ⟨g,i,none⟩ u) g e':=by
 unfold zAS at *
 rw[zAf h,he]
theorem zAS.of2 {w:World} {g b i:Nat} {e:Q.Ev} {u:Value} (h:zAS w g e) (hne:g≠b):zAS (w.setCell ⟨b,i,none⟩ u) g e:=by
 unfold zAS at *
 rw[Below.heap_setCell _ _ _ _ hne];exact h
theorem zAS.range {w:World} {g:Nat} {e:Q.Ev} (h:zAS w g e):w.rangeAt g 0 (zAe e).toList:=zCg h
theorem zAJ {ops:Array Oper} {rest:List Oper} {op:Oper} {a:Act} {w:World} {R:Exit→Act→World→Prop} (x y:Operand) (hgd:op.guard=none) (ho:op.op=.store 158 x y)
  (g:Nat) (e d:Q.Ev) (hx:a.eval x=.pointer (some ⟨g,0,none⟩)) (hy:a.eval y=.agg (zAe e)) (hg:zAS w g d)
  (h:∀ w',zAS w' g e→w.grownBy w' (some g)→wpList Tryz.prog ops R rest (a.put op.dst undef) w'):wpList Tryz.prog ops R (op::rest) a w :=
 zCA hgd _ x y ho g (zAe e) (zAe d) _ hx hy hg rfl (by kernel_rfl) (by simp[zAe,Value.oneCell']) h
theorem zCE (B g:Nat) (m:Q.Mach) (ev:Value) (kind:Int) (st:P.Stm) (w:World) (h:MachIn w B g m ev) (hk:kind=0∨kind=1∨kind=2∨kind=3∨kind=4) :
  Calls Tryz.prog 198 #[.pointer (some ⟨g,0,none⟩),.int .i64 kind,.agg (zAb st)] w fun e w'=>e=.returned (.agg (zAe (m.event kind st)))∧Below w.heap.size w w':=by
 have HV:Hid (m.event kind st=⟨kind,m.thread,m.block,st.var,0,st.order,st.scope,if kind==3||kind==4 then m.bars else 0,(kind==0||kind==1)&&(st.kind==2||st.kind==3),if kind==0||kind==1 then m.asked else 0⟩):=rfl
 obtain⟨k0,k1,hsz,hbw⟩:=zCd w #[.int .i64 st.kind,.int .i64 st.line,.int .i64 st.dest,.int .i64 st.var,.bool st.a.reg,.int .i64 st.a.n,.bool st.b.reg,.int .i64 st.b.n,.int .i64 st.order,.int .i64 st.scope,.int .i64 st.label] #[.int .i64 0,.int .i64 0,.int .i64 0,.int .i64 0,.int .i64 0,.int .i64 0,.int .i64 0,.int .i64 0,.bool false,.int .u64 0] 96 158
 have HM:=h.below hbw
 have hgw:=h.lt
 have BW0:=zAa hbw
 have HMH:=zAa HM
 clear h HM hbw
 simp only[zAb]
 go_enter Tryz.func198,Tryz.ntmps198
 go_upto_region 1 with fail
 generalize hE:(w.alloc (.cells #[.int .i64 st.kind,.int .i64 st.line,.int .i64 st.dest,.int .i64 st.var,.bool st.a.reg,.int .i64 st.a.n,.bool st.b.reg,.int .i64 st.b.n,.int .i64 st.order,.int .i64 st.scope,.int .i64 st.label] 96)).alloc (.cells #[.int .i64 0,.int .i64 0,.int .i64 0,.int .i64 0,.int .i64 0,.int .i64 0,.int .i64 0,.int .i64 0,.bool false,.int .u64 0] 158)=W0 at *
 have HST:zAw W0 w.heap.size st:=k0
 obtain⟨s0,s1,s2,s3,s4,s5,s6,s7,s8,s9,s10,s11,s12⟩:=HST.facts
 obtain⟨c0,c1,c2,c3,c4,c5,c6,c7,c8,c9,c10,c11,c12,c13,cf⟩:=HMH.out.facts
 have xl:w.heap.size+1<W0.heap.size:=(Array.getElem?_eq_some_iff.1 k1).1
 have hg:=HMH.out.lt
 have K1:Hid (zAS W0 (w.heap.size+1) Q.Ev.zero):=k1
 have hszl:w.heap.size+2≤W0.heap.size:=by omega
 clear c2 c3 c4 c5 c6 c7 c8 c9 c10 c13 k0 k1 HST hsz hE s3 s4 s6 s7 s8 s9 s12
 go_region_held3 (fun w'=>w'.cell? ⟨g,0,none⟩=some (.int .i64 m.thread)∧w'.cell? ⟨g,1,none⟩=some (.int .i64 m.block)∧w'.cell? ⟨w.heap.size,3,none⟩=some (.int .i64 st.var)∧w'.cell? ⟨w.heap.size,8,none⟩=some (.int .i64 st.order)∧w'.cell? ⟨w.heap.size,9,none⟩=some (.int .i64 st.scope)) (first | exact⟨c0,c1,s5,s10,s11⟩ | exact⟨(zAD hg).trans c0,(zAD hg).trans c1,(zAD s0).trans s5,(zAD s0).trans s10,(zAD s0).trans s11⟩) (first | fail)
 have E1:Hid (zAS ((W0.alloc (.cells #[.int .i64 kind,.int .i64 m.thread,.int .i64 m.block,.int .i64 st.var,.int .i64 0,.int .i64 st.order,.int .i64 st.scope,.int .i64 0,.bool false,.int .u64 0] 158)).drew) W0.heap.size ⟨kind,m.thread,m.block,st.var,0,st.order,st.scope,0,false,0⟩):=heap_alloc_new W0 _
 have BX:Below W0.heap.size W0 ((W0.alloc (.cells #[.int .i64 kind,.int .i64 m.thread,.int .i64 m.block,.int .i64 st.var,.int .i64 0,.int .i64 st.order,.int .i64 st.scope,.int .i64 0,.bool false,.int .u64 0] 158)).drew):=((Below.refl _ _).alloc (Nat.le_refl _) _).drew
 have K2:=zAa (K1.out.below BX)
 have B1:=zAa (zAr BW0.out (Nat.le_refl _) BX)
 have d11:=cfL BX hg c11
 have d12:=cfL BX hg c12
 have t2:=cfL BX s0 s2
 have hsw:=BX.size
 have hgW:=Nat.lt_of_lt_of_le hg hsw
 have hsW:=Nat.lt_of_lt_of_le s0 hsw
 clear BX c0 c1 c11 c12 s1 s2 s5 s10 s11 cf
 generalize hW1:(W0.alloc (.cells #[.int .i64 kind,.int .i64 m.thread,.int .i64 m.block,.int .i64 st.var,.int .i64 0,.int .i64 st.order,.int .i64 st.scope,.int .i64 0,.bool false,.int .u64 0] 158)).drew=W1 at *
 clear hW1
 generalize hb7:W0.heap.size=b7 at *
 obtain⟨q0,q1,q2,q3,q4,q5,q6,q7,q8,q9,qf,ql⟩:=E1.out.facts
 rcases hk with rfl | rfl | rfl | rfl | rfl
 ·cases z2:(st.kind==2)<;>cases z3:(st.kind==3)
  ·have EF:Hid (zAS ((W1.setCell ⟨b7,9,none⟩ (.int .u64 (m.asked:Nat))).setCell ⟨b7,8,none⟩ (.bool false)) b7 (m.event 0 st)):=by
    unfold Hid;rw[HV.out,z2,z3]
    exact (E1.out.set ⟨0,m.thread,m.block,st.var,0,st.order,st.scope,0,false,m.asked⟩ 9 _ rfl).set _ 8 _ rfl
   have KF:Hid (zAS ((W1.setCell ⟨b7,9,none⟩ (.int .u64 (m.asked:Nat))).setCell ⟨b7,8,none⟩ (.bool false)) (w.heap.size+1) Q.Ev.zero):=by unfold Hid;exact (K2.out.of2 (by omega)).of2 (by omega)
   have BF:Hid (Below w.heap.size w ((W1.setCell ⟨b7,9,none⟩ (.int .u64 (m.asked:Nat))).setCell ⟨b7,8,none⟩ (.bool false))):=(B1.out.setCell (p:=⟨b7,9,none⟩) (by simp;omega) _).setCell (p:=⟨b7,8,none⟩) (by simp;omega) _
   go_upto_region 10 with fail
   generalize hWF:(W1.setCell ⟨b7,9,none⟩ (.int .u64 (m.asked:Nat))).setCell ⟨b7,8,none⟩ (.bool false)=WF at *
   go_wp2_with (first | (refine zAg (.tmp 7) rfl rfl b7 0 _ rfl EF.out.range ?_) | (refine zAJ (.tmp 6) (.tmp 50) rfl rfl (w.heap.size+1) (m.event 0 st) Q.Ev.zero rfl rfl KF.out ?_;intro w9 hE9 hg9))
   refine zBi (p:=6) (w.heap.size+1) _ (by kernel_rfl) Tryz.underlying158 rfl (by kernel_rfl) rfl hE9 rfl ⟨rfl,BF.out.trans ⟨hg9.os,hg9.tape,hg9.output,hg9.size,fun k hk=>hg9.block k (by have:=BF.out.size;omega) (by simp;omega)⟩⟩
  ·have EF:Hid (zAS ((W1.setCell ⟨b7,9,none⟩ (.int .u64 (m.asked:Nat))).setCell ⟨b7,8,none⟩ (.bool true)) b7 (m.event 0 st)):=by
    unfold Hid;rw[HV.out,z2,z3]
    exact (E1.out.set ⟨0,m.thread,m.block,st.var,0,st.order,st.scope,0,false,m.asked⟩ 9 _ rfl).set _ 8 _ rfl
   have KF:Hid (zAS ((W1.setCell ⟨b7,9,none⟩ (.int .u64 (m.asked:Nat))).setCell ⟨b7,8,none⟩ (.bool true)) (w.heap.size+1) Q.Ev.zero):=by unfold Hid;exact (K2.out.of2 (by omega)).of2 (by omega)
   have BF:Hid (Below w.heap.size w ((W1.setCell ⟨b7,9,none⟩ (.int .u64 (m.asked:Nat))).setCell ⟨b7,8,none⟩ (.bool true))):=(B1.out.setCell (p:=⟨b7,9,none⟩) (by simp;omega) _).setCell (p:=⟨b7,8,none⟩) (by simp;omega) _
   go_upto_region 10 with fail
   generalize hWF:(W1.setCell ⟨b7,9,none⟩ (.int .u64 (m.asked:Nat))).setCell ⟨b7,8,none⟩ (.bool true)=WF at *
   go_wp2_with (first | (refine zAg (.tmp 7) rfl rfl b7 0 _ rfl EF.out.range ?_) | (refine zAJ (.tmp 6) (.tmp 50) rfl rfl (w.heap.size+1) (m.event 0 st) Q.Ev.zero rfl rfl KF.out ?_;intro w9 hE9 hg9))
   refine zBi (p:=6) (w.heap.size+1) _ (by kernel_rfl) Tryz.underlying158 rfl (by kernel_rfl) rfl hE9 rfl ⟨rfl,BF.out.trans ⟨hg9.os,hg9.tape,hg9.output,hg9.size,fun k hk=>hg9.block k (by have:=BF.out.size;omega) (by simp;omega)⟩⟩
  ·have EF:Hid (zAS ((W1.setCell ⟨b7,9,none⟩ (.int .u64 (m.asked:Nat))).setCell ⟨b7,8,none⟩ (.bool true)) b7 (m.event 0 st)):=by
    unfold Hid;rw[HV.out,z2,z3]
    exact (E1.out.set ⟨0,m.thread,m.block,st.var,0,st.order,st.scope,0,false,m.asked⟩ 9 _ rfl).set _ 8 _ rfl
   have KF:Hid (zAS ((W1.setCell ⟨b7,9,none⟩ (.int .u64 (m.asked:Nat))).setCell ⟨b7,8,none⟩ (.bool true)) (w.heap.size+1) Q.Ev.zero):=by unfold Hid;exact (K2.out.of2 (by omega)).of2 (by omega)
   have BF:Hid (Below w.heap.size w ((W1.setCell ⟨b7,9,none⟩ (.int .u64 (m.asked:Nat))).setCell ⟨b7,8,none⟩ (.bool true))):=(B1.out.setCell (p:=⟨b7,9,none⟩) (by simp;omega) _).setCell (p:=⟨b7,8,none⟩) (by simp;omega) _
   go_upto_region 10 with fail
   generalize hWF:(W1.setCell ⟨b7,9,none⟩ (.int .u64 (m.asked:Nat))).setCell ⟨b7,8,none⟩ (.bool true)=WF at *
   go_wp2_with (first | (refine zAg (.tmp 7) rfl rfl b7 0 _ rfl EF.out.range ?_) | (refine zAJ (.tmp 6) (.tmp 50) rfl rfl (w.heap.size+1) (m.event 0 st) Q.Ev.zero rfl rfl KF.out ?_;intro w9 hE9 hg9))
   refine zBi (p:=6) (w.heap.size+1) _ (by kernel_rfl) Tryz.underlying158 rfl (by kernel_rfl) rfl hE9 rfl ⟨rfl,BF.out.trans ⟨hg9.os,hg9.tape,hg9.output,hg9.size,fun k hk=>hg9.block k (by have:=BF.out.size;omega) (by simp;omega)⟩⟩
  ·have EF:Hid (zAS ((W1.setCell ⟨b7,9,none⟩ (.int .u64 (m.asked:Nat))).setCell ⟨b7,8,none⟩ (.bool true)) b7 (m.event 0 st)):=by
    unfold Hid;rw[HV.out,z2,z3]
    exact (E1.out.set ⟨0,m.thread,m.block,st.var,0,st.order,st.scope,0,false,m.asked⟩ 9 _ rfl).set _ 8 _ rfl
   have KF:Hid (zAS ((W1.setCell ⟨b7,9,none⟩ (.int .u64 (m.asked:Nat))).setCell ⟨b7,8,none⟩ (.bool true)) (w.heap.size+1) Q.Ev.zero):=by unfold Hid;exact (K2.out.of2 (by omega)).of2 (by omega)
   have BF:Hid (Below w.heap.size w ((W1.setCell ⟨b7,9,none⟩ (.int .u64 (m.asked:Nat))).setCell ⟨b7,8,none⟩ (.bool true))):=(B1.out.setCell (p:=⟨b7,9,none⟩) (by simp;omega) _).setCell (p:=⟨b7,8,none⟩) (by simp;omega) _
   go_upto_region 10 with fail
   generalize hWF:(W1.setCell ⟨b7,9,none⟩ (.int .u64 (m.asked:Nat))).setCell ⟨b7,8,none⟩ (.bool true)=WF at *
   go_wp2_with (first | (refine zAg (.tmp 7) rfl rfl b7 0 _ rfl EF.out.range ?_) | (refine zAJ (.tmp 6) (.tmp 50) rfl rfl (w.heap.size+1) (m.event 0 st) Q.Ev.zero rfl rfl KF.out ?_;intro w9 hE9 hg9))
   refine zBi (p:=6) (w.heap.size+1) _ (by kernel_rfl) Tryz.underlying158 rfl (by kernel_rfl) rfl hE9 rfl ⟨rfl,BF.out.trans ⟨hg9.os,hg9.tape,hg9.output,hg9.size,fun k hk=>hg9.block k (by have:=BF.out.size;omega) (by simp;omega)⟩⟩
 ·cases z2:(st.kind==2)<;>cases z3:(st.kind==3)
  ·have EF:Hid (zAS ((W1.setCell ⟨b7,9,none⟩ (.int .u64 (m.asked:Nat))).setCell ⟨b7,8,none⟩ (.bool false)) b7 (m.event 1 st)):=by
    unfold Hid;rw[HV.out,z2,z3]
    exact (E1.out.set ⟨1,m.thread,m.block,st.var,0,st.order,st.scope,0,false,m.asked⟩ 9 _ rfl).set _ 8 _ rfl
   have KF:Hid (zAS ((W1.setCell ⟨b7,9,none⟩ (.int .u64 (m.asked:Nat))).setCell ⟨b7,8,none⟩ (.bool false)) (w.heap.size+1) Q.Ev.zero):=by unfold Hid;exact (K2.out.of2 (by omega)).of2 (by omega)
   have BF:Hid (Below w.heap.size w ((W1.setCell ⟨b7,9,none⟩ (.int .u64 (m.asked:Nat))).setCell ⟨b7,8,none⟩ (.bool false))):=(B1.out.setCell (p:=⟨b7,9,none⟩) (by simp;omega) _).setCell (p:=⟨b7,8,none⟩) (by simp;omega) _
   go_upto_region 10 with fail
   generalize hWF:(W1.setCell ⟨b7,9,none⟩ (.int .u64 (m.asked:Nat))).setCell ⟨b7,8,none⟩ (.bool false)=WF at *
   go_wp2_with (first | (refine zAg (.tmp 7) rfl rfl b7 0 _ rfl EF.out.range ?_) | (refine zAJ (.tmp 6) (.tmp 50) rfl rfl (w.heap.size+1) (m.event 1 st) Q.Ev.zero rfl rfl KF.out ?_;intro w9 hE9 hg9))
   refine zBi (p:=6) (w.heap.size+1) _ (by kernel_rfl) Tryz.underlying158 rfl (by kernel_rfl) rfl hE9 rfl ⟨rfl,BF.out.trans ⟨hg9.os,hg9.tape,hg9.output,hg9.size,fun k hk=>hg9.block k (by have:=BF.out.size;omega) (by simp;omega)⟩⟩
  ·have EF:Hid (zAS ((W1.setCell ⟨b7,9,none⟩ (.int .u64 (m.asked:Nat))).setCell ⟨b7,8,none⟩ (.bool true)) b7 (m.event 1 st)):=by
    unfold Hid;rw[HV.out,z2,z3]
    exact (E1.out.set ⟨1,m.thread,m.block,st.var,0,st.order,st.scope,0,false,m.asked⟩ 9 _ rfl).set _ 8 _ rfl
   have KF:Hid (zAS ((W1.setCell ⟨b7,9,none⟩ (.int .u64 (m.asked:Nat))).setCell ⟨b7,8,none⟩ (.bool true)) (w.heap.size+1) Q.Ev.zero):=by unfold Hid;exact (K2.out.of2 (by omega)).of2 (by omega)
   have BF:Hid (Below w.heap.size w ((W1.setCell ⟨b7,9,none⟩ (.int .u64 (m.asked:Nat))).setCell ⟨b7,8,none⟩ (.bool true))):=(B1.out.setCell (p:=⟨b7,9,none⟩) (by simp;omega) _).setCell (p:=⟨b7,8,none⟩) (by simp;omega) _
   go_upto_region 10 with fail
   generalize hWF:(W1.setCell ⟨b7,9,none⟩ (.int .u64 (m.asked:Nat))).setCell ⟨b7,8,none⟩ (.bool true)=WF at *
   go_wp2_with (first | (refine zAg (.tmp 7) rfl rfl b7 0 _ rfl EF.out.range ?_) | (refine zAJ (.tmp 6) (.tmp 50) rfl rfl (w.heap.size+1) (m.event 1 st) Q.Ev.zero rfl rfl KF.out ?_;intro w9 hE9 hg9))
   refine zBi (p:=6) (w.heap.size+1) _ (by kernel_rfl) Tryz.underlying158 rfl (by kernel_rfl) rfl hE9 rfl ⟨rfl,BF.out.trans ⟨hg9.os,hg9.tape,hg9.output,hg9.size,fun k hk=>hg9.block k (by have:=BF.out.size;omega) (by simp;omega)⟩⟩
  ·have EF:Hid (zAS ((W1.setCell ⟨b7,9,none⟩ (.int .u64 (m.asked:Nat))).setCell ⟨b7,8,none⟩ (.bool true)) b7 (m.event 1 st)):=by
    unfold Hid;rw[HV.out,z2,z3]
    exact (E1.out.set ⟨1,m.thread,m.block,st.var,0,st.order,st.scope,0,false,m.asked⟩ 9 _ rfl).set _ 8 _ rfl
   have KF:Hid (zAS ((W1.setCell ⟨b7,9,none⟩ (.int .u64 (m.asked:Nat))).setCell ⟨b7,8,none⟩ (.bool true)) (w.heap.size+1) Q.Ev.zero):=by unfold Hid;exact (K2.out.of2 (by omega)).of2 (by omega)
   have BF:Hid (Below w.heap.size w ((W1.setCell ⟨b7,9,none⟩ (.int .u64 (m.asked:Nat))).setCell ⟨b7,8,none⟩ (.bool true))):=(B1.out.setCell (p:=⟨b7,9,none⟩) (by simp;omega) _).setCell (p:=⟨b7,8,none⟩) (by simp;omega) _
   go_upto_region 10 with fail
   generalize hWF:(W1.setCell ⟨b7,9,none⟩ (.int .u64 (m.asked:Nat))).setCell ⟨b7,8,none⟩ (.bool true)=WF at *
   go_wp2_with (first | (refine zAg (.tmp 7) rfl rfl b7 0 _ rfl EF.out.range ?_) | (refine zAJ (.tmp 6) (.tmp 50) rfl rfl (w.heap.size+1) (m.event 1 st) Q.Ev.zero rfl rfl KF.out ?_;intro w9 hE9 hg9))
   refine zBi (p:=6) (w.heap.size+1) _ (by kernel_rfl) Tryz.underlying158 rfl (by kernel_rfl) rfl hE9 rfl ⟨rfl,BF.out.trans ⟨hg9.os,hg9.tape,hg9.output,hg9.size,fun k hk=>hg9.block k (by have:=BF.out.size;omega) (by simp;omega)⟩⟩
  ·have EF:Hid (zAS ((W1.setCell ⟨b7,9,none⟩ (.int .u64 (m.asked:Nat))).setCell ⟨b7,8,none⟩ (.bool true)) b7 (m.event 1 st)):=by
    unfold Hid;rw[HV.out,z2,z3]
    exact (E1.out.set ⟨1,m.thread,m.block,st.var,0,st.order,st.scope,0,false,m.asked⟩ 9 _ rfl).set _ 8 _ rfl
   have KF:Hid (zAS ((W1.setCell ⟨b7,9,none⟩ (.int .u64 (m.asked:Nat))).setCell ⟨b7,8,none⟩ (.bool true)) (w.heap.size+1) Q.Ev.zero):=by unfold Hid;exact (K2.out.of2 (by omega)).of2 (by omega)
   have BF:Hid (Below w.heap.size w ((W1.setCell ⟨b7,9,none⟩ (.int .u64 (m.asked:Nat))).setCell ⟨b7,8,none⟩ (.bool true))):=(B1.out.setCell (p:=⟨b7,9,none⟩) (by simp;omega) _).setCell (p:=⟨b7,8,none⟩) (by simp;omega) _
   go_upto_region 10 with fail
   generalize hWF:(W1.setCell ⟨b7,9,none⟩ (.int .u64 (m.asked:Nat))).setCell ⟨b7,8,none⟩ (.bool true)=WF at *
   go_wp2_with (first | (refine zAg (.tmp 7) rfl rfl b7 0 _ rfl EF.out.range ?_) | (refine zAJ (.tmp 6) (.tmp 50) rfl rfl (w.heap.size+1) (m.event 1 st) Q.Ev.zero rfl rfl KF.out ?_;intro w9 hE9 hg9))
   refine zBi (p:=6) (w.heap.size+1) _ (by kernel_rfl) Tryz.underlying158 rfl (by kernel_rfl) rfl hE9 rfl ⟨rfl,BF.out.trans ⟨hg9.os,hg9.tape,hg9.output,hg9.size,fun k hk=>hg9.block k (by have:=BF.out.size;omega) (by simp;omega)⟩⟩
 ·have EF:Hid (zAS (W1) b7 (m.event 2 st)):=by
   unfold Hid;rw[HV.out]
   exact E1.out
  have KF:Hid (zAS (W1) (w.heap.size+1) Q.Ev.zero):=by unfold Hid;exact K2.out
  have BF:Hid (Below w.heap.size w (W1)):=B1.out
  go_upto_region 10 with fail
  skip
  go_wp2_with (first | (refine zAg (.tmp 7) rfl rfl b7 0 _ rfl EF.out.range ?_) | (refine zAJ (.tmp 6) (.tmp 50) rfl rfl (w.heap.size+1) (m.event 2 st) Q.Ev.zero rfl rfl KF.out ?_;intro w9 hE9 hg9))
  refine zBi (p:=6) (w.heap.size+1) _ (by kernel_rfl) Tryz.underlying158 rfl (by kernel_rfl) rfl hE9 rfl ⟨rfl,BF.out.trans ⟨hg9.os,hg9.tape,hg9.output,hg9.size,fun k hk=>hg9.block k (by have:=BF.out.size;omega) (by simp;omega)⟩⟩
 ·have EF:Hid (zAS (W1.setCell ⟨b7,7,none⟩ (.int .i64 (m.bars:Nat))) b7 (m.event 3 st)):=by
   unfold Hid;rw[HV.out]
   exact E1.out.set _ 7 _ rfl
  have KF:Hid (zAS (W1.setCell ⟨b7,7,none⟩ (.int .i64 (m.bars:Nat))) (w.heap.size+1) Q.Ev.zero):=by unfold Hid;exact K2.out.of2 (by omega)
  have BF:Hid (Below w.heap.size w (W1.setCell ⟨b7,7,none⟩ (.int .i64 (m.bars:Nat)))):=B1.out.setCell (p:=⟨b7,7,none⟩) (by simp;omega) _
  go_upto_region 10 with fail
  generalize hWF:W1.setCell ⟨b7,7,none⟩ (.int .i64 (m.bars:Nat))=WF at *
  go_wp2_with (first | (refine zAg (.tmp 7) rfl rfl b7 0 _ rfl EF.out.range ?_) | (refine zAJ (.tmp 6) (.tmp 50) rfl rfl (w.heap.size+1) (m.event 3 st) Q.Ev.zero rfl rfl KF.out ?_;intro w9 hE9 hg9))
  refine zBi (p:=6) (w.heap.size+1) _ (by kernel_rfl) Tryz.underlying158 rfl (by kernel_rfl) rfl hE9 rfl ⟨rfl,BF.out.trans ⟨hg9.os,hg9.tape,hg9.output,hg9.size,fun k hk=>hg9.block k (by have:=BF.out.size;omega) (by simp;omega)⟩⟩
 ·have EF:Hid (zAS (W1.setCell ⟨b7,7,none⟩ (.int .i64 (m.bars:Nat))) b7 (m.event 4 st)):=by
   unfold Hid;rw[HV.out]
   exact E1.out.set _ 7 _ rfl
  have KF:Hid (zAS (W1.setCell ⟨b7,7,none⟩ (.int .i64 (m.bars:Nat))) (w.heap.size+1) Q.Ev.zero):=by unfold Hid;exact K2.out.of2 (by omega)
  have BF:Hid (Below w.heap.size w (W1.setCell ⟨b7,7,none⟩ (.int .i64 (m.bars:Nat)))):=B1.out.setCell (p:=⟨b7,7,none⟩) (by simp;omega) _
  go_upto_region 10 with fail
  generalize hWF:W1.setCell ⟨b7,7,none⟩ (.int .i64 (m.bars:Nat))=WF at *
  go_wp2_with (first | (refine zAg (.tmp 7) rfl rfl b7 0 _ rfl EF.out.range ?_) | (refine zAJ (.tmp 6) (.tmp 50) rfl rfl (w.heap.size+1) (m.event 4 st) Q.Ev.zero rfl rfl KF.out ?_;intro w9 hE9 hg9))
  refine zBi (p:=6) (w.heap.size+1) _ (by kernel_rfl) Tryz.underlying158 rfl (by kernel_rfl) rfl hE9 rfl ⟨rfl,BF.out.trans ⟨hg9.os,hg9.tape,hg9.output,hg9.size,fun k hk=>hg9.block k (by have:=BF.out.size;omega) (by simp;omega)⟩⟩
theorem zDR {w:World} {B g:Nat} {m:Q.Mach} {ev:Value} (h:MachIn w B g m ev):some g≠ev.ownBlock:=fun e=>by
 rcases h.evs.2 with ⟨e1,_⟩ | ⟨g',cap,cur,e1,_,hh,_⟩
 ·rw[e1] at e;simp[Value.ownBlock] at e
 ·rw[e1] at e;simp[Value.ownBlock] at e
  subst e
  rw[h.box] at hh;simp at hh
theorem zIf {w W0 Wd w1:World} {B g gn cn:Nat} {m:Q.Mach} {ev:Value} {e:Q.Ev} (hm:MachIn w B g m ev) (hb0:Below w.heap.size w W0) (hd:Below W0.heap.size W0 Wd) (hs:w.heap.size<Wd.heap.size)
  (hown:w1.ownsRow B 158 10 (.slice (some ⟨gn,0,none⟩) (m.events.length+1) cn) (m.events.length+1) (zAO m.events++(zAe e).toList)) (hgrow:Wd.grownBy w1 ev.ownBlock) (hat:ev.ownBlock=some gn∨w.heap.size≤gn) :
  MachIn (w1.setCell ⟨g,13,none⟩ (.slice (some ⟨gn,0,none⟩) (m.events.length+1) cn)) B g (m.put e) (.slice (some ⟨gn,0,none⟩) (m.events.length+1) cn)∧MFrame w (w1.setCell ⟨g,13,none⟩ (.slice (some ⟨gn,0,none⟩) (m.events.length+1) cn)) g ev (.slice (some ⟨gn,0,none⟩) (m.events.length+1) cn):=by
 have hbd:Below w.heap.size w Wd:=zAr hb0 (Nat.le_refl _) hd
 have hg1:w1.heap[g]?=some (.cells (zCU m ev) 177 (0,0)):=(hgrow.block g (by have:=hm.lt;omega) (zDR hm)).trans ((hbd.block g hm.lt).trans hm.box)
 have hgn:gn≠g:=fun e1=>by
  rcases hown.2 with ⟨e2,_⟩ | ⟨g',cap,cur,e2,_,hh,_⟩
  ·simp at e2
  ·simp only[Value.slice.injEq,Option.some.injEq,Addr.mk.injEq] at e2
   rw[← e2.1.1,e1,hg1] at hh;simp at hh
 refine⟨⟨?_,?_,hm.ge,hm.lr,hm.lm⟩,?_⟩
 ·rw[zAf hg1];rfl
 ·have e1:(m.put e).events.length=m.events.length+1:=by simp[Q.Mach.put]
  have e2:zAO (m.put e).events=zAO m.events++(zAe e).toList:=by simp only[Q.Mach.put];rw[zCS,zEk]
  rw[e1,e2]
  refine zAd hown (fun k hk=>Below.heap_setCell _ _ _ _ ?_)
  simp[Value.ownBlock] at hk
  simp;omega
 ·refine⟨hgrow.os.trans hbd.os,hgrow.tape.trans hbd.tape,hgrow.output.trans hbd.output,by have:=hgrow.size;simp;omega,fun k hk hkg hke=>?_,?_⟩
  ·rw[Below.heap_setCell _ _ _ _ hkg,hgrow.block k (by omega) (fun h=>hke h.symm),hbd.block k hk]
  ·rcases hat with h | h
   ·exact Or.inl (by rw[h];rfl)
   ·exact Or.inr ⟨gn,rfl,h⟩
theorem zCW (B g:Nat) (m:Q.Mach) (ev:Value) (e:Q.Ev) (w:World) (h:MachIn w B g m ev) (hn:m.events.length<10000) (hB:B≤w.heap.size) :
  Calls Tryz.prog 199 #[.pointer (some ⟨g,0,none⟩),.agg (zAe e)] w fun x w'=>x=.returned (.int .i64 (m.events.length:Int))∧∃ ev',MachIn w' B g (m.put e) ev'∧MFrame w w' g ev ev':=by
 obtain⟨i0,hi,hz0,hz1,hz2⟩:=info_parts Tryz.infoEvM
 obtain⟨k0,hsz,hbw⟩:=zBC w (zAe e) 158
 have HM0:=zAa (h.below hbw)
 have H:=zAa h
 have BW0:=zAa hbw
 obtain⟨sa,sc,rfl,hsa⟩:=h.form
 clear h hbw hsa
 simp only[zAe] at *
 go_enter Tryz.func199,Tryz.ntmps199
 go_upto_region 1 with fail
 generalize hE:w.alloc (.cells #[.int .i64 e.kind,.int .i64 e.thread,.int .i64 e.block,.int .i64 e.var,.int .i64 e.value,.int .i64 e.order,.int .i64 e.scope,.int .i64 e.bars,.bool e.step,.int .u64 (e.hangs:Nat)] 158)=W0 at *
 have HE0:zAS W0 w.heap.size e:=k0
 obtain⟨x0,x1,x2,x3,x4,x5,x6,x7,x8,x9,xf,xl⟩:=HE0.facts
 obtain⟨c0,c1,c2,c3,c4,c5,c6,c7,c8,c9,c10,c11,c12,c13,cf⟩:=HM0.out.facts
 have hg:=HM0.out.lt
 have hszl:w.heap.size+1≤W0.heap.size:=by omega
 have hge:=HM0.out.ge
 have hne:=zDR HM0.out
 have HO:Hid ((W0.drew.alloc (.cells (zAe e) 158)).ownsRow B 158 10 (.slice sa m.events.length sc) m.events.length (zAO m.events)):=zAd HM0.out.evs (fun k hk=>Below.heap_alloc _ _ _ (HM0.out.evs.lt k hk).2)
 have HN:Hid (∀ j u,(zAe e).toList[j]?=some u→(W0.drew.alloc (.cells (zAe e) 158)).cell? ((⟨W0.heap.size,0,none⟩:Addr).add j)=some u) :=
  World.news_of_block (cs:=zAe e) (t:=158) (fr:=(0,0)) (heap_alloc_new W0.drew _)
 have HC:Hid ((W0.drew.alloc (.cells (zAe e) 158)).cell? ⟨g,13,none⟩=some (.slice sa m.events.length sc)):=(zAD (w:=W0.drew) hg).trans c13
 have HFZ:Hid ((W0.drew.alloc (.cells (zAe e) 158)).frozen? ⟨g,13,none⟩=false):=by
  unfold Hid;rw[World.frozen?_of_block (w:=W0.drew) (a:=⟨g,13,none⟩) (Below.heap_alloc _ _ _ hg)];exact cf 13
 clear c0 c1 c2 c3 c4 c5 c6 c7 c8 c9 c10 c11 c12 k0 hE HE0 hsz
 go_region_law (refine step_append_lies _ rfl (.tmp 9) (.tmp 11) 63 rfl B 158 i0 (.agg (zAe Q.Ev.zero)) 10 80 Tryz.underlying63 hi hz0 hz1 hz2 rfl (by decide) (.slice sa m.events.length sc) m.events.length (zAO m.events) (by simp[Act.eval]) (by exact HO.out) ⟨W0.heap.size,0,none⟩ 1 1 (zAe e).toList (by simp[Act.eval]) rfl (by exact HN.out) (by simp[zAe,Value.oneCell']) (by decide) (by unfold maxLen;omega) (by omega) (by simp;omega) (W0.heap.size+1) (by simp) ?_;intro gn cn w1 hown1 hgrow hat hlt1;have c1:=(hgrow.cell_far ⟨g,13,none⟩ (by simp;omega) hne).trans HC.out;have f1:=(hgrow.frozen_far ⟨g,13,none⟩ (by simp;omega) hne).trans HFZ.out;have hwl:W0.heap.size+1≤w1.heap.size:=by have:=hgrow.size;simp at this;omega)
 all_goals
  obtain⟨q1,q2⟩:=zIf (Wd:=W0.drew.alloc (.cells (zAe e) 158)) H.out BW0.out (((Below.refl _ _).drew).alloc (by simp) _) (by simp;omega) hown1 hgrow (by rcases hat with h | h;exact Or.inl h;exact Or.inr (by omega))
  have Q1:=zAa q1
  have Q2:=zAa q2
  have hgw1:g<w1.heap.size:=by omega
  have hns:((m.events.length+1:Nat):Int)-1=(m.events.length:Int):=by omega
  clear q1 q2 hown1 hgrow
  go_wp2
  go_ret
  exact⟨by first | rfl | (congr 2;omega),_,Q1.out,Q2.out⟩
end Go.Proofs.YtgceflcbckjjiaaGreatDoor
