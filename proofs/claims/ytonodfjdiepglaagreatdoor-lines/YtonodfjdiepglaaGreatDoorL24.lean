import Derived.Test.YtonodfjdiepglaaGreatDoorL19
import Derived.Test.YtonodfjdiepglaaGreatDoorL23
set_option linter.unusedVariables false
set_option linter.unusedSimpArgs false
set_option maxHeartbeats 12800000
namespace Go.Proofs.YtonodfjdiepglaaGreatDoor
open Go Go.RowKit Go.Proofs.Tryz P Q R
set_option maxRecDepth 1000000
variable {w w1:World} {B g:Nat} {e:Ev} {m:ED}
open Nat renaming le_refl→xF,lt_of_lt_of_le→xb
open Go.RowKit.Below renaming heap_setCell→xR,heap_alloc→xc
open Go.Value renaming ownBlock→xW,oneCell'→xa
theorem Tryz.infoEvM:(prog.info? 146).map (fun i=>(i.zero,i.size,i.bytes))=some (some (.agg (aI Ev.zero)),10,80):=by kernel_rfl
theorem zAP.set (a:Ev) (h:zAP w g e) (i:Nat) (u:Value) (b:(aI e).setIfInBounds i u=aI a):zAP (w.setCell ⟨g,i,none⟩ u) g a:=by
 unfold zAP at *;rw[bH h,b]
theorem zAP.gQ {b i:Nat} {u:Value} (h:zAP w g e) (a:g≠b):zAP (w.setCell ⟨b,i,none⟩ u) g e:=by
 unfold zAP at *;rw[xR _ _ _ _ a];exact h
theorem zAP.range (h:zAP w g e):w.rangeAt g 0 (aI e).toList:=DZ h
theorem lX {c:Array Oper} {rest:List Oper} {b:Oper} {a:Act} {R:Exit->Act->World->Prop} (x y:Operand) (f:b.guard=none) (j:b.op=.store 146 x y)
  (g:Nat) (e d:Ev) (k:a.eval x=.pointer (some ⟨g,0,none⟩)) (l:a.eval y=.agg (aI e)) (i:zAP w g d)
  (h:∀ w',zAP w' g e->w.grownBy w' (some g)->wpList prog c R rest (a.put b.dst undef) w'):wpList prog c R (b::rest) a w :=
 BQ f _ x y j g (aI e) (aI d) _ k l i rfl (by kernel_rfl) (by simp[aI,xa]) h
theorem tZ (B g:Nat) (m:ED) (ev:Value) (i:Int) (f:Stm) (w:World) (h:Em w B g m ev) (v:i=0\/i=1\/i=2\/i=3\/i=4) :
  Calls prog 140 #[.pointer (some ⟨g,0,none⟩),.int .i64 i,.agg (aQ f)] w fun e G=>e=.returned (.agg (aI (m.event i f)))/\Below w.heap.size w G:=by
 have y:Hid (m.event i f=⟨i,m.thread,m.block,f.var,0,f.order,f.scope,if i==3||i==4 then m.bars else 0,(i==0||i==1)&&(f.kind==2||f.kind==3),if i==0||i==1 then m.Ee else 0⟩):=rfl;obtain⟨k0,Y,X,D⟩:=iM w #[.int .i64 f.kind,.int .i64 f.line,.int .i64 f.dest,.int .i64 f.var,.bool f.a.reg,.int .i64 f.a.n,.bool f.b.reg,.int .i64 f.b.n,.int .i64 f.order,.int .i64 f.scope,.int .i64 f.label] #[.int .i64 0,.int .i64 0,.int .i64 0,.int .i64 0,.int .i64 0,.int .i64 0,.int .i64 0,.int .i64 0,.bool false,.int .u64 0] 109 146;have HM:=h.below D;have af:=h.lt;have O:=zAa D;have H:=zAa HM;clear h HM D;simp only[aQ];go_enter func140,ntmps140;go_upto_region 1 with fail
 generalize hE:(w.alloc (.cells #[.int .i64 f.kind,.int .i64 f.line,.int .i64 f.dest,.int .i64 f.var,.bool f.a.reg,.int .i64 f.a.n,.bool f.b.reg,.int .i64 f.b.n,.int .i64 f.order,.int .i64 f.scope,.int .i64 f.label] 109)).alloc (.cells #[.int .i64 0,.int .i64 0,.int .i64 0,.int .i64 0,.int .i64 0,.int .i64 0,.int .i64 0,.int .i64 0,.bool false,.int .u64 0] 146)=u at *;have I:bC u w.heap.size f:=k0;obtain⟨N,s1,s2,s3,s4,s5,s6,s7,s8,s9,E,F,Z⟩:=I.facts;obtain⟨S,T,c2,c3,c4,c5,c6,c7,c8,c9,U,J,K,V,cf⟩:=H.out.facts;have xl:w.heap.size+1<u.heap.size:=(Array.getElem?_eq_some_iff.1 Y).1;have L:=H.out.lt;have K1:Hid (zAP u (w.heap.size+1) Ev.zero):=Y;have aa:w.heap.size+2<=u.heap.size:=by omega
 clear c2 c3 c4 c5 c6 c7 c8 c9 U V k0 Y I X hE s3 s4 s6 s7 s8 s9 Z;go_region_held3 (fun G=>G.cell? ⟨g,0,none⟩=some (.int .i64 m.thread)/\G.cell? ⟨g,1,none⟩=some (.int .i64 m.block)/\G.cell? ⟨w.heap.size,3,none⟩=some (.int .i64 f.var)/\G.cell? ⟨w.heap.size,8,none⟩=some (.int .i64 f.order)/\G.cell? ⟨w.heap.size,9,none⟩=some (.int .i64 f.scope)) (first | exact⟨S,T,s5,E,F⟩ | exact⟨(aT L).trans S,(aT L).trans T,(aT N).trans s5,(aT N).trans E,(aT N).trans F⟩) (first | fail);have t:Hid (zAP ((u.alloc (.cells #[.int .i64 i,.int .i64 m.thread,.int .i64 m.block,.int .i64 f.var,.int .i64 0,.int .i64 f.order,.int .i64 f.scope,.int .i64 0,.bool false,.int .u64 0] 146)).drew) u.heap.size ⟨i,m.thread,m.block,f.var,0,f.order,f.scope,0,false,0⟩):=heap_alloc_new u _;have C:Below u.heap.size u ((u.alloc (.cells #[.int .i64 i,.int .i64 m.thread,.int .i64 m.block,.int .i64 f.var,.int .i64 0,.int .i64 f.order,.int .i64 f.scope,.int .i64 0,.bool false,.int .u64 0] 146)).drew):=((Below.refl _ _).alloc (xF _) _).drew;have z:=zAa (K1.out.below C);have x:=zAa (aK O.out (xF _) C);have ab:=aC C L J;have ac:=aC C L K;have t2:=aC C N s2;have M:=C.size;have ae:=xb L M;have ag:=xb N M;clear C S T J K s1 s2 s5 E F cf;generalize W:(u.alloc (.cells #[.int .i64 i,.int .i64 m.thread,.int .i64 m.block,.int .i64 f.var,.int .i64 0,.int .i64 f.order,.int .i64 f.scope,.int .i64 0,.bool false,.int .u64 0] 146)).drew=j at *;clear W;generalize ad:u.heap.size=d at *;obtain⟨q0,q1,q2,q3,q4,q5,q6,q7,q8,q9,qf,ql⟩:=t.out.facts
 rcases v with rfl | rfl | rfl | rfl | rfl
 ·cases z2:(f.kind==2)<;>cases z3:(f.kind==3)
  ·have q:Hid (zAP ((j.setCell ⟨d,9,none⟩ (.int .u64 (m.Ee:Nat))).setCell ⟨d,8,none⟩ (.bool false)) d (m.event 0 f)):=by
    unfold Hid;rw[y.out,z2,z3];exact (t.out.set ⟨0,m.thread,m.block,f.var,0,f.order,f.scope,0,false,m.Ee⟩ 9 _ rfl).set _ 8 _ rfl
   have r:Hid (zAP ((j.setCell ⟨d,9,none⟩ (.int .u64 (m.Ee:Nat))).setCell ⟨d,8,none⟩ (.bool false)) (w.heap.size+1) Ev.zero):=by unfold Hid;exact (z.out.gQ (by omega)).gQ (by omega)
   have o:Hid (Below w.heap.size w ((j.setCell ⟨d,9,none⟩ (.int .u64 (m.Ee:Nat))).setCell ⟨d,8,none⟩ (.bool false))):=(x.out.setCell (p:=⟨d,9,none⟩) (by simp;omega) _).setCell (p:=⟨d,8,none⟩) (by simp;omega) _;go_upto_region 10 with fail
   generalize s:(j.setCell ⟨d,9,none⟩ (.int .u64 (m.Ee:Nat))).setCell ⟨d,8,none⟩ (.bool false)=WF at *;go_wp2_with (first | (refine cQ (.tmp 7) rfl rfl d 0 _ rfl q.out.range ?_) | (refine lX (.tmp 6) (.tmp 50) rfl rfl (w.heap.size+1) (m.event 0 f) Ev.zero rfl rfl r.out ?_;intro A l c));refine gI (p:=6) (w.heap.size+1) _ (by kernel_rfl) underlying146 rfl (by kernel_rfl) rfl l rfl ⟨rfl,o.out.trans ⟨c.os,c.tape,c.output,c.size,fun k v=>c.block k (by have:=o.out.size;omega) (by simp;omega)⟩⟩
  ·have q:Hid (zAP ((j.setCell ⟨d,9,none⟩ (.int .u64 (m.Ee:Nat))).setCell ⟨d,8,none⟩ (.bool true)) d (m.event 0 f)):=by
    unfold Hid;rw[y.out,z2,z3];exact (t.out.set ⟨0,m.thread,m.block,f.var,0,f.order,f.scope,0,false,m.Ee⟩ 9 _ rfl).set _ 8 _ rfl
   have r:Hid (zAP ((j.setCell ⟨d,9,none⟩ (.int .u64 (m.Ee:Nat))).setCell ⟨d,8,none⟩ (.bool true)) (w.heap.size+1) Ev.zero):=by unfold Hid;exact (z.out.gQ (by omega)).gQ (by omega)
   have o:Hid (Below w.heap.size w ((j.setCell ⟨d,9,none⟩ (.int .u64 (m.Ee:Nat))).setCell ⟨d,8,none⟩ (.bool true))):=(x.out.setCell (p:=⟨d,9,none⟩) (by simp;omega) _).setCell (p:=⟨d,8,none⟩) (by simp;omega) _;go_upto_region 10 with fail
   generalize s:(j.setCell ⟨d,9,none⟩ (.int .u64 (m.Ee:Nat))).setCell ⟨d,8,none⟩ (.bool true)=WF at *;go_wp2_with (first | (refine cQ (.tmp 7) rfl rfl d 0 _ rfl q.out.range ?_) | (refine lX (.tmp 6) (.tmp 50) rfl rfl (w.heap.size+1) (m.event 0 f) Ev.zero rfl rfl r.out ?_;intro A l c));refine gI (p:=6) (w.heap.size+1) _ (by kernel_rfl) underlying146 rfl (by kernel_rfl) rfl l rfl ⟨rfl,o.out.trans ⟨c.os,c.tape,c.output,c.size,fun k v=>c.block k (by have:=o.out.size;omega) (by simp;omega)⟩⟩
  ·have q:Hid (zAP ((j.setCell ⟨d,9,none⟩ (.int .u64 (m.Ee:Nat))).setCell ⟨d,8,none⟩ (.bool true)) d (m.event 0 f)):=by
    unfold Hid;rw[y.out,z2,z3];exact (t.out.set ⟨0,m.thread,m.block,f.var,0,f.order,f.scope,0,false,m.Ee⟩ 9 _ rfl).set _ 8 _ rfl
   have r:Hid (zAP ((j.setCell ⟨d,9,none⟩ (.int .u64 (m.Ee:Nat))).setCell ⟨d,8,none⟩ (.bool true)) (w.heap.size+1) Ev.zero):=by unfold Hid;exact (z.out.gQ (by omega)).gQ (by omega)
   have o:Hid (Below w.heap.size w ((j.setCell ⟨d,9,none⟩ (.int .u64 (m.Ee:Nat))).setCell ⟨d,8,none⟩ (.bool true))):=(x.out.setCell (p:=⟨d,9,none⟩) (by simp;omega) _).setCell (p:=⟨d,8,none⟩) (by simp;omega) _;go_upto_region 10 with fail
   generalize s:(j.setCell ⟨d,9,none⟩ (.int .u64 (m.Ee:Nat))).setCell ⟨d,8,none⟩ (.bool true)=WF at *;go_wp2_with (first | (refine cQ (.tmp 7) rfl rfl d 0 _ rfl q.out.range ?_) | (refine lX (.tmp 6) (.tmp 50) rfl rfl (w.heap.size+1) (m.event 0 f) Ev.zero rfl rfl r.out ?_;intro A l c));refine gI (p:=6) (w.heap.size+1) _ (by kernel_rfl) underlying146 rfl (by kernel_rfl) rfl l rfl ⟨rfl,o.out.trans ⟨c.os,c.tape,c.output,c.size,fun k v=>c.block k (by have:=o.out.size;omega) (by simp;omega)⟩⟩
  ·have q:Hid (zAP ((j.setCell ⟨d,9,none⟩ (.int .u64 (m.Ee:Nat))).setCell ⟨d,8,none⟩ (.bool true)) d (m.event 0 f)):=by
    unfold Hid;rw[y.out,z2,z3];exact (t.out.set ⟨0,m.thread,m.block,f.var,0,f.order,f.scope,0,false,m.Ee⟩ 9 _ rfl).set _ 8 _ rfl
   have r:Hid (zAP ((j.setCell ⟨d,9,none⟩ (.int .u64 (m.Ee:Nat))).setCell ⟨d,8,none⟩ (.bool true)) (w.heap.size+1) Ev.zero):=by unfold Hid;exact (z.out.gQ (by omega)).gQ (by omega)
   have o:Hid (Below w.heap.size w ((j.setCell ⟨d,9,none⟩ (.int .u64 (m.Ee:Nat))).setCell ⟨d,8,none⟩ (.bool true))):=(x.out.setCell (p:=⟨d,9,none⟩) (by simp;omega) _).setCell (p:=⟨d,8,none⟩) (by simp;omega) _;go_upto_region 10 with fail
   generalize s:(j.setCell ⟨d,9,none⟩ (.int .u64 (m.Ee:Nat))).setCell ⟨d,8,none⟩ (.bool true)=WF at *;go_wp2_with (first | (refine cQ (.tmp 7) rfl rfl d 0 _ rfl q.out.range ?_) | (refine lX (.tmp 6) (.tmp 50) rfl rfl (w.heap.size+1) (m.event 0 f) Ev.zero rfl rfl r.out ?_;intro A l c));refine gI (p:=6) (w.heap.size+1) _ (by kernel_rfl) underlying146 rfl (by kernel_rfl) rfl l rfl ⟨rfl,o.out.trans ⟨c.os,c.tape,c.output,c.size,fun k v=>c.block k (by have:=o.out.size;omega) (by simp;omega)⟩⟩
 ·cases z2:(f.kind==2)<;>cases z3:(f.kind==3)
  ·have q:Hid (zAP ((j.setCell ⟨d,9,none⟩ (.int .u64 (m.Ee:Nat))).setCell ⟨d,8,none⟩ (.bool false)) d (m.event 1 f)):=by
    unfold Hid;rw[y.out,z2,z3];exact (t.out.set ⟨1,m.thread,m.block,f.var,0,f.order,f.scope,0,false,m.Ee⟩ 9 _ rfl).set _ 8 _ rfl
   have r:Hid (zAP ((j.setCell ⟨d,9,none⟩ (.int .u64 (m.Ee:Nat))).setCell ⟨d,8,none⟩ (.bool false)) (w.heap.size+1) Ev.zero):=by unfold Hid;exact (z.out.gQ (by omega)).gQ (by omega)
   have o:Hid (Below w.heap.size w ((j.setCell ⟨d,9,none⟩ (.int .u64 (m.Ee:Nat))).setCell ⟨d,8,none⟩ (.bool false))):=(x.out.setCell (p:=⟨d,9,none⟩) (by simp;omega) _).setCell (p:=⟨d,8,none⟩) (by simp;omega) _;go_upto_region 10 with fail
   generalize s:(j.setCell ⟨d,9,none⟩ (.int .u64 (m.Ee:Nat))).setCell ⟨d,8,none⟩ (.bool false)=WF at *;go_wp2_with (first | (refine cQ (.tmp 7) rfl rfl d 0 _ rfl q.out.range ?_) | (refine lX (.tmp 6) (.tmp 50) rfl rfl (w.heap.size+1) (m.event 1 f) Ev.zero rfl rfl r.out ?_;intro A l c));refine gI (p:=6) (w.heap.size+1) _ (by kernel_rfl) underlying146 rfl (by kernel_rfl) rfl l rfl ⟨rfl,o.out.trans ⟨c.os,c.tape,c.output,c.size,fun k v=>c.block k (by have:=o.out.size;omega) (by simp;omega)⟩⟩
  ·have q:Hid (zAP ((j.setCell ⟨d,9,none⟩ (.int .u64 (m.Ee:Nat))).setCell ⟨d,8,none⟩ (.bool true)) d (m.event 1 f)):=by
    unfold Hid;rw[y.out,z2,z3];exact (t.out.set ⟨1,m.thread,m.block,f.var,0,f.order,f.scope,0,false,m.Ee⟩ 9 _ rfl).set _ 8 _ rfl
   have r:Hid (zAP ((j.setCell ⟨d,9,none⟩ (.int .u64 (m.Ee:Nat))).setCell ⟨d,8,none⟩ (.bool true)) (w.heap.size+1) Ev.zero):=by unfold Hid;exact (z.out.gQ (by omega)).gQ (by omega)
   have o:Hid (Below w.heap.size w ((j.setCell ⟨d,9,none⟩ (.int .u64 (m.Ee:Nat))).setCell ⟨d,8,none⟩ (.bool true))):=(x.out.setCell (p:=⟨d,9,none⟩) (by simp;omega) _).setCell (p:=⟨d,8,none⟩) (by simp;omega) _;go_upto_region 10 with fail
   generalize s:(j.setCell ⟨d,9,none⟩ (.int .u64 (m.Ee:Nat))).setCell ⟨d,8,none⟩ (.bool true)=WF at *;go_wp2_with (first | (refine cQ (.tmp 7) rfl rfl d 0 _ rfl q.out.range ?_) | (refine lX (.tmp 6) (.tmp 50) rfl rfl (w.heap.size+1) (m.event 1 f) Ev.zero rfl rfl r.out ?_;intro A l c));refine gI (p:=6) (w.heap.size+1) _ (by kernel_rfl) underlying146 rfl (by kernel_rfl) rfl l rfl ⟨rfl,o.out.trans ⟨c.os,c.tape,c.output,c.size,fun k v=>c.block k (by have:=o.out.size;omega) (by simp;omega)⟩⟩
  ·have q:Hid (zAP ((j.setCell ⟨d,9,none⟩ (.int .u64 (m.Ee:Nat))).setCell ⟨d,8,none⟩ (.bool true)) d (m.event 1 f)):=by
    unfold Hid;rw[y.out,z2,z3];exact (t.out.set ⟨1,m.thread,m.block,f.var,0,f.order,f.scope,0,false,m.Ee⟩ 9 _ rfl).set _ 8 _ rfl
   have r:Hid (zAP ((j.setCell ⟨d,9,none⟩ (.int .u64 (m.Ee:Nat))).setCell ⟨d,8,none⟩ (.bool true)) (w.heap.size+1) Ev.zero):=by unfold Hid;exact (z.out.gQ (by omega)).gQ (by omega)
   have o:Hid (Below w.heap.size w ((j.setCell ⟨d,9,none⟩ (.int .u64 (m.Ee:Nat))).setCell ⟨d,8,none⟩ (.bool true))):=(x.out.setCell (p:=⟨d,9,none⟩) (by simp;omega) _).setCell (p:=⟨d,8,none⟩) (by simp;omega) _;go_upto_region 10 with fail
   generalize s:(j.setCell ⟨d,9,none⟩ (.int .u64 (m.Ee:Nat))).setCell ⟨d,8,none⟩ (.bool true)=WF at *;go_wp2_with (first | (refine cQ (.tmp 7) rfl rfl d 0 _ rfl q.out.range ?_) | (refine lX (.tmp 6) (.tmp 50) rfl rfl (w.heap.size+1) (m.event 1 f) Ev.zero rfl rfl r.out ?_;intro A l c));refine gI (p:=6) (w.heap.size+1) _ (by kernel_rfl) underlying146 rfl (by kernel_rfl) rfl l rfl ⟨rfl,o.out.trans ⟨c.os,c.tape,c.output,c.size,fun k v=>c.block k (by have:=o.out.size;omega) (by simp;omega)⟩⟩
  ·have q:Hid (zAP ((j.setCell ⟨d,9,none⟩ (.int .u64 (m.Ee:Nat))).setCell ⟨d,8,none⟩ (.bool true)) d (m.event 1 f)):=by
    unfold Hid;rw[y.out,z2,z3];exact (t.out.set ⟨1,m.thread,m.block,f.var,0,f.order,f.scope,0,false,m.Ee⟩ 9 _ rfl).set _ 8 _ rfl
   have r:Hid (zAP ((j.setCell ⟨d,9,none⟩ (.int .u64 (m.Ee:Nat))).setCell ⟨d,8,none⟩ (.bool true)) (w.heap.size+1) Ev.zero):=by unfold Hid;exact (z.out.gQ (by omega)).gQ (by omega)
   have o:Hid (Below w.heap.size w ((j.setCell ⟨d,9,none⟩ (.int .u64 (m.Ee:Nat))).setCell ⟨d,8,none⟩ (.bool true))):=(x.out.setCell (p:=⟨d,9,none⟩) (by simp;omega) _).setCell (p:=⟨d,8,none⟩) (by simp;omega) _;go_upto_region 10 with fail
   generalize s:(j.setCell ⟨d,9,none⟩ (.int .u64 (m.Ee:Nat))).setCell ⟨d,8,none⟩ (.bool true)=WF at *;go_wp2_with (first | (refine cQ (.tmp 7) rfl rfl d 0 _ rfl q.out.range ?_) | (refine lX (.tmp 6) (.tmp 50) rfl rfl (w.heap.size+1) (m.event 1 f) Ev.zero rfl rfl r.out ?_;intro A l c));refine gI (p:=6) (w.heap.size+1) _ (by kernel_rfl) underlying146 rfl (by kernel_rfl) rfl l rfl ⟨rfl,o.out.trans ⟨c.os,c.tape,c.output,c.size,fun k v=>c.block k (by have:=o.out.size;omega) (by simp;omega)⟩⟩
 ·have q:Hid (zAP (j) d (m.event 2 f)):=by
   unfold Hid;rw[y.out];exact t.out
  have r:Hid (zAP (j) (w.heap.size+1) Ev.zero):=by unfold Hid;exact z.out
  have o:Hid (Below w.heap.size w (j)):=x.out;go_upto_region 10 with fail
  skip
  go_wp2_with (first | (refine cQ (.tmp 7) rfl rfl d 0 _ rfl q.out.range ?_) | (refine lX (.tmp 6) (.tmp 50) rfl rfl (w.heap.size+1) (m.event 2 f) Ev.zero rfl rfl r.out ?_;intro A l c));refine gI (p:=6) (w.heap.size+1) _ (by kernel_rfl) underlying146 rfl (by kernel_rfl) rfl l rfl ⟨rfl,o.out.trans ⟨c.os,c.tape,c.output,c.size,fun k v=>c.block k (by have:=o.out.size;omega) (by simp;omega)⟩⟩
 ·have q:Hid (zAP (j.setCell ⟨d,7,none⟩ (.int .i64 (m.bars:Nat))) d (m.event 3 f)):=by
   unfold Hid;rw[y.out];exact t.out.set _ 7 _ rfl
  have r:Hid (zAP (j.setCell ⟨d,7,none⟩ (.int .i64 (m.bars:Nat))) (w.heap.size+1) Ev.zero):=by unfold Hid;exact z.out.gQ (by omega)
  have o:Hid (Below w.heap.size w (j.setCell ⟨d,7,none⟩ (.int .i64 (m.bars:Nat)))):=x.out.setCell (p:=⟨d,7,none⟩) (by simp;omega) _;go_upto_region 10 with fail
  generalize s:j.setCell ⟨d,7,none⟩ (.int .i64 (m.bars:Nat))=WF at *;go_wp2_with (first | (refine cQ (.tmp 7) rfl rfl d 0 _ rfl q.out.range ?_) | (refine lX (.tmp 6) (.tmp 50) rfl rfl (w.heap.size+1) (m.event 3 f) Ev.zero rfl rfl r.out ?_;intro A l c));refine gI (p:=6) (w.heap.size+1) _ (by kernel_rfl) underlying146 rfl (by kernel_rfl) rfl l rfl ⟨rfl,o.out.trans ⟨c.os,c.tape,c.output,c.size,fun k v=>c.block k (by have:=o.out.size;omega) (by simp;omega)⟩⟩
 ·have q:Hid (zAP (j.setCell ⟨d,7,none⟩ (.int .i64 (m.bars:Nat))) d (m.event 4 f)):=by
   unfold Hid;rw[y.out];exact t.out.set _ 7 _ rfl
  have r:Hid (zAP (j.setCell ⟨d,7,none⟩ (.int .i64 (m.bars:Nat))) (w.heap.size+1) Ev.zero):=by unfold Hid;exact z.out.gQ (by omega)
  have o:Hid (Below w.heap.size w (j.setCell ⟨d,7,none⟩ (.int .i64 (m.bars:Nat)))):=x.out.setCell (p:=⟨d,7,none⟩) (by simp;omega) _;go_upto_region 10 with fail
  generalize s:j.setCell ⟨d,7,none⟩ (.int .i64 (m.bars:Nat))=WF at *;go_wp2_with (first | (refine cQ (.tmp 7) rfl rfl d 0 _ rfl q.out.range ?_) | (refine lX (.tmp 6) (.tmp 50) rfl rfl (w.heap.size+1) (m.event 4 f) Ev.zero rfl rfl r.out ?_;intro A l c));refine gI (p:=6) (w.heap.size+1) _ (by kernel_rfl) underlying146 rfl (by kernel_rfl) rfl l rfl ⟨rfl,o.out.trans ⟨c.os,c.tape,c.output,c.size,fun k v=>c.block k (by have:=o.out.size;omega) (by simp;omega)⟩⟩
theorem zEx {ev:Value} (h:Em w B g m ev):some g≠ev.ownBlock:=fun e=>by
 rcases h.evs.2 with ⟨a,_⟩ | ⟨f,c,d,a,_,b,_⟩
 ·rw[a] at e;simp[xW] at e
 ·rw[a] at e;simp[xW] at e;subst e;rw[h.box] at b;simp at b
theorem zKq {n Wd:World} {c j:Nat} {ev:Value} (f:Em w B g m ev) (q:Below w.heap.size w n) (y:Below n.heap.size n Wd) (C:w.heap.size<Wd.heap.size)
  (d:w1.ownsRow B 146 10 (.slice (some ⟨c,0,none⟩) (m.Ea.length+1) j) (m.Ea.length+1) (zAG m.Ea++(aI e).toList)) (a:Wd.grownBy w1 ev.ownBlock) (p:ev.ownBlock=some c\/w.heap.size<=c) :
  Em (w1.setCell ⟨g,13,none⟩ (.slice (some ⟨c,0,none⟩) (m.Ea.length+1) j)) B g (m.put e) (.slice (some ⟨c,0,none⟩) (m.Ea.length+1) j)/\El w (w1.setCell ⟨g,13,none⟩ (.slice (some ⟨c,0,none⟩) (m.Ea.length+1) j)) g ev (.slice (some ⟨c,0,none⟩) (m.Ea.length+1) j):=by
 have b:Below w.heap.size w Wd:=aK q (xF _) y;have l:w1.heap[g]?=some (.cells (zDp m ev) 164 (0,0)):=(a.block g (by have:=f.lt;omega) (zEx f)).trans ((b.block g f.lt).trans f.box);have z:c≠g:=fun o=>by
  rcases d.2 with ⟨i,_⟩ | ⟨A,v,x,i,_,u,_⟩
  ·simp at i
  ·simp only[Value.slice.injEq,Option.some.injEq,Addr.mk.injEq] at i;rw[<- i.1.1,o,l] at u;simp at u
 refine⟨⟨?_,?_,f.ge,f.lr,f.lm⟩,?_⟩
 ·rw[bH l];rfl
 ·have o:(m.put e).Ea.length=m.Ea.length+1:=by simp[ED.put]
  have i:zAG (m.put e).Ea=zAG m.Ea++(aI e).toList:=by simp only[ED.put];rw[zDk,zEO]
  rw[o,i];refine aX d (fun k r=>xR _ _ _ _ ?_);simp[xW] at r;simp;omega
 ·refine⟨a.os.trans b.os,a.tape.trans b.tape,a.output.trans b.output,by have:=a.size;simp;omega,fun k r t s=>?_,?_⟩
  ·rw[xR _ _ _ _ t,a.block k (by omega) (fun h=>s h.symm),b.block k r]
  ·rcases p with h | h
   ·exact Or.inl (by rw[h];rfl)
   ·exact Or.inr ⟨c,rfl,h⟩
theorem wE (B g:Nat) (m:ED) (ev:Value) (e:Ev) (w:World) (h:Em w B g m ev) (hn:m.Ea.length<10000) (hB:B<=w.heap.size) :
  Calls prog 141 #[.pointer (some ⟨g,0,none⟩),.agg (aI e)] w fun x T=>x=.returned (.int .i64 (m.Ea.length:Int))/\∃ ev',Em T B g (m.put e) ev'/\El w T g ev ev':=by
 obtain⟨i0,hi,C,D,E⟩:=info_parts Tryz.infoEvM;obtain⟨N,A,i⟩:=jE w (aI e) 146;have d:=zAa (h.below i);have H:=zAa h;have o:=zAa i;obtain⟨F,G,rfl,z⟩:=h.form;clear h i z;simp only[aI] at *;go_enter func141,ntmps141;go_upto_region 1 with fail
 generalize hE:w.alloc (.cells #[.int .i64 e.kind,.int .i64 e.thread,.int .i64 e.block,.int .i64 e.var,.int .i64 e.value,.int .i64 e.order,.int .i64 e.scope,.int .i64 e.bars,.bool e.step,.int .u64 (e.Ef:Nat)] 146)=c at *;have l:zAP c w.heap.size e:=N;obtain⟨x0,x1,x2,x3,x4,x5,x6,x7,x8,x9,xf,xl⟩:=l.facts;obtain⟨Z,I,c2,c3,c4,c5,c6,c7,c8,c9,q,r,s,v,cf⟩:=d.out.facts;have J:=d.out.lt;have M:w.heap.size+1<=c.heap.size:=by omega
 have aa:=d.out.ge;have n:=zEx d.out;have W:Hid ((c.drew.alloc (.cells (aI e) 146)).ownsRow B 146 10 (.slice F m.Ea.length G) m.Ea.length (zAG m.Ea)):=aX d.out.evs (fun k hk=>xc _ _ _ (d.out.evs.lt k hk).2);have V:Hid (∀ j u,(aI e).toList[j]?=some u->(c.drew.alloc (.cells (aI e) 146)).cell? ((⟨c.heap.size,0,none⟩:Addr).add j)=some u) :=
  World.news_of_block (cs:=aI e) (t:=146) (fr:=(0,0)) (heap_alloc_new c.drew _)
 have U:Hid ((c.drew.alloc (.cells (aI e) 146)).cell? ⟨g,13,none⟩=some (.slice F m.Ea.length G)):=(aT (w:=c.drew) J).trans v;have p:Hid ((c.drew.alloc (.cells (aI e) 146)).frozen? ⟨g,13,none⟩=false):=by
  unfold Hid;rw[World.frozen?_of_block (w:=c.drew) (a:=⟨g,13,none⟩) (xc _ _ _ J)];exact cf 13
 clear Z I c2 c3 c4 c5 c6 c7 c8 c9 q r s N hE l A;go_region_law (refine step_append_lies _ rfl (.tmp 9) (.tmp 11) 67 rfl B 146 i0 (.agg (aI Ev.zero)) 10 80 underlying67 hi C D E rfl (by decide) (.slice F m.Ea.length G) m.Ea.length (zAG m.Ea) (by simp[Act.eval]) (by exact W.out) ⟨c.heap.size,0,none⟩ 1 1 (aI e).toList (by simp[Act.eval]) rfl (by exact V.out) (by simp[aI,xa]) (by decide) (by unfold maxLen;omega) (by omega) (by simp;omega) (c.heap.size+1) (by simp) ?_;intro gn cn w1 f b y L;have I:=(b.cell_far ⟨g,13,none⟩ (by simp;omega) n).trans U.out;have f1:=(b.frozen_far ⟨g,13,none⟩ (by simp;omega) n).trans p.out;have ac:c.heap.size+1<=w1.heap.size:=by have:=b.size;simp at this;omega)
 all_goals
  obtain⟨O,S⟩:=zKq (Wd:=c.drew.alloc (.cells (aI e) 146)) H.out o.out (((Below.refl _ _).drew).alloc (by simp) _) (by simp;omega) f b (by rcases y with h | h;exact Or.inl h;exact Or.inr (by omega));have X:=zAa O;have Y:=zAa S;have K:g<w1.heap.size:=by omega
  have ab:((m.Ea.length+1:Nat):Int)-1=(m.Ea.length:Int):=by omega
  clear O S f b;go_wp2;go_ret;exact⟨by first | rfl | (congr 2;omega),_,X.out,Y.out⟩
def jV (B g:Nat) (w w':World) (ev:Value) (m:ED):Prop:=∃ ev',Em w' B g m ev'/\El w w' g ev ev'
theorem jV.next {c:World} {ev a:Value} (h:El w w1 g ev a) (k:jV B g w1 c a m):jV B g w c ev m:=by
 obtain⟨b,d,f⟩:=k;exact⟨b,d,h.trans f⟩
theorem zFW (B g:Nat) (m:ED) (ev:Value) (c:Stm) (w:World) (h:Em w B g m ev) (hn:m.Ea.length<10000) (hB:B<=w.heap.size) (hu:m.unread<1000000000) :
  Calls prog 136 #[.pointer (some ⟨g,0,none⟩),.agg (aQ c)] w fun x w'=>x=.returned (.int .i64 (m.Ea.length:Int))/\jV B g w w' ev (m.aU c):=by
 have aa:=h.lt;have H:=zAa h;obtain⟨V,N,i⟩:=jE w (aQ c) 109;have y:=zAa (h.below i);have n:bC _ _ c:=V;have S:=zAa n;have l:=zAa i;have X:Hid (m.aU c={ m with unread:=m.unread / 4 }.put { m.event 0 c with value:=(m.unread % 4:Nat) }):=rfl;clear h i n V N;simp only[aQ] at *;go_enter func136,ntmps136;go_upto_region 2 with (first | (go_at_call 140;refine (tZ B g m ev 0 c _ y.out (Or.inl rfl)).mono ?_;rintro e w1 ⟨rfl,a⟩;generalize q:m.event 0 c=f at *;simp only[aI]))
 have v:Hid (zAP (w1.alloc (.cells (aI f) 146)) w1.heap.size f):=zAP.bT w1 f;have u:Below w.heap.size w (w1.alloc (.cells (aI f) 146)):=(aK l.out (xF _) a).alloc (by have:=a.size;simp at this;omega) _;have d:=zAa (H.out.below u);have t:=zAa u;have L:w1.heap.size<(w1.alloc (.cells (aI f) 146)).heap.size:=by simp
 have r:w.heap.size<=w1.heap.size:=(aK l.out (xF _) a).size;clear u a;simp only[aI] at v d t L;generalize hb:w1.heap.size=b at *;generalize G:w1.alloc _=j at *;obtain⟨c0,c1,c2,c3,c4,c5,c6,c7,c8,c9,A,C,D,E,cf⟩:=d.out.facts;have hg:=d.out.lt;obtain⟨x0,x1,x2,x3,x4,x5,x6,x7,x8,x9,xf,xl⟩:=v.out.facts;clear c0 c1 c3 c4 c5 c6 c7 c8 c9 A C D E x0 x1 x2 x3 x5 x6 x7 x8 x9 G;go_upto_region 4 with fail
 have J:b≠g:=by omega
 have W:Hid (zAP ((j.setCell ⟨b,4,none⟩ (.int .i64 ((m.unread:Int) % 4))).setCell ⟨g,2,none⟩ (.int .i64 ((m.unread:Int) / 4))) b { f with value:=(m.unread % 4:Nat) }):=zAP.gQ (v.out.set _ 4 _ rfl) J;have z:Hid (Em ((j.setCell ⟨b,4,none⟩ (.int .i64 ((m.unread:Int) % 4))).setCell ⟨g,2,none⟩ (.int .i64 ((m.unread:Int) / 4))) B g { m with unread:=m.unread / 4 } ev):=by
  have s:Em (j.setCell ⟨b,4,none⟩ (.int .i64 ((m.unread:Int) % 4))) B g m ev:=H.out.below (t.out.setCell (p:=⟨b,4,none⟩) r _);refine s.set ?_ (fun k hk=>xR _ _ _ _ hk) rfl s.lr s.lm;rw[bH s.box];rfl
 have O:Hid (El w ((j.setCell ⟨b,4,none⟩ (.int .i64 ((m.unread:Int) % 4))).setCell ⟨g,2,none⟩ (.int .i64 ((m.unread:Int) / 4))) g ev ev):=(El.of (t.out.setCell (p:=⟨b,4,none⟩) r _) g ev).trans (El.set ev [(2,.int .i64 ((m.unread:Int) / 4))]);have U:w.heap.size<=((j.setCell ⟨b,4,none⟩ (.int .i64 ((m.unread:Int) % 4))).setCell ⟨g,2,none⟩ (.int .i64 ((m.unread:Int) / 4))).heap.size:=O.out.size;generalize I:(j.setCell ⟨b,4,none⟩ (.int .i64 ((m.unread:Int) % 4))).setCell ⟨g,2,none⟩ (.int .i64 ((m.unread:Int) / 4))=W2 at *;generalize o:({ f with value:=(m.unread % 4:Nat) }:Ev)=T at *;have Y:=zAa o;have Z:=zAa q;clear o q I c2 cf x4 xf xl;go_wp2_with (first | (refine cQ (.tmp 5) rfl rfl b 0 T rfl W.out.range ?_) | (go_at_call 141;refine (wE B g _ ev T _ z.out hn (by omega)).mono ?_;rintro e w3 ⟨rfl,F,M,K⟩));go_ret;refine⟨rfl,F,?_,O.out.trans K⟩;rw[X.out];exact M
theorem DV (B g:Nat) (m:ED) (ev:Value) (d:Stm) (v:Int) (s:Nat) (w:World) (h:Em w B g m ev) (X:m.Ea.length<10000) (hB:B<=w.heap.size) (U:m.Ee<M64) (Z:s<M64) :
  Calls prog 156 #[.pointer (some ⟨g,0,none⟩),.agg (aQ d),.int .i64 v,.int .u64 (s:Nat)] w fun x w'=>x=.returned (.tuple #[])/\jV B g w w' ev (m.bX d v s):=by
 have W:=h.lt;have H:=zAa h;obtain⟨k0,I,f⟩:=jE w (aQ d) 109;have t:=zAa (h.below f);have i:=zAa f;have O:Hid (m.bX d v s=m.put { m.event 1 d with value:=v,Ef:=m.Ee ||| s }):=rfl;have Y:=bits_or_u64_nat m.Ee s U Z;have r:Hid ((m.event 1 d).Ef=m.Ee):=rfl;clear h f k0 I;simp only[aQ] at *;go_enter func156,ntmps156;go_upto_region 2 with (first | (go_at_call 140;refine (tZ B g m ev 1 d _ t.out (Or.inr (Or.inl rfl))).mono ?_;rintro e w1 ⟨rfl,a⟩;generalize k:m.event 1 d=c at *;simp only[aI]))
 have q:Hid (zAP (w1.alloc (.cells (aI c) 146)) w1.heap.size c):=zAP.bT w1 c;have o:Below w.heap.size w (w1.alloc (.cells (aI c) 146)):=(aK i.out (xF _) a).alloc (by have:=a.size;simp at this;omega) _;have u:=zAa (H.out.below o);have J:=zAa o;have F:w1.heap.size<(w1.alloc (.cells (aI c) 146)).heap.size:=by simp
 have l:w.heap.size<=w1.heap.size:=(aK i.out (xF _) a).size;clear o a;simp only[aI] at q u J F;generalize hb:w1.heap.size=b at *;generalize C:w1.alloc _=z at *;obtain⟨x0,x1,x2,x3,x4,x5,x6,x7,x8,M,xf,xl⟩:=q.out.facts;rw[r.out] at M;clear x0 x1 x2 x3 x5 x6 x7 x8 C;go_upto_region 4 with fail
 have V:b≠g:=by omega
 have N:Hid (zAP ((z.setCell ⟨b,4,none⟩ (.int .i64 v)).setCell ⟨b,9,none⟩ (.int .u64 ((m.Ee ||| s:Nat):Int))) b { c with value:=v,Ef:=m.Ee ||| s }):=(q.out.set { c with value:=v } 4 _ rfl).set _ 9 _ rfl;have n:Hid (Below w.heap.size w ((z.setCell ⟨b,4,none⟩ (.int .i64 v)).setCell ⟨b,9,none⟩ (.int .u64 ((m.Ee ||| s:Nat):Int)))):=(J.out.setCell (p:=⟨b,4,none⟩) l _).setCell (p:=⟨b,9,none⟩) l _;have y:=zAa (H.out.below n.out);generalize D:(z.setCell ⟨b,4,none⟩ (.int .i64 v)).setCell ⟨b,9,none⟩ (.int .u64 ((m.Ee ||| s:Nat):Int))=W2 at *;generalize j:({ c with value:=v,Ef:=m.Ee ||| s }:Ev)=K at *;have S:=zAa j;have T:=zAa k;have L:=n.out.size;clear j k D x4 M xf xl;go_wp2_with (first | (refine cQ (.tmp 8) rfl rfl b 0 K rfl N.out.range ?_) | (go_at_call 141;refine (wE B g _ ev K _ y.out X (by omega)).mono ?_;rintro e w3 ⟨rfl,A,G,E⟩));go_end0;refine⟨rfl,A,?_,(El.of n.out g ev).trans E⟩;rw[O.out];exact G
theorem lS (b:∀ x∈m.made,x<M64) (a:Opd):m.Ed a<M64:=by
 unfold ED.Ed
 split
 ·split
  ·decide
  ·by_cases h:a.n.toNat<m.made.length
   ·rw[lV _ _ h];exact b _ (List.getElem_mem h)
   ·rw[nJ _ _ (by omega)];decide
 ·decide
theorem zIn (B g:Nat) (m:ED) (ev:Value) (c:Stm) (w:World) (h:Em w B g m ev) (V:m.Ea.length<10000) (hB:B<=w.heap.size) (T:m.Ee<M64) (U:∀ x∈m.made,x<M64) :
  Calls prog 138 #[.pointer (some ⟨g,0,none⟩),.agg (aQ c)] w fun x Y=>x=.returned (.tuple #[])/\jV B g w Y ev (m.store c):=by
 have H:=zAa h;obtain⟨N,L,i⟩:=jE w (aQ c) 109;have o:=zAa (h.below i);have F:=zAa i;have r:Hid (bC _ _ c):=N;have O:Hid (m.store c=m.bX c (m.value ⟨c.a.reg,c.a.n⟩) (m.Ed ⟨c.a.reg,c.a.n⟩)):=rfl;have K:=lS U ⟨c.a.reg,c.a.n⟩;have M:=i.size;clear h i N L;simp only[aQ] at *;go_enter func138,ntmps138;go_upto_region 1 with fail
 generalize S:w.alloc (.cells #[.int .i64 c.kind,.int .i64 c.line,.int .i64 c.dest,.int .i64 c.var,.bool c.a.reg,.int .i64 c.a.n,.bool c.b.reg,.int .i64 c.b.n,.int .i64 c.order,.int .i64 c.scope,.int .i64 c.label] 109)=Z at *;obtain⟨s,t,u,v,y,z,A,C,D,E,j,k,l⟩:=r.out.facts;clear S;go_wp2_with (first
  | (go_at_call 156;refine (DV B g m ev c _ _ _ G.out V (by omega) T K).mono ?_;rintro e w3 ⟨rfl,J⟩)
  | (go_at_call 120;refine (lZ B g m ev c.a.reg c.a.n _ p.out).mono ?_;rintro e w2 ⟨rfl,f⟩;have G:=zAa (p.out.below f);have X:=f.size;have I:=zAa (q.out.below f);clear s t u v y z A C D E j k l;obtain⟨s,t,u,v,y,z,A,C,D,E,j,k,l⟩:=I.out.facts)
  | (go_at_call 121;refine (tG B g m ev c.a.reg c.a.n _ o.out).mono ?_;rintro e w1 ⟨rfl,d⟩;have p:=zAa (o.out.below d);have W:=d.size;have q:=zAa (r.out.below d);clear s t u v y z A C D E j k l;obtain⟨s,t,u,v,y,z,A,C,D,E,j,k,l⟩:=q.out.facts))
 go_end0;refine⟨rfl,jV.next (El.of (aK (aK F.out (xF _) d) (xF _) f) g ev) ?_⟩;rw[O.out];exact J
theorem zFX (B g:Nat) (m:ED) (ev:Value) (c:Stm) (w:World) (h:Em w B g m ev) (hn:m.Ea.length+1<10000) (hB:B<=w.heap.size) (an:m.bars<10000) :
  Calls prog 142 #[.pointer (some ⟨g,0,none⟩),.agg (aQ c)] w fun x w'=>x=.returned (.tuple #[])/\jV B g w w' ev (m.dC c):=by
 have ap:=h.lt;have H:=zAa h;obtain⟨k0,ad,l⟩:=jE w (aQ c) 109;have C:=zAa (h.below l);have T:=zAa l;have F:Hid (bC _ _ c):=k0;have HE:Hid (m.dC c={ (m.put (m.event 3 c)).put (m.event 4 c) with bars:=m.bars+1 }):=by
  unfold Hid ED.dC ED.put;simp
 have aj:=l.size;clear h l k0 ad;simp only[aQ] at *;go_enter func142,ntmps142;go_upto_region 1 with fail
 generalize hE:w.alloc (.cells #[.int .i64 c.kind,.int .i64 c.line,.int .i64 c.dest,.int .i64 c.var,.bool c.a.reg,.int .i64 c.a.n,.bool c.b.reg,.int .i64 c.b.n,.int .i64 c.order,.int .i64 c.scope,.int .i64 c.label] 109)=W0 at *;obtain⟨s0,s1,s2,s3,s4,s5,s6,s7,s8,s9,t,u,v⟩:=F.out.facts;clear hE;go_upto_region 2 with (first | (go_at_call 140;refine (tZ B g m ev 3 c _ C.out (by omega)).mono ?_;rintro e w1 ⟨rfl,i⟩;generalize J:m.event 3 c=z at *;simp only[aI]))
 have U:Hid (zAP (w1.alloc (.cells (aI z) 146)) w1.heap.size z):=zAP.bT w1 z;have d:Below W0.heap.size W0 (w1.alloc (.cells (aI z) 146)):=i.alloc i.size _;have r:=zAa (C.out.below d);have E:=zAa (F.out.below d);have O:=zAa (aK T.out (xF _) d);have ar:w.heap.size<=w1.heap.size:=by have:=i.size;omega
 clear d i s0 s1 s2 s3 s4 s5 s6 s7 s8 s9 t u v;simp only[aI] at U r O E;generalize hb:w1.heap.size=b at *;generalize ab:w1.alloc _=W at *;clear ab;obtain⟨s0,s1,s2,s3,s4,s5,s6,s7,s8,s9,t,u,v⟩:=E.out.facts;go_upto_region 3 with (first | (go_at_call 140;refine (tZ B g m ev 4 c _ r.out (by omega)).mono ?_;rintro e y ⟨rfl,j⟩;generalize q:m.event 4 c=s at *;simp only[aI]))
 have E2:Hid (zAP (y.alloc (.cells (aI s) 146)) y.heap.size s):=zAP.bT y s;have d:Below W.heap.size W (y.alloc (.cells (aI s) 146)):=j.alloc j.size _;have D:=zAa (r.out.below d);have A:=zAa (U.out.below d);have S:=zAa (aK O.out (xF _) d);have ag:=U.out.lt;have ah:W.heap.size<=y.heap.size:=j.size;have ak:=O.out.size;clear d j s0 s1 s2 s3 s4 s5 s6 s7 s8 s9 t u v;simp only[aI] at E2 D S A;generalize am:y.heap.size=N at *;generalize ac:y.alloc _=W2 at *;clear ac;have M:∀ k,ev.ownBlock=some k->k<w.heap.size:=fun k hk=>(H.out.evs.lt k hk).2
 have ai:=S.out.size;have al:=zAa J;have ae:=zAa q;clear J q;go_upto_region 4 with (first | (refine cQ (.tmp 4) rfl rfl b 0 z rfl A.out.range ?_) | (go_at_call 141;refine (wE B g m ev z _ D.out (by omega) (by omega)).mono ?_;rintro e w3 ⟨rfl,aa,L,o⟩))
 have E3:Hid (zAP w3 N s):=by
  have h1:=E2.out;have h2:=h1.lt;unfold Hid zAP at *;rw[o.block N h2 (by omega) (fun e=>by have:=M N e;omega)];exact h1
 have V:=zAa L;have F3:=zAa ((El.of S.out g ev).trans o);have aq:=o.size;clear L o;go_upto_region 5 with (first | (refine cQ (.tmp 5) rfl rfl N 0 s rfl E3.out.range ?_) | (go_at_call 141;refine (wE B g _ aa s _ V.out (by simp[ED.put];omega) (by omega)).mono ?_;rintro e w4 ⟨rfl,I,p,K⟩))
 have ao:=p.lt;obtain⟨c0,c1,c2,c3,c4,c5,c6,c7,c8,c9,X,Y,G,Z,cf⟩:=p.facts;have f:=zAa p;have F4:=zAa (F3.out.trans K);have af:w4.cell? ⟨g,12,none⟩=some (.int .i64 (m.bars:Nat)):=G;clear c0 c1 c2 c3 c4 c5 c6 c7 c8 c9 X Y G Z p K;go_wp2;go_end0;refine⟨rfl,I,?_,F4.out.trans (El.set I [(12,.int .i64 ((m.bars:Int)+1))])⟩;rw[HE.out];refine f.out.set ?_ (fun k hk=>xR _ _ _ _ hk) rfl f.out.lr f.out.lm;rw[bH f.out.box];rfl
end Go.Proofs.YtonodfjdiepglaaGreatDoor
