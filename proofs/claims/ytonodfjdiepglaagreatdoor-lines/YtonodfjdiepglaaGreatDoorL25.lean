import Derived.Test.YtonodfjdiepglaaGreatDoorL20
set_option linter.unusedVariables false
set_option linter.unusedSimpArgs false
set_option maxHeartbeats 12800000
namespace Go.Proofs.YtonodfjdiepglaaGreatDoor
open Go Go.RowKit Go.Proofs.Tryz P Q R
set_option maxRecDepth 1000000
variable {w w' wx wy:World} {B b1 b2 fb g:Nat} {a:FA} {f:EE} {l:List Nat} {e1 e2:Ev}
open Nat renaming le_trans→xF
open Go.Value renaming agg→xR,ownBlock→xW
structure Ei (w:World) (fb:Nat) (a:FA) (f:EE):Prop where
 box:w.heap[fb]?=some (.cells (zAn a) 75 (0,0))
 fin:Ej w a f
 dis:[a.g1,a.g2,a.g3,a.g4,a.g5,a.g6,a.g7,a.g8,a.g9].Nodup
theorem Ei.below (h:Ei w fb a f) (b:Below w.heap.size w w'):Ei w' fb a f :=
 ⟨(b.block fb (Array.getElem?_eq_some_iff.1 h.box).1).trans h.box,h.fin.below b,h.dis⟩
theorem AZ {c:Array Value} {t:TypeId} (h:zAo w g l) (k:w.heap[fb]?=some (.cells c t (0,0))) (b:t≠144):fb≠g:=fun e=>by
 unfold zAo at h;rw[<- e,k] at h;simp at h;exact b h.2
theorem zAV.grown {v:Value} {es:List Ev} (h:zAV w v es) (d:zAo w g l) (m:w.grownBy w' (some g)):zAV w' v es:=by
 refine aX h (fun k e=>m.block k (h.lt k e).2 ?_);intro c;simp at c;subst c
 rcases h.2 with ⟨e1,_⟩ | ⟨n,i,j,e1,_,b,_⟩
 ·rw[e1] at e;simp[xW] at e
 ·rw[e1] at e;simp[xW] at e;subst e;unfold zAo at d;rw[d] at b;simp at b
theorem Eh.grown {h n:Nat} (b:Eh w g n l) (c:g≠h) (d:w.grownBy w' (some h)):Eh w' g n l :=
 ⟨b.at_.aA (d.block g b.lt (by simpa using c)),b.len,b.fits⟩
theorem nZ (b:w.grownBy w' (some g)) (c:B<=w.heap.size) (h:B<=g):Below B w w':=⟨b.os,b.tape,b.output,b.size,fun i d=>b.block i (by omega) (by simp;omega)⟩
theorem Ei.lK (h:Ei w fb a f) (d:zAo w g l) (c:w.grownBy w' (some g)):w'.heap[fb]?=some (.cells (zAn a) 75 (0,0))/\zAV w' a.ev f.Ea/\∀ {b:Nat} {i:List Nat},Eh w b a.n i->b≠g->Eh w' b a.n i :=
 ⟨(c.block fb (Array.getElem?_eq_some_iff.1 h.box).1 (by have:=AZ d h.box (by decide);simpa using this)).trans h.box,h.fin.ev.grown d c,fun r e=>r.grown e c⟩
theorem Ei.rel {j:Nat} (h:Ei w fb a f) (r:Eh w g a.n l) (b:(zAn a)[j]?=some (.slice (some ⟨g,0,none⟩) a.n a.n)):kT w fb j g a.n l :=
 ⟨by simp only[World.cell?,h.box];simpa using b,r.at_,r.len,(Array.getElem?_eq_some_iff.1 h.box).1,AZ r.at_ h.box (by decide)⟩
theorem Ei.qF (h:Ei w fb a f) (i k:Int) (m:zAo w' a.g1 (bJ f.ahead i k)) (j:w.grownBy w' (some a.g1)):Ei w' fb a { f with ahead:=bJ f.ahead i k }:=by
 have c:=h.dis;obtain⟨_,n,o,d,p,q,r,s,t,u,x,y⟩:=h.fin;obtain⟨b,v,R⟩:=h.lK d.at_ j;refine⟨b,⟨v,n,o,?_,?_,?_,?_,?_,?_,?_,?_,?_⟩,c⟩<;>first | exact R ‹_› (by intro e;rw[e] at c;simp at c) | exact⟨m,by rw[jX];exact d.len,lG d.fits _ _⟩
theorem Ei.BT (h:Ei w fb a f):kT w fb 1 a.g1 a.n f.ahead:=h.rel h.fin.r1 rfl
theorem Ei.pW (h:Ei w fb a f) (i k:Int) (m:zAo w' a.g2 (bJ f.strong i k)) (j:w.grownBy w' (some a.g2)):Ei w' fb a { f with strong:=bJ f.strong i k }:=by
 have c:=h.dis;obtain⟨_,n,o,p,d,q,r,s,t,u,x,y⟩:=h.fin;obtain⟨b,v,R⟩:=h.lK d.at_ j;refine⟨b,⟨v,n,o,?_,?_,?_,?_,?_,?_,?_,?_,?_⟩,c⟩<;>first | exact R ‹_› (by intro e;rw[e] at c;simp at c) | exact⟨m,by rw[jX];exact d.len,lG d.fits _ _⟩
theorem Ei.CZ (h:Ei w fb a f):kT w fb 2 a.g2 a.n f.strong:=h.rel h.fin.r2 rfl
theorem Ei.rA (h:Ei w fb a f) (i k:Int) (m:zAo w' a.g3 (bJ f.gathers i k)) (j:w.grownBy w' (some a.g3)):Ei w' fb a { f with gathers:=bJ f.gathers i k }:=by
 have c:=h.dis;obtain⟨_,n,o,p,q,d,r,s,t,u,x,y⟩:=h.fin;obtain⟨b,v,R⟩:=h.lK d.at_ j;refine⟨b,⟨v,n,o,?_,?_,?_,?_,?_,?_,?_,?_,?_⟩,c⟩<;>first | exact R ‹_› (by intro e;rw[e] at c;simp at c) | exact⟨m,by rw[jX];exact d.len,lG d.fits _ _⟩
theorem Ei.CY (h:Ei w fb a f):kT w fb 3 a.g3 a.n f.gathers:=h.rel h.fin.r3 rfl
theorem Ei.pO (h:Ei w fb a f) (i k:Int) (m:zAo w' a.g4 (bJ f.fences i k)) (j:w.grownBy w' (some a.g4)):Ei w' fb a { f with fences:=bJ f.fences i k }:=by
 have c:=h.dis;obtain⟨_,n,o,p,q,r,d,s,t,u,x,y⟩:=h.fin;obtain⟨b,v,R⟩:=h.lK d.at_ j;refine⟨b,⟨v,n,o,?_,?_,?_,?_,?_,?_,?_,?_,?_⟩,c⟩<;>first | exact R ‹_› (by intro e;rw[e] at c;simp at c) | exact⟨m,by rw[jX];exact d.len,lG d.fits _ _⟩
theorem Ei.zP (h:Ei w fb a f):kT w fb 4 a.g4 a.n f.fences:=h.rel h.fin.r4 rfl
theorem Ei.pL (h:Ei w fb a f) (i k:Int) (m:zAo w' a.g5 (bJ f.rows i k)) (j:w.grownBy w' (some a.g5)):Ei w' fb a { f with rows:=bJ f.rows i k }:=by
 have c:=h.dis;obtain⟨_,n,o,p,q,r,s,d,t,u,x,y⟩:=h.fin;obtain⟨b,v,R⟩:=h.lK d.at_ j;refine⟨b,⟨v,n,o,?_,?_,?_,?_,?_,?_,?_,?_,?_⟩,c⟩<;>first | exact R ‹_› (by intro e;rw[e] at c;simp at c) | exact⟨m,by rw[jX];exact d.len,lG d.fits _ _⟩
theorem Ei.DD (h:Ei w fb a f):kT w fb 5 a.g5 a.n f.rows:=h.rel h.fin.r5 rfl
theorem Ei.qY (h:Ei w fb a f) (i k:Int) (m:zAo w' a.g6 (bJ f.Ef i k)) (j:w.grownBy w' (some a.g6)):Ei w' fb a { f with Ef:=bJ f.Ef i k }:=by
 have c:=h.dis;obtain⟨_,n,o,p,q,r,s,t,d,u,x,y⟩:=h.fin;obtain⟨b,v,R⟩:=h.lK d.at_ j;refine⟨b,⟨v,n,o,?_,?_,?_,?_,?_,?_,?_,?_,?_⟩,c⟩<;>first | exact R ‹_› (by intro e;rw[e] at c;simp at c) | exact⟨m,by rw[jX];exact d.len,lG d.fits _ _⟩
theorem Ei.BS (h:Ei w fb a f):kT w fb 6 a.g6 a.n f.Ef:=h.rel h.fin.r6 rfl
theorem Ei.qU (h:Ei w fb a f) (i k:Int) (m:zAo w' a.g7 (bJ f.halves i k)) (j:w.grownBy w' (some a.g7)):Ei w' fb a { f with halves:=bJ f.halves i k }:=by
 have c:=h.dis;obtain⟨_,n,o,p,q,r,s,t,u,d,x,y⟩:=h.fin;obtain⟨b,v,R⟩:=h.lK d.at_ j;refine⟨b,⟨v,n,o,?_,?_,?_,?_,?_,?_,?_,?_,?_⟩,c⟩<;>first | exact R ‹_› (by intro e;rw[e] at c;simp at c) | exact⟨m,by rw[jX];exact d.len,lG d.fits _ _⟩
theorem Ei.DU (h:Ei w fb a f):kT w fb 7 a.g7 a.n f.halves:=h.rel h.fin.r7 rfl
theorem Ei.qO (h:Ei w fb a f) (i k:Int) (m:zAo w' a.g8 (bJ f.sends i k)) (j:w.grownBy w' (some a.g8)):Ei w' fb a { f with sends:=bJ f.sends i k }:=by
 have c:=h.dis;obtain⟨_,n,o,p,q,r,s,t,u,x,d,y⟩:=h.fin;obtain⟨b,v,R⟩:=h.lK d.at_ j;refine⟨b,⟨v,n,o,?_,?_,?_,?_,?_,?_,?_,?_,?_⟩,c⟩<;>first | exact R ‹_› (by intro e;rw[e] at c;simp at c) | exact⟨m,by rw[jX];exact d.len,lG d.fits _ _⟩
theorem Ei.FC (h:Ei w fb a f):kT w fb 8 a.g8 a.n f.sends:=h.rel h.fin.r8 rfl
theorem Ei.qG (h:Ei w fb a f) (i k:Int) (m:zAo w' a.g9 (bJ f.takes i k)) (j:w.grownBy w' (some a.g9)):Ei w' fb a { f with takes:=bJ f.takes i k }:=by
 have c:=h.dis;obtain⟨_,n,o,p,q,r,s,t,u,x,y,d⟩:=h.fin;obtain⟨b,v,R⟩:=h.lK d.at_ j;refine⟨b,⟨v,n,o,?_,?_,?_,?_,?_,?_,?_,?_,?_⟩,c⟩<;>first | exact R ‹_› (by intro e;rw[e] at c;simp at c) | exact⟨m,by rw[jX];exact d.len,lG d.fits _ _⟩
theorem Ei.CB (h:Ei w fb a f):kT w fb 9 a.g9 a.n f.takes:=h.rel h.fin.r9 rfl
structure PS (B:Nat) (w wx:World) (fb:Nat) (a:FA) (f:EE) (b1 b2:Nat) (e1 e2:Ev):Prop where
 mem:Ei wx fb a f
 bel:Below B w wx
 v1:zAP wx b1 e1
 v2:zAP wx b2 e2
 evs:∀ g e,zAP w g e->zAP wx g e
theorem PS.below (h:PS B w wx fb a f b1 b2 e1 e2) (b:Below wx.heap.size wx wy) (c:B<=w.heap.size):PS B w wy fb a f b1 b2 e1 e2 :=
 ⟨h.mem.below b,h.bel.trans (b.mono (xF c h.bel.size)),h.v1.below b,h.v2.below b,fun g e d=>(h.evs g e d).below b⟩
theorem PS.qF (h:PS B w wx fb a f b1 b2 e1 e2) (d:B<=w.heap.size) (c:B<=a.g1) (i k:Int) (m:zAo wy a.g1 (bJ f.ahead i k)) (b:wx.grownBy wy (some a.g1)):PS B w wy fb a { f with ahead:=bJ f.ahead i k } b1 b2 e1 e2 :=
 ⟨h.mem.qF i k m b,h.bel.trans (nZ b (xF d h.bel.size) c),h.v1.grown h.mem.fin.r1.at_ b,h.v2.grown h.mem.fin.r1.at_ b,fun g e j=>(h.evs g e j).grown h.mem.fin.r1.at_ b⟩
theorem PS.pW (h:PS B w wx fb a f b1 b2 e1 e2) (d:B<=w.heap.size) (c:B<=a.g2) (i k:Int) (m:zAo wy a.g2 (bJ f.strong i k)) (b:wx.grownBy wy (some a.g2)):PS B w wy fb a { f with strong:=bJ f.strong i k } b1 b2 e1 e2 :=
 ⟨h.mem.pW i k m b,h.bel.trans (nZ b (xF d h.bel.size) c),h.v1.grown h.mem.fin.r2.at_ b,h.v2.grown h.mem.fin.r2.at_ b,fun g e j=>(h.evs g e j).grown h.mem.fin.r2.at_ b⟩
theorem PS.rA (h:PS B w wx fb a f b1 b2 e1 e2) (d:B<=w.heap.size) (c:B<=a.g3) (i k:Int) (m:zAo wy a.g3 (bJ f.gathers i k)) (b:wx.grownBy wy (some a.g3)):PS B w wy fb a { f with gathers:=bJ f.gathers i k } b1 b2 e1 e2 :=
 ⟨h.mem.rA i k m b,h.bel.trans (nZ b (xF d h.bel.size) c),h.v1.grown h.mem.fin.r3.at_ b,h.v2.grown h.mem.fin.r3.at_ b,fun g e j=>(h.evs g e j).grown h.mem.fin.r3.at_ b⟩
theorem PS.pO (h:PS B w wx fb a f b1 b2 e1 e2) (d:B<=w.heap.size) (c:B<=a.g4) (i k:Int) (m:zAo wy a.g4 (bJ f.fences i k)) (b:wx.grownBy wy (some a.g4)):PS B w wy fb a { f with fences:=bJ f.fences i k } b1 b2 e1 e2 :=
 ⟨h.mem.pO i k m b,h.bel.trans (nZ b (xF d h.bel.size) c),h.v1.grown h.mem.fin.r4.at_ b,h.v2.grown h.mem.fin.r4.at_ b,fun g e j=>(h.evs g e j).grown h.mem.fin.r4.at_ b⟩
theorem PS.pL (h:PS B w wx fb a f b1 b2 e1 e2) (d:B<=w.heap.size) (c:B<=a.g5) (i k:Int) (m:zAo wy a.g5 (bJ f.rows i k)) (b:wx.grownBy wy (some a.g5)):PS B w wy fb a { f with rows:=bJ f.rows i k } b1 b2 e1 e2 :=
 ⟨h.mem.pL i k m b,h.bel.trans (nZ b (xF d h.bel.size) c),h.v1.grown h.mem.fin.r5.at_ b,h.v2.grown h.mem.fin.r5.at_ b,fun g e j=>(h.evs g e j).grown h.mem.fin.r5.at_ b⟩
theorem PS.qY (h:PS B w wx fb a f b1 b2 e1 e2) (d:B<=w.heap.size) (c:B<=a.g6) (i k:Int) (m:zAo wy a.g6 (bJ f.Ef i k)) (b:wx.grownBy wy (some a.g6)):PS B w wy fb a { f with Ef:=bJ f.Ef i k } b1 b2 e1 e2 :=
 ⟨h.mem.qY i k m b,h.bel.trans (nZ b (xF d h.bel.size) c),h.v1.grown h.mem.fin.r6.at_ b,h.v2.grown h.mem.fin.r6.at_ b,fun g e j=>(h.evs g e j).grown h.mem.fin.r6.at_ b⟩
theorem PS.qU (h:PS B w wx fb a f b1 b2 e1 e2) (d:B<=w.heap.size) (c:B<=a.g7) (i k:Int) (m:zAo wy a.g7 (bJ f.halves i k)) (b:wx.grownBy wy (some a.g7)):PS B w wy fb a { f with halves:=bJ f.halves i k } b1 b2 e1 e2 :=
 ⟨h.mem.qU i k m b,h.bel.trans (nZ b (xF d h.bel.size) c),h.v1.grown h.mem.fin.r7.at_ b,h.v2.grown h.mem.fin.r7.at_ b,fun g e j=>(h.evs g e j).grown h.mem.fin.r7.at_ b⟩
theorem PS.qO (h:PS B w wx fb a f b1 b2 e1 e2) (d:B<=w.heap.size) (c:B<=a.g8) (i k:Int) (m:zAo wy a.g8 (bJ f.sends i k)) (b:wx.grownBy wy (some a.g8)):PS B w wy fb a { f with sends:=bJ f.sends i k } b1 b2 e1 e2 :=
 ⟨h.mem.qO i k m b,h.bel.trans (nZ b (xF d h.bel.size) c),h.v1.grown h.mem.fin.r8.at_ b,h.v2.grown h.mem.fin.r8.at_ b,fun g e j=>(h.evs g e j).grown h.mem.fin.r8.at_ b⟩
theorem PS.qG (h:PS B w wx fb a f b1 b2 e1 e2) (d:B<=w.heap.size) (c:B<=a.g9) (i k:Int) (m:zAo wy a.g9 (bJ f.takes i k)) (b:wx.grownBy wy (some a.g9)):PS B w wy fb a { f with takes:=bJ f.takes i k } b1 b2 e1 e2 :=
 ⟨h.mem.qG i k m b,h.bel.trans (nZ b (xF d h.bel.size) c),h.v1.grown h.mem.fin.r9.at_ b,h.v2.grown h.mem.fin.r9.at_ b,fun g e j=>(h.evs g e j).grown h.mem.fin.r9.at_ b⟩
theorem zKw (i k:Nat):((k:Int)==(i:Int)-1)=(k+1==i):=by
 by_cases h:k+1=i
 ·have b:(k:Int)=(i:Int)-1:=by omega
  rw[beq_iff_eq.2 b,beq_iff_eq.2 h]
 ·have b:¬ ((k:Int)=(i:Int)-1):=by omega
  rw[beq_eq_false_iff_ne.2 b,beq_eq_false_iff_ne.2 h]
theorem zLF (i k:Nat):((i:Int) != (k:Int))=(i != k):=by
 have:=AV i k;unfold bne at *;rw[this];simp
theorem zKK (i k:Nat):((i:Int)==(k:Int))=(i==k):=by
 have:=AV i k;rw[this];unfold bne;simp
theorem zKx (B fb:Nat) (a:FA) (f:EE) (i k:Nat) (e1 e2:Ev) (w:World) (hm:Ei w fb a f) (hB:B<=w.heap.size) (af:∀ g∈[a.g1,a.g2,a.g3,a.g4,a.g5,a.g6,a.g7,a.g8,a.g9],B<=g) (hh:e1.Ef<M64) (hi:i<1000) (hk:k<1000) :
  Calls prog 107 #[.pointer (some ⟨fb,0,none⟩),.int .i64 (i:Int),.agg (aI e1),.int .i64 (k:Int),.agg (aI e2)] w fun e w'=>e=.returned (.tuple #[])/\Ei w' fb a (f.gG i e1 k e2)/\Below B w w'/\∀ g e,zAP w g e->zAP w' g e:=by
 obtain⟨x,c,ah,hx⟩:=hm.fin.form;obtain⟨n,ev,p,q,r,t,u,v,y,z,A⟩:=a;simp only at ah af;subst ah;simp only[List.mem_cons,List.mem_nil_iff,or_false,forall_eq_or_imp,forall_eq] at af;obtain⟨ai,aj,ak,al,am,an,ao,ap,aq⟩:=af;obtain⟨k0,k1,az,ae⟩:=iM w (aI e1) (aI e2) 146 146;have ab:fb<w.heap.size:=(Array.getElem?_eq_some_iff.1 hm.box).1;have P0:Hid (PS B w _ fb (FA.mk n (.slice x n c) p q r t u v y z A) f w.heap.size (w.heap.size+1) e1 e2):=⟨hm.below ae,ae.mono hB,k0,k1,fun g e he=>he.below ae⟩;clear hm ae k0 k1 az hx;simp only[aI] at *;go_enter func107,ntmps107;go_upto_region 1 with fail
 generalize hE:(w.alloc (.cells #[.int .i64 e1.kind,.int .i64 e1.thread,.int .i64 e1.block,.int .i64 e1.var,.int .i64 e1.value,.int .i64 e1.order,.int .i64 e1.scope,.int .i64 e1.bars,.bool e1.step,.int .u64 (e1.Ef:Nat)] 146)).alloc (.cells #[.int .i64 e2.kind,.int .i64 e2.thread,.int .i64 e2.block,.int .i64 e2.var,.int .i64 e2.value,.int .i64 e2.order,.int .i64 e2.scope,.int .i64 e2.bars,.bool e2.step,.int .u64 (e2.Ef:Nat)] 146)=W0 at *;clear hE;obtain⟨x0,G,H,I,J,K,L,M,N,O,xf,S⟩:=P0.out.v1.facts;obtain⟨T,U,V,W,X,Y,Z,y7,y8,y9,yf,yl⟩:=P0.out.v2.facts;go_cut [10] from 11 to 15 (fun s wx=>∃ ba,s=.bool ba/\Hid (ba=zMl i e1 k e2)/\Hid (PS B w wx fb (FA.mk n (.slice x n c) p q r t u v y z A) f w.heap.size (w.heap.size+1) e1 e2))
 case first =>
  go_wp2_with (first | (go_at_call 124;refine (zGs (i:Int) (k:Int) e1 e2 _).mono ?_;rintro e v1 ⟨rfl,aa⟩;have P1:=zAa (P0.out.below aa hB);clear x0 G H I J K L M N O xf S T U V W X Y Z y7 y8 y9 yf yl;obtain⟨x0,G,H,I,J,K,L,M,N,O,xf,S⟩:=P1.out.v1.facts;obtain⟨T,U,V,W,X,Y,Z,y7,y8,y9,yf,yl⟩:=P1.out.v2.facts));go_meet
  case rel=>exact⟨_,rfl,rfl,P1⟩
 case rest =>
 obtain⟨ba,rfl,ad,b⟩:=hcut;clear x0 G H I J K L M N O xf S T U V W X Y Z y7 y8 y9 yf yl P0;clear ab;go_upto_if 16 with fail
 go_cut [] from 17 to 22 (fun wx=>Hid (PS B w wx fb (FA.mk n (.slice x n c) p q r t u v y z A) ({ f with ahead:=aJ (zMl i e1 k e2) f.ahead i k }:EE) w.heap.size (w.heap.size+1) e1 e2))
 case first =>
  have m:=b.out.mem.box;have ab:=(Array.getElem?_eq_some_iff.1 m).1;clear m;have j:=ad;cases ba
  ·have C:=j.out.symm;have o:Hid (PS B w wc fb (FA.mk n (.slice x n c) p q r t u v y z A) ({ f with ahead:=aJ (zMl i e1 k e2) f.ahead i k }:EE) w.heap.size (w.heap.size+1) e1 e2):=by unfold Hid;simpa [aJ,C] using b.out
   go_wp2;go_meet
   case rel=>exact o
  ·have C:=j.out.symm;go_wp2_with (first | (go_at_call 75;refine (jH fb 1 p n _ (i:Int) (k:Int) _ b.out.mem.BT b.out.mem.fin.r1.fits).mono ?_;rintro e v9 ⟨rfl,F,E⟩;have P9:=zAa (b.out.qF hB ai i k F E)));have o:Hid (PS B w v9 fb (FA.mk n (.slice x n c) p q r t u v y z A) ({ f with ahead:=aJ (zMl i e1 k e2) f.ahead i k }:EE) w.heap.size (w.heap.size+1) e1 e2):=by unfold Hid;simpa [aJ,C] using P9.out
   go_meet
   case rel=>exact o
 case rest =>
 have d:=hcut;clear b hcut;have b:=d;clear d;go_upto_region 4 with fail
 go_cut [38] from 23 to 37 (fun s wx=>∃ D,s=.bool D/\Hid (D=isRow i e1 k e2)/\Hid (PS B w wx fb (FA.mk n (.slice x n c) p q r t u v y z A) ({ f with ahead:=aJ (zMl i e1 k e2) f.ahead i k }:EE) w.heap.size (w.heap.size+1) e1 e2))
 case first =>
  have HQ:=b;obtain⟨x0,G,H,I,J,K,L,M,N,O,xf,S⟩:=b.out.v1.facts;obtain⟨T,U,V,W,X,Y,Z,y7,y8,y9,yf,yl⟩:=b.out.v2.facts;have HC:Hid (isRow i e1 k e2=(zMl i e1 k e2&&zNz e1&&zNz e2&&e1.var==e2.var)):=rfl
  cases ba<;>cases zb:(zNz e1)<;>cases zc:(zNz e2)<;>cases zd:(e1.var==e2.var)
  all_goals
   go_wp2_with (first | (go_at_call_of 125 (xR #[.int .i64 e1.kind,.int .i64 e1.thread,.int .i64 e1.block,.int .i64 e1.var,.int .i64 e1.value,.int .i64 e1.order,.int .i64 e1.scope,.int .i64 e1.bars,.bool e1.step,.int .u64 (e1.Ef:Nat)]);refine (zV e1 _).mono ?_;rintro e v1 ⟨rfl,aa⟩;rw[zb];have P1:=zAa (HQ.out.below aa hB);clear x0 G H I J K L M N O xf S T U V W X Y Z y7 y8 y9 yf yl;obtain⟨x0,G,H,I,J,K,L,M,N,O,xf,S⟩:=P1.out.v1.facts;obtain⟨T,U,V,W,X,Y,Z,y7,y8,y9,yf,yl⟩:=P1.out.v2.facts) | (go_at_call_of 125 (xR #[.int .i64 e2.kind,.int .i64 e2.thread,.int .i64 e2.block,.int .i64 e2.var,.int .i64 e2.value,.int .i64 e2.order,.int .i64 e2.scope,.int .i64 e2.bars,.bool e2.step,.int .u64 (e2.Ef:Nat)]);refine (zV e2 _).mono ?_;rintro e v2 ⟨rfl,ar⟩;rw[zc];have P2:=zAa (P1.out.below ar hB);clear x0 G H I J K L M N O xf S T U V W X Y Z y7 y8 y9 yf yl;obtain⟨x0,G,H,I,J,K,L,M,N,O,xf,S⟩:=P2.out.v1.facts;obtain⟨T,U,V,W,X,Y,Z,y7,y8,y9,yf,yl⟩:=P2.out.v2.facts));go_meet
   case rel=>refine⟨_,rfl,(by unfold Hid;rw[HC.out,<- ad.out,zb,zc,zd];rfl),?_⟩;first | exact P2 | exact P1 | exact HQ
 case rest =>
 obtain⟨D,rfl,j,d⟩:=hcut;clear b;have b:=d;clear d;go_upto_if 38 with fail
 go_cut [] from 39 to 44 (fun wx=>Hid (PS B w wx fb (FA.mk n (.slice x n c) p q r t u v y z A) ({ f with ahead:=aJ (zMl i e1 k e2) f.ahead i k,rows:=aJ (isRow i e1 k e2) f.rows i k }:EE) w.heap.size (w.heap.size+1) e1 e2))
 case first =>
  have m:=b.out.mem.box;have ab:=(Array.getElem?_eq_some_iff.1 m).1;clear m;cases D
  ·have C:=j.out.symm;have o:Hid (PS B w wc fb (FA.mk n (.slice x n c) p q r t u v y z A) ({ f with ahead:=aJ (zMl i e1 k e2) f.ahead i k,rows:=aJ (isRow i e1 k e2) f.rows i k }:EE) w.heap.size (w.heap.size+1) e1 e2):=by unfold Hid;simpa [aJ,C] using b.out
   go_wp2;go_meet
   case rel=>exact o
  ·have C:=j.out.symm;go_wp2_with (first | (go_at_call 75;refine (jH fb 5 u n _ (i:Int) (k:Int) _ b.out.mem.DD b.out.mem.fin.r5.fits).mono ?_;rintro e v9 ⟨rfl,F,E⟩;have P9:=zAa (b.out.pL hB am i k F E)));have o:Hid (PS B w v9 fb (FA.mk n (.slice x n c) p q r t u v y z A) ({ f with ahead:=aJ (zMl i e1 k e2) f.ahead i k,rows:=aJ (isRow i e1 k e2) f.rows i k }:EE) w.heap.size (w.heap.size+1) e1 e2):=by unfold Hid;simpa [aJ,C] using P9.out
   go_meet
   case rel=>exact o
 case rest =>
 have d:=hcut;clear b hcut j;have b:=d;clear d;go_upto_region 6 with fail
 go_cut [52] from 45 to 51 (fun s wx=>∃ D,s=.bool D/\Hid (D=zMq i e1 k e2)/\Hid (PS B w wx fb (FA.mk n (.slice x n c) p q r t u v y z A) ({ f with ahead:=aJ (zMl i e1 k e2) f.ahead i k,rows:=aJ (isRow i e1 k e2) f.rows i k }:EE) w.heap.size (w.heap.size+1) e1 e2))
 case first =>
  have HQ:=b;obtain⟨x0,G,H,I,J,K,L,M,N,O,xf,S⟩:=b.out.v1.facts;obtain⟨T,U,V,W,X,Y,Z,y7,y8,y9,yf,yl⟩:=b.out.v2.facts;have HC:Hid (zMq i e1 k e2=(i != k&&strong e1 e2)):=rfl;have zz:=zLF i k
  cases za:(i != k)<;>cases zb:(strong e1 e2)
  all_goals
   rw[za] at zz;go_wp2_with (first | (go_at_call 126;refine (zHL e1 e2 _).mono ?_;rintro e v1 ⟨rfl,aa⟩;rw[zb];have P1:=zAa (HQ.out.below aa hB);clear x0 G H I J K L M N O xf S T U V W X Y Z y7 y8 y9 yf yl;obtain⟨x0,G,H,I,J,K,L,M,N,O,xf,S⟩:=P1.out.v1.facts;obtain⟨T,U,V,W,X,Y,Z,y7,y8,y9,yf,yl⟩:=P1.out.v2.facts));go_meet
   case rel=>refine⟨_,rfl,(by unfold Hid;rw[HC.out,za,zb];rfl),?_⟩;first | exact P2 | exact P1 | exact HQ
 case rest =>
 obtain⟨D,rfl,j,d⟩:=hcut;clear b;have b:=d;clear d;go_upto_if 52 with fail
 go_cut [] from 53 to 70 (fun wx=>Hid (PS B w wx fb (FA.mk n (.slice x n c) p q r t u v y z A) ({ f with ahead:=aJ (zMl i e1 k e2) f.ahead i k,rows:=aJ (isRow i e1 k e2) f.rows i k,strong:=aJ (zMq i e1 k e2) f.strong i k,fences:=aJ (zMp i e1 k e2) f.fences i k }:EE) w.heap.size (w.heap.size+1) e1 e2))
 case first =>
  have m:=b.out.mem.box;have ab:=(Array.getElem?_eq_some_iff.1 m).1;clear m;cases D
  ·have C:=j.out.symm;have ac:Hid (zMp i e1 k e2=false):=by unfold Hid zMp;have h1:(i != k&&strong e1 e2)=false:=C;rw[h1];rfl
   have o:Hid (PS B w wc fb (FA.mk n (.slice x n c) p q r t u v y z A) ({ f with ahead:=aJ (zMl i e1 k e2) f.ahead i k,rows:=aJ (isRow i e1 k e2) f.rows i k,strong:=aJ (zMq i e1 k e2) f.strong i k,fences:=aJ (zMp i e1 k e2) f.fences i k }:EE) w.heap.size (w.heap.size+1) e1 e2):=by unfold Hid;simpa [aJ,C,ac.out] using b.out
   go_wp2;go_meet
   case rel=>exact o
  ·have C:=j.out.symm;have ac:Hid (zMp i e1 k e2=(kAC e1&&kAC e2)):=by unfold Hid zMp;have h1:(i != k&&strong e1 e2)=true:=C;rw[h1];rfl
   cases zf:kAC e1<;>cases zg:kAC e2
   all_goals
    go_wp2_with (first | (go_at_call_of 75 (Value.pointer (some ⟨fb,2,none⟩));refine (jH fb 2 q n _ (i:Int) (k:Int) _ b.out.mem.CZ b.out.mem.fin.r2.fits).mono ?_;rintro e v9 ⟨rfl,F,E⟩;have P9:=zAa (b.out.pW hB aj i k F E);obtain⟨x0,G,H,I,J,K,L,M,N,O,xf,S⟩:=P9.out.v1.facts;obtain⟨T,U,V,W,X,Y,Z,y7,y8,y9,yf,yl⟩:=P9.out.v2.facts) | (go_at_call_of 82 (xR #[.int .i64 e1.kind,.int .i64 e1.thread,.int .i64 e1.block,.int .i64 e1.var,.int .i64 e1.value,.int .i64 e1.order,.int .i64 e1.scope,.int .i64 e1.bars,.bool e1.step,.int .u64 (e1.Ef:Nat)]);refine (yK e1 _).mono ?_;rintro e v7 ⟨rfl,au⟩;rw[zf];have P7:=zAa (P9.out.below au hB);clear x0 G H I J K L M N O xf S T U V W X Y Z y7 y8 y9 yf yl;obtain⟨x0,G,H,I,J,K,L,M,N,O,xf,S⟩:=P7.out.v1.facts;obtain⟨T,U,V,W,X,Y,Z,y7,y8,y9,yf,yl⟩:=P7.out.v2.facts) | (go_at_call_of 82 (xR #[.int .i64 e2.kind,.int .i64 e2.thread,.int .i64 e2.block,.int .i64 e2.var,.int .i64 e2.value,.int .i64 e2.order,.int .i64 e2.scope,.int .i64 e2.bars,.bool e2.step,.int .u64 (e2.Ef:Nat)]);refine (yK e2 _).mono ?_;rintro e v8 ⟨rfl,av⟩;rw[zg];have P8:=zAa (P7.out.below av hB);clear x0 G H I J K L M N O xf S T U V W X Y Z y7 y8 y9 yf yl;obtain⟨x0,G,H,I,J,K,L,M,N,O,xf,S⟩:=P8.out.v1.facts;obtain⟨T,U,V,W,X,Y,Z,y7,y8,y9,yf,yl⟩:=P8.out.v2.facts) | (go_at_call_of 75 (Value.pointer (some ⟨fb,4,none⟩));refine (jH fb 4 t n _ (i:Int) (k:Int) _ P8.out.mem.zP P8.out.mem.fin.r4.fits).mono ?_;rintro e v6 ⟨rfl,ax,aw⟩;have P6:=zAa (P8.out.pO hB al i k ax aw)))
    first
     | (have o:Hid (PS B w v6 fb (FA.mk n (.slice x n c) p q r t u v y z A) ({ f with ahead:=aJ (zMl i e1 k e2) f.ahead i k,rows:=aJ (isRow i e1 k e2) f.rows i k,strong:=aJ (zMq i e1 k e2) f.strong i k,fences:=aJ (zMp i e1 k e2) f.fences i k }:EE) w.heap.size (w.heap.size+1) e1 e2):=(by unfold Hid;simpa [aJ,C,ac.out,zf,zg] using P6.out);go_meet;case rel=>exact o)
     | (have o:Hid (PS B w v8 fb (FA.mk n (.slice x n c) p q r t u v y z A) ({ f with ahead:=aJ (zMl i e1 k e2) f.ahead i k,rows:=aJ (isRow i e1 k e2) f.rows i k,strong:=aJ (zMq i e1 k e2) f.strong i k,fences:=aJ (zMp i e1 k e2) f.fences i k }:EE) w.heap.size (w.heap.size+1) e1 e2):=(by unfold Hid;simpa [aJ,C,ac.out,zf,zg] using P8.out);go_meet;case rel=>exact o)
     | (have o:Hid (PS B w v7 fb (FA.mk n (.slice x n c) p q r t u v y z A) ({ f with ahead:=aJ (zMl i e1 k e2) f.ahead i k,rows:=aJ (isRow i e1 k e2) f.rows i k,strong:=aJ (zMq i e1 k e2) f.strong i k,fences:=aJ (zMp i e1 k e2) f.fences i k }:EE) w.heap.size (w.heap.size+1) e1 e2):=(by unfold Hid;simpa [aJ,C,ac.out,zf,zg] using P7.out);go_meet;case rel=>exact o)
 case rest =>
 have d:=hcut;clear b hcut j;have b:=d;clear d;go_upto_region 10 with fail
 go_cut [73] from 71 to 72 (fun s wx=>∃ D,s=.bool D/\Hid (D=zMG e1 e2)/\Hid (PS B w wx fb (FA.mk n (.slice x n c) p q r t u v y z A) ({ f with ahead:=aJ (zMl i e1 k e2) f.ahead i k,rows:=aJ (isRow i e1 k e2) f.rows i k,strong:=aJ (zMq i e1 k e2) f.strong i k,fences:=aJ (zMp i e1 k e2) f.fences i k }:EE) w.heap.size (w.heap.size+1) e1 e2))
 case first =>
  have HQ:=b;obtain⟨x0,G,H,I,J,K,L,M,N,O,xf,S⟩:=b.out.v1.facts;obtain⟨T,U,V,W,X,Y,Z,y7,y8,y9,yf,yl⟩:=b.out.v2.facts;go_wp2_with (first | (go_at_call 127;refine (zHK e1 e2 _).mono ?_;rintro e v1 ⟨rfl,aa⟩;have P1:=zAa (HQ.out.below aa hB);clear x0 G H I J K L M N O xf S T U V W X Y Z y7 y8 y9 yf yl;obtain⟨x0,G,H,I,J,K,L,M,N,O,xf,S⟩:=P1.out.v1.facts;obtain⟨T,U,V,W,X,Y,Z,y7,y8,y9,yf,yl⟩:=P1.out.v2.facts));go_meet
  case rel=>exact⟨_,rfl,rfl,P1⟩
 case rest =>
 obtain⟨D,rfl,j,d⟩:=hcut;clear b;have b:=d;clear d;go_upto_if 73 with fail
 go_cut [] from 74 to 79 (fun wx=>Hid (PS B w wx fb (FA.mk n (.slice x n c) p q r t u v y z A) ({ f with ahead:=aJ (zMl i e1 k e2) f.ahead i k,rows:=aJ (isRow i e1 k e2) f.rows i k,strong:=aJ (zMq i e1 k e2) f.strong i k,fences:=aJ (zMp i e1 k e2) f.fences i k,gathers:=aJ (zMG e1 e2) f.gathers i k }:EE) w.heap.size (w.heap.size+1) e1 e2))
 case first =>
  have m:=b.out.mem.box;have ab:=(Array.getElem?_eq_some_iff.1 m).1;clear m;cases D
  ·have C:=j.out.symm;have o:Hid (PS B w wc fb (FA.mk n (.slice x n c) p q r t u v y z A) ({ f with ahead:=aJ (zMl i e1 k e2) f.ahead i k,rows:=aJ (isRow i e1 k e2) f.rows i k,strong:=aJ (zMq i e1 k e2) f.strong i k,fences:=aJ (zMp i e1 k e2) f.fences i k,gathers:=aJ (zMG e1 e2) f.gathers i k }:EE) w.heap.size (w.heap.size+1) e1 e2):=by unfold Hid;simpa [aJ,C] using b.out
   go_wp2;go_meet
   case rel=>exact o
  ·have C:=j.out.symm;go_wp2_with (first | (go_at_call 75;refine (jH fb 3 r n _ (i:Int) (k:Int) _ b.out.mem.CY b.out.mem.fin.r3.fits).mono ?_;rintro e v9 ⟨rfl,F,E⟩;have P9:=zAa (b.out.rA hB ak i k F E)));have o:Hid (PS B w v9 fb (FA.mk n (.slice x n c) p q r t u v y z A) ({ f with ahead:=aJ (zMl i e1 k e2) f.ahead i k,rows:=aJ (isRow i e1 k e2) f.rows i k,strong:=aJ (zMq i e1 k e2) f.strong i k,fences:=aJ (zMp i e1 k e2) f.fences i k,gathers:=aJ (zMG e1 e2) f.gathers i k }:EE) w.heap.size (w.heap.size+1) e1 e2):=by unfold Hid;simpa [aJ,C] using P9.out
   go_meet
   case rel=>exact o
 case rest =>
 have d:=hcut;clear b hcut j;have b:=d;clear d;go_upto_region 12 with fail
 go_cut [83] from 80 to 82 (fun s wx=>∃ D,s=.bool D/\Hid (D=kAU e1.Ef (k:Nat))/\Hid (PS B w wx fb (FA.mk n (.slice x n c) p q r t u v y z A) ({ f with ahead:=aJ (zMl i e1 k e2) f.ahead i k,rows:=aJ (isRow i e1 k e2) f.rows i k,strong:=aJ (zMq i e1 k e2) f.strong i k,fences:=aJ (zMp i e1 k e2) f.fences i k,gathers:=aJ (zMG e1 e2) f.gathers i k }:EE) w.heap.size (w.heap.size+1) e1 e2))
 case first =>
  have HQ:=b;obtain⟨x0,G,H,I,J,K,L,M,N,O,xf,S⟩:=b.out.v1.facts;obtain⟨T,U,V,W,X,Y,Z,y7,y8,y9,yf,yl⟩:=b.out.v2.facts;go_wp2_with (first | (go_at_call 110;refine (zHd e1.Ef (k:Int) _ hh).mono ?_;rintro e v1 ⟨rfl,ag⟩;have ag:=ag.symm;subst ag));go_meet
  case rel=>exact⟨_,rfl,rfl,HQ⟩
 case rest =>
 obtain⟨D,rfl,j,d⟩:=hcut;clear b;have b:=d;clear d;go_upto_if 83 with fail
 go_cut [] from 84 to 89 (fun wx=>Hid (PS B w wx fb (FA.mk n (.slice x n c) p q r t u v y z A) ({ f with ahead:=aJ (zMl i e1 k e2) f.ahead i k,rows:=aJ (isRow i e1 k e2) f.rows i k,strong:=aJ (zMq i e1 k e2) f.strong i k,fences:=aJ (zMp i e1 k e2) f.fences i k,gathers:=aJ (zMG e1 e2) f.gathers i k,Ef:=aJ (kAU e1.Ef (k:Nat)) f.Ef i k }:EE) w.heap.size (w.heap.size+1) e1 e2))
 case first =>
  have m:=b.out.mem.box;have ab:=(Array.getElem?_eq_some_iff.1 m).1;clear m;cases D
  ·have C:=j.out.symm;have o:Hid (PS B w wc fb (FA.mk n (.slice x n c) p q r t u v y z A) ({ f with ahead:=aJ (zMl i e1 k e2) f.ahead i k,rows:=aJ (isRow i e1 k e2) f.rows i k,strong:=aJ (zMq i e1 k e2) f.strong i k,fences:=aJ (zMp i e1 k e2) f.fences i k,gathers:=aJ (zMG e1 e2) f.gathers i k,Ef:=aJ (kAU e1.Ef (k:Nat)) f.Ef i k }:EE) w.heap.size (w.heap.size+1) e1 e2):=by unfold Hid;simpa [aJ,C] using b.out
   go_wp2;go_meet
   case rel=>exact o
  ·have C:=j.out.symm;go_wp2_with (first | (go_at_call 75;refine (jH fb 6 v n _ (i:Int) (k:Int) _ b.out.mem.BS b.out.mem.fin.r6.fits).mono ?_;rintro e v9 ⟨rfl,F,E⟩;have P9:=zAa (b.out.qY hB an i k F E)));have o:Hid (PS B w v9 fb (FA.mk n (.slice x n c) p q r t u v y z A) ({ f with ahead:=aJ (zMl i e1 k e2) f.ahead i k,rows:=aJ (isRow i e1 k e2) f.rows i k,strong:=aJ (zMq i e1 k e2) f.strong i k,fences:=aJ (zMp i e1 k e2) f.fences i k,gathers:=aJ (zMG e1 e2) f.gathers i k,Ef:=aJ (kAU e1.Ef (k:Nat)) f.Ef i k }:EE) w.heap.size (w.heap.size+1) e1 e2):=by unfold Hid;simpa [aJ,C] using P9.out
   go_meet
   case rel=>exact o
 case rest =>
 have d:=hcut;clear b hcut j;have b:=d;clear d;go_upto_region 14 with fail
 go_cut [102] from 90 to 101 (fun s wx=>∃ D,s=.bool D/\Hid (D=zNt i e1 k)/\Hid (PS B w wx fb (FA.mk n (.slice x n c) p q r t u v y z A) ({ f with ahead:=aJ (zMl i e1 k e2) f.ahead i k,rows:=aJ (isRow i e1 k e2) f.rows i k,strong:=aJ (zMq i e1 k e2) f.strong i k,fences:=aJ (zMp i e1 k e2) f.fences i k,gathers:=aJ (zMG e1 e2) f.gathers i k,Ef:=aJ (kAU e1.Ef (k:Nat)) f.Ef i k }:EE) w.heap.size (w.heap.size+1) e1 e2))
 case first =>
  have HQ:=b;obtain⟨x0,G,H,I,J,K,L,M,N,O,xf,S⟩:=b.out.v1.facts;obtain⟨T,U,V,W,X,Y,Z,y7,y8,y9,yf,yl⟩:=b.out.v2.facts;have HC:Hid (zNt i e1 k=(e1.kind==1&&e1.step&&k+1==i)):=rfl;have zz:=zKw i k;generalize ay:e1.step=sp at *;clear ay
  cases za:(e1.kind==1)<;>cases sp<;>cases zc:(k+1==i)
  all_goals
   rw[zc] at zz;go_wp2;go_meet
   case rel=>refine⟨_,rfl,(by unfold Hid;rw[HC.out,za,zc];rfl),?_⟩;first | exact P2 | exact P1 | exact HQ
 case rest =>
 obtain⟨D,rfl,j,d⟩:=hcut;clear b;have b:=d;clear d;go_upto_if 102 with fail
 go_cut [] from 103 to 108 (fun wx=>Hid (PS B w wx fb (FA.mk n (.slice x n c) p q r t u v y z A) ({ f with ahead:=aJ (zMl i e1 k e2) f.ahead i k,rows:=aJ (isRow i e1 k e2) f.rows i k,strong:=aJ (zMq i e1 k e2) f.strong i k,fences:=aJ (zMp i e1 k e2) f.fences i k,gathers:=aJ (zMG e1 e2) f.gathers i k,Ef:=aJ (kAU e1.Ef (k:Nat)) f.Ef i k,halves:=aJ (zNt i e1 k) f.halves i k }:EE) w.heap.size (w.heap.size+1) e1 e2))
 case first =>
  have m:=b.out.mem.box;have ab:=(Array.getElem?_eq_some_iff.1 m).1;clear m;cases D
  ·have C:=j.out.symm;have o:Hid (PS B w wc fb (FA.mk n (.slice x n c) p q r t u v y z A) ({ f with ahead:=aJ (zMl i e1 k e2) f.ahead i k,rows:=aJ (isRow i e1 k e2) f.rows i k,strong:=aJ (zMq i e1 k e2) f.strong i k,fences:=aJ (zMp i e1 k e2) f.fences i k,gathers:=aJ (zMG e1 e2) f.gathers i k,Ef:=aJ (kAU e1.Ef (k:Nat)) f.Ef i k,halves:=aJ (zNt i e1 k) f.halves i k }:EE) w.heap.size (w.heap.size+1) e1 e2):=by unfold Hid;simpa [aJ,C] using b.out
   go_wp2;go_meet
   case rel=>exact o
  ·have C:=j.out.symm;go_wp2_with (first | (go_at_call 75;refine (jH fb 7 y n _ (i:Int) (k:Int) _ b.out.mem.DU b.out.mem.fin.r7.fits).mono ?_;rintro e v9 ⟨rfl,F,E⟩;have P9:=zAa (b.out.qU hB ao i k F E)));have o:Hid (PS B w v9 fb (FA.mk n (.slice x n c) p q r t u v y z A) ({ f with ahead:=aJ (zMl i e1 k e2) f.ahead i k,rows:=aJ (isRow i e1 k e2) f.rows i k,strong:=aJ (zMq i e1 k e2) f.strong i k,fences:=aJ (zMp i e1 k e2) f.fences i k,gathers:=aJ (zMG e1 e2) f.gathers i k,Ef:=aJ (kAU e1.Ef (k:Nat)) f.Ef i k,halves:=aJ (zNt i e1 k) f.halves i k }:EE) w.heap.size (w.heap.size+1) e1 e2):=by unfold Hid;simpa [aJ,C] using P9.out
   go_meet
   case rel=>exact o
 case rest =>
 have d:=hcut;clear b hcut j;have b:=d;clear d;go_upto_region 16 with fail
 go_cut [128] from 109 to 127 (fun s wx=>∃ D,s=.bool D/\Hid (D=zOg i e1 k e2)/\Hid (PS B w wx fb (FA.mk n (.slice x n c) p q r t u v y z A) ({ f with ahead:=aJ (zMl i e1 k e2) f.ahead i k,rows:=aJ (isRow i e1 k e2) f.rows i k,strong:=aJ (zMq i e1 k e2) f.strong i k,fences:=aJ (zMp i e1 k e2) f.fences i k,gathers:=aJ (zMG e1 e2) f.gathers i k,Ef:=aJ (kAU e1.Ef (k:Nat)) f.Ef i k,halves:=aJ (zNt i e1 k) f.halves i k }:EE) w.heap.size (w.heap.size+1) e1 e2))
 case first =>
  have HQ:=b;obtain⟨x0,G,H,I,J,K,L,M,N,O,xf,S⟩:=b.out.v1.facts;obtain⟨T,U,V,W,X,Y,Z,y7,y8,y9,yf,yl⟩:=b.out.v2.facts;have HC:Hid (zOg i e1 k e2=((i==k&&(e1.kind==1&&P.rel e1.order))||(zMl i e1 k e2&&e1.kind==2&&e2.kind==1))):=rfl;have zz:=zKK i k
  cases za:(i==k)<;>cases zb:(e1.kind==1&&P.rel e1.order)<;>cases ba<;>cases zd:(e1.kind==2)<;>cases ze:(e2.kind==1)
  all_goals
   rw[za] at zz;go_wp2_with (first | (go_at_call 128;refine (zFG e1 _).mono ?_;rintro e v1 ⟨rfl,aa⟩;rw[zb];have P1:=zAa (HQ.out.below aa hB);clear x0 G H I J K L M N O xf S T U V W X Y Z y7 y8 y9 yf yl;obtain⟨x0,G,H,I,J,K,L,M,N,O,xf,S⟩:=P1.out.v1.facts;obtain⟨T,U,V,W,X,Y,Z,y7,y8,y9,yf,yl⟩:=P1.out.v2.facts));go_meet
   case rel=>refine⟨_,rfl,(by unfold Hid;rw[HC.out,za,zb,<- ad.out,zd,ze];rfl),?_⟩;first | exact P2 | exact P1 | exact HQ
 case rest =>
 obtain⟨D,rfl,j,d⟩:=hcut;clear b;have b:=d;clear d;go_upto_if 128 with fail
 go_cut [] from 129 to 134 (fun wx=>Hid (PS B w wx fb (FA.mk n (.slice x n c) p q r t u v y z A) ({ f with ahead:=aJ (zMl i e1 k e2) f.ahead i k,rows:=aJ (isRow i e1 k e2) f.rows i k,strong:=aJ (zMq i e1 k e2) f.strong i k,fences:=aJ (zMp i e1 k e2) f.fences i k,gathers:=aJ (zMG e1 e2) f.gathers i k,Ef:=aJ (kAU e1.Ef (k:Nat)) f.Ef i k,halves:=aJ (zNt i e1 k) f.halves i k,sends:=aJ (zOg i e1 k e2) f.sends i k }:EE) w.heap.size (w.heap.size+1) e1 e2))
 case first =>
  have m:=b.out.mem.box;have ab:=(Array.getElem?_eq_some_iff.1 m).1;clear m;cases D
  ·have C:=j.out.symm;have o:Hid (PS B w wc fb (FA.mk n (.slice x n c) p q r t u v y z A) ({ f with ahead:=aJ (zMl i e1 k e2) f.ahead i k,rows:=aJ (isRow i e1 k e2) f.rows i k,strong:=aJ (zMq i e1 k e2) f.strong i k,fences:=aJ (zMp i e1 k e2) f.fences i k,gathers:=aJ (zMG e1 e2) f.gathers i k,Ef:=aJ (kAU e1.Ef (k:Nat)) f.Ef i k,halves:=aJ (zNt i e1 k) f.halves i k,sends:=aJ (zOg i e1 k e2) f.sends i k }:EE) w.heap.size (w.heap.size+1) e1 e2):=by unfold Hid;simpa [aJ,C] using b.out
   go_wp2;go_meet
   case rel=>exact o
  ·have C:=j.out.symm;go_wp2_with (first | (go_at_call 75;refine (jH fb 8 z n _ (i:Int) (k:Int) _ b.out.mem.FC b.out.mem.fin.r8.fits).mono ?_;rintro e v9 ⟨rfl,F,E⟩;have P9:=zAa (b.out.qO hB ap i k F E)));have o:Hid (PS B w v9 fb (FA.mk n (.slice x n c) p q r t u v y z A) ({ f with ahead:=aJ (zMl i e1 k e2) f.ahead i k,rows:=aJ (isRow i e1 k e2) f.rows i k,strong:=aJ (zMq i e1 k e2) f.strong i k,fences:=aJ (zMp i e1 k e2) f.fences i k,gathers:=aJ (zMG e1 e2) f.gathers i k,Ef:=aJ (kAU e1.Ef (k:Nat)) f.Ef i k,halves:=aJ (zNt i e1 k) f.halves i k,sends:=aJ (zOg i e1 k e2) f.sends i k }:EE) w.heap.size (w.heap.size+1) e1 e2):=by unfold Hid;simpa [aJ,C] using P9.out
   go_meet
   case rel=>exact o
 case rest =>
 have d:=hcut;clear b hcut j;have b:=d;clear d;go_upto_region 18 with fail
 go_cut [154] from 135 to 153 (fun s wx=>∃ D,s=.bool D/\Hid (D=zPm i e1 k e2)/\Hid (PS B w wx fb (FA.mk n (.slice x n c) p q r t u v y z A) ({ f with ahead:=aJ (zMl i e1 k e2) f.ahead i k,rows:=aJ (isRow i e1 k e2) f.rows i k,strong:=aJ (zMq i e1 k e2) f.strong i k,fences:=aJ (zMp i e1 k e2) f.fences i k,gathers:=aJ (zMG e1 e2) f.gathers i k,Ef:=aJ (kAU e1.Ef (k:Nat)) f.Ef i k,halves:=aJ (zNt i e1 k) f.halves i k,sends:=aJ (zOg i e1 k e2) f.sends i k }:EE) w.heap.size (w.heap.size+1) e1 e2))
 case first =>
  have HQ:=b;obtain⟨x0,G,H,I,J,K,L,M,N,O,xf,S⟩:=b.out.v1.facts;obtain⟨T,U,V,W,X,Y,Z,y7,y8,y9,yf,yl⟩:=b.out.v2.facts;have HC:Hid (zPm i e1 k e2=((i==k&&(e1.kind==0&&acq e1.order))||(zMl i e1 k e2&&e1.kind==0&&e2.kind==2))):=rfl;have zz:=zKK i k
  cases za:(i==k)<;>cases zb:(e1.kind==0&&acq e1.order)<;>cases ba<;>cases zd:(e1.kind==0)<;>cases ze:(e2.kind==2)
  all_goals
   rw[za] at zz;go_wp2_with (first | (go_at_call 129;refine (zFH e1 _).mono ?_;rintro e v1 ⟨rfl,aa⟩;rw[zb];have P1:=zAa (HQ.out.below aa hB);clear x0 G H I J K L M N O xf S T U V W X Y Z y7 y8 y9 yf yl;obtain⟨x0,G,H,I,J,K,L,M,N,O,xf,S⟩:=P1.out.v1.facts;obtain⟨T,U,V,W,X,Y,Z,y7,y8,y9,yf,yl⟩:=P1.out.v2.facts));go_meet
   case rel=>refine⟨_,rfl,(by unfold Hid;rw[HC.out,za,zb,<- ad.out,zd,ze];rfl),?_⟩;first | exact P2 | exact P1 | exact HQ
 case rest =>
 obtain⟨D,rfl,j,d⟩:=hcut;clear b;have b:=d;clear d;go_upto_if 154 with fail
 have m:=b.out.mem.box;have ab:=(Array.getElem?_eq_some_iff.1 m).1;clear m;cases D
 ·have C:=j.out.symm;have o:Hid (PS B w wc fb (FA.mk n (.slice x n c) p q r t u v y z A) ({ f with ahead:=aJ (zMl i e1 k e2) f.ahead i k,rows:=aJ (isRow i e1 k e2) f.rows i k,strong:=aJ (zMq i e1 k e2) f.strong i k,fences:=aJ (zMp i e1 k e2) f.fences i k,gathers:=aJ (zMG e1 e2) f.gathers i k,Ef:=aJ (kAU e1.Ef (k:Nat)) f.Ef i k,halves:=aJ (zNt i e1 k) f.halves i k,sends:=aJ (zOg i e1 k e2) f.sends i k,takes:=aJ (zPm i e1 k e2) f.takes i k }:EE) w.heap.size (w.heap.size+1) e1 e2):=by unfold Hid;simpa [aJ,C] using b.out
  go_wp2;go_end0;exact⟨rfl,o.out.mem,o.out.bel,o.out.evs⟩
 ·have C:=j.out.symm;go_wp2_with (first | (go_at_call 75;refine (jH fb 9 A n _ (i:Int) (k:Int) _ b.out.mem.CB b.out.mem.fin.r9.fits).mono ?_;rintro e v9 ⟨rfl,F,E⟩;have P9:=zAa (b.out.qG hB aq i k F E)));have o:Hid (PS B w v9 fb (FA.mk n (.slice x n c) p q r t u v y z A) ({ f with ahead:=aJ (zMl i e1 k e2) f.ahead i k,rows:=aJ (isRow i e1 k e2) f.rows i k,strong:=aJ (zMq i e1 k e2) f.strong i k,fences:=aJ (zMp i e1 k e2) f.fences i k,gathers:=aJ (zMG e1 e2) f.gathers i k,Ef:=aJ (kAU e1.Ef (k:Nat)) f.Ef i k,halves:=aJ (zNt i e1 k) f.halves i k,sends:=aJ (zOg i e1 k e2) f.sends i k,takes:=aJ (zPm i e1 k e2) f.takes i k }:EE) w.heap.size (w.heap.size+1) e1 e2):=by unfold Hid;simpa [aJ,C] using P9.out
  go_end0;exact⟨rfl,o.out.mem,o.out.bel,o.out.evs⟩
end Go.Proofs.YtonodfjdiepglaaGreatDoor
