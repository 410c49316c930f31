import Derived.Deep.CutRange
import Derived.Test.YtgceflcbckjjiaaGreatDoorC12
set_option linter.unusedVariables false
set_option linter.unusedSimpArgs false
set_option maxHeartbeats 12800000
namespace Go.Proofs.YtgceflcbckjjiaaGreatDoor
open Go Go.RowKit
set_option maxRecDepth 100000
def zAP (l:List Q.Ev):List Value:=l.flatMap fun e=>(zAd e).toList
theorem zAN (l:List Q.Ev):(zAP l).length=l.length*10:=by
 induction l with
 | nil=>rfl
 | cons a r ih=>simp[zAP,zAd] at *;omega
theorem zDu (a b:List Q.Ev):zAP (a++b)=zAP a++zAP b:=by simp[zAP]
theorem zEV (e:Q.Ev):zAP [e]=(zAd e).toList:=by simp[zAP]
theorem zEW (l:List Q.Ev):∀ (k:Nat) (h:k<l.length) (i:Nat),i<10→(zAP l)[k*10+i]?=(zAd l[k]).toList[i]?:=by
 induction l with
 | nil=>intro k h;simp at h
 | cons a r ih =>
  intro k h i hi
  have e:zAP (a::r)=(zAd a).toList++zAP r:=by simp[zAP]
  have hl:(zAd a).toList.length=10:=rfl
  rw[e]
  cases k with
  | zero =>
   rw[List.getElem?_append_left (by omega)];simp
  | succ k =>
   rw[List.getElem?_append_right (by omega),hl,show (k+1)*10+i-10=k*10+i by omega,ih k (by simpa using h) i hi]
   simp
theorem zEs (l:List Q.Ev):∀ u∈zAP l,u.oneCell'=true:=by
 intro u hu
 simp only[zAP,List.mem_flatMap,zAd] at hu
 obtain⟨e,_,he⟩:=hu
 simp at he
 rcases he with rfl | rfl | rfl | rfl | rfl | rfl | rfl | rfl | rfl | rfl<;>rfl
def zBa (w:World) (v:Value) (es:List Q.Ev):Prop:=w.ownsRow 0 158 10 v es.length (zAP es)
theorem zBa.keep {w w':World} {v:Value} {es:List Q.Ev} (h:zBa w v es) (hk:∀ k,k<w.heap.size→w'.heap[k]?=w.heap[k]?):zBa w' v es:=zAc h (fun k e=>hk k (h.lt k e).2)
theorem zBa.below {w w':World} {v:Value} {es:List Q.Ev} (h:zBa w v es) (hb:Below w.heap.size w w'):zBa w' v es:=h.keep fun k hk=>hb.block k hk
theorem zBa.form {w:World} {v:Value} {es:List Q.Ev} (h:zBa w v es):∃ a c,v=.slice a es.length c∧(0<es.length→∃ b,a=some ⟨b,0,none⟩∧b<w.heap.size):=by
 rcases h.2 with ⟨e,h0⟩ | ⟨k,c,cur,e,_⟩
 ·exact⟨none,0,by rw[e,h0],fun h=>by omega⟩
 ·exact⟨_,c,e,fun _=>⟨k,rfl,(h.lt k (by rw[e];rfl)).2⟩⟩
theorem zBa.range {w:World} {b n c:Nat} {es:List Q.Ev} (h:zBa w (.slice (some ⟨b,0,none⟩) n c) es) (hn:n=es.length) (k:Nat) (hk:k<es.length):w.rangeAt b (k*10) (zAd es[k]).toList:=by
 intro j v hv
 have hj:j<10:=(List.getElem?_eq_some_iff.1 hv).1
 unfold zBa at h
 rw[hn] at h
 rw[h.cellAt _ (by omega),zEW es k hk j hj];exact hv
theorem zEX (es:List Q.Ev) (k:Nat) (h:k<es.length):Q.ev es k=es[k]:=by simp[Q.ev,h]
theorem zBa.range' {w:World} {b n c:Nat} {es:List Q.Ev} (h:zBa w (.slice (some ⟨b,0,none⟩) n c) es) (hn:n=es.length) (k:Nat) (hk:k<es.length):w.rangeAt b (k*10) (zAd (Q.ev es k)).toList:=by
 rw[zEX es k hk];exact h.range hn k hk
theorem zAi {ops:Array Oper} {rest:List Oper} {op:Oper} {a:Act} {w:World} {R:Exit→Act→World→Prop} (x:Operand) (hgd:op.guard=none) (ho:op.op=.load 158 x)
  (b o:Nat) (e:Q.Ev) (hx:a.eval x=.pointer (some ⟨b,o,none⟩)) (hr:w.rangeAt b o (zAd e).toList)
  (h:wpList Tryz.prog ops R rest (a.put op.dst (.agg #[.int .i64 e.kind,.int .i64 e.thread,.int .i64 e.block,.int .i64 e.var,.int .i64 e.value,.int .i64 e.order,.int .i64 e.scope,.int .i64 e.bars,.bool e.step,.int .u64 (e.hangs:Nat)])) w):wpList Tryz.prog ops R (op::rest) a w :=
 wpList_load_mid hgd _ x ho b o hx (zAd e).toList _ hr Tryz.underlying158 rfl (by kernel_rfl) h
structure RelAt (w:World) (g n:Nat) (l:List Nat):Prop where
 at_:zAw w g l
 len:l.length=n
 fits:Q.Fits l
theorem RelAt.lt {w:World} {g n:Nat} {l:List Nat} (h:RelAt w g n l):g<w.heap.size:=h.at_.lt
theorem RelAt.below {w w':World} {g n:Nat} {l:List Nat} (h:RelAt w g n l) (hb:Below w.heap.size w w'):RelAt w' g n l:=⟨h.at_.below hb,h.len,h.fits⟩
theorem RelAt.keep {w w':World} {g n:Nat} {l:List Nat} (h:RelAt w g n l) (hk:∀ k,k<w.heap.size→w'.heap[k]?=w.heap[k]?):RelAt w' g n l:=⟨h.at_.of_block (hk g h.lt),h.len,h.fits⟩
structure FA where
 n:Nat
 ev:Value
 g1:Nat
 g2:Nat
 g3:Nat
 g4:Nat
 g5:Nat
 g6:Nat
 g7:Nat
 g8:Nat
 g9:Nat
def zAp (a:FA):Array Value:=#[a.ev,.slice (some ⟨a.g1,0,none⟩) a.n a.n,.slice (some ⟨a.g2,0,none⟩) a.n a.n,.slice (some ⟨a.g3,0,none⟩) a.n a.n,.slice (some ⟨a.g4,0,none⟩) a.n a.n,.slice (some ⟨a.g5,0,none⟩) a.n a.n,.slice (some ⟨a.g6,0,none⟩) a.n a.n,.slice (some ⟨a.g7,0,none⟩) a.n a.n,.slice (some ⟨a.g8,0,none⟩) a.n a.n,.slice (some ⟨a.g9,0,none⟩) a.n a.n]
structure FactsIn (w:World) (a:FA) (f:Q.Facts):Prop where
 ev:zBa w a.ev f.events
 len:f.events.length=a.n
 n64:a.n≤64
 r1:RelAt w a.g1 a.n f.ahead
 r2:RelAt w a.g2 a.n f.strong
 r3:RelAt w a.g3 a.n f.gathers
 r4:RelAt w a.g4 a.n f.fences
 r5:RelAt w a.g5 a.n f.rows
 r6:RelAt w a.g6 a.n f.hangs
 r7:RelAt w a.g7 a.n f.halves
 r8:RelAt w a.g8 a.n f.sends
 r9:RelAt w a.g9 a.n f.takes
theorem FactsIn.keep {w w':World} {a:FA} {f:Q.Facts} (h:FactsIn w a f) (hk:∀ k,k<w.heap.size→w'.heap[k]?=w.heap[k]?):FactsIn w' a f :=
 ⟨h.ev.keep hk,h.len,h.n64,h.r1.keep hk,h.r2.keep hk,h.r3.keep hk,h.r4.keep hk,h.r5.keep hk,h.r6.keep hk,h.r7.keep hk,h.r8.keep hk,h.r9.keep hk⟩
theorem FactsIn.below {w w':World} {a:FA} {f:Q.Facts} (h:FactsIn w a f) (hb:Below w.heap.size w w'):FactsIn w' a f:=h.keep fun k hk=>hb.block k hk
theorem FactsIn.form {w:World} {a:FA} {f:Q.Facts} (h:FactsIn w a f):∃ x c,a.ev=.slice x a.n c∧(0<a.n→∃ b,x=some ⟨b,0,none⟩∧b<w.heap.size):=by
 have:=h.ev.form
 rw[h.len] at this;exact this
theorem zFu {P:Program} (w:World) (dT sT ty elem:TypeId) (b o dLen dCap:Nat) (a:Addr) (sLen sCap sz:Nat) (cs:List Value)
  (hu:P.underlying dT=some (.slice elem)) (hs:(P.info? elem).map (·.size)=some sz) (hn:cs.length=Nat.min sLen dLen*sz)
  (hsrc:∀ j v,cs[j]?=some v→w.cell? (a.add j)=some v) (hc:∀ j,j<cs.length→(w.cell? ⟨b,o+j,none⟩).isSome=true) (hf:∀ j,j<cs.length→w.frozen? ⟨b,o+j,none⟩=false) (h1:∀ v∈cs,v.oneCell'=true) :
  (Builtin.copy_ #[dT,sT] ty #[.slice (some ⟨b,o,none⟩) dLen dCap,.slice (some a) sLen sCap]).run P w=.ok (goInt (Nat.min sLen dLen)) (w.setCells b o cs):=by
 have hl:=run_loadCells_list (P:=P) w a cs hsrc
 have hst:=run_storeCells_cells (P:=P) b o cs 0 w (by simpa using hc) (by simpa using hf) h1
 cases hq:P.info? elem with
 | none=>simp[hq] at hs
 | some i =>
  have hi:i.size=sz:=by simpa [hq] using hs
  simp[Builtin.copy_,run_underlying hu,Builtin.lenOf,Builtin.firstCells,sizeOf,typeInfo,hq,hi,← hn,hl,hst]
def zGp (w w':World) (n:Nat) (l:List Nat) (e:Ending):Prop:=∃ g,e=.returned (.agg #[.slice (some ⟨g,0,none⟩) n n])∧RelAt w' g n l∧Below w.heap.size w w'
theorem zDf.relR {w w':World} {n:Nat} {l:List Nat} {e:Ending} (h:zDf w w' n l e):zGp w w' n l e:=by
 obtain⟨g,rfl,h1,_,h3,h4,h5⟩:=h
 exact⟨g,rfl,⟨h1,h3,h4⟩,h5⟩
theorem zCg (gr go n:Nat) (r o:List Nat) (w:World) (hr:RelAt w gr n r) (ho:RelAt w go n o) :
  Calls Tryz.prog 67 #[.agg #[.slice (some ⟨gr,0,none⟩) n n],.agg #[.slice (some ⟨go,0,none⟩) n n]] w fun e w'=>zGp w w' n (Q.orR r o) e :=
 (zKv gr go n r o w hr.at_ ho.at_ hr.len ho.len hr.fits ho.fits).mono fun _ _ h=>h.relR
theorem zEt (gr go n:Nat) (r o:List Nat) (w:World) (hr:RelAt w gr n r) (ho:RelAt w go n o) :
  Calls Tryz.prog 114 #[.agg #[.slice (some ⟨gr,0,none⟩) n n],.agg #[.slice (some ⟨go,0,none⟩) n n]] w fun e w'=>zGp w w' n (Q.andR r o) e :=
 (zKM gr go n r o w hr.at_ ho.at_ hr.len ho.len hr.fits ho.fits).mono fun _ _ h=>h.relR
theorem zBg (gr go n:Nat) (r o:List Nat) (w:World) (hr:RelAt w gr n r) (ho:RelAt w go n o) :
  Calls Tryz.prog 113 #[.agg #[.slice (some ⟨gr,0,none⟩) n n],.agg #[.slice (some ⟨go,0,none⟩) n n]] w fun e w'=>zGp w w' n (Q.thenR r o) e :=
 (zKb gr go n r o w hr.at_ ho.at_ hr.len ho.len hr.fits ho.fits).mono fun _ _ h=>h.relR
theorem zEY (gr n:Nat) (r:List Nat) (w:World) (hr:RelAt w gr n r) :
  Calls Tryz.prog 144 #[.agg #[.slice (some ⟨gr,0,none⟩) n n]] w fun e w'=>zGp w w' n (Q.zPU r) e :=
 (zIb gr n r w hr.at_ hr.len hr.fits).mono fun _ _ h=>h.relR
theorem zCA (gr n:Nat) (r:List Nat) (w:World) (hr:RelAt w gr n r) :
  Calls Tryz.prog 68 #[.agg #[.slice (some ⟨gr,0,none⟩) n n]] w fun e w'=>zGp w w' n (Q.zPu r) e :=
 (zEU gr n r w hr.at_ hr.len hr.fits).mono fun _ _ h=>h.relR
theorem zBk (gr n:Nat) (r:List Nat) (w:World) (hr:RelAt w gr n r) :
  Calls Tryz.prog 119 #[.agg #[.slice (some ⟨gr,0,none⟩) n n]] w fun e w'=>e=.returned (.bool (Q.loopsR r))∧Below w.heap.size w w' :=
 zGo gr n r w hr.at_ hr.len hr.fits
theorem zJg (gr n:Nat) (r:List Nat) (w:World) (hr:RelAt w gr n r) :
  Calls Tryz.prog 145 #[.agg #[.slice (some ⟨gr,0,none⟩) n n]] w fun e w'=>e=.returned (.bool (Q.leadsR r))∧Below w.heap.size w w' :=
 zJf gr n r w hr.at_ hr.len hr.fits
theorem zDg (gr n:Nat) (r:List Nat) (w:World) (hr:RelAt w gr n r) :
  Calls Tryz.prog 111 #[.agg #[.slice (some ⟨gr,0,none⟩) n n]] w fun e w'=>e=.returned (.bool (Q.circlesR r))∧Below w.heap.size w w' :=
 zGW gr n r w hr.at_ hr.len hr.fits
theorem zBJ (gr n:Nat) (r:List Nat) (a b:Int) (w:World) (hr:RelAt w gr n r) :
  Calls Tryz.prog 112 #[.agg #[.slice (some ⟨gr,0,none⟩) n n],.int .i64 a,.int .i64 b] w fun e w'=>e=.returned (.bool (Q.hasR r a b))∧Below w.heap.size w w' :=
 zBZ gr n r a b w hr.at_ hr.len.symm hr.fits
theorem zAm {w w1 w2:World} {B:Nat} (h:Below B w w1) (hB:B≤w.heap.size) (k:Below w1.heap.size w1 w2):Below B w w2:=h.trans (k.mono (Nat.le_trans hB h.size))
theorem zGX (a:FA) (f:Q.Facts) (gr:Nat) (rd:List Nat) (w:World) (hf:FactsIn w a f) (hr:RelAt w gr a.n rd) :
  Calls Tryz.prog 64 #[.agg (zAp a),.agg #[.slice (some ⟨gr,0,none⟩) a.n a.n]] w fun e w'=>e=.returned (.bool (f.hangsOn rd))∧Below w.heap.size w w':=by
 have HE:Hid (f.hangsOn rd=Q.circlesR (Q.orR f.hangs rd)):=rfl
 have BB:Hid (∀ o p,Below w.heap.size w ((w.alloc o).alloc p)):=fun o p=>((Below.refl _ _).alloc (Nat.le_refl _) _).alloc (by simp) _
 have R6:=zAa hf.r6
 have RR:=zAa hr
 obtain⟨x,c,hev,hx⟩:=hf.form
 clear hf hr hx
 obtain⟨n,ev,g1,g2,g3,g4,g5,g6,g7,g8,g9⟩:=a
 simp only at hev R6 RR
 subst hev
 simp only[zAp]
 go_enter Tryz.func64,Tryz.ntmps64
 go_wp2_with (first
  | (go_at_call 67;refine (zCg g6 gr n f.hangs rd _ (R6.out.below (BB.out _ _)) (RR.out.below (BB.out _ _))).mono ?_;rintro e w1 ⟨q1,rfl,hq1,hb1⟩;have B1:=zAa ((BB.out _ _).trans (hb1.mono (by simp;omega)));have Q1:=zAa hq1;clear hq1 hb1)
  | (go_at_call 111;(refine (zDg q1 n _ _ Q1.out).mono ?_;rintro e w2 ⟨rfl,hb2⟩;have B2:=zAa (zAm B1.out (Nat.le_refl _) hb2))))
 go_ret
 rw[HE.out];exact⟨rfl,B2.out⟩
theorem zBM (w:World) (a:Array Value) (s:TypeId):(w.alloc (.cells a s)).heap[w.heap.size]?=some (.cells a s (0,0))∧(w.alloc (.cells a s)).heap.size=w.heap.size+1∧Below w.heap.size w (w.alloc (.cells a s)) :=
 ⟨heap_alloc_new w _,by simp,(Below.refl _ _).alloc (Nat.le_refl _) _⟩
theorem zBN (w:World) (a b:Array Value) (s t:TypeId):((w.alloc (.cells a s)).alloc (.cells b t)).heap[w.heap.size]?=some (.cells a s (0,0))∧((w.alloc (.cells a s)).alloc (.cells b t)).heap[w.heap.size+1]?=some (.cells b t (0,0))∧((w.alloc (.cells a s)).alloc (.cells b t)).heap.size=w.heap.size+2∧Below w.heap.size w ((w.alloc (.cells a s)).alloc (.cells b t)):=by
 refine⟨?_,?_,by simp,((Below.refl _ _).alloc (Nat.le_refl _) _).alloc (by simp) _⟩
 ·rw[Below.heap_alloc _ _ _ (by simp)];exact heap_alloc_new w _
 ·have:=heap_alloc_new (w.alloc (.cells a s)) (.cells b t);simpa using this
theorem zCB (w:World) (a b c:Array Value) (s t u:TypeId):(((w.alloc (.cells a s)).alloc (.cells b t)).alloc (.cells c u)).heap[w.heap.size]?=some (.cells a s (0,0))∧(((w.alloc (.cells a s)).alloc (.cells b t)).alloc (.cells c u)).heap[w.heap.size+1]?=some (.cells b t (0,0))∧(((w.alloc (.cells a s)).alloc (.cells b t)).alloc (.cells c u)).heap[w.heap.size+2]?=some (.cells c u (0,0)) ∧
  (((w.alloc (.cells a s)).alloc (.cells b t)).alloc (.cells c u)).heap.size=w.heap.size+3∧Below w.heap.size w (((w.alloc (.cells a s)).alloc (.cells b t)).alloc (.cells c u)):=by
 obtain⟨h0,h1,h2,h3⟩:=zBN w a b s t
 refine⟨?_,?_,?_,by simp,h3.alloc (by simp;omega) _⟩
 ·rw[Below.heap_alloc _ _ _ (by omega)];exact h0
 ·rw[Below.heap_alloc _ _ _ (by omega)];exact h1
 ·have:=heap_alloc_new ((w.alloc (.cells a s)).alloc (.cells b t)) (.cells c u);simpa using this
theorem zJh (w:World) (a b c d:Array Value) (s t u v:TypeId):((((w.alloc (.cells a s)).alloc (.cells b t)).alloc (.cells c u)).alloc (.cells d v)).heap[w.heap.size]?=some (.cells a s (0,0))∧((((w.alloc (.cells a s)).alloc (.cells b t)).alloc (.cells c u)).alloc (.cells d v)).heap[w.heap.size+1]?=some (.cells b t (0,0))∧((((w.alloc (.cells a s)).alloc (.cells b t)).alloc (.cells c u)).alloc (.cells d v)).heap[w.heap.size+2]?=some (.cells c u (0,0)) ∧
  ((((w.alloc (.cells a s)).alloc (.cells b t)).alloc (.cells c u)).alloc (.cells d v)).heap[w.heap.size+3]?=some (.cells d v (0,0))∧((((w.alloc (.cells a s)).alloc (.cells b t)).alloc (.cells c u)).alloc (.cells d v)).heap.size=w.heap.size+4∧Below w.heap.size w ((((w.alloc (.cells a s)).alloc (.cells b t)).alloc (.cells c u)).alloc (.cells d v)):=by
 obtain⟨h0,h1,h2,h3,h4⟩:=zCB w a b c s t u
 refine⟨?_,?_,?_,?_,by simp,h4.alloc (by simp;omega) _⟩
 ·rw[Below.heap_alloc _ _ _ (by omega)];exact h0
 ·rw[Below.heap_alloc _ _ _ (by omega)];exact h1
 ·rw[Below.heap_alloc _ _ _ (by omega)];exact h2
 ·have:=heap_alloc_new (((w.alloc (.cells a s)).alloc (.cells b t)).alloc (.cells c u)) (.cells d v);simpa using this
theorem zMf (w:World) (a b c d e:Array Value) (s t u v x:TypeId):(((((w.alloc (.cells a s)).alloc (.cells b t)).alloc (.cells c u)).alloc (.cells d v)).alloc (.cells e x)).heap[w.heap.size]?=some (.cells a s (0,0))∧(((((w.alloc (.cells a s)).alloc (.cells b t)).alloc (.cells c u)).alloc (.cells d v)).alloc (.cells e x)).heap[w.heap.size+1]?=some (.cells b t (0,0))∧(((((w.alloc (.cells a s)).alloc (.cells b t)).alloc (.cells c u)).alloc (.cells d v)).alloc (.cells e x)).heap[w.heap.size+2]?=some (.cells c u (0,0)) ∧
  (((((w.alloc (.cells a s)).alloc (.cells b t)).alloc (.cells c u)).alloc (.cells d v)).alloc (.cells e x)).heap[w.heap.size+3]?=some (.cells d v (0,0))∧(((((w.alloc (.cells a s)).alloc (.cells b t)).alloc (.cells c u)).alloc (.cells d v)).alloc (.cells e x)).heap[w.heap.size+4]?=some (.cells e x (0,0))∧(((((w.alloc (.cells a s)).alloc (.cells b t)).alloc (.cells c u)).alloc (.cells d v)).alloc (.cells e x)).heap.size=w.heap.size+5∧Below w.heap.size w (((((w.alloc (.cells a s)).alloc (.cells b t)).alloc (.cells c u)).alloc (.cells d v)).alloc (.cells e x)):=by
 obtain⟨h0,h1,h2,h3,h4,h5⟩:=zJh w a b c d s t u v
 refine⟨?_,?_,?_,?_,?_,by simp,h5.alloc (by simp;omega) _⟩
 ·rw[Below.heap_alloc _ _ _ (by omega)];exact h0
 ·rw[Below.heap_alloc _ _ _ (by omega)];exact h1
 ·rw[Below.heap_alloc _ _ _ (by omega)];exact h2
 ·rw[Below.heap_alloc _ _ _ (by omega)];exact h3
 ·have:=heap_alloc_new ((((w.alloc (.cells a s)).alloc (.cells b t)).alloc (.cells c u)).alloc (.cells d v)) (.cells e x);simpa using this
theorem zEZ (gc gb gm n:Nat) (cs bh ms:List Nat) (w:World) (hc:RelAt w gc n cs) (hb:RelAt w gb n bh) (hm:RelAt w gm n ms) :
  Calls Tryz.prog 97 #[.agg #[.slice (some ⟨gc,0,none⟩) n n],.agg #[.slice (some ⟨gb,0,none⟩) n n],.agg #[.slice (some ⟨gm,0,none⟩) n n]] w fun e w'=>e=.returned (.bool (Q.zQT cs bh ms))∧Below w.heap.size w w':=by
 have HE:Hid (Q.zQT cs bh ms=!Q.loopsR (Q.thenR (Q.orR bh ms) cs)):=rfl
 obtain⟨k0,k1,k2,hsz,hbw⟩:=zCB w #[.slice (some ⟨gc,0,none⟩) n n] #[.slice (some ⟨gb,0,none⟩) n n] #[.slice (some ⟨gm,0,none⟩) n n] 68 68 68
 have RC:=zAa (hc.below hbw)
 have RB:=zAa (hb.below hbw)
 have RM:=zAa (hm.below hbw)
 have BW:=zAa hbw
 clear hc hb hm hbw
 go_enter Tryz.func97,Tryz.ntmps97
 go_upto_region 1 with fail
 generalize hE:(((w.alloc (.cells #[.slice (some ⟨gc,0,none⟩) n n] 68)).alloc (.cells #[.slice (some ⟨gb,0,none⟩) n n] 68)).alloc (.cells #[.slice (some ⟨gm,0,none⟩) n n] 68))=W at *
 obtain⟨c0,f0,l0⟩:=zAk k0
 obtain⟨c1,f1,l1⟩:=zAk k1
 obtain⟨c2,f2,l2⟩:=zAk k2
 clear k0 k1 k2 hE hsz
 go_region_held3 (fun w'=>w'.cell? ⟨w.heap.size,0,none⟩=some (.slice (some ⟨gc,0,none⟩) n n)∧w'.cell? ⟨w.heap.size+1,0,none⟩=some (.slice (some ⟨gb,0,none⟩) n n)∧w'.cell? ⟨w.heap.size+2,0,none⟩=some (.slice (some ⟨gm,0,none⟩) n n)) (first | exact⟨c0,c1,c2⟩ | exact⟨p0,p1,p2⟩ | exact⟨q0,q1,q2⟩ | exact⟨r0,r1,r2⟩) (first
  | (go_at_call 67;refine (zCg gb gm n bh ms _ (RB.out.below (Below.refl _ _).drew) (RM.out.below (Below.refl _ _).drew)).mono ?_;rintro e w1 ⟨g1,rfl,hg1,hb1⟩;have B1:Hid (Below W.heap.size W w1):=((Below.refl W.heap.size W).drew).trans (hb1.mono (by simp));have G1:=zAa hg1;have p0:=cfL B1.out l0 c0;have p1:=cfL B1.out l1 c1;have p2:=cfL B1.out l2 c2;clear hg1 hb1)
  | (go_at_call 113;refine (zBg g1 gc n _ cs _ G1.out (RC.out.below B1.out)).mono ?_;rintro e w2 ⟨g2,rfl,hg2,hb2⟩;have B2:Hid (Below W.heap.size W w2):=zAm B1.out (Nat.le_refl _) hb2;have G2:=zAa hg2;have q0:=cfL B2.out l0 c0;have q1:=cfL B2.out l1 c1;have q2:=cfL B2.out l2 c2;clear hg2 hb2)
  | (go_at_call 119;refine (zBk g2 n _ _ G2.out).mono ?_;rintro e w3 ⟨rfl,hb3⟩;have B3:Hid (Below W.heap.size W w3):=zAm B2.out (Nat.le_refl _) hb3;have r0:=cfL B3.out l0 c0;have r1:=cfL B3.out l1 c1;have r2:=cfL B3.out l2 c2;clear hb3))
 all_goals
  go_wp2
  go_ret
  rw[HE.out]
  exact⟨rfl,zAm BW.out (Nat.le_refl _) B3.out⟩
structure Fill (W0 wr:World) (b gn n:Nat) (t:List Nat):Prop where
 bel:Below W0.heap.size W0 wr
 rel:RelAt wr gn n t
 box:wr.heap[b]?=some (.cells #[.slice (some ⟨gn,0,none⟩) n n] 68 (0,0))
 ge:W0.heap.size≤gn
 gb:W0.heap.size≤b
theorem Fill.ne {W0 wr:World} {b gn n:Nat} {t:List Nat} (h:Fill W0 wr b gn n t):b≠gn:=fun e=>by
 have h1:=h.rel.at_
 unfold zAw at h1
 rw[← e,h.box] at h1;simp at h1
theorem Fill.keep {W0 wr w':World} {b gn n:Nat} {t:List Nat} (h:Fill W0 wr b gn n t) (hb:Below wr.heap.size wr w'):Fill W0 w' b gn n t :=
 ⟨h.bel.trans (hb.mono h.bel.size),h.rel.below hb,(hb.block b (Array.getElem?_eq_some_iff.1 h.box).1).trans h.box,h.ge,h.gb⟩
theorem Fill.alloc {W0 wr:World} {b gn n:Nat} {t:List Nat} (h:Fill W0 wr b gn n t) (o:Obj):Fill W0 (wr.alloc o) b gn n t:=h.keep ((Below.refl _ _).alloc (Nat.le_refl _) _)
theorem Fill.grown {W0 wr w':World} {b gn n:Nat} {t:List Nat} (h:Fill W0 wr b gn n t) {x y:Int} (hg:wr.grownBy w' (some gn)) (hs:zAw w' gn (Q.addR t x y)):Fill W0 w' b gn n (Q.addR t x y) :=
 ⟨h.bel.trans ⟨hg.os,hg.tape,hg.output,hg.size,fun i hi=>hg.block i (by have:=h.bel.size;omega) (by have:=h.ge;simp;omega)⟩,⟨hs,by rw[Q.zOJ];exact h.rel.len,Q.zOB h.rel.fits _ _⟩,(hg.block b (Array.getElem?_eq_some_iff.1 h.box).1 (by have:=h.ne;simpa using this)).trans h.box,h.ge,h.gb⟩
theorem Fill.relIn {W0 wr:World} {b gn n:Nat} {t:List Nat} (h:Fill W0 wr b gn n t):zDY wr b 0 gn n t:=by
 obtain⟨z0,_,z2⟩:=zAk h.box
 exact⟨z0,h.rel.at_,h.rel.len,z2,h.ne⟩
theorem Fill.start {W0 w1:World} {gn n:Nat} {t:List Nat} (hr:RelAt w1 gn n t) (hge:W0.heap.size≤gn) (hb:Below W0.heap.size W0 w1):Fill W0 (w1.alloc (.cells #[.slice (some ⟨gn,0,none⟩) n n] 68)) w1.heap.size gn n t :=
 ⟨hb.alloc hb.size _,hr.below ((Below.refl _ _).alloc (Nat.le_refl _) _),heap_alloc_new w1 _,hge,hb.size⟩
theorem Fill.out {w W0 wr:World} {b gn n r:Nat} {t:List Nat} (h:Fill W0 wr b gn n t) (hw:Below w.heap.size w W0) (hr:W0.heap[r]?=some (.cells #[.slice none 0 0] 68 (0,0))) (hwr:w.heap.size≤r) :
  zGp w (wr.setCell ⟨r,0,none⟩ (.slice (some ⟨gn,0,none⟩) n n)) n t (.returned (.agg #[.slice (some ⟨gn,0,none⟩) n n]))∧(wr.setCell ⟨r,0,none⟩ (.slice (some ⟨gn,0,none⟩) n n)).heap[r]?=some (.cells #[.slice (some ⟨gn,0,none⟩) n n] 68 (0,0)):=by
 have hrl:=(Array.getElem?_eq_some_iff.1 hr).1
 have hge:=h.ge
 have h1:wr.heap[r]?=some (.cells #[.slice none 0 0] 68 (0,0)):=(h.bel.block r hrl).trans hr
 refine⟨⟨gn,rfl,⟨h.rel.at_.of_block (Below.heap_setCell _ _ _ _ (by simp;omega)),h.rel.len,h.rel.fits⟩,(zAm hw (Nat.le_refl _) h.bel).setCell (p:=⟨r,0,none⟩) hwr _⟩,?_⟩
 rw[zAe h1];rfl
theorem Fill.cell {W0 wr:World} {b gn n:Nat} {t:List Nat} (h:Fill W0 wr b gn n t) {p:Addr} {v:Value} (hl:p.block<W0.heap.size) (hc:W0.cell? p=some v):wr.cell? p=some v:=(h.bel.cell (p:=p) hl).trans hc
theorem zBS.below {w w':World} {v:Value} {l:List Int} (h:zBS w v l) (hb:Below w.heap.size w w'):zBS w' v l:=by
 rcases h with h | ⟨g,cap,rfl,hc,hg⟩
 ·exact Or.inl h
 ·exact Or.inr ⟨g,cap,rfl,fun i hi=>(hb.cell (p:=⟨g,i,none⟩) hg).trans (hc i hi),Nat.lt_of_lt_of_le hg hb.size⟩
theorem zBS.form {w:World} {v:Value} {l:List Int} (h:zBS w v l):∃ a c,v=.slice a l.length c∧(0<l.length→∃ g,a=some ⟨g,0,none⟩∧g<w.heap.size∧∀ i (h:i<l.length),w.cell? ⟨g,i,none⟩=some (.int .i64 l[i])):=by
 rcases h with ⟨rfl,rfl⟩ | ⟨g,cap,rfl,hc,hg⟩
 ·exact⟨none,0,rfl,fun h=>by simp at h⟩
 ·exact⟨_,_,rfl,fun _=>⟨g,rfl,hg,hc⟩⟩
theorem zAG (B:Nat) (w:World) (n:Nat):Below B w (w.drewN n):=by
 induction n with
 | zero=>exact Below.refl _ _
 | succ n ih=>exact⟨ih.os,ih.tape,ih.output,ih.size,ih.block⟩
theorem zAV.grown {w w':World} {g gn:Nat} {e:Q.Ev} {l:List Nat} (h:zAV w g e) (hs:zAw w gn l) (hg:w.grownBy w' (some gn)):zAV w' g e:=by
 have hne:g≠gn:=fun he=>by
  unfold zAV at h
  unfold zAw at hs
  rw[he,hs] at h;simp at h
 have hl:=h.lt
 unfold zAV at *
 rw[hg.block g hl (by simpa using hne)];exact h
theorem zAI (l:List Int) (i:Nat) (h:i<l.length) (d:Int):l.getD i d=l[i]:=by simp[List.getD,List.getElem?_eq_getElem h]
namespace Q
def zQI (rs:List Int) (r:List Nat) (i:Nat):List Nat:=addR r (i:Int) (rs.getD i (-1))
end Q
theorem zIc (a:FA) (f:Q.Facts) (v:Value) (rs:List Int) (w:World) (hf:FactsIn w a f) (hv:zBS w v rs) (hl:rs.length<10000) :
  Calls Tryz.prog 62 #[.agg (zAp a),v] w fun e w'=>zGp w w' a.n (f.reads rs) e:=by
 have HFE:Hid (f.reads rs=(List.range rs.length).foldl (Q.zQI rs) (Q.newR a.n)):=by unfold Hid Q.Facts.reads;rw[hf.len];rfl
 obtain⟨va,vc,rfl,hva⟩:=hv.form
 obtain⟨x,c,hev,hx⟩:=hf.form
 have hn64:=hf.n64
 have hln:=hf.len
 obtain⟨n,ev,g1,g2,g3,g4,g5,g6,g7,g8,g9⟩:=a
 simp only at hev hn64 hln hx
 subst hev
 simp only[zAp]
 simp only at HFE
 obtain⟨k0,k1,hsz,hbw⟩:=zBN w #[.slice x n c,.slice (some ⟨g1,0,none⟩) n n,.slice (some ⟨g2,0,none⟩) n n,.slice (some ⟨g3,0,none⟩) n n,.slice (some ⟨g4,0,none⟩) n n,.slice (some ⟨g5,0,none⟩) n n,.slice (some ⟨g6,0,none⟩) n n,.slice (some ⟨g7,0,none⟩) n n,.slice (some ⟨g8,0,none⟩) n n,.slice (some ⟨g9,0,none⟩) n n] #[.slice none 0 0] 70 68
 have BW0:=zAa hbw
 clear hbw hf hv hx
 go_enter Tryz.func62,Tryz.ntmps62
 go_upto_region 1 with fail
 generalize hE:(w.alloc (.cells #[.slice x n c,.slice (some ⟨g1,0,none⟩) n n,.slice (some ⟨g2,0,none⟩) n n,.slice (some ⟨g3,0,none⟩) n n,.slice (some ⟨g4,0,none⟩) n n,.slice (some ⟨g5,0,none⟩) n n,.slice (some ⟨g6,0,none⟩) n n,.slice (some ⟨g7,0,none⟩) n n,.slice (some ⟨g8,0,none⟩) n n,.slice (some ⟨g9,0,none⟩) n n] 70)).alloc (.cells #[.slice none 0 0] 68)=W0 at *
 have c00:=ceL k0 0 _ rfl
 obtain⟨c1,f1,l1⟩:=zAk k1
 have l0:w.heap.size<W0.heap.size:=by omega
 have K1:=zAa k1
 clear hE k0 k1
 go_wp2_with (first | (go_at_call 109;refine (zBv n _ hn64).mono ?_;rintro e w1 ⟨gn,rfl,hsn,hgn,hll,hfn,hb1⟩;have HS:=zAa (Fill.start ⟨hsn,hll,hfn⟩ hgn hb1);have hz1:=hb1.size;clear hsn hb1 hll hfn))
 go_loopw [14] (fun i wr=>∃ (k:Nat) (t:List Nat),k≤rs.length∧i=.int .i64 k∧Hid (t=(List.range k).foldl (Q.zQI rs) (Q.newR n))∧Hid (Fill W0 wr w1.heap.size gn n t)) (fun i _=>rs.length-(intOf i).toNat)
 case atStart=>exact⟨0,_,Nat.zero_le _,rfl,rfl,HS⟩
 case round =>
  obtain⟨k,t,hk,rfl,HT,HI⟩:=hrel
  have bt:=zAk HI.out.box
  obtain⟨b0,b1,b2⟩:=bt
  by_cases hlt:k<rs.length
  ·have hin:(k:Int)<(rs.length:Int):=by omega
   obtain⟨g,rfl,hg,hcs⟩:=hva (by omega)
   have hgw:g<W0.heap.size:=by omega
   have hc:wr.cell? ⟨g,k,none⟩=some (.int .i64 rs[k]):=HI.out.cell hgw ((BW0.out.cell (p:=⟨g,k,none⟩) hg).trans (hcs k hlt))
   have hgwr:g<wr.heap.size:=Nat.lt_of_lt_of_le hgw HI.out.bel.size
   have HN:Hid (Q.addR t (k:Int) rs[k]=(List.range (k+1)).foldl (Q.zQI rs) (Q.newR n)):=by unfold Hid;rw[Q.zNY,← HT.out,Q.zQI,zAI rs k hlt]
   generalize rs[k]=y at *
   go_wp2_with (first | (go_at_call 110;refine (zBC w1.heap.size 0 gn n t (k:Int) y _ HI.out.relIn HI.out.rel.fits).mono ?_;rintro e wc ⟨rfl,hsc,hgc⟩;have HJ:=zAa (HI.out.grown hgc hsc)))
   go_roundw
   case rel=>exact⟨k+1,_,by omega,by go_num,HN,HJ⟩
   case measure=>simp[intOf];omega
  ·have hkn:k=rs.length:=by omega
   have HE2:Hid (t=f.reads rs):=by unfold Hid;rw[HFE.out,HT.out,hkn]
   obtain⟨q1,q2⟩:=HI.out.out BW0.out K1.out (by omega)
   rw[HE2.out] at q1
   go_wp2_with (first | (refine zAF (.tmp 5) rfl rfl w1.heap.size _ rfl HI.out.box ?_) | (refine zAU (.tmp 4) (.tmp 23) rfl rfl (w.heap.size+1) _ _ rfl rfl ((HI.out.bel.block _ l1).trans K1.out) rfl ?_))
   refine zBB (p:=4) (w.heap.size+1) _ (by kernel_rfl) rfl q2 rfl q1
end Go.Proofs.YtgceflcbckjjiaaGreatDoor
namespace Go.Proofs.YtgceflcbckjjiaaGreatDoor
namespace Q
theorem cmp_trans:∀ {a b c:List Int},cmp a b<0→cmp b c<0→cmp a c<0
 | [],[],c,h,k=>by simp[cmp] at h
 | [],b::bs,[],h,k=>by simp[cmp] at k
 | [],b::bs,c::cs,h,k=>by simp[cmp]
 | a::x,[],c,h,k=>by simp[cmp] at h
 | a::x,b::bs,[],h,k=>by simp[cmp] at k
 | a::x,b::bs,c::cs,h,k=>by
  simp only[cmp] at h k ⊢
  by_cases h1:a=b
  ·subst h1
   by_cases h2:a=c
   ·subst h2
    simp at h k ⊢
    exact cmp_trans h k
   ·simp[h2] at k ⊢;exact k
  ·by_cases h2:b=c
   ·subst h2
    simp[h1] at h ⊢;exact h
   ·simp[h1,h2] at h k
    have h3:a≠c:=by omega
    simp[h3];omega
theorem cmp_anti:∀ {a b:List Int},0<cmp a b→cmp b a<0
 | [],[],h=>by simp[cmp] at h
 | [],b::bs,h=>by simp[cmp] at h;omega
 | a::x,[],h=>by simp[cmp]
 | a::x,b::bs,h=>by
  simp only[cmp] at h ⊢
  by_cases h1:a=b
  ·subst h1;simp at h ⊢;exact cmp_anti h
  ·have h2:b≠a:=fun e=>h1 e.symm
   simp[h1] at h;simp[h2];omega
def zQx (l:List (List Int)):Prop:=l.Pairwise fun a b=>cmp a b<0
def posOf (l:List (List Int)) (r:List Int):Nat:=(l.takeWhile fun x=>decide (cmp x r<0)).length
theorem zQX (l:List (List Int)) (r:List Int):posOf l r≤l.length:=by
 induction l with
 | nil=>simp[posOf]
 | cons x q ih =>
  unfold posOf at *
  rw[List.takeWhile_cons]
  split
  ·simp;omega
  ·simp
theorem pos_eq {r:List Int}:∀ {l:List (List Int)} {p:Nat},p≤l.length→(∀ i (h:i<l.length),i<p→cmp l[i] r<0)→(∀ h:p<l.length,¬ cmp l[p] r<0)→posOf l r=p
 | [],p,h,_,_=>by simp at h;subst h;rfl
 | x::q,0,h,h1,h2=>by
  have:=h2 (by simp)
  simp at this
  unfold posOf;rw[List.takeWhile_cons,decide_eq_false (by omega)];rfl
 | x::q,p+1,h,h1,h2=>by
  have hx:=h1 0 (by simp) (by omega)
  simp at hx
  have ih:posOf q r=p:=pos_eq (by simpa using h) (fun i hi hp=>by have:=h1 (i+1) (by simpa using hi) (by omega);simpa using this) (fun hp=>by have:=h2 (by simpa using hp);simpa using this)
  unfold posOf at *;rw[List.takeWhile_cons,decide_eq_true hx];simp[ih]
theorem ins_at {r:List Int}:∀ (l:List (List Int)),ins l r=if h:posOf l r<l.length then (if cmp l[posOf l r] r=0 then l else l.take (posOf l r)++r::l.drop (posOf l r)) else l++[r]
 | []=>rfl
 | x::q=>by
  have ih:=ins_at (r:=r) q
  by_cases hx:cmp x r<0
  ·have e:posOf (x::q) r=posOf q r+1:=by unfold posOf;rw[List.takeWhile_cons,decide_eq_true hx];rfl
   rw[ins,if_pos hx,ih]
   by_cases hl:posOf q r<q.length
   ·have hl2:posOf (x::q) r<(x::q).length:=by simp;omega
    rw[dif_pos hl,dif_pos hl2]
    simp only[e,List.getElem_cons_succ]
    split
    ·rfl
    ·simp
   ·have hl2:¬ posOf (x::q) r<(x::q).length:=by simp;omega
    rw[dif_neg hl,dif_neg hl2];rfl
  ·have e:posOf (x::q) r=0:=by unfold posOf;rw[List.takeWhile_cons,decide_eq_false hx];rfl
   have hl2:posOf (x::q) r<(x::q).length:=by simp;omega
   rw[ins,if_neg hx,dif_pos hl2]
   simp only[e,List.getElem_cons_zero]
   by_cases h0:cmp x r=0
   ·simp[h0]
   ·simp[h0]
theorem ins_mem {r y:List Int}:∀ {l:List (List Int)},y∈ins l r→y=r∨y∈l
 | [],h=>by simp[ins] at h;exact Or.inl h
 | x::q,h=>by
  rw[ins] at h
  split at h
  ·rcases List.mem_cons.1 h with rfl | h
   ·exact Or.inr (by simp)
   ·rcases ins_mem h with h | h
    ·exact Or.inl h
    ·exact Or.inr (by simp[h])
  ·split at h
   ·exact Or.inr h
   ·rcases List.mem_cons.1 h with rfl | h
    ·exact Or.inl rfl
    ·exact Or.inr h
theorem ins_rising {r:List Int}:∀ {l:List (List Int)},zQx l→zQx (ins l r)
 | [],_=>by simp[ins,zQx]
 | x::q,h=>by
  have hq:zQx q:=(List.pairwise_cons.1 h).2
  have hx:=(List.pairwise_cons.1 h).1
  rw[ins]
  split
  ·rename_i hlt
   refine List.pairwise_cons.2 ⟨fun y hy=>?_,ins_rising hq⟩
   rcases ins_mem hy with rfl | hy
   ·exact hlt
   ·exact hx y hy
  ·rename_i hge
   split
   ·exact h
   ·rename_i hne
    have h0:¬ cmp x r=0:=by simpa using hne
    have hrx:cmp r x<0:=cmp_anti (by omega)
    refine List.pairwise_cons.2 ⟨fun y hy=>?_,h⟩
    rcases List.mem_cons.1 hy with rfl | hy
    ·exact hrx
    ·exact cmp_trans hrx (hx y hy)
theorem rising_lt {l:List (List Int)} (h:zQx l) (r:List Int) (i m:Nat) (hm:m<l.length) (hi:i<l.length) (him:i≤m) (hc:cmp l[m] r<0):cmp l[i] r<0:=by
 by_cases e:i=m
 ·subst e;exact hc
 ·exact cmp_trans (List.pairwise_iff_getElem.1 h i m hi hm (by omega)) hc
theorem rising_ge {l:List (List Int)} (h:zQx l) (r:List Int) (i m:Nat) (hm:m<l.length) (hi:i<l.length) (him:m≤i) (hc:¬ cmp l[m] r<0):¬ cmp l[i] r<0 :=
 fun hlt=>hc (rising_lt h r m i hi hm him hlt)
end Q
end Go.Proofs.YtgceflcbckjjiaaGreatDoor
