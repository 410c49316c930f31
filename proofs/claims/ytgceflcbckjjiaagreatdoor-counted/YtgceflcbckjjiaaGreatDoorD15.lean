import Derived.Deep.CutRange
import Derived.Test.YtgceflcbckjjiaaGreatDoorD14
set_option linter.unusedVariables false
set_option linter.unusedSimpArgs false
set_option maxHeartbeats 12800000
namespace Go.Proofs.YtgceflcbckjjiaaGreatDoor
open Go Go.RowKit
set_option maxRecDepth 100000
def zAO (l:List Q.Ev):List Value:=l.flatMap fun e=>(zAe e).toList
theorem zAM (l:List Q.Ev):(zAO l).length=l.length*10:=by
 induction l with
 | nil=>rfl
 | cons a r ih=>simp[zAO,zAe] at *;omega
theorem zCS (a b:List Q.Ev):zAO (a++b)=zAO a++zAO b:=by simp[zAO]
theorem zEk (e:Q.Ev):zAO [e]=(zAe e).toList:=by simp[zAO]
theorem zEl (l:List Q.Ev):∀ (k:Nat) (h:k<l.length) (i:Nat),i<10→(zAO l)[k*10+i]?=(zAe l[k]).toList[i]?:=by
 induction l with
 | nil=>intro k h;simp at h
 | cons a r ih =>
  intro k h i hi
  have e:zAO (a::r)=(zAe a).toList++zAO r:=by simp[zAO]
  have hl:(zAe a).toList.length=10:=rfl
  rw[e]
  cases k with
  | zero =>
   rw[List.getElem?_append_left (by omega)];simp
  | succ k =>
   rw[List.getElem?_append_right (by omega),hl,show (k+1)*10+i-10=k*10+i by omega,ih k (by simpa using h) i hi]
   simp
theorem zDM (l:List Q.Ev):∀ u∈zAO l,u.oneCell'=true:=by
 intro u hu
 simp only[zAO,List.mem_flatMap,zAe] at hu
 obtain⟨e,_,he⟩:=hu
 simp at he
 rcases he with rfl | rfl | rfl | rfl | rfl | rfl | rfl | rfl | rfl | rfl<;>rfl
def zAZ (w:World) (v:Value) (es:List Q.Ev):Prop:=w.ownsRow 0 158 10 v es.length (zAO es)
theorem zAZ.keep {w w':World} {v:Value} {es:List Q.Ev} (h:zAZ w v es) (hk:∀ k,k<w.heap.size→w'.heap[k]?=w.heap[k]?):zAZ w' v es:=zAd h (fun k e=>hk k (h.lt k e).2)
theorem zAZ.below {w w':World} {v:Value} {es:List Q.Ev} (h:zAZ w v es) (hb:Below w.heap.size w w'):zAZ w' v es:=h.keep fun k hk=>hb.block k hk
theorem zAZ.form {w:World} {v:Value} {es:List Q.Ev} (h:zAZ w v es):∃ a c,v=.slice a es.length c∧(0<es.length→∃ b,a=some ⟨b,0,none⟩∧b<w.heap.size):=by
 rcases h.2 with ⟨e,h0⟩ | ⟨k,c,cur,e,_⟩
 ·exact⟨none,0,by rw[e,h0],fun h=>by omega⟩
 ·exact⟨_,c,e,fun _=>⟨k,rfl,(h.lt k (by rw[e];rfl)).2⟩⟩
theorem zAZ.range {w:World} {b n c:Nat} {es:List Q.Ev} (h:zAZ w (.slice (some ⟨b,0,none⟩) n c) es) (hn:n=es.length) (k:Nat) (hk:k<es.length):w.rangeAt b (k*10) (zAe es[k]).toList:=by
 intro j v hv
 have hj:j<10:=(List.getElem?_eq_some_iff.1 hv).1
 unfold zAZ at h
 rw[hn] at h
 rw[h.cellAt _ (by omega),zEl es k hk j hj];exact hv
theorem zEm (es:List Q.Ev) (k:Nat) (h:k<es.length):Q.ev es k=es[k]:=by simp[Q.ev,h]
theorem zAZ.range' {w:World} {b n c:Nat} {es:List Q.Ev} (h:zAZ w (.slice (some ⟨b,0,none⟩) n c) es) (hn:n=es.length) (k:Nat) (hk:k<es.length):w.rangeAt b (k*10) (zAe (Q.ev es k)).toList:=by
 rw[zEm es k hk];exact h.range hn k hk
theorem zAg {ops:Array Oper} {rest:List Oper} {op:Oper} {a:Act} {w:World} {R:Exit→Act→World→Prop} (x:Operand) (hgd:op.guard=none) (ho:op.op=.load 158 x)
  (b o:Nat) (e:Q.Ev) (hx:a.eval x=.pointer (some ⟨b,o,none⟩)) (hr:w.rangeAt b o (zAe e).toList)
  (h:wpList Tryz.prog ops R rest (a.put op.dst (.agg #[.int .i64 e.kind,.int .i64 e.thread,.int .i64 e.block,.int .i64 e.var,.int .i64 e.value,.int .i64 e.order,.int .i64 e.scope,.int .i64 e.bars,.bool e.step,.int .u64 (e.hangs:Nat)])) w):wpList Tryz.prog ops R (op::rest) a w :=
 wpList_load_mid hgd _ x ho b o hx (zAe e).toList _ hr Tryz.underlying158 rfl (by kernel_rfl) h
structure RelAt (w:World) (g n:Nat) (l:List Nat):Prop where
 at_:zAs w g l
 len:l.length=n
 fits:Q.Fits l
theorem RelAt.lt {w:World} {g n:Nat} {l:List Nat} (h:RelAt w g n l):g<w.heap.size:=h.at_.lt
theorem RelAt.below {w w':World} {g n:Nat} {l:List Nat} (h:RelAt w g n l) (hb:Below w.heap.size w w'):RelAt w' g n l:=⟨h.at_.below hb,h.len,h.fits⟩
theorem RelAt.keep {w w':World} {g n:Nat} {l:List Nat} (h:RelAt w g n l) (hk:∀ k,k<w.heap.size→w'.heap[k]?=w.heap[k]?):RelAt w' g n l:=⟨h.at_.of_block (hk g h.lt),h.len,h.fits⟩
structure FA where
 n:Nat
 ev:Value
 g1:Nat
 g2:Nat
 g3:Nat
 g4:Nat
 g5:Nat
 g6:Nat
 g7:Nat
 g8:Nat
 g9:Nat
def zAn (a:FA):Array Value:=#[a.ev,.slice (some ⟨a.g1,0,none⟩) a.n a.n,.slice (some ⟨a.g2,0,none⟩) a.n a.n,.slice (some ⟨a.g3,0,none⟩) a.n a.n,.slice (some ⟨a.g4,0,none⟩) a.n a.n,.slice (some ⟨a.g5,0,none⟩) a.n a.n,.slice (some ⟨a.g6,0,none⟩) a.n a.n,.slice (some ⟨a.g7,0,none⟩) a.n a.n,.slice (some ⟨a.g8,0,none⟩) a.n a.n,.slice (some ⟨a.g9,0,none⟩) a.n a.n]
structure FactsIn (w:World) (a:FA) (f:Q.Facts):Prop where
 ev:zAZ w a.ev f.events
 len:f.events.length=a.n
 n64:a.n≤64
 r1:RelAt w a.g1 a.n f.ahead
 r2:RelAt w a.g2 a.n f.strong
 r3:RelAt w a.g3 a.n f.gathers
 r4:RelAt w a.g4 a.n f.fences
 r5:RelAt w a.g5 a.n f.rows
 r6:RelAt w a.g6 a.n f.hangs
 r7:RelAt w a.g7 a.n f.halves
 r8:RelAt w a.g8 a.n f.sends
 r9:RelAt w a.g9 a.n f.takes
theorem FactsIn.keep {w w':World} {a:FA} {f:Q.Facts} (h:FactsIn w a f) (hk:∀ k,k<w.heap.size→w'.heap[k]?=w.heap[k]?):FactsIn w' a f :=
 ⟨h.ev.keep hk,h.len,h.n64,h.r1.keep hk,h.r2.keep hk,h.r3.keep hk,h.r4.keep hk,h.r5.keep hk,h.r6.keep hk,h.r7.keep hk,h.r8.keep hk,h.r9.keep hk⟩
theorem FactsIn.below {w w':World} {a:FA} {f:Q.Facts} (h:FactsIn w a f) (hb:Below w.heap.size w w'):FactsIn w' a f:=h.keep fun k hk=>hb.block k hk
theorem FactsIn.form {w:World} {a:FA} {f:Q.Facts} (h:FactsIn w a f):∃ x c,a.ev=.slice x a.n c∧(0<a.n→∃ b,x=some ⟨b,0,none⟩∧b<w.heap.size):=by
 have:=h.ev.form
 rw[h.len] at this;exact this
theorem zEA {P:Program} (w:World) (dT sT ty elem:TypeId) (b o dLen dCap:Nat) (a:Addr) (sLen sCap sz:Nat) (cs:List Value)
  (hu:P.underlying dT=some (.slice elem)) (hs:(P.info? elem).map (·.size)=some sz) (hn:cs.length=Nat.min sLen dLen*sz)
  (hsrc:∀ j v,cs[j]?=some v→w.cell? (a.add j)=some v) (hc:∀ j,j<cs.length→(w.cell? ⟨b,o+j,none⟩).isSome=true) (hf:∀ j,j<cs.length→w.frozen? ⟨b,o+j,none⟩=false) (h1:∀ v∈cs,v.oneCell'=true) :
  (Builtin.copy_ #[dT,sT] ty #[.slice (some ⟨b,o,none⟩) dLen dCap,.slice (some a) sLen sCap]).run P w=.ok (goInt (Nat.min sLen dLen)) (w.setCells b o cs):=by
 have hl:=run_loadCells_list (P:=P) w a cs hsrc
 have hst:=run_storeCells_cells (P:=P) b o cs 0 w (by simpa using hc) (by simpa using hf) h1
 cases hq:P.info? elem with
 | none=>simp[hq] at hs
 | some i =>
  have hi:i.size=sz:=by simpa [hq] using hs
  simp[Builtin.copy_,run_underlying hu,Builtin.lenOf,Builtin.firstCells,sizeOf,typeInfo,hq,hi,← hn,hl,hst]
def zGh (w w':World) (n:Nat) (l:List Nat) (e:Ending):Prop:=∃ g,e=.returned (.agg #[.slice (some ⟨g,0,none⟩) n n])∧RelAt w' g n l∧Below w.heap.size w w'
theorem zCK.relR {w w':World} {n:Nat} {l:List Nat} {e:Ending} (h:zCK w w' n l e):zGh w w' n l e:=by
 obtain⟨g,rfl,h1,_,h3,h4,h5⟩:=h
 exact⟨g,rfl,⟨h1,h3,h4⟩,h5⟩
theorem zDN (gr go n:Nat) (r o:List Nat) (w:World) (hr:RelAt w gr n r) (ho:RelAt w go n o) :
  Calls Tryz.prog 67 #[.agg #[.slice (some ⟨gr,0,none⟩) n n],.agg #[.slice (some ⟨go,0,none⟩) n n]] w fun e w'=>zGh w w' n (Q.orR r o) e :=
 (zIu gr go n r o w hr.at_ ho.at_ hr.len ho.len hr.fits ho.fits).mono fun _ _ h=>h.relR
theorem zFD (gr go n:Nat) (r o:List Nat) (w:World) (hr:RelAt w gr n r) (ho:RelAt w go n o) :
  Calls Tryz.prog 114 #[.agg #[.slice (some ⟨gr,0,none⟩) n n],.agg #[.slice (some ⟨go,0,none⟩) n n]] w fun e w'=>zGh w w' n (Q.andR r o) e :=
 (zIJ gr go n r o w hr.at_ ho.at_ hr.len ho.len hr.fits ho.fits).mono fun _ _ h=>h.relR
theorem zBF (gr go n:Nat) (r o:List Nat) (w:World) (hr:RelAt w gr n r) (ho:RelAt w go n o) :
  Calls Tryz.prog 113 #[.agg #[.slice (some ⟨gr,0,none⟩) n n],.agg #[.slice (some ⟨go,0,none⟩) n n]] w fun e w'=>zGh w w' n (Q.thenR r o) e :=
 (zIc gr go n r o w hr.at_ ho.at_ hr.len ho.len hr.fits ho.fits).mono fun _ _ h=>h.relR
theorem zGH (gr n:Nat) (r:List Nat) (w:World) (hr:RelAt w gr n r) :
  Calls Tryz.prog 144 #[.agg #[.slice (some ⟨gr,0,none⟩) n n]] w fun e w'=>zGh w w' n (Q.zLF r) e :=
 (zGG gr n r w hr.at_ hr.len hr.fits).mono fun _ _ h=>h.relR
theorem zCI (gr n:Nat) (r:List Nat) (w:World) (hr:RelAt w gr n r) :
  Calls Tryz.prog 68 #[.agg #[.slice (some ⟨gr,0,none⟩) n n]] w fun e w'=>zGh w w' n (Q.zLl r) e :=
 (zEj gr n r w hr.at_ hr.len hr.fits).mono fun _ _ h=>h.relR
theorem zBY (gr n:Nat) (r:List Nat) (w:World) (hr:RelAt w gr n r) :
  Calls Tryz.prog 119 #[.agg #[.slice (some ⟨gr,0,none⟩) n n]] w fun e w'=>e=.returned (.bool (Q.zKG r))∧Below w.heap.size w w' :=
 zEY gr n r w hr.at_ hr.len hr.fits
theorem zDO (gr n:Nat) (r:List Nat) (w:World) (hr:RelAt w gr n r) :
  Calls Tryz.prog 111 #[.agg #[.slice (some ⟨gr,0,none⟩) n n]] w fun e w'=>e=.returned (.bool (Q.zLX r))∧Below w.heap.size w w' :=
 zFC gr n r w hr.at_ hr.len hr.fits
theorem zBR (gr n:Nat) (r:List Nat) (a b:Int) (w:World) (hr:RelAt w gr n r) :
  Calls Tryz.prog 112 #[.agg #[.slice (some ⟨gr,0,none⟩) n n],.int .i64 a,.int .i64 b] w fun e w'=>e=.returned (.bool (Q.hasR r a b))∧Below w.heap.size w w' :=
 zBT gr n r a b w hr.at_ hr.len.symm hr.fits
theorem zAr {w w1 w2:World} {B:Nat} (h:Below B w w1) (hB:B≤w.heap.size) (k:Below w1.heap.size w1 w2):Below B w w2:=h.trans (k.mono (Nat.le_trans hB h.size))
theorem zFE (a:FA) (f:Q.Facts) (gr:Nat) (rd:List Nat) (w:World) (hf:FactsIn w a f) (hr:RelAt w gr a.n rd) :
  Calls Tryz.prog 64 #[.agg (zAn a),.agg #[.slice (some ⟨gr,0,none⟩) a.n a.n]] w fun e w'=>e=.returned (.bool (f.hangsOn rd))∧Below w.heap.size w w':=by
 have HE:Hid (f.hangsOn rd=Q.zLX (Q.orR f.hangs rd)):=rfl
 have BB:Hid (∀ o p,Below w.heap.size w ((w.alloc o).alloc p)):=fun o p=>((Below.refl _ _).alloc (Nat.le_refl _) _).alloc (by simp) _
 have R6:=zAa hf.r6
 have RR:=zAa hr
 obtain⟨x,c,hev,hx⟩:=hf.form
 clear hf hr hx
 obtain⟨n,ev,g1,g2,g3,g4,g5,g6,g7,g8,g9⟩:=a
 simp only at hev R6 RR
 subst hev
 simp only[zAn]
 go_enter Tryz.func64,Tryz.ntmps64
 go_wp2_with (first
  | (go_at_call 67;refine (zDN g6 gr n f.hangs rd _ (R6.out.below (BB.out _ _)) (RR.out.below (BB.out _ _))).mono ?_;rintro e w1 ⟨q1,rfl,hq1,hb1⟩;have B1:=zAa ((BB.out _ _).trans (hb1.mono (by simp;omega)));have Q1:=zAa hq1;clear hq1 hb1)
  | (go_at_call 111;(refine (zDO q1 n _ _ Q1.out).mono ?_;rintro e w2 ⟨rfl,hb2⟩;have B2:=zAa (zAr B1.out (Nat.le_refl _) hb2))))
 go_ret
 rw[HE.out];exact⟨rfl,B2.out⟩
theorem zBC (w:World) (a:Array Value) (s:TypeId):(w.alloc (.cells a s)).heap[w.heap.size]?=some (.cells a s (0,0))∧(w.alloc (.cells a s)).heap.size=w.heap.size+1∧Below w.heap.size w (w.alloc (.cells a s)) :=
 ⟨heap_alloc_new w _,by simp,(Below.refl _ _).alloc (Nat.le_refl _) _⟩
theorem zCd (w:World) (a b:Array Value) (s t:TypeId):((w.alloc (.cells a s)).alloc (.cells b t)).heap[w.heap.size]?=some (.cells a s (0,0))∧((w.alloc (.cells a s)).alloc (.cells b t)).heap[w.heap.size+1]?=some (.cells b t (0,0))∧((w.alloc (.cells a s)).alloc (.cells b t)).heap.size=w.heap.size+2∧Below w.heap.size w ((w.alloc (.cells a s)).alloc (.cells b t)):=by
 refine⟨?_,?_,by simp,((Below.refl _ _).alloc (Nat.le_refl _) _).alloc (by simp) _⟩
 ·rw[Below.heap_alloc _ _ _ (by simp)];exact heap_alloc_new w _
 ·have:=heap_alloc_new (w.alloc (.cells a s)) (.cells b t);simpa using this
theorem zEn (w:World) (a b c:Array Value) (s t u:TypeId):(((w.alloc (.cells a s)).alloc (.cells b t)).alloc (.cells c u)).heap[w.heap.size]?=some (.cells a s (0,0))∧(((w.alloc (.cells a s)).alloc (.cells b t)).alloc (.cells c u)).heap[w.heap.size+1]?=some (.cells b t (0,0))∧(((w.alloc (.cells a s)).alloc (.cells b t)).alloc (.cells c u)).heap[w.heap.size+2]?=some (.cells c u (0,0)) ∧
  (((w.alloc (.cells a s)).alloc (.cells b t)).alloc (.cells c u)).heap.size=w.heap.size+3∧Below w.heap.size w (((w.alloc (.cells a s)).alloc (.cells b t)).alloc (.cells c u)):=by
 obtain⟨h0,h1,h2,h3⟩:=zCd w a b s t
 refine⟨?_,?_,?_,by simp,h3.alloc (by simp;omega) _⟩
 ·rw[Below.heap_alloc _ _ _ (by omega)];exact h0
 ·rw[Below.heap_alloc _ _ _ (by omega)];exact h1
 ·have:=heap_alloc_new ((w.alloc (.cells a s)).alloc (.cells b t)) (.cells c u);simpa using this
theorem zIv (w:World) (a b c d:Array Value) (s t u v:TypeId):((((w.alloc (.cells a s)).alloc (.cells b t)).alloc (.cells c u)).alloc (.cells d v)).heap[w.heap.size]?=some (.cells a s (0,0))∧((((w.alloc (.cells a s)).alloc (.cells b t)).alloc (.cells c u)).alloc (.cells d v)).heap[w.heap.size+1]?=some (.cells b t (0,0))∧((((w.alloc (.cells a s)).alloc (.cells b t)).alloc (.cells c u)).alloc (.cells d v)).heap[w.heap.size+2]?=some (.cells c u (0,0)) ∧
  ((((w.alloc (.cells a s)).alloc (.cells b t)).alloc (.cells c u)).alloc (.cells d v)).heap[w.heap.size+3]?=some (.cells d v (0,0))∧((((w.alloc (.cells a s)).alloc (.cells b t)).alloc (.cells c u)).alloc (.cells d v)).heap.size=w.heap.size+4∧Below w.heap.size w ((((w.alloc (.cells a s)).alloc (.cells b t)).alloc (.cells c u)).alloc (.cells d v)):=by
 obtain⟨h0,h1,h2,h3,h4⟩:=zEn w a b c s t u
 refine⟨?_,?_,?_,?_,by simp,h4.alloc (by simp;omega) _⟩
 ·rw[Below.heap_alloc _ _ _ (by omega)];exact h0
 ·rw[Below.heap_alloc _ _ _ (by omega)];exact h1
 ·rw[Below.heap_alloc _ _ _ (by omega)];exact h2
 ·have:=heap_alloc_new (((w.alloc (.cells a s)).alloc (.cells b t)).alloc (.cells c u)) (.cells d v);simpa using this
theorem zIX (w:World) (a b c d e:Array Value) (s t u v x:TypeId):(((((w.alloc (.cells a s)).alloc (.cells b t)).alloc (.cells c u)).alloc (.cells d v)).alloc (.cells e x)).heap[w.heap.size]?=some (.cells a s (0,0))∧(((((w.alloc (.cells a s)).alloc (.cells b t)).alloc (.cells c u)).alloc (.cells d v)).alloc (.cells e x)).heap[w.heap.size+1]?=some (.cells b t (0,0))∧(((((w.alloc (.cells a s)).alloc (.cells b t)).alloc (.cells c u)).alloc (.cells d v)).alloc (.cells e x)).heap[w.heap.size+2]?=some (.cells c u (0,0)) ∧
  (((((w.alloc (.cells a s)).alloc (.cells b t)).alloc (.cells c u)).alloc (.cells d v)).alloc (.cells e x)).heap[w.heap.size+3]?=some (.cells d v (0,0))∧(((((w.alloc (.cells a s)).alloc (.cells b t)).alloc (.cells c u)).alloc (.cells d v)).alloc (.cells e x)).heap[w.heap.size+4]?=some (.cells e x (0,0))∧(((((w.alloc (.cells a s)).alloc (.cells b t)).alloc (.cells c u)).alloc (.cells d v)).alloc (.cells e x)).heap.size=w.heap.size+5∧Below w.heap.size w (((((w.alloc (.cells a s)).alloc (.cells b t)).alloc (.cells c u)).alloc (.cells d v)).alloc (.cells e x)):=by
 obtain⟨h0,h1,h2,h3,h4,h5⟩:=zIv w a b c d s t u v
 refine⟨?_,?_,?_,?_,?_,by simp,h5.alloc (by simp;omega) _⟩
 ·rw[Below.heap_alloc _ _ _ (by omega)];exact h0
 ·rw[Below.heap_alloc _ _ _ (by omega)];exact h1
 ·rw[Below.heap_alloc _ _ _ (by omega)];exact h2
 ·rw[Below.heap_alloc _ _ _ (by omega)];exact h3
 ·have:=heap_alloc_new ((((w.alloc (.cells a s)).alloc (.cells b t)).alloc (.cells c u)).alloc (.cells d v)) (.cells e x);simpa using this
structure Fill (W0 wr:World) (b gn n:Nat) (t:List Nat):Prop where
 bel:Below W0.heap.size W0 wr
 rel:RelAt wr gn n t
 box:wr.heap[b]?=some (.cells #[.slice (some ⟨gn,0,none⟩) n n] 68 (0,0))
 ge:W0.heap.size≤gn
 gb:W0.heap.size≤b
theorem Fill.ne {W0 wr:World} {b gn n:Nat} {t:List Nat} (h:Fill W0 wr b gn n t):b≠gn:=fun e=>by
 have h1:=h.rel.at_
 unfold zAs at h1
 rw[← e,h.box] at h1;simp at h1
theorem Fill.keep {W0 wr w':World} {b gn n:Nat} {t:List Nat} (h:Fill W0 wr b gn n t) (hb:Below wr.heap.size wr w'):Fill W0 w' b gn n t :=
 ⟨h.bel.trans (hb.mono h.bel.size),h.rel.below hb,(hb.block b (Array.getElem?_eq_some_iff.1 h.box).1).trans h.box,h.ge,h.gb⟩
theorem Fill.alloc {W0 wr:World} {b gn n:Nat} {t:List Nat} (h:Fill W0 wr b gn n t) (o:Obj):Fill W0 (wr.alloc o) b gn n t:=h.keep ((Below.refl _ _).alloc (Nat.le_refl _) _)
theorem Fill.grown {W0 wr w':World} {b gn n:Nat} {t:List Nat} (h:Fill W0 wr b gn n t) {x y:Int} (hg:wr.grownBy w' (some gn)) (hs:zAs w' gn (Q.addR t x y)):Fill W0 w' b gn n (Q.addR t x y) :=
 ⟨h.bel.trans ⟨hg.os,hg.tape,hg.output,hg.size,fun i hi=>hg.block i (by have:=h.bel.size;omega) (by have:=h.ge;simp;omega)⟩,⟨hs,by rw[Q.zKH];exact h.rel.len,Q.zKz h.rel.fits _ _⟩,(hg.block b (Array.getElem?_eq_some_iff.1 h.box).1 (by have:=h.ne;simpa using this)).trans h.box,h.ge,h.gb⟩
theorem Fill.relIn {W0 wr:World} {b gn n:Nat} {t:List Nat} (h:Fill W0 wr b gn n t):zDu wr b 0 gn n t:=by
 obtain⟨z0,_,z2⟩:=zAo h.box
 exact⟨z0,h.rel.at_,h.rel.len,z2,h.ne⟩
theorem Fill.start {W0 w1:World} {gn n:Nat} {t:List Nat} (hr:RelAt w1 gn n t) (hge:W0.heap.size≤gn) (hb:Below W0.heap.size W0 w1):Fill W0 (w1.alloc (.cells #[.slice (some ⟨gn,0,none⟩) n n] 68)) w1.heap.size gn n t :=
 ⟨hb.alloc hb.size _,hr.below ((Below.refl _ _).alloc (Nat.le_refl _) _),heap_alloc_new w1 _,hge,hb.size⟩
theorem Fill.out {w W0 wr:World} {b gn n r:Nat} {t:List Nat} (h:Fill W0 wr b gn n t) (hw:Below w.heap.size w W0) (hr:W0.heap[r]?=some (.cells #[.slice none 0 0] 68 (0,0))) (hwr:w.heap.size≤r) :
  zGh w (wr.setCell ⟨r,0,none⟩ (.slice (some ⟨gn,0,none⟩) n n)) n t (.returned (.agg #[.slice (some ⟨gn,0,none⟩) n n]))∧(wr.setCell ⟨r,0,none⟩ (.slice (some ⟨gn,0,none⟩) n n)).heap[r]?=some (.cells #[.slice (some ⟨gn,0,none⟩) n n] 68 (0,0)):=by
 have hrl:=(Array.getElem?_eq_some_iff.1 hr).1
 have hge:=h.ge
 have h1:wr.heap[r]?=some (.cells #[.slice none 0 0] 68 (0,0)):=(h.bel.block r hrl).trans hr
 refine⟨⟨gn,rfl,⟨h.rel.at_.of_block (Below.heap_setCell _ _ _ _ (by simp;omega)),h.rel.len,h.rel.fits⟩,(zAr hw (Nat.le_refl _) h.bel).setCell (p:=⟨r,0,none⟩) hwr _⟩,?_⟩
 rw[zAf h1];rfl
theorem Fill.cell {W0 wr:World} {b gn n:Nat} {t:List Nat} (h:Fill W0 wr b gn n t) {p:Addr} {v:Value} (hl:p.block<W0.heap.size) (hc:W0.cell? p=some v):wr.cell? p=some v:=(h.bel.cell (p:=p) hl).trans hc
theorem zBS.below {w w':World} {v:Value} {l:List Int} (h:zBS w v l) (hb:Below w.heap.size w w'):zBS w' v l:=by
 rcases h with h | ⟨g,cap,rfl,hc,hg⟩
 ·exact Or.inl h
 ·exact Or.inr ⟨g,cap,rfl,fun i hi=>(hb.cell (p:=⟨g,i,none⟩) hg).trans (hc i hi),Nat.lt_of_lt_of_le hg hb.size⟩
theorem zBS.form {w:World} {v:Value} {l:List Int} (h:zBS w v l):∃ a c,v=.slice a l.length c∧(0<l.length→∃ g,a=some ⟨g,0,none⟩∧g<w.heap.size∧∀ i (h:i<l.length),w.cell? ⟨g,i,none⟩=some (.int .i64 l[i])):=by
 rcases h with ⟨rfl,rfl⟩ | ⟨g,cap,rfl,hc,hg⟩
 ·exact⟨none,0,rfl,fun h=>by simp at h⟩
 ·exact⟨_,_,rfl,fun _=>⟨g,rfl,hg,hc⟩⟩
theorem zAG (B:Nat) (w:World) (n:Nat):Below B w (w.drewN n):=by
 induction n with
 | zero=>exact Below.refl _ _
 | succ n ih=>exact⟨ih.os,ih.tape,ih.output,ih.size,ih.block⟩
theorem zAS.grown {w w':World} {g gn:Nat} {e:Q.Ev} {l:List Nat} (h:zAS w g e) (hs:zAs w gn l) (hg:w.grownBy w' (some gn)):zAS w' g e:=by
 have hne:g≠gn:=fun he=>by
  unfold zAS at h
  unfold zAs at hs
  rw[he,hs] at h;simp at h
 have hl:=h.lt
 unfold zAS at *
 rw[hg.block g hl (by simpa using hne)];exact h
theorem zAP (l:List Int) (i:Nat) (h:i<l.length) (d:Int):l.getD i d=l[i]:=by simp[List.getD,List.getElem?_eq_getElem h]
namespace Q
def zMu (rs:List Int) (r:List Nat) (i:Nat):List Nat:=addR r (i:Int) (rs.getD i (-1))
end Q
theorem zGI (a:FA) (f:Q.Facts) (v:Value) (rs:List Int) (w:World) (hf:FactsIn w a f) (hv:zBS w v rs) (hl:rs.length<10000) :
  Calls Tryz.prog 62 #[.agg (zAn a),v] w fun e w'=>zGh w w' a.n (f.reads rs) e:=by
 have HFE:Hid (f.reads rs=(List.range rs.length).foldl (Q.zMu rs) (Q.newR a.n)):=by unfold Hid Q.Facts.reads;rw[hf.len];rfl
 obtain⟨va,vc,rfl,hva⟩:=hv.form
 obtain⟨x,c,hev,hx⟩:=hf.form
 have hn64:=hf.n64
 have hln:=hf.len
 obtain⟨n,ev,g1,g2,g3,g4,g5,g6,g7,g8,g9⟩:=a
 simp only at hev hn64 hln hx
 subst hev
 simp only[zAn]
 simp only at HFE
 obtain⟨k0,k1,hsz,hbw⟩:=zCd w #[.slice x n c,.slice (some ⟨g1,0,none⟩) n n,.slice (some ⟨g2,0,none⟩) n n,.slice (some ⟨g3,0,none⟩) n n,.slice (some ⟨g4,0,none⟩) n n,.slice (some ⟨g5,0,none⟩) n n,.slice (some ⟨g6,0,none⟩) n n,.slice (some ⟨g7,0,none⟩) n n,.slice (some ⟨g8,0,none⟩) n n,.slice (some ⟨g9,0,none⟩) n n] #[.slice none 0 0] 70 68
 have BW0:=zAa hbw
 clear hbw hf hv hx
 go_enter Tryz.func62,Tryz.ntmps62
 go_upto_region 1 with fail
 generalize hE:(w.alloc (.cells #[.slice x n c,.slice (some ⟨g1,0,none⟩) n n,.slice (some ⟨g2,0,none⟩) n n,.slice (some ⟨g3,0,none⟩) n n,.slice (some ⟨g4,0,none⟩) n n,.slice (some ⟨g5,0,none⟩) n n,.slice (some ⟨g6,0,none⟩) n n,.slice (some ⟨g7,0,none⟩) n n,.slice (some ⟨g8,0,none⟩) n n,.slice (some ⟨g9,0,none⟩) n n] 70)).alloc (.cells #[.slice none 0 0] 68)=W0 at *
 have c00:=ceL k0 0 _ rfl
 obtain⟨c1,f1,l1⟩:=zAo k1
 have l0:w.heap.size<W0.heap.size:=by omega
 have K1:=zAa k1
 clear hE k0 k1
 go_wp2_with (first | (go_at_call 109;refine (zBt n _ hn64).mono ?_;rintro e w1 ⟨gn,rfl,hsn,hgn,hll,hfn,hb1⟩;have HS:=zAa (Fill.start ⟨hsn,hll,hfn⟩ hgn hb1);have hz1:=hb1.size;clear hsn hb1 hll hfn))
 go_loopw [14] (fun i wr=>∃ (k:Nat) (t:List Nat),k≤rs.length∧i=.int .i64 k∧Hid (t=(List.range k).foldl (Q.zMu rs) (Q.newR n))∧Hid (Fill W0 wr w1.heap.size gn n t)) (fun i _=>rs.length-(intOf i).toNat)
 case atStart=>exact⟨0,_,Nat.zero_le _,rfl,rfl,HS⟩
 case round =>
  obtain⟨k,t,hk,rfl,HT,HI⟩:=hrel
  have bt:=zAo HI.out.box
  obtain⟨b0,b1,b2⟩:=bt
  by_cases hlt:k<rs.length
  ·have hin:(k:Int)<(rs.length:Int):=by omega
   obtain⟨g,rfl,hg,hcs⟩:=hva (by omega)
   have hgw:g<W0.heap.size:=by omega
   have hc:wr.cell? ⟨g,k,none⟩=some (.int .i64 rs[k]):=HI.out.cell hgw ((BW0.out.cell (p:=⟨g,k,none⟩) hg).trans (hcs k hlt))
   have hgwr:g<wr.heap.size:=Nat.lt_of_lt_of_le hgw HI.out.bel.size
   have HN:Hid (Q.addR t (k:Int) rs[k]=(List.range (k+1)).foldl (Q.zMu rs) (Q.newR n)):=by unfold Hid;rw[Q.zKb,← HT.out,Q.zMu,zAP rs k hlt]
   generalize rs[k]=y at *
   go_wp2_with (first | (go_at_call 110;refine (zBI w1.heap.size 0 gn n t (k:Int) y _ HI.out.relIn HI.out.rel.fits).mono ?_;rintro e wc ⟨rfl,hsc,hgc⟩;have HJ:=zAa (HI.out.grown hgc hsc)))
   go_roundw
   case rel=>exact⟨k+1,_,by omega,by go_num,HN,HJ⟩
   case measure=>simp[intOf];omega
  ·have hkn:k=rs.length:=by omega
   have HE2:Hid (t=f.reads rs):=by unfold Hid;rw[HFE.out,HT.out,hkn]
   obtain⟨q1,q2⟩:=HI.out.out BW0.out K1.out (by omega)
   rw[HE2.out] at q1
   go_wp2_with (first | (refine zAC (.tmp 5) rfl rfl w1.heap.size _ rfl HI.out.box ?_) | (refine zAW (.tmp 4) (.tmp 23) rfl rfl (w.heap.size+1) _ _ rfl rfl ((HI.out.bel.block _ l1).trans K1.out) rfl ?_))
   refine zBH (p:=4) (w.heap.size+1) _ (by kernel_rfl) rfl q2 rfl q1
end Go.Proofs.YtgceflcbckjjiaaGreatDoor
