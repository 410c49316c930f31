import Derived.Test.YtkmebkbpfmoeaaaGreatE37
import Derived.Test.YtkmebkbpfmoeaaaGreatE13
set_option linter.unusedVariables false
set_option linter.unusedSimpArgs false
set_option maxHeartbeats 12800000
namespace Go.Proofs.YtkmebkbpfmoeaaaGreat
open Go Go.RowKit
set_option maxRecDepth 100000
namespace Q
theorem mem_ins {r y:List Int}:∀ {l:List (List Int)},y∈ins l r ↔ y=r∨y∈l
 | []=>by simp[ins]
 | x::l=>by
  rw[ins]
  split
  ·rw[List.mem_cons,mem_ins (l:=l),List.mem_cons]
   constructor
   ·rintro (h | h | h)
    ·exact Or.inr (Or.inl h)
    ·exact Or.inl h
    ·exact Or.inr (Or.inr h)
   ·rintro (h | h | h)
    ·exact Or.inr (Or.inl h)
    ·exact Or.inl h
    ·exact Or.inr (Or.inr h)
  ·split
   ·rename_i h0
    have hx:x=r:=cmp_eq (by simpa using h0)
    rw[hx]
    constructor
    ·exact fun h=>Or.inr h
    ·rintro (h | h)
     ·rw[h];simp
     ·exact h
   ·rw[List.mem_cons]
theorem fold_rowsM {α:Type} (F:Ans→α→Ans) (Pr:α→List Int→Prop) (hF:∀ a x r,r∈(F a x).rows ↔ r∈a.rows∨Pr x r) (r:List Int):∀ (l:List α) (a:Ans),r∈(l.foldl F a).rows ↔ r∈a.rows∨∃ x∈l,Pr x r
 | [],a=>by simp
 | x::l,a=>by
  rw[List.foldl_cons,fold_rowsM F Pr hF r l,hF]
  constructor
  ·rintro ((h | h) | ⟨y,hy,h⟩)
   ·exact Or.inl h
   ·exact Or.inr ⟨x,by simp,h⟩
   ·exact Or.inr ⟨y,List.mem_cons_of_mem _ hy,h⟩
  ·rintro (h | ⟨y,hy,h⟩)
   ·exact Or.inl (Or.inl h)
   ·rcases List.mem_cons.1 hy with rfl | hy
    ·exact Or.inl (Or.inr h)
    ·exact Or.inr ⟨y,hy,h⟩
theorem fold_clashM {α:Type} (F:Ans→α→Ans) (Pr:α→Prop) (hF:∀ a x,(F a x).clash=true ↔ a.clash=true∨Pr x):∀ (l:List α) (a:Ans),(l.foldl F a).clash=true ↔ a.clash=true∨∃ x∈l,Pr x
 | [],a=>by simp
 | x::l,a=>by
  rw[List.foldl_cons,fold_clashM F Pr hF l,hF]
  constructor
  ·rintro ((h | h) | ⟨y,hy,h⟩)
   ·exact Or.inl h
   ·exact Or.inr ⟨x,by simp,h⟩
   ·exact Or.inr ⟨y,List.mem_cons_of_mem _ hy,h⟩
  ·rintro (h | ⟨y,hy,h⟩)
   ·exact Or.inl (Or.inl h)
   ·rcases List.mem_cons.1 hy with rfl | hy
    ·exact Or.inl (Or.inr h)
    ·exact Or.inr ⟨y,hy,h⟩
def ordsOf (w:Wd):List (List Int):=zIz (zIm w.events (zIg w.events))
def placesAt (w:Wd) (ds:List Int):List Int:=zIs (zIg w.events) ds
def srcMay (c:Cand) (ds:List Int):Bool:=c.facts.mayBe c.reads (c.facts.before c.reads) (placesAt c.wd ds)
theorem source_rows (ts:List P.Thr) (r:List Int):r∈(zIB ts).rows ↔ ∃ c∈cands ts,∃ ds∈ordsOf c.wd,srcMay c ds=true∧r=zJD c.wd (placesAt c.wd ds):=by
 unfold zIB
 rw[fold_rowsM zIZ (fun c r=>∃ ds∈ordsOf c.wd,srcMay c ds=true∧r=zJD c.wd (placesAt c.wd ds)) ?_ r]
 ·simp
 ·intro a c r
  unfold zIZ zJn
  rw[fold_rowsM (zIC c.wd c.facts c.reads (c.facts.before c.reads)) (fun ds r=>srcMay c ds=true∧r=zJD c.wd (placesAt c.wd ds)) ?_ r]
  ·rfl
  ·intro a ds r
   unfold zIC srcMay placesAt
   split
   ·rename_i h
    rw[mem_ins]
    constructor
    ·rintro (h1 | h1)
     ·exact Or.inr ⟨h,h1⟩
     ·exact Or.inl h1
    ·rintro (h1 | h1)
     ·exact Or.inr h1
     ·exact Or.inl h1.2
   ·rename_i h
    constructor
    ·exact Or.inl
    ·rintro (h1 | h1)
     ·exact h1
     ·exact absurd h1.1 h
theorem source_clash (ts:List P.Thr):(zIB ts).clash=true ↔ ∃ c∈cands ts,∃ ds∈ordsOf c.wd,srcMay c ds=true∧c.facts.clashes (c.facts.before c.reads)=true:=by
 unfold zIB
 rw[fold_clashM zIZ (fun c=>∃ ds∈ordsOf c.wd,srcMay c ds=true∧c.facts.clashes (c.facts.before c.reads)=true) ?_]
 ·simp
 ·intro a c
  unfold zIZ zJn
  rw[fold_clashM (zIC c.wd c.facts c.reads (c.facts.before c.reads)) (fun ds=>srcMay c ds=true∧c.facts.clashes (c.facts.before c.reads)=true) ?_]
  ·rfl
  ·intro a ds
   unfold zIC srcMay placesAt
   split
   ·rename_i h
    cases a.clash<;>simp[h]
   ·rename_i h
    simp[h]
theorem fold_rising {α:Type} (F:Ans→α→Ans) (hF:∀ a x,zKb a.rows→zKb (F a x).rows):∀ (l:List α) (a:Ans),zKb a.rows→zKb (l.foldl F a).rows
 | [],a,h=>h
 | x::l,a,h=>by rw[List.foldl_cons];exact fold_rising F hF l _ (hF a x h)
theorem source_rising (ts:List P.Thr):zKb (zIB ts).rows:=by
 refine fold_rising _ (fun a c h=>?_) _ _ List.Pairwise.nil
 refine fold_rising _ (fun a ds h=>?_) _ _ h
 unfold zIC
 split
 ·exact ins_rising h
 ·exact h
theorem cands_mem {ts:List P.Thr} {c:Cand}:c∈cands ts ↔ ∃ d∈zIz (zAZ (runs ts)),∃ rs∈zIz (lens (zIh (zIi (runs ts) d).events)),c=⟨zIi (runs ts) d,zIu (zIi (runs ts) d).events,(zIu (zIi (runs ts) d).events).reads (zJi (zIh (zIi (runs ts) d).events) rs)⟩∧c.facts.hangsOn c.reads=false:=by
 unfold cands candsIn
 simp only[List.mem_flatMap,List.mem_filter,List.mem_map,Bool.not_eq_true']
 constructor
 ·rintro ⟨d,hd,⟨⟨rs,hrs,rfl⟩,h⟩⟩
  exact⟨d,hd,rs,hrs,rfl,h⟩
 ·rintro ⟨d,hd,rs,hrs,rfl,h⟩
  exact⟨d,hd,⟨⟨rs,hrs,rfl⟩,h⟩⟩
theorem nodup_len {α:Type} [DecidableEq α]:∀ (l m:List α),l.Nodup→(∀ x∈l,x∈m)→l.length≤m.length
 | [],m,_,_=>by simp
 | x::l,m,h,hs=>by
  have hx:=hs x (by simp)
  have h1:=nodup_len l (m.erase x) (List.nodup_cons.1 h).2 (fun y hy=>(List.mem_erase_of_ne (fun e:y=x=>(List.nodup_cons.1 h).1 (by rw[← e];exact hy))).2 (hs y (List.mem_cons_of_mem _ hy)))
  have h2:=List.length_erase_of_mem hx
  have h3:=List.length_pos_of_mem hx
  simp only[List.length_cons]
  omega
theorem rising_nodup {l:List (List Int)} (h:zKb l):l.Nodup:=by
 refine List.Pairwise.imp ?_ h
 intro a b hab e
 rw[e,cmp_self] at hab
 omega
theorem runs_count:∀ (ts:List P.Thr) (i:Nat),(zIz (zAZ (runsFrom i ts))).length≤4 ^ (P.tot P.isR ts).toNat
 | [],i=>by simp[runsFrom,zAZ,zIz,P.tot]
 | t::ts,i=>by
  simp only[runsFrom,zAZ,List.map_cons]
  rw[digitRows_len]
  have h1:=runs_count ts (i+1)
  have h2:=runsOf_len t i
  rw[codes_eq] at h2
  have hb:=(P.zJs P.isR t.stmts).1
  have hb2:0≤P.tot P.isR ts:=by
   clear h1
   induction ts with
   | nil=>simp[P.tot]
   | cons v l ih=>simp only[P.tot];have:=(P.zJs P.isR v.stmts).1;omega
  simp only[P.tot]
  rw[show (P.cnt P.isR t.stmts+P.tot P.isR ts).toNat=(P.tot P.isR ts).toNat+(P.cnt P.isR t.stmts).toNat by omega,Nat.pow_add]
  exact Nat.mul_le_mul h1 (by simpa using h2)
def four:List Int:=[0,1,2,3]
theorem four_mem {x:Int} (h:0≤x∧x<4):x∈four:=by
 simp only[four,List.mem_cons,List.mem_nil_iff,or_false];omega
def allRows (ts:List P.Thr):List (List Int):=(zIz (zAZ (runs ts))).flatMap fun d=>four.flatMap fun a=>four.flatMap fun b=>four.map fun c=>(zIi (runs ts) d).regs++[a,b,c]
theorem flat_len {α β:Type} (f:α→List β) (n:Nat) (h:∀ a,(f a).length=n):∀ l:List α,(l.flatMap f).length=l.length*n
 | []=>by simp
 | a::l=>by rw[List.flatMap_cons,List.length_append,flat_len f n h l,h,List.length_cons,Nat.succ_mul];omega
theorem allRows_len (ts:List P.Thr):(allRows ts).length=(zIz (zAZ (runs ts))).length*64:=by
 unfold allRows
 refine flat_len _ _ (fun d=>?_) _
 rw[flat_len _ 16 (fun a=>?_)]
 ·rfl
 ·rw[flat_len _ 4 (fun b=>?_)]
  ·rfl
  ·simp[four]
theorem digitRows_ok:∀ {bs ds:List Int},ds∈zIz bs→DigOk bs ds
 | [],ds,h=>by simp[zIz] at h;rw[h];trivial
 | b::bs,ds,h=>by
  simp only[zIz,List.mem_flatMap,List.mem_map,List.mem_range] at h
  obtain⟨r,hr,d,hd,rfl⟩:=h
  exact⟨by omega,by omega,digitRows_ok hr⟩
theorem zJd {ts:List P.Thr} (h:P.KerIs ts):(zIB ts).rows.length<100000000:=by
 have h1:(zIB ts).rows.length≤(allRows ts).length:=by
  refine nodup_len _ _ (rising_nodup (source_rising ts)) (fun r hr=>?_)
  obtain⟨c,hc,ds,hds,_,rfl⟩:=(source_rows ts r).1 hr
  obtain⟨d,hd,rs,hrs,rfl,_⟩:=cands_mem.1 hc
  have hw:=wi_ok (ker_wi h (digitRows_ok hd)) (by have:=h.few;omega)
  unfold allRows
  refine List.mem_flatMap.2 ⟨d,hd,?_⟩
  have hv:=fun v=>lastV_rng (zIi (runs ts) d).events v (placesAt (zIi (runs ts) d) ds) hw.evals
  exact List.mem_flatMap.2 ⟨_,four_mem (hv 0),List.mem_flatMap.2 ⟨_,four_mem (hv 1),List.mem_map.2 ⟨_,four_mem (hv 2),rfl⟩⟩⟩
 have h2:=runs_count ts 0
 have h3:4 ^ (P.tot P.isR ts).toNat≤4 ^ 4:=Nat.pow_le_pow_right (by omega) (by have:=h.rd;omega)
 have h4:(zIz (zAZ (runs ts))).length≤256:=Nat.le_trans h2 h3
 rw[allRows_len] at h1
 omega
end Q
theorem zCS (s:ByteArray) (w:World) (hs:s.size≤8192) (h0:(P.kernel s.toList).2.1=0) :
  Calls Tryz.prog 13 #[.string s] w fun e w'=>∃ ov vs,e=.returned (.tuple #[ov,.bool (Q.zIB (P.kernel s.toList).1).clash,.int .i64 0,.int .i64 0])∧RowsI w' 0 ov (Q.zIB (P.kernel s.toList).1).rows vs∧Below w.heap.size w w' :=
 zGM s w hs h0 (P.kernel_parts h0).2.1 (Q.ker_ok (P.zIJ h0)) (Q.zJd (P.zIJ h0))
end Go.Proofs.YtkmebkbpfmoeaaaGreat
namespace Go.Proofs.YtkmebkbpfmoeaaaGreat
namespace Q
theorem ev_in (es:List Ev) (i:Nat) (h:i<es.length):ev es i=es[i]:=by
 unfold ev;rw[List.getD_eq_getElem?_getD,List.getElem?_eq_getElem h];rfl
theorem ev_out (es:List Ev) (i:Nat) (h:es.length≤i):ev es i=Ev.zero:=by
 unfold ev;rw[List.getD_eq_getElem?_getD,List.getElem?_eq_none h];rfl
theorem ev_append (es fs:List Ev) (i:Nat):ev (es++fs) i=if i<es.length then ev es i else ev fs (i-es.length):=by
 unfold ev
 rw[List.getD_eq_getElem?_getD,List.getD_eq_getElem?_getD,List.getD_eq_getElem?_getD,List.getElem?_append]
 split<;>rfl
theorem ev_map (g:Ev→Ev) (es:List Ev) (i:Nat):ev (es.map g) i=if i<es.length then g (ev es i) else Ev.zero:=by
 by_cases h:i<es.length
 ·rw[if_pos h,ev_in _ _ (by simpa using h),ev_in _ _ h];simp
 ·rw[if_neg h,ev_out _ _ (by simpa using h)]
structure EvR (a b:Ev):Prop where
 le:EvLe a b
 thread:b.thread=a.thread
 var:b.var=a.var
 hangs:b.hangs=a.hangs
theorem EvR.refl (a:Ev):EvR a a:=⟨⟨rfl,rfl,rfl,rfl,rfl,id,id,id,fun _ h=>h,id⟩,rfl,rfl,rfl⟩
structure EsR (es es':List Ev):Prop where
 len:es'.length=es.length
 ev:∀ i,EvR (Q.ev es i) (Q.ev es' i)
theorem EsR.refl (es:List Ev):EsR es es:=⟨rfl,fun _=>EvR.refl _⟩
theorem EsR.app {es es' fs fs':List Ev} (h:EsR es es') (k:EsR fs fs'):EsR (es++fs) (es'++fs') :=
 ⟨by simp[h.len,k.len],fun i=>by
  rw[ev_append,ev_append,h.len]
  split
  ·exact h.ev i
  ·exact k.ev _⟩
theorem esR_one {a b:Ev} (h:EvR a b):EsR [a] [b]:=⟨rfl,fun i=>by
 cases i with
 | zero=>exact h
 | succ n=>rw[ev_out _ _ (by simp),ev_out _ _ (by simp)];exact EvR.refl _⟩
theorem EsR.map {es es':List Ev} (h:EsR es es') (g:Ev→Ev) (hg:∀ a b,EvR a b→EvR (g a) (g b)):EsR (es.map g) (es'.map g) :=
 ⟨by simp[h.len],fun i=>by
  rw[ev_map,ev_map,h.len]
  split
  ·exact hg _ _ (h.ev i)
  ·exact EvR.refl _⟩
structure StLe (s t:P.Stm):Prop where
 kind:t.kind=s.kind
 dest:t.dest=s.dest
 var:t.var=s.var
 a:t.a=s.a
 b:t.b=s.b
 ord:s.order≠0→t.order≠0
 rel:P.rel s.order=true→P.rel t.order=true
 acq:P.acq s.order=true→P.acq t.order=true
 sc:s.kind=4→t.order=s.order
 scope:s.scope=1→t.scope=1
def Mach.wit (m:Mach) (es:List Ev):Mach:={ m with events:=es }
section
variable {m:Mach} {es':List Ev} {s t:P.Stm}
theorem valueOf_r (h:EsR m.events es') (i:Nat):(m.wit es').valueOf i=m.valueOf i:=(h.ev i).le.value
theorem event_r (h:StLe s t) (kind:Int) (hk:kind=2→s.kind=4) (es':List Ev):EvR (m.event kind s) ((m.wit es').event kind t) where
 le:=⟨rfl,rfl,rfl,by simp only[Mach.event,h.kind],rfl,h.ord,h.rel,h.acq,fun e1 e2=>by
  have:=h.sc (hk e1)
  show t.order=5
  rw[this];exact e2,h.scope⟩
 thread:=rfl
 var:=h.var
 hangs:=rfl
theorem EvR.val {a b:Ev} (h:EvR a b) (v:Int):EvR { a with value:=v } { b with value:=v } :=
 ⟨⟨h.le.kind,h.le.block,rfl,h.le.step,h.le.bars,h.le.ord,h.le.rel,h.le.acq,h.le.sc,h.le.scope⟩,h.thread,h.var,h.hangs⟩
theorem EvR.hng {a b:Ev} (h:EvR a b) (v:Nat):EvR { a with hangs:=v } { b with hangs:=v } :=
 ⟨⟨h.le.kind,h.le.block,h.le.value,h.le.step,h.le.bars,h.le.ord,h.le.rel,h.le.acq,h.le.sc,h.le.scope⟩,h.thread,h.var,rfl⟩
def MR (m m':Mach):Prop:=∃ es',EsR m.events es'∧m'=m.wit es'
theorem MR.read {m':Mach} (h:MR m m') (hs:StLe s t):MR (m.read s) (m'.read t):=by
 obtain⟨es',he,rfl⟩:=h
 exact⟨es'++[{ (m.wit es').event 0 t with value:=(m.unread % 4:Nat) }],he.app (esR_one ((event_r hs 0 (by omega) es').val _)),rfl⟩
theorem MR.write {m':Mach} (h:MR m m') (hs:StLe s t) (v:Int) (u:Nat):MR (m.write s v u) (m'.write t v u):=by
 obtain⟨es',he,rfl⟩:=h
 exact⟨es'++[{ (m.wit es').event 1 t with value:=v,hangs:=m.asked ||| u }],he.app (esR_one (EvR.hng (EvR.val (event_r (m:=m) hs 1 (by omega) es') v) (m.asked ||| u))),rfl⟩
theorem wit_give (m:Mach) (es:List Ev) (d v:Int) (u:Nat):(m.wit es).give d v u=(m.give d v u).wit es:=by
 unfold Mach.give;split<;>rfl
theorem give_ev (m:Mach) (d v:Int) (u:Nat):(m.give d v u).events=m.events:=by unfold Mach.give;split<;>rfl
theorem MR.give {m':Mach} (h:MR m m') (d v:Int) (u:Nat):MR (m.give d v u) (m'.give d v u):=by
 obtain⟨es',he,rfl⟩:=h
 exact⟨es',by rw[give_ev];exact he,wit_give _ _ _ _ _⟩
theorem MR.giveRead {m':Mach} (h:MR m m') (d:Int) (r:Nat):MR (m.giveRead d r) (m'.giveRead d r):=by
 unfold Mach.giveRead
 have e:m'.valueOf r=m.valueOf r:=by obtain⟨es',he,rfl⟩:=h;exact valueOf_r he r
 rw[e]
 exact h.give _ _ _
theorem MR.facts {m':Mach} (h:MR m m'):(∀ o,m'.value o=m.value o)∧(∀ o,m'.madeOf o=m.madeOf o)∧m'.events.length=m.events.length∧m'.unread=m.unread∧m'.regs=m.regs:=by
 obtain⟨es',he,rfl⟩:=h
 exact⟨fun _=>rfl,fun _=>rfl,he.len,rfl,rfl⟩
theorem MR.doIt {m':Mach} (h:MR m m') (hs:StLe s t):MR (m.doIt s) (m'.doIt t):=by
 obtain⟨f1,f2,f3,f4,f5⟩:=h.facts
 unfold Mach.doIt
 rw[hs.kind,hs.dest,f3]
 split
 ·exact (h.read hs).giveRead _ _
 ·split
  ·unfold Mach.store
   rw[hs.a,f1,f2]
   exact h.write hs _ _
  ·split
   ·unfold Mach.step
    have hr:=h.read hs
    have e:(m'.read t).valueOf m.events.length=(m.read s).valueOf m.events.length:=by
     obtain⟨es',he,e⟩:=hr
     rw[e];exact valueOf_r he _
    rw[hs.kind,hs.dest,hs.a,f1,f2,f3,e]
    split
    ·exact (hr.write hs _ _).giveRead _ _
    ·exact (hr.write hs _ _).giveRead _ _
   ·split
    ·rename_i k4
     obtain⟨es',he,rfl⟩:=h
     exact⟨es'++[(m.wit es').event 2 t],he.app (esR_one (event_r hs 2 (fun _=>by simpa using k4) es')),rfl⟩
    ·split
     ·obtain⟨es',he,rfl⟩:=h
      exact⟨es'++[(m.wit es').event 3 t,(m.wit es').event 4 t],he.app ((esR_one (event_r hs 3 (by omega) es')).app (esR_one (event_r hs 4 (by omega) es'))),rfl⟩
     ·split
      ·have e:m'.result t=m.result s:=by unfold Mach.result;rw[hs.kind,hs.a,hs.b,f1,f1]
       rw[e,hs.a,hs.b,f2,f2]
       exact h.give _ _ _
      ·exact h
theorem carry_r {p q:Mach × Nat} (h:MR p.1 q.1) (e:q.2=p.2) (hs:StLe s t):MR (carry p s).1 (carry q t).1∧(carry q t).2=(carry p s).2:=by
 obtain⟨f1,f2,f3,f4,f5⟩:=h.facts
 unfold carry
 rw[hs.kind,e,hs.a,f1]
 split
 ·split
  ·refine⟨?_,rfl⟩
   obtain⟨es',he,e2⟩:=h
   show MR (p.1.ask s) (q.1.ask t)
   rw[e2]
   unfold Mach.ask
   rw[hs.a]
   exact⟨es',he,rfl⟩
  ·exact⟨h.doIt hs,rfl⟩
 ·split
  ·exact⟨h,rfl⟩
  ·split
   ·exact⟨h,rfl⟩
   ·exact⟨h,e⟩
end
def StsLe:List P.Stm→List P.Stm→Prop
 | [],[]=>True
 | a::x,b::y=>StLe a b∧StsLe x y
 | _,_=>False
theorem fold_r (ss:List P.Stm):∀ (ss':List P.Stm) (p q:Mach × Nat),StsLe ss ss'→MR p.1 q.1→q.2=p.2→MR (ss.foldl carry p).1 (ss'.foldl carry q).1:=by
 induction ss with
 | nil =>
  intro ss' p q hs h _
  cases ss' with
  | nil=>exact h
  | cons b y=>exact absurd hs (by simp[StsLe])
 | cons a x ih =>
  intro ss' p q hs h e
  cases ss' with
  | nil=>exact absurd hs (by simp[StsLe])
  | cons b y =>
   obtain⟨h1,h2⟩:=carry_r h e hs.1
   rw[List.foldl_cons,List.foldl_cons]
   exact ih y _ _ hs.2 h1 h2
theorem codes_r:∀ {ss ss':List P.Stm} (c:Nat),StsLe ss ss'→ss'.foldl (fun c st=>if P.reads st.kind then c*4 else c) c=ss.foldl (fun c st=>if P.reads st.kind then c*4 else c) c
 | [],[],_,_=>rfl
 | a::x,b::y,c,hs=>by
  rw[List.foldl_cons,List.foldl_cons,hs.1.kind]
  exact codes_r _ hs.2
structure ThrLe (t t':P.Thr):Prop where
 block:t'.block=t.block
 sts:StsLe t.stmts t'.stmts
def zKB:List P.Thr→List P.Thr→Prop
 | [],[]=>True
 | a::x,b::y=>ThrLe a b∧zKB x y
 | _,_=>False
structure RunR (r r':Run):Prop where
 regs:r'.regs=r.regs
 evs:EsR r.events r'.events
theorem runAt_r {t t':P.Thr} (h:ThrLe t t') (i c:Nat):MR (runAt t i c) (runAt t' i c):=by
 unfold runAt zJw
 rw[h.block]
 exact fold_r _ _ _ _ h.sts ⟨[],EsR.refl _,rfl⟩ rfl
theorem runs_list {t t':P.Thr} (h:ThrLe t t') (i:Nat):∃ L:List Nat,zJK t i=L.map (fun c=>(runAt t i c).run)∧zJK t' i=L.map (fun c=>(runAt t' i c).run):=by
 refine⟨(List.range (codes t.stmts)).filter fun c=>(runAt t i c).unread==0,rfl,?_⟩
 unfold zJK zIR
 have e:codes t'.stmts=codes t.stmts:=codes_r 1 h.sts
 have e2:(fun c=>(runAt t' i c).unread==0)=(fun c=>(runAt t i c).unread==0):=funext fun c=>by rw[(runAt_r h i c).facts.2.2.2.1]
 rw[e,e2]
structure WdR (w w':Wd):Prop where
 regs:w'.regs=w.regs
 evs:EsR w.events w'.events
theorem WdR.join {w w':Wd} (h:WdR w w') {r r':Run} (k:RunR r r'):WdR (w.join r) (w'.join r') :=
 ⟨by unfold Wd.join;simp only;rw[h.regs,k.regs],by
  unfold Wd.join
  simp only
  rw[h.evs.len]
  exact h.evs.app (k.evs.map _ (fun a b hab=>by
   have:=hab.hng (moved a.hangs w.events.length)
   unfold zJe
   rw[hab.hangs]
   exact this))⟩
theorem runAt_run {t t':P.Thr} (h:ThrLe t t') (i c:Nat):RunR (runAt t i c).run (runAt t' i c).run:=by
 obtain⟨es',he,e⟩:=runAt_r h i c
 rw[e]
 exact⟨rfl,he⟩
theorem joinAll_r:∀ {ts ts':List P.Thr} (i:Nat) (ds:List Int) {w w':Wd},zKB ts ts'→WdR w w'→WdR (zKg w (runsFrom i ts) ds) (zKg w' (runsFrom i ts') ds)
 | [],[],_,_,_,_,_,h=>h
 | a::x,b::y,i,[],w,w',_,h=>by simpa [runsFrom,zKg] using h
 | a::x,b::y,i,d::ds,w,w',hs,h=>by
  obtain⟨L,e1,e2⟩:=runs_list hs.1 i
  simp only[runsFrom,zKg]
  refine joinAll_r (i+1) ds hs.2 ?_
  rw[e1,e2]
  by_cases hd:d.toNat<L.length
  ·rw[dif_pos (by simpa using hd),dif_pos (by simpa using hd)]
   refine h.join ?_
   rw[List.getElem_map,List.getElem_map]
   exact runAt_run hs.1 i _
  ·rw[dif_neg (by simpa using hd),dif_neg (by simpa using hd)]
   exact h
theorem lens_r:∀ {ts ts':List P.Thr} (i:Nat),zKB ts ts'→zAZ (runsFrom i ts')=zAZ (runsFrom i ts)
 | [],[],_,_=>rfl
 | a::x,b::y,i,hs=>by
  obtain⟨L,e1,e2⟩:=runs_list hs.1 i
  have ih:=lens_r (i+1) hs.2
  unfold zAZ at ih ⊢
  simp only[runsFrom,List.map_cons]
  rw[ih,e1,e2]
  simp
section
variable {es es':List Ev}
theorem mayRead_r (h:EsR es es') (i:Nat):zJh es' i=zJh es i:=by
 unfold zJh
 have:mayR es' i=mayR es i:=funext fun k=>by
  unfold mayR
  rw[(h.ev k).le.kind,(h.ev k).var,(h.ev i).var,(h.ev k).le.value,(h.ev i).le.value,(h.ev i).le.step]
 rw[(h.ev i).le.kind,h.len,this]
theorem choices_r (h:EsR es es'):zIh es'=zIh es:=by
 unfold zIh
 rw[h.len]
 exact List.map_congr_left fun i _=>mayRead_r h i
theorem list_ev (g:Ev→Int) (es:List Ev):es.map g=(List.range es.length).map fun i=>g (ev es i):=by
 refine List.ext_getElem (by simp) (fun i h1 h2=>?_)
 have:i<es.length:=by simpa using h1
 simp[ev_in _ _ this]
theorem writeRows_r (h:EsR es es'):zIg es'=zIg es:=by
 unfold zIg
 rw[list_ev,list_ev _ es,h.len]
 exact List.map_congr_left fun i _=>by rw[(h.ev i).le.kind,(h.ev i).var]
theorem ordBases_r (h:EsR es es') (rs:List Int):zIm es' rs=zIm es rs:=by
 unfold zIm
 refine List.map_congr_left fun i _=>?_
 unfold zIP
 have:ordB es' rs i=ordB es rs i:=funext fun k=>by unfold ordB;rw[(h.ev k).thread]
 rw[this]
theorem lastV_r (h:EsR es es') (v:Int) (ps:List Int):lastV es' v ps=lastV es v ps:=by
 unfold lastV
 have:lastF v ps es'=lastF v ps es:=funext fun a=>funext fun i=>by
  unfold lastF
  rw[(h.ev i).le.kind,(h.ev i).var,(h.ev i).le.value]
 rw[h.len,this]
theorem outcome_r {w w':Wd} (h:WdR w w') (ps:List Int):zJD w' ps=zJD w ps:=by
 unfold zJD
 rw[h.regs,lastV_r h.evs,lastV_r h.evs,lastV_r h.evs]
theorem behindP_r (h:EsR es es') (ps:List Int) (i k:Nat):zKx es' ps i k=zKx es ps i k:=by
 unfold zKx
 rw[(h.ev i).le.kind,(h.ev k).le.kind,(h.ev i).var,(h.ev k).var]
theorem ehom_r (h:EsR es es'):EHom (fun i=>i) es es' where
 lt i hi:=by rw[h.len];exact hi
 inj i k _ _ e:=e
 le i _:=(h.ev i).le
 first i _:=by rw[(h.ev i).thread]
 thread i k _ _:=by rw[(h.ev i).thread,(h.ev k).thread]
 var i k _ _:=by rw[(h.ev i).var,(h.ev k).var]
 mono i k _ _ _ _ e:=e
 step i k _ _ _ e:=e
 hangs i k _ _ e:=by rw[(h.ev i).hangs];exact e
end
theorem worldAt_r {ts ts':List P.Thr} (h:zKB ts ts') (d:List Int):WdR (zIi (runs ts) d) (zIi (runs ts') d) :=
 joinAll_r 0 d h ⟨rfl,EsR.refl _⟩
theorem readsOf_lenM (cs:List (List Int)) (ds:List Int):(zJi cs ds).length=cs.length:=by simp[zJi]
theorem choices_lenM (es:List Ev):(zIh es).length=es.length:=by simp[zIh]
theorem stronger_source {ts ts':List P.Thr} (h:zKB ts ts') (hn:∀ d∈zIz (zAZ (runs ts)),(zIi (runs ts) d).events.length≤64) :
  (∀ r∈(zIB ts').rows,r∈(zIB ts).rows)∧((zIB ts').clash=true→(zIB ts).clash=true):=by
 have key:∀ c'∈cands ts',∀ ds∈ordsOf c'.wd,srcMay c' ds=true→∃ c∈cands ts,ds∈ordsOf c.wd∧srcMay c ds=true∧zJD c.wd (placesAt c.wd ds)=zJD c'.wd (placesAt c'.wd ds)∧(c'.facts.clashes (c'.facts.before c'.reads)=true→c.facts.clashes (c.facts.before c.reads)=true):=by
  intro c' hc' ds hds hm
  obtain⟨d,hd,rs,hrs,rfl,hh⟩:=cands_mem.1 hc'
  have hl:zAZ (runs ts')=zAZ (runs ts):=lens_r 0 h
  rw[hl] at hd
  have hw:=worldAt_r h d
  have hn0:=hn d hd
  generalize hW:zIi (runs ts) d=W at hw hn0
  generalize hW':zIi (runs ts') d=W' at *
  simp only at hds hm hh ⊢
  have hn1:W'.events.length≤64:=by rw[hw.evs.len];exact hn0
  have hch:=choices_r hw.evs
  rw[hch] at hrs
  have hwr:=writeRows_r hw.evs
  have hpl:placesAt W' ds=placesAt W ds:=by unfold placesAt;rw[hwr]
  have hl1:(zJi (zIh W.events) rs).length=W.events.length:=by rw[readsOf_lenM,choices_lenM]
  have hl2:(zJi (zIh W'.events) rs).length=W'.events.length:=by rw[readsOf_lenM,choices_lenM]
  have hom:=ehom_hom (ehom_r hw.evs) (rs:=zJi (zIh W.events) rs) (rs':=zJi (zIh W'.events) rs) (ps:=placesAt W ds) (ps':=placesAt W ds) (fun i k _ _ e=>by rw[hch];exact e) (fun i k _ _ e=>by rw[behindP_r hw.evs];exact e)
  refine⟨⟨W,zIu W.events,(zIu W.events).reads (zJi (zIh W.events) rs)⟩,cands_mem.2 ⟨d,hd,rs,by rw[hW];exact hrs,by rw[hW],?_⟩,?_,?_,?_,?_⟩
  ·exact (hang_iff hn0 hl1 (placesAt W ds)).2 (hom.noHang ((hang_iff hn1 hl2 _).1 hh))
  ·unfold ordsOf at hds ⊢
   rw[hwr,ordBases_r hw.evs] at hds
   exact hds
  ·unfold srcMay at hm ⊢
   simp only at hm ⊢
   rw[hpl] at hm
   exact (may_iff hn0 hl1 _).2 (hom.may ((may_iff hn1 hl2 _).1 hm))
  ·simp only
   rw[hpl,outcome_r hw]
  ·intro hc
   simp only at hc ⊢
   obtain⟨i,k,c⟩:=(clash_iff hn1 hl2 (placesAt W ds)).1 hc
   refine (clash_iff hn0 hl1 (placesAt W ds)).2 (ehom_clash (ehom_r hw.evs) (fun k hk _=>⟨k,by rw[← hw.evs.len];exact hk,rfl⟩) hom c)
 constructor
 ·intro r hr
  obtain⟨c',hc',ds,hds,hm,rfl⟩:=(source_rows ts' r).1 hr
  obtain⟨c,hc,h1,h2,h3,_⟩:=key c' hc' ds hds hm
  exact (source_rows ts _).2 ⟨c,hc,ds,h1,h2,h3.symm⟩
 ·intro hcl
  obtain⟨c',hc',ds,hds,hm,hk⟩:=(source_clash ts').1 hcl
  obtain⟨c,hc,h1,h2,_,h4⟩:=key c' hc' ds hds hm
  exact (source_clash ts).2 ⟨c,hc,ds,h1,h2,h4 hk⟩
end Q
namespace P
abbrev blockL:List UInt8:=[98,108,111,99,107]
abbrev deviceL:List UInt8:=[100,101,118,105,99,101]
abbrev zKC:List UInt8:=[115,116,111,114,101]
abbrev loadL:List UInt8:=[108,111,97,100]
abbrev addL:List UInt8:=[97,100,100]
abbrev swapL:List UInt8:=[115,119,97,112]
abbrev zJY:List UInt8:=[114,101,108,97,120,101,100]
abbrev zKo:List UInt8:=[97,99,113,117,105,114,101]
abbrev zKp:List UInt8:=[114,101,108,101,97,115,101]
abbrev zKj:List UInt8:=[97,99,113,114,101,108]
def inW (W x:List UInt8):Bool:=hasB x (32::(W++[32]))
def hW (n:Nat) (w:List UInt8):List UInt8 :=
 if n=1 then swapW zJY zKp (swapW blockL deviceL w)
 else if n=2 then swapW zJY zKo (swapW blockL deviceL w)
 else if n=3 then swapW zKp zKj (swapW zKo zKj (swapW zJY zKj (swapW blockL deviceL w)))
 else swapW blockL deviceL w
def kindW (x:List UInt8):Nat:=if zJj x zKC then 1 else if inW loadL x then 2 else if inW addL x||inW swapL x then 3 else 0
def gS (ws:List (List UInt8)):List (List UInt8):=ws.map (hW (kindW (joinC 32 (ws.map (swapW blockL deviceL))++[10])))
theorem swapW_short {a b w:List UInt8} (h:w.length≤4) (ha:5≤a.length):swapW a b w=w:=by
 unfold swapW
 rw[if_neg]
 intro e
 rw[eq_of_beq e] at h
 omega
theorem hW_short {n:Nat} {w:List UInt8} (h:w.length≤4):hW n w=w:=by
 have e:∀ b,swapW blockL b w=w:=fun b=>swapW_short h (by decide)
 have e1:∀ b,swapW zJY b w=w:=fun b=>swapW_short h (by decide)
 have e2:∀ b,swapW zKo b w=w:=fun b=>swapW_short h (by decide)
 have e3:∀ b,swapW zKp b w=w:=fun b=>swapW_short h (by decide)
 unfold hW
 split
 ·rw[e,e1]
 ·split
  ·rw[e,e1]
  ·split
   ·rw[e,e1,e2,e3]
   ·rw[e]
theorem begin_no {c:UInt8} {w:List UInt8} {q:List (List UInt8)} (hc:c≠115):zJj (joinC 32 ((c::w)::q)++[10]) zKC=false:=by
 have:∃ y,joinC 32 ((c::w)::q)++[10]=c::y:=by
  cases q with
  | nil=>exact⟨_,rfl⟩
  | cons a q=>exact⟨_,rfl⟩
 obtain⟨y,hy⟩:=this
 rw[hy]
 unfold zJj
 rw[Bool.and_eq_false_iff]
 refine Or.inr ?_
 rw[beq_eq_false_iff_ne]
 intro e
 simp only[List.length_cons,List.take_succ_cons] at e
 exact hc (List.cons.inj e).1
theorem begin_yes {q:List (List UInt8)} (hq:q≠[]):zJj (joinC 32 (zKC::q)++[10]) zKC=true:=by
 rw[joinC_cons 32 _ _ hq]
 unfold zJj
 simp
theorem inW_words {ws:List (List UInt8)} (hn:ws≠[]) (h:∀ w∈ws,(32:UInt8) ∉ w) (W:List UInt8) (hW:(32:UInt8) ∉ W):inW W (joinC 32 ws++[10])=(ws.tail.dropLast).contains W:=by
 unfold inW
 rw[has_word _ W hW,split_join 32 hn h]
structure RS (s t:Stm):Prop where
 le:Q.StLe s t
 line:t.line=s.line
theorem RS.refl (s:Stm):RS s s:=⟨⟨rfl,rfl,rfl,rfl,rfl,id,id,id,fun _=>rfl,id⟩,rfl⟩
theorem rs_str:StR RS where
 kind s t h:=h.le.kind
 line s t h:=h.line
 fen s t h:=h.le.sc
 sl s t l h:=⟨⟨h.le.kind,h.le.dest,h.le.var,h.le.a,h.le.b,h.le.ord,h.le.rel,h.le.acq,h.le.sc,h.le.scope⟩,rfl⟩
 sb s t l h:=⟨⟨h.le.kind,h.le.dest,h.le.var,h.le.a,h.le.b,h.le.ord,h.le.rel,h.le.acq,h.le.sc,h.le.scope⟩,h.line⟩
def upO (n:Nat) (o:Int):Int:=if n=1 then (if o=1 then 3 else o) else if n=2 then (if o=1 then 2 else o) else if n=3 then (if o=1∨o=2∨o=3 then 4 else o) else o
theorem ordW_up (n:Nat) (hn:n≤3) (o:Int) (ho:o=0∨o=1∨o=2∨o=3∨o=4∨o=5):hW n (ordW o)=ordW (upO n o):=by
 have:n=0∨n=1∨n=2∨n=3:=by omega
 rcases this with rfl | rfl | rfl | rfl<;>rcases ho with rfl | rfl | rfl | rfl | rfl | rfl<;>decide
theorem order_ordW (o:Int) (ho:o=0∨o=1∨o=2∨o=3∨o=4∨o=5):order (ordW o)=(o,true):=by
 rcases ho with rfl | rfl | rfl | rfl | rfl | rfl<;>decide
theorem hW_scope (n:Nat) {s:List UInt8} (h:(scope s).2=true) (hn:n≤3):scope (hW n s)=(1,true):=by
 have:n=0∨n=1∨n=2∨n=3:=by omega
 rcases scope_word h with ⟨rfl,_⟩ | ⟨rfl,_⟩<;>rcases this with rfl | rfl | rfl | rfl<;>decide
def fitK (n:Nat) (k:Int):Prop:=(n=1∧k=1)∨(n=2∧k=0)∨(n=3∧(k=2∨k=3))∨(n=0∧k=4)
theorem ordering_up {n:Nat} {st st':Stm} {r:List (List UInt8)} (hk:fitK n st.kind) (h:zJa st r=(st',true)):∃ st2,zJa st (r.map (hW n))=(st2,true)∧RS st' st2:=by
 have hn:n≤3:=by unfold fitK at hk;omega
 rcases ordering_word h with ⟨o,rfl,ho,rfl⟩ | ⟨o,s,rfl,h1,h2,h3,rfl,h5⟩
 ·refine⟨{ st with order:=0 },?_,RS.refl _⟩
  rw[List.map_cons,List.map_nil,hW_short (by rw[ho];decide)]
  exact h
 ·obtain⟨hw,hr⟩:=order_word h1
  generalize hoo:(order o).1=oo at *
  have hup:upO n oo=1∨upO n oo=2∨upO n oo=3∨upO n oo=4∨upO n oo=5:=by
   unfold upO
   repeat' split
   all_goals omega
  have e1:order (hW n o)=(upO n oo,true):=by
   rw[hw,ordW_up n hn oo hr]
   exact order_ordW _ (by omega)
  have hal:zKq st.kind (upO n oo)=true∧(upO n oo≠0)∧(P.rel oo=true→P.rel (upO n oo)=true)∧(P.acq oo=true→P.acq (upO n oo)=true)∧(st.kind=4→upO n oo=oo):=by
   rcases hk with ⟨rfl,e⟩ | ⟨rfl,e⟩ | ⟨rfl,e | e⟩ | ⟨rfl,e⟩<;>rw[e] at h5 ⊢<;>rcases hr with rfl | rfl | rfl | rfl | rfl | rfl<;>first | (exact absurd h5 (by decide)) | (exact absurd rfl h3) | decide
  refine⟨{ st with order:=upO n oo,scope:=1 },?_,?_⟩
  ·rw[List.map_cons,List.map_cons,List.map_nil,ordering_two st _ _ (by rw[e1]) (by rw[e1];exact hal.1) (by rw[e1];exact beq_eq_false_iff_ne.2 hal.2.1),e1,hW_scope n h2 hn]
  ·exact⟨⟨rfl,rfl,rfl,rfl,rfl,fun _=>hal.2.1,hal.2.2.1,hal.2.2.2.1,hal.2.2.2.2,fun _=>rfl⟩,rfl⟩
end P
end Go.Proofs.YtkmebkbpfmoeaaaGreat
