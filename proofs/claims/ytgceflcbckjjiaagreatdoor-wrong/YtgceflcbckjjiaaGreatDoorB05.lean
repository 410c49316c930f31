import Derived.Deep.RegionLaw
import Derived.Test.YtgceflcbckjjiaaGreatDoorB03
import Derived.Test.YtgceflcbckjjiaaGreatDoorB04
set_option linter.unusedVariables false
set_option linter.unusedSimpArgs false
namespace Go.Proofs.YtgceflcbckjjiaaGreatDoor
open Go Go.RowKit
set_option maxRecDepth 100000
def thrCells:List P.Thr→List Value→List Value
 | t::ts,v::vs=>.int .i64 t.block::.int .i64 t.line::v::thrCells ts vs
 | _,_=>[]
def flatStm (l:List P.Stm):List Value:=l.flatMap (fun s=>(stmCells s).toList)
theorem flatStm_snoc (l:List P.Stm) (s:P.Stm):flatStm (l++[s])=flatStm l++(stmCells s).toList:=by simp[flatStm]
def StmtsAt (w:World) (B:Nat):List P.Thr→List Value→Prop
 | [],[]=>True
 | t::ts,v::vs=>w.ownsRow B 96 11 v t.stmts.length (flatStm t.stmts)∧(∀ u∈vs,v.ownBlock=none∨v.ownBlock≠u.ownBlock)∧StmtsAt w B ts vs
 | _,_=>False
structure RdIn (w:World) (B g:Nat) (r:P.Rd) (tv ov:Value) (vs:List Value):Prop where
 cells:w.heap[g]?=some (.cells #[tv,.int .i64 r.most,.int .i64 r.count,.int .i64 r.ifs,ov] 106 (0,0))
 threads:w.ownsRow B 88 3 tv r.threads.length (thrCells r.threads vs)
 opn:w.ownsRow B 3 1 ov r.opn.length (r.opn.map (Value.int .i64))
 stmts:StmtsAt w B r.threads vs
def RdAt (w:World) (B g:Nat) (r:P.Rd):Prop:=∃ tv ov vs,RdIn w B g r tv ov vs
theorem ownsRow_keep {w w':World} {B:Nat} {e:TypeId} {sz:Nat} {v:Value} {n:Nat} {xs:List Value} (h:w.ownsRow B e sz v n xs) (hk:∀ k,v.ownBlock=some k→w'.heap[k]?=w.heap[k]?):w'.ownsRow B e sz v n xs:=by
 refine⟨h.1,?_⟩
 rcases h.2 with hn | ⟨g,cap,cur,rfl,hb,hgg,rest⟩
 ·exact .inl hn
 ·exact .inr ⟨g,cap,cur,rfl,hb,by rw[hk g rfl];exact hgg,rest⟩
theorem StmtsAt.length {w:World} {B:Nat}:∀ {ts:List P.Thr} {vs:List Value},StmtsAt w B ts vs→vs.length=ts.length
 | [],[],_=>rfl
 | _::_,_::_,h=>by simp[StmtsAt.length h.2.2]
theorem StmtsAt.keep {w w':World} {B:Nat}:∀ {ts:List P.Thr} {vs:List Value},StmtsAt w B ts vs→(∀ v∈vs,∀ k,v.ownBlock=some k→w'.heap[k]?=w.heap[k]?)→StmtsAt w' B ts vs
 | [],[],_,_=>trivial
 | _::_,v::_,h,hk=>⟨ownsRow_keep h.1 (hk v (by simp)),h.2.1,StmtsAt.keep h.2.2 (fun u hu=>hk u (by simp[hu]))⟩
theorem StmtsAt.mem {w:World} {B:Nat}:∀ {ts:List P.Thr} {vs:List Value},StmtsAt w B ts vs→∀ v∈vs,∃ n xs,w.ownsRow B 96 11 v n xs
 | [],[],_,u,hu=>by simp at hu
 | _::_,v::_,h,u,hu=>by
  rcases List.mem_cons.1 hu with rfl | hu
  ·exact⟨_,_,h.1⟩
  ·exact StmtsAt.mem h.2.2 u hu
theorem RdIn.lt {w:World} {B g:Nat} {r:P.Rd} {tv ov:Value} {vs:List Value} (h:RdIn w B g r tv ov vs):g<w.heap.size:=(Array.getElem?_eq_some_iff.1 h.cells).1
theorem RdIn.keep {w w':World} {B g:Nat} {r:P.Rd} {tv ov:Value} {vs:List Value} (h:RdIn w B g r tv ov vs) (hk:∀ k,k<w.heap.size→w'.heap[k]?=w.heap[k]?):RdIn w' B g r tv ov vs :=
 ⟨by rw[hk g h.lt];exact h.cells,ownsRow_keep h.threads (fun k e=>hk k (h.threads.lt k e).2),ownsRow_keep h.opn (fun k e=>hk k (h.opn.lt k e).2),
  h.stmts.keep (fun v hv k e=>by obtain⟨n,xs,ho⟩:=h.stmts.mem v hv;exact hk k (ho.lt k e).2)⟩
theorem RdAt.below {w w':World} {B g:Nat} {r:P.Rd} (h:RdAt w B g r) (hb:Below w.heap.size w w'):RdAt w' B g r:=by
 obtain⟨tv,ov,vs,h⟩:=h
 exact⟨tv,ov,vs,h.keep hb.block⟩
theorem own_type {w:World} {B:Nat} {e:TypeId} {sz:Nat} {v:Value} {n:Nat} {xs:List Value} (h:w.ownsRow B e sz v n xs) {k:Nat} (hk:v.ownBlock=some k):∃ cur,w.heap[k]?=some (.cells cur e (0,0)):=by
 rcases h.2 with ⟨rfl,_⟩ | ⟨g,cap,cur,rfl,hb,hgg,rest⟩
 ·simp[Value.ownBlock] at hk
 ·simp[Value.ownBlock] at hk;subst hk;exact⟨cur,hgg⟩
theorem own_ne {w:World} {B B':Nat} {e e':TypeId} {sz sz':Nat} {v v':Value} {n n':Nat} {xs xs':List Value} (h:w.ownsRow B e sz v n xs) (h':w.ownsRow B' e' sz' v' n' xs') (hne:e≠e') {k:Nat} (hk:v.ownBlock=some k):v'.ownBlock≠some k:=by
 intro hk'
 obtain⟨c,hc⟩:=own_type h hk
 obtain⟨c',hc'⟩:=own_type h' hk'
 rw[hc] at hc';simp at hc';exact hne hc'.2
theorem own_ne_blk {w:World} {B:Nat} {e e':TypeId} {sz:Nat} {v:Value} {n:Nat} {xs:List Value} {g:Nat} {cs:Array Value} {fr:Nat × Nat} (h:w.ownsRow B e sz v n xs) (h':w.heap[g]?=some (.cells cs e' fr)) (hne:e≠e'):v.ownBlock≠some g:=by
 intro hk
 obtain⟨c,hc⟩:=own_type h hk
 rw[hc] at h';simp at h';exact hne h'.2.1
theorem thrCells_snoc:∀ (ts:List P.Thr) (vs:List Value) (t:P.Thr) (v:Value),vs.length=ts.length→thrCells (ts++[t]) (vs++[v])=thrCells ts vs++[.int .i64 t.block,.int .i64 t.line,v]
 | [],[],_,_,_=>rfl
 | a::r,b::q,t,v,h=>by simp[thrCells,thrCells_snoc r q t v (by simpa using h)]
theorem thrCells_length:∀ (ts:List P.Thr) (vs:List Value),vs.length=ts.length→(thrCells ts vs).length=ts.length*3
 | [],[],_=>rfl
 | a::r,b::q,h=>by simp[thrCells,thrCells_length r q (by simpa using h)];omega
theorem StmtsAt_snoc {w:World} {B:Nat}:∀ (ts:List P.Thr) (vs:List Value) (t:P.Thr) (v:Value),StmtsAt w B (ts++[t]) (vs++[v]) ↔ StmtsAt w B ts vs∧w.ownsRow B 96 11 v t.stmts.length (flatStm t.stmts)∧∀ u∈vs,u.ownBlock=none∨u.ownBlock≠v.ownBlock
 | [],[],t,v=>by simp[StmtsAt]
 | [],b::q,t,v=>by
  cases q with
  | nil=>simp[StmtsAt]
  | cons c q=>simp[StmtsAt]
 | a::r,[],t,v=>by
  cases r with
  | nil=>simp[StmtsAt]
  | cons c q=>simp[StmtsAt]
 | a::r,b::q,t,v=>by
  have ih:=StmtsAt_snoc (w:=w) (B:=B) r q t v
  simp only[List.cons_append,StmtsAt,ih]
  constructor
  ·rintro ⟨h1,h2,h3,h4,h5⟩
   refine⟨⟨h1,fun u hu=>h2 u (by simp[hu]),h3⟩,h4,fun u hu=>?_⟩
   rcases List.mem_cons.1 hu with rfl | hu
   ·exact h2 v (by simp)
   ·exact h5 u hu
  ·rintro ⟨⟨h1,h2,h3⟩,h4,h5⟩
   refine⟨h1,fun u hu=>?_,h3,h4,fun u hu=>h5 u (by simp[hu])⟩
   rcases List.mem_append.1 hu with hu | hu
   ·exact h2 u hu
   ·simp at hu;subst hu;exact h5 b (by simp)
theorem snoc_of {α:Type} (l:List α) (h:l≠[]):∃ a b,l=a++[b]:=⟨l.dropLast,l.getLast h,(List.dropLast_concat_getLast h).symm⟩
theorem Tryz.infoStm:(Tryz.prog.info? 96).map (fun i=>(i.zero,i.size,i.bytes))=some (some (.agg (stmCells P.Stm.zero)),11,88):=by kernel_rfl
theorem put_mem {w W0 w1:World} {B g bt n capT m g1 cap1:Nat} {r:P.Rd} {ts:List P.Thr} {t:P.Thr} {vs:List Value} {sv ov:Value} {st:P.Stm}
  (hr:r.threads=ts++[t]) (hn:ts.length=n) (hm:t.stmts.length=m)
  (h:RdIn w B g r (.slice (some ⟨bt,0,none⟩) (n+1) capT) ov (vs++[sv]))
  (hk:∀ k,k<w.heap.size→W0.heap[k]?=w.heap[k]?) (hsz:w.heap.size≤W0.heap.size) (hos:W0.os=w.os) (htp:W0.tape=w.tape) (hou:W0.output=w.output) (hB:B≤w.heap.size)
  (hown:w1.ownsRow B 96 11 (.slice (some ⟨g1,0,none⟩) (m+1) cap1) (m+1) (flatStm t.stmts++(stmCells st).toList)) (hgrow:W0.grownBy w1 sv.ownBlock) (hat:sv.ownBlock=some g1∨g1=W0.heap.size) :
  RdAt (w1.setCell ⟨bt,n*3+2,none⟩ (.slice (some ⟨g1,0,none⟩) (m+1) cap1)) B g (P.put r st)∧Below B w (w1.setCell ⟨bt,n*3+2,none⟩ (.slice (some ⟨g1,0,none⟩) (m+1) cap1)):=by
 have hst:=h.stmts
 rw[hr,StmtsAt_snoc] at hst
 obtain⟨hs0,hsv,hpw⟩:=hst
 have hthr:=h.threads
 have hbtT:=own_type hthr (k:=bt) rfl
 obtain⟨cur,hcur⟩:=hbtT
 have hbtlt:bt<w.heap.size:=(Array.getElem?_eq_some_iff.1 hcur).1
 have hlv:vs.length=ts.length:=hs0.length
 have svne:∀ k c e fr,w.heap[k]?=some (.cells c e fr)→e≠96→sv.ownBlock≠some k:=fun k c e fr hc he=>own_ne_blk hsv hc (Ne.symm he)
 have same:∀ k,k<w.heap.size→sv.ownBlock≠some k→k≠bt→(w1.setCell ⟨bt,n*3+2,none⟩ (.slice (some ⟨g1,0,none⟩) (m+1) cap1)).heap[k]?=w.heap[k]?:=fun k hlt h1 h2=>by
  rw[Below.heap_setCell _ _ _ _ h2,hgrow.block k (by omega) (Ne.symm h1),hk k hlt]
 have hg1bt:g1≠bt:=by
  intro e;subst e
  rcases hat with ha | ha
  ·exact svne g1 cur _ _ hcur (by decide) ha
  ·omega
 refine⟨⟨.slice (some ⟨bt,0,none⟩) (n+1) capT,ov,vs++[.slice (some ⟨g1,0,none⟩) (m+1) cap1],?_,?_,?_,?_⟩,?_⟩
 ·have hgne:g≠bt:=fun e=>by subst e;rw[h.cells] at hcur;simp at hcur
  rw[same g h.lt (svne g _ _ _ h.cells (by decide)) hgne]
  exact h.cells
 ·have h1:w1.ownsRow B 88 3 (.slice (some ⟨bt,0,none⟩) (n+1) capT) (n+1) (thrCells r.threads (vs++[sv])):=by
   have e:r.threads.length=n+1:=by rw[hr];simp;omega
   rw[e] at hthr
   exact ownsRow_keep hthr (fun k hk'=>by
    simp[Value.ownBlock] at hk';subst hk'
    rw[hgrow.block bt (by omega) (Ne.symm (svne bt cur _ _ hcur (by decide))),hk bt hbtlt])
  have h2:=(h1.stored (n*3+2) (.slice (some ⟨g1,0,none⟩) (m+1) cap1)).1
  have e1:(P.put r st).threads=ts++[{ t with stmts:=t.stmts++[st] }]:=by simp only[P.put,hr,P.putLast_snoc]
  rw[e1,thrCells_snoc _ _ _ _ hlv]
  rw[hr,thrCells_snoc _ _ _ _ hlv] at h2
  have e2:(thrCells ts vs++[Value.int .i64 t.block,.int .i64 t.line,sv]).set (n*3+2) (.slice (some ⟨g1,0,none⟩) (m+1) cap1)=thrCells ts vs++[.int .i64 t.block,.int .i64 t.line,.slice (some ⟨g1,0,none⟩) (m+1) cap1]:=by
   rw[List.set_append_right _ _ (by rw[thrCells_length _ _ hlv];omega),thrCells_length _ _ hlv,show n*3+2-ts.length*3=2 by omega]
   rfl
  rw[e2] at h2
  simpa [hn] using h2
 ·refine ownsRow_keep h.opn (fun k hk'=>?_)
  have hl:=h.opn.lt k hk'
  refine same k hl.2 ?_ ?_
  ·exact own_ne h.opn hsv (by decide) hk'
  ·intro e;subst e
   exact own_ne h.opn hthr (by decide) hk' rfl
 ·have e1:(P.put r st).threads=ts++[{ t with stmts:=t.stmts++[st] }]:=by simp only[P.put,hr,P.putLast_snoc]
  rw[e1,StmtsAt_snoc]
  refine⟨hs0.keep (fun u hu k hk'=>?_),?_,fun u hu=>?_⟩
  ·obtain⟨n',xs',hu'⟩:=hs0.mem u hu
   have hlt:=(hu'.lt k hk').2
   refine same k hlt (fun e=>?_) (fun e=>?_)
   ·rcases hpw u hu with hp | hp
    ·rw[hp] at hk';cases hk'
    ·exact hp (by rw[hk',e])
   ·subst e
    exact own_ne hu' hthr (by decide) hk' rfl
  ·have:=hown
   rw[← flatStm_snoc] at this
   refine ownsRow_keep (by simpa [hm] using this) (fun k hk'=>?_)
   simp[Value.ownBlock] at hk';subst hk'
   exact Below.heap_setCell _ _ _ _ hg1bt
  ·rcases hpw u hu with hp | hp
   ·exact .inl hp
   ·rcases hat with ha | ha
    ·exact .inr (by rw[ha] at hp;exact hp)
    ·refine .inr (fun e=>?_)
     obtain⟨n',xs',hu'⟩:=hs0.mem u hu
     have:=(hu'.lt g1 e).2
     omega
 ·refine⟨hgrow.os.trans hos,hgrow.tape.trans htp,hgrow.output.trans hou,?_,fun k hk'=>?_⟩
  ·have:=hgrow.size;simp[World.setCell];omega
  ·refine same k (by omega) (fun e=>?_) (fun e=>?_)
   ·have:=(hsv.lt k e).1;omega
   ·have:=(hthr.lt bt rfl).1;omega
end Go.Proofs.YtgceflcbckjjiaaGreatDoor
