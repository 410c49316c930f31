import Derived.Test.YtkmebkbpfmoeaaaGreatH02
set_option linter.unusedVariables false
set_option linter.unusedSimpArgs false
set_option maxHeartbeats 12800000
namespace Go.Proofs.YtkmebkbpfmoeaaaGreat
open Go Go.RowKit
set_option maxRecDepth 100000
def zAO:List P.Thr→List Value→List Value
 | t::ts,v::vs=>.int .i64 t.block::.int .i64 t.line::v::zAO ts vs
 | _,_=>[]
def zBa (l:List P.Stm):List Value:=l.flatMap (fun s=>(zAd s).toList)
theorem zCX (l:List P.Stm) (s:P.Stm):zBa (l++[s])=zBa l++(zAd s).toList:=by simp[zBa]
def zAP (w:World) (B:Nat):List P.Thr→List Value→Prop
 | [],[]=>True
 | t::ts,v::vs=>w.ownsRow B 97 11 v t.stmts.length (zBa t.stmts)∧(∀ u∈vs,v.ownBlock=none∨v.ownBlock≠u.ownBlock)∧zAP w B ts vs
 | _,_=>False
structure RdIn (w:World) (B g:Nat) (r:P.Rd) (tv ov:Value) (vs:List Value):Prop where
 cells:w.heap[g]?=some (.cells #[tv,.int .i64 r.most,.int .i64 r.count,.int .i64 r.ifs,ov] 83 (0,0))
 threads:w.ownsRow B 93 3 tv r.threads.length (zAO r.threads vs)
 opn:w.ownsRow B 3 1 ov r.opn.length (r.opn.map (Value.int .i64))
 stmts:zAP w B r.threads vs
def zCb (w:World) (B g:Nat) (r:P.Rd):Prop:=∃ tv ov vs,RdIn w B g r tv ov vs
theorem zAc {w w':World} {B:Nat} {e:TypeId} {sz:Nat} {v:Value} {n:Nat} {xs:List Value} (h:w.ownsRow B e sz v n xs) (hk:∀ k,v.ownBlock=some k→w'.heap[k]?=w.heap[k]?):w'.ownsRow B e sz v n xs:=by
 refine⟨h.1,?_⟩
 rcases h.2 with hn | ⟨g,cap,cur,rfl,hb,hgg,rest⟩
 ·exact .inl hn
 ·exact .inr ⟨g,cap,cur,rfl,hb,by rw[hk g rfl];exact hgg,rest⟩
theorem zAP.length {w:World} {B:Nat}:∀ {ts:List P.Thr} {vs:List Value},zAP w B ts vs→vs.length=ts.length
 | [],[],_=>rfl
 | _::_,_::_,h=>by simp[zAP.length h.2.2]
theorem zAP.keep {w w':World} {B:Nat}:∀ {ts:List P.Thr} {vs:List Value},zAP w B ts vs→(∀ v∈vs,∀ k,v.ownBlock=some k→w'.heap[k]?=w.heap[k]?)→zAP w' B ts vs
 | [],[],_,_=>trivial
 | _::_,v::_,h,hk=>⟨zAc h.1 (hk v (by simp)),h.2.1,zAP.keep h.2.2 (fun u hu=>hk u (by simp[hu]))⟩
theorem zAP.mem {w:World} {B:Nat}:∀ {ts:List P.Thr} {vs:List Value},zAP w B ts vs→∀ v∈vs,∃ n xs,w.ownsRow B 97 11 v n xs
 | [],[],_,u,hu=>by simp at hu
 | _::_,v::_,h,u,hu=>by
  rcases List.mem_cons.1 hu with rfl | hu
  ·exact⟨_,_,h.1⟩
  ·exact zAP.mem h.2.2 u hu
theorem RdIn.lt {w:World} {B g:Nat} {r:P.Rd} {tv ov:Value} {vs:List Value} (h:RdIn w B g r tv ov vs):g<w.heap.size:=(Array.getElem?_eq_some_iff.1 h.cells).1
theorem RdIn.keep {w w':World} {B g:Nat} {r:P.Rd} {tv ov:Value} {vs:List Value} (h:RdIn w B g r tv ov vs) (hk:∀ k,k<w.heap.size→w'.heap[k]?=w.heap[k]?):RdIn w' B g r tv ov vs :=
 ⟨by rw[hk g h.lt];exact h.cells,zAc h.threads (fun k e=>hk k (h.threads.lt k e).2),zAc h.opn (fun k e=>hk k (h.opn.lt k e).2),
  h.stmts.keep (fun v hv k e=>by obtain⟨n,xs,ho⟩:=h.stmts.mem v hv;exact hk k (ho.lt k e).2)⟩
theorem zCb.below {w w':World} {B g:Nat} {r:P.Rd} (h:zCb w B g r) (hb:Below w.heap.size w w'):zCb w' B g r:=by
 obtain⟨tv,ov,vs,h⟩:=h
 exact⟨tv,ov,vs,h.keep hb.block⟩
theorem zBh {w:World} {B:Nat} {e:TypeId} {sz:Nat} {v:Value} {n:Nat} {xs:List Value} (h:w.ownsRow B e sz v n xs) {k:Nat} (hk:v.ownBlock=some k):∃ cur,w.heap[k]?=some (.cells cur e (0,0)):=by
 rcases h.2 with ⟨rfl,_⟩ | ⟨g,cap,cur,rfl,hb,hgg,rest⟩
 ·simp[Value.ownBlock] at hk
 ·simp[Value.ownBlock] at hk;subst hk;exact⟨cur,hgg⟩
theorem own_ne {w:World} {B B':Nat} {e e':TypeId} {sz sz':Nat} {v v':Value} {n n':Nat} {xs xs':List Value} (h:w.ownsRow B e sz v n xs) (h':w.ownsRow B' e' sz' v' n' xs') (hne:e≠e') {k:Nat} (hk:v.ownBlock=some k):v'.ownBlock≠some k:=by
 intro hk'
 obtain⟨c,hc⟩:=zBh h hk
 obtain⟨c',hc'⟩:=zBh h' hk'
 rw[hc] at hc';simp at hc';exact hne hc'.2
theorem zBl {w:World} {B:Nat} {e e':TypeId} {sz:Nat} {v:Value} {n:Nat} {xs:List Value} {g:Nat} {cs:Array Value} {fr:Nat × Nat} (h:w.ownsRow B e sz v n xs) (h':w.heap[g]?=some (.cells cs e' fr)) (hne:e≠e'):v.ownBlock≠some g:=by
 intro hk
 obtain⟨c,hc⟩:=zBh h hk
 rw[hc] at h';simp at h';exact hne h'.2.1
theorem zBu:∀ (ts:List P.Thr) (vs:List Value) (t:P.Thr) (v:Value),vs.length=ts.length→zAO (ts++[t]) (vs++[v])=zAO ts vs++[.int .i64 t.block,.int .i64 t.line,v]
 | [],[],_,_,_=>rfl
 | a::r,b::q,t,v,h=>by simp[zAO,zBu r q t v (by simpa using h)]
theorem zBj:∀ (ts:List P.Thr) (vs:List Value),vs.length=ts.length→(zAO ts vs).length=ts.length*3
 | [],[],_=>rfl
 | a::r,b::q,h=>by simp[zAO,zBj r q (by simpa using h)];omega
theorem zBD {w:World} {B:Nat}:∀ (ts:List P.Thr) (vs:List Value) (t:P.Thr) (v:Value),zAP w B (ts++[t]) (vs++[v]) ↔ zAP w B ts vs∧w.ownsRow B 97 11 v t.stmts.length (zBa t.stmts)∧∀ u∈vs,u.ownBlock=none∨u.ownBlock≠v.ownBlock
 | [],[],t,v=>by simp[zAP]
 | [],b::q,t,v=>by
  cases q with
  | nil=>simp[zAP]
  | cons c q=>simp[zAP]
 | a::r,[],t,v=>by
  cases r with
  | nil=>simp[zAP]
  | cons c q=>simp[zAP]
 | a::r,b::q,t,v=>by
  have ih:=zBD (w:=w) (B:=B) r q t v
  simp only[List.cons_append,zAP,ih]
  constructor
  ·rintro ⟨h1,h2,h3,h4,h5⟩
   refine⟨⟨h1,fun u hu=>h2 u (by simp[hu]),h3⟩,h4,fun u hu=>?_⟩
   rcases List.mem_cons.1 hu with rfl | hu
   ·exact h2 v (by simp)
   ·exact h5 u hu
  ·rintro ⟨⟨h1,h2,h3⟩,h4,h5⟩
   refine⟨h1,fun u hu=>?_,h3,h4,fun u hu=>h5 u (by simp[hu])⟩
   rcases List.mem_append.1 hu with hu | hu
   ·exact h2 u hu
   ·simp at hu;subst hu;exact h5 b (by simp)
theorem zDW {α:Type} (l:List α) (h:l≠[]):∃ a b,l=a++[b]:=⟨l.dropLast,l.getLast h,(List.dropLast_concat_getLast h).symm⟩
theorem Tryz.infoStm:(Tryz.prog.info? 97).map (fun i=>(i.zero,i.size,i.bytes))=some (some (.agg (zAd P.Stm.zero)),11,88):=by kernel_rfl
theorem zHz {w W0 w1:World} {B g bt n capT m g1 cap1:Nat} {r:P.Rd} {ts:List P.Thr} {t:P.Thr} {vs:List Value} {sv ov:Value} {st:P.Stm}
  (hr:r.threads=ts++[t]) (hn:ts.length=n) (hm:t.stmts.length=m)
  (h:RdIn w B g r (.slice (some ⟨bt,0,none⟩) (n+1) capT) ov (vs++[sv]))
  (hk:∀ k,k<w.heap.size→W0.heap[k]?=w.heap[k]?) (hsz:w.heap.size≤W0.heap.size) (hos:W0.os=w.os) (htp:W0.tape=w.tape) (hou:W0.output=w.output) (hB:B≤w.heap.size)
  (hown:w1.ownsRow B 97 11 (.slice (some ⟨g1,0,none⟩) (m+1) cap1) (m+1) (zBa t.stmts++(zAd st).toList)) (hgrow:W0.grownBy w1 sv.ownBlock) (hat:sv.ownBlock=some g1∨g1=W0.heap.size) :
  zCb (w1.setCell ⟨bt,n*3+2,none⟩ (.slice (some ⟨g1,0,none⟩) (m+1) cap1)) B g (P.put r st)∧Below B w (w1.setCell ⟨bt,n*3+2,none⟩ (.slice (some ⟨g1,0,none⟩) (m+1) cap1)):=by
 have hst:=h.stmts
 rw[hr,zBD] at hst
 obtain⟨hs0,hsv,hpw⟩:=hst
 have hthr:=h.threads
 have hbtT:=zBh hthr (k:=bt) rfl
 obtain⟨cur,hcur⟩:=hbtT
 have hbtlt:bt<w.heap.size:=(Array.getElem?_eq_some_iff.1 hcur).1
 have hlv:vs.length=ts.length:=hs0.length
 have svne:∀ k c e fr,w.heap[k]?=some (.cells c e fr)→e≠97→sv.ownBlock≠some k:=fun k c e fr hc he=>zBl hsv hc (Ne.symm he)
 have same:∀ k,k<w.heap.size→sv.ownBlock≠some k→k≠bt→(w1.setCell ⟨bt,n*3+2,none⟩ (.slice (some ⟨g1,0,none⟩) (m+1) cap1)).heap[k]?=w.heap[k]?:=fun k hlt h1 h2=>by
  rw[Below.heap_setCell _ _ _ _ h2,hgrow.block k (by omega) (Ne.symm h1),hk k hlt]
 have hg1bt:g1≠bt:=by
  intro e;subst e
  rcases hat with ha | ha
  ·exact svne g1 cur _ _ hcur (by decide) ha
  ·omega
 refine⟨⟨.slice (some ⟨bt,0,none⟩) (n+1) capT,ov,vs++[.slice (some ⟨g1,0,none⟩) (m+1) cap1],?_,?_,?_,?_⟩,?_⟩
 ·have hgne:g≠bt:=fun e=>by subst e;rw[h.cells] at hcur;simp at hcur
  rw[same g h.lt (svne g _ _ _ h.cells (by decide)) hgne]
  exact h.cells
 ·have h1:w1.ownsRow B 93 3 (.slice (some ⟨bt,0,none⟩) (n+1) capT) (n+1) (zAO r.threads (vs++[sv])):=by
   have e:r.threads.length=n+1:=by rw[hr];simp;omega
   rw[e] at hthr
   exact zAc hthr (fun k hk'=>by
    simp[Value.ownBlock] at hk';subst hk'
    rw[hgrow.block bt (by omega) (Ne.symm (svne bt cur _ _ hcur (by decide))),hk bt hbtlt])
  have h2:=(h1.stored (n*3+2) (.slice (some ⟨g1,0,none⟩) (m+1) cap1)).1
  have e1:(P.put r st).threads=ts++[{ t with stmts:=t.stmts++[st] }]:=by simp only[P.put,hr,P.zJu]
  rw[e1,zBu _ _ _ _ hlv]
  rw[hr,zBu _ _ _ _ hlv] at h2
  have e2:(zAO ts vs++[Value.int .i64 t.block,.int .i64 t.line,sv]).set (n*3+2) (.slice (some ⟨g1,0,none⟩) (m+1) cap1)=zAO ts vs++[.int .i64 t.block,.int .i64 t.line,.slice (some ⟨g1,0,none⟩) (m+1) cap1]:=by
   rw[List.set_append_right _ _ (by rw[zBj _ _ hlv];omega),zBj _ _ hlv,show n*3+2-ts.length*3=2 by omega]
   rfl
  rw[e2] at h2
  simpa [hn] using h2
 ·refine zAc h.opn (fun k hk'=>?_)
  have hl:=h.opn.lt k hk'
  refine same k hl.2 ?_ ?_
  ·exact own_ne h.opn hsv (by decide) hk'
  ·intro e;subst e
   exact own_ne h.opn hthr (by decide) hk' rfl
 ·have e1:(P.put r st).threads=ts++[{ t with stmts:=t.stmts++[st] }]:=by simp only[P.put,hr,P.zJu]
  rw[e1,zBD]
  refine⟨hs0.keep (fun u hu k hk'=>?_),?_,fun u hu=>?_⟩
  ·obtain⟨n',xs',hu'⟩:=hs0.mem u hu
   have hlt:=(hu'.lt k hk').2
   refine same k hlt (fun e=>?_) (fun e=>?_)
   ·rcases hpw u hu with hp | hp
    ·rw[hp] at hk';cases hk'
    ·exact hp (by rw[hk',e])
   ·subst e
    exact own_ne hu' hthr (by decide) hk' rfl
  ·have:=hown
   rw[← zCX] at this
   refine zAc (by simpa [hm] using this) (fun k hk'=>?_)
   simp[Value.ownBlock] at hk';subst hk'
   exact Below.heap_setCell _ _ _ _ hg1bt
  ·rcases hpw u hu with hp | hp
   ·exact .inl hp
   ·rcases hat with ha | ha
    ·exact .inr (by rw[ha] at hp;exact hp)
    ·refine .inr (fun e=>?_)
     obtain⟨n',xs',hu'⟩:=hs0.mem u hu
     have:=(hu'.lt g1 e).2
     omega
 ·refine⟨hgrow.os.trans hos,hgrow.tape.trans htp,hgrow.output.trans hou,?_,fun k hk'=>?_⟩
  ·have:=hgrow.size;simp[World.setCell];omega
  ·refine same k (by omega) (fun e=>?_) (fun e=>?_)
   ·have:=(hsv.lt k e).1;omega
   ·have:=(hthr.lt bt rfl).1;omega
theorem zGR (B g bt n capT:Nat) (st:P.Stm) (sv:Value) (m:Nat) (xs:List Value) (w:World) (hg:w.cell? ⟨g,0,none⟩=some (.slice (some ⟨bt,0,none⟩) (n+1) capT))
  (hn:n<5) (hm:m<10000) (hc:w.cell? ⟨bt,n*3+2,none⟩=some sv) (hf:w.frozen? ⟨bt,n*3+2,none⟩=false)
  (hown:w.ownsRow B 97 11 sv m xs) (hne:some bt≠sv.ownBlock) (hneg:some g≠sv.ownBlock) (hB:B≤w.heap.size) (hglt:g<w.heap.size) (hblt:bt<w.heap.size) (Q:Ending→World→Prop)
  (hQ:∀ g1 cap1 w1,w1.ownsRow B 97 11 (.slice (some ⟨g1,0,none⟩) (m+1) cap1) (m+1) (xs++(zAd st).toList)→((w.alloc (.cells (zAd st) 97)).drew.alloc (.cells (zAd st) 97)).grownBy w1 sv.ownBlock→(sv.ownBlock=some g1∨g1=w.heap.size+2) →
   Q (.returned (.tuple #[])) (w1.setCell ⟨bt,n*3+2,none⟩ (.slice (some ⟨g1,0,none⟩) (m+1) cap1))) :
  Calls Tryz.prog 101 #[.pointer (some ⟨g,0,none⟩),.agg (zAd st)] w Q:=by
 obtain⟨i0,hi,hz0,hz1,hz2⟩:=info_parts Tryz.infoStm
 have hown2:((w.alloc (.cells (zAd st) 97)).drew.alloc (.cells (zAd st) 97)).ownsRow B 97 11 sv m xs:=((hown.alloc _).drew).alloc _
 have HO:=zAa hown2
 have hnews:∀ j u,(zAd st).toList[j]?=some u→((w.alloc (.cells (zAd st) 97)).drew.alloc (.cells (zAd st) 97)).cell? ((⟨w.heap.size+1,0,none⟩:Addr).add j)=some u:=World.news_of_block (t:=97) (fr:=(0,0)) (by have:=heap_alloc_new (w.alloc (.cells (zAd st) 97)).drew (.cells (zAd st) 97);simpa using this)
 have HN:=zAa hnews
 have eb:∀ k,k<w.heap.size→((w.alloc (.cells (zAd st) 97)).drew.alloc (.cells (zAd st) 97)).heap[k]?=w.heap[k]?:=fun k hk=>by
  rw[Below.heap_alloc _ _ _ (by simp;omega)]
  exact Below.heap_alloc _ _ _ hk
 have HC:Hid (((w.alloc (.cells (zAd st) 97)).drew.alloc (.cells (zAd st) 97)).cell? ⟨bt,n*3+2,none⟩=some sv):=(World.cell?_of_block (w:=w) (eb bt hblt)).trans hc
 have HF:Hid (((w.alloc (.cells (zAd st) 97)).drew.alloc (.cells (zAd st) 97)).frozen? ⟨bt,n*3+2,none⟩=false):=(World.frozen?_of_block (w:=w) (eb bt hblt)).trans hf
 have HG:Hid (((w.alloc (.cells (zAd st) 97)).drew.alloc (.cells (zAd st) 97)).cell? ⟨g,0,none⟩=some (.slice (some ⟨bt,0,none⟩) (n+1) capT)):=(World.cell?_of_block (w:=w) (eb g hglt)).trans hg
 have HQ:=zAa hQ
 clear hown2 hnews eb hQ hown
 have hin:((n:Int)<(n:Int)+1):=by omega
 have hn0:(0:Int)≤(n:Int):=by omega
 simp only[zAd]
 go_enter Tryz.func101,Tryz.ntmps101
 go_wp2_with fail
 go_region_law (refine step_append_lies _ rfl (.tmp 25) (.tmp 27) 91 rfl B 97 i0 (.agg (zAd P.Stm.zero)) 11 88 Tryz.underlying91 hi hz0 hz1 hz2 rfl (by decide) sv m xs (by simp[Act.eval]) (by exact HO.out) ⟨w.heap.size+1,0,none⟩ 1 1 (zAd st).toList (by simp[Act.eval]) rfl (by exact HN.out) (by simp[zAd,Value.oneCell']) (by decide) (by unfold maxLen;omega) (by omega) (by simp;omega) (w.heap.size+2) (by simp) ?_;intro g1 cap1 w1 hown1 hgrow hat hlt1;have c1:=(hgrow.cell_far ⟨bt,n*3+2,none⟩ (by simp;omega) hne).trans HC.out;have f1:=(hgrow.frozen_far ⟨bt,n*3+2,none⟩ (by simp;omega) hne).trans HF.out;have d1:=(hgrow.cell_far ⟨g,0,none⟩ (by simp;omega) hneg).trans HG.out)
 all_goals go_end0
 all_goals exact HQ.out _ _ _ hown1 hgrow hat
def Few (N:Nat) (r:P.Rd):Prop:=r.threads.length≤4∧∀ t∈r.threads,t.stmts.length≤N
theorem zEO (B g N:Nat) (r:P.Rd) (st:P.Stm) (w:World) (h:zCb w B g r) (hne:r.threads≠[]) (hF:Few N r) (hN:N<10000) (hB:B≤w.heap.size) :
  Calls Tryz.prog 101 #[.pointer (some ⟨g,0,none⟩),.agg (zAd st)] w fun e w'=>e=.returned (.tuple #[])∧zCb w' B g (P.put r st)∧Below B w w':=by
 obtain⟨tv,ov,vs,h⟩:=h
 obtain⟨ts,t,hr⟩:=zDW r.threads hne
 have hl:=h.stmts.length
 have hvne:vs≠[]:=by intro e;subst e;rw[hr] at hl;simp at hl
 obtain⟨vs0,sv,rfl⟩:=zDW vs hvne
 have hlen:r.threads.length=ts.length+1:=by rw[hr];simp
 have hthr:=h.threads
 rw[hlen] at hthr
 obtain⟨bt,capT,rfl,_,hbtlt⟩:=hthr.form (by omega)
 have hst:=h.stmts
 rw[hr,zBD] at hst
 obtain⟨hs0,hsv,hpw⟩:=hst
 have hlv:vs0.length=ts.length:=hs0.length
 have hc:w.cell? ⟨bt,ts.length*3+2,none⟩=some sv:=by
  rw[hthr.cellAt _ (by omega),hr,zBu _ _ _ _ hlv,List.getElem?_append_right (by rw[zBj _ _ hlv];omega),zBj _ _ hlv,show ts.length*3+2-ts.length*3=2 by omega]
  rfl
 have hg0:w.cell? ⟨g,0,none⟩=some (.slice (some ⟨bt,0,none⟩) (ts.length+1) capT):=by
  simp[World.cell?,h.cells]
 have hm:t.stmts.length≤N:=hF.2 t (by rw[hr];simp)
 obtain⟨cur,hcur⟩:=zBh hthr (k:=bt) rfl
 refine zGR B g bt ts.length capT st sv t.stmts.length (zBa t.stmts) w hg0 (by have:=hF.1;omega) (by omega) hc (hthr.frozenAt _) hsv (Ne.symm (zBl hsv hcur (by decide))) (Ne.symm (zBl hsv h.cells (by decide))) hB h.lt hbtlt _ ?_
 intro g1 cap1 w1 hown1 hgrow hat
 refine⟨rfl,zHz (W0:=(w.alloc (.cells (zAd st) 97)).drew.alloc (.cells (zAd st) 97)) hr rfl rfl h (fun k hk=>?_) (by simp;omega) rfl rfl rfl hB hown1 hgrow (by rcases hat with ha | ha;exact .inl ha;right;simp;omega)⟩
 rw[Below.heap_alloc _ _ _ (by simp;omega)]
 exact Below.heap_alloc _ _ _ hk
theorem RdIn.setG {w:World} {B g:Nat} {r:P.Rd} {tv ov:Value} {vs:List Value} (r':P.Rd) (ov':Value) (h:RdIn w B g r tv ov vs) (i:Nat) (u:Value) (ht:r'.threads=r.threads)
  (ho:w.ownsRow B 3 1 ov' r'.opn.length (r'.opn.map (Value.int .i64)))
  (he:(#[tv,.int .i64 r.most,.int .i64 r.count,.int .i64 r.ifs,ov]:Array Value).setIfInBounds i u=#[tv,.int .i64 r'.most,.int .i64 r'.count,.int .i64 r'.ifs,ov']) :
  RdIn (w.setCell ⟨g,i,none⟩ u) B g r' tv ov' vs:=by
 have keep:∀ k,(∃ (c:Array Value) (e:TypeId),w.heap[k]?=some (Obj.cells c e (0,0))∧e≠83)→(w.setCell ⟨g,i,none⟩ u).heap[k]?=w.heap[k]?:=fun k ⟨c,e,hc,hne⟩ =>
  Below.heap_setCell _ _ _ _ (fun ek=>by simp at ek;subst ek;rw[h.cells] at hc;simp at hc;exact hne hc.2.symm)
 refine⟨by rw[zAf h.cells,he],?_,?_,?_⟩
 ·rw[ht]
  exact zAc h.threads (fun k hk=>by obtain⟨c,hc⟩:=zBh h.threads hk;exact keep k ⟨c,_,hc,by decide⟩)
 ·exact zAc ho (fun k hk=>by obtain⟨c,hc⟩:=zBh ho hk;exact keep k ⟨c,_,hc,by decide⟩)
 ·rw[ht]
  exact h.stmts.keep (fun v hv k hk=>by
   obtain⟨n,xs,hv'⟩:=h.stmts.mem v hv
   obtain⟨c,hc⟩:=zBh hv' hk;exact keep k ⟨c,_,hc,by decide⟩)
theorem RdIn.facts {w:World} {B g:Nat} {r:P.Rd} {tv ov:Value} {vs:List Value} (h:RdIn w B g r tv ov vs):g<w.heap.size∧(∀ i,w.frozen? ⟨g,i,none⟩=false)∧w.cell? ⟨g,0,none⟩=some tv∧w.cell? ⟨g,1,none⟩=some (.int .i64 r.most) ∧
  w.cell? ⟨g,2,none⟩=some (.int .i64 r.count)∧w.cell? ⟨g,3,none⟩=some (.int .i64 r.ifs)∧w.cell? ⟨g,4,none⟩=some ov:=by
 refine⟨h.lt,fun i=>?_,?_,?_,?_,?_,?_⟩<;>simp[World.cell?,World.frozen?,h.cells]
theorem zHA {w:World} {B:Nat} {e:TypeId} {k n cap:Nat} {xs:List Value} {x:Value} (h:w.ownsRow B e 1 (.slice (some ⟨k,0,none⟩) (n+1) cap) (n+1) (xs++[x])):w.ownsRow B e 1 (.slice (some ⟨k,0,none⟩) n cap) n xs:=by
 have hl:=h.1
 rcases h.2 with ⟨h',_⟩ | ⟨g',cap',cur,h',hb,hg,hnc,hcm,hcs,htake⟩
 ·simp at h'
 ·simp only[Value.slice.injEq,Option.some.injEq,Addr.mk.injEq,and_true,true_and] at h'
  obtain⟨rfl,rfl⟩:=h'
  refine⟨by simp at hl;omega,.inr ⟨k,cap,cur,rfl,hb,hg,by omega,hcm,hcs,?_⟩⟩
  have hx:xs.length=n:=by simp at hl;omega
  have e:cur.toList.take n=(cur.toList.take ((n+1)*1)).take n:=by rw[List.take_take];congr 1;omega
  rw[Nat.mul_one,e,htake,← hx]
  simp
end Go.Proofs.YtkmebkbpfmoeaaaGreat
namespace Go.Proofs.YtkmebkbpfmoeaaaGreat
open Go Go.RowKit
structure BelowX (B g:Nat) (w w':World):Prop where
 os:w'.os=w.os
 tape:w'.tape=w.tape
 output:w'.output=w.output
 size:w.heap.size≤w'.heap.size
 block:∀ k,k<B→k≠g→w'.heap[k]?=w.heap[k]?
theorem BelowX.refl (B g:Nat) (w:World):BelowX B g w w:=⟨rfl,rfl,rfl,Nat.le_refl _,fun _ _ _=>rfl⟩
theorem BelowX.of {B g:Nat} {w w':World} (h:Below B w w'):BelowX B g w w':=⟨h.os,h.tape,h.output,h.size,fun k hk _=>h.block k hk⟩
theorem BelowX.trans {B g:Nat} {a b c:World} (h:BelowX B g a b) (k:BelowX B g b c):BelowX B g a c :=
 ⟨k.os.trans h.os,k.tape.trans h.tape,k.output.trans h.output,Nat.le_trans h.size k.size,fun i hi hg=>(k.block i hi hg).trans (h.block i hi hg)⟩
theorem BelowX.drew {B g:Nat} {a w:World} (h:BelowX B g a w):BelowX B g a w.drew:=⟨h.os,h.tape,h.output,h.size,h.block⟩
theorem BelowX.alloc {B g:Nat} {a w:World} (h:BelowX B g a w) (hB:B≤w.heap.size) (o:Obj):BelowX B g a (w.alloc o) :=
 h.trans (BelowX.of ((Below.refl _ _).alloc hB _))
theorem BelowX.setCell {B g:Nat} {a w:World} (h:BelowX B g a w) {i:Nat} (u:Value):BelowX B g a (w.setCell ⟨g,i,none⟩ u) :=
 h.trans ⟨rfl,rfl,rfl,by simp[World.setCell],fun k _ hg=>Below.heap_setCell _ _ _ _ hg⟩
theorem BelowX.grown {B g:Nat} {a w w':World} {row:Option Nat} (h:BelowX B g a w) (hg:w.grownBy w' row) (hB:B≤w.heap.size) (hr:∀ k,row=some k→B≤k):BelowX B g a w' :=
 h.trans (BelowX.of ((Below.refl _ _).grown hg hB hr))
theorem BelowX.below {B B' g:Nat} {w w':World} (h:BelowX B g w w') (h1:B'≤B) (h2:B'≤g):Below B' w w':=⟨h.os,h.tape,h.output,h.size,fun k hk=>h.block k (by omega) (by omega)⟩
end Go.Proofs.YtkmebkbpfmoeaaaGreat
namespace Go.Proofs.YtkmebkbpfmoeaaaGreat
open Go Go.RowKit
set_option maxRecDepth 100000
theorem zGS (B g N:Nat) (r:P.Rd) (st:P.Stm) (w:World) (h:zCb w B g r) (hne:r.threads≠[]) (hF:Few N r) (hN:N<10000) (hB:B≤w.heap.size) (ho:r.opn.length<10) :
  Calls Tryz.prog 99 #[.pointer (some ⟨g,0,none⟩),.agg (zAd st)] w fun e w'=>e=.returned (.bool (P.ends r st).2)∧zCb w' B g (P.ends r st).1∧BelowX B g w w':=by
 have hA:=h
 obtain⟨tv,ov,vs,h⟩:=h
 by_cases he:r.opn=[]
 ·have hov:ov=.slice none 0 0∨∃ k c,ov=.slice (some ⟨k,0,none⟩) 0 c:=by
   have:=h.opn
   rw[he] at this
   rcases this.2 with ⟨e,_⟩ | ⟨k,c,cur,e,_⟩
   ·exact .inl e
   ·exact .inr ⟨k,c,e⟩
  obtain⟨glt,gfr,g0,g1,g2,g3,g4⟩:=h.facts
  have HE:Hid (P.ends r st=(r,false)):=by unfold Hid;simp[P.ends,he]
  have hA':zCb (w.alloc (.cells (zAd st) 97)) B g r:=hA.below ((Below.refl _ _).alloc (Nat.le_refl _) _)
  clear hA h
  rcases hov with rfl | ⟨k,c,rfl⟩
  all_goals
   go_enter Tryz.func99,Tryz.ntmps99
   go_wp2
   go_ret
   rw[zAC HE]
   exact⟨rfl,hA',(BelowX.refl _ _ _).alloc hB _⟩
 ·obtain⟨os,o,hos⟩:=zDW r.opn he
  have hown:=h.opn
  rw[hos] at hown
  simp only[List.length_append,List.length_cons,List.length_nil,Nat.zero_add,List.map_append,List.map_cons,List.map_nil] at hown
  obtain⟨k,cap,rfl,hBk,hklt⟩:=hown.form (by omega)
  have hc:w.cell? ⟨k,os.length,none⟩=some (.int .i64 o):=by
   rw[hown.cellAt _ (by omega),List.getElem?_append_right (by simp)];simp
  obtain⟨glt,gfr,g0,g1,g2,g3,g4⟩:=h.facts
  have hol:os.length<10:=by rw[hos] at ho;simp at ho;omega
  have HE:Hid (P.ends r st=(P.put { r with opn:=os } { st with label:=o },true)):=by unfold Hid;simp[P.ends,hos]
  have HR:Hid (zCb ((w.setCell ⟨g,4,none⟩ (.slice (some ⟨k,0,none⟩) os.length cap)).alloc (.cells (zAd { st with label:=o }) 97)) B g { r with opn:=os }):=by
   have k2:=h.opn
   rw[hos] at k2
   simp only[List.length_append,List.length_cons,List.length_nil,Nat.zero_add,List.map_append,List.map_cons,List.map_nil] at k2
   have k3:=h.setG { r with opn:=os } (.slice (some ⟨k,0,none⟩) os.length cap) 4 (.slice (some ⟨k,0,none⟩) os.length cap) rfl (zHA k2) rfl
   exact⟨tv,_,vs,k3.keep (fun j hj=>Below.heap_alloc _ _ _ hj)⟩
  have hB1:Hid (BelowX B g w ((w.setCell ⟨g,4,none⟩ (.slice (some ⟨k,0,none⟩) os.length cap)).alloc (.cells (zAd { st with label:=o }) 97))) :=
   ((BelowX.refl _ _ _).setCell _).alloc (by simp;omega) _
  have hoc:os.length+1≤cap:=by
   rcases hown.2 with ⟨h',_⟩ | ⟨g',cap',cur,h',hb,hg,hnc,hcm,hcs,htake⟩
   ·simp at h'
   ·simp only[Value.slice.injEq] at h';omega
  clear hA h hown hos he ho
  simp only[zAd]
  go_enter Tryz.func99,Tryz.ntmps99
  go_wp2_with (first
   | (go_at_call 101;refine (zEO B g N { r with opn:=os } { st with label:=o } _ (by exact HR.out) hne hF hN (by simp;omega)).mono ?_;rintro e w1 ⟨rfl,hr1,hb1⟩))
  go_ret
  rw[zAC HE]
  exact⟨rfl,hr1,hB1.out.trans (BelowX.of hb1)⟩
theorem Tryz.infoInt:(Tryz.prog.info? 3).map (fun i=>(i.zero,i.size,i.bytes))=some (some (.int .i64 0),1,8):=by kernel_rfl
theorem zHB {w W0 w1:World} {B g g1 cap1:Nat} {r:P.Rd} {tv ov:Value} {vs:List Value} {x:Int}
  (h:RdIn w B g r tv ov vs) (hk:∀ k,k<w.heap.size→W0.heap[k]?=w.heap[k]?) (hsz:w.heap.size≤W0.heap.size)
  (hown:w1.ownsRow B 3 1 (.slice (some ⟨g1,0,none⟩) (r.opn.length+1) cap1) (r.opn.length+1) (r.opn.map (Value.int .i64)++[.int .i64 x])) (hgrow:W0.grownBy w1 ov.ownBlock) :
  RdIn (w1.setCell ⟨g,4,none⟩ (.slice (some ⟨g1,0,none⟩) (r.opn.length+1) cap1)) B g { r with opn:=r.opn++[x] } tv (.slice (some ⟨g1,0,none⟩) (r.opn.length+1) cap1) vs∧(∀ k,k<W0.heap.size→ov.ownBlock≠some k→k≠g→(w1.setCell ⟨g,4,none⟩ (.slice (some ⟨g1,0,none⟩) (r.opn.length+1) cap1)).heap[k]?=W0.heap[k]?):=by
 have same:∀ k,k<w.heap.size→ov.ownBlock≠some k→w1.heap[k]?=w.heap[k]?:=fun k h1 h2=>by
  rw[hgrow.block k (by omega) (Ne.symm h2),hk k h1]
 have nt:∀ k,(∃ (c:Array Value) (e:TypeId),w.heap[k]?=some (Obj.cells c e (0,0))∧e≠3)→ov.ownBlock≠some k:=fun k ⟨c,e,hc,hne⟩=>zBl h.opn hc (Ne.symm hne)
 have keep:∀ k,k<w.heap.size→(∃ (c:Array Value) (e:TypeId),w.heap[k]?=some (Obj.cells c e (0,0))∧e≠3)→w1.heap[k]?=w.heap[k]?:=fun k h1 h2=>same k h1 (nt k h2)
 have h1:RdIn w1 B g { r with opn:=r.opn++[x] } tv (.slice (some ⟨g1,0,none⟩) (r.opn.length+1) cap1) vs→True:=fun _=>trivial
 have hg1:w1.heap[g]?=w.heap[g]?:=keep g h.lt ⟨_,_,h.cells,by decide⟩
 refine⟨⟨?_,?_,?_,?_⟩,fun k h1 h2 h3=>?_⟩
 ·have:=h.cells
  rw[← hg1] at this
  rw[zAf this];rfl
 ·refine zAc h.threads (fun k hk'=>?_)
  obtain⟨c,hc⟩:=zBh h.threads hk'
  rw[Below.heap_setCell _ _ _ _ (fun e=>by simp at e;subst e;rw[h.cells] at hc;simp at hc)]
  exact keep k (h.threads.lt k hk').2 ⟨c,_,hc,by decide⟩
 ·have hh:=hown
  refine zAc (by simpa using hh) (fun k hk'=>Below.heap_setCell _ _ _ _ (fun e=>?_))
  simp at e;subst e
  obtain⟨c,hc⟩:=zBh hown hk'
  rw[hg1,h.cells] at hc;simp at hc
 ·refine h.stmts.keep (fun v hv k hk'=>?_)
  obtain⟨n,xs,hv'⟩:=h.stmts.mem v hv
  obtain⟨c,hc⟩:=zBh hv' hk'
  rw[Below.heap_setCell _ _ _ _ (fun e=>by simp at e;subst e;rw[h.cells] at hc;simp at hc)]
  exact keep k (hv'.lt k hk').2 ⟨c,_,hc,by decide⟩
 ·rw[Below.heap_setCell _ _ _ _ h3,hgrow.block k h1 (Ne.symm h2)]
theorem zFN (B g N:Nat) (r:P.Rd) (st:P.Stm) (w:World) (h:zCb w B g r) (hne:r.threads≠[]) (hF:Few N r) (hN:N<10000) (hB:B≤w.heap.size) (ho:r.opn.length<2) (hi0:0≤r.ifs) (hi1:r.ifs<10000) :
  Calls Tryz.prog 100 #[.pointer (some ⟨g,0,none⟩),.agg (zAd st)] w fun e w'=>e=.returned (.bool (P.branch r st).2)∧zCb w' B g (P.branch r st).1∧BelowX B g w w':=by
 obtain⟨tv,ov,vs,h⟩:=h
 obtain⟨i0,hi,hz0,hz1,hz2⟩:=info_parts Tryz.infoInt
 have hov:∃ a c,ov=.slice a r.opn.length c:=by
  rcases h.opn.2 with ⟨e,h0⟩ | ⟨k,c,cur,e,_⟩
  ·exact⟨none,0,by rw[e,h0]⟩
  ·exact⟨_,c,e⟩
 obtain⟨oa,oc,rfl⟩:=hov
 obtain⟨glt,gfr,g0,g1,g2,g3,g4⟩:=h.facts
 have HE:Hid (P.branch r st=(P.put { r with ifs:=r.ifs+1,opn:=r.opn++[r.ifs+1] } { st with label:=r.ifs+1 },true)):=by
  unfold Hid;rw[P.branch,if_neg (by omega)]
 have k1:RdIn (((w.setCell ⟨g,3,none⟩ (.int .i64 (r.ifs+1))).alloc (.cells (zAd { st with label:=r.ifs+1 }) 97))) B g { r with ifs:=r.ifs+1 } tv (.slice oa r.opn.length oc) vs :=
  (h.setG { r with ifs:=r.ifs+1 } (.slice oa r.opn.length oc) 3 (.int .i64 (r.ifs+1)) rfl h.opn rfl).keep (fun j hj=>Below.heap_alloc _ _ _ hj)
 have K1:=zAa k1
 have HO:Hid ((((w.setCell ⟨g,3,none⟩ (.int .i64 (r.ifs+1))).alloc (.cells (zAd { st with label:=r.ifs+1 }) 97)).drew.alloc (.cells #[.int .i64 (r.ifs+1)] 3)).ownsRow B 3 1 (.slice oa r.opn.length oc) r.opn.length (r.opn.map (Value.int .i64))):=(k1.opn.drew).alloc _
 have HN:Hid (∀ j u,[Value.int .i64 (r.ifs+1)][j]?=some u→(((w.setCell ⟨g,3,none⟩ (.int .i64 (r.ifs+1))).alloc (.cells (zAd { st with label:=r.ifs+1 }) 97)).drew.alloc (.cells #[.int .i64 (r.ifs+1)] 3)).cell? ((⟨w.heap.size+1,0,none⟩:Addr).add j)=some u) :=
  World.news_of_block (cs:=#[.int .i64 (r.ifs+1)]) (t:=3) (fr:=(0,0)) (by have:=heap_alloc_new ((w.setCell ⟨g,3,none⟩ (.int .i64 (r.ifs+1))).alloc (.cells (zAd { st with label:=r.ifs+1 }) 97)).drew (.cells #[.int .i64 (r.ifs+1)] 3);simpa using this)
 have hgne:some g≠(Value.slice oa r.opn.length oc).ownBlock:=Ne.symm (zBl k1.opn k1.cells (by decide))
 have eb:(((w.setCell ⟨g,3,none⟩ (.int .i64 (r.ifs+1))).alloc (.cells (zAd { st with label:=r.ifs+1 }) 97)).drew.alloc (.cells #[.int .i64 (r.ifs+1)] 3)).heap[g]?=((w.setCell ⟨g,3,none⟩ (.int .i64 (r.ifs+1))).alloc (.cells (zAd { st with label:=r.ifs+1 }) 97)).heap[g]?:=Below.heap_alloc _ _ _ k1.lt
 have HC:Hid ((((w.setCell ⟨g,3,none⟩ (.int .i64 (r.ifs+1))).alloc (.cells (zAd { st with label:=r.ifs+1 }) 97)).drew.alloc (.cells #[.int .i64 (r.ifs+1)] 3)).cell? ⟨g,4,none⟩=some (.slice oa r.opn.length oc)):=by
  unfold Hid;rw[World.cell?_of_block (w:=((w.setCell ⟨g,3,none⟩ (.int .i64 (r.ifs+1))).alloc (.cells (zAd { st with label:=r.ifs+1 }) 97))) eb];simp[World.cell?,k1.cells]
 have HF:Hid ((((w.setCell ⟨g,3,none⟩ (.int .i64 (r.ifs+1))).alloc (.cells (zAd { st with label:=r.ifs+1 }) 97)).drew.alloc (.cells #[.int .i64 (r.ifs+1)] 3)).frozen? ⟨g,4,none⟩=false):=by
  unfold Hid;rw[World.frozen?_of_block (w:=((w.setCell ⟨g,3,none⟩ (.int .i64 (r.ifs+1))).alloc (.cells (zAd { st with label:=r.ifs+1 }) 97))) eb];simp[World.frozen?,k1.cells]
 have fin:∀ gn cn w1,World.ownsRow w1 B 3 1 (.slice (some ⟨gn,0,none⟩) (r.opn.length+1) cn) (r.opn.length+1) (r.opn.map (Value.int .i64)++[.int .i64 (r.ifs+1)])→(((w.setCell ⟨g,3,none⟩ (.int .i64 (r.ifs+1))).alloc (.cells (zAd { st with label:=r.ifs+1 }) 97)).drew.alloc (.cells #[.int .i64 (r.ifs+1)] 3)).grownBy w1 (Value.slice oa r.opn.length oc).ownBlock →
   zCb (w1.setCell ⟨g,4,none⟩ (.slice (some ⟨gn,0,none⟩) (r.opn.length+1) cn)) B g { r with ifs:=r.ifs+1,opn:=r.opn++[r.ifs+1] }∧zAu (w1.setCell ⟨g,4,none⟩ (.slice (some ⟨gn,0,none⟩) (r.opn.length+1) cn)) w.heap.size { st with label:=r.ifs+1 }∧BelowX B g w (w1.setCell ⟨g,4,none⟩ (.slice (some ⟨gn,0,none⟩) (r.opn.length+1) cn)):=fun gn cn w1 hown hgrow=>by
  obtain⟨m1,m2⟩:=zHB (W0:=(((w.setCell ⟨g,3,none⟩ (.int .i64 (r.ifs+1))).alloc (.cells (zAd { st with label:=r.ifs+1 }) 97)).drew.alloc (.cells #[.int .i64 (r.ifs+1)] 3))) k1 (fun k hk=>Below.heap_alloc _ _ _ hk) (by simp) hown hgrow
  have hs:zAu ((w.setCell ⟨g,3,none⟩ (.int .i64 (r.ifs+1))).alloc (.cells (zAd { st with label:=r.ifs+1 }) 97)) w.heap.size { st with label:=r.ifs+1 }:=by
   have:=zAu.new (w.setCell ⟨g,3,none⟩ (.int .i64 (r.ifs+1))) { st with label:=r.ifs+1 }
   simpa using this
  refine⟨⟨_,_,_,m1⟩,(zAu.alloc (w:=((w.setCell ⟨g,3,none⟩ (.int .i64 (r.ifs+1))).alloc (.cells (zAd { st with label:=r.ifs+1 }) 97)).drew) hs _).of_block (m2 w.heap.size (by simp;omega) (zBl k1.opn hs (by decide)) (by omega)),?_⟩
  refine BelowX.setCell (BelowX.grown ((((((BelowX.refl B g w).setCell _).alloc (by simp;omega) _).drew).alloc (by simp;omega) _)) hgrow (by simp;omega) (fun k hk=>(k1.opn.lt k hk).1)) _
 have FIN:=zAa fin
 clear k1 h eb fin
 simp only[zAd]
 go_enter Tryz.func100,Tryz.ntmps100
 go_wp2_with fail
 go_region_law (refine step_append_lies _ rfl (.tmp 27) (.tmp 32) 31 rfl B 3 i0 (.int .i64 0) 1 8 Tryz.underlying31 hi hz0 hz1 hz2 rfl (by decide) (.slice oa r.opn.length oc) r.opn.length (r.opn.map (Value.int .i64)) (by simp[Act.eval]) (by exact HO.out) ⟨w.heap.size+1,0,none⟩ 1 1 [.int .i64 (r.ifs+1)] (by simp[Act.eval]) rfl (by exact HN.out) (by simp[Value.oneCell']) (by decide) (by unfold maxLen;omega) (by omega) (by simp;omega) (w.heap.size+2) (by simp) ?_;intro gn cn w1 hown1 hgrow hat hlt1;have c1:=(hgrow.cell_far ⟨g,4,none⟩ (by simp;omega) hgne).trans HC.out;have f1:=(hgrow.frozen_far ⟨g,4,none⟩ (by simp;omega) hgne).trans HF.out;have hwl:w.heap.size+2≤w1.heap.size:=by have:=hgrow.size;simp at this;omega)
 all_goals
  obtain⟨q1,q2,q3⟩:=FIN.out _ _ _ hown1 hgrow
  have Q1:=zAa q1
  have Q2:=zAa q2
  clear q1 q2 hown1 hgrow
  go_wp2_with (first
   | (refine zAy (.tmp 3) rfl rfl w.heap.size { st with label:=r.ifs+1 } rfl (by exact Q2.out) ?_)
   | (go_at_call 101;refine (zEO B g N { r with ifs:=r.ifs+1,opn:=r.opn++[r.ifs+1] } { st with label:=r.ifs+1 } _ (by exact Q1.out) hne hF hN (by simp;omega)).mono ?_;rintro e w2 ⟨rfl,hr1,hb1⟩))
  go_ret
  rw[zAC HE]
  exact⟨rfl,hr1,q3.trans (BelowX.of hb1)⟩
end Go.Proofs.YtkmebkbpfmoeaaaGreat
