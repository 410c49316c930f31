import Derived.Test.YtgceflcbckjjiaaGreatDoorD03
set_option linter.unusedVariables false
set_option linter.unusedSimpArgs false
set_option maxHeartbeats 12800000
namespace Go.Proofs.YtgceflcbckjjiaaGreatDoor
namespace P
def isAcc (k:Int):Bool:=k==0||k==1||k==2||k==3
def isReg (k:Int):Bool:=k==6||k==7||k==8||k==9
end P
end Go.Proofs.YtgceflcbckjjiaaGreatDoor
namespace Go.Proofs.YtgceflcbckjjiaaGreatDoor
open Go Go.RowKit
set_option maxRecDepth 100000
namespace Q
structure Ev where
 kind:Int
 thread:Int
 block:Int
 var:Int
 value:Int
 order:Int
 scope:Int
 bars:Int
 step:Bool
 hangs:Nat
def Ev.zero:Ev:=⟨0,0,0,0,0,0,0,0,false,0⟩
def zKY (e:Ev):Bool:=e.kind==0||e.kind==1
def isSC (e:Ev):Bool:=e.kind==2&&e.order==5
def zKd (i:Int) (a:Ev) (k:Int) (b:Ev):Bool:=if a.thread == -1 then b.thread != -1 else a.thread==b.thread&&decide (i<k)
def isOrdE (e:Ev):Bool:=e.order != 0&&e.kind != 3&&e.kind != 4
def strong (a b:Ev):Bool :=
 if a.thread == -1||b.thread == -1 then false else if a.thread==b.thread then true else if !isOrdE a||!isOrdE b then false else a.block==b.block||(a.scope==1&&b.scope==1)
def zKx (a b:Ev):Bool:=a.kind==3&&b.kind==4&&a.block==b.block&&a.bars==b.bars
end Q
def zAe (e:Q.Ev):Array Value:=#[.int .i64 e.kind,.int .i64 e.thread,.int .i64 e.block,.int .i64 e.var,.int .i64 e.value,.int .i64 e.order,.int .i64 e.scope,.int .i64 e.bars,.bool e.step,.int .u64 (e.hangs:Nat)]
theorem zDc (e:Q.Ev) (w:World) :
  Calls Tryz.prog 162 #[.agg (zAe e)] w fun x w'=>x=.returned (.bool (Q.zKY e))∧Below w.heap.size w w':=by
 cases h0:(e.kind==0)
 ·cases h1:(e.kind==1)
  all_goals
   have HE:Hid (Q.zKY e=(e.kind==1)):=by unfold Hid Q.zKY;rw[h0];rfl
   simp only[zAe]
   go_enter Tryz.func162,Tryz.ntmps162
   go_wp2
   go_ret
   rw[HE.out,h1];exact⟨rfl,(Below.refl _ _).alloc (Nat.le_refl _) _⟩
 ·have HE:Hid (Q.zKY e=true):=by unfold Hid Q.zKY;rw[h0];rfl
  simp only[zAe]
  go_enter Tryz.func162,Tryz.ntmps162
  go_wp2
  go_ret
  rw[HE.out];exact⟨rfl,(Below.refl _ _).alloc (Nat.le_refl _) _⟩
theorem zGa (e:Q.Ev) (w:World) :
  Calls Tryz.prog 142 #[.agg (zAe e)] w fun x w'=>x=.returned (.bool (Q.isSC e))∧Below w.heap.size w w':=by
 cases h0:(e.kind==2)
 ·have HE:Hid (Q.isSC e=false):=by unfold Hid Q.isSC;rw[h0];rfl
  simp only[zAe]
  go_enter Tryz.func142,Tryz.ntmps142
  go_wp2
  go_ret
  rw[HE.out];exact⟨rfl,(Below.refl _ _).alloc (Nat.le_refl _) _⟩
 ·cases h1:(e.order==5)
  all_goals
   have HE:Hid (Q.isSC e=(e.order==5)):=by unfold Hid Q.isSC;rw[h0];rfl
   simp only[zAe]
   go_enter Tryz.func142,Tryz.ntmps142
   go_wp2
   go_ret
   rw[HE.out,h1];exact⟨rfl,(Below.refl _ _).alloc (Nat.le_refl _) _⟩
theorem zFs (i k:Int) (a b:Q.Ev) (w:World) :
  Calls Tryz.prog 179 #[.int .i64 i,.agg (zAe a),.int .i64 k,.agg (zAe b)] w fun x w'=>x=.returned (.bool (Q.zKd i a k b))∧Below w.heap.size w w':=by
 have HB:Hid (∀ o p,Below w.heap.size w ((w.alloc o).alloc p)):=fun o p=>((Below.refl _ _).alloc (Nat.le_refl _) _).alloc (by simp) _
 cases h0:(a.thread == -1)
 ·cases h1:(a.thread==b.thread)
  ·have HE:Hid (Q.zKd i a k b=false):=by unfold Hid Q.zKd;rw[h0,h1];rfl
   simp only[zAe]
   go_enter Tryz.func179,Tryz.ntmps179
   go_wp2
   go_ret
   rw[HE.out];exact⟨rfl,HB.out _ _⟩
  ·by_cases h2:i<k
   ·have HE:Hid (Q.zKd i a k b=true):=by unfold Hid Q.zKd;rw[h0,h1,decide_eq_true h2];rfl
    simp only[zAe]
    go_enter Tryz.func179,Tryz.ntmps179
    go_wp2
    go_ret
    rw[HE.out];exact⟨rfl,HB.out _ _⟩
   ·have HE:Hid (Q.zKd i a k b=false):=by unfold Hid Q.zKd;rw[h0,h1,decide_eq_false h2];rfl
    have hd:decide (i<k)=false:=decide_eq_false h2
    simp only[zAe]
    go_enter Tryz.func179,Tryz.ntmps179
    go_wp2
    go_ret
    rw[HE.out];exact⟨rfl,HB.out _ _⟩
 ·cases h1:(b.thread != -1)
  all_goals
   have HE:Hid (Q.zKd i a k b=(b.thread != -1)):=by unfold Hid Q.zKd;rw[h0];rfl
   simp only[zAe]
   go_enter Tryz.func179,Tryz.ntmps179
   go_wp2
   go_ret
   rw[HE.out,h1];exact⟨rfl,HB.out _ _⟩
theorem zCm (e:Q.Ev) (w:World) :
  Calls Tryz.prog 203 #[.agg (zAe e)] w fun x w'=>x=.returned (.bool (Q.isOrdE e))∧Below w.heap.size w w':=by
 have HB:Hid (∀ o,Below w.heap.size w (w.alloc o)):=fun o=>(Below.refl _ _).alloc (Nat.le_refl _) _
 cases h0:(e.order != 0)<;>cases h1:(e.kind != 3)<;>cases h2:(e.kind != 4)
 all_goals
  have HE:Hid (Q.isOrdE e=((e.order != 0)&&(e.kind != 3)&&(e.kind != 4))):=rfl
  simp only[zAe]
  go_enter Tryz.func203,Tryz.ntmps203
  go_wp2
  go_ret
  rw[HE.out,h0,h1,h2];exact⟨rfl,HB.out _⟩
theorem zGZ {a b:Q.Ev} (h:(a.thread == -1||b.thread == -1)=true):Q.strong a b=false:=by unfold Q.strong;rw[h];rfl
theorem zFt {a b:Q.Ev} (h:(a.thread == -1||b.thread == -1)=false) (h1:(a.thread==b.thread)=true):Q.strong a b=true:=by unfold Q.strong;rw[h,h1];rfl
theorem zDH {a b:Q.Ev} (h:(a.thread == -1||b.thread == -1)=false) (h1:(a.thread==b.thread)=false) (h2:(!Q.isOrdE a||!Q.isOrdE b)=true):Q.strong a b=false:=by unfold Q.strong;rw[h,h1,h2];rfl
theorem zFu {a b:Q.Ev} (h:(a.thread == -1||b.thread == -1)=false) (h1:(a.thread==b.thread)=false) (h2:(!Q.isOrdE a||!Q.isOrdE b)=false):Q.strong a b=(a.block==b.block||(a.scope==1&&b.scope==1)):=by unfold Q.strong;rw[h,h1,h2];rfl
theorem zGw (a b:Q.Ev) (w:World) :
  Calls Tryz.prog 181 #[.agg (zAe a),.agg (zAe b)] w fun x w'=>x=.returned (.bool (Q.zKx a b))∧Below w.heap.size w w':=by
 have HB:Hid (∀ o p,Below w.heap.size w ((w.alloc o).alloc p)):=fun o p=>((Below.refl _ _).alloc (Nat.le_refl _) _).alloc (by simp) _
 cases h0:(a.kind==3)<;>cases h1:(b.kind==4)<;>cases h2:(a.block==b.block)<;>cases h3:(a.bars==b.bars)
 all_goals
  have HE:Hid (Q.zKx a b=((a.kind==3)&&(b.kind==4)&&(a.block==b.block)&&(a.bars==b.bars))):=rfl
  simp only[zAe]
  go_enter Tryz.func181,Tryz.ntmps181
  go_wp2
  go_ret
  rw[HE.out,h0,h1,h2,h3];exact⟨rfl,HB.out _ _⟩
def zAH:List P.Thr→List Value→List Value
 | t::ts,v::vs=>.int .i64 t.block::.int .i64 t.line::v::zAH ts vs
 | _,_=>[]
def zAA (l:List P.Stm):List Value:=l.flatMap (fun s=>(zAb s).toList)
theorem zAY (l:List P.Stm) (s:P.Stm):zAA (l++[s])=zAA l++(zAb s).toList:=by simp[zAA]
def zAL (w:World) (B:Nat):List P.Thr→List Value→Prop
 | [],[]=>True
 | t::ts,v::vs=>w.ownsRow B 96 11 v t.stmts.length (zAA t.stmts)∧(∀ u∈vs,v.ownBlock=none∨v.ownBlock≠u.ownBlock)∧zAL w B ts vs
 | _,_=>False
structure RdIn (w:World) (B g:Nat) (r:P.Rd) (tv ov:Value) (vs:List Value):Prop where
 cells:w.heap[g]?=some (.cells #[tv,.int .i64 r.most,.int .i64 r.count,.int .i64 r.ifs,ov] 106 (0,0))
 threads:w.ownsRow B 88 3 tv r.threads.length (zAH r.threads vs)
 opn:w.ownsRow B 3 1 ov r.opn.length (r.opn.map (Value.int .i64))
 stmts:zAL w B r.threads vs
def zCv (w:World) (B g:Nat) (r:P.Rd):Prop:=∃ tv ov vs,RdIn w B g r tv ov vs
theorem zAd {w w':World} {B:Nat} {e:TypeId} {sz:Nat} {v:Value} {n:Nat} {xs:List Value} (h:w.ownsRow B e sz v n xs) (hk:∀ k,v.ownBlock=some k→w'.heap[k]?=w.heap[k]?):w'.ownsRow B e sz v n xs:=by
 refine⟨h.1,?_⟩
 rcases h.2 with hn | ⟨g,cap,cur,rfl,hb,hgg,rest⟩
 ·exact .inl hn
 ·exact .inr ⟨g,cap,cur,rfl,hb,by rw[hk g rfl];exact hgg,rest⟩
theorem zAL.length {w:World} {B:Nat}:∀ {ts:List P.Thr} {vs:List Value},zAL w B ts vs→vs.length=ts.length
 | [],[],_=>rfl
 | _::_,_::_,h=>by simp[zAL.length h.2.2]
theorem zAL.keep {w w':World} {B:Nat}:∀ {ts:List P.Thr} {vs:List Value},zAL w B ts vs→(∀ v∈vs,∀ k,v.ownBlock=some k→w'.heap[k]?=w.heap[k]?)→zAL w' B ts vs
 | [],[],_,_=>trivial
 | _::_,v::_,h,hk=>⟨zAd h.1 (hk v (by simp)),h.2.1,zAL.keep h.2.2 (fun u hu=>hk u (by simp[hu]))⟩
theorem zAL.mem {w:World} {B:Nat}:∀ {ts:List P.Thr} {vs:List Value},zAL w B ts vs→∀ v∈vs,∃ n xs,w.ownsRow B 96 11 v n xs
 | [],[],_,u,hu=>by simp at hu
 | _::_,v::_,h,u,hu=>by
  rcases List.mem_cons.1 hu with rfl | hu
  ·exact⟨_,_,h.1⟩
  ·exact zAL.mem h.2.2 u hu
theorem RdIn.lt {w:World} {B g:Nat} {r:P.Rd} {tv ov:Value} {vs:List Value} (h:RdIn w B g r tv ov vs):g<w.heap.size:=(Array.getElem?_eq_some_iff.1 h.cells).1
theorem RdIn.keep {w w':World} {B g:Nat} {r:P.Rd} {tv ov:Value} {vs:List Value} (h:RdIn w B g r tv ov vs) (hk:∀ k,k<w.heap.size→w'.heap[k]?=w.heap[k]?):RdIn w' B g r tv ov vs :=
 ⟨by rw[hk g h.lt];exact h.cells,zAd h.threads (fun k e=>hk k (h.threads.lt k e).2),zAd h.opn (fun k e=>hk k (h.opn.lt k e).2),
  h.stmts.keep (fun v hv k e=>by obtain⟨n,xs,ho⟩:=h.stmts.mem v hv;exact hk k (ho.lt k e).2)⟩
theorem zCv.below {w w':World} {B g:Nat} {r:P.Rd} (h:zCv w B g r) (hb:Below w.heap.size w w'):zCv w' B g r:=by
 obtain⟨tv,ov,vs,h⟩:=h
 exact⟨tv,ov,vs,h.keep hb.block⟩
theorem zBn {w:World} {B:Nat} {e:TypeId} {sz:Nat} {v:Value} {n:Nat} {xs:List Value} (h:w.ownsRow B e sz v n xs) {k:Nat} (hk:v.ownBlock=some k):∃ cur,w.heap[k]?=some (.cells cur e (0,0)):=by
 rcases h.2 with ⟨rfl,_⟩ | ⟨g,cap,cur,rfl,hb,hgg,rest⟩
 ·simp[Value.ownBlock] at hk
 ·simp[Value.ownBlock] at hk;subst hk;exact⟨cur,hgg⟩
theorem own_ne {w:World} {B B':Nat} {e e':TypeId} {sz sz':Nat} {v v':Value} {n n':Nat} {xs xs':List Value} (h:w.ownsRow B e sz v n xs) (h':w.ownsRow B' e' sz' v' n' xs') (hne:e≠e') {k:Nat} (hk:v.ownBlock=some k):v'.ownBlock≠some k:=by
 intro hk'
 obtain⟨c,hc⟩:=zBn h hk
 obtain⟨c',hc'⟩:=zBn h' hk'
 rw[hc] at hc';simp at hc';exact hne hc'.2
theorem zAV {w:World} {B:Nat} {e e':TypeId} {sz:Nat} {v:Value} {n:Nat} {xs:List Value} {g:Nat} {cs:Array Value} {fr:Nat × Nat} (h:w.ownsRow B e sz v n xs) (h':w.heap[g]?=some (.cells cs e' fr)) (hne:e≠e'):v.ownBlock≠some g:=by
 intro hk
 obtain⟨c,hc⟩:=zBn h hk
 rw[hc] at h';simp at h';exact hne h'.2.1
theorem zBs:∀ (ts:List P.Thr) (vs:List Value) (t:P.Thr) (v:Value),vs.length=ts.length→zAH (ts++[t]) (vs++[v])=zAH ts vs++[.int .i64 t.block,.int .i64 t.line,v]
 | [],[],_,_,_=>rfl
 | a::r,b::q,t,v,h=>by simp[zAH,zBs r q t v (by simpa using h)]
theorem zBo:∀ (ts:List P.Thr) (vs:List Value),vs.length=ts.length→(zAH ts vs).length=ts.length*3
 | [],[],_=>rfl
 | a::r,b::q,h=>by simp[zAH,zBo r q (by simpa using h)];omega
theorem zBA {w:World} {B:Nat}:∀ (ts:List P.Thr) (vs:List Value) (t:P.Thr) (v:Value),zAL w B (ts++[t]) (vs++[v]) ↔ zAL w B ts vs∧w.ownsRow B 96 11 v t.stmts.length (zAA t.stmts)∧∀ u∈vs,u.ownBlock=none∨u.ownBlock≠v.ownBlock
 | [],[],t,v=>by simp[zAL]
 | [],b::q,t,v=>by
  cases q with
  | nil=>simp[zAL]
  | cons c q=>simp[zAL]
 | a::r,[],t,v=>by
  cases r with
  | nil=>simp[zAL]
  | cons c q=>simp[zAL]
 | a::r,b::q,t,v=>by
  have ih:=zBA (w:=w) (B:=B) r q t v
  simp only[List.cons_append,zAL,ih]
  constructor
  ·rintro ⟨h1,h2,h3,h4,h5⟩
   refine⟨⟨h1,fun u hu=>h2 u (by simp[hu]),h3⟩,h4,fun u hu=>?_⟩
   rcases List.mem_cons.1 hu with rfl | hu
   ·exact h2 v (by simp)
   ·exact h5 u hu
  ·rintro ⟨⟨h1,h2,h3⟩,h4,h5⟩
   refine⟨h1,fun u hu=>?_,h3,h4,fun u hu=>h5 u (by simp[hu])⟩
   rcases List.mem_append.1 hu with hu | hu
   ·exact h2 u hu
   ·simp at hu;subst hu;exact h5 b (by simp)
theorem zDI {α:Type} (l:List α) (h:l≠[]):∃ a b,l=a++[b]:=⟨l.dropLast,l.getLast h,(List.dropLast_concat_getLast h).symm⟩
theorem Tryz.infoStm:(Tryz.prog.info? 96).map (fun i=>(i.zero,i.size,i.bytes))=some (some (.agg (zAb P.Stm.zero)),11,88):=by kernel_rfl
theorem zIC {w W0 w1:World} {B g bt n capT m g1 cap1:Nat} {r:P.Rd} {ts:List P.Thr} {t:P.Thr} {vs:List Value} {sv ov:Value} {st:P.Stm}
  (hr:r.threads=ts++[t]) (hn:ts.length=n) (hm:t.stmts.length=m)
  (h:RdIn w B g r (.slice (some ⟨bt,0,none⟩) (n+1) capT) ov (vs++[sv]))
  (hk:∀ k,k<w.heap.size→W0.heap[k]?=w.heap[k]?) (hsz:w.heap.size≤W0.heap.size) (hos:W0.os=w.os) (htp:W0.tape=w.tape) (hou:W0.output=w.output) (hB:B≤w.heap.size)
  (hown:w1.ownsRow B 96 11 (.slice (some ⟨g1,0,none⟩) (m+1) cap1) (m+1) (zAA t.stmts++(zAb st).toList)) (hgrow:W0.grownBy w1 sv.ownBlock) (hat:sv.ownBlock=some g1∨g1=W0.heap.size) :
  zCv (w1.setCell ⟨bt,n*3+2,none⟩ (.slice (some ⟨g1,0,none⟩) (m+1) cap1)) B g (P.put r st)∧Below B w (w1.setCell ⟨bt,n*3+2,none⟩ (.slice (some ⟨g1,0,none⟩) (m+1) cap1)):=by
 have hst:=h.stmts
 rw[hr,zBA] at hst
 obtain⟨hs0,hsv,hpw⟩:=hst
 have hthr:=h.threads
 have hbtT:=zBn hthr (k:=bt) rfl
 obtain⟨cur,hcur⟩:=hbtT
 have hbtlt:bt<w.heap.size:=(Array.getElem?_eq_some_iff.1 hcur).1
 have hlv:vs.length=ts.length:=hs0.length
 have svne:∀ k c e fr,w.heap[k]?=some (.cells c e fr)→e≠96→sv.ownBlock≠some k:=fun k c e fr hc he=>zAV hsv hc (Ne.symm he)
 have same:∀ k,k<w.heap.size→sv.ownBlock≠some k→k≠bt→(w1.setCell ⟨bt,n*3+2,none⟩ (.slice (some ⟨g1,0,none⟩) (m+1) cap1)).heap[k]?=w.heap[k]?:=fun k hlt h1 h2=>by
  rw[Below.heap_setCell _ _ _ _ h2,hgrow.block k (by omega) (Ne.symm h1),hk k hlt]
 have hg1bt:g1≠bt:=by
  intro e;subst e
  rcases hat with ha | ha
  ·exact svne g1 cur _ _ hcur (by decide) ha
  ·omega
 refine⟨⟨.slice (some ⟨bt,0,none⟩) (n+1) capT,ov,vs++[.slice (some ⟨g1,0,none⟩) (m+1) cap1],?_,?_,?_,?_⟩,?_⟩
 ·have hgne:g≠bt:=fun e=>by subst e;rw[h.cells] at hcur;simp at hcur
  rw[same g h.lt (svne g _ _ _ h.cells (by decide)) hgne]
  exact h.cells
 ·have h1:w1.ownsRow B 88 3 (.slice (some ⟨bt,0,none⟩) (n+1) capT) (n+1) (zAH r.threads (vs++[sv])):=by
   have e:r.threads.length=n+1:=by rw[hr];simp;omega
   rw[e] at hthr
   exact zAd hthr (fun k hk'=>by
    simp[Value.ownBlock] at hk';subst hk'
    rw[hgrow.block bt (by omega) (Ne.symm (svne bt cur _ _ hcur (by decide))),hk bt hbtlt])
  have h2:=(h1.stored (n*3+2) (.slice (some ⟨g1,0,none⟩) (m+1) cap1)).1
  have e1:(P.put r st).threads=ts++[{ t with stmts:=t.stmts++[st] }]:=by simp only[P.put,hr,P.zLu]
  rw[e1,zBs _ _ _ _ hlv]
  rw[hr,zBs _ _ _ _ hlv] at h2
  have e2:(zAH ts vs++[Value.int .i64 t.block,.int .i64 t.line,sv]).set (n*3+2) (.slice (some ⟨g1,0,none⟩) (m+1) cap1)=zAH ts vs++[.int .i64 t.block,.int .i64 t.line,.slice (some ⟨g1,0,none⟩) (m+1) cap1]:=by
   rw[List.set_append_right _ _ (by rw[zBo _ _ hlv];omega),zBo _ _ hlv,show n*3+2-ts.length*3=2 by omega]
   rfl
  rw[e2] at h2
  simpa [hn] using h2
 ·refine zAd h.opn (fun k hk'=>?_)
  have hl:=h.opn.lt k hk'
  refine same k hl.2 ?_ ?_
  ·exact own_ne h.opn hsv (by decide) hk'
  ·intro e;subst e
   exact own_ne h.opn hthr (by decide) hk' rfl
 ·have e1:(P.put r st).threads=ts++[{ t with stmts:=t.stmts++[st] }]:=by simp only[P.put,hr,P.zLu]
  rw[e1,zBA]
  refine⟨hs0.keep (fun u hu k hk'=>?_),?_,fun u hu=>?_⟩
  ·obtain⟨n',xs',hu'⟩:=hs0.mem u hu
   have hlt:=(hu'.lt k hk').2
   refine same k hlt (fun e=>?_) (fun e=>?_)
   ·rcases hpw u hu with hp | hp
    ·rw[hp] at hk';cases hk'
    ·exact hp (by rw[hk',e])
   ·subst e
    exact own_ne hu' hthr (by decide) hk' rfl
  ·have:=hown
   rw[← zAY] at this
   refine zAd (by simpa [hm] using this) (fun k hk'=>?_)
   simp[Value.ownBlock] at hk';subst hk'
   exact Below.heap_setCell _ _ _ _ hg1bt
  ·rcases hpw u hu with hp | hp
   ·exact .inl hp
   ·rcases hat with ha | ha
    ·exact .inr (by rw[ha] at hp;exact hp)
    ·refine .inr (fun e=>?_)
     obtain⟨n',xs',hu'⟩:=hs0.mem u hu
     have:=(hu'.lt g1 e).2
     omega
 ·refine⟨hgrow.os.trans hos,hgrow.tape.trans htp,hgrow.output.trans hou,?_,fun k hk'=>?_⟩
  ·have:=hgrow.size;simp[World.setCell];omega
  ·refine same k (by omega) (fun e=>?_) (fun e=>?_)
   ·have:=(hsv.lt k e).1;omega
   ·have:=(hthr.lt bt rfl).1;omega
theorem zHN (B g bt n capT:Nat) (st:P.Stm) (sv:Value) (m:Nat) (xs:List Value) (w:World) (hg:w.cell? ⟨g,0,none⟩=some (.slice (some ⟨bt,0,none⟩) (n+1) capT))
  (hn:n<5) (hm:m<10000) (hc:w.cell? ⟨bt,n*3+2,none⟩=some sv) (hf:w.frozen? ⟨bt,n*3+2,none⟩=false)
  (hown:w.ownsRow B 96 11 sv m xs) (hne:some bt≠sv.ownBlock) (hneg:some g≠sv.ownBlock) (hB:B≤w.heap.size) (hglt:g<w.heap.size) (hblt:bt<w.heap.size) (Q:Ending→World→Prop)
  (hQ:∀ g1 cap1 w1,w1.ownsRow B 96 11 (.slice (some ⟨g1,0,none⟩) (m+1) cap1) (m+1) (xs++(zAb st).toList)→((w.alloc (.cells (zAb st) 96)).drew.alloc (.cells (zAb st) 96)).grownBy w1 sv.ownBlock→(sv.ownBlock=some g1∨g1=w.heap.size+2) →
   Q (.returned (.tuple #[])) (w1.setCell ⟨bt,n*3+2,none⟩ (.slice (some ⟨g1,0,none⟩) (m+1) cap1))) :
  Calls Tryz.prog 153 #[.pointer (some ⟨g,0,none⟩),.agg (zAb st)] w Q:=by
 obtain⟨i0,hi,hz0,hz1,hz2⟩:=info_parts Tryz.infoStm
 have hown2:((w.alloc (.cells (zAb st) 96)).drew.alloc (.cells (zAb st) 96)).ownsRow B 96 11 sv m xs:=((hown.alloc _).drew).alloc _
 have HO:=zAa hown2
 have hnews:∀ j u,(zAb st).toList[j]?=some u→((w.alloc (.cells (zAb st) 96)).drew.alloc (.cells (zAb st) 96)).cell? ((⟨w.heap.size+1,0,none⟩:Addr).add j)=some u:=World.news_of_block (t:=96) (fr:=(0,0)) (by have:=heap_alloc_new (w.alloc (.cells (zAb st) 96)).drew (.cells (zAb st) 96);simpa using this)
 have HN:=zAa hnews
 have eb:∀ k,k<w.heap.size→((w.alloc (.cells (zAb st) 96)).drew.alloc (.cells (zAb st) 96)).heap[k]?=w.heap[k]?:=fun k hk=>by
  rw[Below.heap_alloc _ _ _ (by simp;omega)]
  exact Below.heap_alloc _ _ _ hk
 have HC:Hid (((w.alloc (.cells (zAb st) 96)).drew.alloc (.cells (zAb st) 96)).cell? ⟨bt,n*3+2,none⟩=some sv):=(World.cell?_of_block (w:=w) (eb bt hblt)).trans hc
 have HF:Hid (((w.alloc (.cells (zAb st) 96)).drew.alloc (.cells (zAb st) 96)).frozen? ⟨bt,n*3+2,none⟩=false):=(World.frozen?_of_block (w:=w) (eb bt hblt)).trans hf
 have HG:Hid (((w.alloc (.cells (zAb st) 96)).drew.alloc (.cells (zAb st) 96)).cell? ⟨g,0,none⟩=some (.slice (some ⟨bt,0,none⟩) (n+1) capT)):=(World.cell?_of_block (w:=w) (eb g hglt)).trans hg
 have HQ:=zAa hQ
 clear hown2 hnews eb hQ hown
 have hin:((n:Int)<(n:Int)+1):=by omega
 have hn0:(0:Int)≤(n:Int):=by omega
 simp only[zAb]
 go_enter Tryz.func153,Tryz.ntmps153
 go_wp2_with fail
 go_region_law (refine step_append_lies _ rfl (.tmp 25) (.tmp 27) 86 rfl B 96 i0 (.agg (zAb P.Stm.zero)) 11 88 Tryz.underlying86 hi hz0 hz1 hz2 rfl (by decide) sv m xs (by simp[Act.eval]) (by exact HO.out) ⟨w.heap.size+1,0,none⟩ 1 1 (zAb st).toList (by simp[Act.eval]) rfl (by exact HN.out) (by simp[zAb,Value.oneCell']) (by decide) (by unfold maxLen;omega) (by omega) (by simp;omega) (w.heap.size+2) (by simp) ?_;intro g1 cap1 w1 hown1 hgrow hat hlt1;have c1:=(hgrow.cell_far ⟨bt,n*3+2,none⟩ (by simp;omega) hne).trans HC.out;have f1:=(hgrow.frozen_far ⟨bt,n*3+2,none⟩ (by simp;omega) hne).trans HF.out;have d1:=(hgrow.cell_far ⟨g,0,none⟩ (by simp;omega) hneg).trans HG.out)
 all_goals go_end0
 all_goals exact HQ.out _ _ _ hown1 hgrow hat
def Few (N:Nat) (r:P.Rd):Prop:=r.threads.length≤4∧∀ t∈r.threads,t.stmts.length≤N
theorem zFv (B g N:Nat) (r:P.Rd) (st:P.Stm) (w:World) (h:zCv w B g r) (hne:r.threads≠[]) (hF:Few N r) (hN:N<10000) (hB:B≤w.heap.size) :
  Calls Tryz.prog 153 #[.pointer (some ⟨g,0,none⟩),.agg (zAb st)] w fun e w'=>e=.returned (.tuple #[])∧zCv w' B g (P.put r st)∧Below B w w':=by
 obtain⟨tv,ov,vs,h⟩:=h
 obtain⟨ts,t,hr⟩:=zDI r.threads hne
 have hl:=h.stmts.length
 have hvne:vs≠[]:=by intro e;subst e;rw[hr] at hl;simp at hl
 obtain⟨vs0,sv,rfl⟩:=zDI vs hvne
 have hlen:r.threads.length=ts.length+1:=by rw[hr];simp
 have hthr:=h.threads
 rw[hlen] at hthr
 obtain⟨bt,capT,rfl,_,hbtlt⟩:=hthr.form (by omega)
 have hst:=h.stmts
 rw[hr,zBA] at hst
 obtain⟨hs0,hsv,hpw⟩:=hst
 have hlv:vs0.length=ts.length:=hs0.length
 have hc:w.cell? ⟨bt,ts.length*3+2,none⟩=some sv:=by
  rw[hthr.cellAt _ (by omega),hr,zBs _ _ _ _ hlv,List.getElem?_append_right (by rw[zBo _ _ hlv];omega),zBo _ _ hlv,show ts.length*3+2-ts.length*3=2 by omega]
  rfl
 have hg0:w.cell? ⟨g,0,none⟩=some (.slice (some ⟨bt,0,none⟩) (ts.length+1) capT):=by
  simp[World.cell?,h.cells]
 have hm:t.stmts.length≤N:=hF.2 t (by rw[hr];simp)
 obtain⟨cur,hcur⟩:=zBn hthr (k:=bt) rfl
 refine zHN B g bt ts.length capT st sv t.stmts.length (zAA t.stmts) w hg0 (by have:=hF.1;omega) (by omega) hc (hthr.frozenAt _) hsv (Ne.symm (zAV hsv hcur (by decide))) (Ne.symm (zAV hsv h.cells (by decide))) hB h.lt hbtlt _ ?_
 intro g1 cap1 w1 hown1 hgrow hat
 refine⟨rfl,zIC (W0:=(w.alloc (.cells (zAb st) 96)).drew.alloc (.cells (zAb st) 96)) hr rfl rfl h (fun k hk=>?_) (by simp;omega) rfl rfl rfl hB hown1 hgrow (by rcases hat with ha | ha;exact .inl ha;right;simp;omega)⟩
 rw[Below.heap_alloc _ _ _ (by simp;omega)]
 exact Below.heap_alloc _ _ _ hk
theorem RdIn.setG {w:World} {B g:Nat} {r:P.Rd} {tv ov:Value} {vs:List Value} (r':P.Rd) (ov':Value) (h:RdIn w B g r tv ov vs) (i:Nat) (u:Value) (ht:r'.threads=r.threads)
  (ho:w.ownsRow B 3 1 ov' r'.opn.length (r'.opn.map (Value.int .i64)))
  (he:(#[tv,.int .i64 r.most,.int .i64 r.count,.int .i64 r.ifs,ov]:Array Value).setIfInBounds i u=#[tv,.int .i64 r'.most,.int .i64 r'.count,.int .i64 r'.ifs,ov']) :
  RdIn (w.setCell ⟨g,i,none⟩ u) B g r' tv ov' vs:=by
 have keep:∀ k,(∃ (c:Array Value) (e:TypeId),w.heap[k]?=some (Obj.cells c e (0,0))∧e≠106)→(w.setCell ⟨g,i,none⟩ u).heap[k]?=w.heap[k]?:=fun k ⟨c,e,hc,hne⟩ =>
  Below.heap_setCell _ _ _ _ (fun ek=>by simp at ek;subst ek;rw[h.cells] at hc;simp at hc;exact hne hc.2.symm)
 refine⟨by rw[zAf h.cells,he],?_,?_,?_⟩
 ·rw[ht]
  exact zAd h.threads (fun k hk=>by obtain⟨c,hc⟩:=zBn h.threads hk;exact keep k ⟨c,_,hc,by decide⟩)
 ·exact zAd ho (fun k hk=>by obtain⟨c,hc⟩:=zBn ho hk;exact keep k ⟨c,_,hc,by decide⟩)
 ·rw[ht]
  exact h.stmts.keep (fun v hv k hk=>by
   obtain⟨n,xs,hv'⟩:=h.stmts.mem v hv
   obtain⟨c,hc⟩:=zBn hv' hk;exact keep k ⟨c,_,hc,by decide⟩)
theorem RdIn.facts {w:World} {B g:Nat} {r:P.Rd} {tv ov:Value} {vs:List Value} (h:RdIn w B g r tv ov vs):g<w.heap.size∧(∀ i,w.frozen? ⟨g,i,none⟩=false)∧w.cell? ⟨g,0,none⟩=some tv∧w.cell? ⟨g,1,none⟩=some (.int .i64 r.most) ∧
  w.cell? ⟨g,2,none⟩=some (.int .i64 r.count)∧w.cell? ⟨g,3,none⟩=some (.int .i64 r.ifs)∧w.cell? ⟨g,4,none⟩=some ov:=by
 refine⟨h.lt,fun i=>?_,?_,?_,?_,?_,?_⟩<;>simp[World.cell?,World.frozen?,h.cells]
theorem zID {w:World} {B:Nat} {e:TypeId} {k n cap:Nat} {xs:List Value} {x:Value} (h:w.ownsRow B e 1 (.slice (some ⟨k,0,none⟩) (n+1) cap) (n+1) (xs++[x])):w.ownsRow B e 1 (.slice (some ⟨k,0,none⟩) n cap) n xs:=by
 have hl:=h.1
 rcases h.2 with ⟨h',_⟩ | ⟨g',cap',cur,h',hb,hg,hnc,hcm,hcs,htake⟩
 ·simp at h'
 ·simp only[Value.slice.injEq,Option.some.injEq,Addr.mk.injEq,and_true,true_and] at h'
  obtain⟨rfl,rfl⟩:=h'
  refine⟨by simp at hl;omega,.inr ⟨k,cap,cur,rfl,hb,hg,by omega,hcm,hcs,?_⟩⟩
  have hx:xs.length=n:=by simp at hl;omega
  have e:cur.toList.take n=(cur.toList.take ((n+1)*1)).take n:=by rw[List.take_take];congr 1;omega
  rw[Nat.mul_one,e,htake,← hx]
  simp
end Go.Proofs.YtgceflcbckjjiaaGreatDoor
namespace Go.Proofs.YtgceflcbckjjiaaGreatDoor
open Go Go.RowKit
structure BelowX (B g:Nat) (w w':World):Prop where
 os:w'.os=w.os
 tape:w'.tape=w.tape
 output:w'.output=w.output
 size:w.heap.size≤w'.heap.size
 block:∀ k,k<B→k≠g→w'.heap[k]?=w.heap[k]?
theorem BelowX.refl (B g:Nat) (w:World):BelowX B g w w:=⟨rfl,rfl,rfl,Nat.le_refl _,fun _ _ _=>rfl⟩
theorem BelowX.of {B g:Nat} {w w':World} (h:Below B w w'):BelowX B g w w':=⟨h.os,h.tape,h.output,h.size,fun k hk _=>h.block k hk⟩
theorem BelowX.trans {B g:Nat} {a b c:World} (h:BelowX B g a b) (k:BelowX B g b c):BelowX B g a c :=
 ⟨k.os.trans h.os,k.tape.trans h.tape,k.output.trans h.output,Nat.le_trans h.size k.size,fun i hi hg=>(k.block i hi hg).trans (h.block i hi hg)⟩
theorem BelowX.drew {B g:Nat} {a w:World} (h:BelowX B g a w):BelowX B g a w.drew:=⟨h.os,h.tape,h.output,h.size,h.block⟩
theorem BelowX.alloc {B g:Nat} {a w:World} (h:BelowX B g a w) (hB:B≤w.heap.size) (o:Obj):BelowX B g a (w.alloc o) :=
 h.trans (BelowX.of ((Below.refl _ _).alloc hB _))
theorem BelowX.setCell {B g:Nat} {a w:World} (h:BelowX B g a w) {i:Nat} (u:Value):BelowX B g a (w.setCell ⟨g,i,none⟩ u) :=
 h.trans ⟨rfl,rfl,rfl,by simp[World.setCell],fun k _ hg=>Below.heap_setCell _ _ _ _ hg⟩
theorem BelowX.grown {B g:Nat} {a w w':World} {row:Option Nat} (h:BelowX B g a w) (hg:w.grownBy w' row) (hB:B≤w.heap.size) (hr:∀ k,row=some k→B≤k):BelowX B g a w' :=
 h.trans (BelowX.of ((Below.refl _ _).grown hg hB hr))
theorem BelowX.below {B B' g:Nat} {w w':World} (h:BelowX B g w w') (h1:B'≤B) (h2:B'≤g):Below B' w w':=⟨h.os,h.tape,h.output,h.size,fun k hk=>h.block k (by omega) (by omega)⟩
end Go.Proofs.YtgceflcbckjjiaaGreatDoor
