import Derived.Test.YtpkjmdcabdplfaaGreatDoorB46
import Derived.Test.YtpkjmdcabdplfaaGreatDoorB30
set_option linter.unusedVariables false
set_option linter.unusedSimpArgs false
namespace Go.Proofs.YtpkjmdcabdplfaaGreatDoor
open Go
theorem ThrC.map {n k:Int} {ts:List R.Th} {us:List P.Thr} (f:R.Th→R.Th) (g:P.Thr→P.Thr) (h:ThrC n ts us k)
  (H:∀ n m t u,u∈us→Flat n t.body u.stmts m→u.block=t.block→u.line=t.row→Flat n (f t).body (g u).stmts m∧(g u).block=(f t).block∧(g u).line=(f t).row):ThrC n (ts.map f) (us.map g) k:=by
 induction h using ThrC.ind with
 | nil=>exact .nil _
 | @cons n m k ts us t u fl b l _ ih =>
  obtain⟨a1,a2,a3⟩:=H n m t u (by simp) fl b l
  exact .cons a1 a2 a3 (ih (fun n m t u hu=>H n m t u (by simp[hu])))
theorem ThrC.textPs {n k:Int} {ts:List R.Th} {us:List P.Thr} (pr:Int→Bool) (h:ThrC n ts us k) (hw:∀ u∈us,∀ st∈u.stmts,P.isAcc st.kind=true→pr st.var=true→st.order≠0) :
  R.textPs pr n ts=P.write (us.map (fun u=>{ u with stmts:=P.fencedS pr u.stmts })):=by
 induction h using ThrC.ind with
 | nil=>rfl
 | @cons n m k ts us t u f b _ _ ih =>
  have:=f.textP pr (hw u (by simp))
  have ih:=ih (fun v hv=>hw v (by simp[hv]))
  simp[R.textPs,P.write,P.writeT,this,b,ih]
theorem textP_pr (pr pr':Int→Bool) (h:∀ v,0≤v→pr v=pr' v):∀ (l:List R.Tree) (n:Int),R.textP pr n l=R.textP pr' n l:=by
 have hf:∀ x,R.fenB pr x=R.fenB pr' x:=fun x=>by
  unfold R.fenB
  by_cases hv:0≤x.var
  ·rw[h _ hv]
  ·simp[hv]
 have hl:∀ x,R.lineP pr x=R.lineP pr' x:=fun x=>by unfold R.lineP R.aheadT R.behindT R.ordX;rw[hf]
 intro l
 induction l using R.flatL.induct with
 | case1=>intro n;simp[R.textP]
 | case2 x b r ih1 ih2=>intro n;simp only[R.textP,ih1,ih2,hl]
theorem textPs_pr (pr pr':Int→Bool) (h:∀ v,0≤v→pr v=pr' v) (ts:List R.Th):∀ n,R.textPs pr n ts=R.textPs pr' n ts:=by
 induction ts with
 | nil=>intro n;rfl
 | cons t r ih=>intro n;simp only[R.textPs,textP_pr pr pr' h,ih]
theorem ThrC.anyV {n k:Int} {ts:List R.Th} {us:List P.Thr} (p:P.Stm→Bool) (q:R.Lh→Bool) (h:ThrC n ts us k)
  (hT:∀ st x,Twin st x→q x=p st) (h10:∀ st,st.kind=10→p st=false) (h11:∀ st,st.kind=11→p st=false) (hI:∀ a,q (R.lIf a)=false):R.anyV q ts=us.any (fun u=>u.stmts.any p):=by
 induction h using ThrC.ind with
 | nil=>rfl
 | cons f e _ _ ih=>simp only[R.anyV,List.any_cons,f.flatAny p q (fun st x t _=>hT st x t) h10 h11 hI] at ih ⊢;rw[ih]
def weakS (v:Int) (st:P.Stm):Bool:=P.reachS v st&&st.order==0
def smallS (v:Int) (st:P.Stm):Bool:=P.reachS v st&&((st.order != 0&&st.scope==0)||st.order==4)
theorem needs_eq (v:Int) (st:P.Stm) (s:Bool):(P.reachS v st&&P.needs st s)=(weakS v st||(s&&smallS v st)):=by
 unfold weakS smallS P.needs
 cases P.reachS v st<;>cases s<;>cases h:(st.order==0)<;>simp[bne,h]
theorem any_or {α:Type} (l:List α) (f g:α→Bool) (s:Bool):l.any (fun x=>f x||(s&&g x))=(l.any f||(s&&l.any g)):=by
 induction l with
 | nil=>cases s<;>rfl
 | cons a r ih =>
  simp only[List.any_cons,ih]
  cases f a<;>cases g a<;>cases s<;>simp
theorem pure_any (us:List P.Thr) (v:Int):P.isPure us v=!(us.any (fun u=>u.stmts.any (weakS v))||(P.bothReach us v&&us.any (fun u=>u.stmts.any (smallS v)))):=by
 unfold P.isPure
 generalize P.bothReach us v=s
 rw[← any_or]
 rw[show (fun t:P.Thr=>t.stmts.all fun st=>!(P.reachS v st&&P.needs st s))=fun t:P.Thr=>!(t.stmts.any (weakS v)||(s&&t.stmts.any (smallS v))) from ?_]
 ·rw[List.all_eq_not_any_not];simp
 ·funext t
  rw[← any_or,List.all_eq_not_any_not]
  congr 2
  funext st
  simp[needs_eq]
theorem weak_tw (v:Int) (hv:0≤v) (st:P.Stm) (x:R.Lh) (t:Twin st x):R.weakX v x=weakS v st:=by
 unfold R.weakX weakS
 have h:=reach_tw v hv st x t
 unfold R.hasV at h
 rw[h]
 cases hr:P.reachS v st
 ·rfl
 ·have ha:P.isAcc st.kind=true:=by simp only[P.reachS,Bool.and_eq_true] at hr;exact hr.1
  obtain⟨o1,s1,k1,al⟩:=t.os (by simp[ha])
  rw[o1,(ordW_inj k1.o0 k1.o1).1]
theorem small_tw (v:Int) (hv:0≤v) (st:P.Stm) (x:R.Lh) (t:Twin st x):R.smallX v x=smallS v st:=by
 unfold R.smallX smallS
 have h:=reach_tw v hv st x t
 unfold R.hasV at h
 rw[h]
 cases hr:P.reachS v st
 ·rfl
 ·have ha:P.isAcc st.kind=true:=by simp only[P.reachS,Bool.and_eq_true] at hr;exact hr.1
  obtain⟨o1,s1,k1,al⟩:=t.os (by simp[ha])
  rw[o1,s1,(ordW_inj k1.o0 k1.o1).2.2.2.2.1,(scW_facts k1).2.1]
theorem ThrC.pureEq {n k:Int} {ts:List R.Th} {us:List P.Thr} (h:ThrC n ts us k) (v:Int) (hv:0≤v):R.pureV ts v=P.isPure us v:=by
 have hi:=fun a=>reach_if v hv a
 unfold R.hasV at hi
 rw[pure_any]
 unfold R.pureV P.bothReach
 rw[h.anyB v 0 hv,h.anyB v 1 hv,h.anyV _ _ (weak_tw v hv) (fun st hk=>by simp[weakS,P.reachS,acc10 hk]) (fun st hk=>by simp[weakS,P.reachS,acc11 hk]) (fun a=>by simp[R.weakX,hi]),
  h.anyV _ _ (small_tw v hv) (fun st hk=>by simp[smallS,P.reachS,acc10 hk]) (fun st hk=>by simp[smallS,P.reachS,acc11 hk]) (fun a=>by simp[R.smallX,hi])]
 simp[Bool.not_or]
theorem pure_strong (us:List P.Thr) (u:P.Thr) (hu:u∈us) (st:P.Stm) (hs:st∈u.stmts) (ha:P.isAcc st.kind=true) (hp:P.isPure us st.var=true):st.order≠0:=by
 intro e
 rw[pure_any] at hp
 simp only[Bool.not_or,Bool.and_eq_true,Bool.not_eq_true'] at hp
 have:us.any (fun u=>u.stmts.any (weakS st.var))=true:=by
  simp only[List.any_eq_true]
  exact⟨u,hu,st,hs,by simp[weakS,P.reachS,ha,e]⟩
 rw[this] at hp
 exact absurd hp.1 (by decide)
theorem idles_narrow (us:List P.Thr) (ss:List P.Stm):∀ b,P.idlesGo b (P.narrowed us ss)=P.idlesGo b ss:=by
 induction ss with
 | nil=>intro b;rfl
 | cons s r ih =>
  intro b
  simp only[P.narrowed,List.map_cons,P.idlesGo,(narrow_kind us s).1] at ih ⊢
  rw[ih,ih]
theorem innerS_narrow (us:List P.Thr) (ss:List P.Stm):∀ d,P.innerS d ss=none→P.innerS d (P.narrowed us ss)=none:=by
 induction ss with
 | nil=>intro d h;exact h
 | cons s r ih =>
  intro d h
  simp only[P.narrowed,List.map_cons,P.innerS,(narrow_kind us s).1] at ih h ⊢
  by_cases h10:s.kind=10
  ·simp[h10] at h ⊢;exact ih _ h
  by_cases h11:s.kind=11
  ·simp[h11] at h ⊢;exact ih _ h
  by_cases h5:s.kind=5
  ·by_cases hd:0<d
   ·simp[h5,hd] at h
   ·simp[h5,hd] at h ⊢;exact ih _ h
  ·simp[h10,h11,h5] at h ⊢;exact ih _ h
theorem innerO_none (us:List P.Thr) (h:P.innerO us=none):∀ u∈us,P.innerS 0 u.stmts=none:=by
 induction us with
 | nil=>intro u hu;simp at hu
 | cons t r ih =>
  simp only[P.innerO] at h
  cases hx:P.innerS 0 t.stmts with
  | some v=>rw[hx] at h;simp at h
  | none =>
   rw[hx,Option.none_or] at h
   intro u hu
   simp at hu
   rcases hu with rfl | hu
   ·exact hx
   ·exact ih h u hu
def narP (us:List P.Thr) (u:P.Thr):P.Thr:={ u with stmts:=P.narrowed us u.stmts }
theorem ThrC.idle {n k:Int} {ts:List R.Th} {us:List P.Thr} (h:ThrC n ts us k) (hi:∀ u∈us,P.innerS 0 u.stmts=none) (b:Int):R.idle ts b=P.idleB us b:=by
 induction h using ThrC.ind with
 | nil=>rfl
 | @cons n m k ts us t u f e _ _ ih =>
  have hn:=f.noIn (hi u (by simp))
  have ih:=ih (fun v hv=>hi v (by simp[hv]))
  simp only[R.idle,P.idleB,List.all_cons,e,f.idles hn 0] at ih ⊢
  rw[ih]
theorem idle_drop (ts:List R.Th):R.idle (ts.map (R.dropT 0)) 1=R.idle ts 1:=by
 unfold R.idle
 rw[List.all_map]
 congr 1
 funext t
 simp only[Function.comp,R.dropT]
 by_cases h:t.block=0
 ·simp[h]
 ·simp[h]
theorem steps (ts:List R.Th) (hb:∀ t∈ts,t.block=0∨t.block=1):R.step2 1 (R.step2 0 ts)=ts.map (fun t=>if R.idle ts t.block then { t with body:=R.dropL 2 t.body } else t):=by
 have e:R.step2 0 ts=ts.map (fun t=>if R.idle ts 0 then R.dropT 0 t else t):=by
  unfold R.step2
  cases R.idle ts 0<;>simp
 have e1:R.idle (R.step2 0 ts) 1=R.idle ts 1:=by
  unfold R.step2
  split
  ·exact idle_drop ts
  ·rfl
 unfold R.step2 at e1 ⊢
 rw[e1]
 have e:=e
 unfold R.step2 at e
 rw[e]
 have key:∀ (c:Bool),(ts.map (fun t=>if R.idle ts 0 then R.dropT 0 t else t)).map (fun t=>if c then R.dropT 1 t else t)=ts.map (fun t=>if (if t.block==0 then R.idle ts 0 else c) then { t with body:=R.dropL 2 t.body } else t):=by
  intro c
  rw[List.map_map]
  refine List.map_congr_left (fun t ht=>?_)
  simp only[Function.comp,R.dropT]
  rcases hb t ht with h | h
  ·cases R.idle ts 0<;>cases c<;>simp[h]
  ·cases R.idle ts 0<;>cases c<;>simp[h]
 have k:=key (R.idle ts 1)
 have fin:ts.map (fun t=>if (if t.block==0 then R.idle ts 0 else R.idle ts 1) then ({ t with body:=R.dropL 2 t.body }:R.Th) else t)=ts.map (fun t=>if R.idle ts t.block then { t with body:=R.dropL 2 t.body } else t):=by
  refine List.map_congr_left (fun t ht=>?_)
  rcases hb t ht with h | h<;>simp[h]
 rw[← fin,← k]
 cases R.idle ts 1<;>simp
theorem ThrC.trim {n k:Int} {ts:List R.Th} {us:List P.Thr} (h:ThrC n ts us k) (hi:P.innerO us=none) (hb:∀ u∈us,u.block=0∨u.block=1) (hbt:∀ t∈ts,t.block=0∨t.block=1):ThrC n (R.better ts) (P.trimmed us) k:=by
 have hi':=innerO_none us hi
 have h1:=fun v hv=>h.one v hv
 have h2:=h.blocks hb
 have hN:ThrC n (R.step1 ts) (us.map (narP us)) k:=h.map _ _ (fun n m t u _ f b l=>⟨f.narrow ts us h1 h2,b,l⟩)
 have hiN:∀ u∈us.map (narP us),P.innerS 0 u.stmts=none:=by
  intro u hu
  obtain⟨v,hv,rfl⟩:=List.mem_map.1 hu
  exact innerS_narrow us v.stmts 0 (hi' v hv)
 have hid:∀ b,R.idle (R.step1 ts) b=P.idleB us b:=fun b=>by
  rw[hN.idle hiN b]
  unfold P.idleB
  rw[List.all_map]
  congr 1
  funext u
  simp only[Function.comp,narP,idles_narrow]
 have hbN:∀ t∈R.step1 ts,t.block=0∨t.block=1:=by
  intro t ht
  obtain⟨v,hv,rfl⟩:=List.mem_map.1 ht
  exact hbt v hv
 have eR:R.better ts=(R.step1 ts).map (fun t=>R.thinT (if R.idle (R.step1 ts) t.block then { t with body:=R.dropL 2 t.body } else t)):=by
  unfold R.better
  rw[steps _ hbN,List.map_map];rfl
 have eP:P.trimmed us=(us.map (narP us)).map (fun u=>{ u with stmts:=P.thinGo none (P.secondT us u.block u.stmts) }):=by
  unfold P.trimmed
  rw[List.map_map];rfl
 rw[eR,eP]
 refine hN.map _ _ (fun n m t u hu f b l=>?_)
 rw[hid,← b]
 unfold P.secondT R.thinT
 have c0:CovR none none:=fun _ _ _=>rfl
 cases P.idleB us u.block
 ·simp only[Bool.false_eq_true,if_false]
  refine⟨f.thin none none c0,?_,?_⟩<;>first | trivial | exact b | exact l
 ·simp only[if_true]
  have:=f.drop (f.noIn (hiN u hu)) 0
  refine⟨Flat.thin this none none c0,?_,?_⟩<;>first | trivial | exact b | exact l
theorem ways_text {k:Int} {ts:List R.Th} {us:List P.Thr} (h:ThrC 0 ts us k) (hi:P.innerO us=none) (hb:∀ u∈us,u.block=0∨u.block=1) (hbt:∀ t∈ts,t.block=0∨t.block=1) (opt fen:Bool):P.write (P.ways us opt fen)=R.compW ts opt fen:=by
 have key:∀ (ts:List R.Th) (us:List P.Thr),ThrC 0 ts us k→P.write (if fen then P.fenced us else us)=R.textPs (fun v=>fen&&R.pureV ts v) 0 ts:=by
  intro ts us h
  have hw:∀ u∈us,∀ st∈u.stmts,P.isAcc st.kind=true→(fen&&P.isPure us st.var)=true→st.order≠0:=fun u hu st hs ha hp=>by
   simp only[Bool.and_eq_true] at hp
   exact pure_strong us u hu st hs ha hp.2
  have e1:=h.textPs (fun v=>fen&&P.isPure us v) hw
  have e2:R.textPs (fun v=>fen&&R.pureV ts v) 0 ts=R.textPs (fun v=>fen&&P.isPure us v) 0 ts:=textPs_pr _ _ (fun v hv=>by rw[h.pureEq v hv]) ts 0
  rw[e2,e1]
  cases fen
  ·simp only[Bool.false_eq_true,if_false,Bool.false_and]
   congr 1
   have:∀ ss:List P.Stm,P.fencedS (fun _=>false) ss=ss:=by
    intro ss
    induction ss with
    | nil=>rfl
    | cons s r ih=>simp[P.fencedS,P.fenced1,ih]
   rw[show (fun u:P.Thr=>({ u with stmts:=P.fencedS (fun _=>false) u.stmts }:P.Thr))=id from funext fun u=>by rw[this];rfl,List.map_id]
  ·simp only[if_true,Bool.true_and];rfl
 unfold P.ways R.compW R.bettered
 cases opt
 ·simpa using key ts us h
 ·simpa using key _ _ (h.trim hi hb hbt)
end Go.Proofs.YtpkjmdcabdplfaaGreatDoor
namespace Go.Proofs.YtpkjmdcabdplfaaGreatDoor
open Go Go.RowKit
set_option maxRecDepth 100000
theorem fencedS_snoc (pr:Int→Bool) (l:List P.Stm) (k:Nat) (h:k<l.length):P.fencedS pr (l.take (k+1))=P.fencedS pr (l.take k)++P.fenced1 pr l[k]:=by
 have app:∀ a b,P.fencedS pr (a++b)=P.fencedS pr a++P.fencedS pr b:=fun a b=>by
  induction a with
  | nil=>rfl
  | cons s r ih=>simp[P.fencedS,ih]
 rw[List.take_succ_eq_append_getElem h,app];simp[P.fencedS]
theorem fencedS_len (pr:Int→Bool) (l:List P.Stm):(P.fencedS pr l).length≤3*l.length:=by
 induction l with
 | nil=>simp[P.fencedS]
 | cons s r ih =>
  simp only[P.fencedS,List.length_append,List.length_cons]
  have:(P.fenced1 pr s).length≤3:=by
   unfold P.fenced1
   split
   ·cases P.rel s.order<;>cases P.acq s.order<;>simp
   ·simp
  omega
structure FI (w W:World) (o:Value) (acc:List P.Stm) (st f:P.Stm) (gs gf:Nat) (bx:Array Value):Prop where
 own:W.ownsRow w.heap.size 80 11 o acc.length (flatStm acc)
 bel:Below w.heap.size w W
 s:StmAt W gs st
 f:StmAt W gf f
 ns:o.ownBlock≠some gs
 nf:o.ownBlock≠some gf
 hs:w.heap.size≤gs
 hf:w.heap.size≤gf
 ne:gf≠gs
 box:W.heap[w.heap.size]?=some (.cells bx 35 (0,0))
theorem FI.start {w wr w3:World} {o:Value} {acc:List P.Stm} {st f:P.Stm} {bx:Array Value} (hb:Below w.heap.size w wr) (hown:wr.ownsRow w.heap.size 80 11 o acc.length (flatStm acc)) (hbox:wr.heap[w.heap.size]?=some (.cells bx 35 (0,0))) (hb3:Below (wr.alloc (.cells (stmCells st) 80)).heap.size (wr.alloc (.cells (stmCells st) 80)) w3) :
  FI w (w3.alloc (.cells (stmCells f) 80)) o acc st f wr.heap.size w3.heap.size bx:=by
 have hW:Below wr.heap.size wr w3:=((Below.refl wr.heap.size wr).alloc (Nat.le_refl _) _).trans (hb3.mono (by simp))
 have h1:=hb.size
 have h2:=hW.size
 have hlt:w.heap.size<wr.heap.size:=(Array.getElem?_eq_some_iff.1 hbox).1
 have h3:wr.heap.size<w3.heap.size:=by have:=hb3.size;simp at this;omega
 refine⟨(ownsRow_keep hown (fun j hj=>hW.block j (hown.lt j hj).2)).alloc _,(hb.trans (hW.mono h1)).alloc (by omega) _,((StmAt.new wr st).below hb3).alloc _,StmAt.new w3 f,fun e=>?_,fun e=>?_,h1,by omega,by omega,?_⟩
 ·have:=(hown.lt _ e).2;omega
 ·have:=(hown.lt _ e).2;omega
 ·rw[Below.heap_alloc _ _ _ (by omega),hW.block _ hlt];exact hbox
theorem FI.app {w W w1:World} {o:Value} {acc:List P.Stm} {st f:P.Stm} {gs gf g1 cap1:Nat} {bx:Array Value} (h:FI w W o acc st f gs gf bx) (x:P.Stm) (na:Nat) (hna:acc.length=na) (hgrow:(W.alloc (.cells (stmCells x) 80)).grownBy w1 o.ownBlock) (hown1:w1.ownsRow w.heap.size 80 11 (.slice (some ⟨g1,0,none⟩) (na+1) cap1) (na+1) (flatStm acc++(stmCells x).toList)) (hat:o.ownBlock=some g1∨g1=W.heap.size+1) :
  FI w w1 (.slice (some ⟨g1,0,none⟩) (na+1) cap1) (acc++[x]) st f gs gf bx:=by
 subst hna
 have hlt:w.heap.size<W.heap.size:=(Array.getElem?_eq_some_iff.1 h.box).1
 have keep:∀ j,j<W.heap.size→o.ownBlock≠some j→w1.heap[j]?=W.heap[j]?:=fun j hj hn=>by
  rw[hgrow.block j (by simp;omega) (Ne.symm hn)];exact Below.heap_alloc _ _ _ hj
 have hsl:=h.s.lt
 have hfl:=h.f.lt
 have hnb:∀ g,g<W.heap.size→o.ownBlock≠some g→(Value.slice (some ⟨g1,0,none⟩) (acc.length+1) cap1).ownBlock≠some g:=fun g hg hn e=>by
  simp[Value.ownBlock] at e
  subst e
  rcases hat with ha | ha
  ·exact hn ha
  ·omega
 refine⟨by rw[flatStm_snoc];simpa using hown1,(h.bel.alloc h.bel.size _).grown hgrow (by have:=h.bel.size;simp;omega) (fun j hj=>(h.own.lt j hj).1),h.s.of_block (keep gs hsl h.ns),h.f.of_block (keep gf hfl h.nf),hnb gs hsl h.ns,hnb gf hfl h.nf,h.hs,h.hf,h.ne,?_⟩
 rw[keep _ hlt (own_ne_blk h.own h.box (by decide))];exact h.box
theorem FI.setO {w W:World} {o:Value} {acc:List P.Stm} {st f:P.Stm} {gs gf:Nat} {bx:Array Value} (h:FI w W o acc st f gs gf bx):FI w (W.setCell ⟨gs,8,none⟩ (.int .i64 1)) o acc { st with order:=1 } f gs gf bx:=by
 have hne:w.heap.size≠gs:=fun e=>by
  have h1:=h.s
  rw[← e] at h1
  unfold StmAt at h1
  rw[h.box] at h1
  simp at h1
 refine⟨ownsRow_keep h.own (fun j hj=>Below.heap_setCell _ _ _ _ (fun e=>h.ns (by rw[hj,e]))),h.bel.setCell (p:=⟨gs,8,none⟩) h.hs _,h.s.setOrder 1,h.f.of_block (Below.heap_setCell _ _ _ _ h.ne),h.ns,h.nf,h.hs,h.hf,h.ne,?_⟩
 rw[Below.heap_setCell _ _ _ _ hne];exact h.box
set_option maxHeartbeats 12800000 in
theorem fencedS_any (B bt n cap B2 m sc:Nat) (sa:Option Addr) (ts:List P.Thr) (l:List P.Stm) (w:World) (h:ThreadsAt w B (.slice (some ⟨bt,0,none⟩) n cap) ts) (hn:n=ts.length) (hnb:n<10) (hst:∀ t∈ts,t.stmts.length<10000)
  (hown:w.ownsRow B2 80 11 (.slice sa m sc) m (flatStm l)) (hm:m=l.length) (hmb:m<10000) :
  Calls Tryz.prog 31 #[.agg #[.slice (some ⟨bt,0,none⟩) n cap],.slice sa m sc] w fun e w'=>∃ v,e=.returned v∧w'.ownsRow w.heap.size 80 11 v (P.fencedS (P.isPure ts) l).length (flatStm (P.fencedS (P.isPure ts) l))∧Below w.heap.size w w':=by
 obtain⟨i0,hi,hz0,hz1,hz2⟩:=info_parts Tryz.infoStm
 have HC:Hid (∀ (w2:World) (v:Int),Below w.heap.size w w2→Calls Tryz.prog 57 #[.agg #[.slice (some ⟨bt,0,none⟩) n cap],.int .i64 v] w2 fun e w'=>e=.returned (.bool (P.isPure ts v))∧Below w2.heap.size w2 w'):=fun w2 v hb=>isPure_any B bt n cap v ts w2 (h.keep (fun k hk=>hb.block k hk)) hn hnb hst
 have HO:=hide hown
 have HN:=hide hm
 clear h hn hst hown hm
 generalize P.isPure ts=pr at *
 go_enter Tryz.func31,Tryz.ntmps31
 go_wp2
 go_loopw [5,12] (fun o i wr=>∃ (k:Nat) (acc:List P.Stm),k≤m∧i=.int .i64 k∧acc.length≤3*k∧Hid (acc=P.fencedS pr (l.take k))∧wr.ownsRow w.heap.size 80 11 o acc.length (flatStm acc)∧Below w.heap.size w wr∧wr.heap[w.heap.size]?=some (.cells #[.slice (some ⟨bt,0,none⟩) n cap] 35 (0,0))) (fun _ i _=>m-(intOf i).toNat)
 case atStart=>exact⟨0,[],Nat.zero_le _,rfl,by simp,by unfold Hid;simp[P.fencedS],by simpa [flatStm] using World.ownsRow_nil _ _ _ _,(Below.refl _ _).alloc (Nat.le_refl _) _,heap_alloc_new w _⟩
 case round =>
  obtain⟨k,acc,hk,rfl,hac,HR,hrow,hbel,hbox⟩:=hrel
  have e0:wr.cell? ⟨w.heap.size,0,none⟩=some (.slice (some ⟨bt,0,none⟩) n cap):=by simp[World.cell?,hbox]
  have hwlt:w.heap.size<wr.heap.size:=(Array.getElem?_eq_some_iff.1 hbox).1
  by_cases hlt:k<m
  ·obtain⟨b,rfl,hblt⟩:=own_slice HO.out (by omega)
   have hkl:k<l.length:=by rw[← HN.out];exact hlt
   have hr:=hide (rangeAt_keep (range_stm HO.out HN.out k hkl) (hbel.block b hblt))
   have HS:=hide (fencedS_snoc pr l k hkl)
   have HOW:=hide hrow
   have HBL:=hide hbel
   generalize hst:l[k]=st at *
   clear hst hrow hbel
   have plain:Hid (P.fenced1 pr st=[st]→True):=fun _=>trivial
   cases ha:P.isAcc st.kind
   ·have HF:Hid (acc++[st]=P.fencedS pr (l.take (k+1))):=by
     unfold Hid;rw[HS.out,← HR.out];simp[P.fenced1,ha]
    go_wp2_with (first
     | (refine wpList_load_at (.tmp 14) rfl rfl b (k*11) st rfl hr.out ?_)
     | (go_at_call 56;refine (isAcc_any _ _).mono ?_;rintro e w' ⟨rfl,rfl⟩;rw[ha])
     | (at_builtin;refine wpList_append_lies _ rfl (.tmp 27) (.tmp 29) 71 rfl w.heap.size 80 i0 (.agg (stmCells P.Stm.zero)) 11 88 Tryz.underlying71 hi hz0 hz1 hz2 rfl (by decide) _ _ _ rfl ((HOW.out.alloc _).alloc _) ⟨wr.heap.size+1,0,none⟩ 1 1 (stmCells st).toList (by simp[Act.eval]) rfl ?c1 ?c2 (by decide) ?c3 ?c4 ?c5 _ rfl ?_))
    case c1=>exact news2 wr (stmCells st) _ _
    case c2=>simp[stmCells,Value.oneCell']
    case c3=>unfold maxLen;omega
    case c4=>omega
    case c5=>simp;omega
    intro g1 cap1 w1 hown1 hgrow hat hlt1
    have hW':Below wr.heap.size wr ((wr.alloc (.cells (stmCells st) 80)).alloc (.cells (stmCells st) 80)):=((Below.refl _ _).alloc (Nat.le_refl _) _).alloc (by simp) _
    have FIN:=hide (grown_row HBL.out hW' HOW.out hgrow)
    have FBX:=hide (grown_other hW' HOW.out hgrow hbox (by decide))
    have FOW:Hid (w1.ownsRow w.heap.size 80 11 (.slice (some ⟨g1,0,none⟩) (acc.length+1) cap1) (acc++[st]).length (flatStm (acc++[st]))):=by
     unfold Hid;rw[flatStm_snoc];simpa using hown1
    clear hown1 hgrow hat HOW HBL hW'
    go_wp2
    go_roundw
    case rel=>exact⟨k+1,acc++[st],by omega,by go_num,by simp;omega,HF,FOW.out,FIN.out,FBX.out⟩
    case measure=>simp[intOf];omega
   ·cases hp:pr st.var
    ·have HF:Hid (acc++[st]=P.fencedS pr (l.take (k+1))):=by
      unfold Hid;rw[HS.out,← HR.out];simp[P.fenced1,hp]
     go_wp2_with (first
      | (refine wpList_load_at (.tmp 14) rfl rfl b (k*11) st rfl hr.out ?_)
      | (go_at_call 56;refine (isAcc_any _ _).mono ?_;rintro e w' ⟨rfl,rfl⟩;rw[ha])
      | (go_at_call 57;refine (HC.out _ _ (HBL.out.alloc (by omega) _)).mono ?_;rintro e w3 ⟨rfl,hb3⟩;rw[hp];have hW:Below wr.heap.size wr w3:=((Below.refl wr.heap.size wr).alloc (Nat.le_refl _) _).trans (hb3.mono (by simp));have GS:=(StmAt.new wr st).below hb3;obtain⟨f1,f2,s0,s1,s2,s3,s4,s5,s6,s7,s8,s9,s10⟩:=GS.facts;have hw3:=hW.size)
      | (at_builtin;refine wpList_append_lies _ rfl (.tmp 27) (.tmp 29) 71 rfl w.heap.size 80 i0 (.agg (stmCells P.Stm.zero)) 11 88 Tryz.underlying71 hi hz0 hz1 hz2 rfl (by decide) _ _ _ rfl ((ownsRow_keep HOW.out (fun j hj=>hW.block j (HOW.out.lt j hj).2)).alloc _) ⟨w3.heap.size,0,none⟩ 1 1 (stmCells st).toList rfl rfl ?c1 ?c2 (by decide) ?c3 ?c4 ?c5 _ rfl ?_))
     case c1=>exact World.news_of_block (t:=80) (fr:=(0,0)) (heap_alloc_new w3 _)
     case c2=>simp[stmCells,Value.oneCell']
     case c3=>unfold maxLen;omega
     case c4=>omega
     case c5=>simp;omega
     intro g1 cap1 w1 hown1 hgrow hat hlt1
     have hW':Below wr.heap.size wr (w3.alloc (.cells (stmCells st) 80)):=hW.alloc hw3 _
     have FIN:=hide (grown_row HBL.out hW' HOW.out hgrow)
     have FBX:=hide (grown_other hW' HOW.out hgrow hbox (by decide))
     have FOW:Hid (w1.ownsRow w.heap.size 80 11 (.slice (some ⟨g1,0,none⟩) (acc.length+1) cap1) (acc++[st]).length (flatStm (acc++[st]))):=by
      unfold Hid;rw[flatStm_snoc];simpa using hown1
     clear hown1 hgrow hat HOW HBL hW hW' GS
     go_wp2
     go_roundw
     case rel=>exact⟨k+1,acc++[st],by omega,by go_num,by simp;omega,HF,FOW.out,FIN.out,FBX.out⟩
     case measure=>simp[intOf];omega
    ·cases hrl:P.rel st.order<;>cases hac2:P.acq st.order
     ·have HF:Hid (acc++[{ st with order:=1 }]=P.fencedS pr (l.take (k+1))):=by
       unfold Hid;rw[HS.out,← HR.out];simp[P.fenced1,ha,hp,hrl,hac2]
      go_wp2_with (first
       | (refine wpList_load_at (.tmp 14) rfl rfl b (k*11) st rfl hr.out ?_)
       | (go_at_call 56;refine (isAcc_any _ _).mono ?_;rintro e w' ⟨rfl,rfl⟩;rw[ha])
       | (go_at_call 57;refine (HC.out _ _ (HBL.out.alloc (by omega) _)).mono ?_;rintro e w3 ⟨rfl,hb3⟩;rw[hp];have GS:=(StmAt.new wr st).below hb3;obtain⟨f1,f2,s0,s1,s2,s3,s4,s5,s6,s7,s8,s9,s10⟩:=GS.facts;have GF:FI w (w3.alloc (.cells (stmCells (P.fenceS st)) 80)) u5 acc st (P.fenceS st) wr.heap.size w3.heap.size #[.slice (some ⟨bt,0,none⟩) n cap]:=(FI.start HBL.out HOW.out hbox hb3);rw[show stmCells (P.fenceS st)=#[.int .i64 4,.int .i64 st.line,.int .i64 0,.int .i64 0,.bool false,.int .i64 0,.bool false,.int .i64 0,.int .i64 4,.int .i64 st.scope,.int .i64 0] from rfl] at GF;have GF:=hide GF;clear GS)
       | (go_at_call 58;generalize w3.alloc (.cells #[.int .i64 4,.int .i64 st.line,.int .i64 0,.int .i64 0,.bool false,.int .i64 0,.bool false,.int .i64 0,.int .i64 4,.int .i64 st.scope,.int .i64 0] 80)=W at *;clear f1 f2 s0 s1 s2 s3 s4 s5 s6 s7 s8 s9 s10;obtain⟨f1,f2,s0,s1,s2,s3,s4,s5,s6,s7,s8,s9,s10⟩:=GF.out.s.facts;have G2:=hide GF.out.setO;refine (rel_any _ _).mono ?_;rintro e w' ⟨rfl,hww⟩;have hww:=hww.symm;subst hww;rw[hrl])
       | (generalize W.setCell ⟨wr.heap.size,8,none⟩ (.int .i64 1)=W2 at *;refine wpList_load_stm (.tmp 7) rfl rfl wr.heap.size { st with order:=1 } rfl (by exact G2.out.s) ?_;simp only[stmCells])
       | (at_builtin;refine wpList_append_lies _ rfl (.tmp 45) (.tmp 47) 71 rfl w.heap.size 80 i0 (.agg (stmCells P.Stm.zero)) 11 88 Tryz.underlying71 hi hz0 hz1 hz2 rfl (by decide) _ _ _ rfl (G2.out.own.alloc _) ⟨W2.heap.size,0,none⟩ 1 1 (stmCells { st with order:=1 }).toList rfl rfl ?c1 ?c2 (by decide) ?c3 ?c4 ?c5 _ rfl ?_))
      case c1=>exact World.news_of_block (t:=80) (fr:=(0,0)) (heap_alloc_new W2 _)
      case c2=>simp[stmCells,P.fenceS,P.Opd.zero,Value.oneCell']
      case c3=>unfold maxLen;first | omega | (simp;omega)
      case c4=>first | omega | (simp;omega)
      case c5=>have:=G2.out.bel.size;simp;omega
      intro gwB capwB wB hown1 hgrow hat hlt1
      have GB:=hide (FI.app G2.out { st with order:=1 } acc.length (by first | rfl | simp) (by exact hgrow) (by first | exact hown1 | simpa using hown1) (by exact hat))
      clear hown1 hgrow hat hlt1
      go_wp2_with (first | (go_at_call 59;refine (acq_any _ _).mono ?_;rintro e w' ⟨rfl,hww⟩;have hww:=hww.symm;subst hww;rw[hac2]))
      go_roundw
      case rel=>exact⟨k+1,_,by omega,by go_num,by simp;omega,HF,by simpa using GB.out.own,GB.out.bel,GB.out.box⟩
      case measure=>simp[intOf];omega
     ·have HF:Hid (acc++[{ st with order:=1 }]++[P.fenceS st]=P.fencedS pr (l.take (k+1))):=by
       unfold Hid;rw[HS.out,← HR.out];simp[P.fenced1,ha,hp,hrl,hac2]
      go_wp2_with (first
       | (refine wpList_load_at (.tmp 14) rfl rfl b (k*11) st rfl hr.out ?_)
       | (go_at_call 56;refine (isAcc_any _ _).mono ?_;rintro e w' ⟨rfl,rfl⟩;rw[ha])
       | (go_at_call 57;refine (HC.out _ _ (HBL.out.alloc (by omega) _)).mono ?_;rintro e w3 ⟨rfl,hb3⟩;rw[hp];have GS:=(StmAt.new wr st).below hb3;obtain⟨f1,f2,s0,s1,s2,s3,s4,s5,s6,s7,s8,s9,s10⟩:=GS.facts;have GF:FI w (w3.alloc (.cells (stmCells (P.fenceS st)) 80)) u5 acc st (P.fenceS st) wr.heap.size w3.heap.size #[.slice (some ⟨bt,0,none⟩) n cap]:=(FI.start HBL.out HOW.out hbox hb3);rw[show stmCells (P.fenceS st)=#[.int .i64 4,.int .i64 st.line,.int .i64 0,.int .i64 0,.bool false,.int .i64 0,.bool false,.int .i64 0,.int .i64 4,.int .i64 st.scope,.int .i64 0] from rfl] at GF;have GF:=hide GF;clear GS)
       | (go_at_call 58;generalize w3.alloc (.cells #[.int .i64 4,.int .i64 st.line,.int .i64 0,.int .i64 0,.bool false,.int .i64 0,.bool false,.int .i64 0,.int .i64 4,.int .i64 st.scope,.int .i64 0] 80)=W at *;clear f1 f2 s0 s1 s2 s3 s4 s5 s6 s7 s8 s9 s10;obtain⟨f1,f2,s0,s1,s2,s3,s4,s5,s6,s7,s8,s9,s10⟩:=GF.out.s.facts;have G2:=hide GF.out.setO;refine (rel_any _ _).mono ?_;rintro e w' ⟨rfl,hww⟩;have hww:=hww.symm;subst hww;rw[hrl])
       | (generalize W.setCell ⟨wr.heap.size,8,none⟩ (.int .i64 1)=W2 at *;refine wpList_load_stm (.tmp 7) rfl rfl wr.heap.size { st with order:=1 } rfl (by exact G2.out.s) ?_;simp only[stmCells])
       | (at_builtin;refine wpList_append_lies _ rfl (.tmp 45) (.tmp 47) 71 rfl w.heap.size 80 i0 (.agg (stmCells P.Stm.zero)) 11 88 Tryz.underlying71 hi hz0 hz1 hz2 rfl (by decide) _ _ _ rfl (G2.out.own.alloc _) ⟨W2.heap.size,0,none⟩ 1 1 (stmCells { st with order:=1 }).toList rfl rfl ?c1 ?c2 (by decide) ?c3 ?c4 ?c5 _ rfl ?_))
      case c1=>exact World.news_of_block (t:=80) (fr:=(0,0)) (heap_alloc_new W2 _)
      case c2=>simp[stmCells,P.fenceS,P.Opd.zero,Value.oneCell']
      case c3=>unfold maxLen;first | omega | (simp;omega)
      case c4=>first | omega | (simp;omega)
      case c5=>have:=G2.out.bel.size;simp;omega
      intro gwB capwB wB hown1 hgrow hat hlt1
      have GB:=hide (FI.app G2.out { st with order:=1 } acc.length (by first | rfl | simp) (by exact hgrow) (by first | exact hown1 | simpa using hown1) (by exact hat))
      clear hown1 hgrow hat hlt1
      go_wp2_with (first
       | (go_at_call 59;refine (acq_any _ _).mono ?_;rintro e w' ⟨rfl,hww⟩;have hww:=hww.symm;subst hww;rw[hac2])
       | (refine wpList_load_stm (.tmp 9) rfl rfl w3.heap.size (P.fenceS st) rfl (by exact GB.out.f) ?_;simp only[stmCells,P.fenceS,P.Opd.zero])
       | (at_builtin;refine wpList_append_lies _ rfl (.tmp 51) (.tmp 53) 71 rfl w.heap.size 80 i0 (.agg (stmCells P.Stm.zero)) 11 88 Tryz.underlying71 hi hz0 hz1 hz2 rfl (by decide) _ _ _ rfl (GB.out.own.alloc _) ⟨wB.heap.size,0,none⟩ 1 1 (stmCells (P.fenceS st)).toList rfl rfl ?c1 ?c2 (by decide) ?c3 ?c4 ?c5 _ rfl ?_))
      case c1=>exact World.news_of_block (t:=80) (fr:=(0,0)) (heap_alloc_new wB _)
      case c2=>simp[stmCells,P.fenceS,P.Opd.zero,Value.oneCell']
      case c3=>unfold maxLen;first | omega | (simp;omega)
      case c4=>first | omega | (simp;omega)
      case c5=>have:=GB.out.bel.size;simp;omega
      intro gwC capwC wC hown1 hgrow hat hlt1
      have GC:=hide (FI.app GB.out (P.fenceS st) (acc.length+1) (by first | rfl | simp) (by exact hgrow) (by first | exact hown1 | simpa using hown1) (by exact hat))
      clear hown1 hgrow hat hlt1
      go_wp2
      go_roundw
      case rel=>exact⟨k+1,_,by omega,by go_num,by simp;omega,HF,by simpa using GC.out.own,GC.out.bel,GC.out.box⟩
      case measure=>simp[intOf];omega
     ·have HF:Hid (acc++[P.fenceS st]++[{ st with order:=1 }]=P.fencedS pr (l.take (k+1))):=by
       unfold Hid;rw[HS.out,← HR.out];simp[P.fenced1,ha,hp,hrl,hac2]
      go_wp2_with (first
       | (refine wpList_load_at (.tmp 14) rfl rfl b (k*11) st rfl hr.out ?_)
       | (go_at_call 56;refine (isAcc_any _ _).mono ?_;rintro e w' ⟨rfl,rfl⟩;rw[ha])
       | (go_at_call 57;refine (HC.out _ _ (HBL.out.alloc (by omega) _)).mono ?_;rintro e w3 ⟨rfl,hb3⟩;rw[hp];have GS:=(StmAt.new wr st).below hb3;obtain⟨f1,f2,s0,s1,s2,s3,s4,s5,s6,s7,s8,s9,s10⟩:=GS.facts;have GF:FI w (w3.alloc (.cells (stmCells (P.fenceS st)) 80)) u5 acc st (P.fenceS st) wr.heap.size w3.heap.size #[.slice (some ⟨bt,0,none⟩) n cap]:=(FI.start HBL.out HOW.out hbox hb3);rw[show stmCells (P.fenceS st)=#[.int .i64 4,.int .i64 st.line,.int .i64 0,.int .i64 0,.bool false,.int .i64 0,.bool false,.int .i64 0,.int .i64 4,.int .i64 st.scope,.int .i64 0] from rfl] at GF;have GF:=hide GF;clear GS)
       | (go_at_call 58;generalize w3.alloc (.cells #[.int .i64 4,.int .i64 st.line,.int .i64 0,.int .i64 0,.bool false,.int .i64 0,.bool false,.int .i64 0,.int .i64 4,.int .i64 st.scope,.int .i64 0] 80)=W at *;clear f1 f2 s0 s1 s2 s3 s4 s5 s6 s7 s8 s9 s10;obtain⟨f1,f2,s0,s1,s2,s3,s4,s5,s6,s7,s8,s9,s10⟩:=GF.out.s.facts;refine (rel_any _ _).mono ?_;rintro e w' ⟨rfl,hww⟩;have hww:=hww.symm;subst hww;rw[hrl])
       | (refine wpList_load_stm (.tmp 9) rfl rfl w3.heap.size (P.fenceS st) rfl (by exact GF.out.f) ?_;simp only[stmCells,P.fenceS,P.Opd.zero])
       | (at_builtin;refine wpList_append_lies _ rfl (.tmp 40) (.tmp 42) 71 rfl w.heap.size 80 i0 (.agg (stmCells P.Stm.zero)) 11 88 Tryz.underlying71 hi hz0 hz1 hz2 rfl (by decide) _ _ _ rfl (GF.out.own.alloc _) ⟨W.heap.size,0,none⟩ 1 1 (stmCells (P.fenceS st)).toList rfl rfl ?c1 ?c2 (by decide) ?c3 ?c4 ?c5 _ rfl ?_))
      case c1=>exact World.news_of_block (t:=80) (fr:=(0,0)) (heap_alloc_new W _)
      case c2=>simp[stmCells,P.fenceS,P.Opd.zero,Value.oneCell']
      case c3=>unfold maxLen;first | omega | (simp;omega)
      case c4=>first | omega | (simp;omega)
      case c5=>have:=GF.out.bel.size;simp;omega
      intro gwA capwA wA hown1 hgrow hat hlt1
      have GA:=hide (FI.app GF.out (P.fenceS st) acc.length (by first | rfl | simp) (by exact hgrow) (by first | exact hown1 | simpa using hown1) (by exact hat))
      clear hown1 hgrow hat hlt1
      clear f1 f2 s0 s1 s2 s3 s4 s5 s6 s7 s8 s9 s10
      obtain⟨f1,f2,s0,s1,s2,s3,s4,s5,s6,s7,s8,s9,s10⟩:=GA.out.s.facts
      have G2:=hide GA.out.setO
      go_wp2_with (first
       | (generalize wA.setCell ⟨wr.heap.size,8,none⟩ (.int .i64 1)=W2 at *;refine wpList_load_stm (.tmp 7) rfl rfl wr.heap.size { st with order:=1 } rfl (by exact G2.out.s) ?_;simp only[stmCells])
       | (at_builtin;refine wpList_append_lies _ rfl (.tmp 45) (.tmp 47) 71 rfl w.heap.size 80 i0 (.agg (stmCells P.Stm.zero)) 11 88 Tryz.underlying71 hi hz0 hz1 hz2 rfl (by decide) _ _ _ rfl (G2.out.own.alloc _) ⟨W2.heap.size,0,none⟩ 1 1 (stmCells { st with order:=1 }).toList rfl rfl ?c1 ?c2 (by decide) ?c3 ?c4 ?c5 _ rfl ?_))
      case c1=>exact World.news_of_block (t:=80) (fr:=(0,0)) (heap_alloc_new W2 _)
      case c2=>simp[stmCells,P.fenceS,P.Opd.zero,Value.oneCell']
      case c3=>unfold maxLen;first | omega | (simp;omega)
      case c4=>first | omega | (simp;omega)
      case c5=>have:=G2.out.bel.size;simp;omega
      intro gwB capwB wB hown1 hgrow hat hlt1
      have GB:=hide (FI.app G2.out { st with order:=1 } (acc.length+1) (by first | rfl | simp) (by exact hgrow) (by first | exact hown1 | simpa using hown1) (by exact hat))
      clear hown1 hgrow hat hlt1
      go_wp2_with (first | (go_at_call 59;refine (acq_any _ _).mono ?_;rintro e w' ⟨rfl,hww⟩;have hww:=hww.symm;subst hww;rw[hac2]))
      go_roundw
      case rel=>exact⟨k+1,_,by omega,by go_num,by simp;omega,HF,by simpa using GB.out.own,GB.out.bel,GB.out.box⟩
      case measure=>simp[intOf];omega
     ·have HF:Hid (acc++[P.fenceS st]++[{ st with order:=1 }]++[P.fenceS st]=P.fencedS pr (l.take (k+1))):=by
       unfold Hid;rw[HS.out,← HR.out];simp[P.fenced1,ha,hp,hrl,hac2]
      go_wp2_with (first
       | (refine wpList_load_at (.tmp 14) rfl rfl b (k*11) st rfl hr.out ?_)
       | (go_at_call 56;refine (isAcc_any _ _).mono ?_;rintro e w' ⟨rfl,rfl⟩;rw[ha])
       | (go_at_call 57;refine (HC.out _ _ (HBL.out.alloc (by omega) _)).mono ?_;rintro e w3 ⟨rfl,hb3⟩;rw[hp];have GS:=(StmAt.new wr st).below hb3;obtain⟨f1,f2,s0,s1,s2,s3,s4,s5,s6,s7,s8,s9,s10⟩:=GS.facts;have GF:FI w (w3.alloc (.cells (stmCells (P.fenceS st)) 80)) u5 acc st (P.fenceS st) wr.heap.size w3.heap.size #[.slice (some ⟨bt,0,none⟩) n cap]:=(FI.start HBL.out HOW.out hbox hb3);rw[show stmCells (P.fenceS st)=#[.int .i64 4,.int .i64 st.line,.int .i64 0,.int .i64 0,.bool false,.int .i64 0,.bool false,.int .i64 0,.int .i64 4,.int .i64 st.scope,.int .i64 0] from rfl] at GF;have GF:=hide GF;clear GS)
       | (go_at_call 58;generalize w3.alloc (.cells #[.int .i64 4,.int .i64 st.line,.int .i64 0,.int .i64 0,.bool false,.int .i64 0,.bool false,.int .i64 0,.int .i64 4,.int .i64 st.scope,.int .i64 0] 80)=W at *;clear f1 f2 s0 s1 s2 s3 s4 s5 s6 s7 s8 s9 s10;obtain⟨f1,f2,s0,s1,s2,s3,s4,s5,s6,s7,s8,s9,s10⟩:=GF.out.s.facts;refine (rel_any _ _).mono ?_;rintro e w' ⟨rfl,hww⟩;have hww:=hww.symm;subst hww;rw[hrl])
       | (refine wpList_load_stm (.tmp 9) rfl rfl w3.heap.size (P.fenceS st) rfl (by exact GF.out.f) ?_;simp only[stmCells,P.fenceS,P.Opd.zero])
       | (at_builtin;refine wpList_append_lies _ rfl (.tmp 40) (.tmp 42) 71 rfl w.heap.size 80 i0 (.agg (stmCells P.Stm.zero)) 11 88 Tryz.underlying71 hi hz0 hz1 hz2 rfl (by decide) _ _ _ rfl (GF.out.own.alloc _) ⟨W.heap.size,0,none⟩ 1 1 (stmCells (P.fenceS st)).toList rfl rfl ?c1 ?c2 (by decide) ?c3 ?c4 ?c5 _ rfl ?_))
      case c1=>exact World.news_of_block (t:=80) (fr:=(0,0)) (heap_alloc_new W _)
      case c2=>simp[stmCells,P.fenceS,P.Opd.zero,Value.oneCell']
      case c3=>unfold maxLen;first | omega | (simp;omega)
      case c4=>first | omega | (simp;omega)
      case c5=>have:=GF.out.bel.size;simp;omega
      intro gwA capwA wA hown1 hgrow hat hlt1
      have GA:=hide (FI.app GF.out (P.fenceS st) acc.length (by first | rfl | simp) (by exact hgrow) (by first | exact hown1 | simpa using hown1) (by exact hat))
      clear hown1 hgrow hat hlt1
      clear f1 f2 s0 s1 s2 s3 s4 s5 s6 s7 s8 s9 s10
      obtain⟨f1,f2,s0,s1,s2,s3,s4,s5,s6,s7,s8,s9,s10⟩:=GA.out.s.facts
      have G2:=hide GA.out.setO
      go_wp2_with (first
       | (generalize wA.setCell ⟨wr.heap.size,8,none⟩ (.int .i64 1)=W2 at *;refine wpList_load_stm (.tmp 7) rfl rfl wr.heap.size { st with order:=1 } rfl (by exact G2.out.s) ?_;simp only[stmCells])
       | (at_builtin;refine wpList_append_lies _ rfl (.tmp 45) (.tmp 47) 71 rfl w.heap.size 80 i0 (.agg (stmCells P.Stm.zero)) 11 88 Tryz.underlying71 hi hz0 hz1 hz2 rfl (by decide) _ _ _ rfl (G2.out.own.alloc _) ⟨W2.heap.size,0,none⟩ 1 1 (stmCells { st with order:=1 }).toList rfl rfl ?c1 ?c2 (by decide) ?c3 ?c4 ?c5 _ rfl ?_))
      case c1=>exact World.news_of_block (t:=80) (fr:=(0,0)) (heap_alloc_new W2 _)
      case c2=>simp[stmCells,P.fenceS,P.Opd.zero,Value.oneCell']
      case c3=>unfold maxLen;first | omega | (simp;omega)
      case c4=>first | omega | (simp;omega)
      case c5=>have:=G2.out.bel.size;simp;omega
      intro gwB capwB wB hown1 hgrow hat hlt1
      have GB:=hide (FI.app G2.out { st with order:=1 } (acc.length+1) (by first | rfl | simp) (by exact hgrow) (by first | exact hown1 | simpa using hown1) (by exact hat))
      clear hown1 hgrow hat hlt1
      go_wp2_with (first
       | (go_at_call 59;refine (acq_any _ _).mono ?_;rintro e w' ⟨rfl,hww⟩;have hww:=hww.symm;subst hww;rw[hac2])
       | (refine wpList_load_stm (.tmp 9) rfl rfl w3.heap.size (P.fenceS st) rfl (by exact GB.out.f) ?_;simp only[stmCells,P.fenceS,P.Opd.zero])
       | (at_builtin;refine wpList_append_lies _ rfl (.tmp 51) (.tmp 53) 71 rfl w.heap.size 80 i0 (.agg (stmCells P.Stm.zero)) 11 88 Tryz.underlying71 hi hz0 hz1 hz2 rfl (by decide) _ _ _ rfl (GB.out.own.alloc _) ⟨wB.heap.size,0,none⟩ 1 1 (stmCells (P.fenceS st)).toList rfl rfl ?c1 ?c2 (by decide) ?c3 ?c4 ?c5 _ rfl ?_))
      case c1=>exact World.news_of_block (t:=80) (fr:=(0,0)) (heap_alloc_new wB _)
      case c2=>simp[stmCells,P.fenceS,P.Opd.zero,Value.oneCell']
      case c3=>unfold maxLen;first | omega | (simp;omega)
      case c4=>first | omega | (simp;omega)
      case c5=>have:=GB.out.bel.size;simp;omega
      intro gwC capwC wC hown1 hgrow hat hlt1
      have GC:=hide (FI.app GB.out (P.fenceS st) (acc.length+2) (by first | rfl | simp) (by exact hgrow) (by first | exact hown1 | simpa using hown1) (by exact hat))
      clear hown1 hgrow hat hlt1
      go_wp2
      go_roundw
      case rel=>exact⟨k+1,_,by omega,by go_num,by simp;omega,HF,by simpa using GC.out.own,GC.out.bel,GC.out.box⟩
      case measure=>simp[intOf];omega
  ·have HE:Hid (P.fencedS pr l=acc):=by
    unfold Hid
    rw[HR.out,List.take_of_length_le (by have:=HN.out;omega)]
   go_wp2
   go_ret
   exact⟨_,rfl,by rw[HE.out];exact hrow,hbel⟩
end Go.Proofs.YtpkjmdcabdplfaaGreatDoor
