import Derived.Test.YtkmebkbpfmoeaaaGreatF42
set_option linter.unusedVariables false
set_option linter.unusedSimpArgs false
set_option maxHeartbeats 12800000
namespace Go.Proofs.YtkmebkbpfmoeaaaGreat
namespace Q
structure WInv (es:List Ev):Prop where
 len:3≤es.length
 fst:∀ i:Nat,i<3→ev es i=zIy (i:Int)
 rest:∀ i,3≤i→i<es.length→(ev es i).thread≠-1
 var:∀ i,i<es.length→zIS (ev es i)=true→0≤(ev es i).var∧(ev es i).var<3
 hb:∀ i,i<es.length→HB es.length (ev es i).hangs
 hl:∀ i,i<es.length→∀ k:Nat,hasS (ev es i).hangs (k:Int)=true→3≤k
 sr:SR es
 sw:SW es
theorem winv_first:WInv zIL where
 len:=by decide
 fst i h:=by
  match i,h with
  | 0,_=>rfl
  | 1,_=>rfl
  | 2,_=>rfl
  | n+3,h=>omega
 rest i h k:=by simp[zIL] at k;omega
 var i h _:=by
  match i,h with
  | 0,_=>decide
  | 1,_=>decide
  | 2,_=>decide
  | n+3,h=>simp[zIL] at h;omega
 hb i h:=by
  match i,h with
  | 0,_=>exact hb_zero _
  | 1,_=>exact hb_zero _
  | 2,_=>exact hb_zero _
  | n+3,h=>simp[zIL] at h;omega
 sr i _ s:=by
  match i,s with
  | 0,s=>simp[zIL,ev,zIy] at s
  | 1,s=>simp[zIL,ev,zIy] at s
  | 2,s=>simp[zIL,ev,zIy] at s
  | n+3,s=>rw[ev_out _ _ (by simp[zIL])] at s;simp[Ev.zero] at s
 hl i h k hk:=by
  match i,h with
  | 0,_=>rw[show (ev zIL 0).hangs=0 from rfl,hasS_zero] at hk;cases hk
  | 1,_=>rw[show (ev zIL 1).hangs=0 from rfl,hasS_zero] at hk;cases hk
  | 2,_=>rw[show (ev zIL 2).hangs=0 from rfl,hasS_zero] at hk;cases hk
  | n+3,h=>simp[zIL] at h;omega
 sw i _ s:=by
  match i,s with
  | 0,s=>simp[zIL,ev,zIy] at s
  | 1,s=>simp[zIL,ev,zIy] at s
  | 2,s=>simp[zIL,ev,zIy] at s
  | n+3,s=>rw[ev_out _ _ (by simp[zIL])] at s;simp[Ev.zero] at s
theorem hb_moved {n m s:Nat} (h:HB m s):HB (n+m) (moved s (n:Int)):=fun k hk=>by
 by_cases hn:n<64
 ·obtain⟨_,h2,h3⟩:=(hasS_moved s n k hn).1 hk
  have:=h _ h3
  omega
 ·have:moved s (n:Int)=0:=by unfold moved;rw[if_pos (by omega)]
  rw[this,hasS_zero] at hk;cases hk
theorem sr_join {es:List Ev} (n:Nat) (h:SR es):SR (es.map (zIZ n)):=fun i k0 s0=>by
 rw[ev_map] at k0 s0 ⊢
 by_cases c:i<es.length
 ·rw[if_pos c] at k0 s0
  obtain⟨a,b⟩:=h i k0 s0
  have:i+1<es.length:=by
   by_cases c2:i+1<es.length
   ·exact c2
   ·rw[ev_out _ _ (by omega)] at a;simp[Ev.zero] at a
  rw[if_pos this];exact⟨a,b⟩
 ·rw[if_neg c] at s0;simp[Ev.zero] at s0
theorem sw_join {es:List Ev} (n:Nat) (h:SW es):SW (es.map (zIZ n)):=fun i k0 s0=>by
 rw[ev_map] at k0 s0
 by_cases c:i<es.length
 ·rw[if_pos c] at k0 s0
  obtain⟨a,b⟩:=h i k0 s0
  rw[ev_map,if_pos (by omega)];exact⟨a,b⟩
 ·rw[if_neg c] at s0;simp[Ev.zero] at s0
structure RInv (th:Int) (es:List Ev):Prop where
 evs:∀ e∈es,EvIn es.length th e
 sr:SR es
 sw:SW es
theorem WInv.join {W:Wd} (h:WInv W.events) {r:Run} {th:Int} (ht:th≠-1) (hr:RInv th r.events):WInv (W.join r).events where
 len:=by
  show 3≤(W.events++_).length
  have:=h.len
  rw[List.length_append];omega
 fst i hi:=by
  show ev (W.events++_) i=_
  rw[ev_append,if_pos (by have:=h.len;omega)];exact h.fst i hi
 rest i hi hk:=by
  show (ev (W.events++_) i).thread≠-1
  have hk2:i<W.events.length+r.events.length:=by simpa [Wd.join] using hk
  rw[ev_append]
  by_cases c:i<W.events.length
  ·rw[if_pos c];exact h.rest i hi c
  ·rw[if_neg c,ev_map,if_pos (by omega)]
   have hl:i-W.events.length<r.events.length:=by omega
   have:=(hr.evs _ (List.getElem_mem hl)).thr
   rw[ev_in _ _ hl]
   show (r.events[i-W.events.length]).thread≠-1
   rw[this];exact ht
 var i hk ha:=by
  have hk2:i<W.events.length+r.events.length:=by simpa [Wd.join] using hk
  have e:ev (W.join r).events i=if i<W.events.length then ev W.events i else ev (r.events.map (zIZ W.events.length)) (i-W.events.length):=ev_append _ _ _
  rw[e] at ha ⊢
  by_cases c:i<W.events.length
  ·rw[if_pos c] at ha ⊢;exact h.var i c ha
  ·rw[if_neg c,ev_map,if_pos (by omega)] at ha ⊢
   have hl:i-W.events.length<r.events.length:=by omega
   rw[ev_in _ _ hl] at ha ⊢
   exact (hr.evs _ (List.getElem_mem hl)).var ha
 hb i hk:=by
  have hk2:i<W.events.length+r.events.length:=by simpa [Wd.join] using hk
  have e:ev (W.join r).events i=if i<W.events.length then ev W.events i else ev (r.events.map (zIZ W.events.length)) (i-W.events.length):=ev_append _ _ _
  have hl:(W.join r).events.length=W.events.length+r.events.length:=by simp[Wd.join]
  rw[e,hl]
  by_cases c:i<W.events.length
  ·rw[if_pos c];exact (h.hb i c).mono (by omega)
  ·rw[if_neg c,ev_map,if_pos (by omega)]
   have hl:i-W.events.length<r.events.length:=by omega
   rw[ev_in _ _ hl]
   exact hb_moved (hr.evs _ (List.getElem_mem hl)).hb
 sr:=sr_app h.sr (sr_join _ hr.sr)
 sw:=sw_app h.sw (sw_join _ hr.sw)
 hl i hk k hb:=by
  have hk2:i<W.events.length+r.events.length:=by simpa [Wd.join] using hk
  have e:ev (W.join r).events i=if i<W.events.length then ev W.events i else ev (r.events.map (zIZ W.events.length)) (i-W.events.length):=ev_append _ _ _
  rw[e] at hb
  by_cases c:i<W.events.length
  ·rw[if_pos c] at hb;exact h.hl i c k hb
  ·rw[if_neg c,ev_map,if_pos (by omega)] at hb
   have h3:=h.len
   have hb2:hasS (moved (ev r.events (i-W.events.length)).hangs (W.events.length:Int)) (k:Int)=true:=hb
   by_cases hn:W.events.length<64
   ·have:=((hasS_moved _ _ _ hn).1 hb2).2.1
    omega
   ·have z:moved (ev r.events (i-W.events.length)).hangs (W.events.length:Int)=0:=by unfold moved;rw[if_pos (by omega)]
    rw[z,hasS_zero] at hb2;cases hb2
theorem run_rinv {t:P.Thr} (h:∀ s∈t.stmts,StV s) {i:Nat} {r:Run} (hr:r∈zJF t i):RInv (i:Int) r.events:=by
 unfold zJF zIO at hr
 obtain⟨c,_,rfl⟩:=List.mem_map.1 hr
 have hm:=minv_run h i c
 have ht:(runAt t i c).thread=(i:Int):=by
  unfold runAt zJr
  have:∀ (ss:List P.Stm) (p:Mach × Nat),(ss.foldl carry p).1.thread=p.1.thread:=fun ss=>by
   induction ss with
   | nil=>intro p;rfl
   | cons s ss ih =>
    intro p
    rw[List.foldl_cons,ih]
    unfold carry
    split
    ·split
     ·rfl
     ·unfold Mach.doIt Mach.giveRead Mach.give Mach.step Mach.giveRead Mach.give
      repeat' split
      all_goals rfl
    ·split
     ·rfl
     ·split<;>rfl
  exact this _ _
 exact⟨fun e he=>by have:=hm.evs e he;rw[ht] at this;exact this,hm.sr,hm.sw⟩
def KerV (ts:List P.Thr):Prop:=∀ t∈ts,∀ s∈t.stmts,StV s
theorem joinAll_winv:∀ (ts:List P.Thr) (i:Nat) (W:Wd) (ds:List Int),KerV ts→WInv W.events→WInv (zJW W (runsFrom i ts) ds).events
 | [],_,_,_,_,h=>h
 | t::ts,i,W,[],_,h=>by simpa [runsFrom,zJW] using h
 | t::ts,i,W,d::ds,hv,h=>by
  simp only[runsFrom,zJW]
  refine joinAll_winv ts (i+1) _ ds (fun u hu=>hv u (List.mem_cons_of_mem _ hu)) ?_
  split
  ·rename_i hd
   exact h.join (by omega) (run_rinv (hv t (by simp)) (List.getElem_mem hd))
  ·exact h
theorem world_inv {ts:List P.Thr} (h:KerV ts) (d:List Int):WInv (zIe (runs ts) d).events:=joinAll_winv ts 0 _ d h winv_first
theorem WInv.varOk {es:List Ev} (h:WInv es):VarOk es:=fun i hi k=>by have:=(h.var i hi (acc_w k)).1;omega
theorem WInv.firstOk {es:List Ev} (h:WInv es):FirstOk es:=fun i k hi hk ne _ _ hv ht=>by
 have k3:k<3:=by
  by_cases c:k<3
  ·exact c
  ·exact absurd ht (h.rest k (by omega) hk)
 by_cases c:i<3
 ·have e1:=h.fst i c
  have e2:=h.fst k k3
  rw[e1,e2] at hv
  simp[zIy] at hv
  omega
 ·exact⟨by omega,h.rest i (by omega) hi⟩
theorem source_pull {ts ts':List P.Thr} (hV:KerV ts) (hV':KerV ts') (hn:∀ d∈zIw (zAT (runs ts)),(zIe (runs ts) d).events.length≤64) (hn':∀ d∈zIw (zAT (runs ts')),(zIe (runs ts') d).events.length≤64) (pi:Int→Int) (Rl:List Int→List Int→Prop)
  (hW:∀ d'∈zIw (zAT (runs ts')),∃ d∈zIw (zAT (runs ts)),∃ f,WHom pi f (zIe (runs ts) d).events (zIe (runs ts') d').events∧Rl (zIe (runs ts) d).regs (zIe (runs ts') d').regs) :
  (∀ r'∈(zIx ts').rows,∃ (g g':List Int) (x:Int→Int),Rl g g'∧r'=g'++[x 0,x 1,x 2]∧g++[x (pi 0),x (pi 1),x (pi 2)]∈(zIx ts).rows)∧((zIx ts').clash=true→(zIx ts).clash=true):=by
 have key:∀ c'∈cands ts',∀ ds'∈ordsOf c'.wd,srcMay c' ds'=true→∃ c∈cands ts,∃ ds∈ordsOf c.wd,srcMay c ds=true∧(c'.facts.clashes (c'.facts.before c'.reads)=true→c.facts.clashes (c.facts.before c.reads)=true)∧Rl c.wd.regs c'.wd.regs∧zJy c.wd (placesAt c.wd ds)=c.wd.regs++[lastV c'.wd.events (pi 0) (placesAt c'.wd ds'),lastV c'.wd.events (pi 1) (placesAt c'.wd ds'),lastV c'.wd.events (pi 2) (placesAt c'.wd ds')]:=by
  intro c' hc' ds' hds' hm
  obtain⟨d',hd',rs',hrs',rfl,hh⟩:=cands_mem.1 hc'
  obtain⟨d,hd,f,hf,hreg⟩:=hW d' hd'
  have w1:=world_inv hV d
  have w2:=world_inv hV' d'
  obtain⟨rs,hrs,ds,hds,h1,h2,h3,h4⟩:=pull hf (hn d hd) (hn' d' hd') w1.varOk w2.varOk w1.firstOk w2.firstOk hrs' hds' hh hm
  refine⟨_,cands_mem.2 ⟨d,hd,rs,hrs,rfl,h1⟩,ds,hds,h2,h3,hreg,?_⟩
  have h5:∀ v:Nat,v<3→lastV (zIe (runs ts') d').events (pi (v:Int)) (placesAt (zIe (runs ts') d') ds')=lastV (zIe (runs ts) d).events (v:Int) (placesAt (zIe (runs ts) d) ds):=fun v hv=>by
   have e:=w1.fst v hv
   have hl:=w1.len
   exact h4 (v:Int) v (by omega) (by rw[e];rfl) (by rw[e];rfl)
  have a0:=h5 0 (by omega)
  have a1:=h5 1 (by omega)
  have a2:=h5 2 (by omega)
  unfold zJy
  simp only at a0 a1 a2 ⊢
  rw[show ((0:Nat):Int)=0 from rfl] at a0
  rw[show ((1:Nat):Int)=1 from rfl] at a1
  rw[show ((2:Nat):Int)=2 from rfl] at a2
  rw[a0,a1,a2]
 constructor
 ·intro r' hr'
  obtain⟨c',hc',ds',hds',hm,rfl⟩:=(source_rows ts' r').1 hr'
  obtain⟨c,hc,ds,hds,h1,_,h3,h4⟩:=key c' hc' ds' hds' hm
  refine⟨c.wd.regs,c'.wd.regs,fun v=>lastV c'.wd.events v (placesAt c'.wd ds'),h3,rfl,?_⟩
  exact (source_rows ts _).2 ⟨c,hc,ds,hds,h1,h4.symm⟩
 ·intro hcl
  obtain⟨c',hc',ds',hds',hm,hk⟩:=(source_clash ts').1 hcl
  obtain⟨c,hc,ds,hds,h1,h2,_⟩:=key c' hc' ds' hds' hm
  exact (source_clash ts).2 ⟨c,hc,ds,hds,h1,h2 hk⟩
end Q
namespace Q
def fF (q i:Nat):Nat:=if i<q then i else i+1
theorem fF_lt {q i:Nat} (h:i<q):fF q i=i:=by unfold fF;rw[if_pos h]
theorem fF_ge {q i:Nat} (h:q≤i):fF q i=i+1:=by unfold fF;rw[if_neg (by omega)]
def SubF (q s s':Nat):Prop:=∀ k:Nat,hasS s (k:Int)=true→hasS s' ((fF q k:Nat):Int)=true
theorem SubF.or {q a a' b b':Nat} (h:SubF q a a') (k:SubF q b b'):SubF q (a ||| b) (a' ||| b'):=fun j hj=>by
 rcases (hasS_or a b j).1 hj with e | e
 ·exact (hasS_or _ _ _).2 (Or.inl (h j e))
 ·exact (hasS_or _ _ _).2 (Or.inr (k j e))
theorem subF_zero (q s:Nat):SubF q 0 s:=fun k hk=>by rw[hasS_zero] at hk;cases hk
theorem subF_one {q n:Nat} (h:q≤n) (hn:n+1<64):SubF q (one (n:Int)) (one ((n+1:Nat):Int)):=fun k hk=>by
 obtain⟨_,rfl⟩:=(hasS_one n k).1 hk
 rw[fF_ge h]
 exact (hasS_one _ _).2 ⟨hn,rfl⟩
theorem subF_hb {q s:Nat} (h:HB q s):SubF q s s:=fun k hk=>by rw[fF_lt (h k hk)];exact hk
structure EvI (q:Nat) (a b:Ev):Prop where
 kind:b.kind=a.kind
 thread:b.thread=a.thread
 block:b.block=a.block
 var:b.var=a.var
 value:b.value=a.value
 order:b.order=a.order
 scope:b.scope=a.scope
 bars:b.bars=a.bars
 step:b.step=a.step
 hangs:SubF q a.hangs b.hangs
structure EsI (q:Nat) (F:Ev) (es es':List Ev):Prop where
 ql:q≤es.length
 len:es'.length=es.length+1
 fence:ev es' q=F
 evs:∀ i,i<es.length→EvI q (ev es i) (ev es' (fF q i))
theorem EsI.add {q:Nat} {F:Ev} {es es':List Ev} (h:EsI q F es es') {e e':Ev} (he:EvI q e e'):EsI q F (es++[e]) (es'++[e']) where
 ql:=by rw[List.length_append];have:=h.ql;omega
 len:=by rw[List.length_append,List.length_append,h.len];rfl
 fence:=by rw[ev_append,if_pos (by have:=h.ql;have:=h.len;omega)];exact h.fence
 evs i hi:=by
  have hi2:i<es.length+1:=by simpa using hi
  have hq:=h.ql
  have hl:=h.len
  rw[ev_append,ev_append]
  by_cases c:i<es.length
  ·rw[if_pos c,if_pos (by unfold fF;split<;>omega)]
   exact h.evs i c
  ·have e1:i=es.length:=by omega
   subst e1
   rw[if_neg c,fF_ge hq,if_neg (by omega),hl,Nat.sub_self,Nat.sub_self]
   exact he
structure MI (q:Nat) (F:Ev) (m m':Mach):Prop where
 thread:m'.thread=m.thread
 block:m'.block=m.block
 unread:m'.unread=m.unread
 regs:m'.regs=m.regs
 bars:m'.bars=m.bars
 evs:EsI q F m.events m'.events
 mlen:m'.made.length=m.made.length
 made:∀ j,SubF q (m.made.getD j 0) (m'.made.getD j 0)
 asked:SubF q m.asked m'.asked
section
variable {q:Nat} {F:Ev} {m m':Mach} {st:P.Stm}
theorem MI.value (h:MI q F m m') (o:P.Opd):m'.value o=m.value o:=by unfold Mach.value;rw[h.regs]
theorem MI.madeOf (h:MI q F m m') (o:P.Opd):SubF q (m.madeOf o) (m'.madeOf o):=by
 unfold Mach.madeOf
 split
 ·split
  ·exact subF_zero _ _
  ·exact h.made _
 ·exact subF_zero _ _
theorem MI.event (h:MI q F m m') (k:Int) (st:P.Stm):EvI q (m.event k st) (m'.event k st):=by
 refine⟨rfl,h.thread,h.block,rfl,rfl,rfl,rfl,?_,rfl,?_⟩
 ·show (if k==3||k==4 then (m'.bars:Int) else 0)=(if k==3||k==4 then (m.bars:Int) else 0)
  rw[h.bars]
 ·show SubF q (if k==0||k==1 then m.asked else 0) (if k==0||k==1 then m'.asked else 0)
  split
  ·exact h.asked
  ·exact subF_zero _ _
theorem EvI.val {a b:Ev} (h:EvI q a b) (v:Int):EvI q { a with value:=v } { b with value:=v }:=⟨h.kind,h.thread,h.block,h.var,rfl,h.order,h.scope,h.bars,h.step,h.hangs⟩
theorem EvI.hng {a b:Ev} (h:EvI q a b) {u u':Nat} (k:SubF q u u'):EvI q { a with hangs:=u } { b with hangs:=u' }:=⟨h.kind,h.thread,h.block,h.var,h.value,h.order,h.scope,h.bars,h.step,k⟩
theorem MI.read (h:MI q F m m') (st:P.Stm):MI q F (m.read st) (m'.read st) :=
 ⟨h.thread,h.block,by show m'.unread / 4=m.unread / 4;rw[h.unread],h.regs,h.bars,h.evs.add (by rw[h.unread];exact (h.event 0 st).val _),h.mlen,h.made,h.asked⟩
theorem MI.write (h:MI q F m m') (st:P.Stm) (v:Int) {u u':Nat} (k:SubF q u u'):MI q F (m.write st v u) (m'.write st v u') :=
 ⟨h.thread,h.block,h.unread,h.regs,h.bars,h.evs.add (((h.event 1 st).val v).hng (h.asked.or k)),h.mlen,h.made,h.asked⟩
theorem getD_setEq (l:List Nat) (i j x:Nat):(l.set i x).getD j 0=if i=j∧i<l.length then x else l.getD j 0:=by
 by_cases h:i=j
 ·subst h
  by_cases hl:i<l.length
  ·rw[if_pos ⟨rfl,hl⟩,List.getD_eq_getElem?_getD,List.getElem?_set_self hl];rfl
  ·rw[if_neg (fun c=>hl c.2),List.set_eq_of_length_le (by omega)]
 ·rw[if_neg (fun c=>h c.1),List.getD_eq_getElem?_getD,List.getElem?_set_ne h,List.getD_eq_getElem?_getD]
theorem MI.give (h:MI q F m m') (d v:Int) {u u':Nat} (k:SubF q u u'):MI q F (m.give d v u) (m'.give d v u'):=by
 unfold Mach.give
 split
 ·exact h
 ·refine⟨h.thread,h.block,h.unread,by show m'.regs.set _ _=m.regs.set _ _;rw[h.regs],h.bars,h.evs,by show (m'.made.set _ _).length=(m.made.set _ _).length;simp[h.mlen],fun j=>?_,h.asked⟩
  show SubF q ((m.made.set d.toNat u).getD j 0) ((m'.made.set d.toNat u').getD j 0)
  rw[getD_setEq,getD_setEq,h.mlen]
  split
  ·exact k
  ·exact h.made j
theorem MI.valueOf (h:MI q F m m') (i:Nat) (hi:i<m.events.length) (hq:q≤i):m'.valueOf (i+1)=m.valueOf i:=by
 have:=(h.evs.evs i hi).value
 rw[fF_ge hq] at this
 exact this
theorem MI.giveRead (h:MI q F m m') (d:Int) (i:Nat) (hi:i<m.events.length) (hq:q≤i) (hn:i+1<64):MI q F (m.giveRead d i) (m'.giveRead d (i+1)):=by
 unfold Mach.giveRead
 rw[h.valueOf i hi hq]
 exact h.give d _ (subF_one hq hn)
theorem MI.doIt (h:MI q F m m') (st:P.Stm) (hn:m.events.length+1<64):MI q F (m.doIt st) (m'.doIt st):=by
 have hq:=h.evs.ql
 unfold Mach.doIt
 rw[h.evs.len]
 have hrd:∀ st:P.Stm,(m.read st).events.length=m.events.length+1:=fun st=>by show (m.events++[_]).length=_;simp
 rcases kind_cases st.kind with e | e | e | e | e | e | ⟨e0,e1,e2,e3,e4,e5⟩
 ·rw[e]
  exact (h.read st).giveRead _ _ (by rw[hrd];omega) hq hn
 ·rw[e]
  show MI q F (m.store st) (m'.store st)
  unfold Mach.store
  rw[h.value]
  exact h.write st _ (h.madeOf _)
 ·rw[e]
  show MI q F (m.step st) (m'.step st)
  unfold Mach.step
  have hv:=(h.read st).valueOf m.events.length (by rw[hrd];omega) hq
  rw[e,h.evs.len,h.value,hv]
  refine MI.giveRead ?_ _ _ ?_ hq hn
  ·exact (h.read st).write st _ ((h.madeOf _).or (subF_one hq hn))
  ·show m.events.length<(((m.read st).events)++[_]).length
   rw[List.length_append,hrd];simp;omega
 ·rw[e]
  show MI q F (m.step st) (m'.step st)
  unfold Mach.step
  rw[e,h.evs.len,h.value]
  refine MI.giveRead ?_ _ _ ?_ hq hn
  ·exact (h.read st).write st _ (h.madeOf _)
  ·show m.events.length<(((m.read st).events)++[_]).length
   rw[List.length_append,hrd];simp;omega
 ·rw[e]
  exact⟨h.thread,h.block,h.unread,h.regs,h.bars,h.evs.add (h.event 2 st),h.mlen,h.made,h.asked⟩
 ·rw[e]
  refine⟨h.thread,h.block,h.unread,h.regs,by show m'.bars+1=m.bars+1;rw[h.bars],?_,h.mlen,h.made,h.asked⟩
  have:=(h.evs.add (h.event 3 st)).add (h.event 4 st)
  rw[List.append_assoc,List.append_assoc] at this
  exact this
 ·rw[e0,e1,e2,e3,e4,e5]
  simp only[Bool.false_eq_true,if_false,Bool.or_self]
  have hr:m'.result st=m.result st:=by unfold Mach.result;rw[h.value,h.value]
  split
  ·rw[hr];exact h.give _ _ ((h.madeOf _).or (h.madeOf _))
  ·exact h
theorem MI.carry {p p':Mach × Nat} (h:MI q F p.1 p'.1) (e:p'.2=p.2) (st:P.Stm) (hn:p.1.events.length+1<64):MI q F (carry p st).1 (carry p' st).1∧(carry p' st).2=(carry p st).2:=by
 unfold Q.carry
 rw[e,h.value]
 split
 ·split
  ·exact⟨⟨h.thread,h.block,h.unread,h.regs,h.bars,h.evs,h.mlen,h.made,h.asked.or (h.madeOf _)⟩,rfl⟩
  ·exact⟨h.doIt st hn,rfl⟩
 ·split
  ·exact⟨h,rfl⟩
  ·split
   ·exact⟨h,rfl⟩
   ·exact⟨h,e⟩
end
theorem doIt_grow (m:Mach) (st:P.Stm):(m.doIt st).events.length≤m.events.length+2:=by
 unfold Mach.doIt
 rcases kind_cases st.kind with e | e | e | e | e | e | ⟨e0,e1,e2,e3,e4,e5⟩
 ·rw[e]
  show ((m.read st).giveRead _ _).events.length≤_
  unfold Mach.giveRead;rw[give_ev]
  show (m.events++[_]).length≤_
  simp
 ·rw[e]
  show (m.events++[_]).length≤_
  simp
 ·rw[e]
  show (m.step st).events.length≤_
  unfold Mach.step
  rw[e]
  show (Mach.giveRead _ _ _).events.length≤_
  unfold Mach.giveRead;rw[give_ev]
  show ((m.events++[_])++[_]).length≤_
  simp
 ·rw[e]
  show (m.step st).events.length≤_
  unfold Mach.step
  rw[e]
  show (Mach.giveRead _ _ _).events.length≤_
  unfold Mach.giveRead;rw[give_ev]
  show ((m.events++[_])++[_]).length≤_
  simp
 ·rw[e]
  show (m.events++[_]).length≤_
  simp
 ·rw[e]
  show (m.events++[_,_]).length≤_
  simp
 ·rw[e0,e1,e2,e3,e4,e5]
  simp only[Bool.false_eq_true,if_false,Bool.or_self]
  split
  ·rw[give_ev];omega
  ·omega
theorem carry_grow (p:Mach × Nat) (st:P.Stm):(carry p st).1.events.length≤p.1.events.length+2:=by
 unfold carry
 split
 ·split
  ·show p.1.events.length≤_;omega
  ·exact doIt_grow _ _
 ·split
  ·show p.1.events.length≤_;omega
  ·split<;>(show p.1.events.length≤_;omega)
theorem mi_fold {q:Nat} {F:Ev}:∀ (ss:List P.Stm) {p p':Mach × Nat},MI q F p.1 p'.1→p'.2=p.2→p.1.events.length+2*ss.length+1<64→MI q F (ss.foldl carry p).1 (ss.foldl carry p').1
 | [],_,_,h,_,_=>h
 | s::ss,p,p',h,e,hn=>by
  rw[List.foldl_cons,List.foldl_cons]
  have hl:(s::ss).length=ss.length+1:=rfl
  obtain⟨h1,h2⟩:=h.carry e s (by omega)
  have:=carry_grow p s
  exact mi_fold ss h1 h2 (by omega)
structure StE (s t:P.Stm):Prop where
 eq:t={ s with line:=t.line }
theorem carry_line (p:Mach × Nat) {s t:P.Stm} (h:StE s t):carry p t=carry p s:=by rw[h.eq];rfl
def StsE:List P.Stm→List P.Stm→Prop
 | [],[]=>True
 | a::x,b::y=>StE a b∧StsE x y
 | _,_=>False
theorem fold_line (x:List P.Stm):∀ (y:List P.Stm) (p:Mach × Nat),StsE x y→y.foldl carry p=x.foldl carry p:=by
 induction x with
 | nil=>intro y p h;cases y with
  | nil=>rfl
  | cons b y=>exact absurd h (by simp[StsE])
 | cons a x ih=>intro y p h;cases y with
  | nil=>exact absurd h (by simp[StsE])
  | cons b y=>rw[List.foldl_cons,List.foldl_cons,carry_line p h.1];exact ih y _ h.2
structure IsFence (s:P.Stm):Prop where
 kind:s.kind=4
 order:s.order=5
 scope:s.scope=1
end Q
namespace Q
theorem doIt_app (m:Mach) (st:P.Stm):∃ L,(m.doIt st).events=m.events++L:=by
 unfold Mach.doIt
 rcases kind_cases st.kind with e | e | e | e | e | e | ⟨e0,e1,e2,e3,e4,e5⟩
 ·rw[e]
  refine⟨[{ m.event 0 st with value:=(m.unread % 4:Nat) }],?_⟩
  show ((m.read st).giveRead _ _).events=_
  unfold Mach.giveRead;rw[give_ev];rfl
 ·rw[e]
  exact⟨_,rfl⟩
 ·rw[e]
  show ∃ L,(m.step st).events=_
  unfold Mach.step
  rw[e]
  show ∃ L,(Mach.giveRead _ _ _).events=_
  unfold Mach.giveRead;rw[give_ev]
  exact⟨_,by show (m.events++[_])++[_]=_;rw[List.append_assoc]⟩
 ·rw[e]
  show ∃ L,(m.step st).events=_
  unfold Mach.step
  rw[e]
  show ∃ L,(Mach.giveRead _ _ _).events=_
  unfold Mach.giveRead;rw[give_ev]
  exact⟨_,by show (m.events++[_])++[_]=_;rw[List.append_assoc]⟩
 ·rw[e]
  exact⟨_,rfl⟩
 ·rw[e]
  exact⟨_,rfl⟩
 ·rw[e0,e1,e2,e3,e4,e5]
  simp only[Bool.false_eq_true,if_false,Bool.or_self]
  split
  ·rw[give_ev];exact⟨[],by simp⟩
  ·exact⟨[],by simp⟩
theorem carry_app (p:Mach × Nat) (st:P.Stm):∃ L,(carry p st).1.events=p.1.events++L:=by
 unfold carry
 split
 ·split
  ·exact⟨[],by show p.1.events=_;simp⟩
  ·exact doIt_app _ _
 ·split
  ·exact⟨[],by simp⟩
  ·split<;>exact⟨[],by simp⟩
theorem fold_app:∀ (ss:List P.Stm) (p:Mach × Nat),∃ L,(ss.foldl carry p).1.events=p.1.events++L
 | [],p=>⟨[],by simp⟩
 | s::ss,p=>by
  rw[List.foldl_cons]
  obtain⟨L,hL⟩:=fold_app ss (carry p s)
  obtain⟨M,hM⟩:=carry_app p s
  exact⟨M++L,by rw[hL,hM,List.append_assoc]⟩
theorem fold_grow:∀ (ss:List P.Stm) (p:Mach × Nat),(ss.foldl carry p).1.events.length≤p.1.events.length+2*ss.length
 | [],p=>by simp
 | s::ss,p=>by
  rw[List.foldl_cons]
  have h1:=fold_grow ss (carry p s)
  have h2:=carry_grow p s
  have h3:(s::ss).length=ss.length+1:=rfl
  omega
def NoCut (q:Nat) (es:List Ev):Prop:=¬ ((ev es q).kind=1∧(ev es q).step=true)
structure RunI (r r':Run):Prop where
 regs:r'.regs=r.regs
 evs:r'.events=r.events∨∃ q F,F.kind=2∧EsI q F r.events r'.events∧NoCut q r.events
theorem put_mi {m:Mach} (h:MInv m) (F:Ev):MI m.events.length F m (m.put F) where
 thread:=rfl
 block:=rfl
 unread:=rfl
 regs:=rfl
 bars:=rfl
 evs:=⟨Nat.le_refl _,by show (m.events++[F]).length=_;simp,by show ev (m.events++[F]) _=F;rw[ev_append,if_neg (by omega),Nat.sub_self];rfl,fun i hi=>by
  rw[fF_lt hi]
  show EvI _ _ (ev (m.events++[F]) i)
  rw[ev_append,if_pos hi]
  refine⟨rfl,rfl,rfl,rfl,rfl,rfl,rfl,rfl,rfl,subF_hb ?_⟩
  rw[ev_in _ _ hi]
  exact (h.evs _ (List.getElem_mem hi)).hb⟩
 mlen:=rfl
 made j:=subF_hb (h.mb j)
 asked:=subF_hb h.ab
structure FenT (t t':P.Thr):Prop where
 block:t'.block=t.block
 sts:∃ A B A' B' f,t.stmts=A++B∧t'.stmts=A'++f::B'∧StsE A A'∧StsE B B'∧IsFence f
theorem fen_run {t t':P.Thr} (h:FenT t t') (hv:∀ s∈t.stmts,StV s) (hl:t.stmts.length≤16) (i c:Nat):RunI (runAt t i c).run (runAt t' i c).run∧(runAt t' i c).unread=(runAt t i c).unread:=by
 obtain⟨A,B,A',B',f,e1,e2,hA,hB,hf⟩:=h.sts
 unfold runAt zJr
 rw[h.block,e1,e2,List.foldl_append,List.foldl_append,List.foldl_cons,fold_line A A' _ hA,fold_line B B' _ hB]
 have hm:MInv (A.foldl carry (Mach.start i t.block c,0)).1:=minv_fold A (fun s hs=>hv s (by rw[e1];exact List.mem_append_left _ hs)) (minv_start _ _ _)
 have hg:=fold_grow A (Mach.start i t.block c,0)
 have hal:A.length+B.length≤16:=by rw[e1,List.length_append] at hl;exact hl
 have hs0:(Mach.start i t.block c).events.length=0:=rfl
 generalize A.foldl carry (Mach.start i t.block c,0)=p at hm hg
 obtain⟨m,n⟩:=p
 by_cases hn:n=0
 ·subst hn
  have ec:carry (m,0) f=(m.put (m.event 2 f),0):=by
   unfold carry
   rw[if_pos (show (((m,0):Mach × Nat).2==0)=true from rfl),hf.kind]
   show (m.doIt f,0)=_
   unfold Mach.doIt
   rw[hf.kind]
   rfl
  rw[ec]
  have hmi:=mi_fold B (p:=(m,0)) (p':=(m.put (m.event 2 f),0)) (put_mi hm _) rfl (by simp only at hg ⊢;omega)
  obtain⟨L,hL⟩:=fold_app B (m,0)
  have hfin:MInv (B.foldl carry (m,0)).1:=minv_fold B (fun s hs=>hv s (by rw[e1];exact List.mem_append_right _ hs)) hm
  refine⟨⟨hmi.regs,Or.inr ⟨m.events.length,m.event 2 f,rfl,hmi.evs,?_⟩⟩,hmi.unread⟩
  intro hc
  obtain⟨c1,c2,c3⟩:=hfin.sw _ hc.1 hc.2
  have c1':0<m.events.length:=c1
  have c4:m.events.length-1<m.events.length:=by omega
  rw[hL,ev_append,if_pos c4] at c2 c3
  have:=(hm.sr _ c2 c3).1
  rw[show m.events.length-1+1=m.events.length by omega,ev_out _ _ (Nat.le_refl _)] at this
  simp[Ev.zero] at this
 ·have ec:carry (m,n) f=(m,n):=by
   unfold carry
   rw[if_neg (by simpa using hn),hf.kind]
   rfl
  rw[ec]
  exact⟨⟨rfl,Or.inl rfl⟩,rfl⟩
theorem codesE (c:Nat):∀ {x y:List P.Stm},StsE x y→y.foldl (fun c st=>if P.reads st.kind then c*4 else c) c=x.foldl (fun c st=>if P.reads st.kind then c*4 else c) c:=by
 intro x
 induction x generalizing c with
 | nil=>intro y h;cases y with
  | nil=>rfl
  | cons b y=>exact absurd h (by simp[StsE])
 | cons a x ih=>intro y h;cases y with
  | nil=>exact absurd h (by simp[StsE])
  | cons b y =>
   rw[List.foldl_cons,List.foldl_cons,show b.kind=a.kind by rw[h.1.eq]]
   exact ih _ h.2
theorem fen_list {t t':P.Thr} (h:FenT t t') (hv:∀ s∈t.stmts,StV s) (hl:t.stmts.length≤16) (i:Nat):∃ L:List Nat,zJF t i=L.map (fun c=>(runAt t i c).run)∧zJF t' i=L.map (fun c=>(runAt t' i c).run):=by
 refine⟨(List.range (codes t.stmts)).filter fun c=>(runAt t i c).unread==0,rfl,?_⟩
 unfold zJF zIO
 have e:codes t'.stmts=codes t.stmts:=by
  obtain⟨A,B,A',B',f,e1,e2,hA,hB,hf⟩:=h.sts
  unfold codes
  rw[e1,e2,List.foldl_append,List.foldl_append,List.foldl_cons,codesE 1 hA,show P.reads f.kind=false by rw[hf.kind];rfl]
  simp only[Bool.false_eq_true,if_false]
  exact codesE _ hB
 have e2:(fun c=>(runAt t' i c).unread==0)=(fun c=>(runAt t i c).unread==0):=funext fun c=>by rw[(fen_run h hv hl i c).2]
 rw[e,e2]
structure ThE (t t':P.Thr):Prop where
 block:t'.block=t.block
 sts:StsE t.stmts t'.stmts
theorem runsE {t t':P.Thr} (h:ThE t t') (i:Nat):zJF t' i=zJF t i:=by
 have hr:∀ c,runAt t' i c=runAt t i c:=fun c=>by
  unfold runAt zJr
  rw[h.block,fold_line _ _ _ h.sts]
 unfold zJF zIO
 have e:codes t'.stmts=codes t.stmts:=codesE 1 h.sts
 rw[e]
 simp only[hr]
def ThsE:List P.Thr→List P.Thr→Prop
 | [],[]=>True
 | a::x,b::y=>ThE a b∧ThsE x y
 | _,_=>False
theorem runsFromE:∀ {x y:List P.Thr} (i:Nat),ThsE x y→runsFrom i y=runsFrom i x
 | [],[],_,_=>rfl
 | a::x,b::y,i,h=>by rw[runsFrom,runsFrom,runsE h.1,runsFromE (i+1) h.2]
 | [],b::y,_,h=>by simp[ThsE] at h
 | a::x,[],_,h=>by simp[ThsE] at h
def FenTs:List P.Thr→List P.Thr→Prop
 | a::x,b::y=>(FenT a b∧ThsE x y)∨(ThE a b∧FenTs x y)
 | _,_=>False
structure WdI (W W':Wd):Prop where
 regs:W'.regs=W.regs
 evs:W'.events=W.events∨∃ q F,F.kind=2∧EsI q F W.events W'.events∧NoCut q W.events
theorem subF_moved {q n s:Nat} (hq:q≤n) {r:Nat} (hb:HB r s) (hn:n+r+1≤64):SubF q (moved s (n:Int)) (moved s ((n+1:Nat):Int)):=fun k hk=>by
 by_cases hn1:n<64
 ·obtain⟨k64,hnk,hs⟩:=(hasS_moved s n k hn1).1 hk
  have:=hb _ hs
  rw[fF_ge (by omega)]
  exact (hasS_moved s (n+1) (k+1) (by omega)).2 ⟨by omega,by omega,by rw[show k+1-(n+1)=k-n by omega];exact hs⟩
 ·have:moved s (n:Int)=0:=by unfold moved;rw[if_pos (by omega)]
  rw[this,hasS_zero] at hk;cases hk
theorem subF_moved2 {q n s s':Nat} (h:SubF q s s') {r:Nat} (hb:HB r s) (hn:n+r+1≤64):SubF (n+q) (moved s (n:Int)) (moved s' (n:Int)):=fun k hk=>by
 by_cases hn1:n<64
 ·obtain⟨k64,hnk,hs⟩:=(hasS_moved s n k hn1).1 hk
  have h1:=hb _ hs
  have h2:=h _ hs
  have e:fF (n+q) k=fF q (k-n)+n:=by unfold fF;split<;>split<;>omega
  have h3:fF q (k-n)≤k-n+1:=by unfold fF;split<;>omega
  rw[e]
  exact (hasS_moved s' n _ hn1).2 ⟨by omega,by omega,by rw[Nat.add_sub_cancel];exact h2⟩
 ·have:moved s (n:Int)=0:=by unfold moved;rw[if_pos (by omega)]
  rw[this,hasS_zero] at hk;cases hk
theorem EvI.join {q P n n':Nat} {a b:Ev} (h:EvI q a b) (k:SubF P (moved a.hangs (n:Int)) (moved b.hangs (n':Int))):EvI P (zIZ n a) (zIZ n' b):=⟨h.kind,h.thread,h.block,h.var,h.value,h.order,h.scope,h.bars,h.step,k⟩
theorem evI_self {P n n':Nat} {a:Ev} (k:SubF P (moved a.hangs (n:Int)) (moved a.hangs (n':Int))):EvI P (zIZ n a) (zIZ n' a):=⟨rfl,rfl,rfl,rfl,rfl,rfl,rfl,rfl,rfl,k⟩
theorem WdI.join {W W':Wd} (h:WdI W W') {r:Run} {th:Int} (hr:RInv th r.events) (hn:(W.join r).events.length+1≤64):WdI (W.join r) (W'.join r):=by
 refine⟨by show W'.regs++_=W.regs++_;rw[h.regs],?_⟩
 have hl:(W.join r).events.length=W.events.length+r.events.length:=by simp[Wd.join]
 rcases h.evs with e | ⟨q,F,hF,hE,hc⟩
 ·left
  show W'.events++_=W.events++_
  rw[e]
 ·right
  have hq:=hE.ql
  refine⟨q,F,hF,⟨by omega,?_,?_,fun i hi=>?_⟩,?_⟩
  ·show (W'.events++_).length=_
   rw[List.length_append,List.length_map,hE.len,hl];omega
  ·show ev (W'.events++_) q=F
   rw[ev_append,if_pos (by rw[hE.len];omega)];exact hE.fence
  ·show EvI q (ev (W.events++_) i) (ev (W'.events++_) (fF q i))
   rw[ev_append,ev_append]
   by_cases c:i<W.events.length
   ·rw[if_pos c,if_pos (by have:=hE.len;unfold fF;split<;>omega)]
    exact hE.evs i c
   ·have hi2:i-W.events.length<r.events.length:=by omega
    rw[if_neg c,fF_ge (by omega),if_neg (by have:=hE.len;omega),ev_map,ev_map,if_pos hi2,hE.len,show i+1-(W.events.length+1)=i-W.events.length by omega,if_pos hi2]
    refine evI_self (subF_moved hq (r:=r.events.length) ?_ (by omega))
    rw[ev_in _ _ hi2]
    exact (hr.evs _ (List.getElem_mem hi2)).hb
  ·intro hc2
   have e:ev (W.join r).events q=ev (W.events++r.events.map (zIZ W.events.length)) q:=rfl
   rw[e,ev_append] at hc2
   by_cases c:q<W.events.length
   ·rw[if_pos c] at hc2;exact hc hc2
   ·rw[if_neg c,show q-W.events.length=0 by omega,ev_map] at hc2
    by_cases c3:0<r.events.length
    ·rw[if_pos c3] at hc2
     exact absurd (hr.sw 0 hc2.1 hc2.2).1 (by omega)
    ·rw[if_neg c3] at hc2;simp[Ev.zero] at hc2
theorem WdI.fence {W:Wd} (hw:WInv W.events) {r r':Run} (h:RunI r r') {th:Int} (hr:RInv th r.events) (hn:(W.join r).events.length+1≤64):WdI (W.join r) (W.join r'):=by
 refine⟨by show W.regs++_=W.regs++_;rw[h.regs],?_⟩
 have hl:(W.join r).events.length=W.events.length+r.events.length:=by simp[Wd.join]
 rcases h.evs with e | ⟨q,F,hF,hE,hc⟩
 ·left
  show W.events++_=W.events++_
  rw[e]
 ·right
  have hq:=hE.ql
  refine⟨W.events.length+q,zIZ W.events.length F,hF,⟨by omega,?_,?_,fun i hi=>?_⟩,?_⟩
  ·show (W.events++_).length=_
   rw[List.length_append,List.length_map,hE.len,hl];omega
  ·show ev (W.events++_) _=_
   rw[ev_append,if_neg (by omega),Nat.add_sub_cancel_left,ev_map,if_pos (by rw[hE.len];omega),hE.fence]
  ·show EvI _ (ev (W.events++_) i) (ev (W.events++_) (fF _ i))
   rw[ev_append,ev_append]
   by_cases c:i<W.events.length
   ·rw[if_pos c,fF_lt (by omega),if_pos c]
    exact⟨rfl,rfl,rfl,rfl,rfl,rfl,rfl,rfl,rfl,subF_hb ((hw.hb i c).mono (by omega))⟩
   ·have hi2:i-W.events.length<r.events.length:=by omega
    have e1:fF (W.events.length+q) i=fF q (i-W.events.length)+W.events.length:=by unfold fF;split<;>split<;>omega
    have h3:fF q (i-W.events.length)<r'.events.length:=by rw[hE.len];unfold fF;split<;>omega
    rw[if_neg c,e1,if_neg (by omega),ev_map,ev_map,if_pos hi2,Nat.add_sub_cancel,if_pos h3]
    have hE2:=hE.evs _ hi2
    refine hE2.join (subF_moved2 hE2.hangs (r:=r.events.length) ?_ (by omega))
    rw[ev_in _ _ hi2]
    exact (hr.evs _ (List.getElem_mem hi2)).hb
  ·intro hc2
   have e:ev (W.join r).events (W.events.length+q)=ev (W.events++r.events.map (zIZ W.events.length)) (W.events.length+q):=rfl
   rw[e,ev_append,if_neg (by omega),Nat.add_sub_cancel_left,ev_map] at hc2
   by_cases c3:q<r.events.length
   ·rw[if_pos c3] at hc2;exact hc hc2
   ·rw[if_neg c3] at hc2;simp[Ev.zero] at hc2
theorem joinAll_grow:∀ (rss:List (List Run)) (ds:List Int) (W:Wd),W.events.length≤(zJW W rss ds).events.length
 | [],_,_=>Nat.le_refl _
 | _::_,[],_=>by simp[zJW]
 | rs::rss,d::ds,W=>by
  simp only[zJW]
  refine Nat.le_trans ?_ (joinAll_grow rss ds _)
  split
  ·show W.events.length≤(W.events++_).length
   rw[List.length_append];omega
  ·exact Nat.le_refl _
theorem joinAll_same:∀ (ts:List P.Thr) (i:Nat) (ds:List Int) {W W':Wd},KerV ts→WdI W W'→(zJW W (runsFrom i ts) ds).events.length+1≤64→WdI (zJW W (runsFrom i ts) ds) (zJW W' (runsFrom i ts) ds)
 | [],_,_,_,_,_,h,_=>h
 | t::ts,i,[],W,W',_,h,_=>by simpa [runsFrom,zJW] using h
 | t::ts,i,d::ds,W,W',hv,h,hn=>by
  simp only[runsFrom,zJW] at hn ⊢
  have hg:=joinAll_grow (runsFrom (i+1) ts) ds (if h:d.toNat<(zJF t i).length then W.join (zJF t i)[d.toNat] else W)
  refine joinAll_same ts (i+1) ds (fun u hu=>hv u (List.mem_cons_of_mem _ hu)) ?_ hn
  split
  ·rename_i hd
   rw[dif_pos hd] at hg hn
   exact h.join (run_rinv (hv t (by simp)) (List.getElem_mem hd)) (by omega)
  ·exact h
theorem joinAll_fen:∀ (ts ts':List P.Thr) (i:Nat) (ds:List Int) {W:Wd},KerV ts→(∀ t∈ts,t.stmts.length≤16)→WInv W.events→FenTs ts ts'→(zJW W (runsFrom i ts) ds).events.length+1≤64→WdI (zJW W (runsFrom i ts) ds) (zJW W (runsFrom i ts') ds)
 | [],_,_,_,_,_,_,_,h,_=>by simp[FenTs] at h
 | t::ts,[],_,_,_,_,_,_,h,_=>by simp[FenTs] at h
 | t::ts,t'::ts',i,[],W,_,_,_,_,_=>by simp[runsFrom,zJW];exact⟨rfl,Or.inl rfl⟩
 | t::ts,t'::ts',i,d::ds,W,hv,hl,hw,h,hn=>by
  simp only[runsFrom,zJW] at hn ⊢
  have hg:=joinAll_grow (runsFrom (i+1) ts) ds (if h:d.toNat<(zJF t i).length then W.join (zJF t i)[d.toNat] else W)
  rcases h with ⟨h1,h2⟩ | ⟨h1,h2⟩
  ·rw[runsFromE (i+1) h2]
   refine joinAll_same ts (i+1) ds (fun u hu=>hv u (List.mem_cons_of_mem _ hu)) ?_ hn
   obtain⟨L,e1,e2⟩:=fen_list h1 (hv t (by simp)) (hl t (by simp)) i
   have hlen:(zJF t' i).length=(zJF t i).length:=by rw[e1,e2];simp
   by_cases c:d.toNat<(zJF t i).length
   ·rw[dif_pos c,dif_pos (by rw[hlen];exact c)]
    rw[dif_pos c] at hg hn
    have hri:=run_rinv (hv t (by simp)) (List.getElem_mem c)
    refine WdI.fence hw ?_ hri (by omega)
    have cL:d.toNat<L.length:=by rw[e1] at c;simpa using c
    have g1:(zJF t i)[d.toNat]=(runAt t i L[d.toNat]).run:=by simp only[e1];rw[List.getElem_map]
    have g2:(zJF t' i)[d.toNat]'(by rw[hlen];exact c)=(runAt t' i L[d.toNat]).run:=by simp only[e2];rw[List.getElem_map]
    rw[g1,g2]
    exact (fen_run h1 (hv t (by simp)) (hl t (by simp)) i _).1
   ·rw[dif_neg c,dif_neg (by rw[hlen];exact c)]
    exact⟨rfl,Or.inl rfl⟩
  ·rw[runsE h1]
   refine joinAll_fen ts ts' (i+1) ds (fun u hu=>hv u (List.mem_cons_of_mem _ hu)) (fun u hu=>hl u (List.mem_cons_of_mem _ hu)) ?_ h2 hn
   split
   ·rename_i hd
    exact hw.join (by omega) (run_rinv (hv t (by simp)) (List.getElem_mem hd))
   ·exact hw
theorem lens_fen:∀ (ts ts':List P.Thr) (i:Nat),KerV ts→(∀ t∈ts,t.stmts.length≤16)→FenTs ts ts'→zAT (runsFrom i ts')=zAT (runsFrom i ts)
 | [],_,_,_,_,h=>by simp[FenTs] at h
 | t::ts,[],_,_,_,h=>by simp[FenTs] at h
 | t::ts,t'::ts',i,hv,hl,h=>by
  unfold zAT
  simp only[runsFrom,List.map_cons]
  rcases h with ⟨h1,h2⟩ | ⟨h1,h2⟩
  ·obtain⟨L,e1,e2⟩:=fen_list h1 (hv t (by simp)) (hl t (by simp)) i
   rw[runsFromE (i+1) h2,e1,e2];simp
  ·have ih:=lens_fen ts ts' (i+1) (fun u hu=>hv u (List.mem_cons_of_mem _ hu)) (fun u hu=>hl u (List.mem_cons_of_mem _ hu)) h2
   unfold zAT at ih
   rw[runsE h1,ih]
theorem wdI_whom {W W':Wd} (h:WdI W W') (hw:WInv W.events):∃ f,WHom (fun v=>v) f W.events W'.events:=by
 rcases h.evs with e | ⟨q,F,hF,hE,hc⟩
 ·refine⟨fun i=>i,?_⟩
  rw[e]
  exact⟨ehom_r (EsR.refl _),fun k hk _=>⟨k,hk,rfl⟩,fun i _ _ _=>rfl,fun i _ _=>rfl⟩
 ·have hlt:∀ i k,i<k→fF q i<fF q k:=fun i k h=>by unfold fF;split<;>split<;>omega
  have hq:=hE.ql
  have hl:=hE.len
  refine⟨fF q,⟨⟨fun i hi=>by unfold fF;split<;>omega,fun i k _ _ e=>?_,fun i hi=>?_,fun i hi=>by rw[(hE.evs i hi).thread],fun i k hi hk=>by rw[(hE.evs i hi).thread,(hE.evs k hk).thread],fun i k hi hk _ _=>by rw[(hE.evs i hi).var,(hE.evs k hk).var],fun i k _ _ _ _ h=>hlt i k h,fun i k hi k1 s1 e=>?_,fun i k hi hk hb=>(hE.evs i hi).hangs k hb⟩,fun k hk ha=>?_,fun i hi k0 s0=>?_,fun i hi _=>(hE.evs i hi).var⟩⟩
  ·by_cases c:i<k
   ·have:=hlt i k c;omega
   ·by_cases c2:k<i
    ·have:=hlt k i c2;omega
    ·omega
  ·have a:=hE.evs i hi
   exact⟨a.kind,a.block,a.value,a.step,a.bars,by rw[a.order];exact id,by rw[a.order];exact id,by rw[a.order];exact id,by rw[a.order];exact fun _ h=>h,by rw[a.scope];exact id⟩
  ·have hne:i≠q:=fun e2=>hc (by rw[← e2];exact⟨k1,s1⟩)
   unfold fF
   split<;>split<;>omega
  ·by_cases c:k<q
   ·exact⟨k,by omega,fF_lt c⟩
   ·have hne:k≠q:=fun e2=>by
     rw[e2,hE.fence] at ha
     unfold zIS at ha
     rw[hF] at ha
     simp at ha
    exact⟨k-1,by omega,by rw[fF_ge (by omega)];omega⟩
  ·have hne:i+1≠q:=fun e2=>hc (by rw[← e2];exact hw.sr i k0 s0)
   unfold fF
   split<;>split<;>omega
theorem source_fen {ts ts':List P.Thr} (h:FenTs ts ts') (hV:KerV ts) (hV':KerV ts') (hl:∀ t∈ts,t.stmts.length≤16) (hn:∀ d∈zIw (zAT (runs ts)),(zIe (runs ts) d).events.length+1≤64) (hn':∀ d∈zIw (zAT (runs ts')),(zIe (runs ts') d).events.length≤64) :
  (∀ r∈(zIx ts').rows,r∈(zIx ts).rows)∧((zIx ts').clash=true→(zIx ts).clash=true):=by
 have hls:zAT (runs ts')=zAT (runs ts):=lens_fen ts ts' 0 hV hl h
 obtain⟨h1,h2⟩:=source_pull hV hV' (fun d hd=>by have:=hn d hd;omega) hn' (fun v=>v) (fun g g'=>g'=g) (fun d' hd'=>by
  rw[hls] at hd'
  have hwd:WdI (zIe (runs ts) d') (zIe (runs ts') d'):=joinAll_fen ts ts' 0 d' hV hl winv_first h (hn d' hd')
  obtain⟨f,hf⟩:=wdI_whom hwd (world_inv hV d')
  exact⟨d',hd',f,hf,hwd.regs⟩)
 refine⟨fun r hr=>?_,h2⟩
 obtain⟨g,g',x,hg,e,hm⟩:=h1 r hr
 rw[e,hg]
 exact hm
end Q
end Go.Proofs.YtkmebkbpfmoeaaaGreat
