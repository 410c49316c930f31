import Derived.Test.YtkmebkbpfmoeaaaGreatH41
set_option linter.unusedVariables false
set_option linter.unusedSimpArgs false
set_option maxHeartbeats 12800000
namespace Go.Proofs.YtkmebkbpfmoeaaaGreat
namespace Q
structure WInv (es:List Ev):Prop where
 len:3≤es.length
 fst:∀ i:Nat,i<3→ev es i=zIF (i:Int)
 rest:∀ i,3≤i→i<es.length→(ev es i).thread≠-1
 var:∀ i,i<es.length→zIY (ev es i)=true→0≤(ev es i).var∧(ev es i).var<3
 hb:∀ i,i<es.length→HB es.length (ev es i).hangs
 hl:∀ i,i<es.length→∀ k:Nat,hasS (ev es i).hangs (k:Int)=true→3≤k
 sr:SR es
 sw:SW es
theorem winv_first:WInv zIR where
 len:=by decide
 fst i h:=by
  match i,h with
  | 0,_=>rfl
  | 1,_=>rfl
  | 2,_=>rfl
  | n+3,h=>omega
 rest i h k:=by simp[zIR] at k;omega
 var i h _:=by
  match i,h with
  | 0,_=>decide
  | 1,_=>decide
  | 2,_=>decide
  | n+3,h=>simp[zIR] at h;omega
 hb i h:=by
  match i,h with
  | 0,_=>exact hb_zero _
  | 1,_=>exact hb_zero _
  | 2,_=>exact hb_zero _
  | n+3,h=>simp[zIR] at h;omega
 sr i _ s:=by
  match i,s with
  | 0,s=>simp[zIR,ev,zIF] at s
  | 1,s=>simp[zIR,ev,zIF] at s
  | 2,s=>simp[zIR,ev,zIF] at s
  | n+3,s=>rw[ev_out _ _ (by simp[zIR])] at s;simp[Ev.zero] at s
 hl i h k hk:=by
  match i,h with
  | 0,_=>rw[show (ev zIR 0).hangs=0 from rfl,hasS_zero] at hk;cases hk
  | 1,_=>rw[show (ev zIR 1).hangs=0 from rfl,hasS_zero] at hk;cases hk
  | 2,_=>rw[show (ev zIR 2).hangs=0 from rfl,hasS_zero] at hk;cases hk
  | n+3,h=>simp[zIR] at h;omega
 sw i _ s:=by
  match i,s with
  | 0,s=>simp[zIR,ev,zIF] at s
  | 1,s=>simp[zIR,ev,zIF] at s
  | 2,s=>simp[zIR,ev,zIF] at s
  | n+3,s=>rw[ev_out _ _ (by simp[zIR])] at s;simp[Ev.zero] at s
theorem hb_moved {n m s:Nat} (h:HB m s):HB (n+m) (moved s (n:Int)):=fun k hk=>by
 by_cases hn:n<64
 ·obtain⟨_,h2,h3⟩:=(hasS_moved s n k hn).1 hk
  have:=h _ h3
  omega
 ·have:moved s (n:Int)=0:=by unfold moved;rw[if_pos (by omega)]
  rw[this,hasS_zero] at hk;cases hk
theorem sr_join {es:List Ev} (n:Nat) (h:SR es):SR (es.map (zJh n)):=fun i k0 s0=>by
 rw[ev_map] at k0 s0 ⊢
 by_cases c:i<es.length
 ·rw[if_pos c] at k0 s0
  obtain⟨a,b⟩:=h i k0 s0
  have:i+1<es.length:=by
   by_cases c2:i+1<es.length
   ·exact c2
   ·rw[ev_out _ _ (by omega)] at a;simp[Ev.zero] at a
  rw[if_pos this];exact⟨a,b⟩
 ·rw[if_neg c] at s0;simp[Ev.zero] at s0
theorem sw_join {es:List Ev} (n:Nat) (h:SW es):SW (es.map (zJh n)):=fun i k0 s0=>by
 rw[ev_map] at k0 s0
 by_cases c:i<es.length
 ·rw[if_pos c] at k0 s0
  obtain⟨a,b⟩:=h i k0 s0
  rw[ev_map,if_pos (by omega)];exact⟨a,b⟩
 ·rw[if_neg c] at s0;simp[Ev.zero] at s0
structure RInv (th:Int) (es:List Ev):Prop where
 evs:∀ e∈es,EvIn es.length th e
 sr:SR es
 sw:SW es
theorem WInv.join {W:Wd} (h:WInv W.events) {r:Run} {th:Int} (ht:th≠-1) (hr:RInv th r.events):WInv (W.join r).events where
 len:=by
  show 3≤(W.events++_).length
  have:=h.len
  rw[List.length_append];omega
 fst i hi:=by
  show ev (W.events++_) i=_
  rw[ev_append,if_pos (by have:=h.len;omega)];exact h.fst i hi
 rest i hi hk:=by
  show (ev (W.events++_) i).thread≠-1
  have hk2:i<W.events.length+r.events.length:=by simpa [Wd.join] using hk
  rw[ev_append]
  by_cases c:i<W.events.length
  ·rw[if_pos c];exact h.rest i hi c
  ·rw[if_neg c,ev_map,if_pos (by omega)]
   have hl:i-W.events.length<r.events.length:=by omega
   have:=(hr.evs _ (List.getElem_mem hl)).thr
   rw[ev_in _ _ hl]
   show (r.events[i-W.events.length]).thread≠-1
   rw[this];exact ht
 var i hk ha:=by
  have hk2:i<W.events.length+r.events.length:=by simpa [Wd.join] using hk
  have e:ev (W.join r).events i=if i<W.events.length then ev W.events i else ev (r.events.map (zJh W.events.length)) (i-W.events.length):=ev_append _ _ _
  rw[e] at ha ⊢
  by_cases c:i<W.events.length
  ·rw[if_pos c] at ha ⊢;exact h.var i c ha
  ·rw[if_neg c,ev_map,if_pos (by omega)] at ha ⊢
   have hl:i-W.events.length<r.events.length:=by omega
   rw[ev_in _ _ hl] at ha ⊢
   exact (hr.evs _ (List.getElem_mem hl)).var ha
 hb i hk:=by
  have hk2:i<W.events.length+r.events.length:=by simpa [Wd.join] using hk
  have e:ev (W.join r).events i=if i<W.events.length then ev W.events i else ev (r.events.map (zJh W.events.length)) (i-W.events.length):=ev_append _ _ _
  have hl:(W.join r).events.length=W.events.length+r.events.length:=by simp[Wd.join]
  rw[e,hl]
  by_cases c:i<W.events.length
  ·rw[if_pos c];exact (h.hb i c).mono (by omega)
  ·rw[if_neg c,ev_map,if_pos (by omega)]
   have hl:i-W.events.length<r.events.length:=by omega
   rw[ev_in _ _ hl]
   exact hb_moved (hr.evs _ (List.getElem_mem hl)).hb
 sr:=sr_app h.sr (sr_join _ hr.sr)
 sw:=sw_app h.sw (sw_join _ hr.sw)
 hl i hk k hb:=by
  have hk2:i<W.events.length+r.events.length:=by simpa [Wd.join] using hk
  have e:ev (W.join r).events i=if i<W.events.length then ev W.events i else ev (r.events.map (zJh W.events.length)) (i-W.events.length):=ev_append _ _ _
  rw[e] at hb
  by_cases c:i<W.events.length
  ·rw[if_pos c] at hb;exact h.hl i c k hb
  ·rw[if_neg c,ev_map,if_pos (by omega)] at hb
   have h3:=h.len
   have hb2:hasS (moved (ev r.events (i-W.events.length)).hangs (W.events.length:Int)) (k:Int)=true:=hb
   by_cases hn:W.events.length<64
   ·have:=((hasS_moved _ _ _ hn).1 hb2).2.1
    omega
   ·have z:moved (ev r.events (i-W.events.length)).hangs (W.events.length:Int)=0:=by unfold moved;rw[if_pos (by omega)]
    rw[z,hasS_zero] at hb2;cases hb2
theorem run_rinv {t:P.Thr} (h:∀ s∈t.stmts,StV s) {i:Nat} {r:Run} (hr:r∈zJS t i):RInv (i:Int) r.events:=by
 unfold zJS zIU at hr
 obtain⟨c,_,rfl⟩:=List.mem_map.1 hr
 have hm:=minv_run h i c
 have ht:(runAt t i c).thread=(i:Int):=by
  unfold runAt zJB
  have:∀ (ss:List P.Stm) (p:Mach × Nat),(ss.foldl carry p).1.thread=p.1.thread:=fun ss=>by
   induction ss with
   | nil=>intro p;rfl
   | cons s ss ih =>
    intro p
    rw[List.foldl_cons,ih]
    unfold carry
    split
    ·split
     ·rfl
     ·unfold Mach.doIt Mach.giveRead Mach.give Mach.step Mach.giveRead Mach.give
      repeat' split
      all_goals rfl
    ·split
     ·rfl
     ·split<;>rfl
  exact this _ _
 exact⟨fun e he=>by have:=hm.evs e he;rw[ht] at this;exact this,hm.sr,hm.sw⟩
def KerV (ts:List P.Thr):Prop:=∀ t∈ts,∀ s∈t.stmts,StV s
theorem joinAll_winv:∀ (ts:List P.Thr) (i:Nat) (W:Wd) (ds:List Int),KerV ts→WInv W.events→WInv (zKn W (runsFrom i ts) ds).events
 | [],_,_,_,_,h=>h
 | t::ts,i,W,[],_,h=>by simpa [runsFrom,zKn] using h
 | t::ts,i,W,d::ds,hv,h=>by
  simp only[runsFrom,zKn]
  refine joinAll_winv ts (i+1) _ ds (fun u hu=>hv u (List.mem_cons_of_mem _ hu)) ?_
  split
  ·rename_i hd
   exact h.join (by omega) (run_rinv (hv t (by simp)) (List.getElem_mem hd))
  ·exact h
theorem world_inv {ts:List P.Thr} (h:KerV ts) (d:List Int):WInv (zIl (runs ts) d).events:=joinAll_winv ts 0 _ d h winv_first
theorem WInv.varOk {es:List Ev} (h:WInv es):VarOk es:=fun i hi k=>by have:=(h.var i hi (acc_w k)).1;omega
theorem WInv.firstOk {es:List Ev} (h:WInv es):FirstOk es:=fun i k hi hk ne _ _ hv ht=>by
 have k3:k<3:=by
  by_cases c:k<3
  ·exact c
  ·exact absurd ht (h.rest k (by omega) hk)
 by_cases c:i<3
 ·have e1:=h.fst i c
  have e2:=h.fst k k3
  rw[e1,e2] at hv
  simp[zIF] at hv
  omega
 ·exact⟨by omega,h.rest i (by omega) hi⟩
theorem source_pull {ts ts':List P.Thr} (hV:KerV ts) (hV':KerV ts') (hn:∀ d∈zIE (zAT (runs ts)),(zIl (runs ts) d).events.length≤64) (hn':∀ d∈zIE (zAT (runs ts')),(zIl (runs ts') d).events.length≤64) (pi:Int→Int) (Rl:List Int→List Int→Prop)
  (hW:∀ d'∈zIE (zAT (runs ts')),∃ d∈zIE (zAT (runs ts)),∃ f,WHom pi f (zIl (runs ts) d).events (zIl (runs ts') d').events∧Rl (zIl (runs ts) d).regs (zIl (runs ts') d').regs) :
  (∀ r'∈(zIC ts').rows,∃ (g g':List Int) (x:Int→Int),Rl g g'∧r'=g'++[x 0,x 1,x 2]∧g++[x (pi 0),x (pi 1),x (pi 2)]∈(zIC ts).rows)∧((zIC ts').clash=true→(zIC ts).clash=true):=by
 have key:∀ c'∈cands ts',∀ ds'∈ordsOf c'.wd,srcMay c' ds'=true→∃ c∈cands ts,∃ ds∈ordsOf c.wd,srcMay c ds=true∧(c'.facts.clashes (c'.facts.before c'.reads)=true→c.facts.clashes (c.facts.before c.reads)=true)∧Rl c.wd.regs c'.wd.regs∧zJJ c.wd (placesAt c.wd ds)=c.wd.regs++[lastV c'.wd.events (pi 0) (placesAt c'.wd ds'),lastV c'.wd.events (pi 1) (placesAt c'.wd ds'),lastV c'.wd.events (pi 2) (placesAt c'.wd ds')]:=by
  intro c' hc' ds' hds' hm
  obtain⟨d',hd',rs',hrs',rfl,hh⟩:=cands_mem.1 hc'
  obtain⟨d,hd,f,hf,hreg⟩:=hW d' hd'
  have w1:=world_inv hV d
  have w2:=world_inv hV' d'
  obtain⟨rs,hrs,ds,hds,h1,h2,h3,h4⟩:=pull hf (hn d hd) (hn' d' hd') w1.varOk w2.varOk w1.firstOk w2.firstOk hrs' hds' hh hm
  refine⟨_,cands_mem.2 ⟨d,hd,rs,hrs,rfl,h1⟩,ds,hds,h2,h3,hreg,?_⟩
  have h5:∀ v:Nat,v<3→lastV (zIl (runs ts') d').events (pi (v:Int)) (placesAt (zIl (runs ts') d') ds')=lastV (zIl (runs ts) d).events (v:Int) (placesAt (zIl (runs ts) d) ds):=fun v hv=>by
   have e:=w1.fst v hv
   have hl:=w1.len
   exact h4 (v:Int) v (by omega) (by rw[e];rfl) (by rw[e];rfl)
  have a0:=h5 0 (by omega)
  have a1:=h5 1 (by omega)
  have a2:=h5 2 (by omega)
  unfold zJJ
  simp only at a0 a1 a2 ⊢
  rw[show ((0:Nat):Int)=0 from rfl] at a0
  rw[show ((1:Nat):Int)=1 from rfl] at a1
  rw[show ((2:Nat):Int)=2 from rfl] at a2
  rw[a0,a1,a2]
 constructor
 ·intro r' hr'
  obtain⟨c',hc',ds',hds',hm,rfl⟩:=(source_rows ts' r').1 hr'
  obtain⟨c,hc,ds,hds,h1,_,h3,h4⟩:=key c' hc' ds' hds' hm
  refine⟨c.wd.regs,c'.wd.regs,fun v=>lastV c'.wd.events v (placesAt c'.wd ds'),h3,rfl,?_⟩
  exact (source_rows ts _).2 ⟨c,hc,ds,hds,h1,h4.symm⟩
 ·intro hcl
  obtain⟨c',hc',ds',hds',hm,hk⟩:=(source_clash ts').1 hcl
  obtain⟨c,hc,ds,hds,h1,h2,_⟩:=key c' hc' ds' hds' hm
  exact (source_clash ts).2 ⟨c,hc,ds,hds,h1,h2 hk⟩
end Q
namespace Q
def fF (q i:Nat):Nat:=if i<q then i else i+1
theorem fF_lt {q i:Nat} (h:i<q):fF q i=i:=by unfold fF;rw[if_pos h]
theorem fF_ge {q i:Nat} (h:q≤i):fF q i=i+1:=by unfold fF;rw[if_neg (by omega)]
def SubF (q s s':Nat):Prop:=∀ k:Nat,hasS s (k:Int)=true→hasS s' ((fF q k:Nat):Int)=true
theorem SubF.or {q a a' b b':Nat} (h:SubF q a a') (k:SubF q b b'):SubF q (a ||| b) (a' ||| b'):=fun j hj=>by
 rcases (hasS_or a b j).1 hj with e | e
 ·exact (hasS_or _ _ _).2 (Or.inl (h j e))
 ·exact (hasS_or _ _ _).2 (Or.inr (k j e))
theorem subF_zero (q s:Nat):SubF q 0 s:=fun k hk=>by rw[hasS_zero] at hk;cases hk
theorem subF_one {q n:Nat} (h:q≤n) (hn:n+1<64):SubF q (one (n:Int)) (one ((n+1:Nat):Int)):=fun k hk=>by
 obtain⟨_,rfl⟩:=(hasS_one n k).1 hk
 rw[fF_ge h]
 exact (hasS_one _ _).2 ⟨hn,rfl⟩
theorem subF_hb {q s:Nat} (h:HB q s):SubF q s s:=fun k hk=>by rw[fF_lt (h k hk)];exact hk
structure EvI (q:Nat) (a b:Ev):Prop where
 kind:b.kind=a.kind
 thread:b.thread=a.thread
 block:b.block=a.block
 var:b.var=a.var
 value:b.value=a.value
 order:b.order=a.order
 scope:b.scope=a.scope
 bars:b.bars=a.bars
 step:b.step=a.step
 hangs:SubF q a.hangs b.hangs
structure EsI (q:Nat) (F:Ev) (es es':List Ev):Prop where
 ql:q≤es.length
 len:es'.length=es.length+1
 fence:ev es' q=F
 evs:∀ i,i<es.length→EvI q (ev es i) (ev es' (fF q i))
theorem EsI.add {q:Nat} {F:Ev} {es es':List Ev} (h:EsI q F es es') {e e':Ev} (he:EvI q e e'):EsI q F (es++[e]) (es'++[e']) where
 ql:=by rw[List.length_append];have:=h.ql;omega
 len:=by rw[List.length_append,List.length_append,h.len];rfl
 fence:=by rw[ev_append,if_pos (by have:=h.ql;have:=h.len;omega)];exact h.fence
 evs i hi:=by
  have hi2:i<es.length+1:=by simpa using hi
  have hq:=h.ql
  have hl:=h.len
  rw[ev_append,ev_append]
  by_cases c:i<es.length
  ·rw[if_pos c,if_pos (by unfold fF;split<;>omega)]
   exact h.evs i c
  ·have e1:i=es.length:=by omega
   subst e1
   rw[if_neg c,fF_ge hq,if_neg (by omega),hl,Nat.sub_self,Nat.sub_self]
   exact he
structure MI (q:Nat) (F:Ev) (m m':Mach):Prop where
 thread:m'.thread=m.thread
 block:m'.block=m.block
 unread:m'.unread=m.unread
 regs:m'.regs=m.regs
 bars:m'.bars=m.bars
 evs:EsI q F m.events m'.events
 mlen:m'.made.length=m.made.length
 made:∀ j,SubF q (m.made.getD j 0) (m'.made.getD j 0)
 asked:SubF q m.asked m'.asked
section
variable {q:Nat} {F:Ev} {m m':Mach} {st:P.Stm}
theorem MI.value (h:MI q F m m') (o:P.Opd):m'.value o=m.value o:=by unfold Mach.value;rw[h.regs]
theorem MI.madeOf (h:MI q F m m') (o:P.Opd):SubF q (m.madeOf o) (m'.madeOf o):=by
 unfold Mach.madeOf
 split
 ·split
  ·exact subF_zero _ _
  ·exact h.made _
 ·exact subF_zero _ _
theorem MI.event (h:MI q F m m') (k:Int) (st:P.Stm):EvI q (m.event k st) (m'.event k st):=by
 refine⟨rfl,h.thread,h.block,rfl,rfl,rfl,rfl,?_,rfl,?_⟩
 ·show (if k==3||k==4 then (m'.bars:Int) else 0)=(if k==3||k==4 then (m.bars:Int) else 0)
  rw[h.bars]
 ·show SubF q (if k==0||k==1 then m.asked else 0) (if k==0||k==1 then m'.asked else 0)
  split
  ·exact h.asked
  ·exact subF_zero _ _
theorem EvI.val {a b:Ev} (h:EvI q a b) (v:Int):EvI q { a with value:=v } { b with value:=v }:=⟨h.kind,h.thread,h.block,h.var,rfl,h.order,h.scope,h.bars,h.step,h.hangs⟩
theorem EvI.hng {a b:Ev} (h:EvI q a b) {u u':Nat} (k:SubF q u u'):EvI q { a with hangs:=u } { b with hangs:=u' }:=⟨h.kind,h.thread,h.block,h.var,h.value,h.order,h.scope,h.bars,h.step,k⟩
theorem MI.read (h:MI q F m m') (st:P.Stm):MI q F (m.read st) (m'.read st) :=
 ⟨h.thread,h.block,by show m'.unread / 4=m.unread / 4;rw[h.unread],h.regs,h.bars,h.evs.add (by rw[h.unread];exact (h.event 0 st).val _),h.mlen,h.made,h.asked⟩
theorem MI.write (h:MI q F m m') (st:P.Stm) (v:Int) {u u':Nat} (k:SubF q u u'):MI q F (m.write st v u) (m'.write st v u') :=
 ⟨h.thread,h.block,h.unread,h.regs,h.bars,h.evs.add (((h.event 1 st).val v).hng (h.asked.or k)),h.mlen,h.made,h.asked⟩
theorem getD_setEq (l:List Nat) (i j x:Nat):(l.set i x).getD j 0=if i=j∧i<l.length then x else l.getD j 0:=by
 by_cases h:i=j
 ·subst h
  by_cases hl:i<l.length
  ·rw[if_pos ⟨rfl,hl⟩,List.getD_eq_getElem?_getD,List.getElem?_set_self hl];rfl
  ·rw[if_neg (fun c=>hl c.2),List.set_eq_of_length_le (by omega)]
 ·rw[if_neg (fun c=>h c.1),List.getD_eq_getElem?_getD,List.getElem?_set_ne h,List.getD_eq_getElem?_getD]
theorem MI.give (h:MI q F m m') (d v:Int) {u u':Nat} (k:SubF q u u'):MI q F (m.give d v u) (m'.give d v u'):=by
 unfold Mach.give
 split
 ·exact h
 ·refine⟨h.thread,h.block,h.unread,by show m'.regs.set _ _=m.regs.set _ _;rw[h.regs],h.bars,h.evs,by show (m'.made.set _ _).length=(m.made.set _ _).length;simp[h.mlen],fun j=>?_,h.asked⟩
  show SubF q ((m.made.set d.toNat u).getD j 0) ((m'.made.set d.toNat u').getD j 0)
  rw[getD_setEq,getD_setEq,h.mlen]
  split
  ·exact k
  ·exact h.made j
theorem MI.valueOf (h:MI q F m m') (i:Nat) (hi:i<m.events.length) (hq:q≤i):m'.valueOf (i+1)=m.valueOf i:=by
 have:=(h.evs.evs i hi).value
 rw[fF_ge hq] at this
 exact this
theorem MI.giveRead (h:MI q F m m') (d:Int) (i:Nat) (hi:i<m.events.length) (hq:q≤i) (hn:i+1<64):MI q F (m.giveRead d i) (m'.giveRead d (i+1)):=by
 unfold Mach.giveRead
 rw[h.valueOf i hi hq]
 exact h.give d _ (subF_one hq hn)
theorem MI.doIt (h:MI q F m m') (st:P.Stm) (hn:m.events.length+1<64):MI q F (m.doIt st) (m'.doIt st):=by
 have hq:=h.evs.ql
 unfold Mach.doIt
 rw[h.evs.len]
 have hrd:∀ st:P.Stm,(m.read st).events.length=m.events.length+1:=fun st=>by show (m.events++[_]).length=_;simp
 rcases kind_cases st.kind with e | e | e | e | e | e | ⟨e0,e1,e2,e3,e4,e5⟩
 ·rw[e]
  exact (h.read st).giveRead _ _ (by rw[hrd];omega) hq hn
 ·rw[e]
  show MI q F (m.store st) (m'.store st)
  unfold Mach.store
  rw[h.value]
  exact h.write st _ (h.madeOf _)
 ·rw[e]
  show MI q F (m.step st) (m'.step st)
  unfold Mach.step
  have hv:=(h.read st).valueOf m.events.length (by rw[hrd];omega) hq
  rw[e,h.evs.len,h.value,hv]
  refine MI.giveRead ?_ _ _ ?_ hq hn
  ·exact (h.read st).write st _ ((h.madeOf _).or (subF_one hq hn))
  ·show m.events.length<(((m.read st).events)++[_]).length
   rw[List.length_append,hrd];simp;omega
 ·rw[e]
  show MI q F (m.step st) (m'.step st)
  unfold Mach.step
  rw[e,h.evs.len,h.value]
  refine MI.giveRead ?_ _ _ ?_ hq hn
  ·exact (h.read st).write st _ (h.madeOf _)
  ·show m.events.length<(((m.read st).events)++[_]).length
   rw[List.length_append,hrd];simp;omega
 ·rw[e]
  exact⟨h.thread,h.block,h.unread,h.regs,h.bars,h.evs.add (h.event 2 st),h.mlen,h.made,h.asked⟩
 ·rw[e]
  refine⟨h.thread,h.block,h.unread,h.regs,by show m'.bars+1=m.bars+1;rw[h.bars],?_,h.mlen,h.made,h.asked⟩
  have:=(h.evs.add (h.event 3 st)).add (h.event 4 st)
  rw[List.append_assoc,List.append_assoc] at this
  exact this
 ·rw[e0,e1,e2,e3,e4,e5]
  simp only[Bool.false_eq_true,if_false,Bool.or_self]
  have hr:m'.result st=m.result st:=by unfold Mach.result;rw[h.value,h.value]
  split
  ·rw[hr];exact h.give _ _ ((h.madeOf _).or (h.madeOf _))
  ·exact h
theorem MI.carry {p p':Mach × Nat} (h:MI q F p.1 p'.1) (e:p'.2=p.2) (st:P.Stm) (hn:p.1.events.length+1<64):MI q F (carry p st).1 (carry p' st).1∧(carry p' st).2=(carry p st).2:=by
 unfold Q.carry
 rw[e,h.value]
 split
 ·split
  ·exact⟨⟨h.thread,h.block,h.unread,h.regs,h.bars,h.evs,h.mlen,h.made,h.asked.or (h.madeOf _)⟩,rfl⟩
  ·exact⟨h.doIt st hn,rfl⟩
 ·split
  ·exact⟨h,rfl⟩
  ·split
   ·exact⟨h,rfl⟩
   ·exact⟨h,e⟩
end
end Q
namespace Q
def NoCut (q:Nat) (es:List Ev):Prop:=¬ ((ev es q).kind=1∧(ev es q).step=true)
structure RunI (r r':Run):Prop where
 regs:r'.regs=r.regs
 evs:r'.events=r.events∨∃ q F,F.kind=2∧EsI q F r.events r'.events∧NoCut q r.events
structure WdI (W W':Wd):Prop where
 regs:W'.regs=W.regs
 evs:W'.events=W.events∨∃ q F,F.kind=2∧EsI q F W.events W'.events∧NoCut q W.events
theorem subF_moved {q n s:Nat} (hq:q≤n) {r:Nat} (hb:HB r s) (hn:n+r+1≤64):SubF q (moved s (n:Int)) (moved s ((n+1:Nat):Int)):=fun k hk=>by
 by_cases hn1:n<64
 ·obtain⟨k64,hnk,hs⟩:=(hasS_moved s n k hn1).1 hk
  have:=hb _ hs
  rw[fF_ge (by omega)]
  exact (hasS_moved s (n+1) (k+1) (by omega)).2 ⟨by omega,by omega,by rw[show k+1-(n+1)=k-n by omega];exact hs⟩
 ·have:moved s (n:Int)=0:=by unfold moved;rw[if_pos (by omega)]
  rw[this,hasS_zero] at hk;cases hk
theorem subF_moved2 {q n s s':Nat} (h:SubF q s s') {r:Nat} (hb:HB r s) (hn:n+r+1≤64):SubF (n+q) (moved s (n:Int)) (moved s' (n:Int)):=fun k hk=>by
 by_cases hn1:n<64
 ·obtain⟨k64,hnk,hs⟩:=(hasS_moved s n k hn1).1 hk
  have h1:=hb _ hs
  have h2:=h _ hs
  have e:fF (n+q) k=fF q (k-n)+n:=by unfold fF;split<;>split<;>omega
  have h3:fF q (k-n)≤k-n+1:=by unfold fF;split<;>omega
  rw[e]
  exact (hasS_moved s' n _ hn1).2 ⟨by omega,by omega,by rw[Nat.add_sub_cancel];exact h2⟩
 ·have:moved s (n:Int)=0:=by unfold moved;rw[if_pos (by omega)]
  rw[this,hasS_zero] at hk;cases hk
theorem EvI.join {q P n n':Nat} {a b:Ev} (h:EvI q a b) (k:SubF P (moved a.hangs (n:Int)) (moved b.hangs (n':Int))):EvI P (zJh n a) (zJh n' b):=⟨h.kind,h.thread,h.block,h.var,h.value,h.order,h.scope,h.bars,h.step,k⟩
theorem evI_self {P n n':Nat} {a:Ev} (k:SubF P (moved a.hangs (n:Int)) (moved a.hangs (n':Int))):EvI P (zJh n a) (zJh n' a):=⟨rfl,rfl,rfl,rfl,rfl,rfl,rfl,rfl,rfl,k⟩
theorem WdI.join {W W':Wd} (h:WdI W W') {r:Run} {th:Int} (hr:RInv th r.events) (hn:(W.join r).events.length+1≤64):WdI (W.join r) (W'.join r):=by
 refine⟨by show W'.regs++_=W.regs++_;rw[h.regs],?_⟩
 have hl:(W.join r).events.length=W.events.length+r.events.length:=by simp[Wd.join]
 rcases h.evs with e | ⟨q,F,hF,hE,hc⟩
 ·left
  show W'.events++_=W.events++_
  rw[e]
 ·right
  have hq:=hE.ql
  refine⟨q,F,hF,⟨by omega,?_,?_,fun i hi=>?_⟩,?_⟩
  ·show (W'.events++_).length=_
   rw[List.length_append,List.length_map,hE.len,hl];omega
  ·show ev (W'.events++_) q=F
   rw[ev_append,if_pos (by rw[hE.len];omega)];exact hE.fence
  ·show EvI q (ev (W.events++_) i) (ev (W'.events++_) (fF q i))
   rw[ev_append,ev_append]
   by_cases c:i<W.events.length
   ·rw[if_pos c,if_pos (by have:=hE.len;unfold fF;split<;>omega)]
    exact hE.evs i c
   ·have hi2:i-W.events.length<r.events.length:=by omega
    rw[if_neg c,fF_ge (by omega),if_neg (by have:=hE.len;omega),ev_map,ev_map,if_pos hi2,hE.len,show i+1-(W.events.length+1)=i-W.events.length by omega,if_pos hi2]
    refine evI_self (subF_moved hq (r:=r.events.length) ?_ (by omega))
    rw[ev_in _ _ hi2]
    exact (hr.evs _ (List.getElem_mem hi2)).hb
  ·intro hc2
   have e:ev (W.join r).events q=ev (W.events++r.events.map (zJh W.events.length)) q:=rfl
   rw[e,ev_append] at hc2
   by_cases c:q<W.events.length
   ·rw[if_pos c] at hc2;exact hc hc2
   ·rw[if_neg c,show q-W.events.length=0 by omega,ev_map] at hc2
    by_cases c3:0<r.events.length
    ·rw[if_pos c3] at hc2
     exact absurd (hr.sw 0 hc2.1 hc2.2).1 (by omega)
    ·rw[if_neg c3] at hc2;simp[Ev.zero] at hc2
theorem WdI.fence {W:Wd} (hw:WInv W.events) {r r':Run} (h:RunI r r') {th:Int} (hr:RInv th r.events) (hn:(W.join r).events.length+1≤64):WdI (W.join r) (W.join r'):=by
 refine⟨by show W.regs++_=W.regs++_;rw[h.regs],?_⟩
 have hl:(W.join r).events.length=W.events.length+r.events.length:=by simp[Wd.join]
 rcases h.evs with e | ⟨q,F,hF,hE,hc⟩
 ·left
  show W.events++_=W.events++_
  rw[e]
 ·right
  have hq:=hE.ql
  refine⟨W.events.length+q,zJh W.events.length F,hF,⟨by omega,?_,?_,fun i hi=>?_⟩,?_⟩
  ·show (W.events++_).length=_
   rw[List.length_append,List.length_map,hE.len,hl];omega
  ·show ev (W.events++_) _=_
   rw[ev_append,if_neg (by omega),Nat.add_sub_cancel_left,ev_map,if_pos (by rw[hE.len];omega),hE.fence]
  ·show EvI _ (ev (W.events++_) i) (ev (W.events++_) (fF _ i))
   rw[ev_append,ev_append]
   by_cases c:i<W.events.length
   ·rw[if_pos c,fF_lt (by omega),if_pos c]
    exact⟨rfl,rfl,rfl,rfl,rfl,rfl,rfl,rfl,rfl,subF_hb ((hw.hb i c).mono (by omega))⟩
   ·have hi2:i-W.events.length<r.events.length:=by omega
    have e1:fF (W.events.length+q) i=fF q (i-W.events.length)+W.events.length:=by unfold fF;split<;>split<;>omega
    have h3:fF q (i-W.events.length)<r'.events.length:=by rw[hE.len];unfold fF;split<;>omega
    rw[if_neg c,e1,if_neg (by omega),ev_map,ev_map,if_pos hi2,Nat.add_sub_cancel,if_pos h3]
    have hE2:=hE.evs _ hi2
    refine hE2.join (subF_moved2 hE2.hangs (r:=r.events.length) ?_ (by omega))
    rw[ev_in _ _ hi2]
    exact (hr.evs _ (List.getElem_mem hi2)).hb
  ·intro hc2
   have e:ev (W.join r).events (W.events.length+q)=ev (W.events++r.events.map (zJh W.events.length)) (W.events.length+q):=rfl
   rw[e,ev_append,if_neg (by omega),Nat.add_sub_cancel_left,ev_map] at hc2
   by_cases c3:q<r.events.length
   ·rw[if_pos c3] at hc2;exact hc hc2
   ·rw[if_neg c3] at hc2;simp[Ev.zero] at hc2
end Q
namespace P
theorem runLines_app:∀ (xs ys:List (List UInt8)) (r r1:Rd),zJZ r xs=(r1,true)→zJZ r (xs++ys)=zJZ r1 ys
 | [],ys,r,r1,h=>by simp[zJZ] at h;rw[h];rfl
 | x::xs,ys,r,r1,h=>by
  simp only[zJZ] at h
  rw[List.cons_append]
  simp only[zJZ]
  split at h
  ·rename_i ht
   rw[if_pos ht]
   exact runLines_app xs ys _ r1 h
  ·simp at h
theorem runLines_cut:∀ (xs ys:List (List UInt8)) (r r2:Rd),zJZ r (xs++ys)=(r2,true)→∃ r1,zJZ r xs=(r1,true)∧zJZ r1 ys=(r2,true)
 | [],ys,r,r2,h=>⟨r,rfl,h⟩
 | x::xs,ys,r,r2,h=>by
  rw[List.cons_append] at h
  simp only[zJZ] at h
  split at h
  ·rename_i ht
   obtain⟨r1,h1,h2⟩:=runLines_cut xs ys _ r2 h
   refine⟨r1,?_,h2⟩
   simp only[zJZ]
   rw[if_pos ht]
   exact h1
  ·simp at h
structure LP (r:Rd):Prop where
 line:0≤r.line
 thr:∀ t∈r.threads,0<t.line
 st:∀ t∈r.threads,∀ s∈t.stmts,0<s.line
theorem putLast_lp {s:Stm} (hs:0<s.line):∀ {x:List Thr},(∀ t∈x,0<t.line)→(∀ t∈x,∀ s∈t.stmts,0<s.line)→(∀ t∈putLast x s,0<t.line)∧∀ t∈putLast x s,∀ u∈t.stmts,0<u.line
 | [],_,_=>⟨fun t ht=>by simp[putLast] at ht,fun t ht=>by simp[putLast] at ht⟩
 | [a],h1,h2=>by
  refine⟨fun t ht=>?_,fun t ht u hu=>?_⟩
  ·simp[putLast] at ht;rw[ht];exact h1 a (by simp)
  ·simp[putLast] at ht;rw[ht] at hu
   rcases List.mem_append.1 hu with hu | hu
   ·exact h2 a (by simp) u hu
   ·rw[List.mem_singleton] at hu;rw[hu];exact hs
 | a::b::x,h1,h2=>by
  obtain⟨k1,k2⟩:=putLast_lp hs (x:=b::x) (fun t ht=>h1 t (List.mem_cons_of_mem _ ht)) (fun t ht=>h2 t (List.mem_cons_of_mem _ ht))
  refine⟨fun t ht=>?_,fun t ht u hu=>?_⟩
  ·rcases List.mem_cons.1 ht with rfl | ht
   ·exact h1 t (by simp)
   ·exact k1 t ht
  ·rcases List.mem_cons.1 ht with rfl | ht
   ·exact h2 t (by simp) u hu
   ·exact k2 t ht u hu
theorem takes_lp {r r1:Rd} {ws:List (List UInt8)} (hm:r.most=8) (hl:0<r.line) (hr:LP r) (h:takes r ws=(r1,true)):LP r1∧r1.line=r.line∧r1.most=8∧(r1.threads≠[]):=by
 have hk:=zJR r ws hm
 rw[h] at hk
 have hput:∀ (o:List Int) (i c:Int) (s:Stm),0<s.line→r.threads≠[]→LP (put { r with opn:=o,ifs:=i,count:=c } s)∧(put { r with opn:=o,ifs:=i,count:=c } s).threads≠[]:=fun o i c s hs hne=>by
  obtain⟨k1,k2⟩:=putLast_lp hs hr.thr hr.st
  refine⟨⟨hr.line,k1,k2⟩,fun e=>hne ?_⟩
  have:=putLast_length r.threads s
  have e2:putLast r.threads s=[]:=e
  rw[e2] at this
  exact List.eq_nil_of_length_eq_zero this.symm
 rcases takes_true hm h with ⟨c,rfl,hd,h1⟩ | ⟨st,hs,h1,c,q,rfl,hc⟩
 ·unfold beginD at h1
  split at h1
  ·simp at h1
  ·simp only[Prod.mk.injEq,and_true] at h1
   rw[← h1]
   refine⟨⟨hr.line,fun t ht=>?_,fun t ht u hu=>?_⟩,rfl,hm,by simp⟩
   ·rcases List.mem_append.1 ht with ht | ht
    ·exact hr.thr t ht
    ·rw[List.mem_singleton] at ht;rw[ht];exact hl
   ·rcases List.mem_append.1 ht with ht | ht
    ·exact hr.st t ht u hu
    ·rw[List.mem_singleton] at ht;rw[ht] at hu;simp at hu
 ·unfold putD at h1
  split at h1
  ·simp at h1
  ·rename_i h0
   have hne:r.threads≠[]:=by simpa using h0
   split at h1
   ·unfold ends at h1
    split at h1
    ·simp at h1
    ·rename_i l hl2
     simp only[Prod.mk.injEq,and_true] at h1
     rw[← h1]
     obtain⟨a,b⟩:=hput r.opn.dropLast r.ifs r.count { st with line:=r.line,label:=l } hl hne
     exact⟨a,rfl,hm,b⟩
   ·split at h1
    ·simp at h1
    ·split at h1
     ·split at h1
      ·simp at h1
      ·unfold branch at h1
       split at h1
       ·simp at h1
       ·simp only[Prod.mk.injEq,and_true] at h1
        rw[← h1]
        obtain⟨a,b⟩:=hput (r.opn++[r.ifs+1]) (r.ifs+1) (r.count+1) { st with line:=r.line,label:=r.ifs+1 } hl hne
        exact⟨a,rfl,hm,b⟩
     ·simp only[Prod.mk.injEq,and_true] at h1
      rw[← h1]
      obtain⟨a,b⟩:=hput r.opn r.ifs (r.count+1) { st with line:=r.line } hl hne
      exact⟨a,rfl,hm,b⟩
theorem runLines_lp:∀ (xs:List (List UInt8)) {r r1:Rd},r.most=8→LP r→zJZ r xs=(r1,true)→LP r1∧r1.most=8∧(xs≠[]→r1.threads≠[])
 | [],r,r1,hm,hr,h=>by
  simp[zJZ] at h
  subst h
  exact⟨hr,hm,fun c=>absurd rfl c⟩
 | x::xs,r,r1,hm,hr,h=>by
  simp only[zJZ] at h
  split at h
  ·rename_i ht
   have e:takes { r with line:=r.line+1 } (zIr 32 x)=((takes { r with line:=r.line+1 } (zIr 32 x)).1,true):=by rw[← ht]
   have h0:=hr.line
   obtain⟨k1,k2,k3,k4⟩:=takes_lp (r:={ r with line:=r.line+1 }) hm (by show 0<r.line+1;omega) ⟨by show 0≤r.line+1;omega,hr.thr,hr.st⟩ e
   obtain⟨j1,j2,j3⟩:=runLines_lp xs k3 k1 h
   refine⟨j1,j2,fun _=>?_⟩
   by_cases c:xs=[]
   ·subst c
    simp[zJZ] at h
    rw[← h];exact k4
   ·exact j3 c
  ·simp at h
theorem innerS_line {d:Int}:∀ {l:List Stm} {n:Int},(∀ s∈l,0<s.line)→zIH d l=some n→0<n:=by
 intro l
 induction l generalizing d with
 | nil=>intro n _ h;simp[zIH] at h
 | cons a l ih =>
  intro n hl h
  have hl2:∀ s∈l,0<s.line:=fun s hs=>hl s (List.mem_cons_of_mem _ hs)
  rw[zIH] at h
  split at h
  ·exact ih hl2 h
  ·split at h
   ·exact ih hl2 h
   ·split at h
    ·split at h
     ·rw[← Option.some.inj h];exact hl a (by simp)
     ·exact ih hl2 h
    ·exact ih hl2 h
theorem inner_all:∀ {ts:List Thr},(∀ t∈ts,∀ s∈t.stmts,0<s.line)→zIM ts=0→∀ t∈ts,(zIH 0 t.stmts).isNone=true
 | [],_,_,t,ht=>by simp at ht
 | a::ts,hl,h,t,ht=>by
  rw[zIM] at h
  cases hi:zIH 0 a.stmts with
  | some n =>
   rw[hi] at h
   have:=innerS_line (hl a (by simp)) hi
   simp only at h
   omega
  | none =>
   rw[hi] at h
   rcases List.mem_cons.1 ht with rfl | ht
   ·rw[hi];rfl
   ·exact inner_all (fun u hu=>hl u (List.mem_cons_of_mem _ hu)) h t ht
theorem inner_none:∀ {ts:List Thr},(∀ t∈ts,(zIH 0 t.stmts).isNone=true)→zIM ts=0
 | [],_=>rfl
 | a::ts,h=>by
  rw[zIM]
  have h1:=h a (by simp)
  cases hi:zIH 0 a.stmts with
  | some n=>rw[hi] at h1;simp at h1
  | none=>exact inner_none fun t ht=>h t (List.mem_cons_of_mem _ ht)
def unevB (all:List Thr) (t:Thr):Bool:=bars t.stmts != zIT t.block all||decide (2<bars t.stmts)
theorem uneven_all {all:List Thr}:∀ {ts:List Thr},(∀ t∈ts,0<t.line)→zIw all ts=0→∀ t∈ts,unevB all t=false
 | [],_,_,t,ht=>by simp at ht
 | a::ts,hl,h,t,ht=>by
  rw[zIw] at h
  have h1:=hl a (by simp)
  cases c:unevB all a
  ·have c2:(bars a.stmts != zIT a.block all||decide (2<bars a.stmts))=false:=c
   rw[c2] at h
   rcases List.mem_cons.1 ht with rfl | ht
   ·exact c
   ·exact uneven_all (fun u hu=>hl u (List.mem_cons_of_mem _ hu)) (by simpa using h) t ht
  ·have c2:(bars a.stmts != zIT a.block all||decide (2<bars a.stmts))=true:=c
   rw[c2] at h
   simp at h
   omega
theorem uneven_none {all:List Thr}:∀ {ts:List Thr},(∀ t∈ts,unevB all t=false)→zIw all ts=0
 | [],_=>rfl
 | a::ts,h=>by
  rw[zIw]
  have c2:(bars a.stmts != zIT a.block all||decide (2<bars a.stmts))=false:=h a (by simp)
  rw[c2]
  simpa using uneven_none fun t ht=>h t (List.mem_cons_of_mem _ ht)
end P
end Go.Proofs.YtkmebkbpfmoeaaaGreat
