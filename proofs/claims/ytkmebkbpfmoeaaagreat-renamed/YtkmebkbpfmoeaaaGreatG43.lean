import Derived.Test.YtkmebkbpfmoeaaaGreatG42
set_option linter.unusedVariables false
set_option linter.unusedSimpArgs false
set_option maxHeartbeats 12800000
namespace Go.Proofs.YtkmebkbpfmoeaaaGreat
namespace Q
structure WInv (es:List Ev):Prop where
 len:3≤es.length
 fst:∀ i:Nat,i<3→ev es i=zIz (i:Int)
 rest:∀ i,3≤i→i<es.length→(ev es i).thread≠-1
 var:∀ i,i<es.length→zIS (ev es i)=true→0≤(ev es i).var∧(ev es i).var<3
 hb:∀ i,i<es.length→HB es.length (ev es i).hangs
 hl:∀ i,i<es.length→∀ k:Nat,hasS (ev es i).hangs (k:Int)=true→3≤k
 sr:SR es
 sw:SW es
theorem winv_first:WInv zIK where
 len:=by decide
 fst i h:=by
  match i,h with
  | 0,_=>rfl
  | 1,_=>rfl
  | 2,_=>rfl
  | n+3,h=>omega
 rest i h k:=by simp[zIK] at k;omega
 var i h _:=by
  match i,h with
  | 0,_=>decide
  | 1,_=>decide
  | 2,_=>decide
  | n+3,h=>simp[zIK] at h;omega
 hb i h:=by
  match i,h with
  | 0,_=>exact hb_zero _
  | 1,_=>exact hb_zero _
  | 2,_=>exact hb_zero _
  | n+3,h=>simp[zIK] at h;omega
 sr i _ s:=by
  match i,s with
  | 0,s=>simp[zIK,ev,zIz] at s
  | 1,s=>simp[zIK,ev,zIz] at s
  | 2,s=>simp[zIK,ev,zIz] at s
  | n+3,s=>rw[ev_out _ _ (by simp[zIK])] at s;simp[Ev.zero] at s
 hl i h k hk:=by
  match i,h with
  | 0,_=>rw[show (ev zIK 0).hangs=0 from rfl,hasS_zero] at hk;cases hk
  | 1,_=>rw[show (ev zIK 1).hangs=0 from rfl,hasS_zero] at hk;cases hk
  | 2,_=>rw[show (ev zIK 2).hangs=0 from rfl,hasS_zero] at hk;cases hk
  | n+3,h=>simp[zIK] at h;omega
 sw i _ s:=by
  match i,s with
  | 0,s=>simp[zIK,ev,zIz] at s
  | 1,s=>simp[zIK,ev,zIz] at s
  | 2,s=>simp[zIK,ev,zIz] at s
  | n+3,s=>rw[ev_out _ _ (by simp[zIK])] at s;simp[Ev.zero] at s
theorem hb_moved {n m s:Nat} (h:HB m s):HB (n+m) (moved s (n:Int)):=fun k hk=>by
 by_cases hn:n<64
 ·obtain⟨_,h2,h3⟩:=(hasS_moved s n k hn).1 hk
  have:=h _ h3
  omega
 ·have:moved s (n:Int)=0:=by unfold moved;rw[if_pos (by omega)]
  rw[this,hasS_zero] at hk;cases hk
theorem sr_join {es:List Ev} (n:Nat) (h:SR es):SR (es.map (zJb n)):=fun i k0 s0=>by
 rw[ev_map] at k0 s0 ⊢
 by_cases c:i<es.length
 ·rw[if_pos c] at k0 s0
  obtain⟨a,b⟩:=h i k0 s0
  have:i+1<es.length:=by
   by_cases c2:i+1<es.length
   ·exact c2
   ·rw[ev_out _ _ (by omega)] at a;simp[Ev.zero] at a
  rw[if_pos this];exact⟨a,b⟩
 ·rw[if_neg c] at s0;simp[Ev.zero] at s0
theorem sw_join {es:List Ev} (n:Nat) (h:SW es):SW (es.map (zJb n)):=fun i k0 s0=>by
 rw[ev_map] at k0 s0
 by_cases c:i<es.length
 ·rw[if_pos c] at k0 s0
  obtain⟨a,b⟩:=h i k0 s0
  rw[ev_map,if_pos (by omega)];exact⟨a,b⟩
 ·rw[if_neg c] at s0;simp[Ev.zero] at s0
structure RInv (th:Int) (es:List Ev):Prop where
 evs:∀ e∈es,EvIn es.length th e
 sr:SR es
 sw:SW es
theorem WInv.join {W:Wd} (h:WInv W.events) {r:Run} {th:Int} (ht:th≠-1) (hr:RInv th r.events):WInv (W.join r).events where
 len:=by
  show 3≤(W.events++_).length
  have:=h.len
  rw[List.length_append];omega
 fst i hi:=by
  show ev (W.events++_) i=_
  rw[ev_append,if_pos (by have:=h.len;omega)];exact h.fst i hi
 rest i hi hk:=by
  show (ev (W.events++_) i).thread≠-1
  have hk2:i<W.events.length+r.events.length:=by simpa [Wd.join] using hk
  rw[ev_append]
  by_cases c:i<W.events.length
  ·rw[if_pos c];exact h.rest i hi c
  ·rw[if_neg c,ev_map,if_pos (by omega)]
   have hl:i-W.events.length<r.events.length:=by omega
   have:=(hr.evs _ (List.getElem_mem hl)).thr
   rw[ev_in _ _ hl]
   show (r.events[i-W.events.length]).thread≠-1
   rw[this];exact ht
 var i hk ha:=by
  have hk2:i<W.events.length+r.events.length:=by simpa [Wd.join] using hk
  have e:ev (W.join r).events i=if i<W.events.length then ev W.events i else ev (r.events.map (zJb W.events.length)) (i-W.events.length):=ev_append _ _ _
  rw[e] at ha ⊢
  by_cases c:i<W.events.length
  ·rw[if_pos c] at ha ⊢;exact h.var i c ha
  ·rw[if_neg c,ev_map,if_pos (by omega)] at ha ⊢
   have hl:i-W.events.length<r.events.length:=by omega
   rw[ev_in _ _ hl] at ha ⊢
   exact (hr.evs _ (List.getElem_mem hl)).var ha
 hb i hk:=by
  have hk2:i<W.events.length+r.events.length:=by simpa [Wd.join] using hk
  have e:ev (W.join r).events i=if i<W.events.length then ev W.events i else ev (r.events.map (zJb W.events.length)) (i-W.events.length):=ev_append _ _ _
  have hl:(W.join r).events.length=W.events.length+r.events.length:=by simp[Wd.join]
  rw[e,hl]
  by_cases c:i<W.events.length
  ·rw[if_pos c];exact (h.hb i c).mono (by omega)
  ·rw[if_neg c,ev_map,if_pos (by omega)]
   have hl:i-W.events.length<r.events.length:=by omega
   rw[ev_in _ _ hl]
   exact hb_moved (hr.evs _ (List.getElem_mem hl)).hb
 sr:=sr_app h.sr (sr_join _ hr.sr)
 sw:=sw_app h.sw (sw_join _ hr.sw)
 hl i hk k hb:=by
  have hk2:i<W.events.length+r.events.length:=by simpa [Wd.join] using hk
  have e:ev (W.join r).events i=if i<W.events.length then ev W.events i else ev (r.events.map (zJb W.events.length)) (i-W.events.length):=ev_append _ _ _
  rw[e] at hb
  by_cases c:i<W.events.length
  ·rw[if_pos c] at hb;exact h.hl i c k hb
  ·rw[if_neg c,ev_map,if_pos (by omega)] at hb
   have h3:=h.len
   have hb2:hasS (moved (ev r.events (i-W.events.length)).hangs (W.events.length:Int)) (k:Int)=true:=hb
   by_cases hn:W.events.length<64
   ·have:=((hasS_moved _ _ _ hn).1 hb2).2.1
    omega
   ·have z:moved (ev r.events (i-W.events.length)).hangs (W.events.length:Int)=0:=by unfold moved;rw[if_pos (by omega)]
    rw[z,hasS_zero] at hb2;cases hb2
theorem run_rinv {t:P.Thr} (h:∀ s∈t.stmts,StV s) {i:Nat} {r:Run} (hr:r∈zJJ t i):RInv (i:Int) r.events:=by
 unfold zJJ zIN at hr
 obtain⟨c,_,rfl⟩:=List.mem_map.1 hr
 have hm:=minv_run h i c
 have ht:(runAt t i c).thread=(i:Int):=by
  unfold runAt zJu
  have:∀ (ss:List P.Stm) (p:Mach × Nat),(ss.foldl carry p).1.thread=p.1.thread:=fun ss=>by
   induction ss with
   | nil=>intro p;rfl
   | cons s ss ih =>
    intro p
    rw[List.foldl_cons,ih]
    unfold carry
    split
    ·split
     ·rfl
     ·unfold Mach.doIt Mach.giveRead Mach.give Mach.step Mach.giveRead Mach.give
      repeat' split
      all_goals rfl
    ·split
     ·rfl
     ·split<;>rfl
  exact this _ _
 exact⟨fun e he=>by have:=hm.evs e he;rw[ht] at this;exact this,hm.sr,hm.sw⟩
def KerV (ts:List P.Thr):Prop:=∀ t∈ts,∀ s∈t.stmts,StV s
theorem joinAll_winv:∀ (ts:List P.Thr) (i:Nat) (W:Wd) (ds:List Int),KerV ts→WInv W.events→WInv (zKg W (runsFrom i ts) ds).events
 | [],_,_,_,_,h=>h
 | t::ts,i,W,[],_,h=>by simpa [runsFrom,zKg] using h
 | t::ts,i,W,d::ds,hv,h=>by
  simp only[runsFrom,zKg]
  refine joinAll_winv ts (i+1) _ ds (fun u hu=>hv u (List.mem_cons_of_mem _ hu)) ?_
  split
  ·rename_i hd
   exact h.join (by omega) (run_rinv (hv t (by simp)) (List.getElem_mem hd))
  ·exact h
theorem world_inv {ts:List P.Thr} (h:KerV ts) (d:List Int):WInv (zIf (runs ts) d).events:=joinAll_winv ts 0 _ d h winv_first
theorem WInv.varOk {es:List Ev} (h:WInv es):VarOk es:=fun i hi k=>by have:=(h.var i hi (acc_w k)).1;omega
theorem WInv.firstOk {es:List Ev} (h:WInv es):FirstOk es:=fun i k hi hk ne _ _ hv ht=>by
 have k3:k<3:=by
  by_cases c:k<3
  ·exact c
  ·exact absurd ht (h.rest k (by omega) hk)
 by_cases c:i<3
 ·have e1:=h.fst i c
  have e2:=h.fst k k3
  rw[e1,e2] at hv
  simp[zIz] at hv
  omega
 ·exact⟨by omega,h.rest i (by omega) hi⟩
theorem source_pull {ts ts':List P.Thr} (hV:KerV ts) (hV':KerV ts') (hn:∀ d∈zIy (zAW (runs ts)),(zIf (runs ts) d).events.length≤64) (hn':∀ d∈zIy (zAW (runs ts')),(zIf (runs ts') d).events.length≤64) (pi:Int→Int) (Rl:List Int→List Int→Prop)
  (hW:∀ d'∈zIy (zAW (runs ts')),∃ d∈zIy (zAW (runs ts)),∃ f,WHom pi f (zIf (runs ts) d).events (zIf (runs ts') d').events∧Rl (zIf (runs ts) d).regs (zIf (runs ts') d').regs) :
  (∀ r'∈(zIq ts').rows,∃ (g g':List Int) (x:Int→Int),Rl g g'∧r'=g'++[x 0,x 1,x 2]∧g++[x (pi 0),x (pi 1),x (pi 2)]∈(zIq ts).rows)∧((zIq ts').clash=true→(zIq ts).clash=true):=by
 have key:∀ c'∈cands ts',∀ ds'∈ordsOf c'.wd,srcMay c' ds'=true→∃ c∈cands ts,∃ ds∈ordsOf c.wd,srcMay c ds=true∧(c'.facts.clashes (c'.facts.before c'.reads)=true→c.facts.clashes (c.facts.before c.reads)=true)∧Rl c.wd.regs c'.wd.regs∧zJB c.wd (placesAt c.wd ds)=c.wd.regs++[lastV c'.wd.events (pi 0) (placesAt c'.wd ds'),lastV c'.wd.events (pi 1) (placesAt c'.wd ds'),lastV c'.wd.events (pi 2) (placesAt c'.wd ds')]:=by
  intro c' hc' ds' hds' hm
  obtain⟨d',hd',rs',hrs',rfl,hh⟩:=cands_mem.1 hc'
  obtain⟨d,hd,f,hf,hreg⟩:=hW d' hd'
  have w1:=world_inv hV d
  have w2:=world_inv hV' d'
  obtain⟨rs,hrs,ds,hds,h1,h2,h3,h4⟩:=pull hf (hn d hd) (hn' d' hd') w1.varOk w2.varOk w1.firstOk w2.firstOk hrs' hds' hh hm
  refine⟨_,cands_mem.2 ⟨d,hd,rs,hrs,rfl,h1⟩,ds,hds,h2,h3,hreg,?_⟩
  have h5:∀ v:Nat,v<3→lastV (zIf (runs ts') d').events (pi (v:Int)) (placesAt (zIf (runs ts') d') ds')=lastV (zIf (runs ts) d).events (v:Int) (placesAt (zIf (runs ts) d) ds):=fun v hv=>by
   have e:=w1.fst v hv
   have hl:=w1.len
   exact h4 (v:Int) v (by omega) (by rw[e];rfl) (by rw[e];rfl)
  have a0:=h5 0 (by omega)
  have a1:=h5 1 (by omega)
  have a2:=h5 2 (by omega)
  unfold zJB
  simp only at a0 a1 a2 ⊢
  rw[show ((0:Nat):Int)=0 from rfl] at a0
  rw[show ((1:Nat):Int)=1 from rfl] at a1
  rw[show ((2:Nat):Int)=2 from rfl] at a2
  rw[a0,a1,a2]
 constructor
 ·intro r' hr'
  obtain⟨c',hc',ds',hds',hm,rfl⟩:=(source_rows ts' r').1 hr'
  obtain⟨c,hc,ds,hds,h1,_,h3,h4⟩:=key c' hc' ds' hds' hm
  refine⟨c.wd.regs,c'.wd.regs,fun v=>lastV c'.wd.events v (placesAt c'.wd ds'),h3,rfl,?_⟩
  exact (source_rows ts _).2 ⟨c,hc,ds,hds,h1,h4.symm⟩
 ·intro hcl
  obtain⟨c',hc',ds',hds',hm,hk⟩:=(source_clash ts').1 hcl
  obtain⟨c,hc,ds,hds,h1,h2,_⟩:=key c' hc' ds' hds' hm
  exact (source_clash ts).2 ⟨c,hc,ds,hds,h1,h2 hk⟩
end Q
namespace Q
structure Perm3 (pi:Int→Int):Prop where
 rng:∀ v,0≤v→v<3→0≤pi v∧pi v<3
 inj:∀ a b,0≤a→a<3→0≤b→b<3→pi a=pi b→a=b
 sur:∀ v,0≤v→v<3→∃ u,0≤u∧u<3∧pi u=v
def evV (pi:Int→Int) (e:Ev):Ev:=if zIS e then { e with var:=pi e.var } else e
theorem evV_acc (pi:Int→Int) {e:Ev} (h:zIS e=true):evV pi e={ e with var:=pi e.var }:=by unfold evV;rw[if_pos h]
theorem evV_not (pi:Int→Int) {e:Ev} (h:zIS e=false):evV pi e=e:=by unfold evV;rw[if_neg (by rw[h];simp)]
theorem evV_same (pi:Int→Int) (e:Ev):(evV pi e).kind=e.kind∧(evV pi e).thread=e.thread∧(evV pi e).block=e.block∧(evV pi e).value=e.value∧(evV pi e).order=e.order∧(evV pi e).scope=e.scope∧(evV pi e).bars=e.bars∧(evV pi e).step=e.step∧(evV pi e).hangs=e.hangs:=by
 unfold evV;split<;>exact⟨rfl,rfl,rfl,rfl,rfl,rfl,rfl,rfl,rfl⟩
def isA4 (k:Int):Bool:=k==0||k==1||k==2||k==3
structure StN (pi:Int→Int) (s t:P.Stm):Prop where
 kind:t.kind=s.kind
 dest:t.dest=s.dest
 a:t.a=s.a
 b:t.b=s.b
 order:t.order=s.order
 scope:t.scope=s.scope
 var:t.var=if isA4 s.kind then pi s.var else s.var
def Mach.ren (pi:Int→Int) (m:Mach):Mach:={ m with events:=m.events.map (evV pi) }
section
variable {pi:Int→Int} {m:Mach} {s t:P.Stm}
theorem ren_event (h:StN pi s t) (hk:isA4 s.kind=true) (k:Int) (k0:k=0∨k=1) (v:Int) (u:Nat):{ (m.ren pi).event k t with value:=v,hangs:=u }=evV pi { m.event k s with value:=v,hangs:=u }:=by
 rw[evV_acc _ (by rcases k0 with rfl | rfl<;>rfl)]
 simp only[Mach.event,Mach.ren,h.kind,h.order,h.scope,h.var,hk,if_true]
theorem ren_event2 (h:StN pi s t) (hk:isA4 s.kind=false) (k:Int) (k0:k=2∨k=3∨k=4):(m.ren pi).event k t=evV pi (m.event k s):=by
 rw[evV_not _ (by rcases k0 with rfl | rfl | rfl<;>rfl)]
 simp only[Mach.event,Mach.ren,h.kind,h.order,h.scope,h.var,hk,Bool.false_eq_true,if_false]
theorem ren_valueOf (i:Nat):(m.ren pi).valueOf i=m.valueOf i:=by
 show (ev (m.events.map (evV pi)) i).value=(ev m.events i).value
 rw[ev_map]
 by_cases c:i<m.events.length
 ·rw[if_pos c];exact (evV_same pi _).2.2.2.1
 ·rw[if_neg c,ev_out _ _ (by omega)]
theorem ren_give (d v:Int) (u:Nat):(m.ren pi).give d v u=(m.give d v u).ren pi:=by
 unfold Mach.give;split<;>rfl
theorem ren_giveRead (d:Int) (r:Nat):(m.ren pi).giveRead d r=(m.giveRead d r).ren pi:=by
 unfold Mach.giveRead
 rw[ren_valueOf,ren_give]
theorem ren_read (h:StN pi s t) (hk:isA4 s.kind=true):(m.ren pi).read t=(m.read s).ren pi:=by
 have e:=ren_event (m:=m) h hk 0 (Or.inl rfl) ((m.unread % 4:Nat):Int) m.asked
 unfold Mach.read
 show Mach.mk _ _ _ _ _ _ _ _=Mach.mk _ _ _ _ _ _ _ _
 rw[List.map_append,List.map_cons,List.map_nil]
 have e2:({ (m.ren pi).event 0 t with value:=(((m.ren pi).unread % 4:Nat):Int) }:Ev)=evV pi { m.event 0 s with value:=((m.unread % 4:Nat):Int) }:=e
 rw[e2]
 rfl
theorem ren_write (h:StN pi s t) (hk:isA4 s.kind=true) (v:Int) (u:Nat):(m.ren pi).write t v u=(m.write s v u).ren pi:=by
 have e:=ren_event (m:=m) h hk 1 (Or.inr rfl) v (m.asked ||| u)
 unfold Mach.write Mach.put
 show Mach.mk _ _ _ _ _ _ _ _=Mach.mk _ _ _ _ _ _ _ _
 rw[List.map_append,List.map_cons,List.map_nil]
 have e2:({ (m.ren pi).event 1 t with value:=v,hangs:=(m.ren pi).asked ||| u }:Ev)=evV pi { m.event 1 s with value:=v,hangs:=m.asked ||| u }:=e
 rw[e2]
 rfl
theorem ren_len:(m.ren pi).events.length=m.events.length:=by simp[Mach.ren]
theorem ren_doIt (h:StN pi s t):(m.ren pi).doIt t=(m.doIt s).ren pi:=by
 unfold Mach.doIt
 rw[h.kind,h.dest,ren_len]
 have hv:∀ o,(m.ren pi).value o=m.value o:=fun _=>rfl
 have hm:∀ o,(m.ren pi).madeOf o=m.madeOf o:=fun _=>rfl
 rcases kind_cases s.kind with e | e | e | e | e | e | ⟨e0,e1,e2,e3,e4,e5⟩
 ·rw[e]
  show ((m.ren pi).read t).giveRead _ _=((m.read s).giveRead _ _).ren pi
  rw[ren_read h (by rw[e];rfl),ren_giveRead]
 ·rw[e]
  show (m.ren pi).store t=(m.store s).ren pi
  unfold Mach.store
  rw[h.a,hv,hm,ren_write h (by rw[e];rfl)]
 ·rw[e]
  show (m.ren pi).step t=(m.step s).ren pi
  unfold Mach.step
  rw[h.kind,h.dest,h.a,hv,hm,ren_len,ren_read h (by rw[e];rfl),ren_valueOf,ren_write h (by rw[e];rfl),ren_write h (by rw[e];rfl),e]
  show Mach.giveRead (Mach.ren pi _) _ _=_
  rw[ren_giveRead]
  rfl
 ·rw[e]
  show (m.ren pi).step t=(m.step s).ren pi
  unfold Mach.step
  rw[h.kind,h.dest,h.a,hv,hm,ren_len,ren_read h (by rw[e];rfl),ren_valueOf,ren_write h (by rw[e];rfl),ren_write h (by rw[e];rfl),e]
  show Mach.giveRead (Mach.ren pi _) _ _=_
  rw[ren_giveRead]
  rfl
 ·rw[e]
  show (m.ren pi).put ((m.ren pi).event 2 t)=(m.put (m.event 2 s)).ren pi
  unfold Mach.put
  show Mach.mk _ _ _ _ _ _ _ _=Mach.mk _ _ _ _ _ _ _ _
  rw[List.map_append,List.map_cons,List.map_nil,ren_event2 h (by rw[e];rfl) 2 (by omega)]
  rfl
 ·rw[e]
  show (m.ren pi).barrier t=(m.barrier s).ren pi
  unfold Mach.barrier
  show Mach.mk _ _ _ _ _ _ _ _=Mach.mk _ _ _ _ _ _ _ _
  rw[List.map_append,List.map_cons,List.map_cons,List.map_nil,ren_event2 h (by rw[e];rfl) 3 (by omega),ren_event2 h (by rw[e];rfl) 4 (by omega)]
  rfl
 ·rw[e0,e1,e2,e3,e4,e5]
  simp only[Bool.false_eq_true,if_false,Bool.or_self]
  have hr:(m.ren pi).result t=m.result s:=by unfold Mach.result;rw[h.kind,h.a,h.b,hv,hv]
  split
  ·rw[hr,h.a,h.b,hm,hm,ren_give]
  ·rfl
theorem ren_carry (h:StN pi s t) (n:Nat):carry (m.ren pi,n) t=((carry (m,n) s).1.ren pi,(carry (m,n) s).2):=by
 unfold carry
 have hv:∀ o,(m.ren pi).value o=m.value o:=fun _=>rfl
 rw[h.kind,h.a]
 simp only[hv,ren_doIt h]
 split
 ·split
  ·unfold Mach.ask
   rw[h.a]
   rfl
  ·rfl
 ·split
  ·rfl
  ·split<;>rfl
end
def StsN (pi:Int→Int):List P.Stm→List P.Stm→Prop
 | [],[]=>True
 | a::x,b::y=>StN pi a b∧StsN pi x y
 | _,_=>False
theorem ren_fold (pi:Int→Int) (ss:List P.Stm):∀ (ss':List P.Stm) (m:Mach) (n:Nat),StsN pi ss ss'→ss'.foldl carry (m.ren pi,n)=((ss.foldl carry (m,n)).1.ren pi,(ss.foldl carry (m,n)).2):=by
 induction ss with
 | nil =>
  intro ss' m n h
  cases ss' with
  | nil=>rfl
  | cons b y=>exact absurd h (by simp[StsN])
 | cons a x ih =>
  intro ss' m n h
  cases ss' with
  | nil=>exact absurd h (by simp[StsN])
  | cons b y =>
   rw[List.foldl_cons,List.foldl_cons,ren_carry h.1]
   exact ih y _ _ h.2
theorem codesN (pi:Int→Int):∀ {ss ss':List P.Stm} (c:Nat),StsN pi ss ss'→ss'.foldl (fun c st=>if P.reads st.kind then c*4 else c) c=ss.foldl (fun c st=>if P.reads st.kind then c*4 else c) c
 | [],[],_,_=>rfl
 | a::x,b::y,c,hs=>by
  rw[List.foldl_cons,List.foldl_cons,hs.1.kind]
  exact codesN pi _ hs.2
 | [],b::y,_,h=>by simp[StsN] at h
 | a::x,[],_,h=>by simp[StsN] at h
structure ThN (pi:Int→Int) (t t':P.Thr):Prop where
 block:t'.block=t.block
 sts:StsN pi t.stmts t'.stmts
def ThsN (pi:Int→Int):List P.Thr→List P.Thr→Prop
 | [],[]=>True
 | a::x,b::y=>ThN pi a b∧ThsN pi x y
 | _,_=>False
theorem ren_runAt {pi:Int→Int} {t t':P.Thr} (h:ThN pi t t') (i c:Nat):runAt t' i c=(runAt t i c).ren pi:=by
 unfold runAt zJu
 have:=ren_fold pi t.stmts t'.stmts (Mach.start i t.block c) 0 h.sts
 rw[h.block]
 exact congrArg Prod.fst this
def Run.ren (pi:Int→Int) (r:Run):Run:=⟨r.events.map (evV pi),r.regs⟩
theorem ren_runs {pi:Int→Int} {t t':P.Thr} (h:ThN pi t t') (i:Nat):zJJ t' i=(zJJ t i).map (Run.ren pi):=by
 unfold zJJ zIN
 have e:codes t'.stmts=codes t.stmts:=codesN pi 1 h.sts
 rw[e,List.map_map]
 have e2:(fun c=>(runAt t' i c).unread==0)=(fun c=>(runAt t i c).unread==0):=funext fun c=>by rw[ren_runAt h];rfl
 rw[e2]
 refine List.map_congr_left fun c _=>?_
 rw[ren_runAt h]
 rfl
theorem ren_runsFrom {pi:Int→Int}:∀ {ts ts':List P.Thr} (i:Nat),ThsN pi ts ts'→runsFrom i ts'=(runsFrom i ts).map (fun rs=>rs.map (Run.ren pi))
 | [],[],_,_=>rfl
 | a::x,b::y,i,h=>by
  rw[runsFrom,runsFrom,List.map_cons,ren_runs h.1,ren_runsFrom (i+1) h.2]
 | [],b::y,_,h=>by simp[ThsN] at h
 | a::x,[],_,h=>by simp[ThsN] at h
def WdN (pi:Int→Int) (W W':Wd):Prop:=∃ L,W.events=zIK++L∧W'.events=zIK++L.map (evV pi)∧W'.regs=W.regs
theorem evV_join (pi:Int→Int) (n:Nat) (e:Ev):zJb n (evV pi e)=evV pi (zJb n e):=by
 unfold evV
 have:zIS (zJb n e)=zIS e:=rfl
 rw[this]
 split<;>rfl
theorem wdN_join {pi:Int→Int} {W W':Wd} (h:WdN pi W W') (r:Run):WdN pi (W.join r) (W'.join (r.ren pi)):=by
 obtain⟨L,h1,h2,h3⟩:=h
 have hl:W'.events.length=W.events.length:=by rw[h1,h2];simp
 refine⟨L++r.events.map (zJb W.events.length),?_,?_,?_⟩
 ·show W.events++_=_
  rw[h1,List.append_assoc]
 ·show W'.events++(r.events.map (evV pi)).map (zJb W'.events.length)=_
  rw[hl,h2,List.append_assoc,List.map_append,List.map_map,List.map_map]
  congr 2
  exact List.map_congr_left fun e _=>evV_join pi _ e
 ·show W'.regs++r.regs=W.regs++r.regs
  rw[h3]
theorem wdN_joinAll {pi:Int→Int}:∀ (rss:List (List Run)) (ds:List Int) {W W':Wd},WdN pi W W'→WdN pi (zKg W rss ds) (zKg W' (rss.map fun rs=>rs.map (Run.ren pi)) ds)
 | [],_,_,_,h=>h
 | rs::rss,[],_,_,h=>by simpa [zKg] using h
 | rs::rss,d::ds,W,W',h=>by
  simp only[List.map_cons,zKg]
  refine wdN_joinAll rss ds ?_
  by_cases c:d.toNat<rs.length
  ·rw[dif_pos c,dif_pos (by simpa using c),List.getElem_map]
   exact wdN_join h _
  ·rw[dif_neg c,dif_neg (by simpa using c)]
   exact h
theorem wdN_world {pi:Int→Int} {ts ts':List P.Thr} (h:ThsN pi ts ts') (d:List Int):WdN pi (zIf (runs ts) d) (zIf (runs ts') d):=by
 unfold zIf runs
 rw[ren_runsFrom 0 h]
 exact wdN_joinAll _ _ ⟨[],by simp,by simp,rfl⟩
theorem lensN {pi:Int→Int} {ts ts':List P.Thr} (h:ThsN pi ts ts'):zAW (runs ts')=zAW (runs ts):=by
 unfold runs zAW
 rw[ren_runsFrom 0 h,List.map_map]
 exact List.map_congr_left fun rs _=>by simp
def fN (pi:Int→Int) (i:Nat):Nat:=if i<3 then (pi (i:Int)).toNat else i
theorem wdN_whom {pi:Int→Int} (hp:Perm3 pi) {W W':Wd} (h:WdN pi W W') (hw:WInv W.events):WHom pi (fN pi) W.events W'.events:=by
 obtain⟨L,h1,h2,_⟩:=h
 have hl:W'.events.length=W.events.length:=by rw[h1,h2];simp
 have h3:=hw.len
 have e3:∀ i,3≤i→i<W.events.length→ev W'.events i=evV pi (ev W.events i):=fun i hi hk=>by
  rw[h1,h2,ev_append,ev_append,if_neg (show ¬ i<zIK.length by show ¬ i<3;omega),if_neg (show ¬ i<zIK.length by show ¬ i<3;omega),ev_map,if_pos (by have h9:zIK.length=3:=rfl;rw[h1,List.length_append] at hk;omega)]
 have e0:∀ i:Nat,i<3→ev W'.events i=zIz (i:Int):=fun i hi=>by
  rw[h2,ev_append,if_pos (show i<zIK.length from hi)]
  exact winv_first.fst i hi
 have f0:∀ i:Nat,i<3→fN pi i<3∧((fN pi i:Nat):Int)=pi (i:Int):=fun i hi=>by
  have:=hp.rng (i:Int) (by omega) (by omega)
  unfold fN
  rw[if_pos hi]
  omega
 have f3:∀ i:Nat,3≤i→fN pi i=i:=fun i hi=>by unfold fN;rw[if_neg (by omega)]
 have lt3:∀ i:Nat,fN pi i<3 ↔ i<3:=fun i=>by
  by_cases c:i<3
  ·exact⟨fun _=>c,fun _=>(f0 i c).1⟩
  ·rw[f3 i (by omega)]
 have ee:∀ i,i<W.events.length→i<3→ev W'.events (fN pi i)=zIz (pi (i:Int)):=fun i hi c=>by
  rw[e0 _ (f0 i c).1,(f0 i c).2]
 have hvar:∀ i,i<W.events.length→zIS (ev W.events i)=true→(ev W'.events (fN pi i)).var=pi (ev W.events i).var:=fun i hi ha=>by
  by_cases c:i<3
  ·rw[ee i hi c,hw.fst i c];rfl
  ·rw[f3 i (by omega),e3 i (by omega) hi,evV_acc _ ha]
 have hthr:∀ i,i<W.events.length→(ev W'.events (fN pi i)).thread=(ev W.events i).thread:=fun i hi=>by
  by_cases c:i<3
  ·rw[ee i hi c,hw.fst i c];rfl
  ·rw[f3 i (by omega),e3 i (by omega) hi];exact (evV_same pi _).2.1
 refine⟨⟨fun i hi=>?_,fun i k hi hk e=>?_,fun i hi=>?_,fun i hi=>by rw[hthr i hi],fun i k hi hk=>by rw[hthr i hi,hthr k hk],fun i k hi hk ai ak=>?_,fun i k hi hk ht hh hik=>?_,fun i k hi ki si e=>?_,fun i k hi hk hb=>?_⟩,fun k hk ha=>?_,fun i hi ki si=>?_,hvar⟩
 ·by_cases c:i<3
  ·have:=(f0 i c).1;omega
  ·rw[f3 i (by omega)];omega
 ·by_cases c:i<3
  ·have ck:k<3:=(lt3 k).1 (by rw[← e];exact (f0 i c).1)
   have h4:=(f0 i c).2
   have h5:=(f0 k ck).2
   rw[e,h5] at h4
   have:=hp.inj (k:Int) (i:Int) (by omega) (by omega) (by omega) (by omega) h4
   omega
  ·have ck:¬ k<3:=fun ck=>c ((lt3 i).1 (by rw[e];exact (f0 k ck).1))
   rw[f3 i (by omega),f3 k (by omega)] at e;exact e
 ·by_cases c:i<3
  ·rw[ee i hi c,hw.fst i c]
   exact⟨rfl,rfl,rfl,rfl,rfl,id,id,id,fun _ h=>h,id⟩
  ·rw[f3 i (by omega),e3 i (by omega) hi]
   obtain⟨a1,a2,a3,a4,a5,a6,a7,a8,a9⟩:=evV_same pi (ev W.events i)
   exact⟨a1,a3,a4,a8,a7,by rw[a5];exact id,by rw[a5];exact id,by rw[a5];exact id,by rw[a5];exact fun _ h=>h,by rw[a6];exact id⟩
 ·rw[hvar i hi ai,hvar k hk ak]
  have r1:=hw.var i hi ai
  have r2:=hw.var k hk ak
  exact⟨fun e=>hp.inj _ _ r1.1 r1.2 r2.1 r2.2 e,fun e=>by rw[e]⟩
 ·have c:¬ i<3:=fun c=>ht (by rw[hw.fst i c];rfl)
  rw[f3 i (by omega),f3 k (by omega)];exact hik
 ·obtain⟨a,b,_⟩:=hw.sw i ki si
  have hk:k=i-1:=by omega
  have c:¬ k<3:=fun c=>by rw[← hk,hw.fst k c] at b;simp[zIz] at b
  rw[f3 i (by omega),f3 k (by omega)];exact e
 ·have:=hw.hl i hi k hb
  rw[f3 k this]
  have c:¬ i<3:=fun c=>by
   rw[hw.fst i c,show (zIz (i:Int)).hangs=0 from rfl,hasS_zero] at hb;cases hb
  rw[f3 i (by omega),e3 i (by omega) hi,(evV_same pi _).2.2.2.2.2.2.2.2]
  exact hb
 ·by_cases c:k<3
  ·obtain⟨u,u0,u1,hu⟩:=hp.sur (k:Int) (by omega) (by omega)
   refine⟨u.toNat,by omega,?_⟩
   have h4:=(f0 u.toNat (by omega)).2
   rw[show ((u.toNat:Nat):Int)=u by omega,hu] at h4
   omega
  ·exact⟨k,by omega,f3 k (by omega)⟩
 ·have c:¬ i<3:=fun c=>by rw[hw.fst i c] at ki;simp[zIz] at ki
  rw[f3 i (by omega),f3 (i+1) (by omega)]
theorem zJO {pi:Int→Int} (hp:Perm3 pi) {ts ts':List P.Thr} (h:ThsN pi ts ts') (hV:KerV ts) (hV':KerV ts') (hn:∀ d∈zIy (zAW (runs ts)),(zIf (runs ts) d).events.length≤64) (hn':∀ d∈zIy (zAW (runs ts')),(zIf (runs ts') d).events.length≤64) :
  (∀ r'∈(zIq ts').rows,∃ (g:List Int) (x:Int→Int),r'=g++[x 0,x 1,x 2]∧g++[x (pi 0),x (pi 1),x (pi 2)]∈(zIq ts).rows)∧((zIq ts').clash=true→(zIq ts).clash=true):=by
 obtain⟨h1,h2⟩:=source_pull hV hV' hn hn' pi (fun g g'=>g'=g) (fun d' hd'=>⟨d',by rw[← lensN h];exact hd',fN pi,wdN_whom hp (wdN_world h d') (world_inv hV d'),(wdN_world h d').elim fun L hL=>hL.2.2⟩)
 refine⟨fun r' hr'=>?_,h2⟩
 obtain⟨g,g',x,hg,e,hm⟩:=h1 r' hr'
 exact⟨g,x,by rw[e,hg],hm⟩
end Q
end Go.Proofs.YtkmebkbpfmoeaaaGreat
