import Derived.Test.YtkmebkbpfmoeaaaGreatH37
set_option linter.unusedVariables false
set_option linter.unusedSimpArgs false
set_option maxHeartbeats 12800000
namespace Go.Proofs.YtkmebkbpfmoeaaaGreat
set_option maxRecDepth 100000
namespace Q
structure WI (w:Wd) (E S R:Int):Prop where
 pos:0<w.events.length
 len:(w.events.length:Int)≤E
 sc:((w.events.filter isSC).length:Int)≤S
 regs:(w.regs.length:Int)=R
 vals:∀ x∈w.regs,0≤x∧x<4
 evs:∀ e∈w.events,0≤e.value∧e.value<4∧e.hangs<M64
theorem sc_join (n:Nat) (l:List Ev):((l.map (zJh n)).filter isSC).length=(l.filter isSC).length:=by
 rw[List.filter_map,List.length_map];rfl
theorem WI.join {w:Wd} {E S R:Int} (h:WI w E S R) {r:Run} {t:P.Thr} (hr:RunOk r t) (h8:P.cnt P.nE t.stmts≤8) (hb:P.bars t.stmts≤2):WI (w.join r) (E+(10+P.cnt isStp t.stmts)) (S+P.cnt P.isF t.stmts) (R+4):=by
 have h1:=h.len
 have h2:=h.sc
 have h3:=h.regs
 have r1:=hr.len
 have r2:=hr.sc
 have r3:=hr.regs
 refine⟨by have:=h.pos;simp[Wd.join];omega,by simp[Wd.join];omega,?_,by simp[Wd.join,r3,h3],fun x hx=>?_,fun e he=>?_⟩
 ·simp only[Wd.join]
  rw[List.filter_append,List.length_append,sc_join]
  push_cast;omega
 ·simp only[Wd.join] at hx
  rcases List.mem_append.1 hx with hx | hx
  ·exact h.vals x hx
  ·exact hr.vals x hx
 ·simp only[Wd.join] at he
  rcases List.mem_append.1 he with he | he
  ·exact h.evs e he
  ·obtain⟨e0,h0,rfl⟩:=List.mem_map.1 he
   exact⟨(hr.evs e0 h0).1,(hr.evs e0 h0).2.1,moved_lt _ _⟩
structure ThrOk (t:P.Thr):Prop where
 ok:∀ s∈t.stmts,StOk s
 le:P.cnt P.nE t.stmts≤8
 br:P.bars t.stmts≤2
 cd:codes t.stmts<1000000000
theorem joinAll_wi:∀ (ts:List P.Thr) (i:Nat) (w:Wd) (ds:List Int) (E S R:Int),(∀ t∈ts,ThrOk t)→DigOk (zAT (runsFrom i ts)) ds→WI w E S R→WI (zKn w (runsFrom i ts) ds) (E+(10*ts.length+P.tot isStp ts)) (S+P.tot P.isF ts) (R+4*ts.length)
 | [],i,w,ds,E,S,R,ht,hd,h=>by
  cases ds with
  | nil=>simpa [runsFrom,zKn,P.tot] using h
  | cons d ds=>simp[runsFrom,zAT,DigOk] at hd
 | t::ts,i,w,ds,E,S,R,ht,hd,h=>by
  cases ds with
  | nil=>simp[runsFrom,zAT,DigOk] at hd
  | cons d ds =>
   simp only[runsFrom,zAT,List.map_cons,DigOk] at hd
   have hlt:d.toNat<(zJS t i).length:=by omega
   simp only[runsFrom,zKn]
   rw[dif_pos hlt]
   have hk:=ht t (by simp)
   have h1:=h.join (run_ok hk.ok hk.cd (List.getElem_mem hlt)) hk.le hk.br
   have h2:=joinAll_wi ts (i+1) _ ds _ _ _ (fun u hu=>ht u (List.mem_cons_of_mem _ hu)) hd.2.2 h1
   simp only[P.tot,List.length_cons]
   rw[show E+(10*((ts.length+1:Nat):Int)+(P.cnt isStp t.stmts+P.tot isStp ts))=E+(10+P.cnt isStp t.stmts)+(10*ts.length+P.tot isStp ts) by push_cast;omega,show S+(P.cnt P.isF t.stmts+P.tot P.isF ts)=S+P.cnt P.isF t.stmts+P.tot P.isF ts by omega,show R+4*((ts.length+1:Nat):Int)=R+4+4*ts.length by push_cast;omega]
   exact h2
theorem first_wi:WI ⟨zIR,[]⟩ 3 0 0:=by
 refine⟨by decide,by decide,by decide,by decide,fun x hx=>by simp at hx,fun e he=>?_⟩
 simp only[zIR,List.mem_cons,List.mem_nil_iff,or_false] at he
 rcases he with rfl | rfl | rfl<;>exact⟨by decide,by decide,by decide⟩
theorem tot_mono {p q:P.Stm→Bool} (h:∀ s,p s=true→q s=true):∀ l,P.tot p l≤P.tot q l
 | []=>by simp[P.tot]
 | t::l=>by
  have h1:=P.cnt_mono h t.stmts
  have h2:=tot_mono h l
  simp only[P.tot];omega
theorem tot_in {p:P.Stm→Bool}:∀ {l:List P.Thr} {t:P.Thr},t∈l→P.cnt p t.stmts≤P.tot p l
 | u::l,t,h=>by
  have h0:0≤P.tot p l:=by
   clear h
   induction l with
   | nil=>simp[P.tot]
   | cons v l ih=>simp only[P.tot];have:=(P.zJw p v.stmts).1;omega
  simp only[P.tot]
  rcases List.mem_cons.1 h with rfl | h
  ·omega
  ·have:=tot_in (p:=p) h
   have:=(P.zJw p u.stmts).1
   omega
theorem ker_thr {ts:List P.Thr} (h:P.KerIs ts):∀ t∈ts,ThrOk t:=fun t ht=>by
 refine⟨h.ok t ht,h.le t ht,h.br t ht,?_⟩
 rw[codes_eq]
 have h1:=tot_in (p:=P.isR) ht
 have h2:=h.rd
 exact Nat.lt_of_le_of_lt (Nat.pow_le_pow_right (by omega) (by omega:(P.cnt P.isR t.stmts).toNat≤4)) (by decide)
theorem ker_wi {ts:List P.Thr} (h:P.KerIs ts) {d:List Int} (hd:DigOk (zAT (runs ts)) d):WI (zIl (runs ts) d) 46 3 (4*ts.length):=by
 have h1:=joinAll_wi ts 0 _ d _ _ _ (ker_thr h) hd first_wi
 have h2:P.tot isStp ts≤P.tot P.isW ts:=tot_mono (fun s hs=>by
  simp only[isStp,P.isW,P.zKg] at *
  rcases Bool.or_eq_true _ _ ▸ hs with hs | hs<;>rw[hs]<;>simp) ts
 have h3:=h.wr
 have h4:=h.few
 have h5:=h.sc
 exact⟨h1.pos,Int.le_trans h1.len (by omega),Int.le_trans h1.sc (by omega),by have:=h1.regs;rw[Int.zero_add] at this;exact this,h1.vals,h1.evs⟩
theorem digitRows_len:∀ (b:Int) (bs:List Int),(zIE (b::bs)).length=(zIE bs).length*b.toNat:=by
 intro b bs
 simp only[zIE]
 induction zIE bs with
 | nil=>simp
 | cons r l ih=>rw[List.flatMap_cons,List.length_append,ih,List.length_cons,Nat.add_mul];simp;omega
theorem digits_le (g:Nat→Int) (p:Nat→Bool) (c:Nat) (hc:0<c):∀ (L:List Nat),(∀ i∈L,g i≤c∧(p i=false→g i=1))→(zIE (L.map g)).length≤c ^ (L.filter p).length
 | [],_=>by simp[zIE]
 | i::L,h=>by
  rw[List.map_cons,digitRows_len]
  have h1:=digits_le g p c hc L (fun j hj=>h j (List.mem_cons_of_mem _ hj))
  have h2:=h i (by simp)
  rw[List.filter_cons]
  cases hp:p i
  ·simp only[Bool.false_eq_true,if_false]
   rw[h2.2 hp];simpa using h1
  ·simp only[if_true,List.length_cons]
   rw[Nat.pow_succ]
   exact Nat.mul_le_mul h1 (by omega)
theorem filter_ev (p:Ev→Bool) (es:List Ev) (i:Nat) (h:i≤es.length):((List.range i).filter fun k=>p (ev es k)).length≤(es.filter p).length:=by
 have h1:(List.range es.length).map (ev es)=es:=by
  refine List.ext_getElem (by simp) fun k hk1 hk2=>?_
  simp only[List.getElem_map,List.getElem_range,ev]
  simp[List.getD,List.getElem?_eq_getElem hk2]
 have h2:(es.filter p).length=((List.range es.length).filter fun k=>p (ev es k)).length:=by
  conv=>lhs;rw[← h1]
  rw[List.filter_map,List.length_map];rfl
 rw[h2]
 exact List.Sublist.length_le (List.Sublist.filter _ (List.range_sublist.2 h))
theorem fo_le {es:List Ev} (h:(es.filter isSC).length≤3):(zIE (zIp es (fenceRows es))).length≤64:=by
 unfold zIp
 have hl:(fenceRows es).length=es.length:=by simp[fenceRows]
 have hg:∀ k,k<es.length→(fenceRows es).getD k (-1)=if isSC (ev es k) then 0 else -1:=fun k hk=>by
  simp[fenceRows,ev,List.getD,List.getElem?_eq_getElem hk]
 have h1:=digits_le (zIS es (fenceRows es)) (fun i=>isSC (ev es i)) 4 (by omega) (List.range (fenceRows es).length) (fun i hi=>by
  have hi:i<es.length:=by simpa [hl] using hi
  have hsub:(List.range i).filter (ordB es (fenceRows es) i)=(List.range i).filter (fun k=>isSC (ev es i)&&(isSC (ev es k)&&(ev es k).thread != -1)):=by
   refine List.filter_congr fun k hk=>?_
   have hk:k<i:=by simpa using hk
   unfold ordB
   rw[hg i hi,hg k (by omega)]
   cases isSC (ev es i)<;>cases isSC (ev es k)<;>simp
  have hle:((List.range i).filter (ordB es (fenceRows es) i)).length≤(es.filter isSC).length:=by
   rw[hsub]
   refine Nat.le_trans ?_ (filter_ev isSC es i (by omega))
   refine List.Sublist.length_le ?_
   rw[show (List.range i).filter (fun k=>isSC (ev es i)&&(isSC (ev es k)&&(ev es k).thread != -1))=((List.range i).filter fun k=>isSC (ev es k)).filter (fun k=>isSC (ev es i)&&(ev es k).thread != -1) by rw[List.filter_filter];exact List.filter_congr fun k _=>by cases isSC (ev es i)<;>cases isSC (ev es k)<;>simp]
   exact List.filter_sublist
  refine⟨by unfold zIS;omega,fun hp=>?_⟩
  have hp:isSC (ev es i)=false:=hp
  unfold zIS
  rw[hsub,hp,show (List.range i).filter (fun k=>false&&(isSC (ev es k)&&(ev es k).thread != -1))=[] from List.filter_eq_nil_iff.2 (fun _ _=>by simp)];rfl)
 refine Nat.le_trans h1 ?_
 have h2:((List.range (fenceRows es).length).filter fun i=>isSC (ev es i)).length≤3:=Nat.le_trans (filter_ev isSC es _ (by omega)) h
 exact Nat.le_trans (Nat.pow_le_pow_right (by omega) h2) (by decide)
theorem wi_ok {w:Wd} {R:Int} (h:WI w 46 3 R) (hR:R<100):WdOk w :=
 ⟨h.pos,by have:=h.len;omega,fun e he=>(h.evs e he).2.2,by have:=h.regs;omega,h.vals,fun e he=>⟨(h.evs e he).1,(h.evs e he).2.1⟩,Nat.lt_of_le_of_lt (fo_le (by have:=h.sc;omega)) (by decide)⟩
theorem runsFrom_mem:∀ {ts:List P.Thr} {i:Nat} {rs:List Run},rs∈runsFrom i ts→∃ t∈ts,∃ k,rs=zJS t k
 | t::ts,i,rs,h=>by
  simp only[runsFrom] at h
  rcases List.mem_cons.1 h with rfl | h
  ·exact⟨t,by simp,i,rfl⟩
  ·obtain⟨u,hu,k,e⟩:=runsFrom_mem h
   exact⟨u,List.mem_cons_of_mem _ hu,k,e⟩
theorem runsOf_len (t:P.Thr) (i:Nat):(zJS t i).length≤codes t.stmts:=by
 unfold zJS zIU
 rw[List.length_map]
 exact Nat.le_trans (List.length_filter_le _ _) (by simp)
theorem zKD {ts:List P.Thr} (h:P.KerIs ts):KerOk ts:=by
 have ht:=ker_thr h
 have h4:=h.few
 have hc:∀ t∈ts,codes t.stmts≤256:=fun t hm=>by
  rw[codes_eq]
  have h1:=tot_in (p:=P.isR) hm
  have h2:=h.rd
  exact Nat.le_trans (Nat.pow_le_pow_right (by omega) (by omega:(P.cnt P.isR t.stmts).toNat≤4)) (by decide)
 have hn:∀ (l:List P.Stm) (n:Nat),n≤l.length→n≤l.length:=fun _ _ h=>h
 refine⟨by omega,fun t hm=>⟨(ht t hm).ok,?_,Nat.lt_of_le_of_lt (hc t hm) (by decide)⟩,fun rs hrs=>?_,fun rs hrs r hr=>?_,fun d hd=>wi_ok (ker_wi h hd) (by omega)⟩
 ·exact Nat.lt_of_le_of_lt (h.len t hm) (by decide)
 ·obtain⟨t,hm,k,rfl⟩:=runsFrom_mem hrs
  exact Nat.lt_of_le_of_lt (Nat.le_trans (runsOf_len t k) (hc t hm)) (by decide)
 ·obtain⟨t,hm,k,rfl⟩:=runsFrom_mem hrs
  have:=run_ok (ht t hm).ok (ht t hm).cd hr
  exact⟨this.regs,fun e he=>(this.evs e he).2.2⟩
end Q
end Go.Proofs.YtkmebkbpfmoeaaaGreat
namespace Go.Proofs.YtkmebkbpfmoeaaaGreat
open Go Go.RowKit
set_option maxRecDepth 100000
namespace Q
theorem mem_ins {r y:List Int}:∀ {l:List (List Int)},y∈ins l r ↔ y=r∨y∈l
 | []=>by simp[ins]
 | x::l=>by
  rw[ins]
  split
  ·rw[List.mem_cons,mem_ins (l:=l),List.mem_cons]
   constructor
   ·rintro (h | h | h)
    ·exact Or.inr (Or.inl h)
    ·exact Or.inl h
    ·exact Or.inr (Or.inr h)
   ·rintro (h | h | h)
    ·exact Or.inr (Or.inl h)
    ·exact Or.inl h
    ·exact Or.inr (Or.inr h)
  ·split
   ·rename_i h0
    have hx:x=r:=cmp_eq (by simpa using h0)
    rw[hx]
    constructor
    ·exact fun h=>Or.inr h
    ·rintro (h | h)
     ·rw[h];simp
     ·exact h
   ·rw[List.mem_cons]
theorem fold_rowsM {α:Type} (F:Ans→α→Ans) (Pr:α→List Int→Prop) (hF:∀ a x r,r∈(F a x).rows ↔ r∈a.rows∨Pr x r) (r:List Int):∀ (l:List α) (a:Ans),r∈(l.foldl F a).rows ↔ r∈a.rows∨∃ x∈l,Pr x r
 | [],a=>by simp
 | x::l,a=>by
  rw[List.foldl_cons,fold_rowsM F Pr hF r l,hF]
  constructor
  ·rintro ((h | h) | ⟨y,hy,h⟩)
   ·exact Or.inl h
   ·exact Or.inr ⟨x,by simp,h⟩
   ·exact Or.inr ⟨y,List.mem_cons_of_mem _ hy,h⟩
  ·rintro (h | ⟨y,hy,h⟩)
   ·exact Or.inl (Or.inl h)
   ·rcases List.mem_cons.1 hy with rfl | hy
    ·exact Or.inl (Or.inr h)
    ·exact Or.inr ⟨y,hy,h⟩
theorem fold_clashM {α:Type} (F:Ans→α→Ans) (Pr:α→Prop) (hF:∀ a x,(F a x).clash=true ↔ a.clash=true∨Pr x):∀ (l:List α) (a:Ans),(l.foldl F a).clash=true ↔ a.clash=true∨∃ x∈l,Pr x
 | [],a=>by simp
 | x::l,a=>by
  rw[List.foldl_cons,fold_clashM F Pr hF l,hF]
  constructor
  ·rintro ((h | h) | ⟨y,hy,h⟩)
   ·exact Or.inl h
   ·exact Or.inr ⟨x,by simp,h⟩
   ·exact Or.inr ⟨y,List.mem_cons_of_mem _ hy,h⟩
  ·rintro (h | ⟨y,hy,h⟩)
   ·exact Or.inl (Or.inl h)
   ·rcases List.mem_cons.1 hy with rfl | hy
    ·exact Or.inl (Or.inr h)
    ·exact Or.inr ⟨y,hy,h⟩
def ordsOf (w:Wd):List (List Int):=zIE (zIp w.events (zIj w.events))
def placesAt (w:Wd) (ds:List Int):List Int:=zIv (zIj w.events) ds
def srcMay (c:Cand) (ds:List Int):Bool:=c.facts.mayBe c.reads (c.facts.before c.reads) (placesAt c.wd ds)
theorem source_rows (ts:List P.Thr) (r:List Int):r∈(zIC ts).rows ↔ ∃ c∈cands ts,∃ ds∈ordsOf c.wd,srcMay c ds=true∧r=zJJ c.wd (placesAt c.wd ds):=by
 unfold zIC
 rw[fold_rowsM zJb (fun c r=>∃ ds∈ordsOf c.wd,srcMay c ds=true∧r=zJJ c.wd (placesAt c.wd ds)) ?_ r]
 ·simp
 ·intro a c r
  unfold zJb zJp
  rw[fold_rowsM (zIG c.wd c.facts c.reads (c.facts.before c.reads)) (fun ds r=>srcMay c ds=true∧r=zJJ c.wd (placesAt c.wd ds)) ?_ r]
  ·rfl
  ·intro a ds r
   unfold zIG srcMay placesAt
   split
   ·rename_i h
    rw[mem_ins]
    constructor
    ·rintro (h1 | h1)
     ·exact Or.inr ⟨h,h1⟩
     ·exact Or.inl h1
    ·rintro (h1 | h1)
     ·exact Or.inr h1
     ·exact Or.inl h1.2
   ·rename_i h
    constructor
    ·exact Or.inl
    ·rintro (h1 | h1)
     ·exact h1
     ·exact absurd h1.1 h
theorem source_clash (ts:List P.Thr):(zIC ts).clash=true ↔ ∃ c∈cands ts,∃ ds∈ordsOf c.wd,srcMay c ds=true∧c.facts.clashes (c.facts.before c.reads)=true:=by
 unfold zIC
 rw[fold_clashM zJb (fun c=>∃ ds∈ordsOf c.wd,srcMay c ds=true∧c.facts.clashes (c.facts.before c.reads)=true) ?_]
 ·simp
 ·intro a c
  unfold zJb zJp
  rw[fold_clashM (zIG c.wd c.facts c.reads (c.facts.before c.reads)) (fun ds=>srcMay c ds=true∧c.facts.clashes (c.facts.before c.reads)=true) ?_]
  ·rfl
  ·intro a ds
   unfold zIG srcMay placesAt
   split
   ·rename_i h
    cases a.clash<;>simp[h]
   ·rename_i h
    simp[h]
theorem fold_rising {α:Type} (F:Ans→α→Ans) (hF:∀ a x,zKi a.rows→zKi (F a x).rows):∀ (l:List α) (a:Ans),zKi a.rows→zKi (l.foldl F a).rows
 | [],a,h=>h
 | x::l,a,h=>by rw[List.foldl_cons];exact fold_rising F hF l _ (hF a x h)
theorem zJq (ts:List P.Thr):zKi (zIC ts).rows:=by
 refine fold_rising _ (fun a c h=>?_) _ _ List.Pairwise.nil
 refine fold_rising _ (fun a ds h=>?_) _ _ h
 unfold zIG
 split
 ·exact ins_rising h
 ·exact h
theorem cands_mem {ts:List P.Thr} {c:Cand}:c∈cands ts ↔ ∃ d∈zIE (zAT (runs ts)),∃ rs∈zIE (lens (zIk (zIl (runs ts) d).events)),c=⟨zIl (runs ts) d,zIx (zIl (runs ts) d).events,(zIx (zIl (runs ts) d).events).reads (zJl (zIk (zIl (runs ts) d).events) rs)⟩∧c.facts.hangsOn c.reads=false:=by
 unfold cands candsIn
 simp only[List.mem_flatMap,List.mem_filter,List.mem_map,Bool.not_eq_true']
 constructor
 ·rintro ⟨d,hd,⟨⟨rs,hrs,rfl⟩,h⟩⟩
  exact⟨d,hd,rs,hrs,rfl,h⟩
 ·rintro ⟨d,hd,rs,hrs,rfl,h⟩
  exact⟨d,hd,⟨⟨rs,hrs,rfl⟩,h⟩⟩
theorem nodup_len {α:Type} [DecidableEq α]:∀ (l m:List α),l.Nodup→(∀ x∈l,x∈m)→l.length≤m.length
 | [],m,_,_=>by simp
 | x::l,m,h,hs=>by
  have hx:=hs x (by simp)
  have h1:=nodup_len l (m.erase x) (List.nodup_cons.1 h).2 (fun y hy=>(List.mem_erase_of_ne (fun e:y=x=>(List.nodup_cons.1 h).1 (by rw[← e];exact hy))).2 (hs y (List.mem_cons_of_mem _ hy)))
  have h2:=List.length_erase_of_mem hx
  have h3:=List.length_pos_of_mem hx
  simp only[List.length_cons]
  omega
theorem zJA {l:List (List Int)} (h:zKi l):l.Nodup:=by
 refine List.Pairwise.imp ?_ h
 intro a b hab e
 rw[e,cmp_self] at hab
 omega
theorem runs_count:∀ (ts:List P.Thr) (i:Nat),(zIE (zAT (runsFrom i ts))).length≤4 ^ (P.tot P.isR ts).toNat
 | [],i=>by simp[runsFrom,zAT,zIE,P.tot]
 | t::ts,i=>by
  simp only[runsFrom,zAT,List.map_cons]
  rw[digitRows_len]
  have h1:=runs_count ts (i+1)
  have h2:=runsOf_len t i
  rw[codes_eq] at h2
  have hb:=(P.zJw P.isR t.stmts).1
  have hb2:0≤P.tot P.isR ts:=by
   clear h1
   induction ts with
   | nil=>simp[P.tot]
   | cons v l ih=>simp only[P.tot];have:=(P.zJw P.isR v.stmts).1;omega
  simp only[P.tot]
  rw[show (P.cnt P.isR t.stmts+P.tot P.isR ts).toNat=(P.tot P.isR ts).toNat+(P.cnt P.isR t.stmts).toNat by omega,Nat.pow_add]
  exact Nat.mul_le_mul h1 (by simpa using h2)
def four:List Int:=[0,1,2,3]
theorem four_mem {x:Int} (h:0≤x∧x<4):x∈four:=by
 simp only[four,List.mem_cons,List.mem_nil_iff,or_false];omega
def allRows (ts:List P.Thr):List (List Int):=(zIE (zAT (runs ts))).flatMap fun d=>four.flatMap fun a=>four.flatMap fun b=>four.map fun c=>(zIl (runs ts) d).regs++[a,b,c]
theorem flat_len {α β:Type} (f:α→List β) (n:Nat) (h:∀ a,(f a).length=n):∀ l:List α,(l.flatMap f).length=l.length*n
 | []=>by simp
 | a::l=>by rw[List.flatMap_cons,List.length_append,flat_len f n h l,h,List.length_cons,Nat.succ_mul];omega
theorem allRows_len (ts:List P.Thr):(allRows ts).length=(zIE (zAT (runs ts))).length*64:=by
 unfold allRows
 refine flat_len _ _ (fun d=>?_) _
 rw[flat_len _ 16 (fun a=>?_)]
 ·rfl
 ·rw[flat_len _ 4 (fun b=>?_)]
  ·rfl
  ·simp[four]
theorem digitRows_ok:∀ {bs ds:List Int},ds∈zIE bs→DigOk bs ds
 | [],ds,h=>by simp[zIE] at h;rw[h];trivial
 | b::bs,ds,h=>by
  simp only[zIE,List.mem_flatMap,List.mem_map,List.mem_range] at h
  obtain⟨r,hr,d,hd,rfl⟩:=h
  exact⟨by omega,by omega,digitRows_ok hr⟩
theorem zJg {ts:List P.Thr} (h:P.KerIs ts):(zIC ts).rows.length<100000000:=by
 have h1:(zIC ts).rows.length≤(allRows ts).length:=by
  refine nodup_len _ _ (zJA (zJq ts)) (fun r hr=>?_)
  obtain⟨c,hc,ds,hds,_,rfl⟩:=(source_rows ts r).1 hr
  obtain⟨d,hd,rs,hrs,rfl,_⟩:=cands_mem.1 hc
  have hw:=wi_ok (ker_wi h (digitRows_ok hd)) (by have:=h.few;omega)
  unfold allRows
  refine List.mem_flatMap.2 ⟨d,hd,?_⟩
  have hv:=fun v=>lastV_rng (zIl (runs ts) d).events v (placesAt (zIl (runs ts) d) ds) hw.evals
  exact List.mem_flatMap.2 ⟨_,four_mem (hv 0),List.mem_flatMap.2 ⟨_,four_mem (hv 1),List.mem_map.2 ⟨_,four_mem (hv 2),rfl⟩⟩⟩
 have h2:=runs_count ts 0
 have h3:4 ^ (P.tot P.isR ts).toNat≤4 ^ 4:=Nat.pow_le_pow_right (by omega) (by have:=h.rd;omega)
 have h4:(zIE (zAT (runs ts))).length≤256:=Nat.le_trans h2 h3
 rw[allRows_len] at h1
 omega
end Q
theorem zCS (s:ByteArray) (w:World) (hs:s.size≤8192) (h0:(P.kernel s.toList).2.1=0) :
  Calls Tryz.prog 13 #[.string s] w fun e w'=>∃ ov vs,e=.returned (.tuple #[ov,.bool (Q.zIC (P.kernel s.toList).1).clash,.int .i64 0,.int .i64 0])∧RowsI w' 0 ov (Q.zIC (P.kernel s.toList).1).rows vs∧Below w.heap.size w w' :=
 zGM s w hs h0 (P.kernel_parts h0).2.1 (Q.zKD (P.zIN h0)) (Q.zJg (P.zIN h0))
end Go.Proofs.YtkmebkbpfmoeaaaGreat
namespace Go.Proofs.YtkmebkbpfmoeaaaGreat
namespace Q
theorem ev_in (es:List Ev) (i:Nat) (h:i<es.length):ev es i=es[i]:=by
 unfold ev;rw[List.getD_eq_getElem?_getD,List.getElem?_eq_getElem h];rfl
theorem ev_out (es:List Ev) (i:Nat) (h:es.length≤i):ev es i=Ev.zero:=by
 unfold ev;rw[List.getD_eq_getElem?_getD,List.getElem?_eq_none h];rfl
theorem ev_append (es fs:List Ev) (i:Nat):ev (es++fs) i=if i<es.length then ev es i else ev fs (i-es.length):=by
 unfold ev
 rw[List.getD_eq_getElem?_getD,List.getD_eq_getElem?_getD,List.getD_eq_getElem?_getD,List.getElem?_append]
 split<;>rfl
theorem ev_map (g:Ev→Ev) (es:List Ev) (i:Nat):ev (es.map g) i=if i<es.length then g (ev es i) else Ev.zero:=by
 by_cases h:i<es.length
 ·rw[if_pos h,ev_in _ _ (by simpa using h),ev_in _ _ h];simp
 ·rw[if_neg h,ev_out _ _ (by simpa using h)]
structure EvR (a b:Ev):Prop where
 le:EvLe a b
 thread:b.thread=a.thread
 var:b.var=a.var
 hangs:b.hangs=a.hangs
theorem EvR.refl (a:Ev):EvR a a:=⟨⟨rfl,rfl,rfl,rfl,rfl,id,id,id,fun _ h=>h,id⟩,rfl,rfl,rfl⟩
structure EsR (es es':List Ev):Prop where
 len:es'.length=es.length
 ev:∀ i,EvR (Q.ev es i) (Q.ev es' i)
theorem EsR.refl (es:List Ev):EsR es es:=⟨rfl,fun _=>EvR.refl _⟩
theorem EsR.app {es es' fs fs':List Ev} (h:EsR es es') (k:EsR fs fs'):EsR (es++fs) (es'++fs') :=
 ⟨by simp[h.len,k.len],fun i=>by
  rw[ev_append,ev_append,h.len]
  split
  ·exact h.ev i
  ·exact k.ev _⟩
theorem esR_one {a b:Ev} (h:EvR a b):EsR [a] [b]:=⟨rfl,fun i=>by
 cases i with
 | zero=>exact h
 | succ n=>rw[ev_out _ _ (by simp),ev_out _ _ (by simp)];exact EvR.refl _⟩
theorem EsR.map {es es':List Ev} (h:EsR es es') (g:Ev→Ev) (hg:∀ a b,EvR a b→EvR (g a) (g b)):EsR (es.map g) (es'.map g) :=
 ⟨by simp[h.len],fun i=>by
  rw[ev_map,ev_map,h.len]
  split
  ·exact hg _ _ (h.ev i)
  ·exact EvR.refl _⟩
structure StLe (s t:P.Stm):Prop where
 kind:t.kind=s.kind
 dest:t.dest=s.dest
 var:t.var=s.var
 a:t.a=s.a
 b:t.b=s.b
 ord:s.order≠0→t.order≠0
 rel:P.rel s.order=true→P.rel t.order=true
 acq:P.acq s.order=true→P.acq t.order=true
 sc:s.kind=4→t.order=s.order
 scope:s.scope=1→t.scope=1
def Mach.wit (m:Mach) (es:List Ev):Mach:={ m with events:=es }
section
variable {m:Mach} {es':List Ev} {s t:P.Stm}
theorem valueOf_r (h:EsR m.events es') (i:Nat):(m.wit es').valueOf i=m.valueOf i:=(h.ev i).le.value
theorem event_r (h:StLe s t) (kind:Int) (hk:kind=2→s.kind=4) (es':List Ev):EvR (m.event kind s) ((m.wit es').event kind t) where
 le:=⟨rfl,rfl,rfl,by simp only[Mach.event,h.kind],rfl,h.ord,h.rel,h.acq,fun e1 e2=>by
  have:=h.sc (hk e1)
  show t.order=5
  rw[this];exact e2,h.scope⟩
 thread:=rfl
 var:=h.var
 hangs:=rfl
theorem EvR.val {a b:Ev} (h:EvR a b) (v:Int):EvR { a with value:=v } { b with value:=v } :=
 ⟨⟨h.le.kind,h.le.block,rfl,h.le.step,h.le.bars,h.le.ord,h.le.rel,h.le.acq,h.le.sc,h.le.scope⟩,h.thread,h.var,h.hangs⟩
theorem EvR.hng {a b:Ev} (h:EvR a b) (v:Nat):EvR { a with hangs:=v } { b with hangs:=v } :=
 ⟨⟨h.le.kind,h.le.block,h.le.value,h.le.step,h.le.bars,h.le.ord,h.le.rel,h.le.acq,h.le.sc,h.le.scope⟩,h.thread,h.var,rfl⟩
def MR (m m':Mach):Prop:=∃ es',EsR m.events es'∧m'=m.wit es'
theorem MR.read {m':Mach} (h:MR m m') (hs:StLe s t):MR (m.read s) (m'.read t):=by
 obtain⟨es',he,rfl⟩:=h
 exact⟨es'++[{ (m.wit es').event 0 t with value:=(m.unread % 4:Nat) }],he.app (esR_one ((event_r hs 0 (by omega) es').val _)),rfl⟩
theorem MR.write {m':Mach} (h:MR m m') (hs:StLe s t) (v:Int) (u:Nat):MR (m.write s v u) (m'.write t v u):=by
 obtain⟨es',he,rfl⟩:=h
 exact⟨es'++[{ (m.wit es').event 1 t with value:=v,hangs:=m.asked ||| u }],he.app (esR_one (EvR.hng (EvR.val (event_r (m:=m) hs 1 (by omega) es') v) (m.asked ||| u))),rfl⟩
theorem wit_give (m:Mach) (es:List Ev) (d v:Int) (u:Nat):(m.wit es).give d v u=(m.give d v u).wit es:=by
 unfold Mach.give;split<;>rfl
theorem give_ev (m:Mach) (d v:Int) (u:Nat):(m.give d v u).events=m.events:=by unfold Mach.give;split<;>rfl
theorem MR.give {m':Mach} (h:MR m m') (d v:Int) (u:Nat):MR (m.give d v u) (m'.give d v u):=by
 obtain⟨es',he,rfl⟩:=h
 exact⟨es',by rw[give_ev];exact he,wit_give _ _ _ _ _⟩
theorem MR.giveRead {m':Mach} (h:MR m m') (d:Int) (r:Nat):MR (m.giveRead d r) (m'.giveRead d r):=by
 unfold Mach.giveRead
 have e:m'.valueOf r=m.valueOf r:=by obtain⟨es',he,rfl⟩:=h;exact valueOf_r he r
 rw[e]
 exact h.give _ _ _
theorem MR.facts {m':Mach} (h:MR m m'):(∀ o,m'.value o=m.value o)∧(∀ o,m'.madeOf o=m.madeOf o)∧m'.events.length=m.events.length∧m'.unread=m.unread∧m'.regs=m.regs:=by
 obtain⟨es',he,rfl⟩:=h
 exact⟨fun _=>rfl,fun _=>rfl,he.len,rfl,rfl⟩
theorem MR.doIt {m':Mach} (h:MR m m') (hs:StLe s t):MR (m.doIt s) (m'.doIt t):=by
 obtain⟨f1,f2,f3,f4,f5⟩:=h.facts
 unfold Mach.doIt
 rw[hs.kind,hs.dest,f3]
 split
 ·exact (h.read hs).giveRead _ _
 ·split
  ·unfold Mach.store
   rw[hs.a,f1,f2]
   exact h.write hs _ _
  ·split
   ·unfold Mach.step
    have hr:=h.read hs
    have e:(m'.read t).valueOf m.events.length=(m.read s).valueOf m.events.length:=by
     obtain⟨es',he,e⟩:=hr
     rw[e];exact valueOf_r he _
    rw[hs.kind,hs.dest,hs.a,f1,f2,f3,e]
    split
    ·exact (hr.write hs _ _).giveRead _ _
    ·exact (hr.write hs _ _).giveRead _ _
   ·split
    ·rename_i k4
     obtain⟨es',he,rfl⟩:=h
     exact⟨es'++[(m.wit es').event 2 t],he.app (esR_one (event_r hs 2 (fun _=>by simpa using k4) es')),rfl⟩
    ·split
     ·obtain⟨es',he,rfl⟩:=h
      exact⟨es'++[(m.wit es').event 3 t,(m.wit es').event 4 t],he.app ((esR_one (event_r hs 3 (by omega) es')).app (esR_one (event_r hs 4 (by omega) es'))),rfl⟩
     ·split
      ·have e:m'.result t=m.result s:=by unfold Mach.result;rw[hs.kind,hs.a,hs.b,f1,f1]
       rw[e,hs.a,hs.b,f2,f2]
       exact h.give _ _ _
      ·exact h
end
structure RunR (r r':Run):Prop where
 regs:r'.regs=r.regs
 evs:EsR r.events r'.events
structure WdR (w w':Wd):Prop where
 regs:w'.regs=w.regs
 evs:EsR w.events w'.events
theorem WdR.join {w w':Wd} (h:WdR w w') {r r':Run} (k:RunR r r'):WdR (w.join r) (w'.join r') :=
 ⟨by unfold Wd.join;simp only;rw[h.regs,k.regs],by
  unfold Wd.join
  simp only
  rw[h.evs.len]
  exact h.evs.app (k.evs.map _ (fun a b hab=>by
   have:=hab.hng (moved a.hangs w.events.length)
   unfold zJh
   rw[hab.hangs]
   exact this))⟩
section
variable {es es':List Ev}
end
theorem readsOf_lenM (cs:List (List Int)) (ds:List Int):(zJl cs ds).length=cs.length:=by simp[zJl]
theorem choices_lenM (es:List Ev):(zIk es).length=es.length:=by simp[zIk]
end Q
namespace P
abbrev blockL:List UInt8:=[98,108,111,99,107]
abbrev deviceL:List UInt8:=[100,101,118,105,99,101]
abbrev storeL:List UInt8:=[115,116,111,114,101]
abbrev loadL:List UInt8:=[108,111,97,100]
abbrev addL:List UInt8:=[97,100,100]
abbrev swapL:List UInt8:=[115,119,97,112]
abbrev relaxedL:List UInt8:=[114,101,108,97,120,101,100]
abbrev acquireW:List UInt8:=[97,99,113,117,105,114,101]
abbrev releaseW:List UInt8:=[114,101,108,101,97,115,101]
abbrev acqrelW:List UInt8:=[97,99,113,114,101,108]
def hW (n:Nat) (w:List UInt8):List UInt8 :=
 if n=1 then swapW relaxedL releaseW (swapW blockL deviceL w)
 else if n=2 then swapW relaxedL acquireW (swapW blockL deviceL w)
 else if n=3 then swapW releaseW acqrelW (swapW acquireW acqrelW (swapW relaxedL acqrelW (swapW blockL deviceL w)))
 else swapW blockL deviceL w
structure RS (s t:Stm):Prop where
 le:Q.StLe s t
 line:t.line=s.line
theorem RS.refl (s:Stm):RS s s:=⟨⟨rfl,rfl,rfl,rfl,rfl,id,id,id,fun _=>rfl,id⟩,rfl⟩
end P
end Go.Proofs.YtkmebkbpfmoeaaaGreat
