import Derived.Test.YtgceflcbckjjiaaGreatDoorB32
set_option linter.unusedVariables false
set_option linter.unusedSimpArgs false
namespace Go.Proofs.YtgceflcbckjjiaaGreatDoor
open Go Go.RowKit
set_option maxRecDepth 100000
section
variable {w w':World} {g:Nat} {a:Q.Ans} {ov:Value} {vs:List Value} {fp:List Nat}
theorem AnsOn.offRow (hA:AnsOn w g a ov vs fp) {B n sz:Nat} {t:TypeId} {v:Value} {xs:List Value} (h:w.ownsRow B t sz v n xs) (h1:t≠62) (h2:t≠99) (h3:t≠32) (k:Nat) (e:v.ownBlock=some k):¬ Wr g ov k:=fun e2=>by
 obtain⟨c,hty⟩:=hA.out.ty
 rcases e2 with e2 | e2
 ·subst e2
  rcases hty with hty | hty
  ·exact own_ne_blk2 h hty h1 e
  ·exact own_ne_blk2 h hty h2 e
 ·rcases hA.out.rows.own.2 with ⟨e3,_⟩ | ⟨b,c2,cur,e3,_,hb,_⟩
  ·rw[e3] at e2;simp[Value.ownBlock] at e2
  ·rw[e3] at e2;simp[Value.ownBlock] at e2
   subst e2
   exact own_ne_blk2 h hb h3 e
theorem AnsOn.offBlk (hA:AnsOn w g a ov vs fp) {k:Nat} {c:Array Value} {t:TypeId} (h:w.heap[k]?=some (.cells c t (0,0))) (h1:t≠62) (h2:t≠99) (h3:t≠32):¬ Wr g ov k:=fun e2=>by
 rcases e2 with e2 | e2
 ·exact hA.ne h (fun e=>h1 e.symm) (fun e=>h2 e.symm) e2.symm
 ·exact own_ne_blk2 hA.out.rows.own h (fun e=>h3 e.symm) e2
theorem row_wr (hA:AnsOn w g a ov vs fp) (hx:XF (Wr g ov) w w') {B n sz:Nat} {t:TypeId} {v:Value} {xs:List Value} (h:w.ownsRow B t sz v n xs) (h1:t≠62) (h2:t≠99) (h3:t≠32):w'.ownsRow B t sz v n xs :=
 ownsRow_keep h (fun k e=>hx.block k (h.lt k e).2 (hA.offRow h h1 h2 h3 k e))
theorem ints_wr (hA:AnsOn w g a ov vs fp) (hx:XF (Wr g ov) w w') {b:Nat} {l:List Int} (h:IntsAt w b l):IntsAt w' b l :=
 h.of_block (hx.block b h.lt (hA.offBlk (t:=3) h (by decide) (by decide) (by decide)))
theorem ctr_wr (hA:AnsOn w g a ov vs fp) (hx:XF (Wr g ov) w w') {gc o gb gd:Nat} {bs ds:List Int} {rest:List (List Int)} (h:CtrOn w gc o gb gd bs ds rest) (hg:w'.heap[gc]?=w.heap[gc]?):CtrOn w' gc o gb gd bs ds rest:=by
 obtain⟨b,⟨c0,c1,c2,cf,cl,cb,cd,n1,n2,n3,n4⟩,h5⟩:=h
 have hc:∀ j,w'.cell? ⟨gc,j,none⟩=w.cell? ⟨gc,j,none⟩:=fun j=>World.cell?_of_block (w:=w) (a:=⟨gc,j,none⟩) hg
 exact⟨b,⟨(hc _).trans c0,(hc _).trans c1,(hc _).trans c2,fun j=>(World.frozen?_of_block (w:=w) (a:=⟨gc,j,none⟩) hg).trans (cf j),Nat.lt_of_lt_of_le cl hx.size,ints_wr hA hx cb,ints_wr hA hx cd,n1,n2,n3,n4⟩,h5⟩
theorem box_wr (hA:AnsOn w g a ov vs fp) (hx:XF (Wr g ov) w w') {gc:Nat} (h:Box w gc):w'.heap[gc]?=w.heap[gc]?:=by
 obtain⟨c,h1,h2⟩:=id h
 exact hx.block gc h.lt (hA.offBlk h1 (by decide) (by decide) (by decide))
theorem CandOn.wr {gc:Nat} {A:WA} {rss:List (List Q.Run)} {st:Option RS} {ds:List Int} {rest:List (List Int)} (h:CandOn w gc A rss st ds rest) (hA:AnsOn w g a ov vs fp) (hne:∀ k,nbS st k→¬ Wr g ov k) (hx:XF (Wr g ov) w w'):CandOn w' gc A rss st ds rest:=by
 have hg:=box_wr hA hx h.box
 have hc:∀ j,w'.cell? ⟨gc,j,none⟩=w.cell? ⟨gc,j,none⟩:=fun j=>World.cell?_of_block (w:=w) (a:=⟨gc,j,none⟩) hg
 refine⟨h.box.of hg,⟨(hc _).trans h.ws.c0,⟨row_wr hA hx h.ws.runs.own (by decide) (by decide) (by decide),h.ws.runs.lv,h.ws.runs.lw,fun i hi u us hu hus=>?_⟩,ctr_wr hA hx h.ws.ctr hg⟩,(hc _).trans h.beg,fun s hs=>?_⟩
 ·have q:=h.ws.runs.runs i hi u us hu hus
  exact⟨row_wr hA hx q.own (by decide) (by decide) (by decide),q.len,fun j hj x hx2=>row_wr hA hx (q.evs j hj x hx2) (by decide) (by decide) (by decide)⟩
 ·obtain⟨hon,hok⟩:=h.rs s hs
  have hn:∀ k,s.R.nb k→¬ Wr g ov k:=fun k hk=>hne k ⟨s,hs,hk⟩
  refine⟨⟨(hc _).trans hon.c0,(hc _).trans hon.c1,hon.wdi.wr hA (fun k e=>hn k (Or.inl e)) hx.block hx.size,rangeAt_keep hon.fc hg,hon.fin.wr hA hx.block,⟨(hc _).trans hon.rd.c0,⟨ownsRow_keep hon.rd.rows.own (fun k e=>hx.block k (hon.rd.rows.own.lt k e).2 (hn k (Or.inr (Or.inl e)))),hon.rd.rows.len,fun i hi u hu=>(hon.rd.rows.rows i hi u hu).own _ (fun k e=>hx.block k ?_ (hn k (Or.inr (Or.inr (Or.inl ⟨u,List.mem_of_getElem? hu,e⟩))))) hx.size⟩,ctr_wr hA hx hon.rd.ctr hg,hon.rd.nc,hon.rd.ne⟩,hon.n1,hon.n2,hon.n3⟩,hok⟩
  exact rowI_lt (hon.rd.rows.rows i hi u hu) k e
end
theorem RA.on.nblt {R:RA} {w:World} {gc:Nat} {A:WA} {wd:Q.Wd} {ds:List Int} {rest:List (List Int)} (h:R.on w gc A wd ds rest) (k:Nat) (hk:R.nb k):k<w.heap.size:=by
 obtain⟨b,hc⟩:=h.rd.ctr.ctr
 rcases hk with e | e | ⟨u,hu,e⟩ | e | e
 ·exact rowI_lt h.wdi.regs k e
 ·exact (h.rd.rows.own.lt k e).2
 ·obtain⟨i,hi,hui⟩:=List.getElem_of_mem hu
  have hl:i<(Q.choices wd.events).length:=by have:=h.rd.rows.len;omega
  exact rowI_lt (h.rd.rows.rows i hl u (by rw[List.getElem?_eq_getElem hi,hui])) k e
 ·subst e;exact hc.bases.lt
 ·subst e;exact hc.digits.lt
theorem CandOn.nblt {w:World} {gc:Nat} {A:WA} {rss:List (List Q.Run)} {st:Option RS} {ds:List Int} {rest:List (List Int)} (h:CandOn w gc A rss st ds rest) (k:Nat) (hk:nbS st k):k<w.heap.size:=by
 obtain⟨s,hs,hk⟩:=hk
 exact (h.rs s hs).1.nblt k hk
theorem CandOn.gdlt {w:World} {gc:Nat} {A:WA} {rss:List (List Q.Run)} {st:Option RS} {ds:List Int} {rest:List (List Int)} (h:CandOn w gc A rss st ds rest) (k:Nat) (hk:gdS st k):k<w.heap.size:=by
 obtain⟨s,hs,hk⟩:=hk
 subst hk
 exact h.nblt _ ⟨s,hs,Or.inr (Or.inr (Or.inr (Or.inr rfl)))⟩
structure BothOn (w0 w:World) (gc g:Nat) (A:WA) (rss:List (List Q.Run)) (st:Option RS) (ds:List Int) (rest:List (List Int)) (a:Q.Ans) (ov:Value) (vs:List Value) (fp:List Nat):Prop where
 cand:CandOn w gc A rss st ds rest
 ans:AnsOn w g a ov vs fp
 nb:∀ k,nbS st k→¬ Wr g ov k
 fpd:∀ k∈fp,k≠gc∧k≠A.gd∧¬ gdS st k
 low:w0.heap.size≤gc∧w0.heap.size≤g∧w0.heap.size≤A.gd∧(∀ k,gdS st k→w0.heap.size≤k)∧(∀ k,ov.ownBlock=some k→w0.heap.size≤k)∧∀ k∈fp,w0.heap.size≤k
 bl:Below w0.heap.size w0 w
section
variable {w0 w:World} {gc g:Nat} {A:WA} {rss:List (List Q.Run)} {st:Option RS} {ds:List Int} {rest:List (List Int)} {a:Q.Ans} {ov:Value} {vs:List Value} {fp:List Nat}
theorem BothOn.below (h:BothOn w0 w gc g A rss st ds rest a ov vs fp) {w':World} (hb:Below w.heap.size w w'):BothOn w0 w' gc g A rss st ds rest a ov vs fp :=
 ⟨h.cand.below hb,h.ans.below hb,h.nb,h.fpd,h.low,bstep h.bl (Nat.le_refl _) hb⟩
theorem CFrame.xf {w w':World} {gc:Nat} {A:WA} {st:Option RS} (h:CFrame w w' gc A st):XF (fun k=>k=gc∨k=A.gd∨gdS st k) w w' :=
 ⟨h.os,h.tape,h.output,h.size,fun k hk hn=>h.block k hk (fun e=>hn (Or.inl e)) (fun e=>hn (Or.inr (Or.inl e))) (fun e=>hn (Or.inr (Or.inr e)))⟩
theorem XF.low {P:Nat→Prop} {w0 w w':World} (hb:Below w0.heap.size w0 w) (h:XF P w w') (hp:∀ k,P k→w0.heap.size≤k):Below w0.heap.size w0 w' :=
 ⟨h.os.trans hb.os,h.tape.trans hb.tape,h.output.trans hb.output,Nat.le_trans hb.size h.size,fun k hk=>(h.block k (Nat.lt_of_lt_of_le hk hb.size) (fun e=>by have:=hp k e;omega)).trans (hb.block k hk)⟩
theorem BothOn.frame (h:BothOn w0 w gc g A rss st ds rest a ov vs fp) {w':World} (hF:CFrame w w' gc A st):AnsOn w' g a ov vs fp∧Below w0.heap.size w0 w':=by
 obtain⟨cc,hcc,_⟩:=id h.cand.box
 obtain⟨bw,hcw⟩:=h.cand.ws.ctr.ctr
 have hG:∀ k,gdS st k→∃ l,IntsAt w k l:=fun k hk=>by
  obtain⟨s,hs,rfl⟩:=hk
  obtain⟨b,hc⟩:=(h.cand.rs s hs).1.rd.ctr.ctr
  exact⟨_,hc.digits⟩
 have hP:∀ k,(k=gc∨k=A.gd∨gdS st k)→¬ Wr g ov k:=fun k hk=>by
  rcases hk with e | e | e
  ·subst e;exact h.ans.offBlk hcc (by decide) (by decide) (by decide)
  ·subst e;exact h.ans.offBlk (t:=3) hcw.digits (by decide) (by decide) (by decide)
  ·obtain⟨l,hl⟩:=hG k e
   exact h.ans.offBlk (t:=3) hl (by decide) (by decide) (by decide)
 refine⟨h.ans.xf hF.xf (fun e=>hP g e (Or.inl rfl)) (fun k e e2=>hP k e2 (Or.inr e)) (fun k hk e=>?_),hF.xf.low h.bl (fun k e=>?_)⟩
 ·rcases e with e | e | e
  ·exact (h.fpd k hk).1 e
  ·exact (h.fpd k hk).2.1 e
  ·exact (h.fpd k hk).2.2 e
 ·rcases e with e | e | e
  ·rw[e];exact h.low.1
  ·rw[e];exact h.low.2.2.1
  ·exact h.low.2.2.2.1 k e
theorem BothOn.next (h:BothOn w0 w gc g A rss st ds rest a ov vs fp) {w':World} {s:RS} {ds2:List Int} {rest2:List (List Int)} (hF:CFrame w w' gc A st) (hC:CandOn w' gc A rss (some s) ds2 rest2) (hN:∀ k,s.R.nb k→nbS st k∨w.heap.size≤k) (hG:gdS st s.R.gd∨w.heap.size≤s.R.gd):BothOn w0 w' gc g A rss (some s) ds2 rest2 a ov vs fp:=by
 obtain⟨h1,h2⟩:=h.frame hF
 have hg:∀ k,gdS (some s) k→k=s.R.gd:=fun k hk=>by
  obtain⟨s',e,e2⟩:=hk
  simp only[Option.some.injEq] at e
  subst e;exact e2
 refine⟨hC,h1,fun k hk e=>?_,fun k hk=>⟨(h.fpd k hk).1,(h.fpd k hk).2.1,fun e=>?_⟩,⟨h.low.1,h.low.2.1,h.low.2.2.1,fun k e=>?_,h.low.2.2.2.2.1,h.low.2.2.2.2.2⟩,h2⟩
 ·obtain⟨s',e1,hk⟩:=hk
  simp only[Option.some.injEq] at e1
  subst e1
  rcases hN k hk with h3 | h3
  ·exact h.nb k h3 e
  ·rcases e with e | e
   ·have:=h.ans.out.lt;omega
   ·have:=h.ans.out.ownlt k e;omega
 ·rw[hg k e] at hk e
  rcases hG with h3 | h3
  ·exact (h.fpd _ hk).2.2 h3
  ·have:=h.ans.out.fpl _ hk;omega
 ·rw[hg k e]
  rcases hG with h3 | h3
  ·exact h.low.2.2.2.1 _ h3
  ·have:=h.bl.size;omega
theorem BothOn.grow (h:BothOn w0 w gc g A rss st ds rest a ov vs fp) {w':World} {a':Q.Ans} {ov':Value} {vs':List Value} {fp':List Nat} (hA:AnsOn w' g a' ov' vs' fp') (hF:AFrame (Wr g ov) w w' ov ov' fp fp'):BothOn w0 w' gc g A rss st ds rest a' ov' vs' fp':=by
 have hbs:=h.bl.size
 refine⟨h.cand.wr h.ans h.nb hF.xf,hA,fun k hk e=>?_,fun k hk=>?_,⟨h.low.1,h.low.2.1,h.low.2.2.1,h.low.2.2.2.1,fun k e=>?_,fun k hk=>?_⟩,hF.xf.low h.bl (fun k e=>?_)⟩
 ·rcases e with e | e
  ·exact h.nb k hk (Or.inl e)
  ·rcases hF.own with e1 | ⟨b,e1,hb⟩
   ·exact h.nb k hk (Or.inr (e1.symm.trans e))
   ·rw[e1] at e;simp at e
    have:=h.cand.nblt k hk;omega
 ·rcases hF.fpn k hk with h3 | h3
  ·exact h.fpd k h3
  ·obtain⟨bw,hcw⟩:=h.cand.ws.ctr.ctr
   have l1:=h.cand.box.lt
   have l2:=hcw.digits.lt
   exact⟨by omega,by omega,fun e=>by have:=h.cand.gdlt k e;omega⟩
 ·rcases hF.own with e1 | ⟨b,e1,hb⟩
  ·exact h.low.2.2.2.2.1 k (e1.symm.trans e)
  ·rw[e1] at e;simp at e;omega
 ·rcases hF.fpn k hk with h3 | h3
  ·exact h.low.2.2.2.2.2 k h3
  ·omega
 ·rcases e with e | e
  ·rw[e];exact h.low.2.1
  ·exact h.low.2.2.2.2.1 k e
end
namespace Q
theorem factsOf_events (es:List Ev):(factsOf es).events=es:=by
 have k1:∀ (i:Nat) (l:List Nat) (f:Facts),(l.foldl (fun f k=>f.pair i (ev es i) k (ev es k)) f).events=f.events:=by
  intro i l
  induction l with
  | nil=>intro f;rfl
  | cons k l ih=>intro f;rw[List.foldl_cons,ih];rfl
 have k2:∀ (l:List Nat) (f:Facts),(l.foldl (factsRow es) f).events=f.events:=by
  intro l
  induction l with
  | nil=>intro f;rfl
  | cons k l ih=>intro f;rw[List.foldl_cons,ih];exact k1 _ _ _
 exact k2 _ _
end Q
theorem rows_any (g:Nat) (ov:Value) (w:World) (hc:w.cell? ⟨g,0,none⟩=some ov) (hl:g<w.heap.size) (hf:∃ a n c,ov=.slice a n c) :
  Calls Tryz.prog 38 #[.pointer (some ⟨g,0,none⟩)] w fun e w'=>e=.returned ov∧w'=w:=by
 obtain⟨a,n,c,rfl⟩:=hf
 go_enter Tryz.func38,Tryz.ntmps38
 go_wp2
 go_ret
 exact⟨rfl,rfl⟩
theorem candOn_start {w1 W1:World} {rv:Value} {vs:List Value} {wss:List (List Value)} {gb gd:Nat} {rss:List (List Q.Run)} (h:RunsAll w1 0 rv rss vs wss) (hb:IntsAt w1 gb (lensR rss)) (hd:IntsAt w1 gd (Q.zeros rss.length)) (hne:gb≠gd)
  (hW:W1.heap[w1.heap.size]?=some (.cells (candC rv (.slice (some ⟨gb,0,none⟩) rss.length rss.length) (.slice (some ⟨gd,0,none⟩) rss.length rss.length) (.bool false)) 79 (0,0))) (hB:Below w1.heap.size w1 W1) :
  CandOn W1 w1.heap.size ⟨rv,vs,wss,gb,gd⟩ rss none (Q.zeros rss.length) (Q.digitRows (lensR rss)):=by
 have l2:=hb.lt
 have l3:=hd.lt
 have hc:∀ j (v:Value),(candC rv (.slice (some ⟨gb,0,none⟩) rss.length rss.length) (.slice (some ⟨gd,0,none⟩) rss.length rss.length) (.bool false))[j]?=some v→W1.cell? ⟨w1.heap.size,j,none⟩=some v:=fun j v hv=>by simp only[World.cell?,hW];simpa using hv
 have e1:(lensR rss).length=rss.length:=by simp[lensR]
 have e2:(Q.zeros rss.length).length=rss.length:=by simp[Q.zeros]
 refine⟨⟨_,hW,by simp[candC]⟩,⟨hc 13 _ rfl,h.below hB,false,⟨?_,?_,hc 16 _ rfl,fun j=>by simp[World.frozen?,hW],(Array.getElem?_eq_some_iff.1 hW).1,hb.below hB,hd.below hB,?_,?_,hne,?_⟩,Or.inl ⟨rfl,?_,rfl⟩⟩,hc 21 _ rfl,fun s hs=>by simp at hs⟩
 ·rw[show (List.map (fun r=>((r:List Q.Run).length:Int)) rss).length=rss.length by simp];exact hc 14 _ rfl
 ·rw[e2];exact hc 15 _ rfl
 ·simp only;omega
 ·simp only;omega
 ·rw[e2];simp
 ·simp
theorem ans_start {W:World} {g:Nat} {t:TypeId} (h:W.heap[g]?=some (.cells #[.slice none 0 0,.bool false] t (0,0))) (ht:t=62∨t=99):AnsOn W g ⟨[],false⟩ (.slice none 0 0) [] []:=by
 have hl:=(Array.getElem?_eq_some_iff.1 h).1
 refine⟨⟨by simp[World.cell?,h],hl,by simp[World.frozen?,h],⟨World.ownsRow_nil _ _ _ _,rfl,fun i hi=>by simp at hi⟩,⟨#[.slice none 0 0,.bool false],?_⟩,fun u hu=>by simp at hu,fun k hk=>by simp at hk,fun k hk=>by simp at hk⟩,by simp[World.cell?,h],⟨by simp[Q.Rising],fun x hx=>by simp at hx⟩⟩
 rcases ht with rfl | rfl
 ·exact Or.inl h
 ·exact Or.inr h
def OutInv (w0:World) (gc g:Nat) (A:WA) (rss:List (List Q.Run)) (F:Q.Ans→Q.Cand→Q.Ans) (fin:Q.Ans) (wr:World) (m:Nat):Prop :=
 ∃ st ds rest a ov vs fp,BothOn w0 wr gc g A rss st ds rest a ov vs fp∧(Q.candsL (remS rss st rest)).foldl F a=fin∧(Q.candsL (remS rss st rest)).length=m
theorem both_start {w w1 W1:World} {g:Nat} {rv:Value} {vs:List Value} {wss:List (List Value)} {gb gd:Nat} {rss:List (List Q.Run)} {t:TypeId} (h:RunsAll w1 0 rv rss vs wss) (hb:IntsAt w1 gb (lensR rss)) (hd:IntsAt w1 gd (Q.zeros rss.length)) (hne:gb≠gd)
  (hW:W1.heap[w1.heap.size]?=some (.cells (candC rv (.slice (some ⟨gb,0,none⟩) rss.length rss.length) (.slice (some ⟨gd,0,none⟩) rss.length rss.length) (.bool false)) 79 (0,0))) (hB:Below w1.heap.size w1 W1)
  (hg:W1.heap[g]?=some (.cells #[.slice none 0 0,.bool false] t (0,0))) (ht:t=62∨t=99) (hw:w.heap.size≤w1.heap.size) (hg0:w.heap.size≤g) (hgd:w.heap.size≤gd) (hbl:Below w.heap.size w W1) :
  BothOn w W1 w1.heap.size g ⟨rv,vs,wss,gb,gd⟩ rss none (Q.zeros rss.length) (Q.digitRows (lensR rss)) ⟨[],false⟩ (.slice none 0 0) [] [] :=
 ⟨candOn_start h hb hd hne hW hB,ans_start hg ht,fun k hk=>by obtain⟨s,hs,_⟩:=hk;simp at hs,fun k hk=>by simp at hk,⟨hw,hg0,hgd,fun k hk=>by obtain⟨s,hs,_⟩:=hk;simp at hs,fun k e=>by simp[Value.ownBlock] at e,fun k hk=>by simp at hk⟩,hbl⟩
end Go.Proofs.YtgceflcbckjjiaaGreatDoor
namespace Go.Proofs.YtgceflcbckjjiaaGreatDoor
open Go Go.RowKit
def candT (a:FA) (gr:Nat):Array Value:=#[a.ev,.slice (some ⟨a.g1,0,none⟩) a.n a.n,.slice (some ⟨a.g2,0,none⟩) a.n a.n,.slice (some ⟨a.g3,0,none⟩) a.n a.n,.slice (some ⟨a.g4,0,none⟩) a.n a.n,.slice (some ⟨a.g5,0,none⟩) a.n a.n,.slice (some ⟨a.g6,0,none⟩) a.n a.n,.slice (some ⟨a.g7,0,none⟩) a.n a.n,.slice (some ⟨a.g8,0,none⟩) a.n a.n,.slice (some ⟨a.g9,0,none⟩) a.n a.n,.slice (some ⟨gr,0,none⟩) a.n a.n]
end Go.Proofs.YtgceflcbckjjiaaGreatDoor
namespace Go.Proofs.YtgceflcbckjjiaaGreatDoor
open Go Go.RowKit
set_option maxRecDepth 100000

set_option maxHeartbeats 1600000 in
theorem misses_any (a:FA) (f:Q.Facts) (gr:Nat) (rd:List Nat) (gb:Nat) (bh:List Nat) (w:World) (hf:FactsIn w a f) (hr:RelAt w gr a.n rd) (hb:RelAt w gb a.n bh) :
  Calls Tryz.prog 95 #[.agg (facCells a),.agg #[.slice (some ⟨gr,0,none⟩) a.n a.n],.agg #[.slice (some ⟨gb,0,none⟩) a.n a.n]] w fun e w'=>RelR w w' a.n (Q.thenR rd bh) e:=by
 obtain⟨x,c,hev,_⟩:=hf.form
 obtain⟨n,ev,g1,g2,g3,g4,g5,g6,g7,g8,g9⟩:=a
 simp only at hev hr hb
 subst hev
 simp only[facCells]
 obtain⟨k0,k1,k2,k3,hsz,hbw⟩:=boxes4 w #[.slice x n c,.slice (some ⟨g1,0,none⟩) n n,.slice (some ⟨g2,0,none⟩) n n,.slice (some ⟨g3,0,none⟩) n n,.slice (some ⟨g4,0,none⟩) n n,.slice (some ⟨g5,0,none⟩) n n,.slice (some ⟨g6,0,none⟩) n n,.slice (some ⟨g7,0,none⟩) n n,.slice (some ⟨g8,0,none⟩) n n,.slice (some ⟨g9,0,none⟩) n n] #[.slice (some ⟨gr,0,none⟩) n n] #[.slice (some ⟨gb,0,none⟩) n n] #[.slice none 0 0] 70 68 68 68
 have HF:=hide (hf.below hbw)
 have Rr:=hide (hr.below hbw)
 have Rb:=hide (hb.below hbw)
 have BW0:=hide hbw
 clear hbw hf hr hb
 go_enter Tryz.func95,Tryz.ntmps95
 go_upto_region 1 with fail
 generalize hE:((((w.alloc (.cells #[.slice x n c,.slice (some ⟨g1,0,none⟩) n n,.slice (some ⟨g2,0,none⟩) n n,.slice (some ⟨g3,0,none⟩) n n,.slice (some ⟨g4,0,none⟩) n n,.slice (some ⟨g5,0,none⟩) n n,.slice (some ⟨g6,0,none⟩) n n,.slice (some ⟨g7,0,none⟩) n n,.slice (some ⟨g8,0,none⟩) n n,.slice (some ⟨g9,0,none⟩) n n] 70)).alloc (.cells #[.slice (some ⟨gr,0,none⟩) n n] 68)).alloc (.cells #[.slice (some ⟨gb,0,none⟩) n n] 68)).alloc (.cells #[.slice none 0 0] 68))=W0 at *
 have c0_0_0:W0.cell? ⟨w.heap.size,0,none⟩=some (.slice x n c):=by simp[World.cell?,k0]
 have c0_0_1:W0.cell? ⟨w.heap.size,1,none⟩=some (.slice (some ⟨g1,0,none⟩) n n):=by simp[World.cell?,k0]
 have c0_0_2:W0.cell? ⟨w.heap.size,2,none⟩=some (.slice (some ⟨g2,0,none⟩) n n):=by simp[World.cell?,k0]
 have c0_0_3:W0.cell? ⟨w.heap.size,3,none⟩=some (.slice (some ⟨g3,0,none⟩) n n):=by simp[World.cell?,k0]
 have c0_0_4:W0.cell? ⟨w.heap.size,4,none⟩=some (.slice (some ⟨g4,0,none⟩) n n):=by simp[World.cell?,k0]
 have c0_0_5:W0.cell? ⟨w.heap.size,5,none⟩=some (.slice (some ⟨g5,0,none⟩) n n):=by simp[World.cell?,k0]
 have c0_0_6:W0.cell? ⟨w.heap.size,6,none⟩=some (.slice (some ⟨g6,0,none⟩) n n):=by simp[World.cell?,k0]
 have c0_0_7:W0.cell? ⟨w.heap.size,7,none⟩=some (.slice (some ⟨g7,0,none⟩) n n):=by simp[World.cell?,k0]
 have c0_0_8:W0.cell? ⟨w.heap.size,8,none⟩=some (.slice (some ⟨g8,0,none⟩) n n):=by simp[World.cell?,k0]
 have c0_0_9:W0.cell? ⟨w.heap.size,9,none⟩=some (.slice (some ⟨g9,0,none⟩) n n):=by simp[World.cell?,k0]
 have l0_0:w.heap.size<W0.heap.size:=by omega
 have f0_0:∀ j,W0.frozen? ⟨w.heap.size,j,none⟩=false:=fun j=>by simp[World.frozen?,k0]
 have K0_0:=hide k0
 have c0_1_0:W0.cell? ⟨w.heap.size+1,0,none⟩=some (.slice (some ⟨gr,0,none⟩) n n):=by simp[World.cell?,k1]
 have l0_1:w.heap.size+1<W0.heap.size:=by omega
 have f0_1:∀ j,W0.frozen? ⟨w.heap.size+1,j,none⟩=false:=fun j=>by simp[World.frozen?,k1]
 have K0_1:=hide k1
 have c0_2_0:W0.cell? ⟨w.heap.size+2,0,none⟩=some (.slice (some ⟨gb,0,none⟩) n n):=by simp[World.cell?,k2]
 have l0_2:w.heap.size+2<W0.heap.size:=by omega
 have f0_2:∀ j,W0.frozen? ⟨w.heap.size+2,j,none⟩=false:=fun j=>by simp[World.frozen?,k2]
 have K0_2:=hide k2
 have c0_3_0:W0.cell? ⟨w.heap.size+3,0,none⟩=some (.slice none 0 0):=by simp[World.cell?,k3]
 have l0_3:w.heap.size+3<W0.heap.size:=by omega
 have f0_3:∀ j,W0.frozen? ⟨w.heap.size+3,j,none⟩=false:=fun j=>by simp[World.frozen?,k3]
 have K0_3:=hide k3
 have hsq0:w.heap.size+4≤W0.heap.size:=by omega
 clear hE hsz k0 k1 k2 k3
 go_wp2_with (first
  | (go_at_call_of 113 (Value.slice (some ⟨gr,0,none⟩) n n);refine (then_rel gr gb n _ _ _ (Rr.out.below (Below.refl _ _)) (Rb.out.below (Below.refl _ _))).mono ?_;rintro e w0_0 ⟨q0_0,rfl,hq0_0,hb0_0⟩;have B0_0:Hid (Below W0.heap.size W0 w0_0):=hb0_0;have c1_0_0:=(B0_0.out.cell (p:=⟨w.heap.size+1,0,none⟩) l0_1).trans c0_1_0;have c1_0_1:=(B0_0.out.cell (p:=⟨w.heap.size+2,0,none⟩) l0_2).trans c0_2_0;have z1_0:=(B0_0.out.frozen (p:=⟨w.heap.size+3,0,none⟩) l0_3).trans (f0_3 0);have y1_0:=(B0_0.out.cell (p:=⟨w.heap.size+3,0,none⟩) l0_3).trans c0_3_0;have Q0_0:=hide hq0_0;clear hq0_0))
 all_goals
  (try go_wp2)
  have KR:=setCell_block ((B0_0.out.block _ l0_3).trans K0_3.out) 0 (.slice (some ⟨q0_0,0,none⟩) n n)
  refine ret_rel (p:=6) (w.heap.size+3) _ (by kernel_rfl) rfl (by exact KR) rfl ⟨q0_0,rfl,⟨(Q0_0.out).at_.of_block (Below.heap_setCell _ _ _ _ (by have:=Q0_0.out.at_;unfold SetsAt at this;intro e;rw[e] at this;rw[(B0_0.out.block _ l0_3).trans K0_3.out] at this;simp at this)),(Q0_0.out).len,(Q0_0.out).fits⟩,(bstep BW0.out (Nat.le_refl _) B0_0.out).setCell (p:=⟨w.heap.size+3,0,none⟩) (by simp) _⟩
set_option maxHeartbeats 1600000 in
theorem comm_any (a:FA) (f:Q.Facts) (gr:Nat) (rd:List Nat) (gb:Nat) (bh:List Nat) (gm:Nat) (ms:List Nat) (w:World) (hf:FactsIn w a f) (hr:RelAt w gr a.n rd) (hb:RelAt w gb a.n bh) (hm:RelAt w gm a.n ms) :
  Calls Tryz.prog 121 #[.agg (facCells a),.agg #[.slice (some ⟨gr,0,none⟩) a.n a.n],.agg #[.slice (some ⟨gb,0,none⟩) a.n a.n],.agg #[.slice (some ⟨gm,0,none⟩) a.n a.n]] w fun e w'=>RelR w w' a.n (Q.communicates rd bh ms) e:=by
 obtain⟨x,c,hev,_⟩:=hf.form
 obtain⟨n,ev,g1,g2,g3,g4,g5,g6,g7,g8,g9⟩:=a
 simp only at hev hr hb hm
 subst hev
 simp only[facCells]
 obtain⟨k0,k1,k2,k3,k4,hsz,hbw⟩:=boxes5 w #[.slice x n c,.slice (some ⟨g1,0,none⟩) n n,.slice (some ⟨g2,0,none⟩) n n,.slice (some ⟨g3,0,none⟩) n n,.slice (some ⟨g4,0,none⟩) n n,.slice (some ⟨g5,0,none⟩) n n,.slice (some ⟨g6,0,none⟩) n n,.slice (some ⟨g7,0,none⟩) n n,.slice (some ⟨g8,0,none⟩) n n,.slice (some ⟨g9,0,none⟩) n n] #[.slice (some ⟨gr,0,none⟩) n n] #[.slice (some ⟨gb,0,none⟩) n n] #[.slice (some ⟨gm,0,none⟩) n n] #[.slice none 0 0] 70 68 68 68 68
 have HF:=hide (hf.below hbw)
 have Rr:=hide (hr.below hbw)
 have Rb:=hide (hb.below hbw)
 have Rm:=hide (hm.below hbw)
 have BW0:=hide hbw
 clear hbw hf hr hb hm
 go_enter Tryz.func121,Tryz.ntmps121
 go_upto_region 1 with fail
 generalize hE:(((((w.alloc (.cells #[.slice x n c,.slice (some ⟨g1,0,none⟩) n n,.slice (some ⟨g2,0,none⟩) n n,.slice (some ⟨g3,0,none⟩) n n,.slice (some ⟨g4,0,none⟩) n n,.slice (some ⟨g5,0,none⟩) n n,.slice (some ⟨g6,0,none⟩) n n,.slice (some ⟨g7,0,none⟩) n n,.slice (some ⟨g8,0,none⟩) n n,.slice (some ⟨g9,0,none⟩) n n] 70)).alloc (.cells #[.slice (some ⟨gr,0,none⟩) n n] 68)).alloc (.cells #[.slice (some ⟨gb,0,none⟩) n n] 68)).alloc (.cells #[.slice (some ⟨gm,0,none⟩) n n] 68)).alloc (.cells #[.slice none 0 0] 68))=W0 at *
 have c0_0_0:W0.cell? ⟨w.heap.size,0,none⟩=some (.slice x n c):=by simp[World.cell?,k0]
 have c0_0_1:W0.cell? ⟨w.heap.size,1,none⟩=some (.slice (some ⟨g1,0,none⟩) n n):=by simp[World.cell?,k0]
 have c0_0_2:W0.cell? ⟨w.heap.size,2,none⟩=some (.slice (some ⟨g2,0,none⟩) n n):=by simp[World.cell?,k0]
 have c0_0_3:W0.cell? ⟨w.heap.size,3,none⟩=some (.slice (some ⟨g3,0,none⟩) n n):=by simp[World.cell?,k0]
 have c0_0_4:W0.cell? ⟨w.heap.size,4,none⟩=some (.slice (some ⟨g4,0,none⟩) n n):=by simp[World.cell?,k0]
 have c0_0_5:W0.cell? ⟨w.heap.size,5,none⟩=some (.slice (some ⟨g5,0,none⟩) n n):=by simp[World.cell?,k0]
 have c0_0_6:W0.cell? ⟨w.heap.size,6,none⟩=some (.slice (some ⟨g6,0,none⟩) n n):=by simp[World.cell?,k0]
 have c0_0_7:W0.cell? ⟨w.heap.size,7,none⟩=some (.slice (some ⟨g7,0,none⟩) n n):=by simp[World.cell?,k0]
 have c0_0_8:W0.cell? ⟨w.heap.size,8,none⟩=some (.slice (some ⟨g8,0,none⟩) n n):=by simp[World.cell?,k0]
 have c0_0_9:W0.cell? ⟨w.heap.size,9,none⟩=some (.slice (some ⟨g9,0,none⟩) n n):=by simp[World.cell?,k0]
 have l0_0:w.heap.size<W0.heap.size:=by omega
 have f0_0:∀ j,W0.frozen? ⟨w.heap.size,j,none⟩=false:=fun j=>by simp[World.frozen?,k0]
 have K0_0:=hide k0
 have c0_1_0:W0.cell? ⟨w.heap.size+1,0,none⟩=some (.slice (some ⟨gr,0,none⟩) n n):=by simp[World.cell?,k1]
 have l0_1:w.heap.size+1<W0.heap.size:=by omega
 have f0_1:∀ j,W0.frozen? ⟨w.heap.size+1,j,none⟩=false:=fun j=>by simp[World.frozen?,k1]
 have K0_1:=hide k1
 have c0_2_0:W0.cell? ⟨w.heap.size+2,0,none⟩=some (.slice (some ⟨gb,0,none⟩) n n):=by simp[World.cell?,k2]
 have l0_2:w.heap.size+2<W0.heap.size:=by omega
 have f0_2:∀ j,W0.frozen? ⟨w.heap.size+2,j,none⟩=false:=fun j=>by simp[World.frozen?,k2]
 have K0_2:=hide k2
 have c0_3_0:W0.cell? ⟨w.heap.size+3,0,none⟩=some (.slice (some ⟨gm,0,none⟩) n n):=by simp[World.cell?,k3]
 have l0_3:w.heap.size+3<W0.heap.size:=by omega
 have f0_3:∀ j,W0.frozen? ⟨w.heap.size+3,j,none⟩=false:=fun j=>by simp[World.frozen?,k3]
 have K0_3:=hide k3
 have c0_4_0:W0.cell? ⟨w.heap.size+4,0,none⟩=some (.slice none 0 0):=by simp[World.cell?,k4]
 have l0_4:w.heap.size+4<W0.heap.size:=by omega
 have f0_4:∀ j,W0.frozen? ⟨w.heap.size+4,j,none⟩=false:=fun j=>by simp[World.frozen?,k4]
 have K0_4:=hide k4
 have hsq0:w.heap.size+5≤W0.heap.size:=by omega
 clear hE hsz k0 k1 k2 k3 k4
 clear c0_0_0 c0_0_1 c0_0_2 c0_0_3 c0_0_4 c0_0_5 c0_0_6 c0_0_7 c0_0_8 c0_0_9
 clear f0_0 f0_1 f0_2 f0_3
 go_region_held3 (fun w'=>w'.cell? ⟨w.heap.size+1,0,none⟩=some (.slice (some ⟨gr,0,none⟩) n n)∧w'.cell? ⟨w.heap.size+2,0,none⟩=some (.slice (some ⟨gb,0,none⟩) n n)∧w'.cell? ⟨w.heap.size+3,0,none⟩=some (.slice (some ⟨gm,0,none⟩) n n)) (first | exact⟨c0_1_0,c0_2_0,c0_3_0⟩ | exact⟨c1_0_0,c1_0_1,c1_0_2⟩ | exact⟨c1_1_0,c1_1_1,c1_1_2⟩ | exact⟨c1_2_0,c1_2_1,c1_2_2⟩ | exact⟨(cell_set_ne (by omega)).trans c1_2_0,(cell_set_ne (by omega)).trans c1_2_1,(cell_set_ne (by omega)).trans c1_2_2⟩) (first
  | (go_at_call_of 67 (Value.slice (some ⟨q0_1,0,none⟩) n n);refine (or_rel q0_1 gm n _ _ _ Q0_1.out (Rm.out.below B0_1.out)).mono ?_;rintro e w0_2 ⟨q0_2,rfl,hq0_2,hb0_2⟩;have B0_2:Hid (Below W0.heap.size W0 w0_2):=bstep B0_1.out (Nat.le_refl _) hb0_2;have c1_2_0:=(B0_2.out.cell (p:=⟨w.heap.size+1,0,none⟩) l0_1).trans c0_1_0;have c1_2_1:=(B0_2.out.cell (p:=⟨w.heap.size+2,0,none⟩) l0_2).trans c0_2_0;have c1_2_2:=(B0_2.out.cell (p:=⟨w.heap.size+3,0,none⟩) l0_3).trans c0_3_0;have z1_2:=(B0_2.out.frozen (p:=⟨w.heap.size+4,0,none⟩) l0_4).trans (f0_4 0);have y1_2:=(B0_2.out.cell (p:=⟨w.heap.size+4,0,none⟩) l0_4).trans c0_4_0;have Q0_2:=hide hq0_2;clear hq0_2)
  | (go_at_call_of 67 (Value.slice (some ⟨q0_0,0,none⟩) n n);refine (or_rel q0_0 gb n _ _ _ Q0_0.out (Rb.out.below B0_0.out)).mono ?_;rintro e w0_1 ⟨q0_1,rfl,hq0_1,hb0_1⟩;have B0_1:Hid (Below W0.heap.size W0 w0_1):=bstep B0_0.out (Nat.le_refl _) hb0_1;have c1_1_0:=(B0_1.out.cell (p:=⟨w.heap.size+1,0,none⟩) l0_1).trans c0_1_0;have c1_1_1:=(B0_1.out.cell (p:=⟨w.heap.size+2,0,none⟩) l0_2).trans c0_2_0;have c1_1_2:=(B0_1.out.cell (p:=⟨w.heap.size+3,0,none⟩) l0_3).trans c0_3_0;have z1_1:=(B0_1.out.frozen (p:=⟨w.heap.size+4,0,none⟩) l0_4).trans (f0_4 0);have y1_1:=(B0_1.out.cell (p:=⟨w.heap.size+4,0,none⟩) l0_4).trans c0_4_0;have Q0_1:=hide hq0_1;clear hq0_1)
  | (go_at_call_of 144 (Value.slice (some ⟨gr,0,none⟩) n n);refine (turned_rel gr n _ _ (Rr.out.below (Below.refl _ _).drew)).mono ?_;rintro e w0_0 ⟨q0_0,rfl,hq0_0,hb0_0⟩;have B0_0:Hid (Below W0.heap.size W0 w0_0):=((Below.refl W0.heap.size W0).drew).trans (hb0_0.mono (by simp));have c1_0_0:=(B0_0.out.cell (p:=⟨w.heap.size+1,0,none⟩) l0_1).trans c0_1_0;have c1_0_1:=(B0_0.out.cell (p:=⟨w.heap.size+2,0,none⟩) l0_2).trans c0_2_0;have c1_0_2:=(B0_0.out.cell (p:=⟨w.heap.size+3,0,none⟩) l0_3).trans c0_3_0;have z1_0:=(B0_0.out.frozen (p:=⟨w.heap.size+4,0,none⟩) l0_4).trans (f0_4 0);have y1_0:=(B0_0.out.cell (p:=⟨w.heap.size+4,0,none⟩) l0_4).trans c0_4_0;have Q0_0:=hide hq0_0;clear hq0_0))
 all_goals
  (try go_wp2)
  have KR:=setCell_block ((B0_2.out.block _ l0_4).trans K0_4.out) 0 (.slice (some ⟨q0_2,0,none⟩) n n)
  refine ret_rel (p:=8) (w.heap.size+4) _ (by kernel_rfl) rfl (by exact KR) rfl ⟨q0_2,rfl,⟨(Q0_2.out).at_.of_block (Below.heap_setCell _ _ _ _ (by have:=Q0_2.out.at_;unfold SetsAt at this;intro e;rw[e] at this;rw[(B0_2.out.block _ l0_4).trans K0_4.out] at this;simp at this)),(Q0_2.out).len,(Q0_2.out).fits⟩,(bstep BW0.out (Nat.le_refl _) B0_2.out).setCell (p:=⟨w.heap.size+4,0,none⟩) (by simp) _⟩
end Go.Proofs.YtgceflcbckjjiaaGreatDoor
