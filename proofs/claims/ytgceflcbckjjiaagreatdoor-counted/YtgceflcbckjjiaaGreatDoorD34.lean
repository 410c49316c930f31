import Derived.Test.YtgceflcbckjjiaaGreatDoorD33
import Derived.Test.YtgceflcbckjjiaaGreatDoorD32
set_option linter.unusedVariables false
set_option linter.unusedSimpArgs false
set_option maxHeartbeats 12800000
namespace Go.Proofs.YtgceflcbckjjiaaGreatDoor
open Go Go.RowKit
set_option maxRecDepth 100000
def zCz (rv wb wd wg:Value):Array Value:=#[.slice none 0 0,.slice none 0 0,.slice none 0 0,.slice none 0 0,.slice none 0 0,.slice none 0 0,.slice none 0 0,.slice none 0 0,.slice none 0 0,.slice none 0 0,.slice none 0 0,.slice none 0 0,.slice none 0 0,rv,wb,wd,wg,.slice none 0 0,.slice none 0 0,.slice none 0 0,.bool false,.bool false]
def zIO (w w':World) (rss:List (List Q.Run)) (e:Ending):Prop:=∃ rv vs wss gb gd,e=.returned (.agg (zCz rv (.slice (some ⟨gb,0,none⟩) rss.length rss.length) (.slice (some ⟨gd,0,none⟩) rss.length rss.length) (.bool false)))∧(∃ a n c,rv=.slice a n c)∧RunsAll w' 0 rv rss vs wss∧zAt w' gb (zBL rss)∧zAt w' gd (Q.zeros rss.length)∧w.heap.size≤gb∧w.heap.size≤gd∧gb≠gd∧Below w.heap.size w w'
theorem zGn {w:World} {B n sz:Nat} {t:TypeId} {v:Value} {xs:List Value} (h:w.ownsRow B t sz v n xs):∃ a c,v=.slice a n c:=by
 rcases h.2 with ⟨e,h0⟩ | ⟨g',c,cur,e,_⟩
 ·exact⟨none,0,by rw[e,h0]⟩
 ·exact⟨_,c,e⟩
theorem zDw (B bt cap:Nat) (ts:List P.Thr) (w:World) (h:zAl w B (.slice (some ⟨bt,0,none⟩) ts.length cap) ts) (hn:ts.length<20) (hok:∀ t∈ts,(∀ s∈t.stmts,Q.StOk s)∧t.stmts.length<900∧Q.codes t.stmts<100000) :
  Calls Tryz.prog 34 #[.agg #[.slice (some ⟨bt,0,none⟩) ts.length cap]] w fun e w'=>zIO w w' (Q.runs ts) e:=by
 obtain⟨k0,k1,hsz,hbw⟩:=zCd w #[.slice (some ⟨bt,0,none⟩) ts.length cap] (zCz (.slice none 0 0) (.slice none 0 0) (.slice none 0 0) (.bool false)) 48 79
 have HT:=zAa (h.keep fun k hk=>hbw.block k hk)
 have HOK:=zAa hok
 have BW0:=zAa hbw
 clear hbw h hok
 go_enter Tryz.func34,Tryz.ntmps34
 go_upto_region 1 with fail
 simp only[zCz] at k0 k1 hsz HT BW0
 generalize hE:(w.alloc (.cells #[.slice (some ⟨bt,0,none⟩) ts.length cap] 48)).alloc (.cells #[.slice none 0 0,.slice none 0 0,.slice none 0 0,.slice none 0 0,.slice none 0 0,.slice none 0 0,.slice none 0 0,.slice none 0 0,.slice none 0 0,.slice none 0 0,.slice none 0 0,.slice none 0 0,.slice none 0 0,.slice none 0 0,.slice none 0 0,.slice none 0 0,.bool false,.slice none 0 0,.slice none 0 0,.slice none 0 0,.bool false,.bool false] 79)=W0 at *
 have c00:=ceL k0 0 _ rfl
 have l0:w.heap.size<W0.heap.size:=by omega
 have l1:w.heap.size+1<W0.heap.size:=by omega
 have K1:=zAa k1
 clear hE k0 k1 hsz
 have HRL:=zAa (Q.zLB ts)
 go_wp2_with (first
  | (go_at_call 60;refine (zFe B bt cap ts _ HT.out hn HOK.out).mono ?_;rintro e w1 ⟨rv,vs,wss,gb,gd,rfl,hra,hib,hid,hgb,hgd,hne,hb1⟩;have RA1:=zAa hra;have IB1:=zAa hib;have ID1:=zAa hid;have B1:=zAa hb1;have KB:=zAa ((hb1.block _ l1).trans K1.out);obtain⟨xa,xc,hrv⟩:=zGn hra.own;subst hrv;clear hra hib hid hb1)
  | (refine wpList_store_mid rfl 79 (.tmp 2) (.tmp 5) rfl (w.heap.size+1) 0 (zCz (.slice xa (Q.runs ts).length xc) (.slice (some ⟨gb,0,none⟩) (Q.runs ts).length (Q.runs ts).length) (.slice (some ⟨gd,0,none⟩) (Q.runs ts).length (Q.runs ts).length) (.bool false)) rfl rfl (zCs KB.out (by simp[zCz])) (by kernel_rfl) (by simp[zCz,Value.oneCell']) ?_;have SW:=zAa (zBN (zCz (.slice xa (Q.runs ts).length xc) (.slice (some ⟨gb,0,none⟩) (Q.runs ts).length (Q.runs ts).length) (.slice (some ⟨gd,0,none⟩) (Q.runs ts).length (Q.runs ts).length) (.bool false)).toList KB.out (by simp[zCz]));generalize w1.setCells (w.heap.size+1) 0 (zCz (.slice xa (Q.runs ts).length xc) (.slice (some ⟨gb,0,none⟩) (Q.runs ts).length (Q.runs ts).length) (.slice (some ⟨gd,0,none⟩) (Q.runs ts).length (Q.runs ts).length) (.bool false)).toList=W2 at *))
 obtain⟨s0,s1,s2⟩:=SW.out
 have B2:=s2 w w.heap.size (by omega) (zAr BW0.out (Nat.le_refl _) B1.out)
 have hrr:∀ {B n sz:Nat} {t:TypeId} {v:Value} {xs:List Value},w1.ownsRow B t sz v n xs→t≠79→W2.ownsRow B t sz v n xs:=fun h ht=>zAd h (fun k e=>s1 k (fun e2=>zAx h KB.out ht (by rw[e,e2])))
 refine zBi (p:=2) (w.heap.size+1) _ (by kernel_rfl) Tryz.underlying79 rfl (by kernel_rfl) rfl (by exact s0) rfl ?_
 refine⟨_,vs,wss,gb,gd,rfl,⟨_,_,_,rfl⟩,⟨hrr RA1.out.own (by decide),RA1.out.lv,RA1.out.lw,fun i hi u us hu hus=>?_⟩,IB1.out.of_block (s1 _ (by omega)),ID1.out.of_block (s1 _ (by omega)),by omega,by omega,hne,B2⟩
 have q:=RA1.out.runs i hi u us hu hus
 exact⟨hrr q.own (by decide),q.len,fun j hj x hx=>hrr (q.evs j hj x hx) (by decide)⟩
end Go.Proofs.YtgceflcbckjjiaaGreatDoor
namespace Go.Proofs.YtgceflcbckjjiaaGreatDoor
namespace Q
theorem digOk_mem:∀ {bs ds:List Int},DigOk bs ds→ds∈zKt bs
 | [],[],_=>by simp[zKt]
 | [],_::_,h=>by simp[DigOk] at h
 | _::_,[],h=>by simp[DigOk] at h
 | b::bs,d::ds,h=>by
  simp only[DigOk] at h
  have h3:=digOk_mem (bs:=bs) (ds:=ds) (by first | exact h.2 | exact h.2.2 | exact h.1)
  simp only[zKt,List.mem_flatMap,List.mem_map,List.mem_range]
  exact⟨ds,h3,d.toNat,by omega,by rw[Int.toNat_of_nonneg (by omega)]⟩
theorem candsL_append (a b:List (Wd × List Int)):zKE (a++b)=zKE a++zKE b:=by simp[zKE]
theorem candsL_reads (w:Wd):zKE (zMq w)=candsIn w (zKw w.events):=by
 unfold zKE zMq candsIn
 rw[List.map_map];rfl
theorem candsL_flat (rss:List (List Run)) (l:List (List Int)):zKE (l.flatMap fun d=>zMq (zKa rss d))=l.flatMap fun ds=>candsIn (zKa rss ds) (zKw (zKa rss ds).events):=by
 induction l with
 | nil=>rfl
 | cons d l ih=>rw[List.flatMap_cons,candsL_append,candsL_reads,ih,List.flatMap_cons]
theorem cands_eq (ts:List P.Thr):cands ts=zKE (zCF (runs ts) none (zKt (zBL (runs ts)))):=by
 unfold zCF
 simp only[List.nil_append]
 rw[candsL_flat];rfl
end Q
end Go.Proofs.YtgceflcbckjjiaaGreatDoor
namespace Go.Proofs.YtgceflcbckjjiaaGreatDoor
open Go Go.RowKit
set_option maxRecDepth 100000
section
variable {w w':World} {g:Nat} {a:Q.Ans} {ov:Value} {vs:List Value} {fp:List Nat}
theorem AnsOn.offRow (hA:AnsOn w g a ov vs fp) {B n sz:Nat} {t:TypeId} {v:Value} {xs:List Value} (h:w.ownsRow B t sz v n xs) (h1:t≠62) (h2:t≠99) (h3:t≠32) (k:Nat) (e:v.ownBlock=some k):¬ Wr g ov k:=fun e2=>by
 obtain⟨c,hty⟩:=hA.out.ty
 rcases e2 with e2 | e2
 ·subst e2
  rcases hty with hty | hty
  ·exact zAx h hty h1 e
  ·exact zAx h hty h2 e
 ·rcases hA.out.rows.own.2 with ⟨e3,_⟩ | ⟨b,c2,cur,e3,_,hb,_⟩
  ·rw[e3] at e2;simp[Value.ownBlock] at e2
  ·rw[e3] at e2;simp[Value.ownBlock] at e2
   subst e2
   exact zAx h hb h3 e
theorem AnsOn.offBlk (hA:AnsOn w g a ov vs fp) {k:Nat} {c:Array Value} {t:TypeId} (h:w.heap[k]?=some (.cells c t (0,0))) (h1:t≠62) (h2:t≠99) (h3:t≠32):¬ Wr g ov k:=fun e2=>by
 rcases e2 with e2 | e2
 ·exact hA.ne h (fun e=>h1 e.symm) (fun e=>h2 e.symm) e2.symm
 ·exact zAx hA.out.rows.own h (fun e=>h3 e.symm) e2
theorem zHx (hA:AnsOn w g a ov vs fp) (hx:XF (Wr g ov) w w') {B n sz:Nat} {t:TypeId} {v:Value} {xs:List Value} (h:w.ownsRow B t sz v n xs) (h1:t≠62) (h2:t≠99) (h3:t≠32):w'.ownsRow B t sz v n xs :=
 zAd h (fun k e=>hx.block k (h.lt k e).2 (hA.offRow h h1 h2 h3 k e))
theorem zHy (hA:AnsOn w g a ov vs fp) (hx:XF (Wr g ov) w w') {b:Nat} {l:List Int} (h:zAt w b l):zAt w' b l :=
 h.of_block (hx.block b h.lt (hA.offBlk (t:=3) h (by decide) (by decide) (by decide)))
theorem zIA (hA:AnsOn w g a ov vs fp) (hx:XF (Wr g ov) w w') {gc o gb gd:Nat} {bs ds:List Int} {rest:List (List Int)} (h:zDv w gc o gb gd bs ds rest) (hg:w'.heap[gc]?=w.heap[gc]?):zDv w' gc o gb gd bs ds rest:=by
 obtain⟨b,⟨c0,c1,c2,cf,cl,cb,cd,n1,n2,n3,n4⟩,h5⟩:=h
 have hc:∀ j,w'.cell? ⟨gc,j,none⟩=w.cell? ⟨gc,j,none⟩:=fun j=>World.cell?_of_block (w:=w) (a:=⟨gc,j,none⟩) hg
 exact⟨b,⟨(hc _).trans c0,(hc _).trans c1,(hc _).trans c2,fun j=>(World.frozen?_of_block (w:=w) (a:=⟨gc,j,none⟩) hg).trans (cf j),Nat.lt_of_lt_of_le cl hx.size,zHy hA hx cb,zHy hA hx cd,n1,n2,n3,n4⟩,h5⟩
theorem zJa (hA:AnsOn w g a ov vs fp) (hx:XF (Wr g ov) w w') {gc:Nat} (h:Box w gc):w'.heap[gc]?=w.heap[gc]?:=by
 obtain⟨c,h1,h2⟩:=id h
 exact hx.block gc h.lt (hA.offBlk h1 (by decide) (by decide) (by decide))
theorem CandOn.wr {gc:Nat} {A:WA} {rss:List (List Q.Run)} {st:Option RS} {ds:List Int} {rest:List (List Int)} (h:CandOn w gc A rss st ds rest) (hA:AnsOn w g a ov vs fp) (hne:∀ k,nbS st k→¬ Wr g ov k) (hx:XF (Wr g ov) w w'):CandOn w' gc A rss st ds rest:=by
 have hg:=zJa hA hx h.box
 have hc:∀ j,w'.cell? ⟨gc,j,none⟩=w.cell? ⟨gc,j,none⟩:=fun j=>World.cell?_of_block (w:=w) (a:=⟨gc,j,none⟩) hg
 refine⟨h.box.of hg,⟨(hc _).trans h.ws.c0,⟨zHx hA hx h.ws.runs.own (by decide) (by decide) (by decide),h.ws.runs.lv,h.ws.runs.lw,fun i hi u us hu hus=>?_⟩,zIA hA hx h.ws.ctr hg⟩,(hc _).trans h.beg,fun s hs=>?_⟩
 ·have q:=h.ws.runs.runs i hi u us hu hus
  exact⟨zHx hA hx q.own (by decide) (by decide) (by decide),q.len,fun j hj x hx2=>zHx hA hx (q.evs j hj x hx2) (by decide) (by decide) (by decide)⟩
 ·obtain⟨hon,hok⟩:=h.rs s hs
  have hn:∀ k,s.R.nb k→¬ Wr g ov k:=fun k hk=>hne k ⟨s,hs,hk⟩
  refine⟨⟨(hc _).trans hon.c0,(hc _).trans hon.c1,hon.wdi.wr hA (fun k e=>hn k (Or.inl e)) hx.block hx.size,zAv hon.fc hg,hon.fin.wr hA hx.block,⟨(hc _).trans hon.rd.c0,⟨zAd hon.rd.rows.own (fun k e=>hx.block k (hon.rd.rows.own.lt k e).2 (hn k (Or.inr (Or.inl e)))),hon.rd.rows.len,fun i hi u hu=>(hon.rd.rows.rows i hi u hu).own _ (fun k e=>hx.block k ?_ (hn k (Or.inr (Or.inr (Or.inl ⟨u,List.mem_of_getElem? hu,e⟩))))) hx.size⟩,zIA hA hx hon.rd.ctr hg,hon.rd.nc,hon.rd.ne⟩,hon.n1,hon.n2,hon.n3⟩,hok⟩
  exact zFP (hon.rd.rows.rows i hi u hu) k e
end
theorem RA.on.nblt {R:RA} {w:World} {gc:Nat} {A:WA} {wd:Q.Wd} {ds:List Int} {rest:List (List Int)} (h:R.on w gc A wd ds rest) (k:Nat) (hk:R.nb k):k<w.heap.size:=by
 obtain⟨b,hc⟩:=h.rd.ctr.ctr
 rcases hk with e | e | ⟨u,hu,e⟩ | e | e
 ·exact zFP h.wdi.regs k e
 ·exact (h.rd.rows.own.lt k e).2
 ·obtain⟨i,hi,hui⟩:=List.getElem_of_mem hu
  have hl:i<(Q.zJY wd.events).length:=by have:=h.rd.rows.len;omega
  exact zFP (h.rd.rows.rows i hl u (by rw[List.getElem?_eq_getElem hi,hui])) k e
 ·subst e;exact hc.bases.lt
 ·subst e;exact hc.digits.lt
theorem CandOn.nblt {w:World} {gc:Nat} {A:WA} {rss:List (List Q.Run)} {st:Option RS} {ds:List Int} {rest:List (List Int)} (h:CandOn w gc A rss st ds rest) (k:Nat) (hk:nbS st k):k<w.heap.size:=by
 obtain⟨s,hs,hk⟩:=hk
 exact (h.rs s hs).1.nblt k hk
theorem CandOn.gdlt {w:World} {gc:Nat} {A:WA} {rss:List (List Q.Run)} {st:Option RS} {ds:List Int} {rest:List (List Int)} (h:CandOn w gc A rss st ds rest) (k:Nat) (hk:gdS st k):k<w.heap.size:=by
 obtain⟨s,hs,hk⟩:=hk
 subst hk
 exact h.nblt _ ⟨s,hs,Or.inr (Or.inr (Or.inr (Or.inr rfl)))⟩
structure BothOn (w0 w:World) (gc g:Nat) (A:WA) (rss:List (List Q.Run)) (st:Option RS) (ds:List Int) (rest:List (List Int)) (a:Q.Ans) (ov:Value) (vs:List Value) (fp:List Nat):Prop where
 cand:CandOn w gc A rss st ds rest
 ans:AnsOn w g a ov vs fp
 nb:∀ k,nbS st k→¬ Wr g ov k
 fpd:∀ k∈fp,k≠gc∧k≠A.gd∧¬ gdS st k
 low:w0.heap.size≤gc∧w0.heap.size≤g∧w0.heap.size≤A.gd∧(∀ k,gdS st k→w0.heap.size≤k)∧(∀ k,ov.ownBlock=some k→w0.heap.size≤k)∧∀ k∈fp,w0.heap.size≤k
 bl:Below w0.heap.size w0 w
section
variable {w0 w:World} {gc g:Nat} {A:WA} {rss:List (List Q.Run)} {st:Option RS} {ds:List Int} {rest:List (List Int)} {a:Q.Ans} {ov:Value} {vs:List Value} {fp:List Nat}
theorem BothOn.below (h:BothOn w0 w gc g A rss st ds rest a ov vs fp) {w':World} (hb:Below w.heap.size w w'):BothOn w0 w' gc g A rss st ds rest a ov vs fp :=
 ⟨h.cand.below hb,h.ans.below hb,h.nb,h.fpd,h.low,zAr h.bl (Nat.le_refl _) hb⟩
theorem CFrame.xf {w w':World} {gc:Nat} {A:WA} {st:Option RS} (h:CFrame w w' gc A st):XF (fun k=>k=gc∨k=A.gd∨gdS st k) w w' :=
 ⟨h.os,h.tape,h.output,h.size,fun k hk hn=>h.block k hk (fun e=>hn (Or.inl e)) (fun e=>hn (Or.inr (Or.inl e))) (fun e=>hn (Or.inr (Or.inr e)))⟩
theorem XF.low {P:Nat→Prop} {w0 w w':World} (hb:Below w0.heap.size w0 w) (h:XF P w w') (hp:∀ k,P k→w0.heap.size≤k):Below w0.heap.size w0 w' :=
 ⟨h.os.trans hb.os,h.tape.trans hb.tape,h.output.trans hb.output,Nat.le_trans hb.size h.size,fun k hk=>(h.block k (Nat.lt_of_lt_of_le hk hb.size) (fun e=>by have:=hp k e;omega)).trans (hb.block k hk)⟩
theorem BothOn.frame (h:BothOn w0 w gc g A rss st ds rest a ov vs fp) {w':World} (hF:CFrame w w' gc A st):AnsOn w' g a ov vs fp∧Below w0.heap.size w0 w':=by
 obtain⟨cc,hcc,_⟩:=id h.cand.box
 obtain⟨bw,hcw⟩:=h.cand.ws.ctr.ctr
 have hG:∀ k,gdS st k→∃ l,zAt w k l:=fun k hk=>by
  obtain⟨s,hs,rfl⟩:=hk
  obtain⟨b,hc⟩:=(h.cand.rs s hs).1.rd.ctr.ctr
  exact⟨_,hc.digits⟩
 have hP:∀ k,(k=gc∨k=A.gd∨gdS st k)→¬ Wr g ov k:=fun k hk=>by
  rcases hk with e | e | e
  ·subst e;exact h.ans.offBlk hcc (by decide) (by decide) (by decide)
  ·subst e;exact h.ans.offBlk (t:=3) hcw.digits (by decide) (by decide) (by decide)
  ·obtain⟨l,hl⟩:=hG k e
   exact h.ans.offBlk (t:=3) hl (by decide) (by decide) (by decide)
 refine⟨h.ans.xf hF.xf (fun e=>hP g e (Or.inl rfl)) (fun k e e2=>hP k e2 (Or.inr e)) (fun k hk e=>?_),hF.xf.low h.bl (fun k e=>?_)⟩
 ·rcases e with e | e | e
  ·exact (h.fpd k hk).1 e
  ·exact (h.fpd k hk).2.1 e
  ·exact (h.fpd k hk).2.2 e
 ·rcases e with e | e | e
  ·rw[e];exact h.low.1
  ·rw[e];exact h.low.2.2.1
  ·exact h.low.2.2.2.1 k e
theorem BothOn.next (h:BothOn w0 w gc g A rss st ds rest a ov vs fp) {w':World} {s:RS} {ds2:List Int} {rest2:List (List Int)} (hF:CFrame w w' gc A st) (hC:CandOn w' gc A rss (some s) ds2 rest2) (hN:∀ k,s.R.nb k→nbS st k∨w.heap.size≤k) (hG:gdS st s.R.gd∨w.heap.size≤s.R.gd):BothOn w0 w' gc g A rss (some s) ds2 rest2 a ov vs fp:=by
 obtain⟨h1,h2⟩:=h.frame hF
 have hg:∀ k,gdS (some s) k→k=s.R.gd:=fun k hk=>by
  obtain⟨s',e,e2⟩:=hk
  simp only[Option.some.injEq] at e
  subst e;exact e2
 refine⟨hC,h1,fun k hk e=>?_,fun k hk=>⟨(h.fpd k hk).1,(h.fpd k hk).2.1,fun e=>?_⟩,⟨h.low.1,h.low.2.1,h.low.2.2.1,fun k e=>?_,h.low.2.2.2.2.1,h.low.2.2.2.2.2⟩,h2⟩
 ·obtain⟨s',e1,hk⟩:=hk
  simp only[Option.some.injEq] at e1
  subst e1
  rcases hN k hk with h3 | h3
  ·exact h.nb k h3 e
  ·rcases e with e | e
   ·have:=h.ans.out.lt;omega
   ·have:=h.ans.out.ownlt k e;omega
 ·rw[hg k e] at hk e
  rcases hG with h3 | h3
  ·exact (h.fpd _ hk).2.2 h3
  ·have:=h.ans.out.fpl _ hk;omega
 ·rw[hg k e]
  rcases hG with h3 | h3
  ·exact h.low.2.2.2.1 _ h3
  ·have:=h.bl.size;omega
theorem BothOn.grow (h:BothOn w0 w gc g A rss st ds rest a ov vs fp) {w':World} {a':Q.Ans} {ov':Value} {vs':List Value} {fp':List Nat} (hA:AnsOn w' g a' ov' vs' fp') (hF:AFrame (Wr g ov) w w' ov ov' fp fp'):BothOn w0 w' gc g A rss st ds rest a' ov' vs' fp':=by
 have hbs:=h.bl.size
 refine⟨h.cand.wr h.ans h.nb hF.xf,hA,fun k hk e=>?_,fun k hk=>?_,⟨h.low.1,h.low.2.1,h.low.2.2.1,h.low.2.2.2.1,fun k e=>?_,fun k hk=>?_⟩,hF.xf.low h.bl (fun k e=>?_)⟩
 ·rcases e with e | e
  ·exact h.nb k hk (Or.inl e)
  ·rcases hF.own with e1 | ⟨b,e1,hb⟩
   ·exact h.nb k hk (Or.inr (e1.symm.trans e))
   ·rw[e1] at e;simp at e
    have:=h.cand.nblt k hk;omega
 ·rcases hF.fpn k hk with h3 | h3
  ·exact h.fpd k h3
  ·obtain⟨bw,hcw⟩:=h.cand.ws.ctr.ctr
   have l1:=h.cand.box.lt
   have l2:=hcw.digits.lt
   exact⟨by omega,by omega,fun e=>by have:=h.cand.gdlt k e;omega⟩
 ·rcases hF.own with e1 | ⟨b,e1,hb⟩
  ·exact h.low.2.2.2.2.1 k (e1.symm.trans e)
  ·rw[e1] at e;simp at e;omega
 ·rcases hF.fpn k hk with h3 | h3
  ·exact h.low.2.2.2.2.2 k h3
  ·omega
 ·rcases e with e | e
  ·rw[e];exact h.low.2.1
  ·exact h.low.2.2.2.2.1 k e
end
namespace Q
theorem factsOf_events (es:List Ev):(zKw es).events=es:=by
 have k1:∀ (i:Nat) (l:List Nat) (f:Facts),(l.foldl (fun f k=>f.pair i (ev es i) k (ev es k)) f).events=f.events:=by
  intro i l
  induction l with
  | nil=>intro f;rfl
  | cons k l ih=>intro f;rw[List.foldl_cons,ih];rfl
 have k2:∀ (l:List Nat) (f:Facts),(l.foldl (zLf es) f).events=f.events:=by
  intro l
  induction l with
  | nil=>intro f;rfl
  | cons k l ih=>intro f;rw[List.foldl_cons,ih];exact k1 _ _ _
 exact k2 _ _
end Q
theorem zIn (g:Nat) (ov:Value) (w:World) (hc:w.cell? ⟨g,0,none⟩=some ov) (hl:g<w.heap.size) (hf:∃ a n c,ov=.slice a n c) :
  Calls Tryz.prog 38 #[.pointer (some ⟨g,0,none⟩)] w fun e w'=>e=.returned ov∧w'=w:=by
 obtain⟨a,n,c,rfl⟩:=hf
 go_enter Tryz.func38,Tryz.ntmps38
 go_wp2
 go_ret
 exact⟨rfl,rfl⟩
theorem zFg {w1 W1:World} {rv:Value} {vs:List Value} {wss:List (List Value)} {gb gd:Nat} {rss:List (List Q.Run)} (h:RunsAll w1 0 rv rss vs wss) (hb:zAt w1 gb (zBL rss)) (hd:zAt w1 gd (Q.zeros rss.length)) (hne:gb≠gd)
  (hW:W1.heap[w1.heap.size]?=some (.cells (zCz rv (.slice (some ⟨gb,0,none⟩) rss.length rss.length) (.slice (some ⟨gd,0,none⟩) rss.length rss.length) (.bool false)) 79 (0,0))) (hB:Below w1.heap.size w1 W1) :
  CandOn W1 w1.heap.size ⟨rv,vs,wss,gb,gd⟩ rss none (Q.zeros rss.length) (Q.zKt (zBL rss)):=by
 have l2:=hb.lt
 have l3:=hd.lt
 have hc:∀ j (v:Value),(zCz rv (.slice (some ⟨gb,0,none⟩) rss.length rss.length) (.slice (some ⟨gd,0,none⟩) rss.length rss.length) (.bool false))[j]?=some v→W1.cell? ⟨w1.heap.size,j,none⟩=some v:=fun j v hv=>by simp only[World.cell?,hW];simpa using hv
 have e1:(zBL rss).length=rss.length:=by simp[zBL]
 have e2:(Q.zeros rss.length).length=rss.length:=by simp[Q.zeros]
 refine⟨⟨_,hW,by simp[zCz]⟩,⟨hc 13 _ rfl,h.below hB,false,⟨?_,?_,hc 16 _ rfl,fun j=>by simp[World.frozen?,hW],(Array.getElem?_eq_some_iff.1 hW).1,hb.below hB,hd.below hB,?_,?_,hne,?_⟩,Or.inl ⟨rfl,?_,rfl⟩⟩,hc 21 _ rfl,fun s hs=>by simp at hs⟩
 ·rw[show (List.map (fun r=>((r:List Q.Run).length:Int)) rss).length=rss.length by simp];exact hc 14 _ rfl
 ·rw[e2];exact hc 15 _ rfl
 ·simp only;omega
 ·simp only;omega
 ·rw[e2];simp
 ·simp
theorem zHz {W:World} {g:Nat} {t:TypeId} (h:W.heap[g]?=some (.cells #[.slice none 0 0,.bool false] t (0,0))) (ht:t=62∨t=99):AnsOn W g ⟨[],false⟩ (.slice none 0 0) [] []:=by
 have hl:=(Array.getElem?_eq_some_iff.1 h).1
 refine⟨⟨by simp[World.cell?,h],hl,by simp[World.frozen?,h],⟨World.ownsRow_nil _ _ _ _,rfl,fun i hi=>by simp at hi⟩,⟨#[.slice none 0 0,.bool false],?_⟩,fun u hu=>by simp at hu,fun k hk=>by simp at hk,fun k hk=>by simp at hk⟩,by simp[World.cell?,h],⟨by simp[Q.zMk],fun x hx=>by simp at hx⟩⟩
 rcases ht with rfl | rfl
 ·exact Or.inl h
 ·exact Or.inr h
def zGo (w0:World) (gc g:Nat) (A:WA) (rss:List (List Q.Run)) (F:Q.Ans→Q.Cand→Q.Ans) (fin:Q.Ans) (wr:World) (m:Nat):Prop :=
 ∃ st ds rest a ov vs fp,BothOn w0 wr gc g A rss st ds rest a ov vs fp∧(Q.zKE (zCF rss st rest)).foldl F a=fin∧(Q.zKE (zCF rss st rest)).length=m
theorem zGP {w w1 W1:World} {g:Nat} {rv:Value} {vs:List Value} {wss:List (List Value)} {gb gd:Nat} {rss:List (List Q.Run)} {t:TypeId} (h:RunsAll w1 0 rv rss vs wss) (hb:zAt w1 gb (zBL rss)) (hd:zAt w1 gd (Q.zeros rss.length)) (hne:gb≠gd)
  (hW:W1.heap[w1.heap.size]?=some (.cells (zCz rv (.slice (some ⟨gb,0,none⟩) rss.length rss.length) (.slice (some ⟨gd,0,none⟩) rss.length rss.length) (.bool false)) 79 (0,0))) (hB:Below w1.heap.size w1 W1)
  (hg:W1.heap[g]?=some (.cells #[.slice none 0 0,.bool false] t (0,0))) (ht:t=62∨t=99) (hw:w.heap.size≤w1.heap.size) (hg0:w.heap.size≤g) (hgd:w.heap.size≤gd) (hbl:Below w.heap.size w W1) :
  BothOn w W1 w1.heap.size g ⟨rv,vs,wss,gb,gd⟩ rss none (Q.zeros rss.length) (Q.zKt (zBL rss)) ⟨[],false⟩ (.slice none 0 0) [] [] :=
 ⟨zFg h hb hd hne hW hB,zHz hg ht,fun k hk=>by obtain⟨s,hs,_⟩:=hk;simp at hs,fun k hk=>by simp at hk,⟨hw,hg0,hgd,fun k hk=>by obtain⟨s,hs,_⟩:=hk;simp at hs,fun k e=>by simp[Value.ownBlock] at e,fun k hk=>by simp at hk⟩,hbl⟩
end Go.Proofs.YtgceflcbckjjiaaGreatDoor
namespace Go.Proofs.YtgceflcbckjjiaaGreatDoor
open Go Go.RowKit
def zDi (a:FA) (gr gf:Nat):Array Value:=#[a.ev,.slice (some ⟨a.g1,0,none⟩) a.n a.n,.slice (some ⟨a.g2,0,none⟩) a.n a.n,.slice (some ⟨a.g3,0,none⟩) a.n a.n,.slice (some ⟨a.g4,0,none⟩) a.n a.n,.slice (some ⟨a.g5,0,none⟩) a.n a.n,.slice (some ⟨a.g6,0,none⟩) a.n a.n,.slice (some ⟨a.g7,0,none⟩) a.n a.n,.slice (some ⟨a.g8,0,none⟩) a.n a.n,.slice (some ⟨a.g9,0,none⟩) a.n a.n,.slice (some ⟨gr,0,none⟩) a.n a.n,.slice (some ⟨gf,0,none⟩) a.n a.n]
end Go.Proofs.YtgceflcbckjjiaaGreatDoor
