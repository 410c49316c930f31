import Derived.Test.YtkmebkbpfmoeaaaGreatH25
import Derived.Test.YtkmebkbpfmoeaaaGreatH28
set_option linter.unusedVariables false
set_option linter.unusedSimpArgs false
set_option maxHeartbeats 12800000
namespace Go.Proofs.YtkmebkbpfmoeaaaGreat
open Go Go.RowKit
set_option maxRecDepth 100000
def Box (w:World) (gc:Nat):Prop:=∃ c,w.heap[gc]?=some (.cells c 75 (0,0))∧c.size=22
theorem Box.lt {w:World} {gc:Nat} (h:Box w gc):gc<w.heap.size:=by
 obtain⟨c,h1,_⟩:=h
 exact (Array.getElem?_eq_some_iff.1 h1).1
theorem Box.of {w w':World} {gc:Nat} (h:Box w gc) (e:w'.heap[gc]?=w.heap[gc]?):Box w' gc:=by
 obtain⟨c,h1,h2⟩:=h
 exact⟨c,e.trans h1,h2⟩
theorem Box.below {w w':World} {gc:Nat} (h:Box w gc) (hb:Below w.heap.size w w'):Box w' gc:=h.of (hb.block _ h.lt)
theorem Box.ticked {w w':World} {gc o gd:Nat} (h:Box w gc) (hT:Ticked w w' gc o gd):Box w' gc:=by
 obtain⟨c,h1,h2⟩:=h
 obtain⟨c',h3,h4⟩:=hT.shape _ _ _ h1
 exact⟨c',h3,by omega⟩
theorem Box.free {w:World} {gc:Nat} (h:Box w gc) (j:Nat):w.frozen? ⟨gc,j,none⟩=false:=by
 obtain⟨c,h1,_⟩:=h
 simp[World.frozen?,h1]
theorem Box.there {w:World} {gc:Nat} (h:Box w gc) (o n:Nat) (ho:o+n≤22):w.there gc o n:=by
 obtain⟨c,h1,h2⟩:=h
 exact zCa h1 (by omega)
theorem Box.set {w:World} {gc:Nat} (h:Box w gc) (o:Nat) (vs:List Value) (ho:o+vs.length≤22) :
  Box (w.setCells gc o vs) gc∧(w.setCells gc o vs).rangeAt gc o vs∧(∀ j,j<o∨o+vs.length≤j→(w.setCells gc o vs).cell? ⟨gc,j,none⟩=w.cell? ⟨gc,j,none⟩)∧(∀ k,k≠gc→(w.setCells gc o vs).heap[k]?=w.heap[k]?):=by
 refine⟨?_,World.rangeAt_setCells_same w gc o vs (h.there o vs.length ho),fun j hj=>?_,fun k hk=>zBq gc vs o w k hk⟩
 ·obtain⟨c,h1,h2⟩:=h
  exact⟨_,zBo vs o w c h1,by rw[zDU];exact h2⟩
 ·obtain⟨c,h1,h2⟩:=h
  have h3:=zBo vs o w c h1
  simp only[World.cell?,h1,h3]
  rw[zCU vs o c j (by omega)]
  have hno:¬ (o≤j∧j<o+vs.length):=by omega
  simp[hno]
theorem WsOn.upd {w w':World} {g o:Nat} {rv:Value} {vs:List Value} {wss:List (List Value)} {gb gd:Nat} {rss:List (List Q.Run)} {ds:List Int} {rest:List (List Int)} {tg:TypeId} {cc:Array Value} (h:WsOn w g o rv vs wss gb gd rss ds rest) (hg:w.heap[g]?=some (.cells cc tg (0,0))) (h1:117≠tg) (h2:150≠tg) (h3:129≠tg)
  (hc:∀ j,o≤j→j<o+4→w'.cell? ⟨g,j,none⟩=w.cell? ⟨g,j,none⟩) (hf:∀ j,w'.frozen? ⟨g,j,none⟩=false) (hk:∀ k,k≠g→w'.heap[k]?=w.heap[k]?) (hs:w.heap.size≤w'.heap.size):WsOn w' g o rv vs wss gb gd rss ds rest:=by
 obtain⟨b,⟨c0,c1,c2,cf,cl,cb,cd,n1,n2,n3,n4⟩,h5⟩:=h.ctr
 have hr:∀ {B n sz:Nat} {t:TypeId} {v:Value} {xs:List Value},w.ownsRow B t sz v n xs→t≠tg→w'.ownsRow B t sz v n xs:=fun h ht=>zAc h (fun k e=>hk k (fun e2=>zAr h hg ht (by rw[e,e2])))
 refine⟨(hc o (by omega) (by omega)).trans h.c0,⟨hr h.runs.own h1,h.runs.lv,h.runs.lw,fun i hi u us hu hus=>?_⟩,b,⟨(hc _ (by omega) (by omega)).trans c0,(hc _ (by omega) (by omega)).trans c1,(hc _ (by omega) (by omega)).trans c2,hf,by omega,cb.of_block (hk _ (fun e=>n2 e.symm)),cd.of_block (hk _ (fun e=>n1 e.symm)),n1,n2,n3,n4⟩,h5⟩
 have q:=h.runs.runs i hi u us hu hus
 exact⟨hr q.own h2,q.len,fun j hj x hx=>hr (q.evs j hj x hx) h3⟩
structure WA where
 rv:Value
 vs:List Value
 wss:List (List Value)
 gb:Nat
 gd:Nat
structure RA where
 ev:Value
 rg:Value
 fa:FA
 cv:Value
 cvs:List Value
 gb:Nat
 gd:Nat
def WA.on (A:WA) (w:World) (gc:Nat) (rss:List (List Q.Run)) (ds:List Int) (rest:List (List Int)):Prop:=WsOn w gc 13 A.rv A.vs A.wss A.gb A.gd rss ds rest
structure RA.on (R:RA) (w:World) (gc:Nat) (A:WA) (wd:Q.Wd) (ds:List Int) (rest:List (List Int)):Prop where
 c0:w.cell? ⟨gc,0,none⟩=some R.ev
 c1:w.cell? ⟨gc,1,none⟩=some R.rg
 wdi:WdIn w R.ev R.rg wd
 fc:w.rangeAt gc 2 (zAl R.fa).toList
 fin:FactsIn w R.fa (Q.zIx wd.events)
 rd:RdOn w gc 17 R.cv R.cvs R.gb R.gd (Q.zIk wd.events) ds rest
 n1:A.gb≠R.gd
 n2:A.gd≠R.gd
 n3:R.rg.ownBlock≠some R.gd∧R.rg.ownBlock≠some gc
def RA.nb (R:RA) (k:Nat):Prop:=R.rg.ownBlock=some k∨R.cv.ownBlock=some k∨(∃ u∈R.cvs,u.ownBlock=some k)∨k=R.gb∨k=R.gd
namespace Q
structure WdOk (wd:Wd):Prop where
 pos:0<wd.events.length
 le:wd.events.length≤64
 hangs:hangsOk wd.events
 regs:wd.regs.length<100
 vals:∀ x∈wd.regs,0≤x∧x<4
 evals:∀ e∈wd.events,0≤e.value∧e.value<4
 fo:(zIE (zIp wd.events (fenceRows wd.events))).length<100000000
def zKp (wd:Wd):List (Wd × List Int):=(zIE (lens (zIk wd.events))).map fun r=>(wd,r)
theorem zJO (es:List Ev):(zIk es).length=es.length:=by simp[zIk]
theorem mayRead_len (es:List Ev) (i:Nat) (h:es.length≤64):(zJk es i).length≤64:=by
 unfold zJk
 split
 ·rw[List.length_map]
  have:=List.length_filter_le (mayR es i) (List.range es.length)
  simp at this;omega
 ·simp
theorem choices_mem (es:List Ev) (h:es.length≤64):∀ c∈zIk es,c.length≤64:=by
 intro c hc
 simp only[zIk,List.mem_map] at hc
 obtain⟨i,_,rfl⟩:=hc
 exact mayRead_len es i h
theorem lens_mem (es:List Ev) (h:es.length≤64):∀ b∈lens (zIk es),b<1000000000:=by
 intro b hb
 simp only[lens,List.mem_map] at hb
 obtain⟨c,hc,rfl⟩:=hb
 have:=choices_mem es h c hc
 omega
end Q
structure RS where
 R:RA
 wd:Q.Wd
 ds:List Int
 rest:List (List Int)
def zCm (rss:List (List Q.Run)) (st:Option RS) (rest:List (List Int)):List (Q.Wd × List Int) :=
 (match st with | none=>[] | some s=>s.rest.map fun r=>(s.wd,r))++rest.flatMap fun d=>Q.zKp (Q.zIl rss d)
def nbS (st:Option RS) (k:Nat):Prop:=∃ s,st=some s∧s.R.nb k
def gdS (st:Option RS) (k:Nat):Prop:=∃ s,st=some s∧k=s.R.gd
structure CFrame (w w':World) (gc:Nat) (A:WA) (st:Option RS):Prop where
 os:w'.os=w.os
 tape:w'.tape=w.tape
 output:w'.output=w.output
 size:w.heap.size≤w'.heap.size
 block:∀ k,k<w.heap.size→k≠gc→k≠A.gd→¬ gdS st k→w'.heap[k]?=w.heap[k]?
theorem CFrame.refl (w:World) (gc:Nat) (A:WA) (st:Option RS):CFrame w w gc A st:=⟨rfl,rfl,rfl,Nat.le_refl _,fun _ _ _ _ _=>rfl⟩
theorem CFrame.below {w w1 w2:World} {gc:Nat} {A:WA} {st:Option RS} (h:CFrame w w1 gc A st) (hb:Below w1.heap.size w1 w2):CFrame w w2 gc A st :=
 ⟨hb.os.trans h.os,hb.tape.trans h.tape,hb.output.trans h.output,Nat.le_trans h.size hb.size,fun k h1 h2 h3 h4=>(hb.block k (Nat.lt_of_lt_of_le h1 h.size)).trans (h.block k h1 h2 h3 h4)⟩
theorem CFrame.ticked {w w1 w2:World} {gc o gd:Nat} {A:WA} {st:Option RS} (h:CFrame w w1 gc A st) (hT:Ticked w1 w2 gc o gd) (hd:gd=A.gd∨gdS st gd∨w.heap.size≤gd):CFrame w w2 gc A st :=
 ⟨hT.os.trans h.os,hT.tape.trans h.tape,hT.output.trans h.output,by rw[hT.size];exact h.size,fun k h1 h2 h3 h4=>(hT.block k h2 (fun e=>by
  subst e
  rcases hd with h5 | h5 | h5
  ·exact h3 h5
  ·exact h4 h5
  ·omega)).trans (h.block k h1 h2 h3 h4)⟩
theorem CFrame.set {w w1:World} {gc:Nat} {A:WA} {st:Option RS} (h:CFrame w w1 gc A st) (o:Nat) (vs:List Value):CFrame w (w1.setCells gc o vs) gc A st:=by
 have hg:=zBO (g:=gc) vs o w1
 exact⟨hg.os.trans h.os,hg.tape.trans h.tape,hg.output.trans h.output,by rw[zAS];exact h.size,fun k h1 h2 h3 h4=>(zBq gc vs o w1 k h2).trans (h.block k h1 h2 h3 h4)⟩
theorem CFrame.trans {w w1 w2:World} {gc:Nat} {A:WA} {st st1:Option RS} (h:CFrame w w1 gc A st) (h2:CFrame w1 w2 gc A st1) (hn:∀ k,gdS st1 k→gdS st k∨w.heap.size≤k):CFrame w w2 gc A st :=
 ⟨h2.os.trans h.os,h2.tape.trans h.tape,h2.output.trans h.output,Nat.le_trans h.size h2.size,fun k k1 k2 k3 k4=>(h2.block k (Nat.lt_of_lt_of_le k1 h.size) k2 k3 (fun e=>by
  rcases hn k e with h5 | h5
  ·exact k4 h5
  ·omega)).trans (h.block k k1 k2 k3 k4)⟩
structure CandOn (w:World) (gc:Nat) (A:WA) (rss:List (List Q.Run)) (st:Option RS) (ds:List Int) (rest:List (List Int)):Prop where
 box:Box w gc
 ws:A.on w gc rss ds rest
 beg:w.cell? ⟨gc,21,none⟩=some (.bool st.isSome)
 rs:∀ s,st=some s→s.R.on w gc A s.wd s.ds s.rest∧Q.WdOk s.wd
theorem WA.on.below {w w':World} {gc:Nat} {A:WA} {rss:List (List Q.Run)} {ds:List Int} {rest:List (List Int)} (h:A.on w gc rss ds rest) (hb:Below w.heap.size w w'):A.on w' gc rss ds rest:=WsOn.below h hb
theorem zDy {w w':World} {g o:Nat} {l:List Value} (h:w.rangeAt g o l) (hb:Below w.heap.size w w') (hg:g<w.heap.size):w'.rangeAt g o l:=zAz h (hb.block g hg)
theorem RA.on.below {R:RA} {w w':World} {gc:Nat} {A:WA} {wd:Q.Wd} {ds:List Int} {rest:List (List Int)} (h:R.on w gc A wd ds rest) (hb:Below w.heap.size w w'):R.on w' gc A wd ds rest:=by
 obtain⟨b,hc⟩:=h.rd.ctr.ctr
 have hl:=hc.lt
 exact⟨(hb.cell hl).trans h.c0,(hb.cell hl).trans h.c1,h.wdi.below hb,zDy h.fc hb hl,h.fin.below hb,h.rd.below hb,h.n1,h.n2,h.n3⟩
theorem CandOn.below {w w':World} {gc:Nat} {A:WA} {rss:List (List Q.Run)} {st:Option RS} {ds:List Int} {rest:List (List Int)} (h:CandOn w gc A rss st ds rest) (hb:Below w.heap.size w w'):CandOn w' gc A rss st ds rest :=
 ⟨h.box.below hb,h.ws.below hb,(hb.cell h.box.lt).trans h.beg,fun s hs=>⟨(h.rs s hs).1.below hb,(h.rs s hs).2⟩⟩
theorem zCH (I:World→Nat→Prop):∃ μ:World→Nat,∀ w,(∃ n,I w n)→I w (μ w)∧∀ m,I w m→μ w≤m:=by
 have key:∀ P:Nat→Prop,(∃ n,P n)→∃ n,P n∧∀ m,P m→n≤m:=by
  intro P hP
  obtain⟨n,hn⟩:=hP
  induction n using Nat.strongRecOn with
  | ind n ih =>
   by_cases h:∃ m,m<n∧P m
   ·obtain⟨m,hm,hp⟩:=h
    exact ih m hm hp
   ·exact⟨n,hn,fun m hm=>by
     by_cases hl:m<n
     ·exact absurd ⟨m,hl,hm⟩ h
     ·omega⟩
 have k2:∀ w,∃ n,(∃ n,I w n)→I w n∧∀ m,I w m→n≤m:=fun w=>by
  by_cases h:∃ n,I w n
  ·obtain⟨n,hn⟩:=key (I w) h
   exact⟨n,fun _=>hn⟩
  ·exact⟨0,fun e=>absurd e h⟩
 exact⟨fun w=>Classical.choose (k2 w),fun w=>Classical.choose_spec (k2 w)⟩
structure CandW (w:World) (gc:Nat) (A:WA) (rss:List (List Q.Run)) (ds:List Int) (rest:List (List Int)):Prop where
 box:Box w gc
 ws:A.on w gc rss ds rest
 beg:∃ b,w.cell? ⟨gc,21,none⟩=some (.bool b)
def zHx (w w':World) (gc:Nat) (A:WA) (rss:List (List Q.Run)) (st:Option RS) (rem:List (Q.Wd × List Int)) (b:Bool):Prop :=
 CFrame w w' gc A st∧((b=false∧rem=[])∨(b=true∧∃ s ds rest,CandOn w' gc A rss (some s) ds rest∧rem=(s.wd,s.ds)::zCm rss (some s) rest∧Q.DigOk (Q.lens (Q.zIk s.wd.events)) s.ds∧(∀ k,s.R.nb k→nbS st k∨w.heap.size≤k)∧(gdS st s.R.gd∨w.heap.size≤s.R.gd)))
theorem zGG {w w':World} {gc:Nat} {A:WA} {rss:List (List Q.Run)} {ds:List Int} {rest:List (List Int)} {gd:Nat} {cd:Array Value} (h:A.on w gc rss ds rest) (hT:Ticked w w' gc 18 gd) (hb:Box w gc) (h1:A.gb≠gd) (h2:A.gd≠gd) (hd:w.heap[gd]?=some (.cells cd 3 (0,0))):A.on w' gc rss ds rest:=by
 obtain⟨b,⟨c0,c1,c2,cf,cl,cb,cdg,n1,n2,n3,n4⟩,h5⟩:=h.ctr
 obtain⟨cc,hcc,_⟩:=hb
 exact⟨(hT.cell _ (by omega)).trans h.c0,RunsAll.ticked h.runs hT hcc (by decide) (by decide) (by decide) hd,b,⟨(hT.cell _ (by omega)).trans c0,(hT.cell _ (by omega)).trans c1,(hT.cell _ (by omega)).trans c2,fun j=>(hT.froz j).trans (cf j),by rw[hT.size];exact cl,cb.of_block (hT.block _ (fun e=>n2 e.symm) h1),cdg.of_block (hT.block _ (fun e=>n1 e.symm) h2),n1,n2,n3,n4⟩,h5⟩
theorem zHM {w w':World} {gc gd o:Nat} {ev rg:Value} {wd:Q.Wd} {cc cd:Array Value} (h:WdIn w ev rg wd) (hT:Ticked w w' gc o gd) (hcc:w.heap[gc]?=some (.cells cc 75 (0,0))) (hd:w.heap[gd]?=some (.cells cd 3 (0,0))) (h3:rg.ownBlock≠some gd∧rg.ownBlock≠some gc):WdIn w' ev rg wd :=
 ⟨zCG h.evs hT hcc (by decide) hd (by decide),h.regs.own w' (fun k e=>hT.block k (fun e2=>h3.2 (by rw[e,e2])) (fun e2=>h3.1 (by rw[e,e2]))) (by rw[hT.size];exact Nat.le_refl _)⟩
theorem zCn {w:World} {g k:Nat} {l:List Nat} {c:Array Value} {t:TypeId} (h:zAo w g l) (hk:w.heap[k]?=some (.cells c t (0,0))) (ht:127≠t):g≠k:=fun e=>by
 unfold zAo at h
 rw[e,hk] at h
 simp at h
 exact ht h.2.symm
theorem FactsIn.off {w w':World} {a:FA} {f:Q.Facts} (h:FactsIn w a f) (hs:∀ g l,zAo w g l→w'.heap[g]?=w.heap[g]?) (he:zAW w' a.ev f.events):FactsIn w' a f :=
 have K:∀ {g n l},RelAt w g n l→RelAt w' g n l:=fun {g n l} h=>⟨h.at_.of_block (hs g l h.at_),h.len,h.fits⟩
 ⟨he,h.len,h.n64,K h.r1,K h.r2,K h.r3,K h.r4,K h.r5,K h.r6,K h.r7,K h.r8,K h.r9⟩
theorem zHk {w w':World} {gc gd o:Nat} {a:FA} {f:Q.Facts} {cc cd:Array Value} (h:FactsIn w a f) (hT:Ticked w w' gc o gd) (hcc:w.heap[gc]?=some (.cells cc 75 (0,0))) (hd:w.heap[gd]?=some (.cells cd 3 (0,0))):FactsIn w' a f :=
 h.off (fun g l hg=>hT.block g (zCn hg hcc (by decide)) (zCn hg hd (by decide))) (zCG h.ev hT hcc (by decide) hd (by decide))
theorem zGf {w w':World} {gc gd o p:Nat} {l:List Value} (h:w.rangeAt gc p l) (hT:Ticked w w' gc o gd) (hp:p+l.length≤o+2):w'.rangeAt gc p l:=fun j u hu=>by
 have hj:j<l.length:=(List.getElem?_eq_some_iff.1 hu).1
 rw[← h j u hu];exact hT.cell _ (by simp;omega)
def zFi (w:World) (gc:Nat) (A:WA) (rss:List (List Q.Run)) (st:Option RS) (R0:List (Q.Wd × List Int)) (wr:World) (n:Nat):Prop :=
 ∃ st1 ds1 rest1,CandOn wr gc A rss st1 ds1 rest1∧zCm rss st1 rest1=R0∧rest1.length=n∧CFrame w wr gc A st∧(∀ k,nbS st1 k→nbS st k∨w.heap.size≤k)∧∀ k,gdS st1 k→gdS st k∨w.heap.size≤k
theorem zFi.some {w wr w2:World} {gc:Nat} {A:WA} {rss:List (List Q.Run)} {st:Option RS} {R0:List (Q.Wd × List Int)} {s:RS} {ds1:List Int} {rest1:List (List Int)} (hC:CandOn wr gc A rss (some s) ds1 rest1) (hR:zCm rss (some s) rest1=R0) (hF:CFrame w wr gc A st) (hN:(∀ k,nbS (some s) k→nbS st k∨w.heap.size≤k)∧∀ k,gdS (some s) k→gdS st k∨w.heap.size≤k)
  {r:List Int} {q:List (List Int)} (hT:Ticked wr w2 gc 18 s.R.gd) (hr:s.rest=r::q) (hrd:RdOn w2 gc 17 s.R.cv s.R.cvs s.R.gb s.R.gd (Q.zIk s.wd.events) r q) (hd:Q.DigOk (Q.lens (Q.zIk s.wd.events)) r) (hF2:CFrame w w2 gc A st):zHx w w2 gc A rss st R0 true:=by
 obtain⟨hon,hok⟩:=hC.rs s rfl
 obtain⟨cc,hcc,_⟩:=id hC.box
 obtain⟨b,hc⟩:=hon.rd.ctr.ctr
 refine⟨hF2,Or.inr ⟨rfl,⟨s.R,s.wd,r,q⟩,ds1,rest1,⟨hC.box.ticked hT,zGG hC.ws hT hC.box hon.n1 hon.n2 hc.digits,(hT.cell _ (by omega)).trans hC.beg,?_⟩,?_,hd,fun k hk=>hN.1 k ⟨s,rfl,hk⟩,hN.2 _ ⟨s,rfl,rfl⟩⟩⟩
 ·intro s' hs'
  simp only[Option.some.injEq] at hs'
  subst hs'
  exact⟨⟨(hT.cell _ (by omega)).trans hon.c0,(hT.cell _ (by omega)).trans hon.c1,zHM hon.wdi hT hcc hc.digits hon.n3,zGf hon.fc hT (by simp[zAl]),zHk hon.fin hT hcc hc.digits,hrd,hon.n1,hon.n2,hon.n3⟩,hok⟩
 ·rw[← hR]
  simp[zCm,hr]
structure CW (w0 w:World) (gc:Nat) (A:WA) (rss:List (List Q.Run)) (st:Option RS) (d:List Int) (q:List (List Int)):Prop where
 box:Box w gc
 ws:A.on w gc rss d q
 beg:w.cell? ⟨gc,21,none⟩=some (.bool true)
 fr:CFrame w0 w gc A st
theorem CW.below {w0 w w':World} {gc:Nat} {A:WA} {rss:List (List Q.Run)} {st:Option RS} {d:List Int} {q:List (List Int)} (h:CW w0 w gc A rss st d q) (hb:Below w.heap.size w w'):CW w0 w' gc A rss st d q :=
 ⟨h.box.below hb,h.ws.below hb,(hb.cell h.box.lt).trans h.beg,h.fr.below hb⟩
theorem CW.set {w0 w:World} {gc:Nat} {A:WA} {rss:List (List Q.Run)} {st:Option RS} {d:List Int} {q:List (List Int)} (h:CW w0 w gc A rss st d q) (o:Nat) (vs:List Value) (ho:o+vs.length≤13∨(17≤o∧o+vs.length≤21)):CW w0 (w.setCells gc o vs) gc A rss st d q:=by
 obtain⟨b6,r6,o6,k6⟩:=h.box.set o vs (by omega)
 obtain⟨cc,hcc,_⟩:=id h.box
 exact⟨b6,WsOn.upd h.ws hcc (by decide) (by decide) (by decide) (fun j h1 h2=>o6 j (by omega)) (fun j=>b6.free j) k6 (by rw[zAS];exact Nat.le_refl _),(o6 21 (by omega)).trans h.beg,h.fr.set o vs⟩
theorem CW.start {w0 w:World} {gc:Nat} {A:WA} {rss:List (List Q.Run)} {st:Option RS} {d:List Int} {q:List (List Int)} (hb:Box w gc) (hw:A.on w gc rss d q) (hf:CFrame w0 w gc A st):CW w0 (w.setCell ⟨gc,21,none⟩ (.bool true)) gc A rss st d q:=by
 obtain⟨b6,r6,o6,k6⟩:=hb.set 21 [.bool true] (by decide)
 obtain⟨cc,hcc,_⟩:=id hb
 exact⟨b6,WsOn.upd hw hcc (by decide) (by decide) (by decide) (fun j h1 h2=>o6 j (Or.inl (by omega))) (fun j=>b6.free j) k6 (by simp),r6 0 _ rfl,hf.set 21 [.bool true]⟩
structure CW1 (w:World) (gc:Nat) (ev rg:Value) (wd:Q.Wd):Prop where
 c0:w.cell? ⟨gc,0,none⟩=some ev
 c1:w.cell? ⟨gc,1,none⟩=some rg
 wdi:WdIn w ev rg wd
 ne:rg.ownBlock≠some gc
theorem CW1.below {w w':World} {gc:Nat} {ev rg:Value} {wd:Q.Wd} (h:CW1 w gc ev rg wd) (hg:Box w gc) (hb:Below w.heap.size w w'):CW1 w' gc ev rg wd :=
 ⟨(hb.cell hg.lt).trans h.c0,(hb.cell hg.lt).trans h.c1,h.wdi.below hb,h.ne⟩
theorem zGH {w:World} {gc:Nat} {ev rg:Value} {wd:Q.Wd} (h:WdIn w ev rg wd) (ne:rg.ownBlock≠some gc) (hg:Box w gc) (o:Nat) (vs:List Value) (ho:o+vs.length≤22):WdIn (w.setCells gc o vs) ev rg wd:=by
 obtain⟨b6,r6,o6,k6⟩:=hg.set o vs ho
 obtain⟨cc,hcc,_⟩:=id hg
 exact⟨zAc h.evs (fun k e=>k6 k (fun e2=>zAr h.evs hcc (by decide) (by rw[e,e2]))),h.regs.own _ (fun k e=>k6 k (fun e2=>ne (by rw[e,e2]))) (by rw[zAS];exact Nat.le_refl _)⟩
theorem CW1.set {w:World} {gc:Nat} {ev rg:Value} {wd:Q.Wd} (h:CW1 w gc ev rg wd) (hg:Box w gc) (o:Nat) (vs:List Value) (ho:o+vs.length≤22) (h2:2≤o):CW1 (w.setCells gc o vs) gc ev rg wd:=by
 obtain⟨b6,r6,o6,k6⟩:=hg.set o vs ho
 exact⟨(o6 0 (Or.inl (by omega))).trans h.c0,(o6 1 (Or.inl (by omega))).trans h.c1,zGH h.wdi h.ne hg o vs ho,h.ne⟩
theorem CW1.start {w:World} {gc:Nat} {ev rg:Value} {wd:Q.Wd} (h:WdIn w ev rg wd) (ne:rg.ownBlock≠some gc) (hg:Box w gc):CW1 (w.setCells gc 0 [ev,rg]) gc ev rg wd:=by
 obtain⟨b6,r6,o6,k6⟩:=hg.set 0 [ev,rg] (by simp)
 exact⟨r6 0 _ rfl,r6 1 _ rfl,zGH h ne hg 0 [ev,rg] (by simp),ne⟩
structure CW2 (w:World) (gc:Nat) (fa:FA) (es:List Q.Ev):Prop where
 fc:w.rangeAt gc 2 (zAl fa).toList
 fin:FactsIn w fa (Q.zIx es)
theorem CW2.below {w w':World} {gc:Nat} {fa:FA} {es:List Q.Ev} (h:CW2 w gc fa es) (hg:Box w gc) (hb:Below w.heap.size w w'):CW2 w' gc fa es:=⟨zDy h.fc hb hg.lt,h.fin.below hb⟩
theorem zFj {w:World} {gc:Nat} {fa:FA} {f:Q.Facts} (h:FactsIn w fa f) (hg:Box w gc) (o:Nat) (vs:List Value) (ho:o+vs.length≤22):FactsIn (w.setCells gc o vs) fa f:=by
 obtain⟨b6,r6,o6,k6⟩:=hg.set o vs ho
 obtain⟨cc,hcc,_⟩:=id hg
 exact h.off (fun g l hg=>k6 g (zCn hg hcc (by decide))) (zAc h.ev (fun k e=>k6 k (fun e2=>zAr h.ev hcc (by decide) (by rw[e,e2]))))
theorem CW2.start {w:World} {gc:Nat} {fa:FA} {es:List Q.Ev} (h:FactsIn w fa (Q.zIx es)) (hg:Box w gc):CW2 (w.setCells gc 2 (zAl fa).toList) gc fa es:=by
 obtain⟨b6,r6,o6,k6⟩:=hg.set 2 (zAl fa).toList (by simp[zAl])
 exact⟨r6,zFj h hg 2 _ (by simp[zAl])⟩
theorem CW2.set {w:World} {gc:Nat} {fa:FA} {es:List Q.Ev} (h:CW2 w gc fa es) (hg:Box w gc) (o:Nat) (vs:List Value) (ho:o+vs.length≤22) (h2:12≤o):CW2 (w.setCells gc o vs) gc fa es :=
 ⟨World.rangeAt_setCells_apart h.fc gc o vs (Or.inr (Or.inl (by simp[zAl];omega))),zFj h.fin hg o vs ho⟩
theorem zFB {w0 w:World} {gc:Nat} {A:WA} {rss:List (List Q.Run)} {st:Option RS} {d:List Int} {q:List (List Int)} {ev rg:Value} {fa:FA} {wd:Q.Wd} {ca:Option Addr} {cp gb gd:Nat} {cvs:List Value} {sz:Nat} (h:CW w0 w gc A rss st d q) (h1:CW1 w gc ev rg wd) (h2:CW2 w gc fa wd.events)
  (hri:RowsI w sz (.slice ca (Q.zIk wd.events).length cp) (Q.zIk wd.events) cvs) (hib:zAp w gb (Q.lens (Q.zIk wd.events))) (hid:zAp w gd (Q.zeros (Q.zIk wd.events).length)) (hgb:sz≤gb) (hgd:sz≤gd) (hbd:gb≠gd) (hcd:(Value.slice ca (Q.zIk wd.events).length cp).ownBlock≠some gd) (hcu:∀ u∈cvs,∀ k,u.ownBlock=some k→sz≤k∧k≠gd)
  (hsz:gc<sz) (hA:A.gb<sz∧A.gd<sz) (hrg:∀ k,rg.ownBlock=some k→k<sz) (hwk:Q.WdOk wd) :
  CandOn (w.setCells gc 17 [.slice ca (Q.zIk wd.events).length cp,.slice (some ⟨gb,0,none⟩) (Q.zIk wd.events).length (Q.zIk wd.events).length,.slice (some ⟨gd,0,none⟩) (Q.zIk wd.events).length (Q.zIk wd.events).length,.bool false]) gc A rss (some ⟨⟨ev,rg,fa,.slice ca (Q.zIk wd.events).length cp,cvs,gb,gd⟩,wd,Q.zeros (Q.zIk wd.events).length,Q.zIE (Q.lens (Q.zIk wd.events))⟩) d q:=by
 have g:=h.set 17 [.slice ca (Q.zIk wd.events).length cp,.slice (some ⟨gb,0,none⟩) (Q.zIk wd.events).length (Q.zIk wd.events).length,.slice (some ⟨gd,0,none⟩) (Q.zIk wd.events).length (Q.zIk wd.events).length,.bool false] (Or.inr (by simp))
 have g1:=h1.set h.box 17 [.slice ca (Q.zIk wd.events).length cp,.slice (some ⟨gb,0,none⟩) (Q.zIk wd.events).length (Q.zIk wd.events).length,.slice (some ⟨gd,0,none⟩) (Q.zIk wd.events).length (Q.zIk wd.events).length,.bool false] (by simp) (by decide)
 have g2:=h2.set h.box 17 [.slice ca (Q.zIk wd.events).length cp,.slice (some ⟨gb,0,none⟩) (Q.zIk wd.events).length (Q.zIk wd.events).length,.slice (some ⟨gd,0,none⟩) (Q.zIk wd.events).length (Q.zIk wd.events).length,.bool false] (by simp) (by decide)
 obtain⟨b6,r6,o6,k6⟩:=h.box.set 17 [.slice ca (Q.zIk wd.events).length cp,.slice (some ⟨gb,0,none⟩) (Q.zIk wd.events).length (Q.zIk wd.events).length,.slice (some ⟨gd,0,none⟩) (Q.zIk wd.events).length (Q.zIk wd.events).length,.bool false] (by simp)
 have hcw:∀ k,(Value.slice ca (Q.zIk wd.events).length cp).ownBlock=some k→sz≤k:=fun k e=>(hri.own.lt k e).1
 refine⟨g.box,g.ws,g.beg,fun s hs=>?_⟩
 simp only[Option.some.injEq] at hs
 subst hs
 refine⟨⟨g1.c0,g1.c1,g1.wdi,g2.fc,g2.fin,⟨r6 0 _ rfl,⟨?_,hri.len,fun i hi x hx=>(hri.rows i hi x hx).own _ (fun k e=>k6 k (by have:=(hcu x (List.mem_of_getElem? hx) k e).1;omega)) (by rw[zAS];exact Nat.le_refl _)⟩,⟨false,⟨?_,?_,r6 3 _ rfl,g.box.free,g.box.lt,hib.of_block (k6 _ (by omega)),?_,by show gc≠gd;omega,by show gc≠gb;omega,hbd,?_⟩,Or.inl ⟨rfl,?_,rfl⟩⟩,⟨hcd,fun e=>?_⟩,fun u hu k e=>?_⟩,?_,?_,⟨fun e=>?_,g1.ne⟩⟩,hwk⟩
 ·have h3:=zAc hri.own (fun k e=>k6 k (by have:=hcw k e;omega))
  refine⟨h3.1,?_⟩
  rcases h3.2 with h0 | ⟨g',cap',cur,e,hge,q⟩
  ·exact Or.inl h0
  ·exact Or.inr ⟨g',cap',cur,e,Nat.zero_le _,q⟩
 ·rw[Q.zJf];exact r6 1 _ rfl
 ·have hz:(Q.zeros (Q.zIk wd.events).length).length=(Q.zIk wd.events).length:=by simp[Q.zeros]
  show _=some (Value.slice (some ⟨gd,0,none⟩) (Q.zeros (Q.zIk wd.events).length).length (Q.zeros (Q.zIk wd.events).length).length)
  rw[hz];exact r6 2 _ rfl
 ·exact hid.of_block (k6 _ (by omega))
 ·show (Q.zeros (Q.zIk wd.events).length).length=_
  rw[Q.zJf];simp[Q.zeros]
 ·show Q.zeros (Q.zIk wd.events).length=_
  rw[Q.zJf]
 ·have:=hcw gc e;omega
 ·have:=hcu u hu k e
  exact⟨this.2,by omega⟩
 ·show A.gb≠gd;omega
 ·show A.gd≠gd;omega
 ·have:=hrg gd e;omega
namespace Q
def wrowF (es:List Ev) (k:Nat):Int:=if (ev es k).kind==1 then (ev es k).var else -1
theorem writeRows_range (es:List Ev):zIj es=(List.range es.length).map (wrowF es):=by
 unfold zIj
 apply List.ext_getElem
 ·simp
 ·intro i h1 h2
  simp at h1
  simp[wrowF,ev,h1]
end Q
theorem zDz (ev rg:Value) (es:List Q.Ev) (w:World) (he:zAW w ev es) (hrg:∃ a n c,rg=.slice a n c) (hn:es.length≤64) :
  Calls Tryz.prog 55 #[.agg #[ev,rg]] w fun e w'=>zHv w w' (Q.zIj es) (Q.zIp es (Q.zIj es)) e:=by
 have hmk:∀ w,(Instr.makeSlice 31 (.int .i64 (es.length:Int)) (.int .i64 (es.length:Int))).run Tryz.prog w=.ok (.slice (some ⟨w.heap.size,0,none⟩) es.length es.length) (w.alloc (.cells (madeCells #[.int .i64 0] es.length) 3)) :=
  fun w=>run_make_row' 31 3 (.int .i64 0) 8 Tryz.underlying31 Tryz.infoInt rfl .i64 .i64 es.length (by omega) (by omega) w
 obtain⟨ea,ec,rfl,hea⟩:=he.form
 obtain⟨ra,rn,rc,rfl⟩:=hrg
 obtain⟨k0,k1,hsz,hbw⟩:=zBM w #[.slice ea es.length ec,.slice ra rn rc] #[.slice none 0 0,.slice none 0 0,.slice none 0 0,.bool false] 61 108
 have HE0:=zAa he
 have BW0:=zAa hbw
 have HRO:Hid (Q.zIj es=(List.range es.length).map (Q.wrowF es)):=Q.writeRows_range es
 have HRL:Hid ((Q.zIj es).length=es.length):=by simp[Hid,Q.zIj]
 clear hbw he
 go_enter Tryz.func55,Tryz.ntmps55
 go_upto_region 1 with fail
 generalize hE:(w.alloc (.cells #[.slice ea es.length ec,.slice ra rn rc] 61)).alloc (.cells #[.slice none 0 0,.slice none 0 0,.slice none 0 0,.bool false] 108)=W0 at *
 have c00:=ceL k0 0 _ rfl
 have c01:=ceL k0 1 _ rfl
 have l0:w.heap.size<W0.heap.size:=by omega
 have l1:w.heap.size+1<W0.heap.size:=by omega
 have hszl:w.heap.size+2≤W0.heap.size:=by omega
 have K1:=zAa k1
 have HM0:Hid (zAp (W0.alloc (.cells (madeCells #[.int .i64 0] es.length) 3)) W0.heap.size (Q.mixI (Q.wrowF es) es.length 0)):=by
  unfold Hid zAp;rw[Q.zJL,← zBX];exact heap_alloc_new W0 _
 have HB0:Hid (Below W0.heap.size W0 (W0.alloc (.cells (madeCells #[.int .i64 0] es.length) 3))):=(Below.refl _ _).alloc (Nat.le_refl _) _
 clear hE k0 k1 hsz
 go_wp2
 go_loopw [13] (fun j wr=>∃ (k:Nat),k≤es.length∧j=.int .i64 k∧Hid (zAp wr W0.heap.size (Q.mixI (Q.wrowF es) es.length k))∧Hid (Below W0.heap.size W0 wr)) (fun j _=>es.length-(intOf j).toNat)
 case atStart=>exact⟨0,Nat.zero_le _,rfl,HM0,HB0⟩
 case round =>
  obtain⟨k,hk,rfl,HI,HBL2⟩:=hrel
  by_cases hlt:k<es.length
  ·have hin:(k:Int)<(es.length:Int):=by omega
   obtain⟨be,rfl,hbe⟩:=hea (by omega)
   have hbeW:be<W0.heap.size:=by omega
   have HR1:Hid (wr.rangeAt be (k*10) (zAb (Q.ev es k)).toList):=zAz (HE0.out.range' rfl k (by omega)) ((HBL2.out.block be hbeW).trans (BW0.out.block be hbe))
   have HMS:=zAa (Q.zKf (Q.wrowF es) es.length k hlt)
   have HPF:Hid (Q.wrowF es k=if (Q.ev es k).kind==1 then (Q.ev es k).var else -1):=rfl
   generalize Q.ev es k=e1 at *
   have HI1:=zAa (HI.out.below ((Below.refl _ _).alloc (Nat.le_refl _) (.cells (zAb e1) 129)))
   have HBX1:Hid (Below W0.heap.size W0 (wr.alloc (.cells (zAb e1) 129))):=HBL2.out.alloc HBL2.out.size _
   have hkl:k<(Q.mixI (Q.wrowF es) es.length k).length:=by rw[Q.zJC];exact hlt
   have hkl2:k<((Q.mixI (Q.wrowF es) es.length k).set k (-1)).length:=by rw[List.length_set];exact hkl
   have t0:=HI1.out.cellD k hkl
   have ff:=HI1.out.free k
   have tl:=HI1.out.lt
   have JX:=zAa (HI1.out.set k (-1))
   have BX:Hid (Below W0.heap.size W0 ((wr.alloc (.cells (zAb e1) 129)).setCell ⟨W0.heap.size,k,none⟩ (.int .i64 (-1)))):=HBX1.out.setCell (p:=⟨W0.heap.size,k,none⟩) (Nat.le_refl _) _
   have EA:Hid (zAQ ((wr.alloc (.cells (zAb e1) 129)).setCell ⟨W0.heap.size,k,none⟩ (.int .i64 (-1))) wr.heap.size e1):=by
    have h1:=zAQ.new wr e1
    have h2:=HI.out.lt
    unfold Hid zAQ at *
    rw[Below.heap_setCell _ _ _ _ (by simp;omega)];exact h1
   obtain⟨x0,x1,x2,x3,x4,x5,x6,x7,x8,x9,xf,xl⟩:=EA.out.facts
   simp only[zAb] at t0 ff tl x0 x1 x2 x3 x4 x5 x6 x7 x8 x9 xf xl
   generalize hgm:(Q.mixI (Q.wrowF es) es.length k).getD k 0=gm at *
   cases z1:(e1.kind==1)
   ·have HN:Hid ((Q.mixI (Q.wrowF es) es.length k).set k (-1)=Q.mixI (Q.wrowF es) es.length (k+1)):=by unfold Hid;rw[← HMS.out,HPF.out,z1];rfl
    rw[HN.out] at JX
    go_wp2_with (first | (refine zAg (.tmp 16) rfl rfl be (k*10) e1 rfl HR1.out ?_))
    go_roundw
    case rel=>exact⟨k+1,by omega,by go_num,JX,BX⟩
    case measure=>simp[intOf];omega
   ·have HN:Hid (((Q.mixI (Q.wrowF es) es.length k).set k (-1)).set k (e1.var)=Q.mixI (Q.wrowF es) es.length (k+1)):=by unfold Hid;rw[List.set_set,← HMS.out,HPF.out,z1];rfl
    have JY:=zAa (JX.out.set k (e1.var))
    have t5:=JX.out.cellD k hkl2
    simp only[zAb] at t5
    go_wp2_with (first | (refine zAg (.tmp 16) rfl rfl be (k*10) e1 rfl HR1.out ?_))
    go_roundw
    case rel=>exact⟨k+1,by omega,by go_num,by rw[← HN.out];exact JY,BX.out.setCell (p:=⟨W0.heap.size,k,none⟩) (Nat.le_refl _) _⟩
    case measure=>simp[intOf];omega
  ·have hkn:k=es.length:=by omega
   have HF:Hid (zAp wr W0.heap.size (Q.zIj es)):=by
    have h1:=HI.out
    rw[hkn,Q.zJM,← HRO.out] at h1
    exact h1
   have HE1:Hid (zAW wr (.slice ea es.length ec) es):=HE0.out.keep fun q hq=>(HBL2.out.block q (by omega)).trans (BW0.out.block q hq)
   have d0:=cfL HBL2.out l0 c00
   have d1:=cfL HBL2.out l0 c01
   have ld0:=Nat.lt_of_lt_of_le l0 HBL2.out.size
   clear HI hea
   go_wp2_with (first | (go_at_call 79;refine (zGb _ _ _ es (Q.zIj es) _ HE1.out ⟨_,_,_,rfl⟩ (by have h1:=HF.out.rowI es.length (by rw[HRL.out];exact Nat.le_refl _);rw[HRL.out] at h1;exact h1) (by rw[HRL.out]) (by rw[HRL.out];exact hn)).mono ?_;rintro e w2 ⟨gr,gb,gd,rfl,hir,hib,hid,hgr,hgb,hgd,hne,hne2,hb2⟩;have B2:Hid (Below W0.heap.size W0 w2):=zAn HBL2.out (Nat.le_refl _) hb2;have K2:=zAa ((B2.out.block _ l1).trans K1.out);obtain⟨t0,t1,t2,t3,tf,tl⟩:=zBZ K2.out;have IB:=zAa hib;have ID:=zAa hid;have IR:=zAa hir))
   obtain⟨s0,s1,s2⟩:=zIa (s0:=.slice (some ⟨gr,0,none⟩) (Q.zIj es).length (Q.zIj es).length) (s1:=.slice (some ⟨gb,0,none⟩) (Q.zIp es (Q.zIj es)).length (Q.zIp es (Q.zIj es)).length) (s2:=.slice (some ⟨gd,0,none⟩) (Q.zIp es (Q.zIj es)).length (Q.zIp es (Q.zIj es)).length) (s3:=.bool false) K2.out
   have hws:=HBL2.out.size
   refine zBd (p:=2) (w.heap.size+1) _ (by kernel_rfl) Tryz.underlying108 rfl (by kernel_rfl) rfl (by exact s0) rfl ⟨gr,gb,gd,rfl,IR.out.of_block (s1 _ (by omega)),IB.out.of_block (s1 _ (by omega)),ID.out.of_block (s1 _ (by omega)),by omega,by omega,by omega,hne,hne2,s2 _ _ (by omega) (zAn BW0.out (Nat.le_refl _) B2.out)⟩
end Go.Proofs.YtkmebkbpfmoeaaaGreat
