import Derived.Test.YtgceflcbckjjiaaGreatDoorD27
import Derived.Test.YtgceflcbckjjiaaGreatDoorD30
set_option linter.unusedVariables false
set_option linter.unusedSimpArgs false
set_option maxHeartbeats 12800000
namespace Go.Proofs.YtgceflcbckjjiaaGreatDoor
open Go Go.RowKit
set_option maxRecDepth 100000
def Box (w:World) (gc:Nat):Prop:=∃ c,w.heap[gc]?=some (.cells c 79 (0,0))∧c.size=22
theorem Box.lt {w:World} {gc:Nat} (h:Box w gc):gc<w.heap.size:=by
 obtain⟨c,h1,_⟩:=h
 exact (Array.getElem?_eq_some_iff.1 h1).1
theorem Box.of {w w':World} {gc:Nat} (h:Box w gc) (e:w'.heap[gc]?=w.heap[gc]?):Box w' gc:=by
 obtain⟨c,h1,h2⟩:=h
 exact⟨c,e.trans h1,h2⟩
theorem Box.below {w w':World} {gc:Nat} (h:Box w gc) (hb:Below w.heap.size w w'):Box w' gc:=h.of (hb.block _ h.lt)
theorem Box.ticked {w w':World} {gc o gd:Nat} (h:Box w gc) (hT:Ticked w w' gc o gd):Box w' gc:=by
 obtain⟨c,h1,h2⟩:=h
 obtain⟨c',h3,h4⟩:=hT.shape _ _ _ h1
 exact⟨c',h3,by omega⟩
theorem Box.free {w:World} {gc:Nat} (h:Box w gc) (j:Nat):w.frozen? ⟨gc,j,none⟩=false:=by
 obtain⟨c,h1,_⟩:=h
 simp[World.frozen?,h1]
theorem Box.there {w:World} {gc:Nat} (h:Box w gc) (o n:Nat) (ho:o+n≤22):w.there gc o n:=by
 obtain⟨c,h1,h2⟩:=h
 exact zCs h1 (by omega)
theorem Box.set {w:World} {gc:Nat} (h:Box w gc) (o:Nat) (vs:List Value) (ho:o+vs.length≤22) :
  Box (w.setCells gc o vs) gc∧(w.setCells gc o vs).rangeAt gc o vs∧(∀ j,j<o∨o+vs.length≤j→(w.setCells gc o vs).cell? ⟨gc,j,none⟩=w.cell? ⟨gc,j,none⟩)∧(∀ k,k≠gc→(w.setCells gc o vs).heap[k]?=w.heap[k]?):=by
 refine⟨?_,World.rangeAt_setCells_same w gc o vs (h.there o vs.length ho),fun j hj=>?_,fun k hk=>zBx gc vs o w k hk⟩
 ·obtain⟨c,h1,h2⟩:=h
  exact⟨_,zBv vs o w c h1,by rw[zEu];exact h2⟩
 ·obtain⟨c,h1,h2⟩:=h
  have h3:=zBv vs o w c h1
  simp only[World.cell?,h1,h3]
  rw[zDn vs o c j (by omega)]
  have hno:¬ (o≤j∧j<o+vs.length):=by omega
  simp[hno]
theorem WsOn.upd {w w':World} {g o:Nat} {rv:Value} {vs:List Value} {wss:List (List Value)} {gb gd:Nat} {rss:List (List Q.Run)} {ds:List Int} {rest:List (List Int)} {tg:TypeId} {cc:Array Value} (h:WsOn w g o rv vs wss gb gd rss ds rest) (hg:w.heap[g]?=some (.cells cc tg (0,0))) (h1:146≠tg) (h2:180≠tg) (h3:158≠tg)
  (hc:∀ j,o≤j→j<o+4→w'.cell? ⟨g,j,none⟩=w.cell? ⟨g,j,none⟩) (hf:∀ j,w'.frozen? ⟨g,j,none⟩=false) (hk:∀ k,k≠g→w'.heap[k]?=w.heap[k]?) (hs:w.heap.size≤w'.heap.size):WsOn w' g o rv vs wss gb gd rss ds rest:=by
 obtain⟨b,⟨c0,c1,c2,cf,cl,cb,cd,n1,n2,n3,n4⟩,h5⟩:=h.ctr
 have hr:∀ {B n sz:Nat} {t:TypeId} {v:Value} {xs:List Value},w.ownsRow B t sz v n xs→t≠tg→w'.ownsRow B t sz v n xs:=fun h ht=>zAd h (fun k e=>hk k (fun e2=>zAx h hg ht (by rw[e,e2])))
 refine⟨(hc o (by omega) (by omega)).trans h.c0,⟨hr h.runs.own h1,h.runs.lv,h.runs.lw,fun i hi u us hu hus=>?_⟩,b,⟨(hc _ (by omega) (by omega)).trans c0,(hc _ (by omega) (by omega)).trans c1,(hc _ (by omega) (by omega)).trans c2,hf,by omega,cb.of_block (hk _ (fun e=>n2 e.symm)),cd.of_block (hk _ (fun e=>n1 e.symm)),n1,n2,n3,n4⟩,h5⟩
 have q:=h.runs.runs i hi u us hu hus
 exact⟨hr q.own h2,q.len,fun j hj x hx=>hr (q.evs j hj x hx) h3⟩
structure WA where
 rv:Value
 vs:List Value
 wss:List (List Value)
 gb:Nat
 gd:Nat
structure RA where
 ev:Value
 rg:Value
 fa:FA
 cv:Value
 cvs:List Value
 gb:Nat
 gd:Nat
def WA.on (A:WA) (w:World) (gc:Nat) (rss:List (List Q.Run)) (ds:List Int) (rest:List (List Int)):Prop:=WsOn w gc 13 A.rv A.vs A.wss A.gb A.gd rss ds rest
structure RA.on (R:RA) (w:World) (gc:Nat) (A:WA) (wd:Q.Wd) (ds:List Int) (rest:List (List Int)):Prop where
 c0:w.cell? ⟨gc,0,none⟩=some R.ev
 c1:w.cell? ⟨gc,1,none⟩=some R.rg
 wdi:WdIn w R.ev R.rg wd
 fc:w.rangeAt gc 2 (zAn R.fa).toList
 fin:FactsIn w R.fa (Q.zKw wd.events)
 rd:RdOn w gc 17 R.cv R.cvs R.gb R.gd (Q.zJY wd.events) ds rest
 n1:A.gb≠R.gd
 n2:A.gd≠R.gd
 n3:R.rg.ownBlock≠some R.gd∧R.rg.ownBlock≠some gc
def RA.nb (R:RA) (k:Nat):Prop:=R.rg.ownBlock=some k∨R.cv.ownBlock=some k∨(∃ u∈R.cvs,u.ownBlock=some k)∨k=R.gb∨k=R.gd
namespace Q
structure WdOk (wd:Wd):Prop where
 pos:0<wd.events.length
 le:wd.events.length≤64
 hangs:hangsOk wd.events
 regs:wd.regs.length<100
 vals:∀ x∈wd.regs,0≤x∧x<4
 evals:∀ e∈wd.events,0≤e.value∧e.value<4
 fo:(zKt (zKe wd.events (fenceRows wd.events))).length<100000000
def zMq (wd:Wd):List (Wd × List Int):=(zKt (lens (zJY wd.events))).map fun r=>(wd,r)
theorem zLP (es:List Ev):(zJY es).length=es.length:=by simp[zJY]
theorem mayRead_len (es:List Ev) (i:Nat) (h:es.length≤64):(zLm es i).length≤64:=by
 unfold zLm
 split
 ·rw[List.length_map]
  have:=List.length_filter_le (mayR es i) (List.range es.length)
  simp at this;omega
 ·simp
theorem choices_mem (es:List Ev) (h:es.length≤64):∀ c∈zJY es,c.length≤64:=by
 intro c hc
 simp only[zJY,List.mem_map] at hc
 obtain⟨i,_,rfl⟩:=hc
 exact mayRead_len es i h
theorem lens_mem (es:List Ev) (h:es.length≤64):∀ b∈lens (zJY es),b<1000000000:=by
 intro b hb
 simp only[lens,List.mem_map] at hb
 obtain⟨c,hc,rfl⟩:=hb
 have:=choices_mem es h c hc
 omega
end Q
structure RS where
 R:RA
 wd:Q.Wd
 ds:List Int
 rest:List (List Int)
def zCF (rss:List (List Q.Run)) (st:Option RS) (rest:List (List Int)):List (Q.Wd × List Int) :=
 (match st with | none=>[] | some s=>s.rest.map fun r=>(s.wd,r))++rest.flatMap fun d=>Q.zMq (Q.zKa rss d)
def nbS (st:Option RS) (k:Nat):Prop:=∃ s,st=some s∧s.R.nb k
def gdS (st:Option RS) (k:Nat):Prop:=∃ s,st=some s∧k=s.R.gd
structure CFrame (w w':World) (gc:Nat) (A:WA) (st:Option RS):Prop where
 os:w'.os=w.os
 tape:w'.tape=w.tape
 output:w'.output=w.output
 size:w.heap.size≤w'.heap.size
 block:∀ k,k<w.heap.size→k≠gc→k≠A.gd→¬ gdS st k→w'.heap[k]?=w.heap[k]?
theorem CFrame.refl (w:World) (gc:Nat) (A:WA) (st:Option RS):CFrame w w gc A st:=⟨rfl,rfl,rfl,Nat.le_refl _,fun _ _ _ _ _=>rfl⟩
theorem CFrame.below {w w1 w2:World} {gc:Nat} {A:WA} {st:Option RS} (h:CFrame w w1 gc A st) (hb:Below w1.heap.size w1 w2):CFrame w w2 gc A st :=
 ⟨hb.os.trans h.os,hb.tape.trans h.tape,hb.output.trans h.output,Nat.le_trans h.size hb.size,fun k h1 h2 h3 h4=>(hb.block k (Nat.lt_of_lt_of_le h1 h.size)).trans (h.block k h1 h2 h3 h4)⟩
theorem CFrame.ticked {w w1 w2:World} {gc o gd:Nat} {A:WA} {st:Option RS} (h:CFrame w w1 gc A st) (hT:Ticked w1 w2 gc o gd) (hd:gd=A.gd∨gdS st gd∨w.heap.size≤gd):CFrame w w2 gc A st :=
 ⟨hT.os.trans h.os,hT.tape.trans h.tape,hT.output.trans h.output,by rw[hT.size];exact h.size,fun k h1 h2 h3 h4=>(hT.block k h2 (fun e=>by
  subst e
  rcases hd with h5 | h5 | h5
  ·exact h3 h5
  ·exact h4 h5
  ·omega)).trans (h.block k h1 h2 h3 h4)⟩
theorem CFrame.set {w w1:World} {gc:Nat} {A:WA} {st:Option RS} (h:CFrame w w1 gc A st) (o:Nat) (vs:List Value):CFrame w (w1.setCells gc o vs) gc A st:=by
 have hg:=zCf (g:=gc) vs o w1
 exact⟨hg.os.trans h.os,hg.tape.trans h.tape,hg.output.trans h.output,by rw[zAU];exact h.size,fun k h1 h2 h3 h4=>(zBx gc vs o w1 k h2).trans (h.block k h1 h2 h3 h4)⟩
theorem CFrame.trans {w w1 w2:World} {gc:Nat} {A:WA} {st st1:Option RS} (h:CFrame w w1 gc A st) (h2:CFrame w1 w2 gc A st1) (hn:∀ k,gdS st1 k→gdS st k∨w.heap.size≤k):CFrame w w2 gc A st :=
 ⟨h2.os.trans h.os,h2.tape.trans h.tape,h2.output.trans h.output,Nat.le_trans h.size h2.size,fun k k1 k2 k3 k4=>(h2.block k (Nat.lt_of_lt_of_le k1 h.size) k2 k3 (fun e=>by
  rcases hn k e with h5 | h5
  ·exact k4 h5
  ·omega)).trans (h.block k k1 k2 k3 k4)⟩
structure CandOn (w:World) (gc:Nat) (A:WA) (rss:List (List Q.Run)) (st:Option RS) (ds:List Int) (rest:List (List Int)):Prop where
 box:Box w gc
 ws:A.on w gc rss ds rest
 beg:w.cell? ⟨gc,21,none⟩=some (.bool st.isSome)
 rs:∀ s,st=some s→s.R.on w gc A s.wd s.ds s.rest∧Q.WdOk s.wd
theorem WA.on.below {w w':World} {gc:Nat} {A:WA} {rss:List (List Q.Run)} {ds:List Int} {rest:List (List Int)} (h:A.on w gc rss ds rest) (hb:Below w.heap.size w w'):A.on w' gc rss ds rest:=WsOn.below h hb
theorem zDU {w w':World} {g o:Nat} {l:List Value} (h:w.rangeAt g o l) (hb:Below w.heap.size w w') (hg:g<w.heap.size):w'.rangeAt g o l:=zAv h (hb.block g hg)
theorem RA.on.below {R:RA} {w w':World} {gc:Nat} {A:WA} {wd:Q.Wd} {ds:List Int} {rest:List (List Int)} (h:R.on w gc A wd ds rest) (hb:Below w.heap.size w w'):R.on w' gc A wd ds rest:=by
 obtain⟨b,hc⟩:=h.rd.ctr.ctr
 have hl:=hc.lt
 exact⟨(hb.cell hl).trans h.c0,(hb.cell hl).trans h.c1,h.wdi.below hb,zDU h.fc hb hl,h.fin.below hb,h.rd.below hb,h.n1,h.n2,h.n3⟩
theorem CandOn.below {w w':World} {gc:Nat} {A:WA} {rss:List (List Q.Run)} {st:Option RS} {ds:List Int} {rest:List (List Int)} (h:CandOn w gc A rss st ds rest) (hb:Below w.heap.size w w'):CandOn w' gc A rss st ds rest :=
 ⟨h.box.below hb,h.ws.below hb,(hb.cell h.box.lt).trans h.beg,fun s hs=>⟨(h.rs s hs).1.below hb,(h.rs s hs).2⟩⟩
theorem zCZ (I:World→Nat→Prop):∃ μ:World→Nat,∀ w,(∃ n,I w n)→I w (μ w)∧∀ m,I w m→μ w≤m:=by
 have key:∀ P:Nat→Prop,(∃ n,P n)→∃ n,P n∧∀ m,P m→n≤m:=by
  intro P hP
  obtain⟨n,hn⟩:=hP
  induction n using Nat.strongRecOn with
  | ind n ih =>
   by_cases h:∃ m,m<n∧P m
   ·obtain⟨m,hm,hp⟩:=h
    exact ih m hm hp
   ·exact⟨n,hn,fun m hm=>by
     by_cases hl:m<n
     ·exact absurd ⟨m,hl,hm⟩ h
     ·omega⟩
 have k2:∀ w,∃ n,(∃ n,I w n)→I w n∧∀ m,I w m→n≤m:=fun w=>by
  by_cases h:∃ n,I w n
  ·obtain⟨n,hn⟩:=key (I w) h
   exact⟨n,fun _=>hn⟩
  ·exact⟨0,fun e=>absurd e h⟩
 exact⟨fun w=>Classical.choose (k2 w),fun w=>Classical.choose_spec (k2 w)⟩
structure CandW (w:World) (gc:Nat) (A:WA) (rss:List (List Q.Run)) (ds:List Int) (rest:List (List Int)):Prop where
 box:Box w gc
 ws:A.on w gc rss ds rest
 beg:∃ b,w.cell? ⟨gc,21,none⟩=some (.bool b)
def zIz (w w':World) (gc:Nat) (A:WA) (rss:List (List Q.Run)) (st:Option RS) (rem:List (Q.Wd × List Int)) (b:Bool):Prop :=
 CFrame w w' gc A st∧((b=false∧rem=[])∨(b=true∧∃ s ds rest,CandOn w' gc A rss (some s) ds rest∧rem=(s.wd,s.ds)::zCF rss (some s) rest∧Q.DigOk (Q.lens (Q.zJY s.wd.events)) s.ds∧(∀ k,s.R.nb k→nbS st k∨w.heap.size≤k)∧(gdS st s.R.gd∨w.heap.size≤s.R.gd)))
theorem zHv {w w':World} {gc:Nat} {A:WA} {rss:List (List Q.Run)} {ds:List Int} {rest:List (List Int)} {gd:Nat} {cd:Array Value} (h:A.on w gc rss ds rest) (hT:Ticked w w' gc 18 gd) (hb:Box w gc) (h1:A.gb≠gd) (h2:A.gd≠gd) (hd:w.heap[gd]?=some (.cells cd 3 (0,0))):A.on w' gc rss ds rest:=by
 obtain⟨b,⟨c0,c1,c2,cf,cl,cb,cdg,n1,n2,n3,n4⟩,h5⟩:=h.ctr
 obtain⟨cc,hcc,_⟩:=hb
 exact⟨(hT.cell _ (by omega)).trans h.c0,RunsAll.ticked h.runs hT hcc (by decide) (by decide) (by decide) hd,b,⟨(hT.cell _ (by omega)).trans c0,(hT.cell _ (by omega)).trans c1,(hT.cell _ (by omega)).trans c2,fun j=>(hT.froz j).trans (cf j),by rw[hT.size];exact cl,cb.of_block (hT.block _ (fun e=>n2 e.symm) h1),cdg.of_block (hT.block _ (fun e=>n1 e.symm) h2),n1,n2,n3,n4⟩,h5⟩
theorem zIN {w w':World} {gc gd o:Nat} {ev rg:Value} {wd:Q.Wd} {cc cd:Array Value} (h:WdIn w ev rg wd) (hT:Ticked w w' gc o gd) (hcc:w.heap[gc]?=some (.cells cc 79 (0,0))) (hd:w.heap[gd]?=some (.cells cd 3 (0,0))) (h3:rg.ownBlock≠some gd∧rg.ownBlock≠some gc):WdIn w' ev rg wd :=
 ⟨zCY h.evs hT hcc (by decide) hd (by decide),h.regs.own w' (fun k e=>hT.block k (fun e2=>h3.2 (by rw[e,e2])) (fun e2=>h3.1 (by rw[e,e2]))) (by rw[hT.size];exact Nat.le_refl _)⟩
theorem zCG {w:World} {g k:Nat} {l:List Nat} {c:Array Value} {t:TypeId} (h:zAs w g l) (hk:w.heap[k]?=some (.cells c t (0,0))) (ht:156≠t):g≠k:=fun e=>by
 unfold zAs at h
 rw[e,hk] at h
 simp at h
 exact ht h.2.symm
theorem FactsIn.off {w w':World} {a:FA} {f:Q.Facts} (h:FactsIn w a f) (hs:∀ g l,zAs w g l→w'.heap[g]?=w.heap[g]?) (he:zAZ w' a.ev f.events):FactsIn w' a f :=
 have K:∀ {g n l},RelAt w g n l→RelAt w' g n l:=fun {g n l} h=>⟨h.at_.of_block (hs g l h.at_),h.len,h.fits⟩
 ⟨he,h.len,h.n64,K h.r1,K h.r2,K h.r3,K h.r4,K h.r5,K h.r6,K h.r7,K h.r8,K h.r9⟩
theorem zIl {w w':World} {gc gd o:Nat} {a:FA} {f:Q.Facts} {cc cd:Array Value} (h:FactsIn w a f) (hT:Ticked w w' gc o gd) (hcc:w.heap[gc]?=some (.cells cc 79 (0,0))) (hd:w.heap[gd]?=some (.cells cd 3 (0,0))):FactsIn w' a f :=
 h.off (fun g l hg=>hT.block g (zCG hg hcc (by decide)) (zCG hg hd (by decide))) (zCY h.ev hT hcc (by decide) hd (by decide))
theorem zGO {w w':World} {gc gd o p:Nat} {l:List Value} (h:w.rangeAt gc p l) (hT:Ticked w w' gc o gd) (hp:p+l.length≤o+2):w'.rangeAt gc p l:=fun j u hu=>by
 have hj:j<l.length:=(List.getElem?_eq_some_iff.1 hu).1
 rw[← h j u hu];exact hT.cell _ (by simp;omega)
def zFN (w:World) (gc:Nat) (A:WA) (rss:List (List Q.Run)) (st:Option RS) (R0:List (Q.Wd × List Int)) (wr:World) (n:Nat):Prop :=
 ∃ st1 ds1 rest1,CandOn wr gc A rss st1 ds1 rest1∧zCF rss st1 rest1=R0∧rest1.length=n∧CFrame w wr gc A st∧(∀ k,nbS st1 k→nbS st k∨w.heap.size≤k)∧∀ k,gdS st1 k→gdS st k∨w.heap.size≤k
theorem zFN.some {w wr w2:World} {gc:Nat} {A:WA} {rss:List (List Q.Run)} {st:Option RS} {R0:List (Q.Wd × List Int)} {s:RS} {ds1:List Int} {rest1:List (List Int)} (hC:CandOn wr gc A rss (some s) ds1 rest1) (hR:zCF rss (some s) rest1=R0) (hF:CFrame w wr gc A st) (hN:(∀ k,nbS (some s) k→nbS st k∨w.heap.size≤k)∧∀ k,gdS (some s) k→gdS st k∨w.heap.size≤k)
  {r:List Int} {q:List (List Int)} (hT:Ticked wr w2 gc 18 s.R.gd) (hr:s.rest=r::q) (hrd:RdOn w2 gc 17 s.R.cv s.R.cvs s.R.gb s.R.gd (Q.zJY s.wd.events) r q) (hd:Q.DigOk (Q.lens (Q.zJY s.wd.events)) r) (hF2:CFrame w w2 gc A st):zIz w w2 gc A rss st R0 true:=by
 obtain⟨hon,hok⟩:=hC.rs s rfl
 obtain⟨cc,hcc,_⟩:=id hC.box
 obtain⟨b,hc⟩:=hon.rd.ctr.ctr
 refine⟨hF2,Or.inr ⟨rfl,⟨s.R,s.wd,r,q⟩,ds1,rest1,⟨hC.box.ticked hT,zHv hC.ws hT hC.box hon.n1 hon.n2 hc.digits,(hT.cell _ (by omega)).trans hC.beg,?_⟩,?_,hd,fun k hk=>hN.1 k ⟨s,rfl,hk⟩,hN.2 _ ⟨s,rfl,rfl⟩⟩⟩
 ·intro s' hs'
  simp only[Option.some.injEq] at hs'
  subst hs'
  exact⟨⟨(hT.cell _ (by omega)).trans hon.c0,(hT.cell _ (by omega)).trans hon.c1,zIN hon.wdi hT hcc hc.digits hon.n3,zGO hon.fc hT (by simp[zAn]),zIl hon.fin hT hcc hc.digits,hrd,hon.n1,hon.n2,hon.n3⟩,hok⟩
 ·rw[← hR]
  simp[zCF,hr]
structure CW (w0 w:World) (gc:Nat) (A:WA) (rss:List (List Q.Run)) (st:Option RS) (d:List Int) (q:List (List Int)):Prop where
 box:Box w gc
 ws:A.on w gc rss d q
 beg:w.cell? ⟨gc,21,none⟩=some (.bool true)
 fr:CFrame w0 w gc A st
theorem CW.below {w0 w w':World} {gc:Nat} {A:WA} {rss:List (List Q.Run)} {st:Option RS} {d:List Int} {q:List (List Int)} (h:CW w0 w gc A rss st d q) (hb:Below w.heap.size w w'):CW w0 w' gc A rss st d q :=
 ⟨h.box.below hb,h.ws.below hb,(hb.cell h.box.lt).trans h.beg,h.fr.below hb⟩
theorem CW.set {w0 w:World} {gc:Nat} {A:WA} {rss:List (List Q.Run)} {st:Option RS} {d:List Int} {q:List (List Int)} (h:CW w0 w gc A rss st d q) (o:Nat) (vs:List Value) (ho:o+vs.length≤13∨(17≤o∧o+vs.length≤21)):CW w0 (w.setCells gc o vs) gc A rss st d q:=by
 obtain⟨b6,r6,o6,k6⟩:=h.box.set o vs (by omega)
 obtain⟨cc,hcc,_⟩:=id h.box
 exact⟨b6,WsOn.upd h.ws hcc (by decide) (by decide) (by decide) (fun j h1 h2=>o6 j (by omega)) (fun j=>b6.free j) k6 (by rw[zAU];exact Nat.le_refl _),(o6 21 (by omega)).trans h.beg,h.fr.set o vs⟩
theorem CW.start {w0 w:World} {gc:Nat} {A:WA} {rss:List (List Q.Run)} {st:Option RS} {d:List Int} {q:List (List Int)} (hb:Box w gc) (hw:A.on w gc rss d q) (hf:CFrame w0 w gc A st):CW w0 (w.setCell ⟨gc,21,none⟩ (.bool true)) gc A rss st d q:=by
 obtain⟨b6,r6,o6,k6⟩:=hb.set 21 [.bool true] (by decide)
 obtain⟨cc,hcc,_⟩:=id hb
 exact⟨b6,WsOn.upd hw hcc (by decide) (by decide) (by decide) (fun j h1 h2=>o6 j (Or.inl (by omega))) (fun j=>b6.free j) k6 (by simp),r6 0 _ rfl,hf.set 21 [.bool true]⟩
structure CW1 (w:World) (gc:Nat) (ev rg:Value) (wd:Q.Wd):Prop where
 c0:w.cell? ⟨gc,0,none⟩=some ev
 c1:w.cell? ⟨gc,1,none⟩=some rg
 wdi:WdIn w ev rg wd
 ne:rg.ownBlock≠some gc
theorem CW1.below {w w':World} {gc:Nat} {ev rg:Value} {wd:Q.Wd} (h:CW1 w gc ev rg wd) (hg:Box w gc) (hb:Below w.heap.size w w'):CW1 w' gc ev rg wd :=
 ⟨(hb.cell hg.lt).trans h.c0,(hb.cell hg.lt).trans h.c1,h.wdi.below hb,h.ne⟩
theorem zHw {w:World} {gc:Nat} {ev rg:Value} {wd:Q.Wd} (h:WdIn w ev rg wd) (ne:rg.ownBlock≠some gc) (hg:Box w gc) (o:Nat) (vs:List Value) (ho:o+vs.length≤22):WdIn (w.setCells gc o vs) ev rg wd:=by
 obtain⟨b6,r6,o6,k6⟩:=hg.set o vs ho
 obtain⟨cc,hcc,_⟩:=id hg
 exact⟨zAd h.evs (fun k e=>k6 k (fun e2=>zAx h.evs hcc (by decide) (by rw[e,e2]))),h.regs.own _ (fun k e=>k6 k (fun e2=>ne (by rw[e,e2]))) (by rw[zAU];exact Nat.le_refl _)⟩
theorem CW1.set {w:World} {gc:Nat} {ev rg:Value} {wd:Q.Wd} (h:CW1 w gc ev rg wd) (hg:Box w gc) (o:Nat) (vs:List Value) (ho:o+vs.length≤22) (h2:2≤o):CW1 (w.setCells gc o vs) gc ev rg wd:=by
 obtain⟨b6,r6,o6,k6⟩:=hg.set o vs ho
 exact⟨(o6 0 (Or.inl (by omega))).trans h.c0,(o6 1 (Or.inl (by omega))).trans h.c1,zHw h.wdi h.ne hg o vs ho,h.ne⟩
theorem CW1.start {w:World} {gc:Nat} {ev rg:Value} {wd:Q.Wd} (h:WdIn w ev rg wd) (ne:rg.ownBlock≠some gc) (hg:Box w gc):CW1 (w.setCells gc 0 [ev,rg]) gc ev rg wd:=by
 obtain⟨b6,r6,o6,k6⟩:=hg.set 0 [ev,rg] (by simp)
 exact⟨r6 0 _ rfl,r6 1 _ rfl,zHw h ne hg 0 [ev,rg] (by simp),ne⟩
structure CW2 (w:World) (gc:Nat) (fa:FA) (es:List Q.Ev):Prop where
 fc:w.rangeAt gc 2 (zAn fa).toList
 fin:FactsIn w fa (Q.zKw es)
theorem CW2.below {w w':World} {gc:Nat} {fa:FA} {es:List Q.Ev} (h:CW2 w gc fa es) (hg:Box w gc) (hb:Below w.heap.size w w'):CW2 w' gc fa es:=⟨zDU h.fc hb hg.lt,h.fin.below hb⟩
theorem zFO {w:World} {gc:Nat} {fa:FA} {f:Q.Facts} (h:FactsIn w fa f) (hg:Box w gc) (o:Nat) (vs:List Value) (ho:o+vs.length≤22):FactsIn (w.setCells gc o vs) fa f:=by
 obtain⟨b6,r6,o6,k6⟩:=hg.set o vs ho
 obtain⟨cc,hcc,_⟩:=id hg
 exact h.off (fun g l hg=>k6 g (zCG hg hcc (by decide))) (zAd h.ev (fun k e=>k6 k (fun e2=>zAx h.ev hcc (by decide) (by rw[e,e2]))))
theorem CW2.start {w:World} {gc:Nat} {fa:FA} {es:List Q.Ev} (h:FactsIn w fa (Q.zKw es)) (hg:Box w gc):CW2 (w.setCells gc 2 (zAn fa).toList) gc fa es:=by
 obtain⟨b6,r6,o6,k6⟩:=hg.set 2 (zAn fa).toList (by simp[zAn])
 exact⟨r6,zFO h hg 2 _ (by simp[zAn])⟩
theorem CW2.set {w:World} {gc:Nat} {fa:FA} {es:List Q.Ev} (h:CW2 w gc fa es) (hg:Box w gc) (o:Nat) (vs:List Value) (ho:o+vs.length≤22) (h2:12≤o):CW2 (w.setCells gc o vs) gc fa es :=
 ⟨World.rangeAt_setCells_apart h.fc gc o vs (Or.inr (Or.inl (by simp[zAn];omega))),zFO h.fin hg o vs ho⟩
theorem zGm {w0 w:World} {gc:Nat} {A:WA} {rss:List (List Q.Run)} {st:Option RS} {d:List Int} {q:List (List Int)} {ev rg:Value} {fa:FA} {wd:Q.Wd} {ca:Option Addr} {cp gb gd:Nat} {cvs:List Value} {sz:Nat} (h:CW w0 w gc A rss st d q) (h1:CW1 w gc ev rg wd) (h2:CW2 w gc fa wd.events)
  (hri:RowsI w sz (.slice ca (Q.zJY wd.events).length cp) (Q.zJY wd.events) cvs) (hib:zAt w gb (Q.lens (Q.zJY wd.events))) (hid:zAt w gd (Q.zeros (Q.zJY wd.events).length)) (hgb:sz≤gb) (hgd:sz≤gd) (hbd:gb≠gd) (hcd:(Value.slice ca (Q.zJY wd.events).length cp).ownBlock≠some gd) (hcu:∀ u∈cvs,∀ k,u.ownBlock=some k→sz≤k∧k≠gd)
  (hsz:gc<sz) (hA:A.gb<sz∧A.gd<sz) (hrg:∀ k,rg.ownBlock=some k→k<sz) (hwk:Q.WdOk wd) :
  CandOn (w.setCells gc 17 [.slice ca (Q.zJY wd.events).length cp,.slice (some ⟨gb,0,none⟩) (Q.zJY wd.events).length (Q.zJY wd.events).length,.slice (some ⟨gd,0,none⟩) (Q.zJY wd.events).length (Q.zJY wd.events).length,.bool false]) gc A rss (some ⟨⟨ev,rg,fa,.slice ca (Q.zJY wd.events).length cp,cvs,gb,gd⟩,wd,Q.zeros (Q.zJY wd.events).length,Q.zKt (Q.lens (Q.zJY wd.events))⟩) d q:=by
 have g:=h.set 17 [.slice ca (Q.zJY wd.events).length cp,.slice (some ⟨gb,0,none⟩) (Q.zJY wd.events).length (Q.zJY wd.events).length,.slice (some ⟨gd,0,none⟩) (Q.zJY wd.events).length (Q.zJY wd.events).length,.bool false] (Or.inr (by simp))
 have g1:=h1.set h.box 17 [.slice ca (Q.zJY wd.events).length cp,.slice (some ⟨gb,0,none⟩) (Q.zJY wd.events).length (Q.zJY wd.events).length,.slice (some ⟨gd,0,none⟩) (Q.zJY wd.events).length (Q.zJY wd.events).length,.bool false] (by simp) (by decide)
 have g2:=h2.set h.box 17 [.slice ca (Q.zJY wd.events).length cp,.slice (some ⟨gb,0,none⟩) (Q.zJY wd.events).length (Q.zJY wd.events).length,.slice (some ⟨gd,0,none⟩) (Q.zJY wd.events).length (Q.zJY wd.events).length,.bool false] (by simp) (by decide)
 obtain⟨b6,r6,o6,k6⟩:=h.box.set 17 [.slice ca (Q.zJY wd.events).length cp,.slice (some ⟨gb,0,none⟩) (Q.zJY wd.events).length (Q.zJY wd.events).length,.slice (some ⟨gd,0,none⟩) (Q.zJY wd.events).length (Q.zJY wd.events).length,.bool false] (by simp)
 have hcw:∀ k,(Value.slice ca (Q.zJY wd.events).length cp).ownBlock=some k→sz≤k:=fun k e=>(hri.own.lt k e).1
 refine⟨g.box,g.ws,g.beg,fun s hs=>?_⟩
 simp only[Option.some.injEq] at hs
 subst hs
 refine⟨⟨g1.c0,g1.c1,g1.wdi,g2.fc,g2.fin,⟨r6 0 _ rfl,⟨?_,hri.len,fun i hi x hx=>(hri.rows i hi x hx).own _ (fun k e=>k6 k (by have:=(hcu x (List.mem_of_getElem? hx) k e).1;omega)) (by rw[zAU];exact Nat.le_refl _)⟩,⟨false,⟨?_,?_,r6 3 _ rfl,g.box.free,g.box.lt,hib.of_block (k6 _ (by omega)),?_,by show gc≠gd;omega,by show gc≠gb;omega,hbd,?_⟩,Or.inl ⟨rfl,?_,rfl⟩⟩,⟨hcd,fun e=>?_⟩,fun u hu k e=>?_⟩,?_,?_,⟨fun e=>?_,g1.ne⟩⟩,hwk⟩
 ·have h3:=zAd hri.own (fun k e=>k6 k (by have:=hcw k e;omega))
  refine⟨h3.1,?_⟩
  rcases h3.2 with h0 | ⟨g',cap',cur,e,hge,q⟩
  ·exact Or.inl h0
  ·exact Or.inr ⟨g',cap',cur,e,Nat.zero_le _,q⟩
 ·rw[Q.zLg];exact r6 1 _ rfl
 ·have hz:(Q.zeros (Q.zJY wd.events).length).length=(Q.zJY wd.events).length:=by simp[Q.zeros]
  show _=some (Value.slice (some ⟨gd,0,none⟩) (Q.zeros (Q.zJY wd.events).length).length (Q.zeros (Q.zJY wd.events).length).length)
  rw[hz];exact r6 2 _ rfl
 ·exact hid.of_block (k6 _ (by omega))
 ·show (Q.zeros (Q.zJY wd.events).length).length=_
  rw[Q.zLg];simp[Q.zeros]
 ·show Q.zeros (Q.zJY wd.events).length=_
  rw[Q.zLg]
 ·have:=hcw gc e;omega
 ·have:=hcu u hu k e
  exact⟨this.2,by omega⟩
 ·show A.gb≠gd;omega
 ·show A.gd≠gd;omega
 ·have:=hrg gd e;omega
end Go.Proofs.YtgceflcbckjjiaaGreatDoor
