import Derived.Test.YtehclbpoabdpoaaGreatDoorO28
set_option linter.all false
set_option maxHeartbeats 0
namespace Go.Proofs.YtehclbpoabdpoaaGreatDoor
open Go Go.RowKit Go.Proofs.Tryz P Q
open scoped Classical
set_option maxRecDepth 1000000
variable {w w' w0 w1 w2:World}{g gb gc o:Nat}{rss:List (List Run)}{d ds:List Int}{cc cd:Array Value}{l:List Value}{wd:Q.Wd}{rg:Value}{a fa:FA}{f:Eu}{es:List Ev}
open List renaming length->N
open _root_.Array renaming size->z
open Go.World renaming heap->M,cell?->H
open Option renaming some->Y,none->O
open Go.Value renaming bool->C
open Go.Obj renaming cells->G
open Or renaming inl->xF
open Nat renaming le_refl->xR,lt_of_lt_of_le->xW
def Box(w:World)(gc:Nat):Prop:=∃c,w.heap[gc]?=Y (G c 94 (0,0))/\c.size=22
def Box.lt(h:Box w gc):gc<z (M w):=by
 obtain⟨c,b,_⟩:=h;exact(Array.getElem?_eq_some_iff.1 b).1
def Box.of(h:Box w gc)(e:w'.heap[gc]?=w.heap[gc]?):Box w' gc:=by
 obtain⟨c,b,i⟩:=h;exact⟨c,e.trans b,i⟩
def Box.X(h:Box w gc)(b:Below (z (M w)) w w'):Box w' gc:=h.of (b.block _ h.lt)
def Box.cL{gd:Nat}(h:Box w gc)(j:En w w' gc o gd):Box w' gc:=by
 obtain⟨c,e,k⟩:=h;obtain⟨b,i,m⟩:=j.shape _ _ _ e;exact⟨b,i,by omega⟩
def Box.free(h:Box w gc)(j:Nat):w.frozen? ⟨gc,j,O⟩=false:=by
 obtain⟨c,b,_⟩:=h;simp[World.frozen?,b]
def Box.there(h:Box w gc)(o n:Nat)(i:o+n<=22):w.there gc o n:=by
 obtain⟨c,b,e⟩:=h;exact wD b (by omega)
def Box.set(h:Box w gc)(o:Nat)(b:List Value)(q:o+N b<=22):
  Box (w.setCells gc o b) gc/\(w.setCells gc o b).rangeAt gc o b/\(∀j,j<o\/o+N b<=j->(w.setCells gc o b).cell? ⟨gc,j,O⟩=H w ⟨gc,j,O⟩)/\∀k,k≠gc->(w.setCells gc o b).heap[k]?=w.heap[k]?:=by
 refine⟨?_,World.rangeAt_setCells_same w gc o b (h.there o (N b) q),fun j r=>?_,fun k p=>yW gc b o w k p⟩
 ·obtain⟨c,e,m⟩:=h;exact⟨_,yM b o w c e,by rw[Gf];exact m⟩
 ·obtain⟨c,e,m⟩:=h;have n:=yM b o w c e;simp only[World.cell?,e,n];rw[TW b o c j (by omega)];have i:¬(o<=j/\j<o+N b):=by omega
  simp[i]
def WsOn.dH{F:Value}{J:List Value}{m:List (List Value)}{gd:Nat}{rest:List (List Int)}{c:TypeId}(h:WsOn w g o F J m gb gd rss ds rest)(hg:w.heap[g]?=Y (G cc c (0,0)))(W:168≠c)(X:209≠c)(h3:180≠c)(p:∀j,o<=j->j<o+4->H w' ⟨g,j,O⟩=H w ⟨g,j,O⟩)(hf:∀j,w'.frozen? ⟨g,j,O⟩=false)(r:∀k,k≠g->w'.heap[k]?=w.heap[k]?)(hs:z (M w)<=z (M w')):WsOn w' g o F J m gb gd rss ds rest:=by
 obtain⟨b,⟨A,S,T,cf,cl,V,cd,D,E,n3,n4⟩,h5⟩:=h.OS;have s:∀{B n I:Nat} {t:TypeId} {v:Value} {L:List Value},w.ownsRow B t I v n L->t≠c->w'.ownsRow B t I v n L:=fun h ht=>bE h fun k e=>r k fun e2=>gB h hg ht (by rw[e,e2])
 refine⟨(p o (by omega) (by omega)).trans h.c0,⟨s h.U.own W,h.U.lv,h.U.lw,fun i hi u us hu y=>?_⟩,b,⟨(p _ (by omega) (by omega)).trans A,(p _ (by omega) (by omega)).trans S,(p _ (by omega) (by omega)).trans T,hf,by omega,V.aC (r _ fun e=>E e.symm),cd.aC (r _ fun e=>D e.symm),D,E,n3,n4⟩,h5⟩;have q:=h.U.U i hi u us hu y;exact⟨s q.own X,q.len,fun j hj x hx=>s (q.K j hj x hx) h3⟩
structure WA where
 rv:Value
 vs:List Value
 wss:List (List Value)
 gb:Nat
 gd:Nat
structure RA where
 ev:Value
 rg:Value
 fa:FA
 cv:Value
 cvs:List Value
 gb:Nat
 gd:Nat
def WA.on(A:WA)(w:World)(gc:Nat)(rss:List (List Run))(ds:List Int)(rest:List (List Int)):Prop:=WsOn w gc 13 A.rv A.vs A.wss A.gb A.gd rss ds rest
structure RA.on(R:RA)(w:World)(gc:Nat)(A:WA)(wd:Q.Wd)(ds:List Int)(rest:List (List Int)):Prop where
 c0:H w ⟨gc,0,O⟩=Y R.ev
 c1:H w ⟨gc,1,O⟩=Y R.rg
 wdi:PY w R.ev R.rg wd
 fc:w.rangeAt gc 2 (OK R.fa).toList
 fin:Ed w R.fa (NH wd.E)
 rd:RdOn w gc 17 R.cv R.cvs R.gb R.gd (NC wd.E) ds rest
 n1:A.gb≠R.gd
 n2:A.gd≠R.gd
 n3:R.rg.ownBlock≠Y R.gd/\R.rg.ownBlock≠Y gc
def RA.nb(R:RA)(k:Nat):Prop:=R.rg.ownBlock=Y k\/R.cv.ownBlock=Y k\/(∃u∈R.cvs,u.ownBlock=Y k)\/k=R.gb\/k=R.gd
namespace Q
structure WdOk(wd:Wd):Prop where
 pos:0<N wd.E
 le:N wd.E<=64
 h:SY wd.E
 g:N wd.g<100
 vals:∀x∈wd.g,0<=x/\x<4
 evals:∀e∈wd.E,0<=e.value/\e.value<4
 fo:(OJ (OR wd.E (RY wd.E))).length<100000000
def xL(wd:Wd):List (Wd×List Int):=(OJ (PN (NC wd.E))).map fun r=>(wd,r)
def ZY(es:List Ev):(NC es).length=N es:=by simp[NC]
def Pu(es:List Ev)(i:Nat)(h:N es<=64):(mA es i).length<=64:=by
 unfold mA
 split
 ·rw[List.length_map];have:=List.length_filter_le (cT es i) (List.range (N es));simp at this;omega
 ·simp
def ZZ(es:List Ev)(h:N es<=64):∀c∈NC es,N c<=64:=by
 intro c b;simp only[NC,List.mem_map]at b;obtain⟨i,_,rfl⟩:=b;exact Pu es i h
def Pv(es:List Ev)(h:N es<=64):∀b∈PN (NC es),b<1000000000:=by
 intro b e;simp only[PN,List.mem_map]at e;obtain⟨c,i,rfl⟩:=e;have:=ZZ es h c i;omega
end Q
structure RS where
 R:RA
 wd:Q.Wd
 ds:List Int
 rest:List (List Int)
def eP(rss:List (List Run))(st:Option RS)(rest:List (List Int)):List (Q.Wd×List Int):=
 (match st with|none=>[]|some s=>s.rest.map fun r=>(s.wd,r))++rest.flatMap fun d=>xL (NV rss d)
def nbS(st:Option RS)(k:Nat):Prop:=∃s,st=Y s/\s.R.nb k
def gdS(st:Option RS)(k:Nat):Prop:=∃s,st=Y s/\k=s.R.gd
structure Ei(w w':World)(gc:Nat)(A:WA)(st:Option RS):Prop where
 os:w'.os=w.os
 tape:w'.tape=w.tape
 output:w'.output=w.output
 size:z (M w)<=z (M w')
 block:∀k,k<z (M w)->k≠gc->k≠A.gd->¬gdS st k->w'.heap[k]?=w.heap[k]?
def Ei.refl(w:World)(gc:Nat)(A:WA)(b:Option RS):Ei w w gc A b:=⟨Z,Z,Z,xR _,fun _ _ _ _ _=>Z⟩
def Ei.X{A:WA}{e:Option RS}(h:Ei w w1 gc A e)(b:Below (z (M w1)) w1 w2):Ei w w2 gc A e :=
 ⟨b.os.trans h.os,b.tape.trans h.tape,b.output.trans h.output,Nat.le_trans h.size b.size,fun k c i j m=>(b.block k (xW c h.size)).trans (h.block k c i j m)⟩
def Ei.cL{gd:Nat}{A:WA}{i:Option RS}(h:Ei w w1 gc A i)(b:En w1 w2 gc o gd)(q:gd=A.gd\/gdS i gd\/z (M w)<=gd):Ei w w2 gc A i :=
 ⟨b.os.trans h.os,b.tape.trans h.tape,b.output.trans h.output,by rw[b.size];exact h.size,fun k p j m n=>(b.block k j fun e=>by
  subst e
  rcases q with c|c|c
  ·exact m c
  ·exact n c
  ·omega).trans (h.block k p j m n)⟩
def Ei.set{A:WA}{i:Option RS}(h:Ei w w1 gc A i)(o:Nat)(c:List Value):Ei w (w1.setCells gc o c) gc A i:=by
 have b:=IE (g:=gc) c o w1;exact⟨b.os.trans h.os,b.tape.trans h.tape,b.output.trans h.output,by rw[rD];exact h.size,fun k j e m n=>(yW gc c o w1 k e).trans (h.block k j e m n)⟩
def Ei.trans{A:WA}{i c:Option RS}(h:Ei w w1 gc A i)(b:Ei w1 w2 gc A c)(r:∀k,gdS c k->gdS i k\/z (M w)<=k):Ei w w2 gc A i :=
 ⟨b.os.trans h.os,b.tape.trans h.tape,b.output.trans h.output,Nat.le_trans h.size b.size,fun k m n p q=>(b.block k (xW m h.size) n p fun e=>by
  rcases r k e with j|j
  ·exact q j
  ·omega).trans (h.block k m n p q)⟩
structure Em(w:World)(gc:Nat)(A:WA)(rss:List (List Run))(st:Option RS)(ds:List Int)(rest:List (List Int)):Prop where
 box:Box w gc
 ws:A.on w gc rss ds rest
 beg:H w ⟨gc,21,O⟩=Y (C st.isSome)
 rs:∀s,st=Y s->s.R.on w gc A s.wd s.ds s.rest/\WdOk s.wd
def WA.on.X{A:WA}{rest:List (List Int)}(h:A.on w gc rss ds rest)(b:Below (z (M w)) w w'):A.on w' gc rss ds rest:=WsOn.X h b
def Aa(h:w.rangeAt g o l)(b:Below (z (M w)) w w')(c:g<z (M w)):w'.rangeAt g o l:=jM h (b.block g c)
def RA.on.X{R:RA}{A:WA}{rest:List (List Int)}(h:R.on w gc A wd ds rest)(c:Below (z (M w)) w w'):R.on w' gc A wd ds rest:=by
 obtain⟨b,i⟩:=h.rd.OS.OS;have e:=i.lt;exact⟨(c.cell e).trans h.c0,(c.cell e).trans h.c1,h.wdi.X c,Aa h.fc c e,h.fin.X c,h.rd.X c,h.n1,h.n2,h.n3⟩
def Em.X{A:WA}{c:Option RS}{rest:List (List Int)}(h:Em w gc A rss c ds rest)(b:Below (z (M w)) w w'):Em w' gc A rss c ds rest :=
 ⟨h.box.X b,h.ws.X b,(b.cell h.box.lt).trans h.beg,fun s hs=>⟨(h.rs s hs).1.X b,(h.rs s hs).2⟩⟩
def EL(I:World->Nat->Prop):∃ μ:World->Nat,∀w,(∃n,I w n)->I w (μ w)/\∀m,I w m->μ w<=m:=by
 have i:∀P:Nat->Prop,(∃n,P n)->∃n,P n/\∀m,P m->n<=m:=by
  intro P k;obtain⟨n,c⟩:=k
  induction n using Nat.strongRecOn with
  |ind n ih =>
   by_cases h:∃m,m<n/\P m
   ·obtain⟨m,b,p⟩:=h;exact ih m b p
   ·exact⟨n,c,fun m b=>by
     by_cases hl:m<n
     ·exact absurd ⟨m,hl,b⟩ h
     ·omega⟩
 have j:∀w,∃n,(∃n,I w n)->I w n/\∀m,I w m->n<=m:=fun w=>by
  by_cases h:∃n,I w n
  ·obtain⟨n,c⟩:=i (I w) h;exact⟨n,fun _=>c⟩
  ·exact⟨0,fun e=>absurd e h⟩
 exact⟨fun w=>Classical.choose (j w),fun w=>Classical.choose_spec (j w)⟩
structure CandW(w:World)(gc:Nat)(A:WA)(rss:List (List Run))(ds:List Int)(rest:List (List Int)):Prop where
 box:Box w gc
 ws:A.on w gc rss ds rest
 beg:∃b,H w ⟨gc,21,O⟩=Y (C b)
def Ab(w w':World)(gc:Nat)(A:WA)(rss:List (List Run))(st:Option RS)(rem:List (Q.Wd×List Int))(b:Bool):Prop :=
 Ei w w' gc A st/\(b=false/\rem=[]\/b=true/\∃s ds rest,Em w' gc A rss (Y s) ds rest/\rem=(s.wd,s.ds)::eP rss (Y s) rest/\PE (PN (NC s.wd.E)) s.ds/\(∀k,s.R.nb k->nbS st k\/z (M w)<=k)/\(gdS st s.R.gd\/z (M w)<=s.R.gd))
def Ac{A:WA}{rest:List (List Int)}{gd:Nat}(h:A.on w gc rss ds rest)(c:En w w' gc 18 gd)(y:Box w gc)(u:A.gb≠gd)(v:A.gd≠gd)(B:w.heap[gd]?=Y (G cd 3 (0,0))):A.on w' gc rss ds rest:=by
 obtain⟨b,⟨m,q,r,t,cl,s,i,n,p,D,E⟩,x⟩:=h.OS;obtain⟨cc,k,_⟩:=y;exact⟨(c.cell _ (by omega)).trans h.c0,Ek.cL h.U c k (by decide) (by decide) (by decide) B,b,⟨(c.cell _ (by omega)).trans m,(c.cell _ (by omega)).trans q,(c.cell _ (by omega)).trans r,fun j=>(c.froz j).trans (t j),by rw[c.size];exact cl,s.aC (c.block _ (fun e=>p e.symm) u),i.aC (c.block _ (fun e=>n e.symm) v),n,p,D,E⟩,x⟩
def Pw{gd:Nat}{ev:Value}(h:PY w ev rg wd)(b:En w w' gc o gd)(c:w.heap[gc]?=Y (G cc 94 (0,0)))(j:w.heap[gd]?=Y (G cd 3 (0,0)))(i:rg.ownBlock≠Y gd/\rg.ownBlock≠Y gc):PY w' ev rg wd :=
 ⟨yO h.K b c (by decide) j (by decide),h.g.own w' (fun k e=>b.block k (fun e2=>i.2 (by rw[e,e2])) fun e2=>i.1 (by rw[e,e2])) (by rw[b.size];exact xR _)⟩
def vR{k:Nat}{l:List Nat}{c:Array Value}{t:TypeId}(h:OB w g l)(b:w.heap[k]?=Y (G c t (0,0)))(i:178≠t):g≠k:=fun e=>by
 unfold OB at h;rw[e,b]at h;simp at h;exact i h.2.symm
def Ed.off(h:Ed w a f)(hs:∀g l,OB w g l->w'.heap[g]?=w.heap[g]?)(b:PH w' a.ev f.E):Ed w' a f :=
 have K:∀{g n l},Eb w g n l->Eb w' g n l:=fun{g n l} h=>⟨h.at_.aC (hs g l h.at_),h.len,h.fits⟩
 ⟨b,h.len,h.n64,K h.r1,K h.r2,K h.r3,K h.r4,K h.r5,K h.r6,K h.r7,K h.r8,K h.r9⟩
def Px{gd:Nat}(h:Ed w a f)(c:En w w' gc o gd)(b:w.heap[gc]?=Y (G cc 94 (0,0)))(e:w.heap[gd]?=Y (G cd 3 (0,0))):Ed w' a f :=
 h.off (fun g l i=>c.block g (vR i b (by decide)) (vR i e (by decide))) (yO h.ev c b (by decide) e (by decide))
def Py{gd p:Nat}(h:w.rangeAt gc p l)(c:En w w' gc o gd)(i:p+N l<=o+2):w'.rangeAt gc p l:=fun j u b=>by
 have e:j<N l:=(List.getElem?_eq_some_iff.1 b).1;rw[<- h j u b];exact c.cell _ (by simp;omega)
def vM(w:World)(gc:Nat)(A:WA)(rss:List (List Run))(st:Option RS)(R0:List (Q.Wd×List Int))(wr:World)(n:Nat):Prop :=
 ∃st1 ds1 rest1,Em wr gc A rss st1 ds1 rest1/\eP rss st1 rest1=R0/\N rest1=n/\Ei w wr gc A st/\(∀k,nbS st1 k->nbS st k\/z (M w)<=k)/\∀k,gdS st1 k->gdS st k\/z (M w)<=k
def vM.some{wr:World}{A:WA}{t:Option RS}{B:List (Q.Wd×List Int)}{s:RS}{m:List Int}{e:List (List Int)}(j:Em wr gc A rss (Y s) m e)(F:eP rss (Y s) e=B)(L:Ei w wr gc A t)(D:(∀k,nbS (Y s) k->nbS t k\/z (M w)<=k)/\∀k,gdS (Y s) k->gdS t k\/z (M w)<=k){r:List Int}{q:List (List Int)}(i:En wr w2 gc 18 s.R.gd)(K:s.rest=r::q)(y:RdOn w2 gc 17 s.R.cv s.R.cvs s.R.gb s.R.gd (NC s.wd.E) r q)(I:PE (PN (NC s.wd.E)) r)(u:Ei w w2 gc A t):Ab w w2 gc A rss t B true:=by
 obtain⟨c,x⟩:=j.rs s Z;obtain⟨cc,n,_⟩:=id j.box;obtain⟨b,v⟩:=c.rd.OS.OS;refine⟨u,Or.inr ⟨Z,⟨s.R,s.wd,r,q⟩,m,e,⟨j.box.cL i,Ac j.ws i j.box c.n1 c.n2 v.digits,(i.cell _ (by omega)).trans j.beg,?_⟩,?_,I,fun k J=>D.1 k ⟨s,Z,J⟩,D.2 _ ⟨s,Z,Z⟩⟩⟩
 ·intro S p;simp only[Option.some.injEq]at p;subst p;exact⟨⟨(i.cell _ (by omega)).trans c.c0,(i.cell _ (by omega)).trans c.c1,Pw c.wdi i n v.digits c.n3,Py c.fc i (by simp[OK]),Px c.fin i n v.digits,y,c.n1,c.n2,c.n3⟩,x⟩
 ·rw[<- F];simp[eP,K]
structure CW(w0 w:World)(gc:Nat)(A:WA)(rss:List (List Run))(st:Option RS)(d:List Int)(q:List (List Int)):Prop where
 box:Box w gc
 ws:A.on w gc rss d q
 beg:H w ⟨gc,21,O⟩=Y (C true)
 fr:Ei w0 w gc A st
def CW.X{A:WA}{c:Option RS}{q:List (List Int)}(h:CW w0 w gc A rss c d q)(b:Below (z (M w)) w w'):CW w0 w' gc A rss c d q :=
 ⟨h.box.X b,h.ws.X b,(b.cell h.box.lt).trans h.beg,h.fr.X b⟩
def CW.set{A:WA}{k:Option RS}{q:List (List Int)}(h:CW w0 w gc A rss k d q)(o:Nat)(b:List Value)(r:o+N b<=13\/17<=o/\o+N b<=21):CW w0 (w.setCells gc o b) gc A rss k d q:=by
 obtain⟨e,s,i,m⟩:=h.box.set o b (by omega);obtain⟨cc,c,_⟩:=id h.box;exact⟨e,WsOn.dH h.ws c (by decide) (by decide) (by decide) (fun j n p=>i j (by omega)) (fun j=>e.free j) m (by rw[rD];exact xR _),(i 21 (by omega)).trans h.beg,h.fr.set o b⟩
def CW.start{A:WA}{i:Option RS}{q:List (List Int)}(e:Box w gc)(m:A.on w gc rss d q)(k:Ei w0 w gc A i):CW w0 (w.setCell ⟨gc,21,O⟩ (C true)) gc A rss i d q:=by
 obtain⟨c,r,p,n⟩:=e.set 21 [C true] (by decide);obtain⟨cc,b,_⟩:=id e;exact⟨c,WsOn.dH m b (by decide) (by decide) (by decide) (fun j s t=>p j (xF (by omega))) (fun j=>c.free j) n (by simp),r 0 _ Z,k.set 21 [C true]⟩
structure CW1(w:World)(gc:Nat)(ev rg:Value)(wd:Q.Wd):Prop where
 c0:H w ⟨gc,0,O⟩=Y ev
 c1:H w ⟨gc,1,O⟩=Y rg
 wdi:PY w ev rg wd
 ne:rg.ownBlock≠Y gc
def CW1.X{ev:Value}(h:CW1 w gc ev rg wd)(c:Box w gc)(b:Below (z (M w)) w w'):CW1 w' gc ev rg wd :=
 ⟨(b.cell c.lt).trans h.c0,(b.cell c.lt).trans h.c1,h.wdi.X b,h.ne⟩
def JD{ev:Value}(h:PY w ev rg wd)(ne:rg.ownBlock≠Y gc)(i:Box w gc)(o:Nat)(c:List Value)(m:o+N c<=22):PY (w.setCells gc o c) ev rg wd:=by
 obtain⟨n,q,p,j⟩:=i.set o c m;obtain⟨cc,b,_⟩:=id i;exact⟨bE h.K fun k e=>j k fun e2=>gB h.K b (by decide) (by rw[e,e2]),h.g.own _ (fun k e=>j k fun e2=>ne (by rw[e,e2])) (by rw[rD];exact xR _)⟩
def CW1.set{ev:Value}(h:CW1 w gc ev rg wd)(c:Box w gc)(o:Nat)(b:List Value)(e:o+N b<=22)(k:2<=o):CW1 (w.setCells gc o b) gc ev rg wd:=by
 obtain⟨j,n,i,m⟩:=c.set o b e;exact⟨(i 0 (xF (by omega))).trans h.c0,(i 1 (xF (by omega))).trans h.c1,JD h.wdi h.ne c o b e,h.ne⟩
def CW1.start{ev:Value}(h:PY w ev rg wd)(ne:rg.ownBlock≠Y gc)(b:Box w gc):CW1 (w.setCells gc 0 [ev,rg]) gc ev rg wd:=by
 obtain⟨e,c,j,i⟩:=b.set 0 [ev,rg] (by simp);exact⟨c 0 _ Z,c 1 _ Z,JD h ne b 0 [ev,rg] (by simp),ne⟩
structure CW2(w:World)(gc:Nat)(fa:FA)(es:List Ev):Prop where
 fc:w.rangeAt gc 2 (OK fa).toList
 fin:Ed w fa (NH es)
def CW2.X(h:CW2 w gc fa es)(c:Box w gc)(b:Below (z (M w)) w w'):CW2 w' gc fa es:=⟨Aa h.fc b c.lt,h.fin.X b⟩
def MO(h:Ed w fa f)(c:Box w gc)(o:Nat)(i:List Value)(m:o+N i<=22):Ed (w.setCells gc o i) fa f:=by
 obtain⟨n,q,p,j⟩:=c.set o i m;obtain⟨cc,b,_⟩:=id c;exact h.off (fun g l c=>j g (vR c b (by decide))) (bE h.ev fun k e=>j k fun e2=>gB h.ev b (by decide) (by rw[e,e2]))
def CW2.start(h:Ed w fa (NH es))(b:Box w gc):CW2 (w.setCells gc 2 (OK fa).toList) gc fa es:=by
 obtain⟨e,c,j,i⟩:=b.set 2 (OK fa).toList (by simp[OK]);exact⟨c,MO h b 2 _ (by simp[OK])⟩
def CW2.set(h:CW2 w gc fa es)(c:Box w gc)(o:Nat)(b:List Value)(e:o+N b<=22)(i:12<=o):CW2 (w.setCells gc o b) gc fa es :=
 ⟨World.rangeAt_setCells_apart h.fc gc o b (Or.inr (xF (by simp[OK];omega))),MO h.fin c o b e⟩
def Ad{A:WA}{st:Option RS}{q:List (List Int)}{ev:Value}{b:Option Addr}{c gd:Nat}{n:List Value}{m:Nat}(h:CW w0 w gc A rss st d q)(h1:CW1 w gc ev rg wd)(h2:CW2 w gc fa wd.E)(j:NX w m (.slice b (NC wd.E).length c) (NC wd.E) n)(K:NM w gb (PN (NC wd.E)))(L:NM w gd (fJ (NC wd.E).length))(aa:m<=gb)(ab:m<=gd)(I:gb≠gd)(J:(Value.slice b (NC wd.E).length c).ownBlock≠Y gd)(r:∀u∈n,∀k,u.ownBlock=Y k->m<=k/\k≠gd)(ad:gc<m)(hA:A.gb<m/\A.gd<m)(S:∀k,rg.ownBlock=Y k->k<m)(T:WdOk wd):
  Em (w.setCells gc 17 [.slice b (NC wd.E).length c,MU gb (NC wd.E).length (NC wd.E).length,MU gd (NC wd.E).length (NC wd.E).length,C false]) gc A rss (Y ⟨⟨ev,rg,fa,.slice b (NC wd.E).length c,n,gb,gd⟩,wd,fJ (NC wd.E).length,OJ (PN (NC wd.E))⟩) d q:=by
 have g:=h.set 17 [.slice b (NC wd.E).length c,MU gb (NC wd.E).length (NC wd.E).length,MU gd (NC wd.E).length (NC wd.E).length,C false] (Or.inr (by simp));have v:=h1.set h.box 17 [.slice b (NC wd.E).length c,MU gb (NC wd.E).length (NC wd.E).length,MU gd (NC wd.E).length (NC wd.E).length,C false] (by simp) (by decide);have U:=h2.set h.box 17 [.slice b (NC wd.E).length c,MU gb (NC wd.E).length (NC wd.E).length,MU gd (NC wd.E).length (NC wd.E).length,C false] (by simp) (by decide);obtain⟨b6,D,o6,B⟩:=h.box.set 17 [.slice b (NC wd.E).length c,MU gb (NC wd.E).length (NC wd.E).length,MU gd (NC wd.E).length (NC wd.E).length,C false] (by simp);have t:∀k,(Value.slice b (NC wd.E).length c).ownBlock=Y k->m<=k:=fun k e=>(j.own.lt k e).1
 refine⟨g.box,g.ws,g.beg,fun s hs=>?_⟩;simp only[Option.some.injEq]at hs;subst hs;refine⟨⟨v.c0,v.c1,v.wdi,U.fc,U.fin,⟨D 0 _ Z,⟨?_,j.len,fun i hi x W=>(j.y i hi x W).own _ (fun k e=>B k (by have:=(r x (List.mem_of_getElem? W) k e).1;omega)) (by rw[rD];exact xR _)⟩,⟨false,⟨?_,?_,D 3 _ Z,g.box.free,g.box.lt,K.aC (B _ (by omega)),?_,by show gc≠gd;omega,by show gc≠gb;omega,I,?_⟩,xF ⟨Z,?_,Z⟩⟩,⟨J,fun e=>?_⟩,fun u hu k e=>?_⟩,?_,?_,⟨fun e=>?_,v.ne⟩⟩,T⟩
 ·have V:=bE j.own fun k e=>B k (by have:=t k e;omega);refine⟨V.1,?_⟩
  rcases V.2 with h0|⟨X,p,F,e,ac,q⟩
  ·exact xF h0
  ·exact Or.inr ⟨X,p,F,e,Nat.zero_le _,q⟩
 ·rw[vH];exact D 1 _ Z
 ·have hz:(fJ (NC wd.E).length).length=(NC wd.E).length:=by simp[fJ]
  show _=Y (MU gd (fJ (NC wd.E).length).length (fJ (NC wd.E).length).length);rw[hz];exact D 2 _ Z
 ·exact L.aC (B _ (by omega))
 ·show(fJ (NC wd.E).length).length=_;rw[vH];simp[fJ]
 ·show fJ (NC wd.E).length=_;rw[vH]
 ·have:=t gc e;omega
 ·have:=r u hu k e;exact⟨this.2,by omega⟩
 ·show A.gb≠gd;omega
 ·show A.gd≠gd;omega
 ·have:=S gd e;omega
