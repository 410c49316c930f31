import Derived.Test.YtlikcongbhhpfaaGreatDoorM45
set_option linter.unusedVariables false
set_option linter.unusedSimpArgs false
set_option maxHeartbeats 12800000
namespace Go.Proofs.YtlikcongbhhpfaaGreatDoor
open Go Go.RowKit Go.Proofs.Tryz P Q
set_option maxRecDepth 1000000
variable {w w':World}{B g n q:Nat}{vs xs:List Value}{v v':Value}{rows:List (List ByteArray)}{ps:List Nat}{regs:List (List Int)}{vars:List Int}{e t:TypeId}{s:ByteArray}{o:MR}
open _root_.Array renaming size->N
open Go.World renaming heap->M,cell?->L
open List renaming length->H
open Option renaming some->Y,none->C
open Go.Value renaming int->O
open Go.IntKind renaming i64->I
open Bool renaming false->G,true->U
open Go.Obj renaming cells->E
open Or renaming inr->xF,inl->xR
open List renaming getElem?_eq_getElem->xW,getD_eq_getElem?_getD->x0,replicate->x6,getElem?_map->xc,replicate_succ'->xe,getElem_mem->xh
open Go.RowKit.Below renaming refl->x2,heap_setCell->xd
open Go.Value renaming string->x4,int->xb,ownBlock->xg
open Nat renaming lt_of_lt_of_le->x5
open Go.IntKind renaming wrap_u8->x7
open Go.World renaming cell?_of_block->x8
open Bool renaming and_eq_true->x9
structure CA(w:World)(g:Nat)(vs:List Value):Prop where
 cell:∀i u,vs[i]?=Y u->L w ⟨g,i,C⟩=Y u
 free:∀i,i<H vs->w.frozen? ⟨g,i,C⟩=G
 lt:g<N (M w)
theorem CA.of(h:CA w g vs)(e:w'.heap[g]?=w.heap[g]?)(c:N (M w)<=N (M w')):CA w' g vs :=
 ⟨fun i u d=>(x8 (w:=w) (a:=⟨g,i,C⟩) e).trans (h.cell i u d),fun i b=>(World.frozen?_of_block (w:=w) (a:=⟨g,i,C⟩) e).trans (h.free i b),x5 h.lt c⟩
theorem CA.X(h:CA w g vs)(a:Below (N (M w)) w w'):CA w' g vs:=h.of (a.block g h.lt) a.size
theorem CA.set(h:CA w g vs)(i:Nat)(b:i<H vs)(x:Value):CA (w.setCell ⟨g,i,C⟩ x) g (vs.set i x):=by
 refine⟨fun j u a=>?_,fun j d=>?_,by simpa using h.lt⟩
 ·rw[List.getElem?_set]at a;by_cases c:i=j
  ·subst c;rw[if_pos rfl,if_pos b]at a;cases a;exact World.cell?_setCell_same _ _ _ (h.cell i vs[i] (xW b))
  ·rw[if_neg c]at a;rw[World.cell?_setCell_other _ _ _ _ (by simp;try exact fun e=>c e.symm)];exact h.cell j u a
 ·rw[World.frozen?_setCell];exact h.free j (by simpa using d)
structure Sk where
 n:Nat
 gm:Nat
 gl:Nat
 ga:Nat
 gr:Nat
 gv:Nat
 gw:Nat
 cl:Nat
 ca:Nat
 cr:Nat
 cw:Nat
 gR:Nat->Nat
def Sk.W(K:Sk)(g:Nat):Prop:=g=K.ga\/g=K.gv\/g=K.gw\/∃k,k<K.n/\g=K.gR k
structure Sk.Ok(K:Sk):Prop where
 m:¬K.W K.gm
 l:¬K.W K.gl
 r:¬K.W K.gr
 av:K.ga≠K.gv
 aw:K.ga≠K.gw
 vw:K.gv≠K.gw
 ra:∀k,k<K.n->K.gR k≠K.ga/\K.gR k≠K.gv/\K.gR k≠K.gw
 rr:∀k j,k<K.n->j<K.n->K.gR k=K.gR j->k=j
def RF(w:World)(Wr:Nat->Prop)(v:Value)(row:List ByteArray):Prop :=
 ∃a c,v=.slice a (H row) c/\(0<H row->∃g o,a=Y ⟨g,o,C⟩/\(∀i (h:i<H row),L w ⟨g,o+i,C⟩=Y (.string row[i]))/\g<N (M w)/\¬Wr g)
theorem RF.of{Wr:Nat->Prop}{row:List ByteArray}(h:RF w Wr v row)(l:∀k,k<N (M w)->¬Wr k->w'.heap[k]?=w.heap[k]?)(r:N (M w)<=N (M w')):RF w' Wr v row:=by
 obtain⟨a,c,e,h⟩:=h;refine⟨a,c,e,fun p=>?_⟩;obtain⟨g,o,f,j,b,d⟩:=h p;exact⟨g,o,f,fun i m=>(x8 (w:=w) (a:=⟨g,o+i,C⟩) (l g b d)).trans (j i m),x5 b r,d⟩
def OJ(l:List Int):List Value:=l.map (xb I)
def PK(l:List Nat):List Value:=l.map fun x:Nat=>xb I (x:Int)
def PM(l:List Bool):List Value:=l.map Value.bool
def Gp(K:Sk):List Value:=(List.range K.n).map fun k=>JQ (K.gR k) 4 4
structure MK(w:World)(K:Sk)(rows:List (List ByteArray))(ps:List Nat)(regs:List (List Int))(vars:List Int)(JT:List Bool):Prop where
 ok:K.Ok
 m:w.heap[K.gm]?=Y (E #[JQ K.gl K.n K.cl,JQ K.ga K.n K.ca,JQ K.gr K.n K.cr,JQ K.gv 3 3,JQ K.gw K.n K.cw] 38 (0,0))
 nl:H rows=K.n
 na:H ps=K.n
 nr:H regs=K.n
 nv:H vars=3
 nw:JT.length=K.n
 l:∀k (h:k<H rows),∃v,L w ⟨K.gl,k,C⟩=Y v/\RF w K.W v rows[k]
 gl:K.gl<N (M w)
 a:CA w K.ga (PK ps)
 r:CA w K.gr (Gp K)
 rs:∀k (h:k<H regs),regs[k].length=4/\CA w (K.gR k) (OJ regs[k])
 v:CA w K.gv (OJ vars)
 t:CA w K.gw (PM JT)
theorem MK.xf{K:Sk}{JT:List Bool}(h:MK w K rows ps regs vars JT)(b:Below (N (M w)) w w'):MK w' K rows ps regs vars JT:=by
 refine⟨h.ok,(b.block _ (Array.getElem?_eq_some_iff.1 h.m).1).trans h.m,h.nl,h.na,h.nr,h.nv,h.nw,fun k c=>?_,x5 h.gl b.size,h.a.X b,h.r.X b,fun k c=>⟨(h.rs k c).1,(h.rs k c).2.X b⟩,h.v.X b,h.t.X b⟩;obtain⟨v,d,f⟩:=h.l k c;exact⟨v,(x8 (w:=w) (a:=⟨K.gl,k,C⟩) (b.block _ h.gl)).trans d,f.of (fun j i _=>b.block j i) b.size⟩
theorem MK.MF{K:Sk}{JT:List Bool}(h:MK w K rows ps regs vars JT):
  L w ⟨K.gm,0,C⟩=Y (JQ K.gl K.n K.cl)/\L w ⟨K.gm,1,C⟩=Y (JQ K.ga K.n K.ca)/\L w ⟨K.gm,2,C⟩=Y (JQ K.gr K.n K.cr)/\L w ⟨K.gm,3,C⟩=Y (JQ K.gv 3 3)/\L w ⟨K.gm,4,C⟩=Y (JQ K.gw K.n K.cw)/\K.gm<N (M w):=by
 refine⟨?_,?_,?_,?_,?_,(Array.getElem?_eq_some_iff.1 h.m).1⟩<;>simp[World.cell?,h.m]
theorem MK.KI{K:Sk}{JT:List Bool}(h:MK w K rows ps regs vars JT){t:Nat}(c:t<K.n):
  L w ⟨K.gr,t,C⟩=Y (JQ (K.gR t) 4 4)/\K.gR t<N (M w)/\∀q,q<4->L w ⟨K.gR t,q,C⟩=Y (O I ((regs.getD t []).getD q 0)):=by
 have a:t<H regs:=by rw[h.nr];exact c
 obtain⟨d,b⟩:=h.rs t a;refine⟨h.r.cell t _ (by simp[Gp,c]),b.lt,fun q f=>b.cell q _ ?_⟩;have e:regs.getD t []=regs[t]:=by rw[x0,xW a];rfl
 rw[e];simp only[OJ,xc];rw[xW (by omega),x0,xW (by omega)];rfl
namespace P
theorem Uy(h:(aO s.toList).2=U):(∃q:Nat,q<4/\∃a:s.size=1,s[0].toNat=48+q/\(aO s.toList).1=⟨G,(q:Int)⟩)\/∃q:Nat,q<4/\∃a:s.size=2,s[0].toNat=114/\s[1].toNat=48+q/\(aO s.toList).1=⟨U,(q:Int)⟩:=by
 by_cases a:s.size=1
 ·rw[SK s a]at h⊢;refine xR ?_;simp only[cH,x9,decide_eq_true_eq]at h⊢;refine⟨s[0].toNat-48,by omega,a,by omega,?_⟩
  congr 1;omega
 ·rw[SL s a]at h⊢;by_cases h2:s.size=2
  ·rw[EI s h2]at h⊢;refine xF ?_
   split at h
   ·simp at h
   ·rename_i b;rw[if_neg b];have b:(s[0].toNat:Int)=114:=by simpa using b
    simp only[cH,x9,decide_eq_true_eq]at h⊢;refine⟨s[1].toNat-48,by omega,h2,by omega,by omega,?_⟩
    congr 1;omega
  ·rw[EG s h2]at h;simp at h
end P
theorem rI(K:Sk)(rows:List (List ByteArray))(ps:List Nat)(regs:List (List Int))(vars:List Int)(JT:List Bool)(t:Nat)(s:ByteArray)(w:World)(h:MK w K rows ps regs vars JT)(j:t<K.n)(i:(aO s.toList).2=U)(A:K.n<1000):
  Calls prog 22 #[.pointer (Y ⟨K.gm,0,C⟩),O I (t:Int),.string s] w fun e w'=>e=.returned (O I (if(aO s.toList).1.KI then(regs.getD t []).getD (aO s.toList).1.n.toNat 0 else(aO s.toList).1.n))/\Below (N (M w)) w w':=by
 obtain⟨p,r,u,x,y,z⟩:=h.MF;obtain⟨D,F,m⟩:=h.KI j;have k:(t:Int)<(K.n:Int):=by omega
 rcases Uy i with⟨q,c,f,b,a⟩|⟨q,c,f,b,d,a⟩
 ·rw[a];have l:IntKind.u8.wrap ((s[0].toNat:Int)-48)=(q:Int):=by rw[x7,b];omega
  go_enter func22,ntmps22;go_wp2;go_ret;exact⟨by go_num,x2 _ _⟩
 ·rw[a];have l:IntKind.u8.wrap ((s[1].toNat:Int)-48)=(q:Int):=by rw[x7,d];omega
  have J:=m q c;go_enter func22,ntmps22;go_upto_region 2 with fail
  go_quiet (fail);go_wp2;go_ret;exact⟨by simp,dO _ _ _⟩
def QB(w:World)(v:Value)(row:List ByteArray):Prop :=
 ∃a c,v=.slice a (H row) c/\(0<H row->∃g o cs,a=Y ⟨g,o,C⟩/\w.heap[g]?=Y (E cs 9 (0,0))/\∀i (h:i<H row),cs[o+i]?=Y (.string row[i]))
def KT(w w':World)(t:TypeId):Prop:=∀(k:Nat) (c:Array Value),w.heap[k]?=Y (E c t (0,0))->w'.heap[k]?=w.heap[k]?
theorem QB.kt{row:List ByteArray}(h:QB w v row)(k:KT w w' 9):QB w' v row:=by
 obtain⟨a,c,e,h⟩:=h;refine⟨a,c,e,fun j=>?_⟩;obtain⟨g,o,b,f,d,i⟩:=h j;exact⟨g,o,b,f,(k g b d).trans d,i⟩
theorem dL(h:w.ownsRow B e 1 v n xs)(k:KT w w' e):w'.ownsRow B e 1 v n xs :=
 aU h fun i b=>by obtain⟨c,a⟩:=gE h b;exact k i c a
theorem sY{W:World}(h:w.ownsRow B e 1 v n xs)(d:Below (N (M w)) w W)(i:W.grownBy w' v.ownBlock)(b:e≠t):KT w w' t:=fun k c f=>by
 have a:=(Array.getElem?_eq_some_iff.1 f).1;have:=d.size;rw[i.block k (by omega) (Ne.symm (kE h f b)),d.block k a]
theorem Uz{i:Nat}{f:Array Value}{x:Value}(h:w.heap[g]?=Y (E f e (0,0)))(d:e≠t):KT w (w.setCell ⟨g,i,C⟩ x) t:=fun k c a=>by
 refine xd _ _ _ _ fun b=>?_;rw[b]at a;have b:(⟨g,i,C⟩:Addr).block=g:=rfl;rw[b,h]at a;simp at a;exact d a.2
structure Mb where
 gm:Nat
 gv:Nat
 na:Nat
 nw:Nat
 xl:Value
 xa:Value
 xr:Value
 xw:Value
 vl:Value
 va:Value
 vr:Value
 vw:Value
 vb:Value
 lv:List Value
 y:List (List ByteArray)
 gR:List Nat
 bl:List Int
 pv:Value
 ws:List ByteArray
structure MB(w0 w:World)(m:Mb):Prop where
 mm:w.heap[m.gm]?=Y (E #[m.xl,m.xa,m.xr,JQ m.gv 3 3,m.xw] 38 (0,0))
 v:w.heap[m.gv]?=Y (E #[O I 0,O I 0,O I 0] 3 (0,0))
 l:w.ownsRow (N (M w0)) 39 1 m.vl (H m.y) m.lv
 ll:∀k,k<H m.y->QB w (m.lv.getD k undef) (m.y.getD k [])
 a:w.ownsRow (N (M w0)) 3 1 m.va m.na (PK (x6 m.na 0))
 r:w.ownsRow (N (M w0)) 31 1 m.vr (H m.gR) (m.gR.map fun g=>JQ g 4 4)
 rs:∀g∈m.gR,w.heap[g]?=Y (E #[O I 0,O I 0,O I 0,O I 0] 3 (0,0))
 nd:m.gR.Nodup
 rv:m.gv∉m.gR
 t:w.ownsRow (N (M w0)) 4 1 m.vw m.nw (PM (x6 m.nw G))
 b:w.ownsRow (N (M w0)) 5 1 m.vb (H m.bl) (m.bl.map fun x=>O .u8 (48+x))
 av:m.va.ownBlock≠Y m.gv
 ar:∀g∈m.gR,m.va.ownBlock≠Y g
 gb:N (M w0)<=m.gm/\N (M w0)<=m.gv/\∀g∈m.gR,N (M w0)<=g
 p:w.ownsRow (N (M w0)) 9 1 m.pv (H m.ws) (m.ws.map x4)
 be:Below (N (M w0)) w0 w
section
variable {w0 w w' W:World}{m:Mb}
theorem MB.all(h:MB w0 w m)(k:∀t,KT w w' t)(d:Below (N (M w0)) w0 w'):MB w0 w' m :=
 ⟨(k _ _ _ h.mm).trans h.mm,(k _ _ _ h.v).trans h.v,dL h.l (k _),fun i f=>(h.ll i f).kt (k _),dL h.a (k _),dL h.r (k _),fun g c=>(k _ _ _ (h.rs g c)).trans (h.rs g c),h.nd,h.rv,dL h.t (k _),dL h.b (k _),h.av,h.ar,h.gb,dL h.p (k _),d⟩
theorem MB.X(h:MB w0 w m)(a:Below (N (M w)) w w'):MB w0 w' m:=h.all (fun _ k _ b=>a.block k (Array.getElem?_eq_some_iff.1 b).1) (JW h.be (Nat.le_refl _) a)
theorem ET{α:Type}{l:List α}{x:α}{k:Nat}(d:α)(h:k<H l+1):(l++[x]).getD k d=if k=H l then x else l.getD k d:=by
 rw[x0,x0];by_cases c:k=H l
 ·subst c;simp
 ·rw[if_neg c,List.getElem?_append_left (by omega)]
theorem JB(h:w.ownsRow B e 1 v n xs):H xs=n:=by have:=h.1;omega
theorem xD{a W:World}(b:Below (N (M a)) a w)(h:w.ownsRow (N (M a)) e 1 v n xs)(c:Below (N (M w)) w W)(d:W.grownBy w' v.ownBlock):Below (N (M a)) a w' :=
 (JW b (Nat.le_refl _) c).grown d (Nat.le_trans b.size c.size) fun k e=>(h.lt k e).1
theorem MB.xC(h:MB w0 w m)(j:Below (N (M w)) w W)(d:W.grownBy w' m.vl.ownBlock){u:Value}{row:List ByteArray}(A:w'.ownsRow (N (M w0)) 39 1 v' (H m.y+1) (m.lv++[u]))(D:QB w u row):MB w0 w' {m with vl:=v',lv:=m.lv++[u],y:=m.y++[row]}:=by
 have k:∀t,39≠t->KT w w' t:=fun t=>sY h.l j d
 have z:=JB h.l;refine⟨(k _ (by decide) _ _ h.mm).trans h.mm,(k _ (by decide) _ _ h.v).trans h.v,by simpa using A,fun i x=>?_,dL h.a (k _ (by decide)),dL h.r (k _ (by decide)),fun g d=>(k _ (by decide) _ _ (h.rs g d)).trans (h.rs g d),h.nd,h.rv,dL h.t (k _ (by decide)),dL h.b (k _ (by decide)),h.av,h.ar,h.gb,dL h.p (k _ (by decide)),xD h.be h.l j d⟩;have f:i<H m.y+1:=by simpa using x
 show QB w' ((m.lv++[u]).getD i undef) ((m.y++[row]).getD i []);rw[ET _ (by omega),ET _ f,z];by_cases c:i=H m.y
 ·rw[if_pos c,if_pos c];exact D.kt (k _ (by decide))
 ·rw[if_neg c,if_neg c];exact(h.ll i (by omega)).kt (k _ (by decide))
theorem MB.vF(h:MB w0 w m)(d:Below (N (M w)) w W)(c:W.grownBy w' m.vb.ownBlock){x:Int}(j:w'.ownsRow (N (M w0)) 5 1 v' (H m.bl+1) ((m.bl.map fun x=>xb .u8 (48+x))++[O .u8 (48+x)])):MB w0 w' {m with vb:=v',bl:=m.bl++[x]}:=by
 have k:∀t,5≠t->KT w w' t:=fun t=>sY h.b d c
 exact⟨(k _ (by decide) _ _ h.mm).trans h.mm,(k _ (by decide) _ _ h.v).trans h.v,dL h.l (k _ (by decide)),fun i f=>(h.ll i f).kt (k _ (by decide)),dL h.a (k _ (by decide)),dL h.r (k _ (by decide)),fun g c=>(k _ (by decide) _ _ (h.rs g c)).trans (h.rs g c),h.nd,h.rv,dL h.t (k _ (by decide)),by simpa using j,h.av,h.ar,h.gb,dL h.p (k _ (by decide)),xD h.be h.b d c⟩
theorem MB.uU(h:MB w0 w m)(d:Below (N (M w)) w W)(c:W.grownBy w' m.vw.ownBlock)(j:w'.ownsRow (N (M w0)) 4 1 v' (m.nw+1) (PM (x6 m.nw G)++[.bool G])):MB w0 w' {m with vw:=v',nw:=m.nw+1}:=by
 have k:∀t,4≠t->KT w w' t:=fun t=>sY h.t d c
 exact⟨(k _ (by decide) _ _ h.mm).trans h.mm,(k _ (by decide) _ _ h.v).trans h.v,dL h.l (k _ (by decide)),fun i f=>(h.ll i f).kt (k _ (by decide)),dL h.a (k _ (by decide)),dL h.r (k _ (by decide)),fun g c=>(k _ (by decide) _ _ (h.rs g c)).trans (h.rs g c),h.nd,h.rv,by show w'.ownsRow (N (M w0)) _ 1 v' (m.nw+1) (PM (x6 (m.nw+1) G));rw[xe];simpa[PM]using j,dL h.b (k _ (by decide)),h.av,h.ar,h.gb,dL h.p (k _ (by decide)),xD h.be h.t d c⟩
theorem MB.wP(h:MB w0 w m)(u:Below (N (M w)) w W)(d:W.grownBy w' m.va.ownBlock){f z:Nat}(J:w'.ownsRow (N (M w0)) 3 1 (JQ f (m.na+1) z) (m.na+1) (PK (x6 m.na 0)++[O I 0]))(x:m.va.ownBlock=Y f\/f=N (M W)):MB w0 w' {m with va:=JQ f (m.na+1) z,na:=m.na+1}:=by
 have k:∀t,3≠t->KT w w' t:=fun t=>sY h.a u d
 have K:=u.size;have o:∀{j:Nat} {c:Array Value},w.heap[j]?=Y (E c 3 (0,0))->m.va.ownBlock≠Y j->w'.heap[j]?=Y (E c 3 (0,0))/\f≠j:=fun{j c} A D=>by
  have y:=(Array.getElem?_eq_some_iff.1 A).1;refine⟨by rw[d.block j (by omega) (Ne.symm D),u.block j y,A],fun e=>?_⟩
  rcases x with q|q
  ·exact D (by rw[q,e])
  ·omega
 refine⟨(k _ (by decide) _ _ h.mm).trans h.mm,(o h.v h.av).1,dL h.l (k _ (by decide)),fun i F=>(h.ll i F).kt (k _ (by decide)),?_,dL h.r (k _ (by decide)),fun g d=>(o (h.rs g d) (h.ar g d)).1,h.nd,h.rv,dL h.t (k _ (by decide)),dL h.b (k _ (by decide)),fun e=>(o h.v h.av).2 (by simpa[xg]using e),fun g d e=>(o (h.rs g d) (h.ar g d)).2 (by simpa[xg]using e),h.gb,dL h.p (k _ (by decide)),xD h.be h.a u d⟩;show w'.ownsRow (N (M w0)) _ 1 _ (m.na+1) (PK (x6 (m.na+1) 0));rw[xe];simpa[PK]using J
theorem MB.wI(h:MB w0 w m)(z:Below (N (M w)) w W)(D:N (M w)<=g)(f:W.heap[g]?=Y (E #[O I 0,O I 0,O I 0,O I 0] 3 (0,0)))(u:W.grownBy w' m.vr.ownBlock)(K:w'.ownsRow (N (M w0)) 31 1 v' (H m.gR+1) ((m.gR.map fun g=>JQ g 4 4)++[JQ g 4 4])):MB w0 w' {m with vr:=v',gR:=m.gR++[g]}:=by
 have T:=h.be.size;have k:∀t,31≠t->KT w w' t:=fun t=>sY h.r z u
 have lt:∀{j:Nat} {c:Array Value} {t:TypeId},w.heap[j]?=Y (E c t (0,0))->j<N (M w):=fun A=>(Array.getElem?_eq_some_iff.1 A).1
 have J:w'.heap[g]?=Y (E #[O I 0,O I 0,O I 0,O I 0] 3 (0,0)):=by
  rw[u.block g (Array.getElem?_eq_some_iff.1 f).1 fun e=>by have:=(h.r.lt g e.symm).2;omega,f]
 refine⟨(k _ (by decide) _ _ h.mm).trans h.mm,(k _ (by decide) _ _ h.v).trans h.v,dL h.l (k _ (by decide)),fun i F=>(h.ll i F).kt (k _ (by decide)),dL h.a (k _ (by decide)),by simpa using K,fun x d=>?_,?_,fun e=>?_,dL h.t (k _ (by decide)),dL h.b (k _ (by decide)),h.av,fun x d=>?_,⟨h.gb.1,h.gb.2.1,fun x d=>?_⟩,dL h.p (k _ (by decide)),xD h.be h.r z u⟩
 ·rcases List.mem_append.1 d with e|e
  ·exact(k _ (by decide) _ _ (h.rs x e)).trans (h.rs x e)
  ·rw[List.mem_singleton.1 e];exact J
 ·refine List.nodup_append.2 ⟨h.nd,by simp,fun x d y S e=>?_⟩;have:=lt (h.rs x d);rw[List.mem_singleton.1 S]at e;omega
 ·rcases List.mem_append.1 e with e|e
  ·exact h.rv e
  ·have:=lt h.v;have e:m.gv=g:=List.mem_singleton.1 e;omega
 ·rcases List.mem_append.1 d with e|e
  ·exact h.ar x e
  ·rw[List.mem_singleton.1 e];exact fun q=>by have:=(h.a.lt g q).2;omega
 ·rcases List.mem_append.1 d with e|e
  ·exact h.gb.2.2 x e
  ·rw[List.mem_singleton.1 e];omega
theorem MB.store(h:MB w0 w m)(i:Nat)(x:Value){m':Mb}(j:m'={m with xl:=m'.xl,xa:=m'.xa,xr:=m'.xr,xw:=m'.xw})(d:(#[m.xl,m.xa,m.xr,JQ m.gv 3 3,m.xw]:Array Value).setIfInBounds i x=#[m'.xl,m'.xa,m'.xr,JQ m.gv 3 3,m'.xw]):MB w0 (w.setCell ⟨m.gm,i,C⟩ x) m':=by
 have k:∀t,38≠t->KT w (w.setCell ⟨m.gm,i,C⟩ x) t:=fun t=>Uz h.mm
 rw[j];refine⟨?_,(k _ (by decide) _ _ h.v).trans h.v,dL h.l (k _ (by decide)),fun i f=>(h.ll i f).kt (k _ (by decide)),dL h.a (k _ (by decide)),dL h.r (k _ (by decide)),fun g c=>(k _ (by decide) _ _ (h.rs g c)).trans (h.rs g c),h.nd,h.rv,dL h.t (k _ (by decide)),dL h.b (k _ (by decide)),h.av,h.ar,h.gb,dL h.p (k _ (by decide)),h.be.setCell h.gb.1 _⟩;show(w.setCell ⟨m.gm,i,C⟩ x).heap[m.gm]?=Y (E #[m'.xl,m'.xa,m'.xr,JQ m.gv 3 3,m'.xw] _ _);rw[bC h.mm,d]
theorem MB.MF(h:MB w0 w m):L w ⟨m.gm,0,C⟩=Y m.xl/\L w ⟨m.gm,1,C⟩=Y m.xa/\L w ⟨m.gm,2,C⟩=Y m.xr/\L w ⟨m.gm,4,C⟩=Y m.xw/\(∀i,w.frozen? ⟨m.gm,i,C⟩=G)/\m.gm<N (M w):=by
 refine⟨?_,?_,?_,?_,fun i=>?_,(Array.getElem?_eq_some_iff.1 h.mm).1⟩<;>simp[World.cell?,World.frozen?,h.mm]
end
namespace P
theorem BJ(h:(cR s.toList).2=U):∃q:Nat,q<3/\∃a:s.size=1,s[0].toNat=120+q/\(cR s.toList).1=(q:Int):=by
 have a:s.size=1:=by
  rw[<- MS];unfold cR at h
  split at h
  ·rename_i e;rw[eq_of_beq e];rfl
  split at h
  ·rename_i e;rw[eq_of_beq e];rfl
  split at h
  ·rename_i e;rw[eq_of_beq e];rfl
  ·simp at h
 have e:=II s a;rw[e]at h⊢;unfold cR at h⊢
 split at h
 ·rename_i c;have c:s[0]=120:=by simpa using c
  exact⟨0,by decide,a,by rw[c];rfl,by rw[c];rfl⟩
 split at h
 ·rename_i c;have c:s[0]=121:=by simpa using c
  exact⟨1,by decide,a,by rw[c];rfl,by rw[c];rfl⟩
 split at h
 ·rename_i c;have c:s[0]=122:=by simpa using c
  exact⟨2,by decide,a,by rw[c];rfl,by rw[c];rfl⟩
 ·simp at h
end P
theorem rP{regs:List Int}(h:OW o):(if o.KI then regs.getD o.n.toNat 0 else o.n)=cJ regs o:=by
 unfold cJ;have h:0<=o.n/\o.n<4:=h;rw[if_neg (show ¬(o.n<0\/4<=o.n)by omega)]
theorem P.nB{w:List UInt8}(h:(aO w).2=U):OW (aO w).1:=by
 have KP:∀l,(aS l).2=U->OW ⟨U,(aS l).1⟩:=fun l h=>by
  match l,h with
  |[],h=>simp[aS]at h
  |[_],h=>simp[aS]at h
  |[c,e],h =>
   simp only[aS]at h⊢
   split at h
   ·rename_i f;rw[if_pos f];simp only[cH,x9,decide_eq_true_eq]at h;exact⟨by show(0:Int)<=(cH e 4).1;simp only[cH];omega,by show(cH e 4).1<4;simp only[cH];omega⟩
   ·simp at h
  |_::_::_::_,h=>simp[aS]at h
 match w,h with
 |[],h=>simp[aO,aS]at h
 |[c],h =>
  simp only[aO,cH,x9,decide_eq_true_eq]at h;exact⟨by show(0:Int)<=(cH c 4).1;simp only[cH];omega,by show(cH c 4).1<4;simp only[cH];omega⟩
 |[c,d],h=>exact KP _ h
 |a::b::c::d,h=>exact KP _ h
theorem BN{regs:List Int}(a:∀x∈regs,0<=x/\x<4)(h:OW o):0<=cJ regs o/\cJ regs o<4:=by
 have h:0<=o.n/\o.n<4:=h;unfold cJ
 split
 ·rw[if_neg (by omega)];exact AS regs a _
 ·exact h
theorem P.tN{w l:List UInt8}(h:(aO w).2=U)(a:3<=H l):(w==l)=G:=by
 rw[beq_eq_false_iff_ne];rintro rfl
 match w,h,a with
 |[],_,a=>simp at a
 |[_],_,a=>simp at a
 |[_,_],_,a=>simp at a
 |_::_::_::_,h,_=>simp[aO,aS]at h
structure WdAt(w:World)(v:Value)(ws:List ByteArray):Prop where
 is:∃g c,v=JQ g (H ws) c/\g<N (M w)/\∀i u,ws[i]?=Y u->L w ⟨g,i,C⟩=Y (.string u)
theorem MK.oC{K:Sk}{JT:List Bool}(h:MK w K rows ps regs vars JT)(b:q<3):
  L w ⟨K.gv,q,C⟩=Y (O I (vars.getD q 0))/\w.frozen? ⟨K.gv,q,C⟩=G/\K.gv<N (M w):=by
 have a:q<H vars:=by rw[h.nv];exact b
 refine⟨h.v.cell q _ ?_,h.v.free q (by simpa[OJ]using a),h.v.lt⟩;simp only[OJ,xc,x0,xW a];rfl
theorem MK.rJ{K:Sk}{JT:List Bool}(h:MK w K rows ps regs vars JT)(u:q<3)(x:Int):
  MK (w.setCell ⟨K.gv,q,C⟩ (O I x)) K rows ps regs (vars.set q x) JT:=by
 have b:∀k,k≠K.gv->(w.setCell ⟨K.gv,q,C⟩ (O I x)).heap[k]?=w.heap[k]?:=fun k c=>xd _ _ _ _ c
 have d:N (M w)<=(w.setCell ⟨K.gv,q,C⟩ (O I x)).heap.size:=by simp
 have o:=h.ok;refine⟨o,(b _ fun e=>o.m (xF (xR e))).trans h.m,h.nl,h.na,h.nr,by simpa using h.nv,h.nw,fun k c=>?_,by simpa using h.gl,h.a.of (b _ o.av) d,h.r.of (b _ fun e=>o.r (xF (xR e))) d,fun k c=>⟨(h.rs k c).1,(h.rs k c).2.of (b _ (o.ra k (by rw[<- h.nr];exact c)).2.1) d⟩,?_,h.t.of (b _ fun e=>o.vw e.symm) d⟩
 ·obtain⟨v,f,i⟩:=h.l k c;exact⟨v,(x8 (w:=w) (a:=⟨K.gl,k,C⟩) (b _ fun e=>o.l (xF (xR e)))).trans f,i.of (fun j _ p=>b j fun e=>p (xF (xR e))) d⟩
 ·have:=h.v.set q (by simpa[OJ]using(by rw[h.nv];exact u:q<H vars)) (O I x);have e:(OJ vars).set q (O I x)=OJ (vars.set q x):=by unfold OJ;rw[List.map_set]
  rw[e]at this;exact this
def OC(vars:List Int)(v:Int):Int:=if v<0 then 0 else vars.getD v.toNat 0
def fC(st:JR)(regs vars:List Int):Int×List Int :=
 if st.k==0 then(OC vars st.z,vars)
 else if st.k==2 then(OC vars st.z,vars.set st.z.toNat ((cJ regs st.a+OC vars st.z)%4))
 else if st.k==3 then(OC vars st.z,vars.set st.z.toNat (cJ regs st.a))
 else(tM regs st,vars)
theorem U0(K:Sk)(rows:List (List ByteArray))(ps:List Nat)(regs:List (List Int))(vars:List Int)(JT:List Bool)(t:Nat)(v:Value)(ws:List ByteArray)(st:JR)(w:World)(h:MK w K rows ps regs vars JT)(ht:t<K.n)(hn:K.n<1000)(hv:WdAt w v ws)(hf:mD (ws.map ByteArray.toList) st)(hk:st.k=0\/st.k=2\/st.k=3\/st.k=6\/st.k=7\/st.k=8\/st.k=9)(hr:∀x∈regs.getD t [],0<=x/\x<4)(am:∀x∈vars,0<=x/\x<4):
  Calls prog 23 #[.pointer (Y ⟨K.gm,0,C⟩),O I (t:Int),v] w fun e w'=>e=.returned (O I (fC st (regs.getD t []) vars).1)/\MK w' K rows ps regs (fC st (regs.getD t []) vars).2 JT/\XF K.W w w':=by
 obtain⟨gx,cx,rfl,y,m⟩:=hv.is;obtain⟨f0,f1,f2,f3,f4,f5⟩:=h.MF
 rcases hf with⟨p,u,r,o,s,e0,J,q2,q3,rfl⟩|⟨d,u,r,o,s,e0,q0,J,q3,rfl⟩|⟨d,p,u,r,o,s,e0,q0,J,q2,q3,rfl⟩|⟨d,p,u,r,o,s,e0,q0,J,q2,q3,rfl⟩|⟨r,o,s,e0,q3,rfl⟩|⟨e0,rfl⟩|⟨a,e0,J,rfl⟩|⟨e0,rfl⟩|⟨d,a,e0,q0,J,rfl⟩|⟨d,a,s,b,e0,q0,J,q2,q3,rfl⟩
 ·exact absurd hk (by simp)
 ·obtain⟨T,r1,rfl,ed,e1⟩:=List.map_eq_cons_iff.1 e0;obtain⟨X,r2,rfl,ex,e2⟩:=List.map_eq_cons_iff.1 e1;obtain⟨l,r3,rfl,ec,e3⟩:=List.map_eq_cons_iff.1 e2;obtain⟨j,r4,rfl,eu,e4⟩:=List.map_eq_cons_iff.1 e3;subst eu;have aa:=m 2 l Z;have ab:=m 3 j Z;obtain⟨q,hq,z1,z2,z3⟩:=BJ J;obtain⟨v1,v2,v3⟩:=h.oC hq;have ag:(2:Int)<((T::X::l::j::r4).length:Int):=by simp;omega
  have ah:(3:Int)<((T::X::l::j::r4).length:Int):=by simp;omega
  generalize(T::X::l::j::r4).length=ln at*;have hl:(l.toList==[108,111,97,100])=U:=by rw[ec];rfl
  have hw:IntKind.u8.wrap ((j[0].toNat:Int)-120)=(q:Int):=by rw[x7,z2];omega
  have aj:(q:Int)<3:=by omega
  have HA:fC {JR.zero with k:=0,dest:=(aS d).1,z:=(cR j.toList).1,q:=o,scope:=s} (regs.getD t []) vars=(vars.getD q 0,vars):=by
   unfold fC OC;simp[z3,show ¬(q:Int)<0 by omega]
  have HM:=JO h;rw[HA];generalize vars.getD q 0=xv at v1⊢;go_enter func23,ntmps23;go_upto_region 3 with fail
  go_quiet (fail);go_wp2;go_ret;exact⟨Z,HM.o.xf (dO _ _ _),XF.aX (dO _ _ _)⟩
 ·obtain⟨T,r1,rfl,ed,e1⟩:=List.map_eq_cons_iff.1 e0;obtain⟨X,r2,rfl,ex,e2⟩:=List.map_eq_cons_iff.1 e1;obtain⟨l,r3,rfl,ec,e3⟩:=List.map_eq_cons_iff.1 e2;obtain⟨V,r4,rfl,ep,e4⟩:=List.map_eq_cons_iff.1 e3;obtain⟨j,r5,rfl,eu,e5⟩:=List.map_eq_cons_iff.1 e4;subst eu ep;have aa:=m 2 l Z;have ab:=m 3 V Z;have ac:=m 4 j Z;obtain⟨q,hq,z1,z2,z3⟩:=BJ J;obtain⟨v1,v2,v3⟩:=h.oC hq;have ag:(2:Int)<((T::X::l::V::j::r5).length:Int):=by simp;omega
  have ah:(3:Int)<((T::X::l::V::j::r5).length:Int):=by simp;omega
  have ap:(4:Int)<((T::X::l::V::j::r5).length:Int):=by simp;omega
  generalize(T::X::l::V::j::r5).length=ln at*;have hl:(l.toList==[108,111,97,100])=G:=by rw[ec];rfl
  have af:(l.toList==[97,100,100])=U:=by rw[ec];rfl
  have hw:IntKind.u8.wrap ((V[0].toNat:Int)-120)=(q:Int):=by rw[x7,z2];omega
  have aj:(q:Int)<3:=by omega
  have ad:0<=vars.getD q 0/\vars.getD q 0<4:=by
   rw[x0,xW (by rw[h.nv];exact hq)];exact am _ (xh _)
  have ae:0<=cJ (regs.getD t []) (aO j.toList).1/\cJ (regs.getD t []) (aO j.toList).1<4:=BN hr (nB q2);have HA:fC {JR.zero with k:=2,dest:=(aS d).1,z:=(cR V.toList).1,a:=(aO j.toList).1,q:=o,scope:=s} (regs.getD t []) vars=(vars.getD q 0,vars.set q ((cJ (regs.getD t []) (aO j.toList).1+vars.getD q 0)%4)):=by
   unfold fC OC;simp[z3,show ¬(q:Int)<0 by omega]
  have HO:=JO fun(i:World) (F:Below (N (M w)) w i)=>rI K rows ps regs vars JT t j i (h.xf F) ht q2 hn;have HV:=JO (rP (regs:=regs.getD t []) (nB q2));rw[HA];have HS:=JO fun(i:World) (F:Below (N (M w)) w i) (x:Int)=>(h.xf F).rJ hq x;have HX:JP (∀x i,Below (N (M w)) w i->XF K.W w (i.setCell ⟨K.gv,q,C⟩ (O I x))):=fun x i F=>(XF.aX F).trans (XF.aR i K.gv q _) fun k _ e=>xF (xR e)
  generalize vars.getD q 0=xv at v1 ad⊢;generalize cJ (regs.getD t []) (aO j.toList).1=yv at ae HV⊢;obtain⟨av,aw⟩:=ad;obtain⟨ax,ay⟩:=ae;go_enter func23,ntmps23;go_wp2_with(first
   |(go_at_call 22;refine(HO.o _ (x2 _ _)).mono ?_;rintro e w1 ⟨rfl,f⟩;rw[HV.o];have an:=(f.cell v3).trans v1;have ao:=(f.frozen v3).trans v2;have m1:=(f.cell f5).trans f3;have x3:=(f.cell y).trans aa;have D:=JO f))
  go_ret;exact⟨by go_num,HS.o _ D.o _,HX.o _ _ D.o⟩
 ·obtain⟨T,r1,rfl,ed,e1⟩:=List.map_eq_cons_iff.1 e0;obtain⟨X,r2,rfl,ex,e2⟩:=List.map_eq_cons_iff.1 e1;obtain⟨l,r3,rfl,ec,e3⟩:=List.map_eq_cons_iff.1 e2;obtain⟨V,r4,rfl,ep,e4⟩:=List.map_eq_cons_iff.1 e3;obtain⟨j,r5,rfl,eu,e5⟩:=List.map_eq_cons_iff.1 e4;subst eu ep;have aa:=m 2 l Z;have ab:=m 3 V Z;have ac:=m 4 j Z;obtain⟨q,hq,z1,z2,z3⟩:=BJ J;obtain⟨v1,v2,v3⟩:=h.oC hq;have ag:(2:Int)<((T::X::l::V::j::r5).length:Int):=by simp;omega
  have ah:(3:Int)<((T::X::l::V::j::r5).length:Int):=by simp;omega
  have ap:(4:Int)<((T::X::l::V::j::r5).length:Int):=by simp;omega
  generalize(T::X::l::V::j::r5).length=ln at*;have hl:(l.toList==[108,111,97,100])=G:=by rw[ec];rfl
  have af:(l.toList==[97,100,100])=G:=by rw[ec];rfl
  have ai:(l.toList==[115,119,97,112])=U:=by rw[ec];rfl
  have hw:IntKind.u8.wrap ((V[0].toNat:Int)-120)=(q:Int):=by rw[x7,z2];omega
  have aj:(q:Int)<3:=by omega
  have ad:0<=vars.getD q 0/\vars.getD q 0<4:=by
   rw[x0,xW (by rw[h.nv];exact hq)];exact am _ (xh _)
  have ae:0<=cJ (regs.getD t []) (aO j.toList).1/\cJ (regs.getD t []) (aO j.toList).1<4:=BN hr (nB q2);have HA:fC {JR.zero with k:=3,dest:=(aS d).1,z:=(cR V.toList).1,a:=(aO j.toList).1,q:=o,scope:=s} (regs.getD t []) vars=(vars.getD q 0,vars.set q (cJ (regs.getD t []) (aO j.toList).1)):=by
   unfold fC OC;simp[z3,show ¬(q:Int)<0 by omega]
  have HO:=JO fun(i:World) (F:Below (N (M w)) w i)=>rI K rows ps regs vars JT t j i (h.xf F) ht q2 hn;have HV:=JO (rP (regs:=regs.getD t []) (nB q2));rw[HA];have HS:=JO fun(i:World) (F:Below (N (M w)) w i) (x:Int)=>(h.xf F).rJ hq x;have HX:JP (∀x i,Below (N (M w)) w i->XF K.W w (i.setCell ⟨K.gv,q,C⟩ (O I x))):=fun x i F=>(XF.aX F).trans (XF.aR i K.gv q _) fun k _ e=>xF (xR e)
  generalize vars.getD q 0=xv at v1 ad⊢;generalize cJ (regs.getD t []) (aO j.toList).1=yv at ae HV⊢;obtain⟨av,aw⟩:=ad;obtain⟨ax,ay⟩:=ae;go_enter func23,ntmps23;go_wp2_with(first
   |(go_at_call 22;refine(HO.o _ (x2 _ _)).mono ?_;rintro e w1 ⟨rfl,f⟩;rw[HV.o];have an:=(f.cell v3).trans v1;have ao:=(f.frozen v3).trans v2;have m1:=(f.cell f5).trans f3;have x3:=(f.cell y).trans aa;have D:=JO f))
  go_ret;exact⟨by go_num,HS.o _ D.o _,HX.o _ _ D.o⟩
 ·exact absurd hk (by simp)
 ·exact absurd hk (by simp)
 ·exact absurd hk (by simp)
 ·exact absurd hk (by simp)
 ·obtain⟨T,r1,rfl,ed,e1⟩:=List.map_eq_cons_iff.1 e0;obtain⟨X,r2,rfl,ex,e2⟩:=List.map_eq_cons_iff.1 e1;obtain⟨A,r3,rfl,ea,e3⟩:=List.map_eq_cons_iff.1 e2;have aq:r3=[]:=List.map_eq_nil_iff.1 e3;subst aq ea;have aa:=m 2 A Z;have hl:(A.toList==[108,111,97,100])=G:=tN J (by decide);have af:(A.toList==[97,100,100])=G:=tN J (by decide);have ai:(A.toList==[115,119,97,112])=G:=tN J (by decide);have HA:fC {JR.zero with k:=6,dest:=(aS d).1,a:=(aO A.toList).1} (regs.getD t []) vars=(cJ (regs.getD t []) (aO A.toList).1,vars):=by
   unfold fC tM;simp
  have HO:=JO fun(i:World) (F:Below (N (M w)) w i)=>rI K rows ps regs vars JT t A i (h.xf F) ht J hn;have HV:=JO (rP (regs:=regs.getD t []) (nB J));rw[HA];have HM:=JO h;generalize cJ (regs.getD t []) (aO A.toList).1=yv at HV⊢;go_enter func23,ntmps23;go_wp2_with(first
   |(go_at_call 22;refine(HO.o _ (x2 _ _)).mono ?_;rintro e w1 ⟨rfl,f⟩;rw[HV.o];have D:=JO f))
  go_ret;exact⟨Z,HM.o.xf D.o,XF.aX D.o⟩
 ·obtain⟨T,r1,rfl,ed,e1⟩:=List.map_eq_cons_iff.1 e0;obtain⟨X,r2,rfl,ex,e2⟩:=List.map_eq_cons_iff.1 e1;obtain⟨A,r3,rfl,ea,e3⟩:=List.map_eq_cons_iff.1 e2;obtain⟨s1,r4,rfl,es,e4⟩:=List.map_eq_cons_iff.1 e3;obtain⟨b1,r5,rfl,eb,e5⟩:=List.map_eq_cons_iff.1 e4;have ar:r5=[]:=List.map_eq_nil_iff.1 e5;subst ar ea eb;have aa:=m 2 A Z;have ab:=m 3 s1 Z;have ac:=m 4 b1 Z;have hl:(A.toList==[108,111,97,100])=G:=tN J (by decide);have af:(A.toList==[97,100,100])=G:=tN J (by decide);have ai:(A.toList==[115,119,97,112])=G:=tN J (by decide);have ha:=BN hr (nB J);have F:=BN hr (nB q2);have HO:=JO fun(i:World) (F:Below (N (M w)) w i)=>rI K rows ps regs vars JT t A i (h.xf F) ht J hn;have HP:=JO fun(i:World) (F:Below (N (M w)) w i)=>rI K rows ps regs vars JT t b1 i (h.xf F) ht q2 hn;have HV:=JO (rP (regs:=regs.getD t []) (nB J));have HW:=JO (rP (regs:=regs.getD t []) (nB q2));have HM:=JO h;have al:s=[43]/\(cX s).1=7\/s=[45]/\(cX s).1=8\/s=[61,61]/\(cX s).1=9:=by
   unfold cX at q3⊢
   split at q3
   ·rename_i c;exact xR ⟨eq_of_beq c,by rw[if_pos c]⟩
   split at q3
   ·rename_i l c;exact xF (xR ⟨eq_of_beq c,by rw[if_neg l,if_pos c]⟩)
   split at q3
   ·rename_i l c2 c;exact xF (xF ⟨eq_of_beq c,by rw[if_neg l,if_neg c2,if_pos c]⟩)
   ·simp at q3
  have HA:fC {JR.zero with k:=(cX s).1,dest:=(aS d).1,a:=(aO A.toList).1,b:=(aO b1.toList).1} (regs.getD t []) vars=(if(cX s).1==7 then(cJ (regs.getD t []) (aO A.toList).1+cJ (regs.getD t []) (aO b1.toList).1)%4 else if(cX s).1==8 then(cJ (regs.getD t []) (aO A.toList).1+4-cJ (regs.getD t []) (aO b1.toList).1)%4 else if cJ (regs.getD t []) (aO A.toList).1==cJ (regs.getD t []) (aO b1.toList).1 then 1 else 0,vars):=by
   unfold fC tM
   rcases al with⟨_,e⟩|⟨_,e⟩|⟨_,e⟩<;>rw[e]<;>simp
  rw[HA];generalize cJ (regs.getD t []) (aO A.toList).1=yv at ha HV⊢;generalize cJ (regs.getD t []) (aO b1.toList).1=zv at F HW⊢;obtain⟨az,aA⟩:=ha;obtain⟨aB,aC⟩:=F
  rcases al with⟨rfl,e⟩|⟨rfl,e⟩|⟨rfl,e⟩
  ·have ak:(s1.toList==[43])=U:=by rw[es];rfl
   go_enter func23,ntmps23;go_wp2_with(first
    |(go_at_call_of 22 (x4 b1);refine(HP.o _ D.o).mono ?_;rintro e i ⟨rfl,S⟩;rw[HW.o];have x3:=(S.cell l1).trans k3;have B2:=JO (D.o.trans (S.mono D.o.size)))
    |(go_at_call_of 22 (x4 A);refine(HO.o _ (x2 _ _)).mono ?_;rintro e w1 ⟨rfl,f⟩;rw[HV.o];have k3:=(f.cell y).trans ab;have k4:=(f.cell y).trans ac;have l1:=x5 y f.size;have D:=JO f))
   go_ret;exact⟨by go_num,HM.o.xf B2.o,XF.aX B2.o⟩
  ·have ak:(s1.toList==[43])=G:=by rw[es];rfl
   have au:(s1.toList==[45])=U:=by rw[es];rfl
   go_enter func23,ntmps23;go_wp2_with(first
    |(go_at_call_of 22 (x4 b1);refine(HP.o _ D.o).mono ?_;rintro e i ⟨rfl,S⟩;rw[HW.o];have x3:=(S.cell l1).trans k3;have B2:=JO (D.o.trans (S.mono D.o.size)))
    |(go_at_call_of 22 (x4 A);refine(HO.o _ (x2 _ _)).mono ?_;rintro e w1 ⟨rfl,f⟩;rw[HV.o];have k3:=(f.cell y).trans ab;have k4:=(f.cell y).trans ac;have l1:=x5 y f.size;have D:=JO f))
   go_ret;exact⟨by go_num,HM.o.xf B2.o,XF.aX B2.o⟩
  ·have ak:(s1.toList==[43])=G:=by rw[es];rfl
   have au:(s1.toList==[45])=G:=by rw[es];rfl
   cases hyz:yv==zv
   all_goals
    go_enter func23,ntmps23;go_wp2_with(first
     |(go_at_call_of 22 (x4 b1);refine(HP.o _ D.o).mono ?_;rintro e i ⟨rfl,S⟩;rw[HW.o];have x3:=(S.cell l1).trans k3;have B2:=JO (D.o.trans (S.mono D.o.size)))
     |(go_at_call_of 22 (x4 A);refine(HO.o _ (x2 _ _)).mono ?_;rintro e w1 ⟨rfl,f⟩;rw[HV.o];have k3:=(f.cell y).trans ab;have k4:=(f.cell y).trans ac;have l1:=x5 y f.size;have D:=JO f))
    go_ret;exact⟨by go_num,HM.o.xf B2.o,XF.aX B2.o⟩
end Go.Proofs.YtlikcongbhhpfaaGreatDoor
