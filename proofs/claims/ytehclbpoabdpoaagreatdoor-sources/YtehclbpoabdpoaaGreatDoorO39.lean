import Derived.Test.YtehclbpoabdpoaaGreatDoorO11
import Derived.Test.YtehclbpoabdpoaaGreatDoorO33
import Derived.Test.YtehclbpoabdpoaaGreatDoorO21
set_option linter.all false
set_option maxHeartbeats 0
namespace Go.Proofs.YtehclbpoabdpoaaGreatDoor
open Go Go.RowKit Go.Proofs.Tryz P Q R
open scoped Classical
set_option maxRecDepth 1000000
variable {s s':St}{i:Int}{w w' w1:World}{B cap k n sz:Nat}{e:TypeId}{bv ov tv u u' v:Value}{ovs tvs vs xs ys:List Value}{b l:List Tree}{F G:List Nat}{ls:List (List Tree)}{ts:List R.Th}{f:R.Fr}{r:List ByteArray}
open List renaming length->L
open _root_.Array renaming size->D
open Go.World renaming heap->X
open Option renaming some->Y,none->N
open Go.Value renaming slice->I,int->E
open Go.IntKind renaming i64->U
open _root_.ByteArray renaming toList->xF
open List renaming length_append->xR,append_assoc->x1,map_cons->x2,map_nil->x3,length_cons->x4,map_append->x6,length_nil->x7,cons_append->x9,dropLast_concat->xa,append_inj'->xb,mem_append_left->xc,mem_append_right->xd,getElem?_append_left->xe,append_nil->xh,set_append_right->xj
open Go.RowKit.Below renaming heap_setCell->xW
open Go.Obj renaming cells->x5
open Nat renaming zero_add->x8
open Go.World renaming ownsRow_nil->xg
open Go.Value renaming ownBlock->xi
namespace R
def RH:List Fr->Int
 |[]=>0
 |f::r=>1+OA f.l+RH r
def RN:List Th->Int
 |[]=>0
 |[t]=>OA t.body
 |_::u::r=>RN (u::r)
def FI(ts:List Th)(t:Th):RN (ts++[t])=OA t.body:=by
 induction ts with
 |nil=>rfl
 |cons a r ih=>cases r with
  |nil=>rfl
  |cons b q=>simpa[RN]using ih
def AK(fs:List Fr)(f:Fr):RH (fs++[f])=RH fs+(1+OA f.l):=by
 induction fs with
 |nil=>simp[RH]
 |cons a r ih=>simp only[x9,RH,ih];omega
def yZ(l:List Tree):0<=OA l:=(gK (fun _=>true) l).1
def KC(fs:List Fr):0<=RH fs:=by
 induction fs with
 |nil=>simp[RH]
 |cons f r ih=>have:=yZ f.l;simp only[RH];omega
def GQ:∀ts:List Th,0<=RN ts
 |[]=>by simp[RN]
 |[t]=>by simpa[RN]using yZ t.body
 |_::u::r=>by simpa[RN]using GQ (u::r)
def AV(l:List Tree)(x:Lh)(b:List Tree):OA (l++[.mk x b])=OA l+(1+OA b):=by
 unfold OA;rw[LB];simp[iY,jA,iM]
structure SzS(s:St):Prop where
 all:∀t∈s.ts,OA t.body<=8
 sum:RN s.ts+RH s.O<=s.count
 NA:s.count<=8
 nth:L s.ts<=4
 nop:L s.O<=2
 blk:∀t∈s.ts,t.block=0\/t.block=1
def SzS.zero:SzS St.zero:=⟨by simp[St.zero],by simp[St.zero,RN,RH],by simp[St.zero],by simp[St.zero],by simp[St.zero],by simp[St.zero]⟩
def Bi(s:St)(x:Lh)(b:List Tree)(o:s.ts≠[])(g:∀t∈s.ts,OA t.body<=8)(p:RN s.ts+RH s.O+(1+OA b)<=s.count)(q:s.count<=8)(j:L s.ts<=4)(m:L s.O<=2)(c:∀t∈s.ts,t.block=0\/t.block=1):SzS (put s (.mk x b)):=by
 obtain⟨z,t,e⟩:=nC s.ts o;have A:=yZ b;have C:=KC s.O;unfold put
 cases hop:s.O.isEmpty
 ·obtain⟨fs,f,d⟩:=nC s.O (by intro h;simp[h]at hop);simp only[Bool.false_eq_true,if_false];rw[d,wU];rw[d,AK]at p;refine⟨g,?_,q,j,?_,c⟩
  ·show RN s.ts+RH (fs++[_])<=s.count;rw[AK,AV];omega
  ·rw[d]at m;simpa using m
 ·simp only[if_true];rw[e,xC];rw[e,FI]at p;rw[e]at g j c;have y:OA (t.body++[.mk x b])<=8:=by rw[AV];omega
  refine⟨fun u a=>?_,?_,q,by simpa using j,m,fun u a=>?_⟩
  ·simp at a
   rcases a with a|rfl
   ·exact g u (by simp[a])
   ·exact y
  ·show RN (z++[_])+RH s.O<=s.count;rw[FI,AV];omega
  ·simp at a
   rcases a with a|rfl
   ·exact c u (by simp[a])
   ·exact c t (by simp)
def Sz(v:List UInt8):-1<=inn v bl/\inn v bl<2:=by
 rw[AF];(repeat' split)<;>omega
def JA{c:ByteArray}{w:List ByteArray}(hs:SzS s)(h:step s i c w=Y s'):SzS s':=by
 unfold step at h
 split at h
 ·unfold eG at h
  split at h
  ·rename_i d
   split at h
   ·rename_i m;simp at h m;rw[<- h];have z:=Sz d.toList;refine⟨fun t j=>?_,?_,by simp,?_,hs.nop,fun t j=>?_⟩
    ·simp at j
     rcases j with j|rfl
     ·exact hs.all t j
     ·simp[OA,iY,jA]
    ·show RN (s.ts++[_])+RH s.O<=0;rw[FI,m.1.2];simp[OA,iY,jA,RH]
    ·have:=hs.nth;simp;omega
    ·simp at j
     rcases j with j|rfl
     ·exact hs.blk t j
     ·have:=m.1.1;simp only[];omega
   ·simp at h
  ·simp at h
 ·split at h
  ·simp at h
  ·rename_i q;have p:s.ts≠[]:=by intro e;simp[e]at q
   split at h
   ·unfold fC at h
    split at h
    ·simp at h
    ·rename_i f o
     split at h
     ·simp at h;rw[<- h];obtain⟨fs,g,e⟩:=nC s.O (by intro e;rw[e]at o;simp at o);rw[e]at o;simp at o;subst o;have y:=hs.sum;have x:=hs.nop;rw[e,AK]at y;rw[e]at x;refine Bi _ _ _ p hs.all ?_ hs.NA hs.nth ?_ hs.blk
      ·simp only[e,xa];omega
      ·simp only[e,xa];simp at x;omega
     ·simp at h
   ·split at h
    ·unfold branch at h
     split at h
     ·rename_i a
      split at h
      ·rename_i m;simp at h m;rw[<- h];refine⟨hs.all,?_,?_,hs.nth,?_,hs.blk⟩
       ·show RN s.ts+RH (s.O++[_])<=s.count+1;have:=hs.sum;rw[AK];simp[OA,iY,jA];omega
       ·show s.count+1<=8;omega
       ·simp;omega
      ·simp at h
     ·simp at h
    ·unfold bW at h
     split at h
     ·rename_i m;simp only[Bool.and_eq_true,decide_eq_true_eq]at m;simp at h;rw[<- h];have:=hs.sum;refine Bi _ _ _ p hs.all ?_ ?_ hs.nth hs.nop hs.blk
      ·simp[OA,iY,jA];omega
      ·simp only[];omega
     ·simp at h
end R
def uT:Code->Option Code
 |.loop c=>Y c
 |.scope c=>uT c
 |.block _ c=>uT c
 |.seq a b=>(uT a).orElse fun _=>uT b
 |.cond _ a b=>(uT a).orElse fun _=>uT b
 |_=>N
def bN(fn:Func):Code:=(fn.body.bind uT).getD .skip
def S9(h:w.ownsRow B e sz v n xs)(k:w.ownsRow B e sz v n ys):xs=ys:=by
 rcases h.2 with⟨e1,p⟩|⟨g,c,o,e1,_,q,_,_,_,t⟩
 ·have a:=h.1;have b:=k.1;rw[p]at a b;simp at a b;rw[a,b]
 ·rcases k.2 with⟨e2,_⟩|⟨y,x,m,e2,_,d,_,_,_,j⟩
  ·rw[e1]at e2;simp at e2
  ·rw[e1]at e2;simp at e2;obtain⟨rfl,rfl⟩:=e2;rw[q]at d;simp at d;rw[<- t,<- j,d]
def Ta(h:w.ownsRow B e sz (MU k (n+1) cap) (n+1) (xs++ys))(p:L xs=n*sz):w.ownsRow B e sz (MU k n cap) n xs:=by
 rcases h.2 with⟨d,_⟩|⟨y,o,a,d,q,t,x,j,m,c⟩
 ·simp at d
 ·simp only[Value.slice.injEq,Option.some.injEq,Addr.mk.injEq,and_true,true_and]at d;obtain⟨rfl,rfl⟩:=d;refine⟨p,.inr ⟨k,cap,a,Z,q,t,by omega,j,m,?_⟩⟩;have e:a.toList.take (n*sz)=(a.toList.take ((n+1)*sz)).take (n*sz):=by
   rw[List.take_take];congr 1;rw[Nat.add_mul];omega
  rw[e,c,<- p];simp
def NZ.gO(h:NZ w B v l F):∀k∈F,∃cur,w.heap[k]?=Y (.cells cur 52 (0,0)):=by
 induction h using NZ.ind with
 | @row v l vs Fs ho hv hF hc hn ih =>
  intro k a;simp only[List.mem_append,List.mem_flatten,Option.mem_toList]at a
  rcases a with a|⟨F,c,a⟩
  ·exact gQ ho a
  ·obtain⟨i,j,e⟩:=List.mem_iff_getElem.1 c;have d:i<L l:=by omega
   have g:i<L vs:=by omega
   exact ih i l[i] vs[i] F (by simp[d]) (by simp[g]) (by simp[j,e]) k a
def NZ.uO(h:NZ w B v l F):∃xs,w.ownsRow B 52 9 v (L l) xs:=by
 cases h using NZ.cs with
 |row ho _ _ _ _=>exact⟨_,ho⟩
def OV(w:World)(B:Nat)(vs:List Value)(ls:List (List Tree))(G:List Nat):Prop :=
 ∀M:List Value->List (List Tree)->List Nat->Prop,M [] [] []->(∀(vs:List Value) (ls:List (List Tree)) (G:List Nat) (u:Value) (l:List Tree) (F:List Nat),M vs ls G->NZ w B u l F->(∀k∈F,k∉G)->M (vs++[u]) (ls++[l]) (G++F))->M vs ls G
def OV.nil:OV w B [] [] []:=fun _ a _=>a
def OV.aY(h:OV w B vs ls G)(g:NZ w B u l F)(d:∀k∈F,k∉G):OV w B (vs++[u]) (ls++[l]) (G++F):=
 fun M c a=>a _ _ _ _ _ _ (h M c a) g d
def OV.ind{w:World}{B:Nat}{a:∀(vs:List Value) (ls:List (List Tree)) (G:List Nat),OV w B vs ls G->Prop}(nil:a [] [] [] OV.nil)(aY:∀{vs:List Value} {ls:List (List Tree)} {G:List Nat} {u:Value} {l:List Tree} {F:List Nat} (h:OV w B vs ls G) (g:NZ w B u l F) (d:∀k∈F,k∉G),a vs ls G h->a (vs++[u]) (ls++[l]) (G++F) (OV.aY h g d)){vs:List Value}{ls:List (List Tree)}{G:List Nat}(h:OV w B vs ls G):a vs ls G h :=
 (h (fun vs ls G=>∃h:OV w B vs ls G,a vs ls G h) ⟨_,nil⟩ fun _ _ _ _ _ _ ⟨h,c⟩ g d=>⟨OV.aY h g d,aY h g d c⟩).2
def OV.cs{w:World}{B:Nat}{a:∀(vs:List Value) (ls:List (List Tree)) (G:List Nat),OV w B vs ls G->Prop}(nil:a [] [] [] OV.nil)(aY:∀{vs:List Value} {ls:List (List Tree)} {G:List Nat} {u:Value} {l:List Tree} {F:List Nat} (h:OV w B vs ls G) (g:NZ w B u l F) (d:∀k∈F,k∉G),a (vs++[u]) (ls++[l]) (G++F) (OV.aY h g d)){vs:List Value}{ls:List (List Tree)}{G:List Nat}(h:OV w B vs ls G):a vs ls G h:=OV.ind nil (fun h g d _=>aY h g d) h
def OV.len(h:OV w B vs ls G):L vs=L ls:=by
 induction h using OV.ind with
 |nil=>rfl
 |aY _ _ _ ih=>simp[ih]
def OV.last(h:OV w B (vs++[u]) (ls++[l]) G):∃Ga F,G=Ga++F/\OV w B vs ls Ga/\NZ w B u l F/\∀k∈F,k∉Ga:=by
 generalize g:vs++[u]=o at h;generalize j:ls++[l]=m at h
 cases h using OV.cs with
 |nil=>simp at g
 |aY h1 h2 h3 =>
  obtain⟨a,b⟩:=xb g Z;obtain⟨c,d⟩:=xb j Z;simp at b d;subst a b c d;exact⟨_,_,Z,h1,h2,h3⟩
def OV.keep(h:OV w B vs ls G)(d:∀k∈G,w'.heap[k]?=w.heap[k]?):OV w' B vs ls G:=by
 induction h using OV.ind with
 |nil=>exact .nil
 |aY h1 h2 h3 ih=>exact .aY (ih fun k c=>d k (xc _ c)) (h2.keep fun k a=>d k (xd _ a)) h3
def OV.gO(h:OV w B vs ls G):∀k∈G,∃cur,w.heap[k]?=Y (.cells cur 52 (0,0)):=by
 induction h using OV.ind with
 |nil=>simp
 |aY h1 h2 h3 ih =>
  intro k a
  rcases List.mem_append.1 a with a|a
  ·exact ih k a
  ·exact h2.gO k a
def OV.lt(h:OV w B vs ls G):∀k∈G,k<D (X w):=fun k d=>by
 obtain⟨c,a⟩:=h.gO k d;exact(Array.getElem?_eq_some_iff.1 a).1
def OV.all(h:OV w B vs ls G):∃g:List (List Nat),L g=L ls/\∀(i:Nat) (l:List Tree) (u:Value) (F:List Nat),ls[i]?=Y l->vs[i]?=Y u->g[i]?=Y F->NZ w B u l F:=by
 induction h using OV.ind with
 |nil=>exact⟨[],Z,by simp⟩
 | @aY vs ls G u l F h1 h2 h3 ih =>
  obtain⟨g,e,o⟩:=ih;have p:=h1.len;refine⟨g++[F],by simp[e],fun i q u' m a d c=>?_⟩;by_cases hi:i<L ls
  ·rw[xe hi]at a;rw[xe (by omega)]at d c;exact o i q u' m a d c
  ·have j:i=L ls:=by
    have:=(List.getElem?_eq_some_iff.1 a).1;simp at this;omega
   subst j;rw[List.getElem?_append_right (by omega)]at a d c;simp at a;simp[p]at d;simp[e]at c;subst a d c;exact h2
def OV.put{x:Lh}(h:OV w B (vs++[u]) (ls++[l]) G)(S:NZ w B bv b F)(V:∀k∈F,k∉G)(hx:w.ownsRow B 52 9 u (L l) xs)(ho:w'.ownsRow B 52 9 u' (L l+1) (xs++(cI x bv).toList))(hk:∀k,k<D (X w)->Y k≠u.ownBlock->(∃cur,w.heap[k]?=Y (.cells cur 52 (0,0)))->w'.heap[k]?=w.heap[k]?)(m:u'.ownBlock=u.ownBlock\/∀k,u'.ownBlock=Y k->D (X w)<=k):
  ∃G',OV w' B (vs++[u']) (ls++[l++[.mk x b]]) G':=by
 obtain⟨M,H,rfl,t,y,O⟩:=h.last;have p:∀k,k∈M\/k∈H\/k∈F->Y k≠u.ownBlock->w'.heap[k]?=w.heap[k]?:=fun k d g=>by
  have ht:∃cur,w.heap[k]?=Y (.cells cur 52 (0,0)):=by
   rcases d with d|d|d
   ·exact t.gO k d
   ·exact y.gO k d
   ·exact S.gO k d
  obtain⟨c,T⟩:=ht;exact hk k (Array.getElem?_eq_some_iff.1 T).1 g ⟨c,T⟩
 obtain⟨F',z,q⟩:=NZ.aY (x:=x) y S (fun k C W=>V k W (xd _ C)) (fun vs K=>by rw[S9 K hx];exact ho) (fun k d g=>p k (Or.inr d) g) m;have o:∀k∈M,Y k≠u.ownBlock:=fun k a e=>O k (y.own k e.symm) a
 refine⟨_,.aY (t.keep fun k a=>p k (Or.inl a) (o k a)) z fun k J a=>?_⟩
 rcases q k J with j|j|j
 ·exact O k j a
 ·exact V k j (xc _ a)
 ·rcases m with A|A
  ·exact o k a (by rw[<- A,j])
  ·have:=A k j;have:=t.lt k a;omega
def rS(a:Int)(v:Value):List Value:=v::(cI (fI a) (I N 0 0)).toList
def RC:List R.Fr->List Value->List Value
 |f::l,v::vs=>rS f.a v++RC l vs
 |_,_=>[]
def uR(l:List R.Fr):∀(vs:List Value),L vs=L l->(RC l vs).length=L l*10:=by
 induction l with
 |nil=>intro vs _;simp[RC]
 |cons t l ih =>
  intro vs h
  cases vs with
  |nil=>simp at h
  |cons v vs =>
   have:=ih vs (by simpa using h);simp only[RC,xR,this,x4];simp[rS,cI];omega
def AQ(l m:List R.Fr):∀(vs a:List Value),L vs=L l->RC (l++m) (vs++a)=RC l vs++RC m a:=by
 induction l with
 |nil =>
  intro vs a h;have:vs=[]:=List.length_eq_zero_iff.1 h;subst this;simp[RC]
 |cons t l ih =>
  intro vs a h
  cases vs with
  |nil=>simp at h
  |cons v vs=>simp only[x9,RC,ih vs a (by simpa using h),x1]
structure RdM(w:World)(B:Nat)(tv ov:Value)(ts:List R.Th)(fs:List R.Fr)(tvs ovs:List Value)(G:List Nat):Prop where
 th:w.ownsRow B 50 3 tv (L ts) (QO ts tvs)
 fr:w.ownsRow B 54 10 ov (L fs) (RC fs ovs)
 lt:L tvs=L ts
 lo:L ovs=L fs
 kids:OV w B (tvs++ovs) (ts.map R.Th.body++fs.map R.Fr.l) G
def RdM.zero(w:World)(B:Nat):RdM w B (I N 0 0) (I N 0 0) [] [] [] [] []:=
 ⟨xg _ _ _ _,xg _ _ _ _,Z,Z,.nil⟩
def RdM.keep{fs:List R.Fr}(h:RdM w B tv ov ts fs tvs ovs G)(a:∀k,k<D (X w)->w'.heap[k]?=w.heap[k]?):RdM w' B tv ov ts fs tvs ovs G :=
 ⟨bE h.th fun k e=>a k (h.th.lt k e).2,bE h.fr fun k e=>a k (h.fr.lt k e).2,h.lt,h.lo,h.kids.keep fun k c=>a k (h.kids.lt k c)⟩
def tC{W0:World}(h:w.ownsRow B e sz v n xs)(o:∀k,k<D (X w)->W0.heap[k]?=w.heap[k]?)(p:D (X w)<=D (X W0))(a:W0.grownBy w1 v.ownBlock){c:Array Value}{j:TypeId}(m:w.heap[k]?=Y (.cells c j (0,0)))(g:e≠j):w1.heap[k]?=w.heap[k]?:=by
 have d:=(Array.getElem?_eq_some_iff.1 m).1;rw[a.block k (by omega) (Ne.symm (pE h m g)),o k d]
def RdM.j{W0:World}{j:Value}{b row:Int}(h:RdM w B tv ov ts [] tvs ovs G)(p:∀k,k<D (X w)->W0.heap[k]?=w.heap[k]?)(g:D (X w)<=D (X W0))(d:w1.ownsRow B 50 3 j (L ts+1) (QO ts tvs++[E U b,I N 0 0,E U row]))(a:W0.grownBy w1 tv.ownBlock):
  RdM w1 B j ov (ts++[⟨b,[],row⟩]) [] (tvs++[I N 0 0]) ovs G:=by
 have x:ovs=[]:=List.length_eq_zero_iff.1 h.lo;subst x;refine⟨?_,?_,by simp[h.lt],Z,?_⟩
 ·rw[LA _ _ _ _ h.lt,xR];simpa[QO]using d
 ·refine bE h.fr fun k e=>?_;obtain⟨c,m⟩:=gQ h.fr e;exact tC h.th p g a m (by decide)
 ·have q:=h.kids.keep (w':=w1) fun k o=>by
   obtain⟨c,m⟩:=h.kids.gO k o;exact tC h.th p g a m (by decide)
  have t:=OV.aY q (NZ.nil w1 B) (by simp);simpa using t
def RdM.branch{W0:World}{m:Value}{fs:List R.Fr}{a:Int}(h:RdM w B tv ov ts fs tvs ovs G)(q:∀k,k<D (X w)->W0.heap[k]?=w.heap[k]?)(j:D (X w)<=D (X W0))(g:w1.ownsRow B 54 10 m (L fs+1) (RC fs ovs++rS a (I N 0 0)))(d:W0.grownBy w1 ov.ownBlock):
  RdM w1 B tv m ts (fs++[⟨[],a⟩]) tvs (ovs++[I N 0 0]) G:=by
 refine⟨?_,?_,h.lt,by simp[h.lo],?_⟩
 ·refine bE h.th fun k e=>?_;obtain⟨c,o⟩:=gQ h.th e;exact tC h.fr q j d o (by decide)
 ·rw[AQ _ _ _ _ h.lo,xR];simpa[RC]using g
 ·have t:=h.kids.keep (w':=w1) fun k p=>by
   obtain⟨c,o⟩:=h.kids.gO k p;exact tC h.fr q j d o (by decide)
  have x:=OV.aY t (NZ.nil w1 B) (by simp);simpa using x
def RdM.IX{bo:Nat}{fs:List R.Fr}(h:RdM w B tv (MU bo (n+1) cap) ts (fs++[f]) tvs (ovs++[u]) G)(p:n=L fs):
  ∃c F,RdM w B tv (MU bo n cap) ts fs tvs ovs c/\NZ w B u f.l F/\∀k∈F,k∉c:=by
 subst p;have a:L ovs=L fs:=by simpa using h.lo
 have g:=h.kids;rw[x6,<- x1,<- x1]at g;obtain⟨c,F,_,j,m,o⟩:=OV.last g;refine⟨c,F,⟨h.th,?_,h.lt,a,j⟩,m,o⟩;have d:=h.fr;rw[AQ _ _ _ _ a]at d;simp only[xR,x4,x7,x8]at d;exact Ta d (uR _ _ a)
def RdM.FF{W0:World}{o:Nat}{a:List R.Th}{t:R.Th}{j:List Value}{x:Lh}(h:RdM w B (MU o (n+1) cap) ov (a++[t]) [] (j++[u]) ovs G)(hn:n=L a)(hb:NZ w B bv b F)(hd:∀k∈F,k∉G)(S:∀k,k<D (X w)->W0.heap[k]?=w.heap[k]?)(K:D (X w)<=D (X W0))(W:w.ownsRow B 52 9 u (L t.body) xs)(ho:w1.ownsRow B 52 9 u' (L t.body+1) (xs++(cI x bv).toList))(d:W0.grownBy w1 u.ownBlock)(O:u'.ownBlock=u.ownBlock\/∀k,u'.ownBlock=Y k->D (X w)<=k):
  ∃M,RdM (w1.setCell ⟨o,n*3+1,N⟩ u') B (MU o (n+1) cap) ov (a++[{t with body:=t.body++[.mk x b]}]) [] (j++[u']) ovs M:=by
 subst hn;have V:ovs=[]:=List.length_eq_zero_iff.1 h.lo;subst V;have p:L j=L a:=by simpa using h.lt
 have A:=h.th;simp only[xR,x4,x7,x8]at A;obtain⟨aa,g⟩:=gQ A (k:=o) Z;have y:w1.heap[o]?=w.heap[o]?:=tC W S K d g (by decide);have bR:∀k c e,w.heap[k]?=Y (x5 c e (0,0))->e≠50->e≠52->(w1.setCell ⟨o,L a*3+1,N⟩ u').heap[k]?=w.heap[k]?:=fun k c e m C z=>by
  rw[xW _ _ _ _ fun q=>by simp at q;subst q;rw[g]at m;simp at m;exact C m.2.symm];exact tC W S K d m (Ne.symm z)
 have line:∀k,(∃c,w.heap[k]?=Y (x5 c 52 (0,0)))->(w1.setCell ⟨o,L a*3+1,N⟩ u').heap[k]?=w1.heap[k]?:=fun k ⟨c,m⟩ =>
  xW _ _ _ _ fun q=>by simp at q;subst q;rw[g]at m;simp at m
 have T:(w1.setCell ⟨o,L a*3+1,N⟩ u').ownsRow B 52 9 u' (L t.body+1) (xs++(cI x bv).toList):=bE ho fun k e=>xW _ _ _ _ fun q=>by
  simp at q;subst q;obtain⟨c,m⟩:=gQ ho e;rw[y,g]at m;simp at m
 have J:=h.kids;simp only[xh,x6,x2,x3]at J;obtain⟨M,hG⟩:=OV.put (w':=w1.setCell ⟨o,L a*3+1,N⟩ u') (x:=x) J hb hd W T fun k C z h3=>by rw[line k h3,d.block k (by omega) z,S k C] O;refine⟨M,?_,?_,by simp[p],Z,by simpa using hG⟩
 ·have C:w1.ownsRow B 50 3 (MU o (L a+1) cap) (L a+1) (QO (a++[t]) (j++[u])):=bE A fun k H=>by
   simp[xi]at H;subst H;exact y
  have z:=(C.stored (L a*3+1) u').1;rw[LA _ _ _ _ p]at z⊢;have e2:(QO a j++QO [t] [u]).set (L a*3+1) u'=QO a j++QO [{t with body:=t.body++[.mk x b]}] [u']:=by
   rw[xj _ _ (by rw[EN _ _ p];omega),EN _ _ p,show L a*3+1-L a*3=1 by omega];rfl
  rw[e2]at z;simpa using z
 ·refine bE h.fr fun k e=>?_;obtain⟨c,m⟩:=gQ h.fr e;exact bR k c _ m (by decide) (by decide)
def RdM.JE{W0:World}{bo:Nat}{fs:List R.Fr}{x:Lh}(h:RdM w B tv (MU bo (n+1) cap) ts (fs++[f]) tvs (ovs++[u]) G)(hn:n=L fs)(W:NZ w B bv b F)(hd:∀k∈F,k∉G)(J:∀k,k<D (X w)->W0.heap[k]?=w.heap[k]?)(A:D (X w)<=D (X W0))(M:w.ownsRow B 52 9 u (L f.l) xs)(O:w1.ownsRow B 52 9 u' (L f.l+1) (xs++(cI x bv).toList))(a:W0.grownBy w1 u.ownBlock)(H:u'.ownBlock=u.ownBlock\/∀k,u'.ownBlock=Y k->D (X w)<=k):
  ∃C,RdM (w1.setCell ⟨bo,n*10,N⟩ u') B tv (MU bo (n+1) cap) ts (fs++[{f with l:=f.l++[.mk x b]}]) tvs (ovs++[u']) C:=by
 subst hn;have j:L ovs=L fs:=by simpa using h.lo
 have t:=h.fr;simp only[xR,x4,x7,x8]at t;obtain⟨S,d⟩:=gQ t (k:=bo) Z;have o:w1.heap[bo]?=w.heap[bo]?:=tC M J A a d (by decide);have bR:∀k c e,w.heap[k]?=Y (x5 c e (0,0))->e≠54->e≠52->(w1.setCell ⟨bo,L fs*10,N⟩ u').heap[k]?=w.heap[k]?:=fun k c e g y p=>by
  rw[xW _ _ _ _ fun m=>by simp at m;subst m;rw[d]at g;simp at g;exact y g.2.symm];exact tC M J A a g (Ne.symm p)
 have line:∀k,(∃c,w.heap[k]?=Y (x5 c 52 (0,0)))->(w1.setCell ⟨bo,L fs*10,N⟩ u').heap[k]?=w1.heap[k]?:=fun k ⟨c,g⟩ =>
  xW _ _ _ _ fun m=>by simp at m;subst m;rw[d]at g;simp at g
 have K:(w1.setCell ⟨bo,L fs*10,N⟩ u').ownsRow B 52 9 u' (L f.l+1) (xs++(cI x bv).toList):=bE O fun k e=>xW _ _ _ _ fun m=>by
  simp at m;subst m;obtain⟨c,g⟩:=gQ O e;rw[o,d]at g;simp at g
 have q:=h.kids;rw[x6,<- x1,<- x1]at q;simp only[x2,x3]at q;obtain⟨C,V⟩:=OV.put (w':=w1.setCell ⟨bo,L fs*10,N⟩ u') (x:=x) q W hd M K fun k y p T=>by rw[line k T,a.block k (by omega) p,J k y] H;refine⟨C,?_,?_,h.lt,by simp[j],by simpa using V⟩
 ·refine bE h.th fun k e=>?_;obtain⟨c,g⟩:=gQ h.th e;exact bR k c _ g (by decide) (by decide)
 ·have y:w1.ownsRow B 54 10 (MU bo (L fs+1) cap) (L fs+1) (RC (fs++[f]) (ovs++[u])):=bE t fun k z=>by
   simp[xi]at z;subst z;exact o
  have p:=(y.stored (L fs*10) u').1;rw[AQ _ _ _ _ j]at p⊢;have e2:(RC fs ovs++RC [f] [u]).set (L fs*10) u'=RC fs ovs++RC [{f with l:=f.l++[.mk x b]}] [u']:=by
   rw[xj _ _ (by rw[uR _ _ j];omega),uR _ _ j,show L fs*10-L fs*10=0 by omega];rfl
  rw[e2]at p;simpa using p
def RdM.done(h:RdM w B tv ov ts [] tvs ovs G):∃a,ThsAt w B tv ts tvs a:=by
 have c:ovs=[]:=List.length_eq_zero_iff.1 h.lo;subst c;have d:=h.kids;simp only[xh,x3]at d;obtain⟨a,m,g⟩:=d.all;refine⟨a,h.th,h.lt,by simpa using m,fun i t u F o p j=>g i t.body u F ?_ p j⟩;rw[List.getElem?_map,o];rfl
def Bj:dR (bN f10)=[aO (bN f10) 0,aO (bN f10) 1,aO (bN f10) 2,aO (bN f10) 3]:=by kernel_rfl
def Tb:aO (bN f10) 2=Code.block 1 (bC (aO (bN f10) 2)):=by kernel_rfl
def Tc:dR (bC (aO (bN f10) 2))=[aO (bC (aO (bN f10) 2)) 0,aO (bC (aO (bN f10) 2)) 1,aO (bC (aO (bN f10) 2)) 2,aO (bC (aO (bN f10) 2)) 3,aO (bC (aO (bN f10) 2)) 4,aO (bC (aO (bN f10) 2)) 5,aO (bC (aO (bN f10) 2)) 6,aO (bC (aO (bN f10) 2)) 7,aO (bC (aO (bN f10) 2)) 8,aO (bC (aO (bN f10) 2)) 9,aO (bC (aO (bN f10) 2)) 10,aO (bC (aO (bN f10) 2)) 11]:=by kernel_rfl
namespace R
def Td(a:St)(k:Int)(x:List UInt8)(xs:List (List UInt8))(c:ByteArray)(r:List ByteArray)(h:c.toList::r.map xF=ND 32 x):
  run a k (x::xs)=match step a (k+1) c r with
   |none=>(N,k+1)
   |some s'=>run s' (k+1) xs:=by
 have e:(ND 32 x).map nF=c::r:=by
  rw[<- h,x2,List.map_map,WD]
  congr 1
  conv=>rhs;rw[<- List.map_id r]
  refine List.map_congr_left fun b _=>?_;simp[WD]
 simp only[run,e]
 cases step a (k+1) c r<;>rfl
def Te(ts:List Th)(x:Tree)(h:ts≠[]):tH ts x≠[]:=by
 obtain⟨a,t,rfl⟩:=nC ts h;rw[xC];simp
def Bk(s:St)(x:Tree)(h:s.ts≠[]):(put s x).ts≠[]:=by
 unfold put
 split
 ·exact Te _ _ h
 ·exact h
def KO{c:ByteArray}{w:List ByteArray}(h:step s i c w=Y s'):s'.ts≠[]:=by
 unfold step at h
 split at h
 ·unfold eG at h
  split at h
  ·split at h
   ·simp at h;rw[<- h];simp
   ·simp at h
  ·simp at h
 ·split at h
  ·simp at h
  ·rename_i d;have a:s.ts≠[]:=by intro e;simp[e]at d
   split at h
   ·unfold fC at h
    split at h
    ·simp at h
    ·split at h
     ·simp at h;rw[<- h];exact Bk _ _ a
     ·simp at h
   ·split at h
    ·unfold branch at h
     split at h
     ·split at h
      ·simp at h;rw[<- h];exact a
      ·simp at h
     ·simp at h
    ·unfold bW at h
     split at h
     ·simp at h;rw[<- h];exact Bk _ _ a
     ·simp at h
def Bl(s:St)(x:Tree):(put s x).inner=s.inner:=by unfold put;split<;>rfl
def Tf{c:ByteArray}{w:List ByteArray}(g:0<=i)(a:0<=s.inner)(d:s.inner<=i)(h:step s i c w=Y s'):0<=s'.inner/\s'.inner<=i:=by
 unfold step at h
 split at h
 ·unfold eG at h
  split at h
  ·split at h
   ·simp at h;rw[<- h];exact⟨a,d⟩
   ·simp at h
  ·simp at h
 ·split at h
  ·simp at h
  ·split at h
   ·unfold fC at h
    split at h
    ·simp at h
    ·split at h
     ·simp at h;rw[<- h,Bl];exact⟨a,d⟩
     ·simp at h
   ·split at h
    ·unfold branch at h
     split at h
     ·split at h
      ·simp at h;rw[<- h];exact⟨a,d⟩
      ·simp at h
     ·simp at h
    ·unfold bW at h
     split at h
     ·simp at h;rw[<- h,Bl];simp only[]
      split
      ·exact⟨g,Int.le_refl _⟩
      ·exact⟨a,d⟩
     ·simp at h
end R
structure RSr(w1:World)(B:Nat)(rows:List ByteArray)(n k:Nat)(st:St)(tv ov:Value)(tvs ovs:List Value)(G:List Nat)(wr:World):Prop where
 mem:RdM wr B tv ov st.ts st.O tvs ovs G
 sz:SzS st
 run:run St.zero 0 ((rows.map xF).take n)=run st k (((rows.map xF).take n).drop k)
 pos:0<k->st.ts≠[]
 in0:0<=st.inner
 in1:st.inner<=k
 bel:Below B w1 wr
def RSr.step{rows:List ByteArray}{q:St}{wr:World}(h:RSr w1 B rows n k q tv ov tvs ovs G wr)(S:k<n)(T:L rows=n+1){x c:ByteArray}(z:rows[k]?=Y x)(C:c.toList::r.map xF=ND 32 x.toList):
  (R.step q ((k:Int)+1) c r=N->R.run St.zero 0 ((rows.map xF).take n)=(N,(k:Int)+1))/\
  ∀g,R.step q ((k:Int)+1) c r=Y g->∀(o m:Value) (j d:List Value) (t:List Nat) (w':World),RdM w' B o m g.ts g.O j d t->Below B w1 w'->RSr w1 B rows n (k+1) g o m j d t w':=by
 have H:((rows.map xF).take n).drop k=x.toList::((rows.map xF).take n).drop (k+1):=by
  have J:k<((rows.map xF).take n).length:=by simp;omega
  rw[List.drop_eq_getElem_cons J]
  congr 1
  have y:k<L rows:=by omega
  have:rows[k]=x:=by rw[List.getElem?_eq_getElem y]at z;simpa using z
  simp[this]
 have a:=h.run;rw[H,Td q k x.toList _ c r C]at a;refine⟨fun M=>by rw[a,M],fun g hs o m j d t w' K A=>?_⟩;rw[hs]at a;have p:=Tf (by omega) h.in0 (by have:=h.in1;omega) hs;exact⟨K,JA h.sz hs,by rw[a];push_cast;rfl,fun _=>R.KO hs,p.1,by push_cast;exact p.2,A⟩
structure RdC(w1 wr:World)(B:Nat)(rows:List ByteArray)(n k:Nat)(s:St)(ta oa:Option Addr)(tc oc:Nat)(tvs ovs:List Value)(G:List Nat)(gw nw capw:Nat)(x c:ByteArray)(r:List ByteArray)(w2:World):Prop where
 H:MT (RSr w1 B rows n k s (I ta (L s.ts) tc) (I oa (L s.O) oc) tvs ovs G wr)
 hlt:k<n
 hn:n<10000
 hr:L rows=n+1
 hBw:D (X w1)=B
 hx:rows[k]?=Y x
 hc:c.toList::r.map xF=ND 32 x.toList
 hw:MT (NQ w2 gw 0 (c::r))
 hnw:L r+1=nw
 hcw:nw<=capw
 hn2:nw<10000
 hgw:gw<D (X w2)
 B2:Below (D (X wr)) wr w2
def RdC.IU{wr:World}{rows:List ByteArray}{V M:Option Addr}{W S:Nat}{m K d:Nat}{x c:ByteArray}{g:World}(C:RdC w1 wr B rows n k s V M W S tvs ovs G m K d x c r g):B<=D (X wr)/\SzS s/\L s.ts<=4/\L s.O<=2/\s.count<=8/\0<=s.count/\0<=s.inner/\s.inner<=k/\Below B w1 g:=by
 obtain⟨H,z,hn,hr,q,hx,hc,hw,J,t,A,y,j⟩:=C;have p:B<=D (X wr):=by have:=H.bel.size;omega
 have a:=H.sz;have T:0<=s.count:=by have:=a.sum;have:=GQ s.ts;have:=KC s.O;omega
 exact⟨p,a,a.nth,a.nop,a.NA,T,H.in0,H.in1,H.bel.trans (j.mono (by have:=H.bel.size;omega))⟩
def sV(k:Nat):List (Nat×Value):=[(2,I N 0 0),(3,E U 2),(4,E U ((k:Int)+1))]
def sO(gr:Nat)(n:Nat)(capr:Nat)(k:Nat)(bt:Nat)(m:Nat)(gx:Nat)(gw:Nat)(nw:Nat)(capw:Nat)(tc:Nat)(oc:Nat)(oa:Option Addr)(s:St)(c:ByteArray):List (Nat×Value):=[(5,MU gr (n+1) capr),(6,E U (n:Int)),(7,MU bt (m+1) tc),(8,I oa (L s.O) oc),(9,E U s.count),(10,E U s.inner),(11,E U (k:Int)),(12,MU gw nw capw),(15,.pointer (Y ⟨bt,m*3,N⟩)),(16,.pointer (Y ⟨gx,0,N⟩)),(93,.bool (c.toList==[101,110,100]))]
def qD(gr:Nat)(n:Nat)(capr:Nat)(k:Nat)(bt:Nat)(m:Nat)(gx:Nat)(tc:Nat)(oc2:Nat)(oa2:Option Addr)(s2:St):List (Nat×Value):=[(5,MU gr (n+1) capr),(6,E U (n:Int)),(7,MU bt (m+1) tc),(8,I oa2 (L s2.O) oc2),(9,E U s2.count),(10,E U s2.inner),(11,E U (k:Int)),(15,.pointer (Y ⟨bt,m*3,N⟩)),(16,.pointer (Y ⟨gx,0,N⟩))]
def qY(gr:Nat)(n:Nat)(capr:Nat)(k:Nat)(gw:Nat)(nw:Nat)(capw:Nat)(tc:Nat)(oc:Nat)(ta:Option Addr)(oa:Option Addr)(s:St)(c:ByteArray):List (Nat×Value):=[(5,MU gr (n+1) capr),(6,E U (n:Int)),(7,I ta (L s.ts) tc),(8,I oa (L s.O) oc),(9,E U s.count),(10,E U s.inner),(11,E U (k:Int)),(12,MU gw nw capw),(49,.bool (c.toList==[116,104,114,101,97,100]))]
def sZ(gr:Nat)(n:Nat)(capr:Nat)(k:Nat)(s2:St)(tv2:Value)(ov2:Value):List (Nat×Value):=[(5,MU gr (n+1) capr),(6,E U (n:Int)),(7,tv2),(8,ov2),(9,E U s2.count),(10,E U s2.inner),(11,E U (k:Int))]
def qH(gr:Nat)(n:Nat)(capr:Nat)(k:Nat)(tc:Nat)(oc:Nat)(ta:Option Addr)(oa:Option Addr)(s:St):List (Nat×Value):=[(5,MU gr (n+1) capr),(6,E U (n:Int)),(7,I ta (L s.ts) tc),(8,I oa (L s.O) oc),(9,E U s.count),(10,E U s.inner),(11,E U (k:Int))]
def tJ(gr:Nat)(n:Nat)(capr:Nat)(tc:Nat)(oc:Nat)(ta:Option Addr)(oa:Option Addr)(s:St):List (Nat×Value):=[(5,MU gr (n+1) capr),(6,E U (n:Int)),(7,I ta (L s.ts) tc),(8,I oa (L s.O) oc),(9,E U s.count),(10,E U s.inner),(11,E U (n:Int))]
def Tg(w1 wr:World)(B:Nat)(rows:List ByteArray)(n k z j:Nat)(s:St)(ta oa:Option Addr)(tc oc:Nat)(tvs ovs:List Value)(G:List Nat)(H:MT (RSr w1 B rows n k s (I ta (L s.ts) tc) (I oa (L s.O) oc) tvs ovs G wr))(ae:k<n)(hn:n<10000)(hr:L rows=n+1)(T:MT (NQ w1 z 0 rows))(ad:z<B)(ac:D (X w1)=B)(g:MT (∀x∈rows,x.size<=8192))(Q:Exit->Act->World->Prop)(y:Act)(d:Fr y (qH z n j k tc oc ta oa s))(m:MT (∀(C t a:Nat) (x c:ByteArray) (r:List ByteArray) (A:World) (y:Act) (d:Fr y (qY z n j k C t a tc oc ta oa s c)),rows[k]?=Y x->c.toList::r.map xF=ND 32 x.toList->NQ A C 0 (c::r)->L r+1=t->t<=a->t<10000->C<D (X A)->Below (D (X wr)) wr A->NG prog [(aO (bC (aO (bN f10) 2)) 2),(aO (bC (aO (bN f10) 2)) 3),(aO (bC (aO (bN f10) 2)) 4),(aO (bC (aO (bN f10) 2)) 5),(aO (bC (aO (bN f10) 2)) 6),(aO (bC (aO (bN f10) 2)) 7),(aO (bC (aO (bN f10) 2)) 8),(aO (bC (aO (bN f10) 2)) 9),(aO (bC (aO (bN f10) 2)) 10),(aO (bC (aO (bN f10) 2)) 11)] Q y A)):
  NG prog [(aO (bC (aO (bN f10) 2)) 0),(aO (bC (aO (bN f10) 2)) 1),(aO (bC (aO (bN f10) 2)) 2),(aO (bC (aO (bN f10) 2)) 3),(aO (bC (aO (bN f10) 2)) 4),(aO (bC (aO (bN f10) 2)) 5),(aO (bC (aO (bN f10) 2)) 6),(aO (bC (aO (bN f10) 2)) 7),(aO (bC (aO (bN f10) 2)) 8),(aO (bC (aO (bN f10) 2)) 9),(aO (bC (aO (bN f10) 2)) 10),(aO (bC (aO (bN f10) 2)) 11)] Q y wr:=by
 rw[OQ d.sz d.df];have fh:=d.at_;simp only[sV,sO,qD,qY,sZ,qH,tJ,x2,x3,List.cons.injEq,and_true]at fh;simp only[List.range,List.range.loop,x2,x3,fh];generalize gA y=fA;have M:k<L rows:=by omega
 have hx:rows[k]?=Y rows[k]:=by simp[M]
 have ab:=g.o rows[k] (List.getElem_mem M);have e1:w1.cell? ⟨z,k,N⟩=Y (.string rows[k]):=by
  have:=T.o k rows[k] hx;simpa using this
 have d1:=(H.bel.cell (p:=⟨z,k,N⟩) (by omega)).trans e1;generalize rows[k]=x at*
 try dsimp only
 refine nH fun K V=>?_
 conv=>arg 2;whnf
 go_wp2_with(first|(go_at_call 13;refine(KS x 32 _ ab).mono ?_;rintro e A ⟨C,a,t,c,r,rfl,HS,how,af,h1,h2,B2⟩;have S:L r+1=t:=(by omega);obtain⟨q,J,aa⟩:=KK how (by simpa using S);obtain⟨e0,_,_⟩:=q.head;have W:=MS q;clear q;dsimp only));refine V.o _ _ ?_;refine nH fun K V=>?_
 conv=>arg 2;whnf
 go_wp2_with fail;refine V.o _ _ ?_;clear V;exact m.o C t a x c r A _ (by exact⟨Z,Z,Z⟩) hx HS.o W.o S J h2 aa B2
def Tryz.infoLn:(prog.info? 52).map (fun i=>(i.zero,i.size,i.bytes))=Y (Y (.agg (cI z0 (I N 0 0))),9,120):=by kernel_rfl
def NZ.bW(h:NZ w B v l F):v.oneCell'=true:=by
 cases h using NZ.cs with
 |row ho _ _ _ _ =>
  rcases ho.2 with⟨e,_⟩|⟨k,c,a,e,_⟩<;>rw[e]<;>rfl
def Bm(x:Lh)(u:Value)(h:u.oneCell'=true):∀c∈(cI x u).toList,c.oneCell'=true:=by
 intro c a;simp[cI]at a
 rcases a with rfl|rfl|rfl|rfl|rfl|rfl|rfl|rfl|rfl<;>first|rfl|exact h
def Ti{d:Array Oper}{rest:List Oper}{c:Oper}{a:Act}{Q:Exit->Act->World->Prop}(x:Operand)(g:c.guard=N)(j:c.op=.load 52 x)(b o:Nat)(y:Lh)(bv:Value)(p:a.eval x=.pointer (Y ⟨b,o,N⟩))(m:w.rangeAt b o (cI y bv).toList)(h:wpList prog d Q rest (a.put c.dst (.agg #[.string y.op,E U y.MW,E U y.z,E U y.a,E U y.b,.string y.sign,.string y.ord,.string y.scope,bv])) w):wpList prog d Q (c::rest) a w :=
 wpList_load_mid g _ x j b o p (cI y bv).toList _ m underlying52 Z (by kernel_rfl) h
