import Derived.Deep.CutRange
import Derived.Test.YtlikcongbhhpfaaGreatDoorM05
import Derived.Test.YtlikcongbhhpfaaGreatDoorM12
set_option linter.unusedVariables false
set_option linter.unusedSimpArgs false
set_option maxHeartbeats 12800000
namespace Go.Proofs.YtlikcongbhhpfaaGreatDoor
open Go Go.RowKit Go.Proofs.Tryz P Q
set_option maxRecDepth 1000000
variable {W0 w w' w1:World}{b b3 c g gn n:Nat}{v vr:Value}{l t:List Nat}{f:Ey}
open _root_.Array renaming size->K
open Go.World renaming heap->V
open Go.Obj renaming cells->Y
open Option renaming some->O,none->I
open Go.Value renaming slice->U,agg->H,int->S
open Go.Ending renaming returned->F
open Go.IntKind renaming i64->T
open List renaming range->xF
open Go.RowKit.Below renaming heap_alloc->xR,refl->x0,heap_setCell->x5
open Nat renaming le_refl->xW,zero_le->x4
structure Es(w wr:World)(b3 gn n:Nat)(vr:Value)(l:List Nat):Prop where
 c1:wr.heap[K (V w)]?=O (Y #[vr] 76 (0,0))
 c2:wr.heap[K (V w)+1]?=O (Y #[U I 0 0] 76 (0,0))
 c3:wr.heap[b3]?=O (Y #[JQ gn n n] 76 (0,0))
 st:LJ wr gn l
 bl:Below (K (V w)) w wr
 gl:K (V w)+2<=gn
 gb:gn<b3
theorem Es.keep{wr:World}(h:Es w wr b3 gn n vr l)(e:Below (K (V wr)) wr w'):Es w w' b3 gn n vr l:=by
 have d:∀{b:Nat} {o:Obj},wr.heap[b]?=O o->w'.heap[b]?=O o:=fun a=>by rw[e.block _ ((fun h=>(Array.getElem?_eq_some_iff.1 h).1) a)];exact a
 exact⟨d h.c1,d h.c2,d h.c3,h.st.X e,h.bl.trans (e.mono h.bl.size),h.gl,h.gb⟩
theorem Es.grown{wr:World}{k:List Nat}(h:Es w wr b3 gn n vr l)(a:wr.grownBy w' (O gn))(m:LJ w' gn k):Es w w' b3 gn n vr k:=by
 have p:=h.gl;have q:=h.gb;have e:∀{b:Nat} {o:Obj},wr.heap[b]?=O o->b≠gn->w'.heap[b]?=O o:=fun d j=>by rw[a.block _ ((fun h=>(Array.getElem?_eq_some_iff.1 h).1) d) (by simpa using j)];exact d
 refine⟨e h.c1 (by omega),e h.c2 (by omega),e h.c3 (by omega),m,?_,h.gl,h.gb⟩;exact h.bl.trans ⟨a.os,a.tape,a.output,a.size,fun i r=>a.block i (by have:=h.bl.size;omega) (by simp;omega)⟩
theorem Es.start(d:LJ w1 gn l)(e:K (V w)+2<=gn)(a:Below (K (V w)+2) ((w.alloc (Y #[vr] 76)).alloc (Y #[U I 0 0] 76)) w1):
  Es w (w1.alloc (Y #[JQ gn n n] 76)) (K (V w1)) gn n vr l:=by
 have j:=a.size;simp at j;have A:∀b,b<K (V w)+2->(w1.alloc (Y #[JQ gn n n] 76)).heap[b]?=((w.alloc (Y #[vr] 76)).alloc (Y #[U I 0 0] 76)).heap[b]?:=fun b i=>by
  rw[xR _ _ _ (by omega),a.block b i]
 refine⟨?_,?_,heap_alloc_new w1 _,d.alloc _,?_,e,d.lt⟩
 ·rw[A _ (by omega),xR _ _ _ (by simp)];exact heap_alloc_new w _
 ·rw[A _ (by omega)];have:=heap_alloc_new (w.alloc (Y #[vr] 76)) (Y #[U I 0 0] 76);simpa using this
 ·exact((((x0 (K (V w)) w).alloc (xW _) _).alloc (by simp) _).trans (a.mono (by omega))).alloc (by omega) _
theorem Es.o{wr:World}(h:Es w wr b3 gn n vr l)(d:l.length=n)(a:KX l):nI w (wr.setCell ⟨K (V w)+1,0,I⟩ (JQ gn n n)) n l (F (H #[JQ gn n n]))/\(wr.setCell ⟨K (V w)+1,0,I⟩ (JQ gn n n)).heap[K (V w)+1]?=O (Y #[JQ gn n n] 76 (0,0)):=by
 have e:=h.gl;refine⟨⟨gn,Z,h.st.aA (x5 _ _ _ _ (by simp;omega)),by omega,d,a,h.bl.setCell (p:=⟨K (V w)+1,0,I⟩) (by simp) _⟩,?_⟩;rw[bC h.c2];rfl
theorem Es.rel{wr:World}(h:Es w wr b3 gn n vr l)(a:l.length=n):vH wr b3 0 gn n l:=by
 obtain⟨d,_,e⟩:=bF h.c3;exact⟨d,h.st,a,e,by have:=h.gb;omega⟩
theorem Mf(a n:Nat)(r:List Nat)(w:World)(hr:LJ w a r)(hn:r.length=n)(N:KX r):
  Calls prog 144 #[H #[JQ a n n]] w fun e w'=>nI w w' n (lB r) e:=by
 have E:n<=64:=by have:=N.len;omega
 have HR:=JO hr;have G:=JO hn;have ab:=hr.lt;have y:=JO N;have M:JP (lB r=(xF n).foldl (oK r) (LH n)):=by unfold JP lB;rw[hn]
 have C:=JO (Hx (r:=r) N.len);go_enter func144,ntmps144;go_wp2_with(first|(go_at_call 109;refine(jA n _ E).mono ?_;rintro e w1 ⟨gn,rfl,ag,aa,ad,W,D⟩;have ah:=D.size;have HS:=JO (Es.start (n:=n) ag (by simpa using aa) (by simpa using D));simp at ah;obtain⟨x1,y1,l1⟩:=bF HS.o.c1));go_loopw[13] (fun i wr=>∃k:Nat,∃t:List Nat,k<=n/\i=S T k/\JP (t=(xF k).foldl (oK r) (LH n))/\JP (KX t/\t.length=n)/\JP (Es w wr (K (V w1)) gn n (JQ a n n) t)) fun i _=>n-(intOf i).toNat
 case atStart=>exact⟨0,_,x4 _,Z,Z,⟨W,ad⟩,HS⟩
 case round =>
  obtain⟨k,t,hk,rfl,HT,HO,d⟩:=hrel;obtain⟨x1,y1,l1⟩:=bF d.o.c1;obtain⟨x2,y2,l2⟩:=bF d.o.c2;by_cases hlt:k<n
  ·have ai:(k:Int)<(n:Int):=by omega
   go_wp2;go_loopw[19] (fun j wq=>∃q:Nat,∃u:List Nat,q<=n/\j=S T q/\JP (u=(xF q).foldl (nG r k) t)/\JP (KX u/\u.length=n)/\JP (Es w wq (K (V w1)) gn n (JQ a n n) u)) fun j _=>n-(intOf j).toNat
   case atStart=>exact⟨0,t,x4 _,Z,Z,HO,d⟩
   case round =>
    obtain⟨q,u,hq,rfl,HU,x,m⟩:=hrel;obtain⟨x1,y1,l1⟩:=bF m.o.c1;by_cases hql:q<n
    ·have aj:(q:Int)<(n:Int):=by omega
     have B:JP (LJ wr a r):=HR.o.aA (m.o.bl.block a ab);have z:JP ((xF (q+1)).foldl (nG r k) t=nG r k u q):=by unfold JP;rw[fP,HU.o]
     cases hh:bB r (k:Int) (q:Int)
     ·have HB:JP (u=(xF (q+1)).foldl (nG r k) t):=by unfold JP;rw[z.o];unfold nG;rw[hh];rfl
      go_wp2_with(first|(refine iS (.tmp 1) Z Z (K (V w)) _ Z m.o.c1 ?_)|(go_at_call 112;refine(oH a n r _ _ _ B.o G.o.symm y.o).mono ?_;rintro e wb ⟨rfl,s⟩;rw[hh]));go_roundw
      case rel=>exact⟨q+1,u,by omega,by go_num,HB,x,m.o.keep s⟩
      case measure=>simp[intOf];omega
     ·have HB:JP (cL u (q:Int) (k:Int)=(xF (q+1)).foldl (nG r k) t):=by unfold JP;rw[z.o];unfold nG;rw[hh];rfl
      go_wp2_with(first|(refine iS (.tmp 1) Z Z (K (V w)) _ Z m.o.c1 ?_)|(go_at_call 112;refine(oH a n r _ _ _ B.o G.o.symm y.o).mono ?_;rintro e wb ⟨rfl,s⟩;rw[hh];have A:=JO (m.o.keep s))|(go_at_call 110;refine(jM (K (V w1)) 0 gn n u (q:Int) (k:Int) _ (A.o.rel x.o.2) x.o.1).mono ?_;rintro e wc ⟨rfl,af,X⟩;have J:=JO (A.o.grown X af)));go_roundw
      case rel=>exact⟨q+1,_,by omega,by go_num,HB,⟨yX x.o.1 _ _,by rw[rW];exact x.o.2⟩,J⟩
      case measure=>simp[intOf];omega
    ·have ae:q=n:=by omega
     have L:JP (u=(xF (k+1)).foldl (oK r) (LH n)):=by
      unfold JP;rw[fP,<- HT.o,HU.o,ae];unfold oK;rw[G.o]
     go_wp2;go_roundw
     case rel=>exact⟨k+1,u,by omega,by go_num,L,x,m⟩
     case measure=>simp[intOf];omega
  ·have ac:k=n:=by omega
   have HE:JP (t=lB r):=by unfold JP;rw[M.o,HT.o,ac]
   rw[HE.o]at d;obtain⟨q1,q2⟩:=d.o.o (by rw[C.o.2,G.o]) C.o.1;have Q1:=JO q1;have Q2:=JO q2;go_wp2_with(first|(refine iS (.tmp 3) Z Z (K (V w1)) _ Z d.o.c3 ?_)|(refine pG (.tmp 2) (.tmp 31) Z Z (K (V w)+1) _ _ Z Z d.o.c2 Z ?_));refine jL (p:=2) (K (V w)+1) _ (by kernel_rfl) Z Q2.o Z Q1.o
theorem XD(s n:Nat)(r:List Nat)(w:World)(hr:LJ w s r)(hn:r.length=n)(L:KX r):
  Calls prog 68 #[H #[JQ s n n]] w fun e w'=>nI w w' n (iR r) e:=by
 have ai:n<=64:=by have:=L.len;omega
 have HR:JP (LJ ((w.alloc (Y #[JQ s n n] 76)).alloc (Y #[U I 0 0] 76)) s r):=(hr.alloc _).alloc _;have E:=JO hn;have A:=JO L;have J:JP (iR r=(xF n).foldl (kA n) (cE r r)):=by unfold JP iR;rw[hn]
 have C:=JO (Hv L);go_enter func68,ntmps68;go_wp2_with(first|(go_at_call 67;refine(TZ s s n r r _ HR.o HR.o E.o E.o A.o A.o).mono ?_;rintro e w1 ⟨gn,rfl,af,N,ac,M,D⟩;have ag:=D.size;have HS:=JO (Es.start (n:=n) af (by simpa using N) (by simpa using D));simp at ag;obtain⟨x3,y3,l3⟩:=bF HS.o.c3));go_loopw[12] (fun i wr=>∃k:Nat,∃t:List Nat,k<=n/\i=S T k/\JP (t=(xF k).foldl (kA n) (cE r r))/\JP (KX t/\t.length=n)/\JP (Es w wr (K (V w1)) gn n (JQ s n n) t)) fun i _=>n-(intOf i).toNat
 case atStart=>exact⟨0,_,x4 _,Z,Z,⟨M,ac⟩,HS⟩
 case round =>
  obtain⟨k,t,hk,rfl,HT,HO,x⟩:=hrel;obtain⟨x3,y3,l3⟩:=bF x.o.c3;obtain⟨x2,y2,l2⟩:=bF x.o.c2;by_cases hlt:k<n
  ·have aj:(k:Int)<(n:Int):=by omega
   go_wp2;go_loopw[18] (fun j wq=>∃q:Nat,∃u:List Nat,q<=n/\j=S T q/\JP (u=(xF q).foldl (jH k) t)/\JP (KX u/\u.length=n)/\JP (Es w wq (K (V w1)) gn n (JQ s n n) u)) fun j _=>n-(intOf j).toNat
   case atStart=>exact⟨0,t,x4 _,Z,Z,HO,x⟩
   case round =>
    obtain⟨q,u,hq,rfl,HU,a,m⟩:=hrel;obtain⟨x3,y3,l3⟩:=bF m.o.c3;by_cases hql:q<n
    ·have ak:(q:Int)<(n:Int):=by omega
     have B:JP ((xF (q+1)).foldl (jH k) t=jH k u q):=by unfold JP;rw[fP,HU.o]
     have ab:k<u.length:=by rw[a.o.2];exact hlt
     have ae:q<u.length:=by rw[a.o.2];exact hql
     cases hh:bB u (q:Int) (k:Int)
     ·have HB:JP (u=(xF (q+1)).foldl (jH k) t):=by unfold JP;rw[B.o];unfold jH;rw[hh];rfl
      go_wp2_with(first|(refine iS (.tmp 3) Z Z (K (V w1)) _ Z m.o.c3 ?_)|(go_at_call 112;refine(oH gn n u _ _ _ m.o.st a.o.2.symm a.o.1).mono ?_;rintro e wb ⟨rfl,d⟩;rw[hh]));go_roundw
      case rel=>exact⟨q+1,u,by omega,by go_num,HB,a,m.o.keep d⟩
      case measure=>simp[intOf];omega
     ·have HB:JP (u.set q (cD u (q:Int)|||cD u (k:Int))=(xF (q+1)).foldl (jH k) t):=by unfold JP;rw[B.o];unfold jH;rw[hh];rfl
      have ah:=bits_or_u64_nat (cD u (q:Int)) (cD u (k:Int)) (iN a.o.1 _) (iN a.o.1 _);have z:JP (∀W:World,Below (K (V wr)) wr W->Es w (W.setCell ⟨gn,q,I⟩ (S .u64 ((cD u (q:Int)|||cD u (k:Int):Nat)))) (K (V w1)) gn n (JQ s n n) (u.set q (cD u (q:Int)|||cD u (k:Int)))):=fun W hb =>
       (m.o.keep hb).grown (dB (eA _ _) _ _) ((m.o.st.X hb).set q _)
      go_wp2_with(first|(refine iS (.tmp 3) Z Z (K (V w1)) _ Z m.o.c3 ?_)|(go_at_call 112;refine(oH gn n u _ _ _ m.o.st a.o.2.symm a.o.1).mono ?_;rintro e wb ⟨rfl,d⟩;rw[hh];have y:=JO (m.o.keep d);have al:=JS d l3 x3;have cq:=y.o.st.fR q ae;have ck:=y.o.st.fR k ab;have fq:=y.o.st.free q));go_region
      all_goals
       go_wp2;go_roundw
       case rel=>exact⟨q+1,_,by omega,by go_num,HB,⟨EY a.o.1 _ _ (nR (iN a.o.1 _) (iN a.o.1 _)),by rw[List.length_set];exact a.o.2⟩,by first|exact z.o _ d.drew|exact z.o _ d⟩
       case measure=>simp[intOf];omega
    ·have ad:q=n:=by omega
     have G:JP (u=(xF (k+1)).foldl (kA n) (cE r r)):=by
      unfold JP;rw[fP,<- HT.o,HU.o,ad];rfl
     go_wp2;go_roundw
     case rel=>exact⟨k+1,u,by omega,by go_num,G,a,m⟩
     case measure=>simp[intOf];omega
  ·have aa:k=n:=by omega
   have HE:JP (t=iR r):=by unfold JP;rw[J.o,HT.o,aa]
   rw[HE.o]at x;obtain⟨q1,q2⟩:=x.o.o (by rw[C.o.2,E.o]) C.o.1;have Q1:=JO q1;have Q2:=JO q2;go_wp2_with(first|(refine iS (.tmp 3) Z Z (K (V w1)) _ Z x.o.c3 ?_)|(refine pG (.tmp 2) (.tmp 39) Z Z (K (V w)+1) _ _ Z Z x.o.c2 Z ?_));refine jL (p:=2) (K (V w)+1) _ (by kernel_rfl) Z Q2.o Z Q1.o
theorem Mg(d n:Nat)(r:List Nat)(w:World)(z:LJ w d r)(y:r.length=n)(u:KX r):
  Calls prog 111 #[H #[JQ d n n]] w fun e w'=>e=F (.bool (bJ r))/\Below (K (V w)) w w':=by
 have s:=JO (z.alloc (Y #[JQ d n n] 76));have q:=JO y;have i:=JO u;go_enter func111,ntmps111;go_wp2_with(first|(go_at_call 68;refine(XD d n r _ s.o q.o i.o).mono ?_;rintro e w1 ⟨gn,rfl,p,x,m,k,a⟩)|(go_at_call 119;refine(TY gn n _ _ p m k).mono ?_;rintro e A ⟨rfl,j⟩));go_ret;exact⟨Z,((x0 (K (V w)) w).alloc (xW _) _).trans ((a.mono (by simp)).trans (j.mono (by have:=a.size;simp at this;omega)))⟩
def MY(l:List Ev):List Value:=l.flatMap fun e=>(aD e).toList
theorem lF(l:List Ev):(MY l).length=l.length*10:=by
 induction l with
 |nil=>rfl
 |cons a r ih=>simp[MY,aD]at *;omega
theorem XE(a b:List Ev):MY (a++b)=MY a++MY b:=by simp[MY]
theorem XG(e:Ev):MY [e]=(aD e).toList:=by simp[MY]
theorem XH(l:List Ev):∀(k:Nat) (h:k<l.length) (i:Nat),i<10->(MY l)[k*10+i]?=(aD l[k]).toList[i]?:=by
 induction l with
 |nil=>intro k h;simp at h
 |cons a r ih =>
  intro k h i d;have e:MY (a::r)=(aD a).toList++MY r:=by simp[MY]
  have j:(aD a).toList.length=10:=Z;rw[e]
  cases k with
  |zero =>
   rw[List.getElem?_append_left (by omega)];simp
  |succ k =>
   rw[List.getElem?_append_right (by omega),j,show(k+1)*10+i-10=k*10+i by omega,ih k (by simpa using h) i d];simp
theorem Mh(l:List Ev):∀u∈MY l,u.oneCell'=true:=by
 intro u d;simp only[MY,List.mem_flatMap,aD]at d;obtain⟨e,_,a⟩:=d;simp at a
 rcases a with rfl|rfl|rfl|rfl|rfl|rfl|rfl|rfl|rfl|rfl<;>rfl
def NC(w:World)(v:Value)(es:List Ev):Prop:=w.ownsRow 0 166 10 v es.length (MY es)
theorem NC.keep{es:List Ev}(h:NC w v es)(a:∀k,k<K (V w)->w'.heap[k]?=w.heap[k]?):NC w' v es:=aU h fun k e=>a k (h.lt k e).2
theorem NC.X{es:List Ev}(h:NC w v es)(a:Below (K (V w)) w w'):NC w' v es:=h.keep fun k d=>a.block k d
theorem NC.form{es:List Ev}(h:NC w v es):∃a c,v=U a es.length c/\(0<es.length->∃b,a=O ⟨b,0,I⟩/\b<K (V w)):=by
 rcases h.2 with⟨e,i⟩|⟨k,c,d,e,_⟩
 ·exact⟨I,0,by rw[e,i],fun h=>by omega⟩
 ·exact⟨_,c,e,fun _=>⟨k,Z,(h.lt k (by rw[e];rfl)).2⟩⟩
theorem NC.range{es:List Ev}(h:NC w (JQ b n c) es)(i:n=es.length)(k:Nat)(e:k<es.length):w.rangeAt b (k*10) (aD es[k]).toList:=by
 intro j v a;have d:j<10:=(List.getElem?_eq_some_iff.1 a).1;unfold NC at h;rw[i]at h;rw[h.cellAt _ (by omega),XH es k e j d];exact a
theorem sX(es:List Ev)(k:Nat)(h:k<es.length):ev es k=es[k]:=by simp[ev,h]
theorem NC.bV{es:List Ev}(h:NC w (JQ b n c) es)(d:n=es.length)(k:Nat)(a:k<es.length):w.rangeAt b (k*10) (aD (ev es k)).toList:=by
 rw[sX es k a];exact h.range d k a
theorem cA{i:Array Oper}{rest:List Oper}{d:Oper}{a:Act}{R:Exit->Act->World->Prop}(x:Operand)(m:d.guard=I)(p:d.op=.load 166 x)(b o:Nat)(e:Ev)(s:a.eval x=.pointer (O ⟨b,o,I⟩))(r:w.rangeAt b o (aD e).toList)(h:wpList prog i R rest (a.put d.dst (H #[S T e.k,S T e.j,S T e.block,S T e.z,S T e.value,S T e.q,S T e.scope,S T e.u,.bool e.step,S .u64 (e.h:Nat)])) w):wpList prog i R (d::rest) a w :=
 wpList_load_mid m _ x p b o s (aD e).toList _ r underlying166 Z (by kernel_rfl) h
structure Ed(w:World)(g n:Nat)(l:List Nat):Prop where
 at_:LJ w g l
 len:l.length=n
 fits:KX l
theorem Ed.lt(h:Ed w g n l):g<K (V w):=h.at_.lt
theorem Ed.X(h:Ed w g n l)(a:Below (K (V w)) w w'):Ed w' g n l:=⟨h.at_.X a,h.len,h.fits⟩
theorem Ed.keep(h:Ed w g n l)(a:∀k,k<K (V w)->w'.heap[k]?=w.heap[k]?):Ed w' g n l:=⟨h.at_.aA (a g h.lt),h.len,h.fits⟩
structure FA where
 n:Nat
 ev:Value
 g1:Nat
 g2:Nat
 g3:Nat
 g4:Nat
 g5:Nat
 g6:Nat
 g7:Nat
 g8:Nat
 g9:Nat
def LY(a:FA):Array Value:=#[a.ev,JQ a.g1 a.n a.n,JQ a.g2 a.n a.n,JQ a.g3 a.n a.n,JQ a.g4 a.n a.n,JQ a.g5 a.n a.n,JQ a.g6 a.n a.n,JQ a.g7 a.n a.n,JQ a.g8 a.n a.n,JQ a.g9 a.n a.n]
structure Ef(w:World)(a:FA)(f:Ey):Prop where
 ev:NC w a.ev f.E
 len:f.E.length=a.n
 n64:a.n<=64
 r1:Ed w a.g1 a.n f.C
 r2:Ed w a.g2 a.n f.G
 r3:Ed w a.g3 a.n f.J
 r4:Ed w a.g4 a.n f.N
 r5:Ed w a.g5 a.n f.y
 r6:Ed w a.g6 a.n f.h
 r7:Ed w a.g7 a.n f.L
 r8:Ed w a.g8 a.n f.sends
 r9:Ed w a.g9 a.n f.M
theorem Ef.keep{a:FA}(h:Ef w a f)(d:∀k,k<K (V w)->w'.heap[k]?=w.heap[k]?):Ef w' a f :=
 ⟨h.ev.keep d,h.len,h.n64,h.r1.keep d,h.r2.keep d,h.r3.keep d,h.r4.keep d,h.r5.keep d,h.r6.keep d,h.r7.keep d,h.r8.keep d,h.r9.keep d⟩
theorem Ef.X{a:FA}(h:Ef w a f)(d:Below (K (V w)) w w'):Ef w' a f:=h.keep fun k e=>d.block k e
theorem Ef.form{a:FA}(h:Ef w a f):∃x c,a.ev=U x a.n c/\(0<a.n->∃b,x=O ⟨b,0,I⟩/\b<K (V w)):=by
 have:=h.ev.form;rw[h.len]at this;exact this
theorem Mi{P:Program}(w:World)(x J L e:TypeId)(b o d p:Nat)(a:Addr)(k r u:Nat)(m:List Value)(G:P.underlying x=O (.slice e))(y:(P.info? e).map (·.size)=O u)(E:m.length=Nat.min k d*u)(q:∀j v,m[j]?=O v->w.cell? (a.add j)=O v)(A:∀j,j<m.length->(w.cell? ⟨b,o+j,I⟩).isSome=true)(B:∀j,j<m.length->w.frozen? ⟨b,o+j,I⟩=false)(z:∀v∈m,v.oneCell'=true):
  (Builtin.copy_ #[x,J] L #[U (O ⟨b,o,I⟩) d p,U (O a) k r]).run P w=.ok (goInt (Nat.min k d)) (w.setCells b o m):=by
 have D:=run_loadCells_list (P:=P) w a m q;have s:=run_storeCells_cells (P:=P) b o m 0 w (by simpa using A) (by simpa using B) z
 cases hq:P.info? e with
 |none=>simp[hq]at y
 |some i =>
  have C:i.size=u:=by simpa[hq]using y
  simp[Builtin.copy_,run_underlying G,Builtin.lenOf,Builtin.firstCells,sizeOf,typeInfo,hq,C,<- E,D,s]
def jE(w w':World)(n:Nat)(l:List Nat)(e:Ending):Prop:=∃g,e=F (H #[JQ g n n])/\Ed w' g n l/\Below (K (V w)) w w'
theorem nI.mO{e:Ending}(h:nI w w' n l e):jE w w' n l e:=by
 obtain⟨g,rfl,a,_,d,i,j⟩:=h;exact⟨g,Z,⟨a,d,i⟩,j⟩
theorem iQ(a go n:Nat)(r o:List Nat)(w:World)(i:Ed w a n r)(d:Ed w go n o):
  Calls prog 67 #[H #[JQ a n n],H #[JQ go n n]] w fun e w'=>jE w w' n (cE r o) e :=
 (TZ a go n r o w i.at_ d.at_ i.len d.len i.fits d.fits).mono fun _ _ h=>h.mO
theorem rD(a go n:Nat)(r o:List Nat)(w:World)(i:Ed w a n r)(d:Ed w go n o):
  Calls prog 114 #[H #[JQ a n n],H #[JQ go n n]] w fun e w'=>jE w w' n (fY r o) e :=
 (Iv a go n r o w i.at_ d.at_ i.len d.len i.fits d.fits).mono fun _ _ h=>h.mO
theorem iK(a go n:Nat)(r o:List Nat)(w:World)(i:Ed w a n r)(d:Ed w go n o):
  Calls prog 113 #[H #[JQ a n n],H #[JQ go n n]] w fun e w'=>jE w w' n (LR r o) e :=
 (I1 a go n r o w i.at_ d.at_ i.len d.len i.fits d.fits).mono fun _ _ h=>h.mO
theorem XI(a n:Nat)(r:List Nat)(w:World)(d:Ed w a n r):
  Calls prog 144 #[H #[JQ a n n]] w fun e w'=>jE w w' n (lB r) e :=
 (Mf a n r w d.at_ d.len d.fits).mono fun _ _ h=>h.mO
theorem wT(a n:Nat)(r:List Nat)(w:World)(d:Ed w a n r):
  Calls prog 68 #[H #[JQ a n n]] w fun e w'=>jE w w' n (iR r) e :=
 (XD a n r w d.at_ d.len d.fits).mono fun _ _ h=>h.mO
theorem lQ(a n:Nat)(r:List Nat)(w:World)(d:Ed w a n r):
  Calls prog 119 #[H #[JQ a n n]] w fun e w'=>e=F (.bool (aL r))/\Below (K (V w)) w w' :=
 TY a n r w d.at_ d.len d.fits
theorem Mj(a n:Nat)(r:List Nat)(w:World)(d:Ed w a n r):
  Calls prog 145 #[H #[JQ a n n]] w fun e w'=>e=F (.bool (cU r))/\Below (K (V w)) w w' :=
 Iu a n r w d.at_ d.len d.fits
theorem DM(a n:Nat)(r:List Nat)(w:World)(d:Ed w a n r):
  Calls prog 111 #[H #[JQ a n n]] w fun e w'=>e=F (.bool (bJ r))/\Below (K (V w)) w w' :=
 Mg a n r w d.at_ d.len d.fits
theorem jY(d n:Nat)(r:List Nat)(a b:Int)(w:World)(i:Ed w d n r):
  Calls prog 112 #[H #[JQ d n n],S T a,S T b] w fun e w'=>e=F (.bool (bB r a b))/\Below (K (V w)) w w' :=
 oH d n r a b w i.at_ i.len.symm i.fits
theorem JW{a:World}{B:Nat}(h:Below B w w1)(d:B<=K (V w))(k:Below (K (V w1)) w1 a):Below B w a:=h.trans (k.mono (Nat.le_trans d h.size))
theorem Mk(a:FA)(f:Ey)(k:Nat)(i:List Nat)(w:World)(y:Ef w a f)(E:Ed w k a.n i):
  Calls prog 64 #[H (LY a),H #[JQ k a.n a.n]] w fun e w'=>e=F (.bool (f.bR i))/\Below (K (V w)) w w':=by
 have B:JP (f.bR i=bJ (cE f.h i)):=Z;have j:JP (∀o p,Below (K (V w)) w ((w.alloc o).alloc p)):=fun o p=>((x0 _ _).alloc (xW _) _).alloc (by simp) _
 have s:=JO y.r6;have u:=JO E;obtain⟨x,c,d,hx⟩:=y.form;obtain⟨n,ev,J,L,M,N,W,D,g7,g8,g9⟩:=a;simp only at d s u;subst d;simp only[LY];go_enter func64,ntmps64;go_wp2_with(first
  |(go_at_call 67;refine(iQ D k n f.h i _ (s.o.X (j.o _ _)) (u.o.X (j.o _ _))).mono ?_;rintro e w1 ⟨G,rfl,r,m⟩;have z:=JO ((j.o _ _).trans (m.mono (by simp;omega)));have C:=JO r)
  |(go_at_call 111;(refine(DM G n _ _ C.o).mono ?_;rintro e w2 ⟨rfl,q⟩;have A:=JO (JW z.o (xW _) q))))
 go_ret;rw[B.o];exact⟨Z,A.o⟩
theorem gU(w:World)(a:Array Value)(s:TypeId):(w.alloc (Y a s)).heap[K (V w)]?=O (Y a s (0,0))/\(w.alloc (Y a s)).heap.size=K (V w)+1/\Below (K (V w)) w (w.alloc (Y a s)):=
 ⟨heap_alloc_new w _,by simp,(x0 _ _).alloc (xW _) _⟩
theorem hJ(w:World)(a b:Array Value)(s t:TypeId):((w.alloc (Y a s)).alloc (Y b t)).heap[K (V w)]?=O (Y a s (0,0))/\((w.alloc (Y a s)).alloc (Y b t)).heap[K (V w)+1]?=O (Y b t (0,0))/\((w.alloc (Y a s)).alloc (Y b t)).heap.size=K (V w)+2/\Below (K (V w)) w ((w.alloc (Y a s)).alloc (Y b t)):=by
 refine⟨?_,?_,by simp,((x0 _ _).alloc (xW _) _).alloc (by simp) _⟩
 ·rw[xR _ _ _ (by simp)];exact heap_alloc_new w _
 ·have:=heap_alloc_new (w.alloc (Y a s)) (Y b t);simpa using this
theorem lP(w:World)(a b c:Array Value)(s t u:TypeId):(((w.alloc (Y a s)).alloc (Y b t)).alloc (Y c u)).heap[K (V w)]?=O (Y a s (0,0))/\(((w.alloc (Y a s)).alloc (Y b t)).alloc (Y c u)).heap[K (V w)+1]?=O (Y b t (0,0))/\(((w.alloc (Y a s)).alloc (Y b t)).alloc (Y c u)).heap[K (V w)+2]?=O (Y c u (0,0))/\
  (((w.alloc (Y a s)).alloc (Y b t)).alloc (Y c u)).heap.size=K (V w)+3/\Below (K (V w)) w (((w.alloc (Y a s)).alloc (Y b t)).alloc (Y c u)):=by
 obtain⟨d,e,j,i⟩:=hJ w a b s t;refine⟨?_,?_,?_,by simp,i.alloc (by simp;omega) _⟩
 ·rw[xR _ _ _ (by omega)];exact d
 ·rw[xR _ _ _ (by omega)];exact e
 ·have:=heap_alloc_new ((w.alloc (Y a s)).alloc (Y b t)) (Y c u);simpa using this
theorem JN(w:World)(a b c d:Array Value)(s t u v:TypeId):((((w.alloc (Y a s)).alloc (Y b t)).alloc (Y c u)).alloc (Y d v)).heap[K (V w)]?=O (Y a s (0,0))/\((((w.alloc (Y a s)).alloc (Y b t)).alloc (Y c u)).alloc (Y d v)).heap[K (V w)+1]?=O (Y b t (0,0))/\((((w.alloc (Y a s)).alloc (Y b t)).alloc (Y c u)).alloc (Y d v)).heap[K (V w)+2]?=O (Y c u (0,0))/\
  ((((w.alloc (Y a s)).alloc (Y b t)).alloc (Y c u)).alloc (Y d v)).heap[K (V w)+3]?=O (Y d v (0,0))/\((((w.alloc (Y a s)).alloc (Y b t)).alloc (Y c u)).alloc (Y d v)).heap.size=K (V w)+4/\Below (K (V w)) w ((((w.alloc (Y a s)).alloc (Y b t)).alloc (Y c u)).alloc (Y d v)):=by
 obtain⟨e,i,j,m,k⟩:=lP w a b c s t u;refine⟨?_,?_,?_,?_,by simp,k.alloc (by simp;omega) _⟩
 ·rw[xR _ _ _ (by omega)];exact e
 ·rw[xR _ _ _ (by omega)];exact i
 ·rw[xR _ _ _ (by omega)];exact j
 ·have:=heap_alloc_new (((w.alloc (Y a s)).alloc (Y b t)).alloc (Y c u)) (Y d v);simpa using this
theorem Ml(w:World)(a b c d e:Array Value)(s t u v x:TypeId):(((((w.alloc (Y a s)).alloc (Y b t)).alloc (Y c u)).alloc (Y d v)).alloc (Y e x)).heap[K (V w)]?=O (Y a s (0,0))/\(((((w.alloc (Y a s)).alloc (Y b t)).alloc (Y c u)).alloc (Y d v)).alloc (Y e x)).heap[K (V w)+1]?=O (Y b t (0,0))/\(((((w.alloc (Y a s)).alloc (Y b t)).alloc (Y c u)).alloc (Y d v)).alloc (Y e x)).heap[K (V w)+2]?=O (Y c u (0,0))/\
  (((((w.alloc (Y a s)).alloc (Y b t)).alloc (Y c u)).alloc (Y d v)).alloc (Y e x)).heap[K (V w)+3]?=O (Y d v (0,0))/\(((((w.alloc (Y a s)).alloc (Y b t)).alloc (Y c u)).alloc (Y d v)).alloc (Y e x)).heap[K (V w)+4]?=O (Y e x (0,0))/\(((((w.alloc (Y a s)).alloc (Y b t)).alloc (Y c u)).alloc (Y d v)).alloc (Y e x)).heap.size=K (V w)+5/\Below (K (V w)) w (((((w.alloc (Y a s)).alloc (Y b t)).alloc (Y c u)).alloc (Y d v)).alloc (Y e x)):=by
 obtain⟨i,j,k,m,p,o⟩:=JN w a b c d s t u v;refine⟨?_,?_,?_,?_,?_,by simp,o.alloc (by simp;omega) _⟩
 ·rw[xR _ _ _ (by omega)];exact i
 ·rw[xR _ _ _ (by omega)];exact j
 ·rw[xR _ _ _ (by omega)];exact k
 ·rw[xR _ _ _ (by omega)];exact m
 ·have:=heap_alloc_new ((((w.alloc (Y a s)).alloc (Y b t)).alloc (Y c u)).alloc (Y d v)) (Y e x);simpa using this
theorem XJ(i d j n:Nat)(p m q:List Nat)(w:World)(hc:Ed w i n p)(hb:Ed w d n m)(hm:Ed w j n q):
  Calls prog 97 #[H #[JQ i n n],H #[JQ d n n],H #[JQ j n n]] w fun e w'=>e=F (.bool (PX p m q))/\Below (K (V w)) w w':=by
 have HE:JP (PX p m q=!Q.aL (LR (cE m q) p)):=Z;obtain⟨k0,k1,k2,aa,a⟩:=lP w #[JQ i n n] #[JQ d n n] #[JQ j n n] 76 76 76;have RC:=JO (hc.X a);have RB:=JO (hb.X a);have RM:=JO (hm.X a);have L:=JO a;go_enter func97,ntmps97;go_upto_region 1 with fail
 generalize hE:((w.alloc (Y #[JQ i n n] 76)).alloc (Y #[JQ d n n] 76)).alloc (Y #[JQ j n n] 76)=W at*;obtain⟨u,f0,E⟩:=bF k0;obtain⟨x,f1,G⟩:=bF k1;obtain⟨y,f2,J⟩:=bF k2;go_region_held3 (fun w'=>w'.cell? ⟨K (V w),0,I⟩=O (JQ i n n)/\w'.cell? ⟨K (V w)+1,0,I⟩=O (JQ d n n)/\w'.cell? ⟨K (V w)+2,0,I⟩=O (JQ j n n)) (first|exact⟨u,x,y⟩|exact⟨p0,p1,p2⟩|exact⟨q0,q1,q2⟩|exact⟨r0,r1,r2⟩) (first
  |(go_at_call 67;refine(iQ d j n m q _ (RB.o.X (x0 _ _).drew) (RM.o.X (x0 _ _).drew)).mono ?_;rintro e w1 ⟨g1,rfl,C,z⟩;have k:JP (Below (K (V W)) W w1):=((x0 (K (V W)) W).drew).trans (z.mono (by simp));have M:=JO C;have p0:=JS k.o E u;have p1:=JS k.o G x;have p2:=JS k.o J y)
  |(go_at_call 113;refine(iK g1 i n _ p _ M.o (RC.o.X k.o)).mono ?_;rintro e w2 ⟨g2,rfl,D,A⟩;have r:JP (Below (K (V W)) W w2):=JW k.o (xW _) A;have N:=JO D;have q0:=JS r.o E u;have q1:=JS r.o G x;have q2:=JS r.o J y)
  |(go_at_call 119;refine(lQ g2 n _ _ N.o).mono ?_;rintro e w3 ⟨rfl,B⟩;have s:JP (Below (K (V W)) W w3):=JW r.o (xW _) B;have r0:=JS s.o E u;have r1:=JS s.o G x;have r2:=JS s.o J y))
 all_goals
  go_wp2;go_ret;rw[HE.o];exact⟨Z,JW L.o (xW _) s.o⟩
structure Fill(W0 wr:World)(b gn n:Nat)(t:List Nat):Prop where
 bel:Below (K (V W0)) W0 wr
 rel:Ed wr gn n t
 box:wr.heap[b]?=O (Y #[JQ gn n n] 76 (0,0))
 ge:K (V W0)<=gn
 gb:K (V W0)<=b
theorem Fill.ne{wr:World}(h:Fill W0 wr b gn n t):b≠gn:=fun e=>by
 have a:=h.rel.at_;unfold LJ at a;rw[<- e,h.box]at a;simp at a
theorem Fill.keep{wr:World}(h:Fill W0 wr b gn n t)(a:Below (K (V wr)) wr w'):Fill W0 w' b gn n t :=
 ⟨h.bel.trans (a.mono h.bel.size),h.rel.X a,(a.block b (Array.getElem?_eq_some_iff.1 h.box).1).trans h.box,h.ge,h.gb⟩
theorem Fill.alloc{wr:World}(h:Fill W0 wr b gn n t)(o:Obj):Fill W0 (wr.alloc o) b gn n t:=h.keep ((x0 _ _).alloc (xW _) _)
theorem Fill.grown{wr:World}(h:Fill W0 wr b gn n t){x y:Int}(a:wr.grownBy w' (O gn))(d:LJ w' gn (cL t x y)):Fill W0 w' b gn n (cL t x y):=
 ⟨h.bel.trans ⟨a.os,a.tape,a.output,a.size,fun i e=>a.block i (by have:=h.bel.size;omega) (by have:=h.ge;simp;omega)⟩,⟨d,by rw[rW];exact h.rel.len,yX h.rel.fits _ _⟩,(a.block b (Array.getElem?_eq_some_iff.1 h.box).1 (by have:=h.ne;simpa using this)).trans h.box,h.ge,h.gb⟩
theorem Fill.gS{wr:World}(h:Fill W0 wr b gn n t):vH wr b 0 gn n t:=by
 obtain⟨a,_,d⟩:=bF h.box;exact⟨a,h.rel.at_,h.rel.len,d,h.ne⟩
theorem Fill.start(e:Ed w1 gn n t)(d:K (V W0)<=gn)(a:Below (K (V W0)) W0 w1):Fill W0 (w1.alloc (Y #[JQ gn n n] 76)) (K (V w1)) gn n t :=
 ⟨a.alloc a.size _,e.X ((x0 _ _).alloc (xW _) _),heap_alloc_new w1 _,d,a.size⟩
theorem Fill.o{wr:World}{r:Nat}(h:Fill W0 wr b gn n t)(j:Below (K (V w)) w W0)(e:W0.heap[r]?=O (Y #[U I 0 0] 76 (0,0)))(d:K (V w)<=r):
  jE w (wr.setCell ⟨r,0,I⟩ (JQ gn n n)) n t (F (H #[JQ gn n n]))/\(wr.setCell ⟨r,0,I⟩ (JQ gn n n)).heap[r]?=O (Y #[JQ gn n n] 76 (0,0)):=by
 have a:=(Array.getElem?_eq_some_iff.1 e).1;have i:=h.ge;refine⟨⟨gn,Z,⟨h.rel.at_.aA (x5 _ _ _ _ (by simp;omega)),h.rel.len,h.rel.fits⟩,(JW j (xW _) h.bel).setCell (p:=⟨r,0,I⟩) d _⟩,?_⟩;rw[bC ((h.bel.block r a).trans e)];rfl
theorem Fill.cell{wr:World}(h:Fill W0 wr b gn n t){p:Addr}(d:p.block<K (V W0))(a:W0.cell? p=O v):wr.cell? p=O v:=(h.bel.cell (p:=p) d).trans a
theorem ME.X{l:List Int}(h:ME w v l)(e:Below (K (V w)) w w'):ME w' v l:=by
 rcases h with h|⟨g,a,rfl,k,j,d⟩
 ·exact Or.inl h
 ·exact Or.inr ⟨g,a,Z,fun i m=>(e.cell (p:=⟨g,i,I⟩) j).trans (k i m),Nat.lt_of_lt_of_le j e.size,d⟩
theorem ME.form{l:List Int}(h:ME w v l):∃a c,v=U a l.length c/\(0<l.length->∃g,a=O ⟨g,0,I⟩/\g<K (V w)/\∀i (h:i<l.length),w.cell? ⟨g,i,I⟩=O (S T l[i])):=by
 rcases h with⟨rfl,rfl⟩|⟨g,d,rfl,e,j,_⟩
 ·exact⟨I,0,Z,fun h=>by simp at h⟩
 ·exact⟨_,_,Z,fun _=>⟨g,Z,j,e⟩⟩
theorem dO(B:Nat)(w:World)(n:Nat):Below B w (w.drewN n):=by
 induction n with
 |zero=>exact x0 _ _
 |succ n ih=>exact⟨ih.os,ih.tape,ih.output,ih.size,ih.block⟩
theorem KO.grown{e:Ev}(h:KO w g e)(d:LJ w gn l)(j:w.grownBy w' (O gn)):KO w' g e:=by
 have a:g≠gn:=fun i=>by
  unfold KO at h;unfold LJ at d;rw[i,d]at h;simp at h
 have k:=h.lt;unfold KO at*;rw[j.block g k (by simpa using a)];exact h
theorem eI(l:List Int)(i:Nat)(h:i<l.length)(d:Int):l.getD i d=l[i]:=by simp[List.getD,List.getElem?_eq_getElem h]
namespace Q
def AV(rs:List Int)(r:List Nat)(i:Nat):List Nat:=cL r (i:Int) (rs.getD i (-1))
end Q
theorem Mm(a:FA)(f:Ey)(v:Value)(d:List Int)(w:World)(u:Ef w a f)(hv:ME w v d)(hl:d.length<10000):
  Calls prog 62 #[H (LY a),v] w fun e w'=>jE w w' a.n (f.D d) e:=by
 have r:JP (f.D d=(xF d.length).foldl (AV d) (LH a.n)):=by unfold JP Ey.D;rw[u.len];rfl
 obtain⟨va,vc,rfl,ab⟩:=hv.form;obtain⟨x,c,s,hx⟩:=u.form;have m:=u.n64;have W:=u.len;obtain⟨n,ev,g1,g2,g3,g4,g5,g6,g7,g8,g9⟩:=a;simp only at s m W hx;subst s;simp only[LY];simp only at r;obtain⟨k0,k1,ae,B⟩:=hJ w #[U x n c,JQ g1 n n,JQ g2 n n,JQ g3 n n,JQ g4 n n,JQ g5 n n,JQ g6 n n,JQ g7 n n,JQ g8 n n,JQ g9 n n] #[U I 0 0] 78 76;have q:=JO B;go_enter func62,ntmps62;go_upto_region 1 with fail
 generalize hE:(w.alloc (Y #[U x n c,JQ g1 n n,JQ g2 n n,JQ g3 n n,JQ g4 n n,JQ g5 n n,JQ g6 n n,JQ g7 n n,JQ g8 n n,JQ g9 n n] 78)).alloc (Y #[U I 0 0] 76)=W0 at*;have ac:=aB k0 0 _ Z;obtain⟨c1,f1,l1⟩:=bF k1;have K1:=JO k1;go_wp2_with(first|(go_at_call 109;refine(jA n _ m).mono ?_;rintro e w1 ⟨gn,rfl,aa,J,N,E,A⟩;have HS:=JO (Fill.start ⟨aa,N,E⟩ J A)));go_loopw[14] (fun i wr=>∃(k:Nat) (t:List Nat),k<=d.length/\i=S T k/\JP (t=(xF k).foldl (AV d) (LH n))/\JP (Fill W0 wr (K (V w1)) gn n t)) fun i _=>d.length-(intOf i).toNat
 case atStart=>exact⟨0,_,x4 _,Z,Z,HS⟩
 case round =>
  obtain⟨k,t,hk,rfl,HT,j⟩:=hrel;obtain⟨b0,b1,b2⟩:=bF j.o.box;by_cases hlt:k<d.length
  ·have ad:(k:Int)<(d.length:Int):=by omega
   obtain⟨g,rfl,hg,C⟩:=ab (by omega);have L:g<K (V W0):=by omega
   have hc:wr.cell? ⟨g,k,I⟩=O (S T d[k]):=j.o.cell L ((q.o.cell (p:=⟨g,k,I⟩) hg).trans (C k hlt));have HN:JP (cL t (k:Int) d[k]=(xF (k+1)).foldl (AV d) (LH n)):=by unfold JP;rw[fP,<- HT.o,AV,eI d k hlt]
   generalize d[k]=y at*;go_wp2_with(first|(go_at_call 110;refine(jM (K (V w1)) 0 gn n t (k:Int) y _ j.o.gS j.o.rel.fits).mono ?_;rintro e wc ⟨rfl,X,G⟩;have HJ:=JO (j.o.grown G X)));go_roundw
   case rel=>exact⟨k+1,_,by omega,by go_num,HN,HJ⟩
   case measure=>simp[intOf];omega
  ·have M:k=d.length:=by omega
   have z:JP (t=f.D d):=by unfold JP;rw[r.o,HT.o,M]
   obtain⟨q1,q2⟩:=j.o.o q.o K1.o (by omega);rw[z.o]at q1;go_wp2_with(first|(refine iS (.tmp 5) Z Z (K (V w1)) _ Z j.o.box ?_)|(refine pG (.tmp 4) (.tmp 23) Z Z (K (V w)+1) _ _ Z Z ((j.o.bel.block _ l1).trans K1.o) Z ?_));refine jL (p:=4) (K (V w)+1) _ (by kernel_rfl) Z q2 Z q1
theorem Mn(a:FA)(f:Ey)(v:Value)(m:List Int)(w:World)(hf:Ef w a f)(hv:ME w v m)(A:m.length=a.n):
  Calls prog 91 #[H (LY a),v] w fun e w'=>jE w w' a.n (f.Ec m) e:=by
 have aa:JP (f.Ec m=(xF a.n).foldl (oT f.N m) (LH a.n)):=by unfold JP Ey.Ec;rw[hf.len,A]
 obtain⟨va,vc,rfl,ax⟩:=hv.form;have af:0<a.n->∃g,va=O ⟨g,0,I⟩/\g<K (V w)/\∀i,i<a.n->w.cell? ⟨g,i,I⟩=O (S T (m.getD i 0)):=fun h0=>by
  obtain⟨g,e1,e2,e3⟩:=ax (by omega);exact⟨g,e1,e2,fun i hi=>by rw[eI m i (by omega)];exact e3 i (by omega)⟩
 rw[A];obtain⟨x,c,ac,hx⟩:=hf.form;have C:=hf.n64;have au:=hf.len;obtain⟨n,ev,g1,g2,g3,g4,g5,g6,g7,g8,g9⟩:=a;simp only at ac C au hx;subst ac;simp only[LY];simp only at aa A af;obtain⟨k0,k1,aG,ab⟩:=hJ w #[U x n c,JQ g1 n n,JQ g2 n n,JQ g3 n n,JQ g4 n n,JQ g5 n n,JQ g6 n n,JQ g7 n n,JQ g8 n n,JQ g9 n n] #[U I 0 0] 78 76;have R4:=JO (hf.r4.X ab);have D:=JO ab;go_enter func91,ntmps91;go_upto_region 1 with fail
 generalize hE:(w.alloc (Y #[U x n c,JQ g1 n n,JQ g2 n n,JQ g3 n n,JQ g4 n n,JQ g5 n n,JQ g6 n n,JQ g7 n n,JQ g8 n n,JQ g9 n n] 78)).alloc (Y #[U I 0 0] 76)=W0 at*;have ay:=aB k0 0 _ Z;have am:=aB k0 4 _ Z;obtain⟨c1,f1,l1⟩:=bF k1;have l0:K (V w)<K (V W0):=by omega
 have K1:=JO k1;go_wp2_with(first|(go_at_call 109;refine(jA n _ C).mono ?_;rintro e w1 ⟨gn,rfl,aw,ap,ar,ao,an⟩;have HS:=JO (Fill.start ⟨aw,ar,ao⟩ ap an)));go_loopw[16] (fun i wr=>∃(k:Nat) (t:List Nat),k<=n/\i=S T k/\JP (t=(xF k).foldl (oT f.N m) (LH n))/\JP (Fill W0 wr (K (V w1)) gn n t)) fun i _=>n-(intOf i).toNat
 case atStart=>exact⟨0,_,x4 _,Z,Z,HS⟩
 case round =>
  obtain⟨k,t,hk,rfl,HT,W⟩:=hrel;obtain⟨b0,b1,b2⟩:=bF W.o.box;by_cases hlt:k<n
  ·have aD:(k:Int)<(n:Int):=by omega
   obtain⟨M,rfl,ad,ae⟩:=af (by omega);have B:M<K (V W0):=by omega
   have aj:JP (W0.cell? ⟨M,k,I⟩=O (S T (m.getD k 0))):=(D.o.cell (p:=⟨M,k,I⟩) ad).trans (ae k (by omega));have al:JP ((xF (k+1)).foldl (oT f.N m) (LH n)=(xF n).foldl (pT f.N m k) t):=by unfold JP;rw[fP,<- HT.o];unfold oT;rw[A]
   have ag:JP (∀q u,pT f.N m k u q=cM (bB f.N k q&&decide (m.getD k 0<m.getD q 0)) u k q):=fun q u=>Z
   generalize av:m.getD k 0=pk at*;clear av;have az:=W.o.cell (p:=⟨M,k,I⟩) B aj.o;go_wp2;go_loopw[23] (fun j wq=>∃(q:Nat) (u:List Nat),q<=n/\j=S T q/\JP (u=(xF q).foldl (pT f.N m k) t)/\JP (Fill W0 wq (K (V w1)) gn n u)) fun j _=>n-(intOf j).toNat
   case atStart=>exact⟨0,t,x4 _,Z,Z,W⟩
   case round =>
    obtain⟨q,u,hq,rfl,HU,E⟩:=hrel;by_cases hql:q<n
    ·have aF:(q:Int)<(n:Int):=by omega
     have ak:JP (W0.cell? ⟨M,q,I⟩=O (S T (m.getD q 0))):=(D.o.cell (p:=⟨M,q,I⟩) ad).trans (ae q (by omega));have L:JP ((xF (q+1)).foldl (pT f.N m k) t=cM (bB f.N k q&&decide (pk<m.getD q 0)) u k q):=by unfold JP;rw[fP,<- HU.o];exact ag.o q u
     generalize aE:m.getD q 0=pq at*;have aA:=E.o.cell (p:=⟨M,q,I⟩) B ak.o;have aC:=E.o.cell (p:=⟨K (V w),4,I⟩) l0 am;have J:=JO (R4.o.X E.o.bel)
     cases z1:bB f.N (k:Int) (q:Int)
     ·have r:JP (u=(xF (q+1)).foldl (pT f.N m k) t):=by unfold JP;rw[L.o,z1];rfl
      go_wp2_with(first|(go_at_call 112;refine(jY g4 n f.N (k:Int) (q:Int) _ J.o).mono ?_;rintro e wb ⟨rfl,s⟩;rw[z1];have d:=JO (E.o.keep s))|(go_at_call 110;refine(jM (K (V w1)) 0 gn n u (k:Int) (q:Int) _ d.o.gS d.o.rel.fits).mono ?_;rintro e wc ⟨rfl,z,y⟩;have G:=JO (d.o.grown y z)));go_roundw
      case rel=>exact⟨q+1,u,by omega,by go_num,r,d⟩
      case measure=>simp[intOf];omega
     by_cases hz:pk<pq
     ·have z4:decide (pk<pq)=true:=decide_eq_true hz;have r:JP (cL u (k:Int) (q:Int)=(xF (q+1)).foldl (pT f.N m k) t):=by unfold JP;rw[L.o,z1,z4];rfl
      go_wp2_with(first|(go_at_call 112;refine(jY g4 n f.N (k:Int) (q:Int) _ J.o).mono ?_;rintro e wb ⟨rfl,s⟩;rw[z1];have d:=JO (E.o.keep s))|(go_at_call 110;refine(jM (K (V w1)) 0 gn n u (k:Int) (q:Int) _ d.o.gS d.o.rel.fits).mono ?_;rintro e wc ⟨rfl,z,y⟩;have G:=JO (d.o.grown y z)));go_roundw
      case rel=>exact⟨q+1,_,by omega,by go_num,r,G⟩
      case measure=>simp[intOf];omega
     ·have z4:decide (pk<pq)=false:=decide_eq_false hz;have r:JP (u=(xF (q+1)).foldl (pT f.N m k) t):=by unfold JP;rw[L.o,z1,z4];rfl
      go_wp2_with(first|(go_at_call 112;refine(jY g4 n f.N (k:Int) (q:Int) _ J.o).mono ?_;rintro e wb ⟨rfl,s⟩;rw[z1];have d:=JO (E.o.keep s))|(go_at_call 110;refine(jM (K (V w1)) 0 gn n u (k:Int) (q:Int) _ d.o.gS d.o.rel.fits).mono ?_;rintro e wc ⟨rfl,z,y⟩;have G:=JO (d.o.grown y z)));go_roundw
      case rel=>exact⟨q+1,u,by omega,by go_num,r,d⟩
      case measure=>simp[intOf];omega
    ·have ai:JP (u=(xF (k+1)).foldl (oT f.N m) (LH n)):=by unfold JP;rw[al.o,HU.o,show q=n by omega]
     go_wp2;go_roundw
     case rel=>exact⟨k+1,u,by omega,by go_num,ai,E⟩
     case measure=>simp[intOf];omega
  ·have aq:k=n:=by omega
   have ah:JP (t=f.Ec m):=by unfold JP;rw[aa.o,HT.o,aq]
   obtain⟨q1,q2⟩:=W.o.o D.o K1.o (by omega);rw[ah.o]at q1;go_wp2_with(first|(refine iS (.tmp 5) Z Z (K (V w1)) _ Z W.o.box ?_)|(refine pG (.tmp 4) (.tmp 43) Z Z (K (V w)+1) _ _ Z Z ((W.o.bel.block _ l1).trans K1.o) Z ?_));refine jL (p:=4) (K (V w)+1) _ (by kernel_rfl) Z q2 Z q1
end Go.Proofs.YtlikcongbhhpfaaGreatDoor
