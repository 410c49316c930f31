import Derived.Deep.CutRange
import Derived.Test.YtonodfjdiepglaaGreatDoorL10
import Derived.Test.YtonodfjdiepglaaGreatDoorL13
set_option linter.unusedVariables false
set_option linter.unusedSimpArgs false
set_option maxHeartbeats 12800000
namespace Go.Proofs.YtonodfjdiepglaaGreatDoor
open Go Go.RowKit Go.Proofs.Tryz P Q R
set_option maxRecDepth 1000000
variable {W0 w w' w1:World} {b b3 c g gn n:Nat} {v vr:Value} {l t:List Nat} {f:EE}
open List renaming range→xF
open Go.RowKit.Below renaming heap_alloc→xR,refl→x4,heap_setCell→x7
open Nat renaming le_refl→xW,zero_le→x5,lt_of_lt_of_le→x6
structure Ex (w wr:World) (b3 gn n:Nat) (vr:Value) (l:List Nat):Prop where
 c1:wr.heap[w.heap.size]?=some (.cells #[vr] 73 (0,0))
 c2:wr.heap[w.heap.size+1]?=some (.cells #[.slice none 0 0] 73 (0,0))
 c3:wr.heap[b3]?=some (.cells #[.slice (some ⟨gn,0,none⟩) n n] 73 (0,0))
 st:zAo wr gn l
 bl:Below w.heap.size w wr
 gl:w.heap.size+2<=gn
 gb:gn<b3
theorem Ex.keep {wr:World} (h:Ex w wr b3 gn n vr l) (e:Below wr.heap.size wr w'):Ex w w' b3 gn n vr l:=by
 have lt:∀ {b:Nat} {o:Obj},wr.heap[b]?=some o->b<wr.heap.size:=fun h=>(Array.getElem?_eq_some_iff.1 h).1
 have d:∀ {b:Nat} {o:Obj},wr.heap[b]?=some o->w'.heap[b]?=some o:=fun a=>by rw[e.block _ (lt a)];exact a
 exact⟨d h.c1,d h.c2,d h.c3,h.st.below e,h.bl.trans (e.mono h.bl.size),h.gl,h.gb⟩
theorem Ex.grown {wr:World} {k:List Nat} (h:Ex w wr b3 gn n vr l) (a:wr.grownBy w' (some gn)) (m:zAo w' gn k):Ex w w' b3 gn n vr k:=by
 have lt:∀ {b:Nat} {o:Obj},wr.heap[b]?=some o->b<wr.heap.size:=fun h=>(Array.getElem?_eq_some_iff.1 h).1
 have p:=h.gl;have q:=h.gb;have e:∀ {b:Nat} {o:Obj},wr.heap[b]?=some o->b≠gn->w'.heap[b]?=some o:=fun d j=>by rw[a.block _ (lt d) (by simpa using j)];exact d
 refine⟨e h.c1 (by omega),e h.c2 (by omega),e h.c3 (by omega),m,?_,h.gl,h.gb⟩;exact h.bl.trans ⟨a.os,a.tape,a.output,a.size,fun i r=>a.block i (by have:=h.bl.size;omega) (by simp;omega)⟩
theorem Ex.start (d:zAo w1 gn l) (e:w.heap.size+2<=gn) (a:Below (w.heap.size+2) ((w.alloc (.cells #[vr] 73)).alloc (.cells #[.slice none 0 0] 73)) w1) :
  Ex w (w1.alloc (.cells #[.slice (some ⟨gn,0,none⟩) n n] 73)) w1.heap.size gn n vr l:=by
 have j:=a.size;simp at j;have A:∀ b,b<w.heap.size+2->(w1.alloc (.cells #[.slice (some ⟨gn,0,none⟩) n n] 73)).heap[b]?=((w.alloc (.cells #[vr] 73)).alloc (.cells #[.slice none 0 0] 73)).heap[b]?:=fun b i=>by
  rw[xR _ _ _ (by omega),a.block b i]
 refine⟨?_,?_,heap_alloc_new w1 _,d.alloc _,?_,e,d.lt⟩
 ·rw[A _ (by omega),xR _ _ _ (by simp)];exact heap_alloc_new w _
 ·rw[A _ (by omega)];have:=heap_alloc_new (w.alloc (.cells #[vr] 73)) (.cells #[.slice none 0 0] 73);simpa using this
 ·exact ((((x4 w.heap.size w).alloc (xW _) _).alloc (by simp) _).trans (a.mono (by omega))).alloc (by omega) _
theorem Ex.out {wr:World} (h:Ex w wr b3 gn n vr l) (d:l.length=n) (a:Fits l):mX w (wr.setCell ⟨w.heap.size+1,0,none⟩ (.slice (some ⟨gn,0,none⟩) n n)) n l (.returned (.agg #[.slice (some ⟨gn,0,none⟩) n n]))/\(wr.setCell ⟨w.heap.size+1,0,none⟩ (.slice (some ⟨gn,0,none⟩) n n)).heap[w.heap.size+1]?=some (.cells #[.slice (some ⟨gn,0,none⟩) n n] 73 (0,0)):=by
 have e:=h.gl;refine⟨⟨gn,rfl,h.st.aA (x7 _ _ _ _ (by simp;omega)),by omega,d,a,h.bl.setCell (p:=⟨w.heap.size+1,0,none⟩) (by simp) _⟩,?_⟩;rw[bH h.c2];rfl
theorem Ex.rel {wr:World} (h:Ex w wr b3 gn n vr l) (a:l.length=n):kT wr b3 0 gn n l:=by
 obtain⟨z0,_,d⟩:=cE h.c3;exact⟨z0,h.st,a,d,by have:=h.gb;omega⟩
theorem zHO (a n:Nat) (r:List Nat) (w:World) (Z:zAo w a r) (X:r.length=n) (G:Fits r) :
  Calls prog 87 #[.agg #[.slice (some ⟨a,0,none⟩) n n]] w fun e w'=>mX w w' n (kU r) e:=by
 have D:n<=64:=by have:=G.len;omega
 have HR:=zAa Z;have F:=zAa X;have U:=Z.lt;have y:=zAa G;have N:Hid (kU r=(xF n).foldl (oE r) (aS n)):=by unfold Hid kU;rw[X]
 have C:=zAa (kJU (r:=r) G.len);clear Z X G;go_enter func87,ntmps87;go_wp2_with (first | (go_at_call 74;refine (iT n _ D).mono ?_;rintro e w1 ⟨gn,rfl,E,T,W,O,o⟩;have ab:=o.size;have L:=zAa (Ex.start (n:=n) E (by simpa using T) (by simpa using o));simp at ab;clear E o;obtain⟨I,J,H⟩:=cE L.out.c1;have ac:=L.out.gb));go_loopw [13] (fun i wr=>∃ k:Nat,∃ t:List Nat,k<=n/\i=.int .i64 k/\Hid (t=(xF k).foldl (oE r) (aS n))/\Hid (Fits t/\t.length=n)/\Hid (Ex w wr w1.heap.size gn n (.slice (some ⟨a,0,none⟩) n n) t)) (fun i _=>n-(intOf i).toNat)
 case atStart=>exact⟨0,_,x5 _,rfl,rfl,⟨O,W⟩,L⟩
 case round =>
  clear I J H;obtain⟨k,t,hk,rfl,HT,HO,d⟩:=hrel;obtain⟨I,J,H⟩:=cE d.out.c1;obtain⟨x2,y2,l2⟩:=cE d.out.c2;by_cases hlt:k<n
  ·have ad:(k:Int)<(n:Int):=by omega
   go_wp2;go_loopw [19] (fun j wq=>∃ q:Nat,∃ u:List Nat,q<=n/\j=.int .i64 q/\Hid (u=(xF q).foldl (mO r k) t)/\Hid (Fits u/\u.length=n)/\Hid (Ex w wq w1.heap.size gn n (.slice (some ⟨a,0,none⟩) n n) u)) (fun j _=>n-(intOf j).toNat)
   case atStart=>exact⟨0,t,x5 _,rfl,rfl,HO,d⟩
   case round =>
    clear I J H x2 y2 l2;obtain⟨q,u,hq,rfl,HU,x,m⟩:=hrel;obtain⟨I,J,H⟩:=cE m.out.c1;by_cases hql:q<n
    ·have ae:(q:Int)<(n:Int):=by omega
     have B:Hid (zAo wr a r):=HR.out.aA (m.out.bl.block a U);have z:Hid ((xF (q+1)).foldl (mO r k) t=mO r k u q):=by unfold Hid;rw[fI,HU.out]
     cases hh:bR r (k:Int) (q:Int)
     ·have HB:Hid (u=(xF (q+1)).foldl (mO r k) t):=by unfold Hid;rw[z.out];unfold mO;rw[hh];rfl
      go_wp2_with (first | (refine gY (.tmp 1) rfl rfl w.heap.size _ rfl m.out.c1 ?_) | (go_at_call 80;refine (oF a n r _ _ _ B.out F.out.symm y.out).mono ?_;rintro e wb ⟨rfl,s⟩;rw[hh]));go_roundw
      case rel=>exact⟨q+1,u,by omega,by go_num,HB,x,m.out.keep s⟩
      case measure=>simp[intOf];omega
     ·have HB:Hid (bJ u (q:Int) (k:Int)=(xF (q+1)).foldl (mO r k) t):=by unfold Hid;rw[z.out];unfold mO;rw[hh];rfl
      go_wp2_with (first | (refine gY (.tmp 1) rfl rfl w.heap.size _ rfl m.out.c1 ?_) | (go_at_call 80;refine (oF a n r _ _ _ B.out F.out.symm y.out).mono ?_;rintro e wb ⟨rfl,s⟩;rw[hh];have A:=zAa (m.out.keep s)) | (go_at_call 75;refine (jH w1.heap.size 0 gn n u (q:Int) (k:Int) _ (A.out.rel x.out.2) x.out.1).mono ?_;rintro e wc ⟨rfl,aa,S⟩;have K:=zAa (A.out.grown S aa)));go_roundw
      case rel=>exact⟨q+1,_,by omega,by go_num,HB,⟨lG x.out.1 _ _,by rw[jX];exact x.out.2⟩,K⟩
      case measure=>simp[intOf];omega
    ·have Y:q=n:=by omega
     have M:Hid (u=(xF (k+1)).foldl (oE r) (aS n)):=by
      unfold Hid;rw[fI,<- HT.out,HU.out,Y];unfold oE;rw[F.out]
     go_wp2;go_roundw
     case rel=>exact⟨k+1,u,by omega,by go_num,M,x,m⟩
     case measure=>simp[intOf];omega
  ·have V:k=n:=by omega
   have HE:Hid (t=kU r):=by unfold Hid;rw[N.out,HT.out,V]
   rw[HE.out] at d;obtain⟨q1,q2⟩:=d.out.out (by rw[C.out.2,F.out]) C.out.1;have Q1:=zAa q1;have Q2:=zAa q2;clear q1 q2;go_wp2_with (first | (refine gY (.tmp 3) rfl rfl w1.heap.size _ rfl d.out.c3 ?_) | (refine pD (.tmp 2) (.tmp 31) rfl rfl (w.heap.size+1) _ _ rfl rfl d.out.c2 rfl ?_));refine jT (p:=2) (w.heap.size+1) _ (by kernel_rfl) rfl Q2.out rfl Q1.out
theorem zEN (s n:Nat) (r:List Nat) (w:World) (Y:zAo w s r) (U:r.length=n) (G:Fits r) :
  Calls prog 79 #[.agg #[.slice (some ⟨s,0,none⟩) n n]] w fun e w'=>mX w w' n (jD r) e:=by
 have ac:n<=64:=by have:=G.len;omega
 have af:=Y.lt;have HR:Hid (zAo ((w.alloc (.cells #[.slice (some ⟨s,0,none⟩) n n] 73)).alloc (.cells #[.slice none 0 0] 73)) s r):=(Y.alloc _).alloc _;have I:=zAa U;have A:=zAa G;have L:Hid (jD r=(xF n).foldl (jR n) (cS r r)):=by unfold Hid jD;rw[U]
 have C:=zAa (kJO G);clear Y U G;go_enter func79,ntmps79;go_wp2_with (first | (go_at_call 45;refine (zKI s s n r r _ HR.out HR.out I.out I.out A.out A.out).mono ?_;rintro e w1 ⟨gn,rfl,D,N,T,M,y⟩;have Z:=y.size;have J:=zAa (Ex.start (n:=n) D (by simpa using N) (by simpa using y));simp at Z;clear D y;obtain⟨F,H,E⟩:=cE J.out.c3;have ab:=J.out.gb));go_loopw [12] (fun i wr=>∃ k:Nat,∃ t:List Nat,k<=n/\i=.int .i64 k/\Hid (t=(xF k).foldl (jR n) (cS r r))/\Hid (Fits t/\t.length=n)/\Hid (Ex w wr w1.heap.size gn n (.slice (some ⟨s,0,none⟩) n n) t)) (fun i _=>n-(intOf i).toNat)
 case atStart=>exact⟨0,_,x5 _,rfl,rfl,⟨M,T⟩,J⟩
 case round =>
  clear F H E;obtain⟨k,t,hk,rfl,HT,HO,x⟩:=hrel;obtain⟨F,H,E⟩:=cE x.out.c3;obtain⟨x2,y2,l2⟩:=cE x.out.c2;by_cases hlt:k<n
  ·have ah:(k:Int)<(n:Int):=by omega
   go_wp2;go_loopw [18] (fun j wq=>∃ q:Nat,∃ u:List Nat,q<=n/\j=.int .i64 q/\Hid (u=(xF q).foldl (iJ k) t)/\Hid (Fits u/\u.length=n)/\Hid (Ex w wq w1.heap.size gn n (.slice (some ⟨s,0,none⟩) n n) u)) (fun j _=>n-(intOf j).toNat)
   case atStart=>exact⟨0,t,x5 _,rfl,rfl,HO,x⟩
   case round =>
    clear F H E x2 y2 l2;obtain⟨q,u,hq,rfl,HU,a,m⟩:=hrel;obtain⟨F,H,E⟩:=cE m.out.c3;have ae:=m.out.gl;have ad:=m.out.gb;by_cases hql:q<n
    ·have ai:(q:Int)<(n:Int):=by omega
     have B:Hid ((xF (q+1)).foldl (iJ k) t=iJ k u q):=by unfold Hid;rw[fI,HU.out]
     have S:k<u.length:=by rw[a.out.2];exact hlt
     have X:q<u.length:=by rw[a.out.2];exact hql
     cases hh:bR u (q:Int) (k:Int)
     ·have HB:Hid (u=(xF (q+1)).foldl (iJ k) t):=by unfold Hid;rw[B.out];unfold iJ;rw[hh];rfl
      go_wp2_with (first | (refine gY (.tmp 3) rfl rfl w1.heap.size _ rfl m.out.c3 ?_) | (go_at_call 80;refine (oF gn n u _ _ _ m.out.st a.out.2.symm a.out.1).mono ?_;rintro e wb ⟨rfl,d⟩;rw[hh]));go_roundw
      case rel=>exact⟨q+1,u,by omega,by go_num,HB,a,m.out.keep d⟩
      case measure=>simp[intOf];omega
     ·have HB:Hid (u.set q (cJ u (q:Int) ||| cJ u (k:Int))=(xF (q+1)).foldl (iJ k) t):=by unfold Hid;rw[B.out];unfold iJ;rw[hh];rfl
      have aa:=bits_or_u64_nat (cJ u (q:Int)) (cJ u (k:Int)) (hZ a.out.1 _) (hZ a.out.1 _);have z:Hid (∀ W:World,Below wr.heap.size wr W->Ex w (W.setCell ⟨gn,q,none⟩ (.int .u64 ((cJ u (q:Int) ||| cJ u (k:Int):Nat)))) w1.heap.size gn n (.slice (some ⟨s,0,none⟩) n n) (u.set q (cJ u (q:Int) ||| cJ u (k:Int)))):=fun W hb =>
       (m.out.keep hb).grown (gD (jM _ _) _ _) ((m.out.st.below hb).set q _)
      go_wp2_with (first | (refine gY (.tmp 3) rfl rfl w1.heap.size _ rfl m.out.c3 ?_) | (go_at_call 80;refine (oF gn n u _ _ _ m.out.st a.out.2.symm a.out.1).mono ?_;rintro e wb ⟨rfl,d⟩;rw[hh];have o:=zAa (m.out.keep d);have aj:=aC d E F;have cq:=o.out.st.fQ q X;have ck:=o.out.st.fQ k S;have fq:=o.out.st.free q;have ag:=o.out.st.lt));go_region
      all_goals
       go_wp2;go_roundw
       case rel=>exact⟨q+1,_,by omega,by go_num,HB,⟨DF a.out.1 _ _ (mM (hZ a.out.1 _) (hZ a.out.1 _)),by rw[List.length_set];exact a.out.2⟩,by first | exact z.out _ d.drew | exact z.out _ d⟩
       case measure=>simp[intOf];omega
    ·have V:q=n:=by omega
     have K:Hid (u=(xF (k+1)).foldl (jR n) (cS r r)):=by
      unfold Hid;rw[fI,<- HT.out,HU.out,V];rfl
     go_wp2;go_roundw
     case rel=>exact⟨k+1,u,by omega,by go_num,K,a,m⟩
     case measure=>simp[intOf];omega
  ·have O:k=n:=by omega
   have HE:Hid (t=jD r):=by unfold Hid;rw[L.out,HT.out,O]
   rw[HE.out] at x;obtain⟨q1,q2⟩:=x.out.out (by rw[C.out.2,I.out]) C.out.1;have Q1:=zAa q1;have Q2:=zAa q2;clear q1 q2;go_wp2_with (first | (refine gY (.tmp 3) rfl rfl w1.heap.size _ rfl x.out.c3 ?_) | (refine pD (.tmp 2) (.tmp 39) rfl rfl (w.heap.size+1) _ _ rfl rfl x.out.c2 rfl ?_));refine jT (p:=2) (w.heap.size+1) _ (by kernel_rfl) rfl Q2.out rfl Q1.out
theorem zGv (d n:Nat) (r:List Nat) (w:World) (o:zAo w d r) (s:r.length=n) (q:Fits r) :
  Calls prog 76 #[.agg #[.slice (some ⟨d,0,none⟩) n n]] w fun e w'=>e=.returned (.bool (cK r))/\Below w.heap.size w w':=by
 have z:=o.lt;have x:=zAa (o.alloc (.cells #[.slice (some ⟨d,0,none⟩) n n] 73));have u:=zAa s;have i:=zAa q;clear o s q;go_enter func76,ntmps76;go_wp2_with (first | (go_at_call 79;refine (zEN d n r _ x.out u.out i.out).mono ?_;rintro e w1 ⟨gn,rfl,p,y,m,k,a⟩) | (go_at_call 88;refine (zFJ gn n _ _ p m k).mono ?_;rintro e A ⟨rfl,j⟩));go_ret;exact⟨rfl,((x4 w.heap.size w).alloc (xW _) _).trans ((a.mono (by simp)).trans (j.mono (by have:=a.size;simp at this;omega)))⟩
def zAG (l:List Ev):List Value:=l.flatMap fun e=>(aI e).toList
theorem kP (l:List Ev):(zAG l).length=l.length*10:=by
 induction l with
 | nil=>rfl
 | cons a r ih=>simp[zAG,aI] at *;omega
theorem zDk (a b:List Ev):zAG (a++b)=zAG a++zAG b:=by simp[zAG]
theorem zEO (e:Ev):zAG [e]=(aI e).toList:=by simp[zAG]
theorem zEP (l:List Ev):∀ (k:Nat) (h:k<l.length) (i:Nat),i<10->(zAG l)[k*10+i]?=(aI l[k]).toList[i]?:=by
 induction l with
 | nil=>intro k h;simp at h
 | cons a r ih =>
  intro k h i d;have e:zAG (a::r)=(aI a).toList++zAG r:=by simp[zAG]
  have j:(aI a).toList.length=10:=rfl;rw[e]
  cases k with
  | zero =>
   rw[List.getElem?_append_left (by omega)];simp
  | succ k =>
   rw[List.getElem?_append_right (by omega),j,show (k+1)*10+i-10=k*10+i by omega,ih k (by simpa using h) i d];simp
theorem zEm (l:List Ev):∀ u∈zAG l,u.oneCell'=true:=by
 intro u d;simp only[zAG,List.mem_flatMap,aI] at d;obtain⟨e,_,a⟩:=d;simp at a
 rcases a with rfl | rfl | rfl | rfl | rfl | rfl | rfl | rfl | rfl | rfl<;>rfl
def zAV (w:World) (v:Value) (es:List Ev):Prop:=w.ownsRow 0 146 10 v es.length (zAG es)
theorem zAV.keep {es:List Ev} (h:zAV w v es) (a:∀ k,k<w.heap.size->w'.heap[k]?=w.heap[k]?):zAV w' v es:=aX h (fun k e=>a k (h.lt k e).2)
theorem zAV.below {es:List Ev} (h:zAV w v es) (a:Below w.heap.size w w'):zAV w' v es:=h.keep fun k d=>a.block k d
theorem zAV.form {es:List Ev} (h:zAV w v es):∃ a c,v=.slice a es.length c/\(0<es.length->∃ b,a=some ⟨b,0,none⟩/\b<w.heap.size):=by
 rcases h.2 with ⟨e,i⟩ | ⟨k,c,d,e,_⟩
 ·exact⟨none,0,by rw[e,i],fun h=>by omega⟩
 ·exact⟨_,c,e,fun _=>⟨k,rfl,(h.lt k (by rw[e];rfl)).2⟩⟩
theorem zAV.range {es:List Ev} (h:zAV w (.slice (some ⟨b,0,none⟩) n c) es) (i:n=es.length) (k:Nat) (e:k<es.length):w.rangeAt b (k*10) (aI es[k]).toList:=by
 intro j v a;have d:j<10:=(List.getElem?_eq_some_iff.1 a).1;unfold zAV at h;rw[i] at h;rw[h.cellAt _ (by omega),zEP es k e j d];exact a
theorem tE (es:List Ev) (k:Nat) (h:k<es.length):ev es k=es[k]:=by simp[ev,h]
theorem zAV.cM {es:List Ev} (h:zAV w (.slice (some ⟨b,0,none⟩) n c) es) (d:n=es.length) (k:Nat) (a:k<es.length):w.rangeAt b (k*10) (aI (ev es k)).toList:=by
 rw[tE es k a];exact h.range d k a
theorem cQ {i:Array Oper} {rest:List Oper} {d:Oper} {a:Act} {R:Exit->Act->World->Prop} (x:Operand) (j:d.guard=none) (k:d.op=.load 146 x)
  (b o:Nat) (e:Ev) (p:a.eval x=.pointer (some ⟨b,o,none⟩)) (m:w.rangeAt b o (aI e).toList)
  (h:wpList prog i R rest (a.put d.dst (.agg #[.int .i64 e.kind,.int .i64 e.thread,.int .i64 e.block,.int .i64 e.var,.int .i64 e.value,.int .i64 e.order,.int .i64 e.scope,.int .i64 e.bars,.bool e.step,.int .u64 (e.Ef:Nat)])) w):wpList prog i R (d::rest) a w :=
 wpList_load_mid j _ x k b o p (aI e).toList _ m underlying146 rfl (by kernel_rfl) h
structure Eh (w:World) (g n:Nat) (l:List Nat):Prop where
 at_:zAo w g l
 len:l.length=n
 fits:Fits l
theorem Eh.lt (h:Eh w g n l):g<w.heap.size:=h.at_.lt
theorem Eh.below (h:Eh w g n l) (a:Below w.heap.size w w'):Eh w' g n l:=⟨h.at_.below a,h.len,h.fits⟩
theorem Eh.keep (h:Eh w g n l) (a:∀ k,k<w.heap.size->w'.heap[k]?=w.heap[k]?):Eh w' g n l:=⟨h.at_.aA (a g h.lt),h.len,h.fits⟩
structure FA where
 n:Nat
 ev:Value
 g1:Nat
 g2:Nat
 g3:Nat
 g4:Nat
 g5:Nat
 g6:Nat
 g7:Nat
 g8:Nat
 g9:Nat
def zAn (a:FA):Array Value:=#[a.ev,.slice (some ⟨a.g1,0,none⟩) a.n a.n,.slice (some ⟨a.g2,0,none⟩) a.n a.n,.slice (some ⟨a.g3,0,none⟩) a.n a.n,.slice (some ⟨a.g4,0,none⟩) a.n a.n,.slice (some ⟨a.g5,0,none⟩) a.n a.n,.slice (some ⟨a.g6,0,none⟩) a.n a.n,.slice (some ⟨a.g7,0,none⟩) a.n a.n,.slice (some ⟨a.g8,0,none⟩) a.n a.n,.slice (some ⟨a.g9,0,none⟩) a.n a.n]
structure Ej (w:World) (a:FA) (f:EE):Prop where
 ev:zAV w a.ev f.Ea
 len:f.Ea.length=a.n
 n64:a.n<=64
 r1:Eh w a.g1 a.n f.ahead
 r2:Eh w a.g2 a.n f.strong
 r3:Eh w a.g3 a.n f.gathers
 r4:Eh w a.g4 a.n f.fences
 r5:Eh w a.g5 a.n f.rows
 r6:Eh w a.g6 a.n f.Ef
 r7:Eh w a.g7 a.n f.halves
 r8:Eh w a.g8 a.n f.sends
 r9:Eh w a.g9 a.n f.takes
theorem Ej.keep {a:FA} (h:Ej w a f) (d:∀ k,k<w.heap.size->w'.heap[k]?=w.heap[k]?):Ej w' a f :=
 ⟨h.ev.keep d,h.len,h.n64,h.r1.keep d,h.r2.keep d,h.r3.keep d,h.r4.keep d,h.r5.keep d,h.r6.keep d,h.r7.keep d,h.r8.keep d,h.r9.keep d⟩
theorem Ej.below {a:FA} (h:Ej w a f) (d:Below w.heap.size w w'):Ej w' a f:=h.keep fun k e=>d.block k e
theorem Ej.form {a:FA} (h:Ej w a f):∃ x c,a.ev=.slice x a.n c/\(0<a.n->∃ b,x=some ⟨b,0,none⟩/\b<w.heap.size):=by
 have:=h.ev.form;rw[h.len] at this;exact this
theorem zFn {P:Program} (w:World) (u F G e:TypeId) (b o d m:Nat) (a:Addr) (k q s:Nat) (cs:List Value)
  (E:P.underlying u=some (.slice e)) (x:(P.info? e).map (·.size)=some s) (D:cs.length=Nat.min k d*s)
  (p:∀ j v,cs[j]?=some v->w.cell? (a.add j)=some v) (z:∀ j,j<cs.length->(w.cell? ⟨b,o+j,none⟩).isSome=true) (A:∀ j,j<cs.length->w.frozen? ⟨b,o+j,none⟩=false) (y:∀ v∈cs,v.oneCell'=true) :
  (Builtin.copy_ #[u,F] G #[.slice (some ⟨b,o,none⟩) d m,.slice (some a) k q]).run P w=.ok (goInt (Nat.min k d)) (w.setCells b o cs):=by
 have C:=run_loadCells_list (P:=P) w a cs p;have r:=run_storeCells_cells (P:=P) b o cs 0 w (by simpa using z) (by simpa using A) y
 cases hq:P.info? e with
 | none=>simp[hq] at x
 | some i =>
  have B:i.size=s:=by simpa [hq] using x
  simp[Builtin.copy_,run_underlying E,Builtin.lenOf,Builtin.firstCells,sizeOf,typeInfo,hq,B,<- D,C,r]
def jC (w w':World) (n:Nat) (l:List Nat) (e:Ending):Prop:=∃ g,e=.returned (.agg #[.slice (some ⟨g,0,none⟩) n n])/\Eh w' g n l/\Below w.heap.size w w'
theorem mX.lQ {e:Ending} (h:mX w w' n l e):jC w w' n l e:=by
 obtain⟨g,rfl,a,_,d,i,j⟩:=h;exact⟨g,rfl,⟨a,d,i⟩,j⟩
theorem jS (d a n:Nat) (r o:List Nat) (w:World) (j:Eh w d n r) (i:Eh w a n o) :
  Calls prog 45 #[.agg #[.slice (some ⟨d,0,none⟩) n n],.agg #[.slice (some ⟨a,0,none⟩) n n]] w fun e w'=>jC w w' n (cS r o) e :=
 (zKI d a n r o w j.at_ i.at_ j.len i.len j.fits i.fits).mono fun _ _ h=>h.lQ
theorem sJ (d a n:Nat) (r o:List Nat) (w:World) (j:Eh w d n r) (i:Eh w a n o) :
  Calls prog 77 #[.agg #[.slice (some ⟨d,0,none⟩) n n],.agg #[.slice (some ⟨a,0,none⟩) n n]] w fun e w'=>jC w w' n (fV r o) e :=
 (zKY d a n r o w j.at_ i.at_ j.len i.len j.fits i.fits).mono fun _ _ h=>h.lQ
theorem jP (d a n:Nat) (r o:List Nat) (w:World) (j:Eh w d n r) (i:Eh w a n o) :
  Calls prog 78 #[.agg #[.slice (some ⟨d,0,none⟩) n n],.agg #[.slice (some ⟨a,0,none⟩) n n]] w fun e w'=>jC w w' n (kAg r o) e :=
 (zKe d a n r o w j.at_ i.at_ j.len i.len j.fits i.fits).mono fun _ _ h=>h.lQ
theorem zER (a n:Nat) (r:List Nat) (w:World) (d:Eh w a n r) :
  Calls prog 87 #[.agg #[.slice (some ⟨a,0,none⟩) n n]] w fun e w'=>jC w w' n (kU r) e :=
 (zHO a n r w d.at_ d.len d.fits).mono fun _ _ h=>h.lQ
theorem zES (a n:Nat) (r:List Nat) (w:World) (d:Eh w a n r) :
  Calls prog 79 #[.agg #[.slice (some ⟨a,0,none⟩) n n]] w fun e w'=>jC w w' n (jD r) e :=
 (zEN a n r w d.at_ d.len d.fits).mono fun _ _ h=>h.lQ
theorem qB (a n:Nat) (r:List Nat) (w:World) (d:Eh w a n r) :
  Calls prog 88 #[.agg #[.slice (some ⟨a,0,none⟩) n n]] w fun e w'=>e=.returned (.bool (bB r))/\Below w.heap.size w w' :=
 zFJ a n r w d.at_ d.len d.fits
theorem zIZ (a n:Nat) (r:List Nat) (w:World) (d:Eh w a n r) :
  Calls prog 89 #[.agg #[.slice (some ⟨a,0,none⟩) n n]] w fun e w'=>e=.returned (.bool (dH r))/\Below w.heap.size w w' :=
 zIY a n r w d.at_ d.len d.fits
theorem zEn (a n:Nat) (r:List Nat) (w:World) (d:Eh w a n r) :
  Calls prog 76 #[.agg #[.slice (some ⟨a,0,none⟩) n n]] w fun e w'=>e=.returned (.bool (cK r))/\Below w.heap.size w w' :=
 zGv a n r w d.at_ d.len d.fits
theorem jU (d n:Nat) (r:List Nat) (a b:Int) (w:World) (i:Eh w d n r) :
  Calls prog 80 #[.agg #[.slice (some ⟨d,0,none⟩) n n],.int .i64 a,.int .i64 b] w fun e w'=>e=.returned (.bool (bR r a b))/\Below w.heap.size w w' :=
 oF d n r a b w i.at_ i.len.symm i.fits
theorem aK {a:World} {B:Nat} (h:Below B w w1) (d:B<=w.heap.size) (k:Below w1.heap.size w1 a):Below B w a:=h.trans (k.mono (Nat.le_trans d h.size))
theorem zGw (a:FA) (f:EE) (q:Nat) (k:List Nat) (w:World) (s:Ej w a f) (z:Eh w q a.n k) :
  Calls prog 42 #[.agg (zAn a),.agg #[.slice (some ⟨q,0,none⟩) a.n a.n]] w fun e w'=>e=.returned (.bool (f.cH k))/\Below w.heap.size w w':=by
 have C:Hid (f.cH k=cK (cS f.Ef k)):=rfl;have m:Hid (∀ o p,Below w.heap.size w ((w.alloc o).alloc p)):=fun o p=>((x4 _ _).alloc (xW _) _).alloc (by simp) _
 have u:=zAa s.r6;have y:=zAa z;obtain⟨x,c,i,F⟩:=s.form;clear s z F;obtain⟨n,ev,H,I,J,K,L,E,M,N,O⟩:=a;simp only at i u y;subst i;simp only[zAn];go_enter func42,ntmps42;go_wp2_with (first
  | (go_at_call 45;refine (jS E q n f.Ef k _ (u.out.below (m.out _ _)) (y.out.below (m.out _ _))).mono ?_;rintro e w1 ⟨G,rfl,j,d⟩;have A:=zAa ((m.out _ _).trans (d.mono (by simp;omega)));have D:=zAa j;clear j d)
  | (go_at_call 76;(refine (zEn G n _ _ D.out).mono ?_;rintro e S ⟨rfl,r⟩;have B:=zAa (aK A.out (xW _) r))))
 go_ret;rw[C.out];exact⟨rfl,B.out⟩
theorem jE (w:World) (a:Array Value) (s:TypeId):(w.alloc (.cells a s)).heap[w.heap.size]?=some (.cells a s (0,0))/\(w.alloc (.cells a s)).heap.size=w.heap.size+1/\Below w.heap.size w (w.alloc (.cells a s)) :=
 ⟨heap_alloc_new w _,by simp,(x4 _ _).alloc (xW _) _⟩
theorem iM (w:World) (a b:Array Value) (s t:TypeId):((w.alloc (.cells a s)).alloc (.cells b t)).heap[w.heap.size]?=some (.cells a s (0,0))/\((w.alloc (.cells a s)).alloc (.cells b t)).heap[w.heap.size+1]?=some (.cells b t (0,0))/\((w.alloc (.cells a s)).alloc (.cells b t)).heap.size=w.heap.size+2/\Below w.heap.size w ((w.alloc (.cells a s)).alloc (.cells b t)):=by
 refine⟨?_,?_,by simp,((x4 _ _).alloc (xW _) _).alloc (by simp) _⟩
 ·rw[xR _ _ _ (by simp)];exact heap_alloc_new w _
 ·have:=heap_alloc_new (w.alloc (.cells a s)) (.cells b t);simpa using this
theorem lD (w:World) (a b c:Array Value) (s t u:TypeId):(((w.alloc (.cells a s)).alloc (.cells b t)).alloc (.cells c u)).heap[w.heap.size]?=some (.cells a s (0,0))/\(((w.alloc (.cells a s)).alloc (.cells b t)).alloc (.cells c u)).heap[w.heap.size+1]?=some (.cells b t (0,0))/\(((w.alloc (.cells a s)).alloc (.cells b t)).alloc (.cells c u)).heap[w.heap.size+2]?=some (.cells c u (0,0)) /\
  (((w.alloc (.cells a s)).alloc (.cells b t)).alloc (.cells c u)).heap.size=w.heap.size+3/\Below w.heap.size w (((w.alloc (.cells a s)).alloc (.cells b t)).alloc (.cells c u)):=by
 obtain⟨d,e,j,i⟩:=iM w a b s t;refine⟨?_,?_,?_,by simp,i.alloc (by simp;omega) _⟩
 ·rw[xR _ _ _ (by omega)];exact d
 ·rw[xR _ _ _ (by omega)];exact e
 ·have:=heap_alloc_new ((w.alloc (.cells a s)).alloc (.cells b t)) (.cells c u);simpa using this
theorem zS (w:World) (a b c d:Array Value) (s t u v:TypeId):((((w.alloc (.cells a s)).alloc (.cells b t)).alloc (.cells c u)).alloc (.cells d v)).heap[w.heap.size]?=some (.cells a s (0,0))/\((((w.alloc (.cells a s)).alloc (.cells b t)).alloc (.cells c u)).alloc (.cells d v)).heap[w.heap.size+1]?=some (.cells b t (0,0))/\((((w.alloc (.cells a s)).alloc (.cells b t)).alloc (.cells c u)).alloc (.cells d v)).heap[w.heap.size+2]?=some (.cells c u (0,0)) /\
  ((((w.alloc (.cells a s)).alloc (.cells b t)).alloc (.cells c u)).alloc (.cells d v)).heap[w.heap.size+3]?=some (.cells d v (0,0))/\((((w.alloc (.cells a s)).alloc (.cells b t)).alloc (.cells c u)).alloc (.cells d v)).heap.size=w.heap.size+4/\Below w.heap.size w ((((w.alloc (.cells a s)).alloc (.cells b t)).alloc (.cells c u)).alloc (.cells d v)):=by
 obtain⟨e,i,j,m,k⟩:=lD w a b c s t u;refine⟨?_,?_,?_,?_,by simp,k.alloc (by simp;omega) _⟩
 ·rw[xR _ _ _ (by omega)];exact e
 ·rw[xR _ _ _ (by omega)];exact i
 ·rw[xR _ _ _ (by omega)];exact j
 ·have:=heap_alloc_new (((w.alloc (.cells a s)).alloc (.cells b t)).alloc (.cells c u)) (.cells d v);simpa using this
theorem zLw (w:World) (a b c d e:Array Value) (s t u v x:TypeId):(((((w.alloc (.cells a s)).alloc (.cells b t)).alloc (.cells c u)).alloc (.cells d v)).alloc (.cells e x)).heap[w.heap.size]?=some (.cells a s (0,0))/\(((((w.alloc (.cells a s)).alloc (.cells b t)).alloc (.cells c u)).alloc (.cells d v)).alloc (.cells e x)).heap[w.heap.size+1]?=some (.cells b t (0,0))/\(((((w.alloc (.cells a s)).alloc (.cells b t)).alloc (.cells c u)).alloc (.cells d v)).alloc (.cells e x)).heap[w.heap.size+2]?=some (.cells c u (0,0)) /\
  (((((w.alloc (.cells a s)).alloc (.cells b t)).alloc (.cells c u)).alloc (.cells d v)).alloc (.cells e x)).heap[w.heap.size+3]?=some (.cells d v (0,0))/\(((((w.alloc (.cells a s)).alloc (.cells b t)).alloc (.cells c u)).alloc (.cells d v)).alloc (.cells e x)).heap[w.heap.size+4]?=some (.cells e x (0,0))/\(((((w.alloc (.cells a s)).alloc (.cells b t)).alloc (.cells c u)).alloc (.cells d v)).alloc (.cells e x)).heap.size=w.heap.size+5/\Below w.heap.size w (((((w.alloc (.cells a s)).alloc (.cells b t)).alloc (.cells c u)).alloc (.cells d v)).alloc (.cells e x)):=by
 obtain⟨i,j,k,m,p,o⟩:=zS w a b c d s t u v;refine⟨?_,?_,?_,?_,?_,by simp,o.alloc (by simp;omega) _⟩
 ·rw[xR _ _ _ (by omega)];exact i
 ·rw[xR _ _ _ (by omega)];exact j
 ·rw[xR _ _ _ (by omega)];exact k
 ·rw[xR _ _ _ (by omega)];exact m
 ·have:=heap_alloc_new ((((w.alloc (.cells a s)).alloc (.cells b t)).alloc (.cells c u)).alloc (.cells d v)) (.cells e x);simpa using this
theorem zET (i d j n:Nat) (cs m u:List Nat) (w:World) (H:Eh w i n cs) (G:Eh w d n m) (I:Eh w j n u) :
  Calls prog 57 #[.agg #[.slice (some ⟨i,0,none⟩) n n],.agg #[.slice (some ⟨d,0,none⟩) n n],.agg #[.slice (some ⟨j,0,none⟩) n n]] w fun e w'=>e=.returned (.bool (zPF cs m u))/\Below w.heap.size w w':=by
 have S:Hid (zPF cs m u=!Q.bB (kAg (cS m u) cs)):=rfl;obtain⟨J,K,L,C,a⟩:=lD w #[.slice (some ⟨i,0,none⟩) n n] #[.slice (some ⟨d,0,none⟩) n n] #[.slice (some ⟨j,0,none⟩) n n] 73 73 73;have U:=zAa (H.below a);have T:=zAa (G.below a);have V:=zAa (I.below a);have M:=zAa a;clear H G I a;go_enter func57,ntmps57;go_upto_region 1 with fail
 generalize Z:(((w.alloc (.cells #[.slice (some ⟨i,0,none⟩) n n] 73)).alloc (.cells #[.slice (some ⟨d,0,none⟩) n n] 73)).alloc (.cells #[.slice (some ⟨j,0,none⟩) n n] 73))=W at *;obtain⟨z,f0,D⟩:=cE J;obtain⟨A,f1,E⟩:=cE K;obtain⟨B,f2,F⟩:=cE L;clear J K L Z C;go_region_held3 (fun w'=>w'.cell? ⟨w.heap.size,0,none⟩=some (.slice (some ⟨i,0,none⟩) n n)/\w'.cell? ⟨w.heap.size+1,0,none⟩=some (.slice (some ⟨d,0,none⟩) n n)/\w'.cell? ⟨w.heap.size+2,0,none⟩=some (.slice (some ⟨j,0,none⟩) n n)) (first | exact⟨z,A,B⟩ | exact⟨p0,p1,p2⟩ | exact⟨q0,q1,q2⟩ | exact⟨r0,r1,r2⟩) (first
  | (go_at_call 45;refine (jS d j n m u _ (T.out.below (x4 _ _).drew) (V.out.below (x4 _ _).drew)).mono ?_;rintro e w1 ⟨X,rfl,r,o⟩;have k:Hid (Below W.heap.size W w1):=((x4 W.heap.size W).drew).trans (o.mono (by simp));have N:=zAa r;have p0:=aC k.out D z;have p1:=aC k.out E A;have p2:=aC k.out F B;clear r o)
  | (go_at_call 78;refine (jP X i n _ cs _ N.out (U.out.below k.out)).mono ?_;rintro e w2 ⟨Y,rfl,s,p⟩;have x:Hid (Below W.heap.size W w2):=aK k.out (xW _) p;have O:=zAa s;have q0:=aC x.out D z;have q1:=aC x.out E A;have q2:=aC x.out F B;clear s p)
  | (go_at_call 88;refine (qB Y n _ _ O.out).mono ?_;rintro e w3 ⟨rfl,q⟩;have y:Hid (Below W.heap.size W w3):=aK x.out (xW _) q;have r0:=aC y.out D z;have r1:=aC y.out E A;have r2:=aC y.out F B;clear q))
 all_goals
  go_wp2;go_ret;rw[S.out];exact⟨rfl,aK M.out (xW _) y.out⟩
structure Fill (W0 wr:World) (b gn n:Nat) (t:List Nat):Prop where
 bel:Below W0.heap.size W0 wr
 rel:Eh wr gn n t
 box:wr.heap[b]?=some (.cells #[.slice (some ⟨gn,0,none⟩) n n] 73 (0,0))
 ge:W0.heap.size<=gn
 gb:W0.heap.size<=b
theorem Fill.ne {wr:World} (h:Fill W0 wr b gn n t):b≠gn:=fun e=>by
 have a:=h.rel.at_;unfold zAo at a;rw[<- e,h.box] at a;simp at a
theorem Fill.keep {wr:World} (h:Fill W0 wr b gn n t) (a:Below wr.heap.size wr w'):Fill W0 w' b gn n t :=
 ⟨h.bel.trans (a.mono h.bel.size),h.rel.below a,(a.block b (Array.getElem?_eq_some_iff.1 h.box).1).trans h.box,h.ge,h.gb⟩
theorem Fill.alloc {wr:World} (h:Fill W0 wr b gn n t) (o:Obj):Fill W0 (wr.alloc o) b gn n t:=h.keep ((x4 _ _).alloc (xW _) _)
theorem Fill.grown {wr:World} (h:Fill W0 wr b gn n t) {x y:Int} (a:wr.grownBy w' (some gn)) (d:zAo w' gn (bJ t x y)):Fill W0 w' b gn n (bJ t x y) :=
 ⟨h.bel.trans ⟨a.os,a.tape,a.output,a.size,fun i e=>a.block i (by have:=h.bel.size;omega) (by have:=h.ge;simp;omega)⟩,⟨d,by rw[jX];exact h.rel.len,lG h.rel.fits _ _⟩,(a.block b (Array.getElem?_eq_some_iff.1 h.box).1 (by have:=h.ne;simpa using this)).trans h.box,h.ge,h.gb⟩
theorem Fill.gP {wr:World} (h:Fill W0 wr b gn n t):kT wr b 0 gn n t:=by
 obtain⟨z0,_,a⟩:=cE h.box;exact⟨z0,h.rel.at_,h.rel.len,a,h.ne⟩
theorem Fill.start (e:Eh w1 gn n t) (d:W0.heap.size<=gn) (a:Below W0.heap.size W0 w1):Fill W0 (w1.alloc (.cells #[.slice (some ⟨gn,0,none⟩) n n] 73)) w1.heap.size gn n t :=
 ⟨a.alloc a.size _,e.below ((x4 _ _).alloc (xW _) _),heap_alloc_new w1 _,d,a.size⟩
theorem Fill.out {wr:World} {r:Nat} (h:Fill W0 wr b gn n t) (k:Below w.heap.size w W0) (e:W0.heap[r]?=some (.cells #[.slice none 0 0] 73 (0,0))) (d:w.heap.size<=r) :
  jC w (wr.setCell ⟨r,0,none⟩ (.slice (some ⟨gn,0,none⟩) n n)) n t (.returned (.agg #[.slice (some ⟨gn,0,none⟩) n n]))/\(wr.setCell ⟨r,0,none⟩ (.slice (some ⟨gn,0,none⟩) n n)).heap[r]?=some (.cells #[.slice (some ⟨gn,0,none⟩) n n] 73 (0,0)):=by
 have a:=(Array.getElem?_eq_some_iff.1 e).1;have j:=h.ge;have i:wr.heap[r]?=some (.cells #[.slice none 0 0] 73 (0,0)):=(h.bel.block r a).trans e;refine⟨⟨gn,rfl,⟨h.rel.at_.aA (x7 _ _ _ _ (by simp;omega)),h.rel.len,h.rel.fits⟩,(aK k (xW _) h.bel).setCell (p:=⟨r,0,none⟩) d _⟩,?_⟩;rw[bH i];rfl
theorem Fill.cell {wr:World} (h:Fill W0 wr b gn n t) {p:Addr} (d:p.block<W0.heap.size) (a:W0.cell? p=some v):wr.cell? p=some v:=(h.bel.cell (p:=p) d).trans a
theorem zCj.below {l:List Int} (h:zCj w v l) (e:Below w.heap.size w w'):zCj w' v l:=by
 rcases h with h | ⟨g,a,rfl,k,j,d⟩
 ·exact Or.inl h
 ·exact Or.inr ⟨g,a,rfl,fun i m=>(e.cell (p:=⟨g,i,none⟩) j).trans (k i m),x6 j e.size,d⟩
theorem zCj.form {l:List Int} (h:zCj w v l):∃ a c,v=.slice a l.length c/\(0<l.length->∃ g,a=some ⟨g,0,none⟩/\g<w.heap.size/\∀ i (h:i<l.length),w.cell? ⟨g,i,none⟩=some (.int .i64 l[i])):=by
 rcases h with ⟨rfl,rfl⟩ | ⟨g,d,rfl,e,j,_⟩
 ·exact⟨none,0,rfl,fun h=>by simp at h⟩
 ·exact⟨_,_,rfl,fun _=>⟨g,rfl,j,e⟩⟩
theorem dZ (B:Nat) (w:World) (n:Nat):Below B w (w.drewN n):=by
 induction n with
 | zero=>exact x4 _ _
 | succ n ih=>exact⟨ih.os,ih.tape,ih.output,ih.size,ih.block⟩
theorem zAP.grown {e:Ev} (h:zAP w g e) (d:zAo w gn l) (j:w.grownBy w' (some gn)):zAP w' g e:=by
 have a:g≠gn:=fun i=>by
  unfold zAP at h;unfold zAo at d;rw[i,d] at h;simp at h
 have k:=h.lt;unfold zAP at *;rw[j.block g k (by simpa using a)];exact h
theorem eT (l:List Int) (i:Nat) (h:i<l.length) (d:Int):l.getD i d=l[i]:=by simp[List.getD,List.getElem?_eq_getElem h]
namespace Q
def wV (rs:List Int) (r:List Nat) (i:Nat):List Nat:=bJ r (i:Int) (rs.getD i (-1))
end Q
theorem zHP (a:FA) (f:EE) (v:Value) (d:List Int) (w:World) (z:Ej w a f) (hv:zCj w v d) (hl:d.length<10000) :
  Calls prog 40 #[.agg (zAn a),v] w fun e w'=>jC w w' a.n (f.reads d) e:=by
 have r:Hid (f.reads d=(xF d.length).foldl (wV d) (aS a.n)):=by unfold Hid EE.reads;rw[z.len];rfl
 obtain⟨va,vc,rfl,L⟩:=hv.form;obtain⟨x,c,u,hx⟩:=z.form;have m:=z.n64;have J:=z.len;obtain⟨n,ev,S,T,U,V,W,X,Y,Z,g9⟩:=a;simp only at u m J hx;subst u;simp only[zAn];simp only at r;obtain⟨k0,M,ad,s⟩:=iM w #[.slice x n c,.slice (some ⟨S,0,none⟩) n n,.slice (some ⟨T,0,none⟩) n n,.slice (some ⟨U,0,none⟩) n n,.slice (some ⟨V,0,none⟩) n n,.slice (some ⟨W,0,none⟩) n n,.slice (some ⟨X,0,none⟩) n n,.slice (some ⟨Y,0,none⟩) n n,.slice (some ⟨Z,0,none⟩) n n,.slice (some ⟨g9,0,none⟩) n n] #[.slice none 0 0] 75 73;have q:=zAa s;clear s z hv hx;go_enter func40,ntmps40;go_upto_region 1 with fail
 generalize hE:(w.alloc (.cells #[.slice x n c,.slice (some ⟨S,0,none⟩) n n,.slice (some ⟨T,0,none⟩) n n,.slice (some ⟨U,0,none⟩) n n,.slice (some ⟨V,0,none⟩) n n,.slice (some ⟨W,0,none⟩) n n,.slice (some ⟨X,0,none⟩) n n,.slice (some ⟨Y,0,none⟩) n n,.slice (some ⟨Z,0,none⟩) n n,.slice (some ⟨g9,0,none⟩) n n] 75)).alloc (.cells #[.slice none 0 0] 73)=W0 at *;have ab:=aD k0 0 _ rfl;obtain⟨c1,f1,l1⟩:=cE M;have l0:w.heap.size<W0.heap.size:=by omega
 have O:=zAa M;clear hE k0 M;go_wp2_with (first | (go_at_call 74;refine (iT n _ m).mono ?_;rintro e w1 ⟨gn,rfl,D,H,C,A,o⟩;have HS:=zAa (Fill.start ⟨D,C,A⟩ H o);have ae:=o.size;clear D o C A));go_loopw [14] (fun i wr=>∃ (k:Nat) (t:List Nat),k<=d.length/\i=.int .i64 k/\Hid (t=(xF k).foldl (wV d) (aS n))/\Hid (Fill W0 wr w1.heap.size gn n t)) (fun i _=>d.length-(intOf i).toNat)
 case atStart=>exact⟨0,_,x5 _,rfl,rfl,HS⟩
 case round =>
  obtain⟨k,t,hk,rfl,N,j⟩:=hrel;have bt:=cE j.out.box;obtain⟨b0,b1,b2⟩:=bt;by_cases hlt:k<d.length
  ·have ac:(k:Int)<(d.length:Int):=by omega
   obtain⟨g,rfl,hg,F⟩:=L (by omega);have B:g<W0.heap.size:=by omega
   have hc:wr.cell? ⟨g,k,none⟩=some (.int .i64 d[k]):=j.out.cell B ((q.out.cell (p:=⟨g,k,none⟩) hg).trans (F k hlt));have aa:g<wr.heap.size:=x6 B j.out.bel.size;have HN:Hid (bJ t (k:Int) d[k]=(xF (k+1)).foldl (wV d) (aS n)):=by unfold Hid;rw[fI,<- N.out,wV,eT d k hlt]
   generalize d[k]=y at *;go_wp2_with (first | (go_at_call 75;refine (jH w1.heap.size 0 gn n t (k:Int) y _ j.out.gP j.out.rel.fits).mono ?_;rintro e wc ⟨rfl,K,G⟩;have HJ:=zAa (j.out.grown G K)));go_roundw
   case rel=>exact⟨k+1,_,by omega,by go_num,HN,HJ⟩
   case measure=>simp[intOf];omega
  ·have I:k=d.length:=by omega
   have E:Hid (t=f.reads d):=by unfold Hid;rw[r.out,N.out,I]
   obtain⟨q1,q2⟩:=j.out.out q.out O.out (by omega);rw[E.out] at q1;go_wp2_with (first | (refine gY (.tmp 5) rfl rfl w1.heap.size _ rfl j.out.box ?_) | (refine pD (.tmp 4) (.tmp 23) rfl rfl (w.heap.size+1) _ _ rfl rfl ((j.out.bel.block _ l1).trans O.out) rfl ?_));refine jT (p:=4) (w.heap.size+1) _ (by kernel_rfl) rfl q2 rfl q1
theorem zDU (a:FA) (f:EE) (v:Value) (m:List Int) (w:World) (L:Ej w a f) (hv:zCj w v m) (B:m.length=a.n) :
  Calls prog 48 #[.agg (zAn a),v] w fun e w'=>jC w w' a.n (f.Eg m) e:=by
 have M:Hid (f.Eg m=(xF a.n).foldl (nS f.fences m) (aS a.n)):=by unfold Hid EE.Eg;rw[L.len,B]
 obtain⟨va,vc,rfl,X⟩:=hv.form;have Y:0<a.n->∃ g,va=some ⟨g,0,none⟩/\g<w.heap.size/\∀ i,i<a.n->w.cell? ⟨g,i,none⟩=some (.int .i64 (m.getD i 0)):=fun h0=>by
  obtain⟨g,e1,e2,e3⟩:=X (by omega);exact⟨g,e1,e2,fun i hi=>by rw[eT m i (by omega)];exact e3 i (by omega)⟩
 clear X;rw[B];obtain⟨x,c,O,hx⟩:=L.form;have C:=L.n64;have ak:=L.len;obtain⟨n,ev,g1,g2,g3,N,g5,g6,g7,g8,g9⟩:=a;simp only at O C ak hx;subst O;simp only[zAn];simp only at M B Y;obtain⟨k0,k1,au,K⟩:=iM w #[.slice x n c,.slice (some ⟨g1,0,none⟩) n n,.slice (some ⟨g2,0,none⟩) n n,.slice (some ⟨g3,0,none⟩) n n,.slice (some ⟨N,0,none⟩) n n,.slice (some ⟨g5,0,none⟩) n n,.slice (some ⟨g6,0,none⟩) n n,.slice (some ⟨g7,0,none⟩) n n,.slice (some ⟨g8,0,none⟩) n n,.slice (some ⟨g9,0,none⟩) n n] #[.slice none 0 0] 75 73;have R4:=zAa (L.r4.below K);have D:=zAa K;clear K L hv hx;go_enter func48,ntmps48;go_upto_region 1 with fail
 generalize hE:(w.alloc (.cells #[.slice x n c,.slice (some ⟨g1,0,none⟩) n n,.slice (some ⟨g2,0,none⟩) n n,.slice (some ⟨g3,0,none⟩) n n,.slice (some ⟨N,0,none⟩) n n,.slice (some ⟨g5,0,none⟩) n n,.slice (some ⟨g6,0,none⟩) n n,.slice (some ⟨g7,0,none⟩) n n,.slice (some ⟨g8,0,none⟩) n n,.slice (some ⟨g9,0,none⟩) n n] 75)).alloc (.cells #[.slice none 0 0] 73)=W0 at *;have an:=aD k0 0 _ rfl;have ag:=aD k0 4 _ rfl;obtain⟨c1,f1,l1⟩:=cE k1;have l0:w.heap.size<W0.heap.size:=by omega
 have K1:=zAa k1;clear hE k0 k1 c1 f1;go_wp2_with (first | (go_at_call 74;refine (iT n _ C).mono ?_;rintro e w1 ⟨gn,rfl,W,ai,U,S,J⟩;have HS:=zAa (Fill.start ⟨W,U,S⟩ ai J);have av:=J.size;clear W J U S));go_loopw [16] (fun i wr=>∃ (k:Nat) (t:List Nat),k<=n/\i=.int .i64 k/\Hid (t=(xF k).foldl (nS f.fences m) (aS n))/\Hid (Fill W0 wr w1.heap.size gn n t)) (fun i _=>n-(intOf i).toNat)
 case atStart=>exact⟨0,_,x5 _,rfl,rfl,HS⟩
 case round =>
  obtain⟨k,t,hk,rfl,HT,E⟩:=hrel;obtain⟨b0,b1,b2⟩:=cE E.out.box;by_cases hlt:k<n
  ·have aq:(k:Int)<(n:Int):=by omega
   obtain⟨I,rfl,T,V⟩:=Y (by omega);have o:I<W0.heap.size:=by omega
   have ad:Hid (W0.cell? ⟨I,k,none⟩=some (.int .i64 (m.getD k 0))):=(D.out.cell (p:=⟨I,k,none⟩) T).trans (V k (by omega));have af:Hid ((xF (k+1)).foldl (nS f.fences m) (aS n)=(xF n).foldl (pG f.fences m k) t):=by unfold Hid;rw[fI,<- HT.out];unfold nS;rw[B]
   have aa:Hid (∀ q u,pG f.fences m k u q=aJ (bR f.fences k q&&decide (m.getD k 0<m.getD q 0)) u k q):=fun q u=>rfl
   generalize al:m.getD k 0=pk at *;clear al;have ah:=E.out.cell (p:=⟨I,k,none⟩) o ad.out;have Z:=x6 o E.out.bel.size;go_wp2;go_loopw [23] (fun j wq=>∃ (q:Nat) (u:List Nat),q<=n/\j=.int .i64 q/\Hid (u=(xF q).foldl (pG f.fences m k) t)/\Hid (Fill W0 wq w1.heap.size gn n u)) (fun j _=>n-(intOf j).toNat)
   case atStart=>exact⟨0,t,x5 _,rfl,rfl,E⟩
   case round =>
    clear ah Z b0 b1 b2;obtain⟨q,u,hq,rfl,HU,A⟩:=hrel;by_cases hql:q<n
    ·have ar:(q:Int)<(n:Int):=by omega
     have ae:Hid (W0.cell? ⟨I,q,none⟩=some (.int .i64 (m.getD q 0))):=(D.out.cell (p:=⟨I,q,none⟩) T).trans (V q (by omega));have H:Hid ((xF (q+1)).foldl (pG f.fences m k) t=aJ (bR f.fences k q&&decide (pk<m.getD q 0)) u k q):=by unfold Hid;rw[fI,<- HU.out];exact aa.out q u
     generalize am:m.getD q 0=pq at *;clear am;have ao:=A.out.cell (p:=⟨I,q,none⟩) o ae.out;have Z:=x6 o A.out.bel.size;have ap:=A.out.cell (p:=⟨w.heap.size,4,none⟩) l0 ag;have aw:=x6 l0 A.out.bel.size;have G:=zAa (R4.out.below A.out.bel)
     cases z1:bR f.fences (k:Int) (q:Int)
     ·have r:Hid (u=(xF (q+1)).foldl (pG f.fences m k) t):=by unfold Hid;rw[H.out,z1];rfl
      go_wp2_with (first | (go_at_call 80;refine (jU N n f.fences (k:Int) (q:Int) _ G.out).mono ?_;rintro e wb ⟨rfl,s⟩;rw[z1];have d:=zAa (A.out.keep s)) | (go_at_call 75;refine (jH w1.heap.size 0 gn n u (k:Int) (q:Int) _ d.out.gP d.out.rel.fits).mono ?_;rintro e wc ⟨rfl,z,y⟩;have F:=zAa (d.out.grown y z)));go_roundw
      case rel=>exact⟨q+1,u,by omega,by go_num,r,d⟩
      case measure=>simp[intOf];omega
     by_cases hz:pk<pq
     ·have z4:decide (pk<pq)=true:=decide_eq_true hz;have r:Hid (bJ u (k:Int) (q:Int)=(xF (q+1)).foldl (pG f.fences m k) t):=by unfold Hid;rw[H.out,z1,z4];rfl
      go_wp2_with (first | (go_at_call 80;refine (jU N n f.fences (k:Int) (q:Int) _ G.out).mono ?_;rintro e wb ⟨rfl,s⟩;rw[z1];have d:=zAa (A.out.keep s)) | (go_at_call 75;refine (jH w1.heap.size 0 gn n u (k:Int) (q:Int) _ d.out.gP d.out.rel.fits).mono ?_;rintro e wc ⟨rfl,z,y⟩;have F:=zAa (d.out.grown y z)));go_roundw
      case rel=>exact⟨q+1,_,by omega,by go_num,r,F⟩
      case measure=>simp[intOf];omega
     ·have z4:decide (pk<pq)=false:=decide_eq_false hz;have r:Hid (u=(xF (q+1)).foldl (pG f.fences m k) t):=by unfold Hid;rw[H.out,z1,z4];rfl
      go_wp2_with (first | (go_at_call 80;refine (jU N n f.fences (k:Int) (q:Int) _ G.out).mono ?_;rintro e wb ⟨rfl,s⟩;rw[z1];have d:=zAa (A.out.keep s)) | (go_at_call 75;refine (jH w1.heap.size 0 gn n u (k:Int) (q:Int) _ d.out.gP d.out.rel.fits).mono ?_;rintro e wc ⟨rfl,z,y⟩;have F:=zAa (d.out.grown y z)));go_roundw
      case rel=>exact⟨q+1,u,by omega,by go_num,r,d⟩
      case measure=>simp[intOf];omega
    ·have ac:Hid (u=(xF (k+1)).foldl (nS f.fences m) (aS n)):=by unfold Hid;rw[af.out,HU.out,show q=n by omega]
     go_wp2;go_roundw
     case rel=>exact⟨k+1,u,by omega,by go_num,ac,A⟩
     case measure=>simp[intOf];omega
  ·have aj:k=n:=by omega
   have ab:Hid (t=f.Eg m):=by unfold Hid;rw[M.out,HT.out,aj]
   obtain⟨q1,q2⟩:=E.out.out D.out K1.out (by omega);rw[ab.out] at q1;go_wp2_with (first | (refine gY (.tmp 5) rfl rfl w1.heap.size _ rfl E.out.box ?_) | (refine pD (.tmp 4) (.tmp 43) rfl rfl (w.heap.size+1) _ _ rfl rfl ((E.out.bel.block _ l1).trans K1.out) rfl ?_));refine jT (p:=4) (w.heap.size+1) _ (by kernel_rfl) rfl q2 rfl q1
end Go.Proofs.YtonodfjdiepglaaGreatDoor
