import Derived.Test.YtonodfjdiepglaaGreatDoorL05
set_option linter.unusedVariables false
set_option linter.unusedSimpArgs false
set_option maxHeartbeats 12800000
namespace Go.Proofs.YtonodfjdiepglaaGreatDoor
open Go Go.RowKit Go.Proofs.Tryz P R
set_option maxRecDepth 1000000
variable {w w':World} {B cap n:Nat} {v:Value} {l:List Tree} {vs:List Value} {Fs:List (List Nat)} {F:List Nat} {ts:List R.Th}
open Or renaming inr→xF
open List renaming cons_append→xR,getElem?_append_left→xW,mem_append→x1,mem_flatten→x2,nodup_append→x3,isEmpty_nil→x5,mem_append_right→x9,length_cons→xa,getElem_mem→xb,getElem?_append_right→xc,mem_of_getElem?→xd,length_append→xe,take_succ_eq_append_getElem→xg,take_of_length_le→xh
open Bool renaming false_eq_true→x4,true_or→x6,and_true→x7
open Option renaming mem_toList→x8
def iG:List Tree->List Value->List Value
 | t::l,v::vs=>(bV t.x v).toList++iG l vs
 | _,_=>[]
theorem zFS (l m:List Tree):∀ (vs a:List Value),vs.length=l.length->iG (l++m) (vs++a)=iG l vs++iG m a:=by
 induction l with
 | nil =>
  intro vs a h;have:vs=[]:=List.length_eq_zero_iff.1 h;subst this;simp[iG]
 | cons t l ih =>
  intro vs a h
  cases vs with
  | nil=>simp at h
  | cons v vs=>simp only[xR,iG,ih vs a (by simpa using h),List.append_assoc]
theorem zJp (l:List Tree):∀ (vs:List Value),vs.length=l.length->∀ (i:Nat) (t:Tree) (v:Value),l[i]?=some t->vs[i]?=some v->∀ j,j<9->(iG l vs)[i*9+j]?=(bV t.x v)[j]?:=by
 induction l with
 | nil=>intro vs _ i t v h;simp at h
 | cons t0 l ih =>
  intro vs c i t v a b j d
  cases vs with
  | nil=>simp at c
  | cons v0 vs =>
   cases i with
   | zero =>
    simp at a b;subst a b;simp only[iG];rw[xW (by simp[bV];omega)];simp
   | succ i =>
    simp at a b;have:=ih vs (by simpa using c) i t v a b j d;simp only[iG];rw[xc (by simp[bV];omega),<- this]
    congr 1
    simp[bV];omega
def zAq (w:World) (B:Nat) (v:Value) (l:List Tree) (F:List Nat):Prop :=
 ∀ M:Value->List Tree->List Nat->Prop,(∀ (v:Value) (l:List Tree) (vs:List Value) (Fs:List (List Nat)),w.ownsRow B 44 9 v l.length (iG l vs)->vs.length=l.length->Fs.length=l.length ->
   (∀ (i:Nat) (t:Tree) (u:Value) (F:List Nat),l[i]?=some t->vs[i]?=some u->Fs[i]?=some F->M u t.body F)->(v.ownBlock.toList++Fs.flatten).Nodup->M v l (v.ownBlock.toList++Fs.flatten))->M v l F
theorem zAq.row (j:w.ownsRow B 44 9 v l.length (iG l vs)) (k:vs.length=l.length) (e:Fs.length=l.length)
   (f:∀ (i:Nat) (t:Tree) (u:Value) (F:List Nat),l[i]?=some t->vs[i]?=some u->Fs[i]?=some F->zAq w B u t.body F) (g:(v.ownBlock.toList++Fs.flatten).Nodup):zAq w B v l (v.ownBlock.toList++Fs.flatten) :=
 fun M a=>a v l vs Fs j k e (fun i t u F b c d=>f i t u F b c d M a) g
theorem zAq.eG {a:∀ (v:Value) (l:List Tree) (F:List Nat),zAq w B v l F->Prop}
  (row:∀ {v:Value} {l:List Tree} {vs:List Value} {Fs:List (List Nat)} (j:w.ownsRow B 44 9 v l.length (iG l vs)) (k:vs.length=l.length) (f:Fs.length=l.length)
   (e:∀ (i:Nat) (t:Tree) (u:Value) (F:List Nat),l[i]?=some t->vs[i]?=some u->Fs[i]?=some F->zAq w B u t.body F) (g:(v.ownBlock.toList++Fs.flatten).Nodup)
   (_:∀ (i:Nat) (t:Tree) (u:Value) (F:List Nat) (b:l[i]?=some t) (c:vs[i]?=some u) (d:Fs[i]?=some F),a u t.body F (e i t u F b c d)),a v l (v.ownBlock.toList++Fs.flatten) (zAq.row j k f e g))
  (h:zAq w B v l F):a v l F h :=
 (h (fun v l F=>∃ h:zAq w B v l F,a v l F h) (fun v l vs Fs j k f e g=>⟨zAq.row j k f (fun i t u F b c d=>(e i t u F b c d).1) g,row j k f _ g (fun i t u F b c d=>(e i t u F b c d).2)⟩)).2
theorem zAq.cs {a:∀ (v:Value) (l:List Tree) (F:List Nat),zAq w B v l F->Prop}
  (row:∀ {v:Value} {l:List Tree} {vs:List Value} {Fs:List (List Nat)} (e:w.ownsRow B 44 9 v l.length (iG l vs)) (f:vs.length=l.length) (b:Fs.length=l.length)
   (c:∀ (i:Nat) (t:Tree) (u:Value) (F:List Nat),l[i]?=some t->vs[i]?=some u->Fs[i]?=some F->zAq w B u t.body F) (d:(v.ownBlock.toList++Fs.flatten).Nodup),a v l (v.ownBlock.toList++Fs.flatten) (zAq.row e f b c d))
  (h:zAq w B v l F):a v l F h :=
 zAq.eG (fun e f b c d _=>row e f b c d) h
theorem zAq.nil (w:World) (B:Nat):zAq w B (.slice none 0 0) [] [] :=
 .row (Fs:=[]) (vs:=[]) (World.ownsRow_nil _ _ _ _) rfl rfl (fun i t u F h=>by simp at h) (by simp[Value.ownBlock])
theorem zAq.vY (h:zAq w B v l F):F.Nodup:=by
 cases h using zAq.cs with
 | row _ _ _ _ hn=>exact hn
theorem zAq.own (h:zAq w B v l F):∀ k,v.ownBlock=some k->k∈F:=by
 intro k a
 cases h using zAq.cs with
 | row _ _ _ _ _=>simp[a]
theorem zAq.keep (h:zAq w B v l F) (c:∀ k∈F,w'.heap[k]?=w.heap[k]?):zAq w' B v l F:=by
 induction h using zAq.eG with
 | @row v l vs Fs ho hv hF hc hn ih =>
  refine .row (aX ho (fun k e=>c k (by simp[e]))) hv hF (fun i t u F d f b=>ih i t u F d f b (fun k a=>c k ?_)) hn;have:F∈Fs:=xd b;simp only[x1,x2];exact xF ⟨F,this,a⟩
theorem zAq.gO (h:zAq w B v l F):∀ k∈F,B<=k/\k<w.heap.size:=by
 induction h using zAq.eG with
 | @row v l vs Fs ho hv hF hc hn ih =>
  intro k a;simp only[x1,x2,x8] at a
  rcases a with a | ⟨F,b,a⟩
  ·exact ho.lt k a
  ·obtain⟨i,f,e⟩:=List.mem_iff_getElem.1 b;have c:i<l.length:=by omega
   have d:i<vs.length:=by omega
   exact ih i l[i] vs[i] F (by simp[c]) (by simp[d]) (by simp[f,e]) k a
theorem zAq.bD {r:Value} {G:List Nat} {x:Lh} {b:List Tree} {C:Value}
  (h:zAq w B v l F) (E:zAq w B C b G) (H:∀ k∈F,k ∉ G)
  (N:∀ vs:List Value,w.ownsRow B 44 9 v l.length (iG l vs)->w'.ownsRow B 44 9 r (l.length+1) (iG l vs++(bV x C).toList))
  (K:∀ k,(k∈F\/k∈G)->some k≠v.ownBlock->w'.heap[k]?=w.heap[k]?)
  (f:r.ownBlock=v.ownBlock\/∀ k,r.ownBlock=some k->w.heap.size<=k) :
  ∃ F',zAq w' B r (l++[.mk x b]) F'/\∀ k∈F',k∈F\/k∈G\/r.ownBlock=some k:=by
 have L:=h.gO;have M:=E.gO
 cases h using zAq.cs with
 | @row _ _ vs Fs ho0 hv hF hc hn =>
  have m:(Fs++[G]).flatten=Fs.flatten++G:=by simp
  refine⟨r.ownBlock.toList++(Fs++[G]).flatten,.row (vs:=vs++[C]) ?_ (by simp[hv]) (by simp[hF]) ?_ ?_,?_⟩
  ·rw[zFS _ _ _ _ hv,xe];simpa [iG] using N vs ho0
  ·intro i t u F y A s;have D:∀ k∈Fs.flatten,w'.heap[k]?=w.heap[k]?:=fun k j=>by
    refine K k (Or.inl (x9 _ j)) (fun e=>?_);rw[x3] at hn;exact hn.2.2 k (by rw[<- e];simp) k j rfl
   by_cases hi:i<l.length
   ·rw[xW hi] at y;rw[xW (by omega)] at A;rw[xW (by omega)] at s;refine (hc i t u F y A s).keep (fun k j=>D k ?_);simp only[x2];exact⟨F,xd s,j⟩
   ·have J:i=l.length:=by
     have:=(List.getElem?_eq_some_iff.1 y).1;simp at this;omega
    subst J;rw[xc (by omega)] at y A s;simp at y;simp[hv] at A;simp[hF] at s;subst y A s;refine E.keep (fun k z=>K k (xF z) (fun e=>?_));exact H k (by simp[<- e]) z
  ·rw[m];have q:=hn;rw[x3] at q;have I:(Fs.flatten++G).Nodup:=by
    rw[x3];refine⟨q.2.1,E.vY,fun a o c g e=>?_⟩;subst e;exact H a (x9 _ o) g
   rw[x3];refine⟨by cases r.ownBlock<;>simp,I,fun a o c g e=>?_⟩;subst e;simp only[x8] at o
   rcases f with f | f
   ·rw[f] at o
    rcases List.mem_append.1 g with d | d
    ·exact q.2.2 a (by simpa using o) a d rfl
    ·exact H a (by simp;exact Or.inl o) d
   ·have O:=f a o
    rcases List.mem_append.1 g with d | d
    ·have:=(L a (x9 _ d)).2;omega
    ·have:=(M a d).2;omega
  ·intro k p;rw[m] at p;simp only[x1,x8] at p ⊢
   rcases p with d | d | d
   ·exact xF (xF d)
   ·exact Or.inl (xF d)
   ·exact xF (Or.inl d)
namespace R
def dQ (op ord:List UInt8) (x:Lh):Bool:=(x.op.toList==op)&&(ord.isEmpty||x.ord.toList==ord)
def kAs (l:List Tree):Int:=bM (fun _=>true) l
theorem iR (p:Lh->Bool) (l:List Tree):0<=bM p l/\bM p l<=bM (fun _=>true) l:=by
 induction l using bM.induct with
 | case1=>simp[iI]
 | case2 x b r h1 h2 =>
  simp only[lR,kL,if_true]
  split<;>omega
theorem AY (p:Lh->Bool) (a b:List Tree):bM p (a++b)=bM p a+bM p b:=by
 induction a with
 | nil=>simp[iI,lR]
 | cons t r ih=>simp only[xR,iI,lR,ih];omega
theorem kGm (p:Lh->Bool) (l:List Tree) (k:Nat) (h:k<l.length):bM p (l.take (k+1))=bM p (l.take k)+((if p l[k].x then 1 else 0)+bM p l[k].body):=by
 rw[xg h,AY];simp only[iI,lR]
 cases l[k] with
 | mk x b=>cases hp:p x<;>simp[kL,iI,hp]
theorem kJl (l:List Tree) (k:Nat) (h:k<l.length):kAs (l.take k)+1+kAs l[k].body<=kAs l:=by
 have a:=kGm (fun _=>true) l k h;have b:bM (fun _=>true) l=bM (fun _=>true) (l.take (k+1))+bM (fun _=>true) (l.drop (k+1)):=by
  rw[<- AY,List.take_append_drop]
 have c:=(iR (fun _=>true) (l.drop (k+1))).1;simp only[if_true] at a;unfold kAs;omega
theorem CR (l:List Tree):(l.length:Int)<=kAs l:=by
 induction l with
 | nil=>simp[kAs,iI,lR]
 | cons t r ih =>
  have:1<=kL (fun _=>true) t:=by
   cases t with
   | mk x b=>have:=(iR (fun _=>true) b).1;simp[kL];omega
  simp only[kAs,iI,lR,xa] at ih ⊢;omega
end R
theorem zAq.line {g:Nat} (c:w.ownsRow B 44 9 (.slice (some ⟨g,0,none⟩) n cap) n (iG l vs)) (f:n=l.length) (e:vs.length=l.length) (k:Nat) (b:k<l.length) (u:Value) (d:vs[k]?=some u) :
  ∀ j,j<9->w.cell? ⟨g,k*9+j,none⟩=(bV l[k].x u)[j]?:=by
 intro j a;rw[c.cellAt _ (by omega)];exact zJp l vs e k l[k] u (by simp[b]) d j a
theorem zIj (g f:ByteArray) {w0:World} (h:zAq w0 B v l F):kAs l<10000->∀ w:World,(∀ k∈F,w.heap[k]?=w0.heap[k]?) ->
  Calls prog 16 #[v,.string g,.string f] w fun e w'=>e=.returned (.int .i64 (bM (dQ g.toList f.toList) l))/\Below w.heap.size w w':=by
 induction h using zAq.eG with
 | @row v l vs Fs ho hv hF hc hnd ih =>
 intro L w H;have A:=(zAq.row ho hv hF hc hnd).gO;have q:∀ k∈v.ownBlock.toList++Fs.flatten,k<w.heap.size:=fun k I=>by
  have U:=(A k I).2;have h2:=H k I;rw[Array.getElem?_eq_getElem U] at h2;exact (Array.getElem?_eq_some_iff.1 h2).1
 have how:w.ownsRow B 44 9 v l.length (iG l vs):=aX ho (fun k e=>H k (by simp[e]));have ac:∃ a c,v=.slice a l.length c/\(0<l.length->∃ b,a=some ⟨b,0,none⟩/\b<w.heap.size):=by
  rcases how.2 with ⟨e,h0⟩ | ⟨k,c,ae,e,_⟩
  ·exact⟨none,0,by rw[e,h0],fun h=>by omega⟩
  ·exact⟨_,c,e,fun _=>⟨k,rfl,(how.lt k (by rw[e];rfl)).2⟩⟩
 obtain⟨sa,sc,rfl,Y⟩:=ac;have ad:=CR l;have HO:=zAa how;have S:=zAa ih;have HK:=zAa H;have T:=zAa q;have HV:=zAa hv;have HF:=zAa hF;have HS:=zAa L;have hn:l.length<10000:=by omega
 generalize hN:l.length=n at *;have O:=zAa hN;clear hN how ih H q hv hF L ho hc hnd A;go_enter func16,ntmps16;go_wp2;go_loopw [7,8] (fun c i wr=>∃ k:Nat,k<=n/\i=.int .i64 k/\c=.int .i64 (bM (dQ g.toList f.toList) (l.take k))/\Below w.heap.size w wr) (fun _ i _=>n-(intOf i).toNat)
 case atStart=>exact⟨0,Nat.zero_le _,rfl,by simp[iI,lR],Below.refl _ _⟩
 case round =>
  obtain⟨k,H,rfl,rfl,d⟩:=hrel;have X:=iR (dQ g.toList f.toList) (l.take k);by_cases q:k<n
  ·obtain⟨b,rfl,r⟩:=Y (by omega);have z:k<l.length:=by rw[O.out];exact q
   have ag:(k:Int)<(n:Int):=by omega
   have K:k<vs.length:=by rw[HV.out];exact q
   have J:k<Fs.length:=by rw[HF.out];exact q
   have M:=zAq.line HO.out O.out.symm (by rw[HV.out,O.out]) k z vs[k] (by simp[K]);have c0:=(d.cell (p:=⟨b,k*9,none⟩) r).trans (M 0 (by omega));have c6:=(d.cell (p:=⟨b,k*9+6,none⟩) r).trans (M 6 (by omega));have c8:=(d.cell (p:=⟨b,k*9+8,none⟩) r).trans (M 8 (by omega));simp[bV] at c0 c6 c8;have aa:=kJl l k z;have ab:=(iR (fun _=>true) (l.take k)).1;have Z:=iR (dQ g.toList f.toList) l[k].body;have hS:=HS.out;have N:Hid (∀ E:World,Below w.heap.size w E->Calls prog 16 #[vs[k],.string g,.string f] E fun e w'=>e=.returned (.int .i64 (bM (dQ g.toList f.toList) l[k].body))/\Below E.heap.size E w'):=by
    intro E V;refine S.out k l[k] vs[k] Fs[k] (by simp[z]) (by simp[K]) (by simp[J]) (by unfold kAs at *;omega) E (fun j hj=>?_);have G:j∈(Value.slice (some ⟨b,0,none⟩) n sc).ownBlock.toList++Fs.flatten:=by
     simp only[x1,x2];exact xF ⟨Fs[k],xb J,hj⟩
    rw[V.block j (T.out j G),HK.out j G]
   have o:=zAa (kGm (dQ g.toList f.toList) l k z);have af:0<=bM (dQ g.toList f.toList) l[k].body/\bM (dQ g.toList f.toList) l[k].body<10000:=by unfold kAs at *;omega
   have m:0<=bM (dQ g.toList f.toList) (l.take k)/\bM (dQ g.toList f.toList) (l.take k)<10000:=by unfold kAs at *;omega
   clear aa ab Z hS M X;generalize l[k]=t at *;generalize vs[k]=u at *;generalize bM (dQ g.toList f.toList) t.body=nb at *;generalize bM (dQ g.toList f.toList) (l.take k)=na at *;have s:w.heap.size<=wr.heap.size:=d.size;have y:∀ D,Below wr.heap.size wr D->Below w.heap.size w D:=fun D U=>d.trans (U.mono s)
   by_cases e1:t.x.op.toList=g.toList
   ·cases e2:f.toList.isEmpty
    ·cases e3:(t.x.ord.toList==f.toList)
     ·have C:dQ g.toList f.toList t.x=false:=by simp[dQ,e3,e2]
      rw[C] at o;go_wp2_with (first | (go_at_call 16;refine (N.out _ (by first | exact d | exact d.alloc s _)).mono ?_;rintro e D ⟨rfl,m⟩));go_roundw
      case rel=>exact⟨k+1,by omega,by go_num,by rw[o.out];congr 1;first | (simp only[x4,if_false];omega) | (simp only[if_true];omega),y _ m⟩
      case measure=>simp[intOf];omega
     ·have C:dQ g.toList f.toList t.x=true:=by simp[dQ,e1,e3]
      rw[C] at o;go_wp2_with (first | (go_at_call 16;refine (N.out _ (by first | exact d | exact d.alloc s _)).mono ?_;rintro e D ⟨rfl,m⟩));go_roundw
      case rel=>exact⟨k+1,by omega,by go_num,by rw[o.out];congr 1;first | (simp only[x4,if_false];omega) | (simp only[if_true];omega),y _ m⟩
      case measure=>simp[intOf];omega
    ·have C:dQ g.toList f.toList t.x=true:=by simp[dQ,e1,e2]
     rw[C] at o;go_wp2_with (first | (go_at_call 16;refine (N.out _ (by first | exact d | exact d.alloc s _)).mono ?_;rintro e D ⟨rfl,m⟩));go_roundw
     case rel=>exact⟨k+1,by omega,by go_num,by rw[o.out];congr 1;first | (simp only[x4,if_false];omega) | (simp only[if_true];omega),y _ m⟩
     case measure=>simp[intOf];omega
   ·have C:dQ g.toList f.toList t.x=false:=by simp[dQ,e1]
    rw[C] at o;go_wp2_with (first | (go_at_call 16;refine (N.out _ (by first | exact d | exact d.alloc s _)).mono ?_;rintro e D ⟨rfl,m⟩));go_roundw
    case rel=>exact⟨k+1,by omega,by go_num,by rw[o.out];congr 1;first | (simp only[x4,if_false];omega) | (simp only[if_true];omega),y _ m⟩
    case measure=>simp[intOf];omega
  ·have W:k=n:=by omega
   subst W;have HT:Hid (l.take k=l):=xh (by have:=O.out;omega);go_wp2;go_ret;rw[HT.out];exact⟨rfl,d⟩
def zAX:List R.Th->List Value->List Value
 | t::l,v::vs=>[.int .i64 t.block,v,.int .i64 t.row]++zAX l vs
 | _,_=>[]
theorem xH (l:List R.Th):∀ (vs:List Value),vs.length=l.length->(zAX l vs).length=l.length*3:=by
 induction l with
 | nil=>intro vs _;simp[zAX]
 | cons t l ih =>
  intro vs h
  cases vs with
  | nil=>simp at h
  | cons v vs =>
   have:=ih vs (by simpa using h);simp only[zAX,xe,this,xa,List.length_nil];omega
theorem zIk (l:List R.Th):∀ (vs:List Value),vs.length=l.length->∀ (i:Nat) (t:R.Th) (v:Value),l[i]?=some t->vs[i]?=some v ->
  (zAX l vs)[i*3]?=some (.int .i64 t.block)/\(zAX l vs)[i*3+1]?=some v/\(zAX l vs)[i*3+2]?=some (.int .i64 t.row):=by
 induction l with
 | nil=>intro vs _ i t v h;simp at h
 | cons t0 l ih =>
  intro vs c i t v a b
  cases vs with
  | nil=>simp at c
  | cons v0 vs =>
   cases i with
   | zero =>
    simp at a b;subst a b;simp[zAX]
   | succ i =>
    simp at a b;have:=ih vs (by simpa using c) i t v a b;rw[show (i+1)*3=i*3+3 by omega];simpa [zAX] using this
theorem BE (l m:List R.Th):∀ (vs a:List Value),vs.length=l.length->zAX (l++m) (vs++a)=zAX l vs++zAX m a:=by
 induction l with
 | nil =>
  intro vs a h;have:vs=[]:=List.length_eq_zero_iff.1 h;subst this;simp[zAX]
 | cons t l ih =>
  intro vs a h
  cases vs with
  | nil=>simp at h
  | cons v vs=>simp only[xR,zAX,ih vs a (by simpa using h),List.nil_append]
structure ThsAt (w:World) (B:Nat) (tv:Value) (ts:List R.Th) (vs:List Value) (Fs:List (List Nat)):Prop where
 own:w.ownsRow B 42 3 tv ts.length (zAX ts vs)
 lv:vs.length=ts.length
 lF:Fs.length=ts.length
 kid:∀ (i:Nat) (t:R.Th) (u:Value) (F:List Nat),ts[i]?=some t->vs[i]?=some u->Fs[i]?=some F->zAq w B u t.body F
theorem ThsAt.keep {f:Value} (h:ThsAt w B f ts vs Fs) (b:∀ k,k<w.heap.size->w'.heap[k]?=w.heap[k]?):ThsAt w' B f ts vs Fs :=
 ⟨aX h.own (fun k e=>b k (h.own.lt k e).2),h.lv,h.lF,fun i t u F c d a=>(h.kid i t u F c d a).keep (fun k g=>b k ((h.kid i t u F c d a).gO k g).2)⟩
namespace R
theorem kHs (p:Lh->Bool) (a b:List Th):dI p (a++b)=dI p a+dI p b:=by
 induction a with
 | nil=>simp[dI]
 | cons t r ih=>simp only[xR,dI,ih];omega
theorem AR (p:Lh->Bool) (l:List Th) (k:Nat) (h:k<l.length):dI p (l.take (k+1))=dI p (l.take k)+bM p l[k].body:=by
 rw[xg h,kHs];simp only[dI];omega
theorem CD (p:Lh->Bool) (l:List Th) (h:∀ t∈l,kAs t.body<10000):0<=dI p l/\dI p l<=l.length*10000:=by
 induction l with
 | nil=>simp[dI]
 | cons t r ih =>
  have c:=ih (fun t b=>h t (by simp[b]));have a:=h t (by simp);have d:=iR p t.body;unfold kAs at a;simp only[dI,xa];push_cast;omega
theorem yS (p q r:Lh->Bool) (h:∀ x,(if p x then (1:Int) else 0)=(if q x then 1 else 0)+(if r x then 1 else 0)):(∀ t,kL p t=kL q t+kL r t)/\∀ l,bM p l=bM q l+bM r l:=by
 have a:∀ l,bM p l=bM q l+bM r l:=by
  intro l
  induction l using bM.induct with
  | case1=>simp[iI]
  | case2 x b l h1 h2 =>
   have:=h x;simp only[lR,kL,h1,h2];omega
 refine⟨fun t=>?_,a⟩
 cases t with
 | mk x b=>have:=h x;have:=a b;simp only[kL];omega
def vO:Lh->Bool:=dQ [108,111,97,100] []
def uU:Lh->Bool:=dQ [115,116,111,114,101] []
def kC:Lh->Bool:=dQ [97,100,100] []
def jY:Lh->Bool:=dQ [115,119,97,112] []
def tV:Lh->Bool:=dQ [102,101,110,99,101] [115,99]
theorem kLz (l:List Tree):bM isR l=bM vO l+bM kC l+bM jY l:=by
 have a:=(yS isR vO (fun x=>kC x||jY x) (fun x=>by
  simp only[isR,vO,kC,jY,dQ,x5,x6,x7,cN,aP,cU,cT];by_cases h:x.op.toList=[108,111,97,100]
  ·rw[h];decide
  ·simp[h])).2 l
 have b:=(yS (fun x=>kC x||jY x) kC jY (fun x=>by
  simp only[kC,jY,dQ,x5,x6,x7];by_cases h:x.op.toList=[97,100,100]
  ·rw[h];decide
  ·simp[h])).2 l
 rw[a,b];omega
theorem kLq (l:List Tree):bM isW l=bM uU l+bM kC l+bM jY l:=by
 have a:=(yS isW uU (fun x=>kC x||jY x) (fun x=>by
  simp only[isW,uU,kC,jY,dQ,x5,x6,x7,cO,aP,cU,cT];by_cases h:x.op.toList=[115,116,111,114,101]
  ·rw[h];decide
  ·simp[h])).2 l
 have b:=(yS (fun x=>kC x||jY x) kC jY (fun x=>by
  simp only[kC,jY,dQ,x5,x6,x7];by_cases h:x.op.toList=[97,100,100]
  ·rw[h];decide
  ·simp[h])).2 l
 rw[a,b];omega
theorem zPL:isF=tV:=by
 funext x
 simp[isF,tV,dQ,kAe,aP,oS]
theorem zPM:isB=dQ [98,97,114,114,105,101,114] []:=by
 funext x
 simp[isB,dQ,cW,aP]
end R
theorem ThsAt.get {b:Nat} (h:ThsAt w B (.slice (some ⟨b,0,none⟩) n cap) ts vs Fs) (y:n=ts.length) (z:∀ t∈ts,kAs t.body<10000) (k:Nat) (d:k<ts.length) :
  b<w.heap.size/\∃ u,w.cell? ⟨b,k*3,none⟩=some (.int .i64 ts[k].block)/\w.cell? ⟨b,k*3+1,none⟩=some u/\w.cell? ⟨b,k*3+2,none⟩=some (.int .i64 ts[k].row) /\
   Hid (∀ (g a:ByteArray) (c:World),Below w.heap.size w c->Calls prog 16 #[u,.string g,.string a] c fun e w'=>e=.returned (.int .i64 (bM (dQ g.toList a.toList) ts[k].body))/\Below c.heap.size c w'):=by
 have i:k<vs.length:=by rw[h.lv];exact d
 have r:k<Fs.length:=by rw[h.lF];exact d
 have f:=h.own;rw[<- y] at f;obtain⟨m,o,p⟩:=zIk ts vs h.lv k ts[k] vs[k] (by simp[d]) (by simp[i]);refine⟨(f.lt b rfl).2,vs[k],?_,?_,?_,?_⟩
 ·rw[f.cellAt _ (by omega)];exact m
 ·rw[f.cellAt _ (by omega)];exact o
 ·rw[f.cellAt _ (by omega)];exact p
 ·intro g a c s;have L:=h.kid k ts[k] vs[k] Fs[k] (by simp[d]) (by simp[i]) (by simp[r]);refine (zIj g a L (z _ (xb d)) c (fun j x=>s.block j (L.gO j x).2)).mono ?_;rintro e w' ⟨rfl,q⟩;exact⟨rfl,q⟩
theorem zIl (B T n cap:Nat) (ts:List R.Th) (vs:List Value) (Fs:List (List Nat)) (w:World) (h:ThsAt w B (.slice (some ⟨T,0,none⟩) n cap) ts vs Fs) (hn:n=ts.length) (ad:n<10) (hs:∀ t∈ts,kAs t.body<10000) :
  Calls prog 15 #[.slice (some ⟨T,0,none⟩) n cap] w fun e w'=>e=.returned (.bool (uP ts))/\Below w.heap.size w w':=by
 have HA:=zAa h;have C:=zAa hn;have D:=zAa hs;clear h hn hs;go_enter func15,ntmps15;go_wp2;go_loopw [3,4,5,6] (fun a b c i wr=>∃ k:Nat,k<=n/\i=.int .i64 k/\a=.int .i64 (dI R.isR (ts.take k))/\b=.int .i64 (dI R.isW (ts.take k))/\c=.int .i64 (dI R.isF (ts.take k))/\Below w.heap.size w wr) (fun _ _ _ i _=>n-(intOf i).toNat)
 case atStart=>exact⟨0,Nat.zero_le _,rfl,rfl,rfl,rfl,Below.refl _ _⟩
 case round =>
  obtain⟨k,hk,rfl,rfl,rfl,rfl,d⟩:=hrel;have p:∀ t∈ts.take k,kAs t.body<10000:=fun t ht=>D.out t (List.mem_of_mem_take ht)
  have ac:((ts.take k).length:Int)<=10:=by have:=List.length_take_le k ts;omega
  have b1:0<=dI R.isR (ts.take k)/\dI R.isR (ts.take k)<=100000:=by have:=CD R.isR _ p;omega
  have b2:0<=dI R.isW (ts.take k)/\dI R.isW (ts.take k)<=100000:=by have:=CD R.isW _ p;omega
  have b3:0<=dI R.isF (ts.take k)/\dI R.isF (ts.take k)<=100000:=by have:=CD R.isF _ p;omega
  by_cases hlt:k<n
  ·have o:k<ts.length:=by rw[<- C.out];exact hlt
   obtain⟨G,u,c0,U,c2,K⟩:=HA.out.get C.out D.out k o;have d1:=aC d G U;have r:=AR R.isR ts k o;have s:=AR R.isW ts k o;have y:=AR R.isF ts k o;rw[kLz] at r;rw[kLq] at s;rw[zPL] at y;have hz:=D.out ts[k] (xb o);unfold kAs at hz;have V:=iR vO ts[k].body;have W:=iR uU ts[k].body;have X:=iR kC ts[k].body;have Y:=iR jY ts[k].body;have Z:=iR tV ts[k].body;obtain⟨g,j⟩:∃ f:ByteArray->ByteArray->Int,∀ q m,f q m=bM (dQ q.toList m.toList) ts[k].body:=⟨_,fun _ _=>rfl⟩;have A:Hid (∀ (q m:ByteArray) (z:World),Below w.heap.size w z->Calls prog 16 #[u,.string q,.string m] z fun e w'=>e=.returned (.int .i64 (g q m))/\Below w.heap.size w w'):=fun q m z E=>by
    rw[j];refine (K.out q m z E).mono ?_;rintro e w' ⟨rfl,h2⟩;exact⟨rfl,E.trans (h2.mono E.size)⟩
   have L:bM vO ts[k].body=g ⟨#[108,111,97,100]⟩ ⟨#[]⟩:=by rw[j,aP,aP];rfl
   have M:bM uU ts[k].body=g ⟨#[115,116,111,114,101]⟩ ⟨#[]⟩:=by rw[j,aP,aP];rfl
   have N:bM kC ts[k].body=g ⟨#[97,100,100]⟩ ⟨#[]⟩:=by rw[j,aP,aP];rfl
   have O:bM jY ts[k].body=g ⟨#[115,119,97,112]⟩ ⟨#[]⟩:=by rw[j,aP,aP];rfl
   have S:bM tV ts[k].body=g ⟨#[102,101,110,99,101]⟩ ⟨#[115,99]⟩:=by rw[j,aP,aP];rfl
   rw[L] at V r;rw[M] at W s;rw[N] at X r s;rw[O] at Y r s;rw[S] at Z y;have f1:0<=g ⟨#[108,111,97,100]⟩ ⟨#[]⟩/\g ⟨#[108,111,97,100]⟩ ⟨#[]⟩<10000:=by omega
   have f2:0<=g ⟨#[115,116,111,114,101]⟩ ⟨#[]⟩/\g ⟨#[115,116,111,114,101]⟩ ⟨#[]⟩<10000:=by omega
   have f3:0<=g ⟨#[97,100,100]⟩ ⟨#[]⟩/\g ⟨#[97,100,100]⟩ ⟨#[]⟩<10000:=by omega
   have f4:0<=g ⟨#[115,119,97,112]⟩ ⟨#[]⟩/\g ⟨#[115,119,97,112]⟩ ⟨#[]⟩<10000:=by omega
   have f5:0<=g ⟨#[102,101,110,99,101]⟩ ⟨#[115,99]⟩/\g ⟨#[102,101,110,99,101]⟩ ⟨#[115,99]⟩<10000:=by omega
   clear K c0 U c2 L M N O S j;have S1:=zAa r;have S2:=zAa s;have S3:=zAa y;clear r s y V W X Y Z hz;rw[zPL] at *;generalize dI R.isR (ts.take k)=I at *;generalize dI R.isW (ts.take k)=J at *;generalize dI tV (ts.take k)=t3 at *;have ab:(k:Int)<(n:Int):=by omega
   go_wp2_with (first | (go_at_call 16;refine (A.out _ _ _ (by assumption)).mono ?_;rintro e w1 ⟨rfl,aa⟩));go_roundw
   case rel=>exact⟨k+1,by omega,by go_num,by rw[S1.out];congr 1;omega,by rw[S2.out];congr 1;omega,by rw[S3.out],by assumption⟩
   case measure=>simp[intOf];omega
  ·have H:k=n:=by omega
   subst H;have HT:Hid (ts.take k=ts):=xh (by have:=C.out;omega);rw[HT.out] at *;have x:Hid (uP ts=(decide (dI R.isR ts<=4)&&decide (dI R.isW ts<=3)&&decide (dI R.isF ts<=3))):=rfl;generalize dI R.isR ts=I at *;generalize dI R.isW ts=J at *;generalize dI R.isF ts=t3 at *;by_cases g1:I<=4
   ·by_cases g2:J<=3
    ·by_cases g3:t3<=3
     ·go_wp2;go_ret;rw[x.out];simp[g1,g2,g3];exact d
     ·go_wp2;go_ret;rw[x.out];simp[g1,g2,g3];exact d
    ·go_wp2;go_ret;rw[x.out,decide_eq_false (show ¬ J<=3 by omega)];simp;exact d
   ·go_wp2;go_ret;rw[x.out,decide_eq_false (show ¬ I<=4 by omega)];simp;exact d
end Go.Proofs.YtonodfjdiepglaaGreatDoor
