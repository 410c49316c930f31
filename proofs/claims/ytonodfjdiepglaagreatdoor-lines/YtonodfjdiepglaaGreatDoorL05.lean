import Derived.Deep.RegionLaw
import Derived.Test.YtonodfjdiepglaaGreatDoorL03
set_option linter.unusedVariables false
set_option linter.unusedSimpArgs false
set_option maxHeartbeats 12800000
namespace Go.Proofs.YtonodfjdiepglaaGreatDoor
open Go Go.RowKit Go.Proofs.Tryz P R
set_option maxRecDepth 1000000
variable {W0 w w' w1:World} {B cap1 g g1 k n sz:Nat} {e e':TypeId} {ov tv v:Value} {vs xs:List Value} {r:Rd}
open Go.Value renaming int→xF,ownBlock→x1,slice→x5,oneCell'→x8
open Go.RowKit.Below renaming heap_alloc→xR,heap_setCell→xW
open Go.Obj renaming cells→x2
open Go.World renaming cell?_of_block→x3,news_of_block→x6,frozen?_of_block→x7,cell?→x9
open Go.Act renaming eval→x4
open List renaming getElem?_append_right→xa,length_append→xb,length_cons→xc,length_nil→xd,map_append→xe
def zAK:List Thr->List Value->List Value
 | t::ts,v::vs=>.int .i64 t.block::.int .i64 t.line::v::zAK ts vs
 | _,_=>[]
def iF (l:List Stm):List Value:=l.flatMap (fun s=>(aQ s).toList)
theorem zFz (l:List Stm) (s:Stm):iF (l++[s])=iF l++(aQ s).toList:=by simp[iF]
def zAO (w:World) (B:Nat):List Thr->List Value->Prop
 | [],[]=>True
 | t::ts,v::vs=>w.ownsRow B 109 11 v t.Eb.length (iF t.Eb)/\(∀ u∈vs,v.ownBlock=none\/v.ownBlock≠u.ownBlock)/\zAO w B ts vs
 | _,_=>False
structure RdIn (w:World) (B g:Nat) (r:Rd) (tv ov:Value) (vs:List Value):Prop where
 cells:w.heap[g]?=some (.cells #[tv,.int .i64 r.most,.int .i64 r.count,.int .i64 r.ifs,ov] 97 (0,0))
 Ec:w.ownsRow B 104 3 tv r.Ec.length (zAK r.Ec vs)
 opn:w.ownsRow B 3 1 ov r.opn.length (r.opn.map (xF .i64))
 Eb:zAO w B r.Ec vs
def dJ (w:World) (B g:Nat) (r:Rd):Prop:=∃ tv ov vs,RdIn w B g r tv ov vs
theorem aX (h:w.ownsRow B e sz v n xs) (f:∀ k,v.ownBlock=some k->w'.heap[k]?=w.heap[k]?):w'.ownsRow B e sz v n xs:=by
 refine⟨h.1,?_⟩
 rcases h.2 with i | ⟨g,a,b,rfl,d,c,rest⟩
 ·exact .inl i
 ·exact .inr ⟨g,a,b,rfl,d,by rw[f g rfl];exact c,rest⟩
theorem zAO.length {w:World} {B:Nat}:∀ {a:List Thr} {vs:List Value},zAO w B a vs->vs.length=a.length
 | [],[],_=>rfl
 | _::_,_::_,h=>by simp[zAO.length h.2.2]
theorem zAO.keep {w w':World} {B:Nat}:∀ {a:List Thr} {vs:List Value},zAO w B a vs->(∀ v∈vs,∀ k,v.ownBlock=some k->w'.heap[k]?=w.heap[k]?)->zAO w' B a vs
 | [],[],_,_=>trivial
 | _::_,v::_,h,hk=>⟨aX h.1 (hk v (by simp)),h.2.1,zAO.keep h.2.2 (fun u b=>hk u (by simp[b]))⟩
theorem zAO.mem {w:World} {B:Nat}:∀ {b:List Thr} {vs:List Value},zAO w B b vs->∀ v∈vs,∃ n xs,w.ownsRow B 109 11 v n xs
 | [],[],_,u,a=>by simp at a
 | _::_,v::_,h,u,a=>by
  rcases List.mem_cons.1 a with rfl | a
  ·exact⟨_,_,h.1⟩
  ·exact zAO.mem h.2.2 u a
theorem RdIn.lt (h:RdIn w B g r tv ov vs):g<w.heap.size:=(Array.getElem?_eq_some_iff.1 h.cells).1
theorem RdIn.keep (h:RdIn w B g r tv ov vs) (a:∀ k,k<w.heap.size->w'.heap[k]?=w.heap[k]?):RdIn w' B g r tv ov vs :=
 ⟨by rw[a g h.lt];exact h.cells,aX h.Ec (fun k e=>a k (h.Ec.lt k e).2),aX h.opn (fun k e=>a k (h.opn.lt k e).2),
  h.Eb.keep (fun v c k e=>by obtain⟨n,xs,b⟩:=h.Eb.mem v c;exact a k (b.lt k e).2)⟩
theorem dJ.below (h:dJ w B g r) (a:Below w.heap.size w w'):dJ w' B g r:=by
 obtain⟨tv,ov,vs,h⟩:=h;exact⟨tv,ov,vs,h.keep a.block⟩
theorem eC (h:w.ownsRow B e sz v n xs) (c:v.ownBlock=some k):∃ a,w.heap[k]?=some (.cells a e (0,0)):=by
 rcases h.2 with ⟨rfl,_⟩ | ⟨g,d,a,rfl,f,b,rest⟩
 ·simp[x1] at c
 ·simp[x1] at c;subst c;exact⟨a,b⟩
theorem fP {l:Nat} {f:Nat} {j:Value} {q:Nat} {i:List Value} (h:w.ownsRow B e sz v n xs) (m:w.ownsRow l e' f j q i) (d:e≠e') (p:v.ownBlock=some k):j.ownBlock≠some k:=by
 intro b;obtain⟨c,o⟩:=eC h p;obtain⟨s,a⟩:=eC m b;rw[o] at a;simp at a;exact d a.2
theorem mJ {cs:Array Value} {d:Nat × Nat} (h:w.ownsRow B e sz v n xs) (a:w.heap[g]?=some (.cells cs e' d)) (b:e≠e'):v.ownBlock≠some g:=by
 intro i;obtain⟨c,f⟩:=eC h i;rw[f] at a;simp at a;exact b a.2.1
theorem uV:∀ (c:List Thr) (vs:List Value) (t:Thr) (v:Value),vs.length=c.length->zAK (c++[t]) (vs++[v])=zAK c vs++[.int .i64 t.block,.int .i64 t.line,v]
 | [],[],_,_,_=>rfl
 | a::r,b::q,t,v,h=>by simp[zAK,uV r q t v (by simpa using h)]
theorem vN:∀ (c:List Thr) (vs:List Value),vs.length=c.length->(zAK c vs).length=c.length*3
 | [],[],_=>rfl
 | a::r,b::q,h=>by simp[zAK,vN r q (by simpa using h)];omega
theorem tR {w:World} {B:Nat}:∀ (o:List Thr) (vs:List Value) (t:Thr) (v:Value),zAO w B (o++[t]) (vs++[v]) ↔ zAO w B o vs/\w.ownsRow B 109 11 v t.Eb.length (iF t.Eb)/\∀ u∈vs,u.ownBlock=none\/u.ownBlock≠v.ownBlock
 | [],[],t,v=>by simp[zAO]
 | [],b::q,t,v=>by
  cases q with
  | nil=>simp[zAO]
  | cons c q=>simp[zAO]
 | a::r,[],t,v=>by
  cases r with
  | nil=>simp[zAO]
  | cons c q=>simp[zAO]
 | a::r,b::q,t,v=>by
  have ih:=tR (w:=w) (B:=B) r q t v;simp only[List.cons_append,zAO,ih];constructor
  ·rintro ⟨j,f,l,m,i⟩;refine⟨⟨j,fun u d=>f u (by simp[d]),l⟩,m,fun u d=>?_⟩
   rcases List.mem_cons.1 d with rfl | d
   ·exact f v (by simp)
   ·exact i u d
  ·rintro ⟨⟨j,f,l⟩,m,i⟩;refine⟨j,fun u d=>?_,l,m,fun u d=>i u (by simp[d])⟩
   rcases List.mem_append.1 d with d | d
   ·exact f u d
   ·simp at d;subst d;exact i b (by simp)
theorem iD {α:Type} (l:List α) (h:l≠[]):∃ a b,l=a++[b]:=⟨l.dropLast,l.getLast h,(List.dropLast_concat_getLast h).symm⟩
theorem Tryz.infoStm:(prog.info? 109).map (fun i=>(i.zero,i.size,i.bytes))=some (some (.agg (aQ Stm.zero)),11,88):=by kernel_rfl
theorem zKP {i l m:Nat} {y:List Thr} {t:Thr} {E:Value} {F:Stm}
  (O:r.Ec=y++[t]) (hn:y.length=n) (hm:t.Eb.length=m)
  (h:RdIn w B g r (.slice (some ⟨i,0,none⟩) (n+1) l) ov (vs++[E]))
  (hk:∀ k,k<w.heap.size->W0.heap[k]?=w.heap[k]?) (aa:w.heap.size<=W0.heap.size) (W:W0.os=w.os) (Y:W0.tape=w.tape) (X:W0.output=w.output) (hB:B<=w.heap.size)
  (M:w1.ownsRow B 109 11 (.slice (some ⟨g1,0,none⟩) (m+1) cap1) (m+1) (iF t.Eb++(aQ F).toList)) (b:W0.grownBy w1 E.ownBlock) (J:E.ownBlock=some g1\/g1=W0.heap.size) :
  dJ (w1.setCell ⟨i,n*3+2,none⟩ (.slice (some ⟨g1,0,none⟩) (m+1) cap1)) B g (P.put r F)/\Below B w (w1.setCell ⟨i,n*3+2,none⟩ (.slice (some ⟨g1,0,none⟩) (m+1) cap1)):=by
 have S:=h.Eb;rw[O,tR] at S;obtain⟨q,D,N⟩:=S;have d:=h.Ec;have K:=eC d (k:=i) rfl;obtain⟨G,f⟩:=K;have z:i<w.heap.size:=(Array.getElem?_eq_some_iff.1 f).1;have p:vs.length=y.length:=q.length;have o:∀ k c e fr,w.heap[k]?=some (.cells c e fr)->e≠109->E.ownBlock≠some k:=fun k c e fr hc he=>mJ D hc (Ne.symm he)
 have j:∀ k,k<w.heap.size->E.ownBlock≠some k->k≠i->(w1.setCell ⟨i,n*3+2,none⟩ (.slice (some ⟨g1,0,none⟩) (m+1) cap1)).heap[k]?=w.heap[k]?:=fun k C V H=>by
  rw[xW _ _ _ _ H,b.block k (by omega) (Ne.symm V),hk k C]
 have A:g1≠i:=by
  intro e;subst e
  rcases J with I | I
  ·exact o g1 G _ _ f (by decide) I
  ·omega
 refine⟨⟨.slice (some ⟨i,0,none⟩) (n+1) l,ov,vs++[.slice (some ⟨g1,0,none⟩) (m+1) cap1],?_,?_,?_,?_⟩,?_⟩
 ·have L:g≠i:=fun e=>by subst e;rw[h.cells] at f;simp at f
  rw[j g h.lt (o g _ _ _ h.cells (by decide)) L];exact h.cells
 ·have V:w1.ownsRow B 104 3 (.slice (some ⟨i,0,none⟩) (n+1) l) (n+1) (zAK r.Ec (vs++[E])):=by
   have e:r.Ec.length=n+1:=by rw[O];simp;omega
   rw[e] at d;exact aX d (fun k a=>by
    simp[x1] at a;subst a;rw[b.block i (by omega) (Ne.symm (o i G _ _ f (by decide))),hk i z])
  have H:=(V.stored (n*3+2) (.slice (some ⟨g1,0,none⟩) (m+1) cap1)).1;have U:(P.put r F).Ec=y++[{ t with Eb:=t.Eb++[F] }]:=by simp only[P.put,O,sH]
  rw[U,uV _ _ _ _ p];rw[O,uV _ _ _ _ p] at H;have e2:(zAK y vs++[xF .i64 t.block,.int .i64 t.line,E]).set (n*3+2) (.slice (some ⟨g1,0,none⟩) (m+1) cap1)=zAK y vs++[.int .i64 t.block,.int .i64 t.line,.slice (some ⟨g1,0,none⟩) (m+1) cap1]:=by
   rw[List.set_append_right _ _ (by rw[vN _ _ p];omega),vN _ _ p,show n*3+2-y.length*3=2 by omega];rfl
  rw[e2] at H;simpa [hn] using H
 ·refine aX h.opn (fun k a=>?_);have hl:=h.opn.lt k a;refine j k hl.2 ?_ ?_
  ·exact fP h.opn D (by decide) a
  ·intro e;subst e;exact fP h.opn d (by decide) a rfl
 ·have U:(P.put r F).Ec=y++[{ t with Eb:=t.Eb++[F] }]:=by simp only[P.put,O,sH]
  rw[U,tR];refine⟨q.keep (fun u T k a=>?_),?_,fun u T=>?_⟩
  ·obtain⟨n',Z,s⟩:=q.mem u T;have C:=(s.lt k a).2;refine j k C (fun e=>?_) (fun e=>?_)
   ·rcases N u T with x | x
    ·rw[x] at a;cases a
    ·exact x (by rw[a,e])
   ·subst e;exact fP s d (by decide) a rfl
  ·have:=M;rw[<- zFz] at this;refine aX (by simpa [hm] using this) (fun k a=>?_);simp[x1] at a;subst a;exact xW _ _ _ _ A
  ·rcases N u T with x | x
   ·exact .inl x
   ·rcases J with I | I
    ·exact .inr (by rw[I] at x;exact x)
    ·refine .inr (fun e=>?_);obtain⟨n',Z,s⟩:=q.mem u T;have:=(s.lt g1 e).2;omega
 ·refine⟨b.os.trans W,b.tape.trans Y,b.output.trans X,?_,fun k a=>?_⟩
  ·have:=b.size;simp[World.setCell];omega
  ·refine j k (by omega) (fun e=>?_) (fun e=>?_)
   ·have:=(D.lt k e).1;omega
   ·have:=(d.lt i rfl).1;omega
theorem zJS (B g c n l:Nat) (a:Stm) (i:Value) (m:Nat) (xs:List Value) (w:World) (S:w.cell? ⟨g,0,none⟩=some (.slice (some ⟨c,0,none⟩) (n+1) l))
  (hn:n<5) (hm:m<10000) (N:w.cell? ⟨c,n*3+2,none⟩=some i) (O:w.frozen? ⟨c,n*3+2,none⟩=false)
  (p:w.ownsRow B 109 11 i m xs) (x:some c≠i.ownBlock) (y:some g≠i.ownBlock) (hB:B<=w.heap.size) (s:g<w.heap.size) (o:c<w.heap.size) (Q:Ending->World->Prop)
  (F:∀ g1 cap1 w1,w1.ownsRow B 109 11 (.slice (some ⟨g1,0,none⟩) (m+1) cap1) (m+1) (xs++(aQ a).toList)->((w.alloc (.cells (aQ a) 109)).drew.alloc (.cells (aQ a) 109)).grownBy w1 i.ownBlock->(i.ownBlock=some g1\/g1=w.heap.size+2) ->
   Q (.returned (.tuple #[])) (w1.setCell ⟨c,n*3+2,none⟩ (.slice (some ⟨g1,0,none⟩) (m+1) cap1))) :
  Calls prog 99 #[.pointer (some ⟨g,0,none⟩),.agg (aQ a)] w Q:=by
 obtain⟨X,T,C,D,E⟩:=info_parts Tryz.infoStm;have f:((w.alloc (.cells (aQ a) 109)).drew.alloc (.cells (aQ a) 109)).ownsRow B 109 11 i m xs:=((p.alloc _).drew).alloc _;have L:=zAa f;have d:∀ j u,(aQ a).toList[j]?=some u->((w.alloc (.cells (aQ a) 109)).drew.alloc (.cells (aQ a) 109)).cell? ((⟨w.heap.size+1,0,none⟩:Addr).add j)=some u:=x6 (t:=109) (fr:=(0,0)) (by have:=heap_alloc_new (w.alloc (.cells (aQ a) 109)).drew (.cells (aQ a) 109);simpa using this);have K:=zAa d;have z:∀ k,k<w.heap.size->((w.alloc (.cells (aQ a) 109)).drew.alloc (.cells (aQ a) 109)).heap[k]?=w.heap[k]?:=fun k V=>by
  rw[xR _ _ _ (by simp;omega)];exact xR _ _ _ V
 have H:Hid (((w.alloc (.cells (aQ a) 109)).drew.alloc (.cells (aQ a) 109)).cell? ⟨c,n*3+2,none⟩=some i):=(x3 (w:=w) (z c o)).trans N;have I:Hid (((w.alloc (.cells (aQ a) 109)).drew.alloc (.cells (aQ a) 109)).frozen? ⟨c,n*3+2,none⟩=false):=(x7 (w:=w) (z c o)).trans O;have J:Hid (((w.alloc (.cells (aQ a) 109)).drew.alloc (.cells (aQ a) 109)).cell? ⟨g,0,none⟩=some (.slice (some ⟨c,0,none⟩) (n+1) l)):=(x3 (w:=w) (z g s)).trans S;have M:=zAa F;clear f d z F p;have U:((n:Int)<(n:Int)+1):=by omega
 have W:(0:Int)<=(n:Int):=by omega
 simp only[aQ];go_enter func99,ntmps99;go_wp2_with fail;go_region_law (refine step_append_lies _ rfl (.tmp 25) (.tmp 27) 102 rfl B 109 X (.agg (aQ Stm.zero)) 11 88 underlying102 T C D E rfl (by decide) i m xs (by simp[x4]) (by exact L.out) ⟨w.heap.size+1,0,none⟩ 1 1 (aQ a).toList (by simp[x4]) rfl (by exact K.out) (by simp[aQ,x8]) (by decide) (by unfold maxLen;omega) (by omega) (by simp;omega) (w.heap.size+2) (by simp) ?_;intro g1 cap1 w1 q b A G;have Y:=(b.cell_far ⟨c,n*3+2,none⟩ (by simp;omega) x).trans H.out;have f1:=(b.frozen_far ⟨c,n*3+2,none⟩ (by simp;omega) x).trans I.out;have Z:=(b.cell_far ⟨g,0,none⟩ (by simp;omega) y).trans J.out)
 all_goals go_end0
 all_goals exact M.out _ _ _ q b A
def uZ (N:Nat) (r:Rd):Prop:=r.Ec.length<=4/\∀ t∈r.Ec,t.Eb.length<=N
theorem AL (B g N:Nat) (r:Rd) (u:Stm) (w:World) (h:dJ w B g r) (A:r.Ec≠[]) (F:uZ N r) (O:N<10000) (E:B<=w.heap.size) :
  Calls prog 99 #[.pointer (some ⟨g,0,none⟩),.agg (aQ u)] w fun e w'=>e=.returned (.tuple #[])/\dJ w' B g (P.put r u)/\Below B w w':=by
 obtain⟨tv,ov,vs,h⟩:=h;obtain⟨l,t,m⟩:=iD r.Ec A;have H:=h.Eb.length;have s:vs≠[]:=by intro e;subst e;rw[m] at H;simp at H
 obtain⟨D,I,rfl⟩:=iD vs s;have p:r.Ec.length=l.length+1:=by rw[m];simp
 have a:=h.Ec;rw[p] at a;obtain⟨x,b,rfl,_,c⟩:=a.form (by omega);have q:=h.Eb;rw[m,tR] at q;obtain⟨C,j,M⟩:=q;have f:D.length=l.length:=C.length;have K:w.cell? ⟨x,l.length*3+2,none⟩=some I:=by
  rw[a.cellAt _ (by omega),m,uV _ _ _ _ f,xa (by rw[vN _ _ f];omega),vN _ _ f,show l.length*3+2-l.length*3=2 by omega];rfl
 have z:w.cell? ⟨g,0,none⟩=some (.slice (some ⟨x,0,none⟩) (l.length+1) b):=by
  simp[x9,h.cells]
 have S:t.Eb.length<=N:=F.2 t (by rw[m];simp);obtain⟨J,o⟩:=eC a (k:=x) rfl;refine zJS B g x l.length b u I t.Eb.length (iF t.Eb) w z (by have:=F.1;omega) (by omega) K (a.frozenAt _) j (Ne.symm (mJ j o (by decide))) (Ne.symm (mJ j h.cells (by decide))) E h.lt c _ ?_;intro g1 cap1 w1 i d y;refine⟨rfl,zKP (W0:=(w.alloc (.cells (aQ u) 109)).drew.alloc (.cells (aQ u) 109)) m rfl rfl h (fun k L=>?_) (by simp;omega) rfl rfl rfl E i d (by rcases y with G | G;exact .inl G;right;simp;omega)⟩;rw[xR _ _ _ (by simp;omega)];exact xR _ _ _ L
theorem RdIn.qD (d:Rd) (b:Value) (h:RdIn w B g r tv ov vs) (i:Nat) (u:Value) (p:d.Ec=r.Ec)
  (o:w.ownsRow B 3 1 b d.opn.length (d.opn.map (xF .i64)))
  (q:(#[tv,.int .i64 r.most,.int .i64 r.count,.int .i64 r.ifs,ov]:Array Value).setIfInBounds i u=#[tv,.int .i64 d.most,.int .i64 d.count,.int .i64 d.ifs,b]) :
  RdIn (w.setCell ⟨g,i,none⟩ u) B g d tv b vs:=by
 have keep:∀ k,(∃ (c:Array Value) (e:TypeId),w.heap[k]?=some (x2 c e (0,0))/\e≠97)->(w.setCell ⟨g,i,none⟩ u).heap[k]?=w.heap[k]?:=fun k ⟨c,e,a,j⟩ =>
  xW _ _ _ _ (fun m=>by simp at m;subst m;rw[h.cells] at a;simp at a;exact j a.2.symm)
 refine⟨by rw[bH h.cells,q],?_,?_,?_⟩
 ·rw[p];exact aX h.Ec (fun k f=>by obtain⟨c,a⟩:=eC h.Ec f;exact keep k ⟨c,_,a,by decide⟩)
 ·exact aX o (fun k f=>by obtain⟨c,a⟩:=eC o f;exact keep k ⟨c,_,a,by decide⟩)
 ·rw[p];exact h.Eb.keep (fun v s k f=>by
   obtain⟨n,xs,l⟩:=h.Eb.mem v s;obtain⟨c,a⟩:=eC l f;exact keep k ⟨c,_,a,by decide⟩)
theorem RdIn.facts (h:RdIn w B g r tv ov vs):g<w.heap.size/\(∀ i,w.frozen? ⟨g,i,none⟩=false)/\w.cell? ⟨g,0,none⟩=some tv/\w.cell? ⟨g,1,none⟩=some (.int .i64 r.most) /\
  w.cell? ⟨g,2,none⟩=some (.int .i64 r.count)/\w.cell? ⟨g,3,none⟩=some (.int .i64 r.ifs)/\w.cell? ⟨g,4,none⟩=some ov:=by
 refine⟨h.lt,fun i=>?_,?_,?_,?_,?_,?_⟩<;>simp[x9,World.frozen?,h.cells]
theorem zKQ {a:Nat} {x:Value} (h:w.ownsRow B e 1 (.slice (some ⟨k,0,none⟩) (n+1) a) (n+1) (xs++[x])):w.ownsRow B e 1 (.slice (some ⟨k,0,none⟩) n a) n xs:=by
 have l:=h.1
 rcases h.2 with ⟨d,_⟩ | ⟨s,j,b,d,m,o,p,f,i,c⟩
 ·simp at d
 ·simp only[Value.slice.injEq,Option.some.injEq,Addr.mk.injEq,and_true,true_and] at d;obtain⟨rfl,rfl⟩:=d;refine⟨by simp at l;omega,.inr ⟨k,a,b,rfl,m,o,by omega,f,i,?_⟩⟩;have q:xs.length=n:=by simp at l;omega
  have e:b.toList.take n=(b.toList.take ((n+1)*1)).take n:=by rw[List.take_take];congr 1;omega
  rw[Nat.mul_one,e,c,<- q];simp
theorem zJT (B g N:Nat) (r:Rd) (i:Stm) (w:World) (h:dJ w B g r) (z:r.Ec≠[]) (S:uZ N r) (T:N<10000) (M:B<=w.heap.size) (A:r.opn.length<10) :
  Calls prog 97 #[.pointer (some ⟨g,0,none⟩),.agg (aQ i)] w fun e w'=>e=.returned (.bool (ends r i).2)/\dJ w' B g (ends r i).1/\Ek B g w w':=by
 have t:=h;obtain⟨tv,ov,vs,h⟩:=h;by_cases he:r.opn=[]
 ·have C:ov=.slice none 0 0\/∃ k c,ov=.slice (some ⟨k,0,none⟩) 0 c:=by
   have:=h.opn;rw[he] at this
   rcases this.2 with ⟨e,_⟩ | ⟨k,c,m,e,_⟩
   ·exact .inl e
   ·exact .inr ⟨k,c,e⟩
  obtain⟨q,p,g0,g1,J,K,L⟩:=h.facts;have l:Hid (ends r i=(r,false)):=by unfold Hid;simp[ends,he]
  have u:dJ (w.alloc (.cells (aQ i) 109)) B g r:=t.below ((Below.refl _ _).alloc (Nat.le_refl _) _);clear t h
  rcases C with rfl | ⟨k,c,rfl⟩
  all_goals
   go_enter func97,ntmps97;go_wp2;go_ret;rw[fX l];exact⟨rfl,u,(Ek.refl _ _ _).alloc M _⟩
 ·obtain⟨f,o,d⟩:=iD r.opn he;have a:=h.opn;rw[d] at a;simp only[xb,xc,xd,Nat.zero_add,xe,List.map_cons,List.map_nil] at a;obtain⟨k,b,rfl,O,H⟩:=a.form (by omega);have hc:w.cell? ⟨k,f.length,none⟩=some (.int .i64 o):=by
   rw[a.cellAt _ (by omega),xa (by simp)];simp
  obtain⟨q,p,g0,g1,J,K,L⟩:=h.facts;have Z:f.length<10:=by rw[d] at A;simp at A;omega
  have l:Hid (ends r i=(P.put { r with opn:=f } { i with label:=o },true)):=by unfold Hid;simp[ends,d]
  have I:Hid (dJ ((w.setCell ⟨g,4,none⟩ (.slice (some ⟨k,0,none⟩) f.length b)).alloc (.cells (aQ { i with label:=o }) 109)) B g { r with opn:=f }):=by
   have F:=h.opn;rw[d] at F;simp only[xb,xc,xd,Nat.zero_add,xe,List.map_cons,List.map_nil] at F;have k3:=h.qD { r with opn:=f } (.slice (some ⟨k,0,none⟩) f.length b) 4 (.slice (some ⟨k,0,none⟩) f.length b) rfl (zKQ F) rfl;exact⟨tv,_,vs,k3.keep (fun j W=>xR _ _ _ W)⟩
  have x:Hid (Ek B g w ((w.setCell ⟨g,4,none⟩ (.slice (some ⟨k,0,none⟩) f.length b)).alloc (.cells (aQ { i with label:=o }) 109))) :=
   ((Ek.refl _ _ _).setCell _).alloc (by simp;omega) _
  have Y:f.length+1<=b:=by
   rcases a.2 with ⟨s,_⟩ | ⟨g',G,m,s,hb,hg,X,U,V,E⟩
   ·simp at s
   ·simp only[Value.slice.injEq] at s;omega
  clear t h a d he A;simp only[aQ];go_enter func97,ntmps97;go_wp2_with (first
   | (go_at_call 99;refine (AL B g N { r with opn:=f } { i with label:=o } _ (by exact I.out) z S T (by simp;omega)).mono ?_;rintro e w1 ⟨rfl,D,y⟩))
  go_ret;rw[fX l];exact⟨rfl,D,x.out.trans (Ek.of y)⟩
theorem Tryz.infoInt:(prog.info? 3).map (fun i=>(i.zero,i.size,i.bytes))=some (some (.int .i64 0),1,8):=by kernel_rfl
theorem zKR {x:Int}
  (h:RdIn w B g r tv ov vs) (t:∀ k,k<w.heap.size->W0.heap[k]?=w.heap[k]?) (u:w.heap.size<=W0.heap.size)
  (f:w1.ownsRow B 3 1 (.slice (some ⟨g1,0,none⟩) (r.opn.length+1) cap1) (r.opn.length+1) (r.opn.map (xF .i64)++[.int .i64 x])) (d:W0.grownBy w1 ov.ownBlock) :
  RdIn (w1.setCell ⟨g,4,none⟩ (.slice (some ⟨g1,0,none⟩) (r.opn.length+1) cap1)) B g { r with opn:=r.opn++[x] } tv (.slice (some ⟨g1,0,none⟩) (r.opn.length+1) cap1) vs/\(∀ k,k<W0.heap.size->ov.ownBlock≠some k->k≠g->(w1.setCell ⟨g,4,none⟩ (.slice (some ⟨g1,0,none⟩) (r.opn.length+1) cap1)).heap[k]?=W0.heap[k]?):=by
 have o:∀ k,k<w.heap.size->ov.ownBlock≠some k->w1.heap[k]?=w.heap[k]?:=fun k i j=>by
  rw[d.block k (by omega) (Ne.symm j),t k i]
 have z:∀ k,(∃ (c:Array Value) (e:TypeId),w.heap[k]?=some (x2 c e (0,0))/\e≠3)->ov.ownBlock≠some k:=fun k ⟨c,e,b,p⟩=>mJ h.opn b (Ne.symm p)
 have keep:∀ k,k<w.heap.size->(∃ (c:Array Value) (e:TypeId),w.heap[k]?=some (x2 c e (0,0))/\e≠3)->w1.heap[k]?=w.heap[k]?:=fun k i j=>o k i (z k j)
 have i:RdIn w1 B g { r with opn:=r.opn++[x] } tv (.slice (some ⟨g1,0,none⟩) (r.opn.length+1) cap1) vs->True:=fun _=>trivial
 have l:w1.heap[g]?=w.heap[g]?:=keep g h.lt ⟨_,_,h.cells,by decide⟩;refine⟨⟨?_,?_,?_,?_⟩,fun k i j q=>?_⟩
 ·have:=h.cells;rw[<- l] at this;rw[bH this];rfl
 ·refine aX h.Ec (fun k a=>?_);obtain⟨c,b⟩:=eC h.Ec a;rw[xW _ _ _ _ (fun e=>by simp at e;subst e;rw[h.cells] at b;simp at b)];exact keep k (h.Ec.lt k a).2 ⟨c,_,b,by decide⟩
 ·have s:=f;refine aX (by simpa using s) (fun k a=>xW _ _ _ _ (fun e=>?_));simp at e;subst e;obtain⟨c,b⟩:=eC f a;rw[l,h.cells] at b;simp at b
 ·refine h.Eb.keep (fun v y k a=>?_);obtain⟨n,xs,m⟩:=h.Eb.mem v y;obtain⟨c,b⟩:=eC m a;rw[xW _ _ _ _ (fun e=>by simp at e;subst e;rw[h.cells] at b;simp at b)];exact keep k (m.lt k a).2 ⟨c,_,b,by decide⟩
 ·rw[xW _ _ _ _ q,d.block k i (Ne.symm j)]
theorem zHD (B g N:Nat) (r:Rd) (d:Stm) (w:World) (h:dJ w B g r) (D:r.Ec≠[]) (hF:uZ N r) (hN:N<10000) (hB:B<=w.heap.size) (ho:r.opn.length<2) (ac:0<=r.ifs) (ad:r.ifs<10000) :
  Calls prog 98 #[.pointer (some ⟨g,0,none⟩),.agg (aQ d)] w fun e w'=>e=.returned (.bool (branch r d).2)/\dJ w' B g (branch r d).1/\Ek B g w w':=by
 obtain⟨tv,ov,vs,h⟩:=h;obtain⟨i0,hi,G,H,I⟩:=info_parts Tryz.infoInt;have E:∃ a c,ov=.slice a r.opn.length c:=by
  rcases h.opn.2 with ⟨e,h0⟩ | ⟨k,c,Y,e,_⟩
  ·exact⟨none,0,by rw[e,h0]⟩
  ·exact⟨_,c,e⟩
 obtain⟨m,o,rfl⟩:=E;obtain⟨aa,Z,g0,g1,g2,g3,g4⟩:=h.facts;have S:Hid (branch r d=(P.put { r with ifs:=r.ifs+1,opn:=r.opn++[r.ifs+1] } { d with label:=r.ifs+1 },true)):=by
  unfold Hid;rw[branch,if_neg (by omega)]
 have i:RdIn (((w.setCell ⟨g,3,none⟩ (.int .i64 (r.ifs+1))).alloc (.cells (aQ { d with label:=r.ifs+1 }) 109))) B g { r with ifs:=r.ifs+1 } tv (.slice m r.opn.length o) vs :=
  (h.qD { r with ifs:=r.ifs+1 } (.slice m r.opn.length o) 3 (.int .i64 (r.ifs+1)) rfl h.opn rfl).keep (fun j hj=>xR _ _ _ hj)
 have K1:=zAa i;have V:Hid ((((w.setCell ⟨g,3,none⟩ (.int .i64 (r.ifs+1))).alloc (.cells (aQ { d with label:=r.ifs+1 }) 109)).drew.alloc (.cells #[.int .i64 (r.ifs+1)] 3)).ownsRow B 3 1 (.slice m r.opn.length o) r.opn.length (r.opn.map (xF .i64))):=(i.opn.drew).alloc _;have U:Hid (∀ j u,[xF .i64 (r.ifs+1)][j]?=some u->(((w.setCell ⟨g,3,none⟩ (.int .i64 (r.ifs+1))).alloc (.cells (aQ { d with label:=r.ifs+1 }) 109)).drew.alloc (.cells #[.int .i64 (r.ifs+1)] 3)).cell? ((⟨w.heap.size+1,0,none⟩:Addr).add j)=some u) :=
  x6 (cs:=#[.int .i64 (r.ifs+1)]) (t:=3) (fr:=(0,0)) (by have:=heap_alloc_new ((w.setCell ⟨g,3,none⟩ (.int .i64 (r.ifs+1))).alloc (.cells (aQ { d with label:=r.ifs+1 }) 109)).drew (.cells #[.int .i64 (r.ifs+1)] 3);simpa using this)
 have l:some g≠(x5 m r.opn.length o).ownBlock:=Ne.symm (mJ i.opn i.cells (by decide));have z:(((w.setCell ⟨g,3,none⟩ (.int .i64 (r.ifs+1))).alloc (.cells (aQ { d with label:=r.ifs+1 }) 109)).drew.alloc (.cells #[.int .i64 (r.ifs+1)] 3)).heap[g]?=((w.setCell ⟨g,3,none⟩ (.int .i64 (r.ifs+1))).alloc (.cells (aQ { d with label:=r.ifs+1 }) 109)).heap[g]?:=xR _ _ _ i.lt;have O:Hid ((((w.setCell ⟨g,3,none⟩ (.int .i64 (r.ifs+1))).alloc (.cells (aQ { d with label:=r.ifs+1 }) 109)).drew.alloc (.cells #[.int .i64 (r.ifs+1)] 3)).cell? ⟨g,4,none⟩=some (.slice m r.opn.length o)):=by
  unfold Hid;rw[x3 (w:=((w.setCell ⟨g,3,none⟩ (.int .i64 (r.ifs+1))).alloc (.cells (aQ { d with label:=r.ifs+1 }) 109))) z];simp[x9,i.cells]
 have T:Hid ((((w.setCell ⟨g,3,none⟩ (.int .i64 (r.ifs+1))).alloc (.cells (aQ { d with label:=r.ifs+1 }) 109)).drew.alloc (.cells #[.int .i64 (r.ifs+1)] 3)).frozen? ⟨g,4,none⟩=false):=by
  unfold Hid;rw[x7 (w:=((w.setCell ⟨g,3,none⟩ (.int .i64 (r.ifs+1))).alloc (.cells (aQ { d with label:=r.ifs+1 }) 109))) z];simp[World.frozen?,i.cells]
 have s:∀ q p w1,World.ownsRow w1 B 3 1 (.slice (some ⟨q,0,none⟩) (r.opn.length+1) p) (r.opn.length+1) (r.opn.map (xF .i64)++[.int .i64 (r.ifs+1)])->(((w.setCell ⟨g,3,none⟩ (.int .i64 (r.ifs+1))).alloc (.cells (aQ { d with label:=r.ifs+1 }) 109)).drew.alloc (.cells #[.int .i64 (r.ifs+1)] 3)).grownBy w1 (x5 m r.opn.length o).ownBlock ->
   dJ (w1.setCell ⟨g,4,none⟩ (.slice (some ⟨q,0,none⟩) (r.opn.length+1) p)) B g { r with ifs:=r.ifs+1,opn:=r.opn++[r.ifs+1] }/\bC (w1.setCell ⟨g,4,none⟩ (.slice (some ⟨q,0,none⟩) (r.opn.length+1) p)) w.heap.size { d with label:=r.ifs+1 }/\Ek B g w (w1.setCell ⟨g,4,none⟩ (.slice (some ⟨q,0,none⟩) (r.opn.length+1) p)):=fun q p w1 x b=>by
  obtain⟨m1,m2⟩:=zKR (W0:=(((w.setCell ⟨g,3,none⟩ (.int .i64 (r.ifs+1))).alloc (.cells (aQ { d with label:=r.ifs+1 }) 109)).drew.alloc (.cells #[.int .i64 (r.ifs+1)] 3))) i (fun k C=>xR _ _ _ C) (by simp) x b;have K:bC ((w.setCell ⟨g,3,none⟩ (.int .i64 (r.ifs+1))).alloc (.cells (aQ { d with label:=r.ifs+1 }) 109)) w.heap.size { d with label:=r.ifs+1 }:=by
   have:=bC.bT (w.setCell ⟨g,3,none⟩ (.int .i64 (r.ifs+1))) { d with label:=r.ifs+1 };simpa using this
  refine⟨⟨_,_,_,m1⟩,(bC.alloc (w:=((w.setCell ⟨g,3,none⟩ (.int .i64 (r.ifs+1))).alloc (.cells (aQ { d with label:=r.ifs+1 }) 109)).drew) K _).aA (m2 w.heap.size (by simp;omega) (mJ i.opn K (by decide)) (by omega)),?_⟩;refine Ek.setCell (Ek.grown ((((((Ek.refl B g w).setCell _).alloc (by simp;omega) _).drew).alloc (by simp;omega) _)) b (by simp;omega) (fun k C=>(i.opn.lt k C).1)) _
 have y:=zAa s;clear i h z s;simp only[aQ];go_enter func98,ntmps98;go_wp2_with fail;go_region_law (refine step_append_lies _ rfl (.tmp 27) (.tmp 32) 68 rfl B 3 i0 (.int .i64 0) 1 8 underlying68 hi G H I rfl (by decide) (.slice m r.opn.length o) r.opn.length (r.opn.map (xF .i64)) (by simp[x4]) (by exact V.out) ⟨w.heap.size+1,0,none⟩ 1 1 [.int .i64 (r.ifs+1)] (by simp[x4]) rfl (by exact U.out) (by simp[x8]) (by decide) (by unfold maxLen;omega) (by omega) (by simp;omega) (w.heap.size+2) (by simp) ?_;intro q p w1 f b ab J;have c1:=(b.cell_far ⟨g,4,none⟩ (by simp;omega) l).trans O.out;have f1:=(b.frozen_far ⟨g,4,none⟩ (by simp;omega) l).trans T.out;have ae:w.heap.size+2<=w1.heap.size:=by have:=b.size;simp at this;omega)
 all_goals
  obtain⟨L,M,q3⟩:=y.out _ _ _ f b;have W:=zAa L;have X:=zAa M;clear L M f b;go_wp2_with (first
   | (refine pR (.tmp 3) rfl rfl w.heap.size { d with label:=r.ifs+1 } rfl (by exact X.out) ?_)
   | (go_at_call 99;refine (AL B g N { r with ifs:=r.ifs+1,opn:=r.opn++[r.ifs+1] } { d with label:=r.ifs+1 } _ (by exact W.out) D hF hN (by simp;omega)).mono ?_;rintro e w2 ⟨rfl,F,A⟩))
  go_ret;rw[fX S];exact⟨rfl,F,q3.trans (Ek.of A)⟩
theorem Tryz.infoThr:(prog.info? 104).map (fun i=>(i.zero,i.size,i.bytes))=some (some (.agg #[.int .i64 0,.int .i64 0,.slice none 0 0]),3,40):=by kernel_rfl
theorem zKS {b l:Int}
  (h:RdIn w B g r tv ov vs) (t:∀ k,k<w.heap.size->W0.heap[k]?=w.heap[k]?) (x:w.heap.size<=W0.heap.size)
  (f:w1.ownsRow B 104 3 (.slice (some ⟨g1,0,none⟩) (r.Ec.length+1) cap1) (r.Ec.length+1) (zAK r.Ec vs++[.int .i64 b,.int .i64 l,.slice none 0 0])) (i:W0.grownBy w1 tv.ownBlock) :
  RdIn ((w1.setCell ⟨g,0,none⟩ (.slice (some ⟨g1,0,none⟩) (r.Ec.length+1) cap1)).setCell ⟨g,2,none⟩ (.int .i64 0)) B g { r with Ec:=r.Ec++[⟨b,l,[]⟩],count:=0 } (.slice (some ⟨g1,0,none⟩) (r.Ec.length+1) cap1) ov (vs++[.slice none 0 0]):=by
 have z:∀ k,(∃ (c:Array Value) (e:TypeId),w.heap[k]?=some (x2 c e (0,0))/\e≠104)->tv.ownBlock≠some k:=fun k ⟨c,e,d,o⟩=>mJ h.Ec d (Ne.symm o)
 have keep:∀ k,k<w.heap.size->(∃ (c:Array Value) (e:TypeId),w.heap[k]?=some (x2 c e (0,0))/\e≠104)->w1.heap[k]?=w.heap[k]?:=fun k q s=>by
  rw[i.block k (by omega) (Ne.symm (z k s)),t k q]
 have j:w1.heap[g]?=w.heap[g]?:=keep g h.lt ⟨_,_,h.cells,by decide⟩;have out:∀ k,k≠g->((w1.setCell ⟨g,0,none⟩ (.slice (some ⟨g1,0,none⟩) (r.Ec.length+1) cap1)).setCell ⟨g,2,none⟩ (.int .i64 0)).heap[k]?=w1.heap[k]?:=fun k a=>by
  rw[xW _ _ _ _ a,xW _ _ _ _ a]
 refine⟨?_,?_,?_,?_⟩
 ·have:=h.cells;rw[<- j] at this;rw[bH (bH this _ _)];rfl
 ·have p:=f;rw[<- uV r.Ec vs ⟨b,l,[]⟩ (.slice none 0 0) h.Eb.length] at p;refine aX (by simpa using p) (fun k a=>out k (fun e=>?_));subst e;obtain⟨c,d⟩:=eC f a;rw[j,h.cells] at d;simp at d
 ·refine aX h.opn (fun k a=>?_);obtain⟨c,d⟩:=eC h.opn a;rw[out k (fun e=>by subst e;rw[h.cells] at d;simp at d)];exact keep k (h.opn.lt k a).2 ⟨c,_,d,by decide⟩
 ·rw[tR];refine⟨h.Eb.keep (fun v y k a=>?_),World.ownsRow_nil _ _ _ _,fun u _=>?_⟩
  ·obtain⟨n,xs,m⟩:=h.Eb.mem v y;obtain⟨c,d⟩:=eC m a;rw[out k (fun e=>by subst e;rw[h.cells] at d;simp at d)];exact keep k (m.lt k a).2 ⟨c,_,d,by decide⟩
  ·cases hu:u.ownBlock with
   | none=>exact .inl rfl
   | some k=>right;simp[x1]
theorem zEk (r:Rd) (b l:Int) (h:4<=r.Ec.length\/0<r.opn.length):zNr r b l=(r,false):=by
 unfold zNr;exact if_pos h
theorem zHE (B g:Nat) (r:Rd) (b l:Int) (w:World) (h:dJ w B g r) (hB:B<=w.heap.size) (ae:r.Ec.length<6) (ad:r.opn.length<10) :
  Calls prog 61 #[.pointer (some ⟨g,0,none⟩),.int .i64 b,.int .i64 l] w fun e w'=>e=.returned (.bool (zNr r b l).2)/\dJ w' B g (zNr r b l).1/\Ek B g w w':=by
 have I:=zAa h;obtain⟨tv,ov,vs,h⟩:=h;obtain⟨i0,hi,M,N,O⟩:=info_parts Tryz.infoThr;have K:∃ a c,ov=.slice a r.opn.length c:=by
  rcases h.opn.2 with ⟨e,x⟩ | ⟨k,c,D,e,_⟩
  ·exact⟨none,0,by rw[e,x]⟩
  ·exact⟨_,c,e⟩
 obtain⟨oa,oc,rfl⟩:=K;have L:∃ a c,tv=.slice a r.Ec.length c:=by
  rcases h.Ec.2 with ⟨e,x⟩ | ⟨k,c,D,e,_⟩
  ·exact⟨none,0,by rw[e,x]⟩
  ·exact⟨_,c,e⟩
 obtain⟨z,A,rfl⟩:=L;obtain⟨aa,F,g0,g1,Z,g3,g4⟩:=h.facts;by_cases h4:4<=r.Ec.length
 ·have o:Hid (zNr r b l=(r,false)):=zEk r _ _ (Or.inl h4);have H:(4:Int)<=(r.Ec.length:Int):=by omega
  clear h;go_enter func61,ntmps61;go_wp2;go_ret;rw[fX o];exact⟨rfl,I.out,Ek.refl _ _ _⟩
 have H:¬ (4:Int)<=(r.Ec.length:Int):=by omega
 have ab:decide ((4:Int)<=(r.Ec.length:Int))=false:=by simp;omega
 by_cases x:0<r.opn.length
 ·have o:Hid (zNr r b l=(r,false)):=zEk r _ _ (Or.inr x);have G:(0:Int)<(r.opn.length:Int):=by omega
  clear h;go_enter func61,ntmps61;go_wp2;go_ret;rw[fX o];exact⟨rfl,I.out,Ek.refl _ _ _⟩
 have G:¬ (0:Int)<(r.opn.length:Int):=by omega
 have o:Hid (zNr r b l=({ r with Ec:=r.Ec++[⟨b,l,[]⟩],count:=0 },true)):=by
  unfold Hid zNr;rw[if_neg (by omega)]
 have X:Hid ((w.alloc (.cells #[xF .i64 b,.int .i64 l,.slice none 0 0] 104)).ownsRow B 104 3 (.slice z r.Ec.length A) r.Ec.length (zAK r.Ec vs)):=h.Ec.alloc _;have W:Hid (∀ j u,[xF .i64 b,.int .i64 l,.slice none 0 0][j]?=some u->(w.alloc (.cells #[xF .i64 b,.int .i64 l,.slice none 0 0] 104)).cell? ((⟨w.heap.size,0,none⟩:Addr).add j)=some u) :=
  x6 (cs:=#[xF .i64 b,.int .i64 l,.slice none 0 0]) (t:=104) (fr:=(0,0)) (by have:=heap_alloc_new w (.cells #[xF .i64 b,.int .i64 l,.slice none 0 0] 104);simpa using this)
 have f:some g≠(x5 z r.Ec.length A).ownBlock:=Ne.symm (mJ h.Ec h.cells (by decide));have E:(w.alloc (.cells #[xF .i64 b,.int .i64 l,.slice none 0 0] 104)).heap[g]?=w.heap[g]?:=xR _ _ _ h.lt;have S:Hid (∀ i,(w.alloc (.cells #[xF .i64 b,.int .i64 l,.slice none 0 0] 104)).cell? ⟨g,i,none⟩=w.cell? ⟨g,i,none⟩):=fun i=>x3 (w:=w) (a:=⟨g,i,none⟩) E
 have T:Hid (∀ i,(w.alloc (.cells #[xF .i64 b,.int .i64 l,.slice none 0 0] 104)).frozen? ⟨g,i,none⟩=false):=fun i=>(x7 (w:=w) (a:=⟨g,i,none⟩) E).trans (F i)
 have q:∀ s p w1,World.ownsRow w1 B 104 3 (.slice (some ⟨s,0,none⟩) (r.Ec.length+1) p) (r.Ec.length+1) (zAK r.Ec vs++[xF .i64 b,.int .i64 l,.slice none 0 0])->(w.alloc (.cells #[xF .i64 b,.int .i64 l,.slice none 0 0] 104)).grownBy w1 (x5 z r.Ec.length A).ownBlock ->
   dJ ((w1.setCell ⟨g,0,none⟩ (.slice (some ⟨s,0,none⟩) (r.Ec.length+1) p)).setCell ⟨g,2,none⟩ (.int .i64 0)) B g { r with Ec:=r.Ec++[⟨b,l,[]⟩],count:=0 }/\Ek B g w ((w1.setCell ⟨g,0,none⟩ (.slice (some ⟨s,0,none⟩) (r.Ec.length+1) p)).setCell ⟨g,2,none⟩ (.int .i64 0)):=fun s p w1 y d=>by
  refine⟨⟨_,_,_,zKS (W0:=(w.alloc (.cells #[xF .i64 b,.int .i64 l,.slice none 0 0] 104))) h (fun k J=>xR _ _ _ J) (by simp) y d⟩,?_⟩;refine Ek.setCell (Ek.setCell (Ek.grown (((Ek.refl B g w).alloc hB _)) d (by simp;omega) (fun k J=>(h.Ec.lt k J).1)) _) _
 have C:=zAa q;clear h E q I;go_enter func61,ntmps61;go_wp2_with (first | (at_builtin;refine wpList_append_lies _ rfl (.tmp 25) (.tmp 29) 30 rfl B 104 i0 (.agg #[.int .i64 0,.int .i64 0,.slice none 0 0]) 3 40 underlying30 hi M N O rfl (by decide) (.slice z r.Ec.length A) r.Ec.length (zAK r.Ec vs) rfl (by exact X.out) ⟨w.heap.size,0,none⟩ 1 1 [xF .i64 b,.int .i64 l,.slice none 0 0] rfl rfl (by exact W.out) (by simp[x8]) (by decide) (by unfold maxLen;omega) (by omega) (by simp;omega) _ rfl ?_;intro s p w1 m d ac U;have c0:=(d.cell_far ⟨g,0,none⟩ (by simp;omega) f).trans ((S.out 0).trans g0);have c2:=(d.cell_far ⟨g,2,none⟩ (by simp;omega) f).trans ((S.out 2).trans Z);have f0:=(d.frozen_far ⟨g,0,none⟩ (by simp;omega) f).trans (T.out 0);have f2:=(d.frozen_far ⟨g,2,none⟩ (by simp;omega) f).trans (T.out 2);obtain⟨V,q3⟩:=C.out _ _ _ m d;have Y:=zAa V;clear V m d));go_ret;rw[fX o];exact⟨rfl,Y.out,q3⟩
end Go.Proofs.YtonodfjdiepglaaGreatDoor
