import Derived.Deep.CutRange
import Derived.Test.YtehclbpoabdpoaaGreatDoorO09
import Derived.Test.YtehclbpoabdpoaaGreatDoorO05
set_option linter.all false
set_option maxHeartbeats 0
namespace Go.Proofs.YtehclbpoabdpoaaGreatDoor
open Go Go.RowKit Go.Proofs.Tryz P Q
open scoped Classical
set_option maxRecDepth 1000000
variable {w w' w1:World}{v:Value}{es:List Ev}{B b g gn n:Nat}{l t:List Nat}{f:Eu}{r:List Int}{rs:List (List Int)}{vs:List Value}
open List renaming length->W
open _root_.Array renaming size->K
open Go.World renaming heap->V
open Go.Obj renaming cells->Y
open Option renaming some->O,none->I
open Go.Value renaming int->U,slice->T,agg->A
open Go.IntKind renaming i64->F
open Go.Ending renaming returned->S
open Nat renaming le_refl->xF,zero_le->x3
open Go.RowKit.Below renaming heap_alloc->xR,refl->xW
open Or renaming inr->x1
open List renaming takeWhile_cons->x2,getElem?_eq_getElem->x4,range->x5,drop_eq_getElem_cons->x6,getElem_mem->x7,drop_eq_nil_of_le->x8
def PB(l:List Ev):List Value:=l.flatMap fun e=>(aG e).toList
def nW(l:List Ev):(PB l).length=W l*10:=by
 induction l with
 |nil=>rfl
 |cons a r ih=>simp[PB,aG]at *;omega
def YE(a b:List Ev):PB (a++b)=PB a++PB b:=by simp[PB]
def YF(e:Ev):PB [e]=(aG e).toList:=by simp[PB]
def YG(l:List Ev):∀(k:Nat) (h:k<W l) (i:Nat),i<10->(PB l)[k*10+i]?=(aG l[k]).toList[i]?:=by
 induction l with
 |nil=>intro k h;simp at h
 |cons a r ih =>
  intro k h i c;have e:PB (a::r)=(aG a).toList++PB r:=by simp[PB]
  have d:(aG a).toList.length=10:=Z;rw[e]
  cases k with
  |zero =>
   rw[List.getElem?_append_left (by omega)];simp
  |succ k =>
   rw[List.getElem?_append_right (by omega),d,show(k+1)*10+i-10=k*10+i by omega,ih k (by simpa using h) i c];simp
def Mm(l:List Ev):∀u∈PB l,u.oneCell'=true:=by
 intro u c;simp only[PB,List.mem_flatMap,aG]at c;obtain⟨e,_,a⟩:=c;simp at a
 rcases a with rfl|rfl|rfl|rfl|rfl|rfl|rfl|rfl|rfl|rfl<;>rfl
def PH(w:World)(v:Value)(es:List Ev):Prop:=w.ownsRow 0 180 10 v (W es) (PB es)
def PH.keep(h:PH w v es)(a:∀k,k<K (V w)->w'.heap[k]?=w.heap[k]?):PH w' v es:=bE h fun k e=>a k (h.lt k e).2
def PH.X(h:PH w v es)(a:Below (K (V w)) w w'):PH w' v es:=h.keep fun k c=>a.block k c
def PH.form(h:PH w v es):∃a c,v=T a (W es) c/\(0<W es->∃b,a=O ⟨b,0,I⟩/\b<K (V w)):=by
 rcases h.2 with⟨e,i⟩|⟨k,c,d,e,_⟩
 ·exact⟨I,0,by rw[e,i],fun h=>by omega⟩
 ·exact⟨_,c,e,fun _=>⟨k,Z,(h.lt k (by rw[e];rfl)).2⟩⟩
def PH.range{c:Nat}(h:PH w (MU b n c) es)(i:n=W es)(k:Nat)(e:k<W es):w.rangeAt b (k*10) (aG es[k]).toList:=by
 intro j v a;have d:j<10:=(List.getElem?_eq_some_iff.1 a).1;unfold PH at h;rw[i]at h;rw[h.cellAt _ (by omega),YG es k e j d];exact a
def eJ(es:List Ev)(k:Nat)(h:k<W es):Q.ev es k=es[k]:=by simp[Q.ev,h]
def PH.cN{c:Nat}(h:PH w (MU b n c) es)(d:n=W es)(k:Nat)(a:k<W es):w.rangeAt b (k*10) (aG (Q.ev es k)).toList:=by
 rw[eJ es k a];exact h.range d k a
def fY{d:Array Oper}{rest:List Oper}{c:Oper}{a:Act}{R:Exit->Act->World->Prop}(x:Operand)(i:c.guard=I)(k:c.op=.load 180 x)(b o:Nat)(e:Ev)(p:a.eval x=.pointer (O ⟨b,o,I⟩))(m:w.rangeAt b o (aG e).toList)(h:wpList prog d R rest (a.put c.dst (A #[U F e.B,U F e.j,U F e.block,U F e.z,U F e.value,U F e.q,U F e.scope,U F e.u,.bool e.step,U .u64 (e.h:Nat)])) w):wpList prog d R (c::rest) a w :=
 wpList_load_mid i _ x k b o p (aG e).toList _ m underlying180 Z (by kernel_rfl) h
structure Eb(w:World)(g n:Nat)(l:List Nat):Prop where
 at_:OB w g l
 len:W l=n
 fits:NI l
def Eb.lt(h:Eb w g n l):g<K (V w):=h.at_.lt
def Eb.X(h:Eb w g n l)(a:Below (K (V w)) w w'):Eb w' g n l:=⟨h.at_.X a,h.len,h.fits⟩
def Eb.keep(h:Eb w g n l)(a:∀k,k<K (V w)->w'.heap[k]?=w.heap[k]?):Eb w' g n l:=⟨h.at_.aC (a g h.lt),h.len,h.fits⟩
structure FA where
 n:Nat
 ev:Value
 g1:Nat
 g2:Nat
 g3:Nat
 g4:Nat
 g5:Nat
 g6:Nat
 g7:Nat
 g8:Nat
 g9:Nat
def OK(a:FA):Array Value:=#[a.ev,MU a.g1 a.n a.n,MU a.g2 a.n a.n,MU a.g3 a.n a.n,MU a.g4 a.n a.n,MU a.g5 a.n a.n,MU a.g6 a.n a.n,MU a.g7 a.n a.n,MU a.g8 a.n a.n,MU a.g9 a.n a.n]
structure Ed(w:World)(a:FA)(f:Eu):Prop where
 ev:PH w a.ev f.E
 len:W f.E=a.n
 n64:a.n<=64
 r1:Eb w a.g1 a.n f.C
 r2:Eb w a.g2 a.n f.G
 r3:Eb w a.g3 a.n f.J
 r4:Eb w a.g4 a.n f.N
 r5:Eb w a.g5 a.n f.y
 r6:Eb w a.g6 a.n f.h
 r7:Eb w a.g7 a.n f.L
 r8:Eb w a.g8 a.n f.sends
 r9:Eb w a.g9 a.n f.M
def Ed.keep{a:FA}(h:Ed w a f)(c:∀k,k<K (V w)->w'.heap[k]?=w.heap[k]?):Ed w' a f :=
 ⟨h.ev.keep c,h.len,h.n64,h.r1.keep c,h.r2.keep c,h.r3.keep c,h.r4.keep c,h.r5.keep c,h.r6.keep c,h.r7.keep c,h.r8.keep c,h.r9.keep c⟩
def Ed.X{a:FA}(h:Ed w a f)(c:Below (K (V w)) w w'):Ed w' a f:=h.keep fun k d=>c.block k d
def Ed.form{a:FA}(h:Ed w a f):∃x c,a.ev=T x a.n c/\(0<a.n->∃b,x=O ⟨b,0,I⟩/\b<K (V w)):=by
 have:=h.ev.form;rw[h.len]at this;exact this
def Mn{P:Program}(w:World)(u H J d:TypeId)(b o c k:Nat)(a:Addr)(e p s:Nat)(cs:List Value)(G:P.underlying u=O (.slice d))(hs:(P.info? d).map (·.size)=O s)(E:W cs=Nat.min e c*s)(m:∀j v,cs[j]?=O v->w.cell? (a.add j)=O v)(y:∀j,j<W cs->(w.cell? ⟨b,o+j,I⟩).isSome=true)(z:∀j,j<W cs->w.frozen? ⟨b,o+j,I⟩=false)(x:∀v∈cs,v.oneCell'=true):
  (Builtin.copy_ #[u,H] J #[T (O ⟨b,o,I⟩) c k,T (O a) e p]).run P w=.ok (goInt (Nat.min e c)) (w.setCells b o cs):=by
 have D:=run_loadCells_list (P:=P) w a cs m;have q:=run_storeCells_cells (P:=P) b o cs 0 w (by simpa using y) (by simpa using z) x
 cases hq:P.info? d with
 |none=>simp[hq]at hs
 |some i =>
  have C:i.size=s:=by simpa[hq]using hs
  simp[Builtin.copy_,run_underlying G,Builtin.lenOf,Builtin.firstCells,sizeOf,typeInfo,hq,C,<- E,D,q]
def mN(w w':World)(n:Nat)(l:List Nat)(e:Ending):Prop:=∃g,e=S (A #[MU g n n])/\Eb w' g n l/\Below (K (V w)) w w'
def qX.pU{e:Ending}(h:qX w w' n l e):mN w w' n l e:=by
 obtain⟨g,rfl,a,_,c,d,i⟩:=h;exact⟨g,Z,⟨a,c,d⟩,i⟩
def qK(c a n:Nat)(r o:List Nat)(w:World)(i:Eb w c n r)(d:Eb w a n o):
  Calls prog 61 #[A #[MU c n n],A #[MU a n n]] w fun e w'=>mN w w' n (gV r o) e :=
 (UV c a n r o w i.at_ d.at_ i.len d.len i.fits d.fits).mono fun _ _ h=>h.pU
def zH(c a n:Nat)(r o:List Nat)(w:World)(i:Eb w c n r)(d:Eb w a n o):
  Calls prog 101 #[A #[MU c n n],A #[MU a n n]] w fun e w'=>mN w w' n (kU r o) e :=
 (Hz c a n r o w i.at_ d.at_ i.len d.len i.fits d.fits).mono fun _ _ h=>h.pU
def oE(c a n:Nat)(r o:List Nat)(w:World)(i:Eb w c n r)(d:Eb w a n o):
  Calls prog 102 #[A #[MU c n n],A #[MU a n n]] w fun e w'=>mN w w' n (dZ r o) e :=
 (Ib c a n r o w i.at_ d.at_ i.len d.len i.fits d.fits).mono fun _ _ h=>h.pU
def Mo(a n:Nat)(r:List Nat)(w:World)(c:Eb w a n r):
  Calls prog 110 #[A #[MU a n n]] w fun e w'=>mN w w' n (oN r) e :=
 (Ic a n r w c.at_ c.len c.fits).mono fun _ _ h=>h.pU
def LW(a n:Nat)(r:List Nat)(w:World)(c:Eb w a n r):
  Calls prog 80 #[A #[MU a n n]] w fun e w'=>mN w w' n (lK r) e :=
 (UW a n r w c.at_ c.len c.fits).mono fun _ _ h=>h.pU
def IK(a n:Nat)(r:List Nat)(w:World)(c:Eb w a n r):
  Calls prog 111 #[A #[MU a n n]] w fun e w'=>e=S (.bool (lI r))/\Below (K (V w)) w w' :=
 UU a n r w c.at_ c.len c.fits
def YH(a n:Nat)(r:List Nat)(w:World)(c:Eb w a n r):
  Calls prog 100 #[A #[MU a n n]] w fun e w'=>e=S (.bool (vJ r))/\Below (K (V w)) w w' :=
 Ie a n r w c.at_ c.len c.fits
def xI(c n:Nat)(r:List Nat)(a b:Int)(w:World)(d:Eb w c n r):
  Calls prog 103 #[A #[MU c n n],U F a,U F b] w fun e w'=>e=S (.bool (cC r a b))/\Below (K (V w)) w w' :=
 sF c n r a b w d.at_ d.len.symm d.fits
def NE{a:World}(h:Below B w w1)(c:B<=K (V w))(k:Below (K (V w1)) w1 a):Below B w a:=h.trans (k.mono (Nat.le_trans c h.size))
def Mp(a:FA)(f:Eu)(j:Nat)(rd:List Nat)(w:World)(y:Ed w a f)(G:Eb w j a.n rd):
  Calls prog 58 #[A (OK a),A #[MU j a.n a.n]] w fun e w'=>e=S (.bool (f.cH rd))/\Below (K (V w)) w w':=by
 have D:MT (f.cH rd=vJ (gV f.h rd)):=Z;have i:MT (∀o p,Below (K (V w)) w ((w.alloc o).alloc p)):=fun o p=>((xW _ _).alloc (xF _) _).alloc (by simp) _
 have s:=MS y.r6;have u:=MS G;obtain⟨x,c,d,hx⟩:=y.form;obtain⟨n,ev,J,L,M,N,g5,E,g7,g8,g9⟩:=a;simp only at d s u;subst d;simp only[OK];go_enter func58,ntmps58;go_wp2_with(first
  |(go_at_call 61;refine(qK E j n f.h rd _ (s.X (i.o _ _)) (u.X (i.o _ _))).mono ?_;rintro e w1 ⟨H,rfl,q,k⟩;have z:=MS ((i.o _ _).trans (k.mono (by simp;omega)));have Q1:=MS q)
  |(go_at_call 100;(refine(YH H n _ _ Q1.o).mono ?_;rintro e w2 ⟨rfl,m⟩;have C:=MS (NE z.o (xF _) m))))
 go_ret;rw[D.o];exact⟨Z,C.o⟩
def lW(w:World)(a:Array Value)(s:TypeId):(w.alloc (Y a s)).heap[K (V w)]?=O (Y a s (0,0))/\(w.alloc (Y a s)).heap.size=K (V w)+1/\Below (K (V w)) w (w.alloc (Y a s)):=
 ⟨heap_alloc_new w _,by simp,(xW _ _).alloc (xF _) _⟩
def mZ(w:World)(a b:Array Value)(s t:TypeId):((w.alloc (Y a s)).alloc (Y b t)).heap[K (V w)]?=O (Y a s (0,0))/\((w.alloc (Y a s)).alloc (Y b t)).heap[K (V w)+1]?=O (Y b t (0,0))/\((w.alloc (Y a s)).alloc (Y b t)).heap.size=K (V w)+2/\Below (K (V w)) w ((w.alloc (Y a s)).alloc (Y b t)):=by
 refine⟨?_,?_,by simp,((xW _ _).alloc (xF _) _).alloc (by simp) _⟩
 ·rw[xR _ _ _ (by simp)];exact heap_alloc_new w _
 ·have:=heap_alloc_new (w.alloc (Y a s)) (Y b t);simpa using this
def xH(w:World)(a b c:Array Value)(s t u:TypeId):(((w.alloc (Y a s)).alloc (Y b t)).alloc (Y c u)).heap[K (V w)]?=O (Y a s (0,0))/\(((w.alloc (Y a s)).alloc (Y b t)).alloc (Y c u)).heap[K (V w)+1]?=O (Y b t (0,0))/\(((w.alloc (Y a s)).alloc (Y b t)).alloc (Y c u)).heap[K (V w)+2]?=O (Y c u (0,0))/\
  (((w.alloc (Y a s)).alloc (Y b t)).alloc (Y c u)).heap.size=K (V w)+3/\Below (K (V w)) w (((w.alloc (Y a s)).alloc (Y b t)).alloc (Y c u)):=by
 obtain⟨d,e,j,i⟩:=mZ w a b s t;refine⟨?_,?_,?_,by simp,i.alloc (by simp;omega) _⟩
 ·rw[xR _ _ _ (by omega)];exact d
 ·rw[xR _ _ _ (by omega)];exact e
 ·have:=heap_alloc_new ((w.alloc (Y a s)).alloc (Y b t)) (Y c u);simpa using this
def YI(w:World)(a b c d:Array Value)(s t u v:TypeId):((((w.alloc (Y a s)).alloc (Y b t)).alloc (Y c u)).alloc (Y d v)).heap[K (V w)]?=O (Y a s (0,0))/\((((w.alloc (Y a s)).alloc (Y b t)).alloc (Y c u)).alloc (Y d v)).heap[K (V w)+1]?=O (Y b t (0,0))/\((((w.alloc (Y a s)).alloc (Y b t)).alloc (Y c u)).alloc (Y d v)).heap[K (V w)+2]?=O (Y c u (0,0))/\
  ((((w.alloc (Y a s)).alloc (Y b t)).alloc (Y c u)).alloc (Y d v)).heap[K (V w)+3]?=O (Y d v (0,0))/\((((w.alloc (Y a s)).alloc (Y b t)).alloc (Y c u)).alloc (Y d v)).heap.size=K (V w)+4/\Below (K (V w)) w ((((w.alloc (Y a s)).alloc (Y b t)).alloc (Y c u)).alloc (Y d v)):=by
 obtain⟨e,i,j,m,k⟩:=xH w a b c s t u;refine⟨?_,?_,?_,?_,by simp,k.alloc (by simp;omega) _⟩
 ·rw[xR _ _ _ (by omega)];exact e
 ·rw[xR _ _ _ (by omega)];exact i
 ·rw[xR _ _ _ (by omega)];exact j
 ·have:=heap_alloc_new (((w.alloc (Y a s)).alloc (Y b t)).alloc (Y c u)) (Y d v);simpa using this
def Mq(w:World)(a b c d e:Array Value)(s t u v x:TypeId):(((((w.alloc (Y a s)).alloc (Y b t)).alloc (Y c u)).alloc (Y d v)).alloc (Y e x)).heap[K (V w)]?=O (Y a s (0,0))/\(((((w.alloc (Y a s)).alloc (Y b t)).alloc (Y c u)).alloc (Y d v)).alloc (Y e x)).heap[K (V w)+1]?=O (Y b t (0,0))/\(((((w.alloc (Y a s)).alloc (Y b t)).alloc (Y c u)).alloc (Y d v)).alloc (Y e x)).heap[K (V w)+2]?=O (Y c u (0,0))/\
  (((((w.alloc (Y a s)).alloc (Y b t)).alloc (Y c u)).alloc (Y d v)).alloc (Y e x)).heap[K (V w)+3]?=O (Y d v (0,0))/\(((((w.alloc (Y a s)).alloc (Y b t)).alloc (Y c u)).alloc (Y d v)).alloc (Y e x)).heap[K (V w)+4]?=O (Y e x (0,0))/\(((((w.alloc (Y a s)).alloc (Y b t)).alloc (Y c u)).alloc (Y d v)).alloc (Y e x)).heap.size=K (V w)+5/\Below (K (V w)) w (((((w.alloc (Y a s)).alloc (Y b t)).alloc (Y c u)).alloc (Y d v)).alloc (Y e x)):=by
 obtain⟨i,j,k,m,p,o⟩:=YI w a b c d s t u v;refine⟨?_,?_,?_,?_,?_,by simp,o.alloc (by simp;omega) _⟩
 ·rw[xR _ _ _ (by omega)];exact i
 ·rw[xR _ _ _ (by omega)];exact j
 ·rw[xR _ _ _ (by omega)];exact k
 ·rw[xR _ _ _ (by omega)];exact m
 ·have:=heap_alloc_new ((((w.alloc (Y a s)).alloc (Y b t)).alloc (Y c u)).alloc (Y d v)) (Y e x);simpa using this
structure Fill(W0 wr:World)(b gn n:Nat)(t:List Nat):Prop where
 bel:Below (K (V W0)) W0 wr
 rel:Eb wr gn n t
 box:wr.heap[b]?=O (Y #[MU gn n n] 83 (0,0))
 ge:K (V W0)<=gn
 gb:K (V W0)<=b
def Fill.ne{W0 wr:World}(h:Fill W0 wr b gn n t):b≠gn:=fun e=>by
 have a:=h.rel.at_;unfold OB at a;rw[<- e,h.box]at a;simp at a
def Fill.keep{W0 wr:World}(h:Fill W0 wr b gn n t)(a:Below (K (V wr)) wr w'):Fill W0 w' b gn n t :=
 ⟨h.bel.trans (a.mono h.bel.size),h.rel.X a,(a.block b (Array.getElem?_eq_some_iff.1 h.box).1).trans h.box,h.ge,h.gb⟩
def Fill.alloc{W0 wr:World}(h:Fill W0 wr b gn n t)(o:Obj):Fill W0 (wr.alloc o) b gn n t:=h.keep ((xW _ _).alloc (xF _) _)
def Fill.grown{W0 wr:World}(h:Fill W0 wr b gn n t){x y:Int}(a:wr.grownBy w' (O gn))(hs:OB w' gn (dE t x y)):Fill W0 w' b gn n (dE t x y):=
 ⟨h.bel.trans ⟨a.os,a.tape,a.output,a.size,fun i c=>a.block i (by have:=h.bel.size;omega) (by have:=h.ge;simp;omega)⟩,⟨hs,by rw[wA];exact h.rel.len,CU h.rel.fits _ _⟩,(a.block b (Array.getElem?_eq_some_iff.1 h.box).1 (by have:=h.ne;simpa using this)).trans h.box,h.ge,h.gb⟩
def Fill.oV{W0 wr:World}(h:Fill W0 wr b gn n t):yY wr b 0 gn n t:=by
 obtain⟨z0,_,a⟩:=cQ h.box;exact⟨z0,h.rel.at_,h.rel.len,a,h.ne⟩
def Fill.start{W0:World}(d:Eb w1 gn n t)(c:K (V W0)<=gn)(a:Below (K (V W0)) W0 w1):Fill W0 (w1.alloc (Y #[MU gn n n] 83)) (K (V w1)) gn n t :=
 ⟨a.alloc a.size _,d.X ((xW _ _).alloc (xF _) _),heap_alloc_new w1 _,c,a.size⟩
def Fill.o{W0 wr:World}{r:Nat}(h:Fill W0 wr b gn n t)(i:Below (K (V w)) w W0)(d:W0.heap[r]?=O (Y #[T I 0 0] 83 (0,0)))(c:K (V w)<=r):
  mN w (wr.setCell ⟨r,0,I⟩ (MU gn n n)) n t (S (A #[MU gn n n]))/\(wr.setCell ⟨r,0,I⟩ (MU gn n n)).heap[r]?=O (Y #[MU gn n n] 83 (0,0)):=by
 have a:=(Array.getElem?_eq_some_iff.1 d).1;have e:=h.ge;refine⟨⟨gn,Z,⟨h.rel.at_.aC (Below.heap_setCell _ _ _ _ (by simp;omega)),h.rel.len,h.rel.fits⟩,(NE i (xF _) h.bel).setCell (p:=⟨r,0,I⟩) c _⟩,?_⟩;rw[bX ((h.bel.block r a).trans d)];rfl
def Fill.cell{W0 wr:World}(h:Fill W0 wr b gn n t){p:Addr}(c:p.block<K (V W0))(a:W0.cell? p=O v):wr.cell? p=O v:=(h.bel.cell (p:=p) c).trans a
def PC.X{l:List Int}(h:PC w v l)(d:Below (K (V w)) w w'):PC w' v l:=by
 rcases h with h|⟨g,a,rfl,j,e,c⟩
 ·exact Or.inl h
 ·exact x1 ⟨g,a,Z,fun i k=>(d.cell (p:=⟨g,i,I⟩) e).trans (j i k),Nat.lt_of_lt_of_le e d.size,c⟩
def PC.form{l:List Int}(h:PC w v l):∃a c,v=T a (W l) c/\(0<W l->∃g,a=O ⟨g,0,I⟩/\g<K (V w)/\∀i (h:i<W l),w.cell? ⟨g,i,I⟩=O (U F l[i])):=by
 rcases h with⟨rfl,rfl⟩|⟨g,d,rfl,e,j,_⟩
 ·exact⟨I,0,Z,fun h=>by simp at h⟩
 ·exact⟨_,_,Z,fun _=>⟨g,Z,j,e⟩⟩
def QA(B:Nat)(w:World)(n:Nat):Below B w (w.drewN n):=by
 induction n with
 |zero=>exact xW _ _
 |succ n ih=>exact⟨ih.os,ih.tape,ih.output,ih.size,ih.block⟩
def NK.grown{e:Ev}(h:NK w g e)(hs:OB w gn l)(d:w.grownBy w' (O gn)):NK w' g e:=by
 have a:g≠gn:=fun c=>by
  unfold NK at h;unfold OB at hs;rw[c,hs]at h;simp at h
 have i:=h.lt;unfold NK at*;rw[d.block g i (by simpa using a)];exact h
def gS(l:List Int)(i:Nat)(h:i<W l)(d:Int):l.getD i d=l[i]:=by simp[List.getD,x4 h]
namespace Q
def DU(rs:List Int)(r:List Nat)(i:Nat):List Nat:=dE r (i:Int) (rs.getD i (-1))
end Q
def Mr(a:FA)(f:Eu)(v:Value)(rs:List Int)(w:World)(u:Ed w a f)(hv:PC w v rs)(hl:W rs<10000):
  Calls prog 56 #[A (OK a),v] w fun e w'=>mN w w' a.n (f.D rs) e:=by
 have q:MT (f.D rs=(x5 (W rs)).foldl (DU rs) (NU a.n)):=by unfold MT Eu.D;rw[u.len];rfl
 obtain⟨va,vc,rfl,ad⟩:=hv.form;obtain⟨x,c,s,hx⟩:=u.form;have j:=u.n64;have aa:=u.len;obtain⟨n,ev,g1,g2,g3,g4,g5,g6,g7,g8,g9⟩:=a;simp only at s j aa hx;subst s;simp only[OK];simp only at q;obtain⟨k0,k1,ag,E⟩:=mZ w #[T x n c,MU g1 n n,MU g2 n n,MU g3 n n,MU g4 n n,MU g5 n n,MU g6 n n,MU g7 n n,MU g8 n n,MU g9 n n] #[T I 0 0] 85 83;have m:=MS E;go_enter func56,ntmps56;go_upto_region 1 with fail
 generalize hE:(w.alloc (Y #[T x n c,MU g1 n n,MU g2 n n,MU g3 n n,MU g4 n n,MU g5 n n,MU g6 n n,MU g7 n n,MU g8 n n,MU g9 n n] 85)).alloc (Y #[T I 0 0] 83)=W0 at*;have ae:=jP k0 0 _ Z;obtain⟨c1,f1,l1⟩:=cQ k1;have K1:=MS k1;go_wp2_with(first|(go_at_call 98;refine(lS n _ j).mono ?_;rintro e w1 ⟨gn,rfl,ac,L,X,H,C⟩;have HS:=MS (Fill.start ⟨ac,X,H⟩ L C)));go_loopw[14] (fun i wr=>∃(k:Nat) (t:List Nat),k<=W rs/\i=U F k/\MT (t=(x5 k).foldl (DU rs) (NU n))/\MT (Fill W0 wr (K (V w1)) gn n t)) fun i _=>W rs-(intOf i).toNat
 case atStart=>exact⟨0,_,x3 _,Z,Z,HS⟩
 case round =>
  obtain⟨k,t,hk,rfl,HT,d⟩:=hrel;obtain⟨b0,b1,b2⟩:=cQ d.box;by_cases hlt:k<W rs
  ·have af:(k:Int)<(W rs:Int):=by omega
   obtain⟨g,rfl,hg,G⟩:=ad (by omega);have M:g<K (V W0):=by omega
   have hc:wr.cell? ⟨g,k,I⟩=O (U F rs[k]):=d.cell M ((m.cell (p:=⟨g,k,I⟩) hg).trans (G k hlt));have HN:MT (dE t (k:Int) rs[k]=(x5 (k+1)).foldl (DU rs) (NU n)):=by unfold MT;rw[jJ,<- HT.o,DU,gS rs k hlt]
   generalize rs[k]=y at*;go_wp2_with(first|(go_at_call 99;refine(nU (K (V w1)) 0 gn n t (k:Int) y _ d.oV d.rel.fits).mono ?_;rintro e wc ⟨rfl,ab,J⟩;have HJ:=MS (d.grown J ab)));go_roundw
   case rel=>exact⟨k+1,_,by omega,by go_num,HN,HJ⟩
   case measure=>simp[intOf];omega
  ·have N:k=W rs:=by omega
   have z:MT (t=f.D rs):=by unfold MT;rw[q.o,HT.o,N]
   obtain⟨q1,q2⟩:=d.o.o m.o K1.o (by omega);rw[z.o]at q1;go_wp2_with(first|(refine lP (.tmp 5) Z Z (K (V w1)) _ Z d.box ?_)|(refine uW (.tmp 4) (.tmp 23) Z Z (K (V w)+1) _ _ Z Z ((d.bel.block _ l1).trans K1.o) Z ?_));refine nL (p:=4) (K (V w)+1) _ (by kernel_rfl) Z q2 Z q1
namespace Q
def ET:∀{a b c:List Int},cmp a b<0->cmp b c<0->cmp a c<0
 |[],[],c,h,k=>by simp[cmp]at h
 |[],b::bs,[],h,k=>by simp[cmp]at k
 |[],b::bs,c::cs,h,k=>by simp[cmp]
 |a::x,[],c,h,k=>by simp[cmp]at h
 |a::x,b::bs,[],h,k=>by simp[cmp]at k
 |a::x,b::bs,c::cs,h,k=>by
  simp only[cmp]at h k⊢;by_cases h1:a=b
  ·subst h1;by_cases h2:a=c
   ·subst h2;simp at h k⊢;exact ET h k
   ·simp[h2]at k⊢;exact k
  ·by_cases h2:b=c
   ·subst h2;simp[h1]at h⊢;exact h
   ·simp[h1,h2]at h k;have d:a≠c:=by omega
    simp[d];omega
def GC:∀{a b:List Int},cmp a b=0->a=b
 |[],[],_=>Z
 |[],b::bs,h=>by simp[cmp]at h;omega
 |a::x,[],h=>by simp[cmp]at h
 |a::x,b::bs,h=>by
  simp only[cmp]at h;by_cases h1:a=b
  ·subst h1;simp at h;rw[GC h]
  ·simp[h1]at h;omega
def tE:∀(a:List Int),cmp a a=0
 |[]=>Z
 |a::x=>by simp[cmp,tE x]
def YJ:∀{a b:List Int},0<cmp a b->cmp b a<0
 |[],[],h=>by simp[cmp]at h
 |[],b::bs,h=>by simp[cmp]at h;omega
 |a::x,[],h=>by simp[cmp]
 |a::x,b::bs,h=>by
  simp only[cmp]at h⊢;by_cases h1:a=b
  ·subst h1;simp at h⊢;exact YJ h
  ·have c:b≠a:=fun e=>h1 e.symm
   simp[h1]at h;simp[c];omega
def QB(l:List (List Int)):Prop:=l.Pairwise fun a b=>cmp a b<0
def aM(l:List (List Int))(r:List Int):Nat:=(l.takeWhile fun x=>decide (cmp x r<0)).length
def YK(l:List (List Int))(r:List Int):aM l r<=W l:=by
 induction l with
 |nil=>simp[aM]
 |cons x q ih =>
  unfold aM at*;rw[x2]
  split
  ·simp;omega
  ·simp
def zK{r:List Int}:∀{l:List (List Int)} {p:Nat},p<=W l->(∀i (h:i<W l),i<p->cmp l[i] r<0)->(∀h:p<W l,¬cmp l[p] r<0)->aM l r=p
 |[],p,h,_,_=>by simp at h;subst h;rfl
 |x::q,0,h,h1,h2=>by
  have:=h2 (by simp);simp at this;unfold aM;rw[x2,decide_eq_false (by omega)];rfl
 |x::q,p+1,h,h1,h2=>by
  have c:=h1 0 (by simp) (by omega);simp at c;have ih:aM q r=p:=zK (by simpa using h) (fun i d a=>by have:=h1 (i+1) (by simpa using d) (by omega);simpa using this) (fun a=>by have:=h2 (by simpa using a);simpa using this);unfold aM at*;rw[x2,decide_eq_true c];simp[ih]
def AJ{r:List Int}:∀(l:List (List Int)),eY l r=if h:aM l r<W l then if cmp l[aM l r] r=0 then l else l.take (aM l r)++r::l.drop (aM l r)else l++[r]
 |[]=>Z
 |x::q=>by
  by_cases hx:cmp x r<0
  ·have e:aM (x::q) r=aM q r+1:=by unfold aM;rw[x2,decide_eq_true hx];rfl
   rw[eY,if_pos hx,AJ (r:=r) q];by_cases hl:aM q r<W q
   ·have a:aM (x::q) r<(x::q).length:=by simp;omega
    rw[dif_pos hl,dif_pos a];simp only[e,List.getElem_cons_succ]
    split
    ·rfl
    ·simp
   ·have a:¬aM (x::q) r<(x::q).length:=by simp;omega
    rw[dif_neg hl,dif_neg a];rfl
  ·have e:aM (x::q) r=0:=by unfold aM;rw[x2,decide_eq_false hx];rfl
   have a:aM (x::q) r<(x::q).length:=by simp;omega
   rw[eY,if_neg hx,dif_pos a];simp only[e,List.getElem_cons_zero];by_cases h0:cmp x r=0
   ·simp[h0]
   ·simp[h0]
def ED{r y:List Int}:∀{l:List (List Int)},y∈eY l r->y=r\/y∈l
 |[],h=>by simp[eY]at h;exact Or.inl h
 |x::q,h=>by
  rw[eY]at h
  split at h
  ·rcases List.mem_cons.1 h with rfl|h
   ·exact x1 (by simp)
   ·rcases ED h with h|h
    ·exact Or.inl h
    ·exact x1 (by simp[h])
  ·split at h
   ·exact x1 h
   ·rcases List.mem_cons.1 h with rfl|h
    ·exact Or.inl Z
    ·exact x1 h
def CQ{r:List Int}:∀{l:List (List Int)},QB l->QB (eY l r)
 |[],_=>by simp[eY,QB]
 |x::q,h=>by
  have i:=(List.pairwise_cons.1 h).1;rw[eY]
  split
  ·rename_i d;refine List.pairwise_cons.2 ⟨fun y a=>?_,CQ ((List.pairwise_cons.1 h).2)⟩
   rcases ED a with rfl|a
   ·exact d
   ·exact i y a
  ·rename_i j
   split
   ·exact h
   ·rename_i e;have k:¬cmp x r=0:=by simpa using e
    have c:cmp r x<0:=YJ (by omega);refine List.pairwise_cons.2 ⟨fun y a=>?_,h⟩
    rcases List.mem_cons.1 a with rfl|a
    ·exact c
    ·exact ET c (i y a)
def YL{l:List (List Int)}(h:QB l)(r:List Int)(i m:Nat)(j:m<W l)(c:i<W l)(d:i<=m)(a:cmp l[m] r<0):cmp l[i] r<0:=by
 by_cases e:i=m
 ·subst e;exact a
 ·exact ET (List.pairwise_iff_getElem.1 h i m c j (by omega)) a
def YM{l:List (List Int)}(h:QB l)(r:List Int)(i m:Nat)(j:m<W l)(e:i<W l)(a:m<=i)(d:¬cmp l[m] r<0):¬cmp l[i] r<0 :=
 fun c=>d (YL h r m i e j a c)
def Ms(a b:List Int)(k:Nat)(c:k<W a)(d:k<W b):cmp (a.drop k) (b.drop k)=if a.getD k 0 != b.getD k 0 then a.getD k 0-b.getD k 0 else cmp (a.drop (k+1)) (b.drop (k+1)):=by
 rw[x6 c,x6 d,gS a k c,gS b k d];rfl
def Mt(a b:List Int)(k:Nat)(c:k<W a)(d:W b<=k):cmp (a.drop k) (b.drop k)=1:=by
 rw[x6 c,x8 d];rfl
def Mu(a b:List Int)(c:W a<=W b):cmp (a.drop (W a)) (b.drop (W a))=(W a:Int)-W b:=by
 rw[x8 (xF _)];simp[cmp];omega
def QN(l:List Int):Prop:=∀x∈l,0<=x/\x<4
end Q
def BP(va vb:Value)(a b:List Int)(w:World)(ha:PC w va a)(hb:PC w vb b)(J:Q.QN a)(L:Q.QN b)(ad:W a<1000)(ae:W b<1000):
  Calls prog 124 #[va,vb] w fun e w'=>e=S (U F (cmp a b))/\Below (K (V w)) w w':=by
 obtain⟨xa,ca,rfl,N⟩:=ha.form;obtain⟨xb,cb,rfl,X⟩:=hb.form;have s:=MS J;have u:=MS L;go_enter func124,ntmps124;go_wp2;go_loopw[8] (fun j wr=>∃k:Nat,k<=W a/\k<=W b/\j=U F k/\MT (cmp a b=cmp (a.drop k) (b.drop k))/\Below (K (V w)) w wr) fun j _=>W a-(intOf j).toNat
 case atStart=>exact⟨0,x3 _,x3 _,Z,Z,xW _ _⟩
 case round =>
  obtain⟨k,hk,G,rfl,i,c⟩:=hrel;by_cases hlt:k<W a
  ·have ac:(k:Int)<(W a:Int):=by omega
   by_cases hb2:W b<=k
   ·have ab:(W b:Int)<=(k:Int):=by omega
    have m:MT (cmp a b=1):=by unfold MT;rw[i.o,Mt a b k hlt hb2]
    go_wp2;go_ret;rw[m.o];exact⟨Z,c⟩
   ·have d:k<W b:=by omega
    have aa:(k:Int)<(W b:Int):=by omega
    obtain⟨g1,rfl,D,z⟩:=N (by omega);obtain⟨g2,rfl,E,C⟩:=X (by omega);have d1:wr.cell? ⟨g1,k,I⟩=O (U F (a.getD k 0)):=by rw[gS a k hlt];exact(c.cell (p:=⟨g1,k,I⟩) D).trans (z k hlt)
    have d2:wr.cell? ⟨g2,k,I⟩=O (U F (b.getD k 0)):=by rw[gS b k d];exact(c.cell (p:=⟨g2,k,I⟩) E).trans (C k d)
    have HD:=MS (Ms a b k hlt d);have s1:0<=a.getD k 0/\a.getD k 0<4:=by rw[gS a k hlt];exact s.o _ (x7 hlt)
    have s2:0<=b.getD k 0/\b.getD k 0<4:=by rw[gS b k d];exact u.o _ (x7 d)
    generalize a.getD k 0=x at*;generalize b.getD k 0=y at*
    cases hz:x != y
    ·have q:MT (cmp a b=cmp (a.drop (k+1)) (b.drop (k+1))):=by unfold MT;rw[i.o,HD.o,hz];rfl
     go_wp2;go_quiet (fail)
     all_goals
      go_wp2;go_roundw
      case rel=>exact⟨k+1,by omega,by omega,by go_num,q,c.trans (QA _ _ _)⟩
      case measure=>simp[intOf];omega
    ·have q:MT (cmp a b=x-y):=by unfold MT;rw[i.o,HD.o,hz];rfl
     have M:IntKind.i64.wrap (x-y)=x-y:=IntWalk.i64_in _ ⟨by omega,by omega⟩;go_wp2;go_quiet (fail)
     all_goals
      go_wp2;go_quiet (fail)
      all_goals
       go_wp2;go_ret;rw[q.o];exact⟨by first|rfl|rw[M],(c.trans (QA _ _ _)).trans (QA _ _ _)⟩
  ·have H:k=W a:=by omega
   subst H;have m:MT (cmp a b=(W a:Int)-W b):=by unfold MT;rw[i.o,Mu a b G]
   have M:IntKind.i64.wrap ((W a:Int)-W b)=(W a:Int)-W b:=IntWalk.i64_in _ ⟨by omega,by omega⟩;go_wp2;go_ret;rw[m.o];exact⟨by first|rfl|rw[M],c⟩
structure NX(w:World)(B:Nat)(v:Value)(rs:List (List Int))(vs:List Value):Prop where
 own:w.ownsRow B 37 1 v (W rs) vs
 len:W vs=W rs
 y:∀i (h:i<W rs) (u:Value),vs[i]?=O u->PC w u rs[i]
def NX.X(h:NX w B v rs vs)(a:Below (K (V w)) w w'):NX w' B v rs vs :=
 ⟨bE h.own fun k e=>a.block k (h.own.lt k e).2,h.len,fun i c u d=>(h.y i c u d).X a⟩
def NX.form(h:NX w B v rs vs):∃a c,v=T a (W rs) c/\(0<W rs->∃b,a=O ⟨b,0,I⟩/\B<=b/\b<K (V w)/\∀i (j:i<W vs),w.cell? ⟨b,i,I⟩=O vs[i]):=by
 rcases h.own.2 with⟨e,o⟩|⟨k,c,m,e,p,_⟩
 ·exact⟨I,0,by rw[e,o],fun h=>by omega⟩
 ·refine⟨_,c,e,fun _=>⟨k,Z,p,(h.own.lt k (by rw[e];rfl)).2,fun i j=>?_⟩⟩;have d:=h.own;rw[e]at d;rw[d.cellAt i (by have:=h.len;omega),x4 j]
def YN(B g:Nat)(v vr:Value)(rs:List (List Int))(vs:List Value)(r:List Int)(w:World)(M:w.cell? ⟨g,0,I⟩=O v)(hg:g<K (V w))(h:NX w B v rs vs)(hr:PC w vr r)(ag:QB rs)(hs:∀x∈rs,Q.QN x/\W x<1000)(ah:Q.QN r/\W r<1000)(hn:W rs<100000000):
  Calls prog 123 #[.pointer (O ⟨g,0,I⟩),vr] w fun e w'=>e=S (U F (aM rs r:Int))/\Below (K (V w)) w w':=by
 obtain⟨xa,ca,rfl,ai⟩:=h.form;obtain⟨ra,rc,rfl,_⟩:=hr.form;have H:=MS h;have HR:=MS hr;have D:=MS ag;have HS:=MS hs;have q:=MS ah;go_enter func123,ntmps123;go_wp2;go_loopw[5,6] (fun a b wr=>∃j k:Nat,j<=k/\k<=W rs/\a=U F j/\b=U F k/\MT (∀i (h:i<W rs),i<j->cmp rs[i] r<0)/\MT (∀i (h:i<W rs),k<=i->0<=cmp rs[i] r)/\Below (K (V w)) w wr) fun a b _=>(intOf b).toNat-(intOf a).toNat
 case atStart=>exact⟨0,W rs,x3 _,xF _,Z,Z,fun i h h2=>by omega,fun i h h2=>by omega,xW _ _⟩
 case round =>
  obtain⟨j,k,am,ae,rfl,rfl,HL,HH,d⟩:=hrel;have d0:=MZ d hg M;by_cases hlt:j<k
  ·have al:(j:Int)<(k:Int):=by omega
   obtain⟨c,af⟩:∃c:Nat,c=j+(k-j)/2:=⟨_,Z⟩;have an:j<=c:=by omega
   have ao:c<k:=by omega
   have ap:(j:Int)+((k:Int)-(j:Int))/2=(c:Int):=by omega
   have m:c<W rs:=by omega
   have aj:(c:Int)<(W rs:Int):=by omega
   obtain⟨b,rfl,ak,hb,ad⟩:=ai (by omega);have L:c<W vs:=by rw[H.len];exact m
   have cm:wr.cell? ⟨b,c,I⟩=O vs[c]:=(d.cell (p:=⟨b,c,I⟩) hb).trans (ad c L);have E:=MS ((H.y c m vs[c] (x4 L)).X d);have s:=HS.o rs[c] (x7 m);have G:=MS (HR.X d);have ac:MT (cmp rs[c] r<0->∀i (h:i<W rs),i<c+1->cmp rs[i] r<0):=fun M i C J=>YL D.o r i c m C (by omega) M
   have N:MT (0<=cmp rs[c] r->∀i (h:i<W rs),c<=i->0<=cmp rs[i] r):=fun M i C J=>by have:=YM D.o r i c m C J (by omega);omega
   generalize vs[c]=u at*;generalize rs[c]=y at*;clear af;by_cases hz:cmp y r<0
   ·have ab:=MS (ac.o hz);go_wp2_with(first|(go_at_call 124;refine(BP _ _ y r _ E.o G.o s.1 q.1 s.2 q.2).mono ?_;rintro e w1 ⟨rfl,z⟩));go_roundw
    case rel=>exact⟨c+1,k,by omega,ae,by go_num,Z,ab,HH,NE d (xF _) z⟩
    case measure=>simp[intOf];omega
   ·have aa:=MS (N.o (by omega));go_wp2_with(first|(go_at_call 124;refine(BP _ _ y r _ E.o G.o s.1 q.1 s.2 q.2).mono ?_;rintro e w1 ⟨rfl,z⟩));go_roundw
    case rel=>exact⟨j,c,by omega,by omega,Z,by first|rfl|go_num,HL,aa,NE d (xF _) z⟩
    case measure=>simp[intOf];omega
  ·obtain rfl:j=k:=by omega
   have HE:MT (aM rs r=j):=zK (by omega) HL.o (fun h=>by have:=HH.o j h (by omega);omega);go_wp2;go_ret;rw[HE.o];exact⟨Z,d⟩
