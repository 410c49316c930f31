import Derived.Test.YtehclbpoabdpoaaGreatDoorO20
set_option linter.all false
set_option maxHeartbeats 0
namespace Go.Proofs.YtehclbpoabdpoaaGreatDoor
open Go Go.RowKit Go.Proofs.Tryz P Q
open scoped Classical
set_option maxRecDepth 1000000
variable {w w':World}{g gb gc o:Nat}{bs ds l p:List Int}{b:Bool}{t:TypeId}{m:Int}
open List renaming length->D
open _root_.Array renaming size->F
open Go.World renaming heap->S,cell?->A
open Option renaming none->Y,some->I
open Go.IntKind renaming i64->C
open Go.Value renaming int->O,slice->N,bool->L
open Go.Obj renaming cells->G
open Go.Ending renaming returned->U
open Bool renaming false->M
open List renaming range->xF,replicate->x2,getElem_mem->x7,ext_getElem->x9,range_succ->xd,map_append->xe
open Nat renaming le_refl->xR,lt_of_lt_of_le->x5,zero_le->x6
open Go.RowKit.Below renaming refl->xW,heap_setCell->x4,heap_alloc->x8
open Or renaming inr->x1
open Go.Value renaming int->x3
open _root_.Array renaming getElem?_eq_none->xa
open Go.World renaming cell?_of_block->xb
open Go.Instr renaming makeSlice->xc
namespace Q
def gW(f:Nat->Int)(n k:Nat):List Int:=(xF n).map fun j=>if j<k then f j else 0
def LK(f:Nat->Int)(n:Nat):gW f n 0=x2 n 0:=by
 unfold gW;apply x9<;>simp
def CL(f:Nat->Int)(n k:Nat):(gW f n k).length=n:=by simp[gW]
def LZ(f:Nat->Int)(n:Nat):gW f n n=(xF n).map f:=by
 unfold gW;apply List.map_congr_left;intro j a;simp at a;simp[a]
def GT(f:Nat->Int)(n k:Nat)(h:k<n):(gW f n k).set k (f k)=gW f n (k+1):=by
 unfold gW;apply x9
 ·simp
 ·intro i c a;simp at a;rw[List.getElem_set];by_cases hk:k=i
  ·subst hk;simp
  ·by_cases hlt:i<k
   ·simp[hk,hlt,show i<k+1 by omega]
   ·simp[hk,hlt,show ¬i<k+1 by omega]
end Q
def NM.qB(h:NM w g l)(c:Nat)(a:D l<=c:=by first|exact xR _|omega|simp):PC w (MU g (D l) c) l:=x1 ⟨g,c,Z,fun i d=>h.cell i d,h.lt,a⟩
structure En(w w':World)(gc o gd:Nat):Prop where
 os:w'.os=w.os
 tape:w'.tape=w.tape
 output:w'.output=w.output
 size:F (S w')=F (S w)
 block:∀k,k≠gc->k≠gd->w'.heap[k]?=w.heap[k]?
 cell:∀j,j≠o+2->A w' ⟨gc,j,Y⟩=A w ⟨gc,j,Y⟩
 froz:∀j,w'.frozen? ⟨gc,j,Y⟩=w.frozen? ⟨gc,j,Y⟩
 shape:∀c t fr,w.heap[gc]?=I (G c t fr)->∃c',w'.heap[gc]?=I (G c' t fr)/\c'.size=c.size
def RT(w:World)(gc o gb gd:Nat)(bs ds:List Int)(rest:List (List Int)):Prop :=
 ∃begun,PT w gc o gb gd bs ds begun/\(begun=M/\ds=fJ (D bs)/\rest=OJ bs\/begun=true/\PE bs ds/\rest=qF bs ds)
def PT.of{gd:Nat}(h:PT w gc o gb gd bs ds b)(a:∀j,A w' ⟨gc,j,Y⟩=A w ⟨gc,j,Y⟩)(e:∀j,w'.frozen? ⟨gc,j,Y⟩=w.frozen? ⟨gc,j,Y⟩)(hs:gc<F (S w'))(c:w'.heap[gb]?=w.heap[gb]?)(d:w'.heap[gd]?=w.heap[gd]?):PT w' gc o gb gd bs ds b :=
 ⟨(a _).trans h.c0,(a _).trans h.c1,(a _).trans h.c2,fun j=>(e j).trans (h.free j),hs,h.bases.aC c,h.digits.aC d,h.cd,h.cb,h.bd,h.len⟩
def PT.X{gd:Nat}(h:PT w gc o gb gd bs ds b)(a:Below (F (S w)) w w'):PT w' gc o gb gd bs ds b :=
 h.of (fun _=>a.cell h.lt) (fun _=>a.frozen h.lt) (x5 h.lt a.size) (a.block _ h.bases.lt) (a.block _ h.digits.lt)
def RT.X{gd:Nat}{rest:List (List Int)}(h:RT w gc o gb gd bs ds rest)(d:Below (F (S w)) w w'):RT w' gc o gb gd bs ds rest:=by
 obtain⟨b,a,c⟩:=h;exact⟨b,a.X d,c⟩
def RT.OS{gd:Nat}{rest:List (List Int)}(h:RT w gc o gb gd bs ds rest):∃b,PT w gc o gb gd bs ds b:=by
 obtain⟨b,a,_⟩:=h;exact⟨b,a⟩
def IQ(gc o gb gd:Nat)(bs ds:List Int)(rest:List (List Int))(w:World)(h:RT w gc o gb gd bs ds rest)(X:D bs<10000)(hb:∀b∈bs,b<1000000000):
  Calls prog 107 #[.pointer (I ⟨gc,o,Y⟩)] w fun e w'=>(rest=[]/\e=U (L M)\/∃r q,rest=r::q/\e=U (L true)/\RT w' gc o gb gd bs r q/\PE bs r)/\En w w' gc o gd:=by
 obtain⟨b,f,J⟩:=h
 rcases J with⟨rfl,hz,z⟩|⟨rfl,y,z⟩
 ·refine(Kf gc o gb gd bs ds w f X).mono ?_;rintro e w' ⟨rfl,rfl⟩;have T:En w (w.setCell ⟨gc,o+2,Y⟩ (L true)) gc o gd:=⟨Z,Z,Z,by simp,fun k H _=>x4 _ _ _ _ H,fun j hj=>World.cell?_setCell_other _ _ _ _ (by first|(simp;done)|(simp;omega)),fun j=>World.frozen?_setCell _ _ _ _,fun c t fr x=>⟨_,bX x _ _,by simp⟩⟩;refine⟨?_,T⟩
  cases hs:iD bs
  ·exact Or.inl ⟨by rw[z,VS hs],Z⟩
  ·have s:=VN hs;refine x1 ⟨_,_,by rw[z,VR hs],Z,⟨true,?_,x1 ⟨Z,s,Z⟩⟩,s⟩;rw[<- hz];exact⟨(T.cell _ (by omega)).trans f.c0,(T.cell _ (by omega)).trans f.c1,World.cell?_setCell_same _ _ _ f.c2,fun j=>(T.froz j).trans (f.free j),by rw[T.size];exact f.lt,f.bases.aC (T.block _ (fun e=>f.cb e.symm) f.bd),f.digits.aC (x4 _ _ _ _ fun e=>f.cd e.symm),f.cd,f.cb,f.bd,f.len⟩
 ·have B:∀d∈ds,0<=d/\d<1000000000:=fun d K=>by
   obtain⟨i,E,rfl⟩:=List.getElem_of_mem K;have H:=y.rng i E;have W:i<D bs:=by rw[<- y.len];exact E
   have h4:bs.getD i 0<1000000000:=by rw[gS bs i W];exact hb _ (x7 W)
   omega
  refine(Kg gc o gb gd bs ds w f X B).mono ?_;rintro e w' ⟨rfl,E,v,V⟩;have u:gc≠gd:=f.cd;have T:En w w' gc o gd:=⟨v.os,v.tape,v.output,V,fun k H J=>by
   by_cases hk:k<F (S w)
   ·exact v.block k hk (by simpa using J)
   ·rw[xa (by omega),xa (by omega)],fun j _=>xb (w:=w) (a:=⟨gc,j,Y⟩) (v.block gc f.lt (by simpa using u)),fun j=>World.frozen?_of_block (w:=w) (a:=⟨gc,j,Y⟩) (v.block gc f.lt (by simpa using u)),fun c t fr x=>⟨c,(v.block gc f.lt (by simpa using u)).trans x,Z⟩⟩
  refine⟨?_,T⟩
  cases hs:(eO bs ds).2
  ·exact Or.inl ⟨by rw[z,VU y hs],Z⟩
  ·have s:=VO y hs;refine x1 ⟨_,_,by rw[z,VT y hs],Z,⟨true,?_,x1 ⟨Z,s,Z⟩⟩,s⟩;have n:∀j,A w' ⟨gc,j,Y⟩=A w ⟨gc,j,Y⟩:=fun j=>xb (w:=w) (a:=⟨gc,j,Y⟩) (v.block gc f.lt (by simpa using u))
   refine⟨(n _).trans f.c0,?_,(n _).trans f.c2,fun j=>(T.froz j).trans (f.free j),by rw[T.size];exact f.lt,f.bases.aC (T.block _ (fun e=>f.cb e.symm) f.bd),E,f.cd,f.cb,f.bd,s.len⟩;rw[s.len,<- f.len];exact(n _).trans f.c1
def Nq(w w':World)(bs:List Int)(v1 v2 v3:Value):Prop:=∃gb gd,v1=MU gb (D bs) (D bs)/\v2=MU gd (D bs) (D bs)/\v3=L M/\NM w' gb bs/\NM w' gd (fJ (D bs))/\F (S w)<=gb/\F (S w)<=gd/\gb≠gd
def qW{f:Func}{R:Ending->World->Prop}{a:Act}{p:Tmp}{d:TypeDesc}(g:Nat)(cs:Array Value)(c:f.results=#[.cell p t])(q:prog.underlying t=I d)(e:d.isRow=true)(k:(prog.info? t).map (·.size)=I cs.size)(n:a.tmps.getD p undef=.pointer (I ⟨g,0,Y⟩))(h:w.heap[g]?=I (G cs t (0,0)))(j:a.defers=[])(i:R (U (.agg cs)) w):bodyPost prog f R .ret a w:=by
 refine bodyPost_ret (v:=.agg cs) ?_ j i;rw[UT c,n];have:(asAddr (.pointer (I ⟨g,0,Y⟩))).run prog w=.ok ⟨g,0,Y⟩ w:=Z;rw[this,Result.andThen_ok,vW w g _ _ _ h _ q e k]
def YV{W0 a:World}{e f i s0 s1 s2:Value}(q:Below (F (S w)) w W0)(d:Below (F (S W0)) W0 a)(c:W0.heap[F (S w)]?=I (G #[e,f,i] t (0,0))):
  (((a.setCell ⟨F (S w),0,Y⟩ s0).setCell ⟨F (S w),1,Y⟩ s1).setCell ⟨F (S w),2,Y⟩ s2).heap[F (S w)]?=I (G #[s0,s1,s2] t (0,0))/\(∀k,k≠F (S w)->(((a.setCell ⟨F (S w),0,Y⟩ s0).setCell ⟨F (S w),1,Y⟩ s1).setCell ⟨F (S w),2,Y⟩ s2).heap[k]?=a.heap[k]?)/\(((a.setCell ⟨F (S w),0,Y⟩ s0).setCell ⟨F (S w),1,Y⟩ s1).setCell ⟨F (S w),2,Y⟩ s2).heap.size=F (S a)/\Below (F (S w)) w (((a.setCell ⟨F (S w),0,Y⟩ s0).setCell ⟨F (S w),1,Y⟩ s1).setCell ⟨F (S w),2,Y⟩ s2):=by
 have n:a.heap[F (S w)]?=I (G #[e,f,i] t (0,0)):=(d.block _ (Array.getElem?_eq_some_iff.1 c).1).trans c;refine⟨?_,fun k c=>?_,by simp,?_⟩
 ·have j:=bX n 0 s0;rw[bX (bX j 1 s1) 2 s2];rfl
 ·rw[x4 _ _ _ _ c,x4 _ _ _ _ c,x4 _ _ _ _ c]
 ·exact(((NE q (xR _) d).setCell (p:=⟨F (S w),0,Y⟩) (xR _) _).setCell (p:=⟨F (S w),1,Y⟩) (xR _) _).setCell (p:=⟨F (S w),2,Y⟩) (xR _) _
def LM(v:Value)(bs:List Int)(w:World)(h:PC w v bs)(hn:D bs<10000):
  Calls prog 92 #[v] w fun e w'=>∃v1 v2 v3,e=U (.agg #[v1,v2,v3])/\Nq w w' bs v1 v2 v3/\Below (F (S w)) w w':=by
 have ab:∀w,(xc 37 (O C (D bs:Int)) (O C (D bs:Int))).run prog w=.ok (MU (F (S w)) (D bs) (D bs)) (w.alloc (G (madeCells #[O C 0] (D bs)) 3)):=
  fun w=>run_make_row' 37 3 (O C 0) 8 underlying37 Tryz.OC Z C C (D bs) (by omega) (by omega) w
 have V:MT (madeCells #[O C 0] (D bs)=oJ (fJ (D bs))):=xN (D bs);obtain⟨va,vc,rfl,ac⟩:=h.form;have HV:=MS h;go_enter func92,ntmps92;go_upto_region 1 with fail
 obtain⟨H,B,n⟩:=lW w #[N Y 0 0,N Y 0 0,L M] 88;have f:=MS n;have x:=MS (HV.X n);generalize hE:w.alloc (G #[N Y 0 0,N Y 0 0,L M] 88)=W0 at*;have c0:=cA H;have f0:∀j,W0.frozen? ⟨F (S w),j,Y⟩=M:=fun j=>by simp[World.frozen?,H]
 have J:F (S w)<F (S W0):=by omega
 have W:=MS H;go_region_with(go_at_call 115;refine(CD _ bs _ (x.X (by first|exact(xW _ _).drew|exact((xW _ _).alloc (xR _) _).drew|exact((xW _ _).drew).alloc (by simp) _)) hn).mono ?_;rintro e s ⟨c,rfl,z,q,a⟩;have d:MT (Below (F (S W0)) W0 s):=(by first|exact((xW (F (S W0)) W0).drew).trans (a.mono (by simp))|exact(((xW (F (S W0)) W0).alloc (xR _) _).drew).trans (a.mono (by simp))|exact(((xW (F (S W0)) W0).drew).alloc (by simp) _).trans (a.mono (by simp)));have p0:=fL d.o J c0;have pf:∀j,s.frozen? ⟨F (S w),j,Y⟩=M:=fun j=>(d.frozen (p:=⟨F (S w),j,Y⟩) J).trans (f0 j);have lw:=x5 J d.size;have u:=MS z;have i:=MS a;simp at q)
 ·obtain⟨K,r,q2,T⟩:=YV (s0:=N (some ⟨c,0,Y⟩) (D bs) (D bs)) (s1:=N (some ⟨F (S s),0,Y⟩) (D bs) (D bs)) (s2:=L M) f.o d.o W.o;have aa:=u.lt;go_wp2;refine qW (p:=2) (F (S w)) _ (by kernel_rfl) underlying88 Z (by kernel_rfl) Z (by rw[x8 _ _ _ (by omega)];exact K) Z ⟨_,_,_,Z,⟨c,F (S s),Z,Z,Z,?_,?_,by omega,by omega,by omega⟩,T.alloc (by omega) _⟩
  ·unfold NM;rw[x8 _ _ _ (by omega),r c (by omega)];exact u.o
  ·unfold NM;rw[<- V.o];exact Eq.trans (congrArg (fun k=>(World.alloc _ _).heap[k]?) q2.symm) (heap_alloc_new _ _)
 ·obtain⟨K,r,q2,T⟩:=YV (s0:=MU c (D bs) (D bs)) (s1:=MU (F (S w)+1) (D bs) (D bs)) (s2:=L M) f.o d.o W.o;have E:=i.size;have y:=i.block (F (S w)+1) (by simp;omega);simp at E;go_wp2;refine qW (p:=2) (F (S w)) _ (by kernel_rfl) underlying88 Z (by kernel_rfl) Z (by exact K) Z ⟨_,_,_,Z,⟨c,F (S w)+1,Z,Z,Z,?_,?_,by omega,by omega,by omega⟩,T⟩
  ·unfold NM;rw[r c (by omega)];exact u.o
  ·unfold NM;rw[r _ (by omega),y,<- V.o,<- B];exact heap_alloc_new W0 _
structure PJ(w:World)(g gr gb gd:Nat)(rs bs ds:List Int)(rest:List (List Int)):Prop where
 r0:A w ⟨g,0,Y⟩=I (MU gr (D rs) (D rs))
 y:NM w gr rs
 OS:RT w g 1 gb gd bs ds rest
 len:D bs=D rs
 ne:gr≠gd
 neg:gr≠g
def PJ.X{c gd:Nat}{d:List Int}{rest:List (List Int)}(h:PJ w g c gb gd d bs ds rest)(a:Below (F (S w)) w w'):PJ w' g c gb gd d bs ds rest:=by
 obtain⟨b,e⟩:=h.OS.OS;exact⟨(a.cell e.lt).trans h.r0,h.y.X a,h.OS.X a,h.len,h.ne,h.neg⟩
def Nr(g a gb gd:Nat)(i bs ds:List Int)(rest:List (List Int))(w:World)(h:PJ w g a gb gd i bs ds rest)(u:D bs<10000)(n:∀b∈bs,b<1000000000):
  Calls prog 63 #[.pointer (I ⟨g,0,Y⟩)] w fun e w'=>(rest=[]/\e=U (L M)\/∃r q,rest=r::q/\e=U (L true)/\PJ w' g a gb gd i bs r q/\PE bs r)/\En w w' g 1 gd:=by
 have H:=MS h;obtain⟨b,f⟩:=h.OS.OS;go_enter func63,ntmps63;go_wp2_with(first|(go_at_call 107;refine(IQ g 1 gb gd bs ds rest _ H.OS u n).mono ?_;rintro e w' ⟨j,k⟩;have d:=MS k;rcases j with⟨c,rfl⟩|⟨r,q,c,rfl,f,s⟩))
 ·go_ret;exact⟨Or.inl ⟨c,Z⟩,d.o⟩
 ·go_ret;have T:=d.o;exact⟨x1 ⟨r,q,c,Z,⟨(T.cell 0 (by omega)).trans H.r0,H.y.aC (T.block a H.neg H.ne),f,H.len,H.ne,H.neg⟩,s⟩,T⟩
namespace Q
def pH(rs:List Int)(i k:Nat):Int:=(((xF k).filter fun k=>rs.getD k (-1)==rs.getD i (-1)).length:Nat)
def YW(P:Nat->Bool)(k:Nat):(((xF (k+1)).filter P).length:Int)=(((xF k).filter P).length:Int)+if P k then 1 else 0:=by
 rw[xd,List.filter_append,List.length_append]
 cases h:P k<;>simp[List.filter,h]
def Ns(a:List Int)(i k:Nat):pH a i (k+1)=pH a i k+if a.getD k (-1)==a.getD i (-1)then 1 else 0:=YW (fun k=>a.getD k (-1)==a.getD i (-1)) k
def YX(a:List Int)(i k:Nat):0<=pH a i k/\pH a i k<=k:=by
 unfold pH;have:=List.length_filter_le (fun k=>a.getD k (-1)==a.getD i (-1)) (xF k);simp at this⊢;omega
end Q
def Nt(g n i:Nat)(a:List Int)(w:World)(K:A w ⟨g,0,Y⟩=I (MU n (D a) (D a)))(H:NM w n a)(hg:g<F (S w))(B:i<D a)(hn:D a<10000):
  Calls prog 108 #[.pointer (I ⟨g,0,Y⟩),O C (i:Int)] w fun e w'=>e=U (O C (lD a i))/\Below (F (S w)) w w':=by
 have HR:=MS H;have q:=H.lt;have J:MT (lD a i=pH a i i):=Z;have aa:(i:Int)<(D a:Int):=by omega
 have s:MT (∀W:World,Below (F (S w)) w W->A W ⟨n,i,Y⟩=I (O C (a.getD i (-1)))):=fun W T=>by rw[gS a i B];exact(T.cell (p:=⟨n,i,Y⟩) q).trans (HR.cell i B)
 go_enter func108,ntmps108;go_wp2;go_loopw[5,6] (fun c j wr=>∃k:Nat,k<=i/\j=O C k/\c=O C (pH a i k)/\Below (F (S w)) w wr) fun _ j _=>i-(intOf j).toNat
 case atStart=>exact⟨0,x6 _,Z,Z,xW _ _⟩
 case round =>
  obtain⟨k,hk,rfl,rfl,d⟩:=hrel;have d0:=MZ d hg K;by_cases hlt:k<i
  ·have ab:(k:Int)<(i:Int):=by omega
   have r:k<D a:=by omega
   have E:(k:Int)<(D a:Int):=by omega
   have ck:A wr ⟨n,k,Y⟩=I (O C (a.getD k (-1))):=by rw[gS a k r];exact(d.cell (p:=⟨n,k,Y⟩) q).trans (HR.cell k r)
   have ci:=s.o wr d;have v:=MS (Ns a i k);have V:=YX a i k;generalize a.getD k (-1)=x at*;generalize a.getD i (-1)=y at*;generalize X:pH a i k=z at*
   cases hz:x==y
   ·have f:MT (pH a i (k+1)=z):=by unfold MT;rw[v.o,hz];simp
    go_wp2;go_quiet (fail)
    all_goals
     go_wp2;go_roundw
     case rel=>exact⟨k+1,by omega,by go_num,by rw[f.o],d.trans (QA _ _ _)⟩
     case measure=>simp[intOf];omega
   ·have f:MT (pH a i (k+1)=z+1):=by unfold MT;rw[v.o,hz];simp
    go_wp2;go_quiet (fail)
    all_goals
     go_wp2;go_roundw
     case rel=>exact⟨k+1,by omega,by go_num,by rw[f.o],d.trans (QA _ _ _)⟩
     case measure=>simp[intOf];omega
  ·have u:k=i:=by omega
   subst u;go_wp2;go_ret;rw[J.o];exact⟨Z,d⟩
namespace Q
def Nu(a:List Int)(i k:Nat)(p:List Int):(nD a i p k).length=D p:=by unfold nD;split<;>simp
def Nv(p:List Int)(i:Nat)(x:Int)(h:i<D p):(p.set i x).getD i 0=x:=by simp[List.getD,h]
def Bd(p:List Int)(m:Int):Prop:=∀x∈p, -1000000001<=x/\x<=m
def Bd.set(h:Bd p m)(i:Nat)(x:Int)(c:-1000000001<=x)(d:x<=m):Bd (p.set i x) m:=fun y a=>by
 rcases List.mem_or_eq_of_mem_set a with a|rfl
 ·exact h y a
 ·exact⟨c,d⟩
def Bd.mono{k:Int}(h:Bd p m)(c:m<=k):Bd p k:=fun y a=>⟨(h y a).1,by have:=(h y a).2;omega⟩
def Bd.get(h:Bd p m)(i:Nat)(a:i<D p):-1000000001<=p.getD i 0/\p.getD i 0<=m:=by rw[gS p i a];exact h _ (x7 a)
end Q
def NM.eC(h:NM w g l)(i:Nat)(a:i<D l):A w ⟨g,i,Y⟩=I (O C (l.getD i 0)):=by rw[gS l i a];exact h.cell i a
def Nw(g T gb gd:Nat)(a bs ds:List Int)(rest:List (List Int))(w:World)(h:PJ w g T gb gd a bs ds rest)(hd:PE bs ds)(hb:∀b∈bs,b<1000000000)(hn:D a<=64):
  Calls prog 65 #[.pointer (I ⟨g,0,Y⟩)] w fun e w'=>∃gp,e=U (MU gp (D a) (D a))/\NM w' gp (eA a ds)/\F (S w)<=gp/\Below (F (S w)) w w':=by
 have aF:∀w,(xc 37 (O C (D a:Int)) (O C (D a:Int))).run prog w=.ok (MU (F (S w)) (D a) (D a)) (w.alloc (G (madeCells #[O C 0] (D a)) 3)):=
  fun w=>run_make_row' 37 3 (O C 0) 8 underlying37 Tryz.OC Z C C (D a) (by omega) (by omega) w
 obtain⟨bg,hc⟩:=h.OS.OS;have ay:D ds=D a:=by rw[hc.len,h.len]
 have c0:=h.r0;have c2:=hc.c1;have s:=hc.lt;have J:=MS h.y;have ao:=MS hc.digits;have V:=h.y.lt;have ai:=hc.digits.lt;have an:MT (∀i,i<D a->0<=ds.getD i 0/\ds.getD i 0<1000000000):=fun i hi=>by
  have h1:=hd.rng i (by omega);have h3:i<D bs:=by rw[h.len];exact hi
  have h4:bs.getD i 0<1000000000:=by rw[gS bs i h3];exact hb _ (x7 h3)
  rw[gS ds i (by omega)];omega
 have ar:MT (eA a ds=(xF (D a)).foldl (jH a ds) (x2 (D a) 0)):=Z;have aq:MT (NM (w.alloc (G (madeCells #[O C 0] (D a)) 3)) (F (S w)) (x2 (D a) 0)):=by
  unfold MT NM;rw[<- xN];exact heap_alloc_new w _
 have am:MT (Below (F (S w)) w (w.alloc (G (madeCells #[O C 0] (D a)) 3))):=(xW _ _).alloc (xR _) _;rw[ay]at c2;simp only[Nat.reduceAdd]at c2;go_enter func65,ntmps65;go_wp2;go_loopw[18] (fun j wr=>∃(k:Nat) (p:List Int),k<=D a/\j=O C k/\MT (p=(xF k).foldl (jH a ds) (x2 (D a) 0))/\MT (NM wr (F (S w)) p)/\MT (D p=D a)/\MT (Bd p (64+k*64))/\MT (Below (F (S w)) w wr)) fun j _=>D a-(intOf j).toNat
 case atStart=>exact⟨0,_,x6 _,Z,Z,aq,by simp[MT],by intro x hx;rw[List.eq_of_mem_replicate hx];omega,am⟩
 case round =>
  obtain⟨k,p,hk,rfl,HP,HI,HL,aa,E⟩:=hrel;by_cases hlt:k<D a
  ·have aE:(k:Int)<(D a:Int):=by omega
   have ck:A wr ⟨T,k,Y⟩=I (O C (a.getD k (-1))):=by rw[gS a k hlt];exact(E.cell (p:=⟨T,k,Y⟩) V).trans (J.cell k hlt)
   have lp:=HI.lt;have cp:=HI.eC k (by rw[HL.o];exact hlt);have fp:=HI.free k;have ac:=MS (HI.set k (-1));have c:MT (Below (F (S w)) w (wr.setCell ⟨F (S w),k,Y⟩ (O C (-1)))):=E.setCell (p:=⟨F (S w),k,Y⟩) (xR _) _;have af:MT ((xF (k+1)).foldl (jH a ds) (x2 (D a) 0)=jH a ds p k):=by unfold MT;rw[jJ,<- HP.o]
   have ae:MT (jH a ds p k=if a.getD k (-1) == -1 then p.set k (-1)else(xF k).foldl (nD a k) (p.set k (lD a k-ds.getD k 0))):=Z;have aj:F (S w)<(wr.setCell ⟨F (S w),k,Y⟩ (O C (-1))).heap.size:=by simpa using lp
   generalize ak:a.getD k (-1)=row at*;generalize aG:p.getD k 0=aL at*;go_upto_region 6 with fail
   generalize hW:wr.setCell ⟨F (S w),k,Y⟩ (O C (-1))=X at*
   cases hz:row == -1
   rotate_left
   ·have HN:MT (p.set k (-1)=(xF (k+1)).foldl (jH a ds) (x2 (D a) 0)):=by unfold MT;rw[af.o,ae.o,hz];rfl
    go_wp2;go_roundw
    case rel=>exact⟨k+1,_,by omega,by go_num,HN,ac,by simp[MT];exact HL.o,(aa.set k (-1) (by omega) (by omega)).mono (by omega),c⟩
    case measure=>simp[intOf];omega
   ·have HN:MT ((xF (k+1)).foldl (jH a ds) (x2 (D a) 0)=(xF k).foldl (nD a k) (p.set k (lD a k-ds.getD k 0))):=by unfold MT;rw[af.o,ae.o,hz];rfl
    have e0:=MZ c.o s c0;have e2:=MZ c.o s c2;have ed:A X ⟨gd,k,Y⟩=I (O C (ds.getD k 0)):=(c.cell (p:=⟨gd,k,Y⟩) ai).trans (ao.eC k (by omega));have al:=x5 s c.size;have aB:=x5 ai c.size;have aD:=an.o k hlt;have av:=YX a k k;have ax:pH a k k=lD a k:=Z;rw[ax]at av;have ap:=MS (J.aC (c.block T V));generalize ds.getD k 0=r at*;generalize aw:lD a k=B at*;have ab:=MS (Bd.set aa.o k (B-r) (by omega) (by omega));have aJ:IntKind.i64.wrap (B-r)=B-r:=IntWalk.i64_in _ ⟨by omega,by omega⟩;go_upto_region 7 with fail
    go_region_held3 (fun w'=>A w' ⟨g,2,Y⟩=I (MU gd (D a) (D a))/\A w' ⟨gd,k,Y⟩=I (O C r)) (first|exact⟨e2,ed⟩|exact⟨p2,pd⟩|exact⟨(cY (by omega)).trans p2,(cY (by omega)).trans pd⟩) (first
     |(go_at_call 108;refine(Nt g T k a X.drew e0 (ap.aC Z) al hlt (by omega)).mono ?_;rintro e w2 ⟨rfl,ah⟩;rw[aw];have B2:MT (Below (F (S X)) X w2):=(by first|exact((xW (F (S X)) X).drew).trans (ah.mono (by simp))|exact ah);have p2:=MZ B2.o al e2;have pd:=MZ B2.o aB ed;have I2:=MS (ac.aC (B2.block (F (S w)) aj));have ip:=I2.eC k (by rw[List.length_set,HL.o];exact hlt);have aK:=I2.free k))
    have I3:=MS (I2.set k (B-r));rw[List.set_set]at I3;have B3:MT (Below (F (S w)) w (w2.setCell ⟨F (S w),k,Y⟩ (O C (B-r)))):=(NE c.o (xR _) B2.o).setCell (p:=⟨F (S w),k,Y⟩) (xR _) _;go_wp2;go_loopw[6] (fun j wq=>∃(q:Nat) (u:List Int),q<=k/\j=O C q/\MT (u=(xF q).foldl (nD a k) (p.set k (B-r)))/\MT (NM wq (F (S w)) u)/\MT (D u=D a)/\MT (Bd u (64+k*64+q))/\MT (Below (F (S w)) w wq)) fun j _=>k-(intOf j).toNat
    case atStart=>exact⟨0,_,x6 _,Z,Z,I3,by simp[MT];exact HL.o,ab.mono (by omega),B3⟩
    case round =>
     obtain⟨q,u,hq,rfl,HU,H,d,n,f⟩:=hrel;have d0:=MZ f.o s c0;by_cases hql:q<k
     ·have aH:(q:Int)<(k:Int):=by omega
      have aI:(q:Int)<(D a:Int):=by omega
      have v:q<D a:=by omega
      have cq:A wr ⟨T,q,Y⟩=I (O C (a.getD q (-1))):=by rw[gS a q v];exact(f.cell (p:=⟨T,q,Y⟩) V).trans (J.cell q v)
      have uq:=H.eC q (by rw[d.o];exact v);have uk:=H.eC k (by rw[d.o];exact hlt);have fq:=H.free q;have bq:=n.get q (by rw[d.o];exact v);have K:MT ((xF (q+1)).foldl (nD a k) (p.set k (B-r))=if a.getD q (-1)==row&&decide (u.getD k 0<=u.getD q 0)then u.set q (u.getD q 0+1)else u):=by
       unfold MT;rw[jJ,<- HU.o,<- ak];rfl
      have ad:=MS (H.set q (u.getD q 0+1));have ag:=MS (Bd.set (n.mono (k:=64+k*64+(q+1:Nat)) (by omega)) q (u.getD q 0+1) (by omega) (by omega));generalize a.getD q (-1)=x at*;generalize u.getD q 0=y at*;generalize u.getD k 0=z at*
      cases hx:x==row
      ·have au:MT (u=(xF (q+1)).foldl (nD a k) (p.set k (B-r))):=by unfold MT;rw[K.o,hx];rfl
       go_wp2;go_quiet (fail)
       all_goals
        go_wp2;go_roundw
        case rel=>exact⟨q+1,u,by omega,by go_num,au,H.aC Z,d,n.mono (by omega),f.trans (QA _ _ _)⟩
        case measure=>simp[intOf];omega
      by_cases hy:z<=y
      ·have W:decide (z<=y)=true:=decide_eq_true hy;go_wp2;go_quiet (fail)
       all_goals
        go_wp2;go_roundw
        case rel=>exact⟨q+1,_,by omega,by go_num,by unfold MT;rw[K.o,hx,W];rfl,by first|exact ad.o|exact ad.aC Z,by simp[MT];exact d.o,ag,(f.trans (QA _ _ _)).setCell (p:=⟨F (S w),q,Y⟩) (xR _) _⟩
        case measure=>simp[intOf];omega
      ·have W:decide (z<=y)=M:=decide_eq_false hy;go_wp2;go_quiet (fail)
       all_goals
        go_wp2;go_roundw
        case rel=>exact⟨q+1,u,by omega,by go_num,by unfold MT;rw[K.o,hx,W];rfl,H.aC Z,d,n.mono (by omega),f.trans (QA _ _ _)⟩
        case measure=>simp[intOf];omega
     ·have aA:q=k:=by omega
      go_wp2;go_roundw
      case rel=>exact⟨k+1,u,by omega,by go_num,by unfold MT;rw[HN.o,HU.o,aA],H,d,n.mono (by omega),f⟩
      case measure=>simp[intOf];omega
  ·have az:k=D a:=by omega
   have HE:MT (p=eA a ds):=by unfold MT;rw[ar.o,HP.o,az]
   go_wp2;go_ret;exact⟨F (S w),Z,by rw[<- HE.o];exact HI.o,xR _,E.o⟩
structure PY(w:World)(ev rg:Value)(wd:Q.Wd):Prop where
 K:PH w ev wd.E
 g:PC w rg wd.g
def PY.X{ev c:Value}{d:Q.Wd}(h:PY w ev c d)(a:Below (F (S w)) w w'):PY w' ev c d:=⟨h.K.X a,h.g.X a⟩
def Nx(ev rg s:Value)(d:List Ev)(v:Int)(ps:List Int)(w:World)(W:PH w ev d)(ad:∃a n c,rg=N a n c)(hp:PC w s ps)(hl:D ps=D d)(hn:D d<=64):
  Calls prog 116 #[.agg #[ev,rg],O C v,s] w fun e w'=>e=U (O C (mB d v ps))/\Below (F (S w)) w w':=by
 obtain⟨ea,ec,rfl,X⟩:=W.form;obtain⟨pa,pc,rfl,ac⟩:=hp.form;obtain⟨ra,rn,rc,rfl⟩:=ad;have af:D ps<=D d:=by omega
 have ag:D d<=D ps:=by omega
 have K:MT (mB d v ps=((xF (D d)).foldl (oB v ps d) (0, -1)).1):=Z;obtain⟨k0,aj,y⟩:=lW w #[N ea (D d) ec,N ra rn rc] 80;have J:=MS W;have u:=MS y;clear y W hp hl;go_enter func116,ntmps116;go_upto_region 1 with fail
 generalize hE:w.alloc (G #[N ea (D d) ec,N ra rn rc] 80)=W0 at*;have ah:=jP k0 0 _ Z;have l0:F (S w)<F (S W0):=by omega
 go_wp2;go_loopw[7,8,14] (fun a b j wr=>∃(k:Nat) (p:Int×Int),k<=D d/\j=O C k/\a=O C p.1/\b=O C p.2/\MT (p=(xF k).foldl (oB v ps d) (0, -1))/\MT (Below (F (S W0)) W0 wr)) fun _ _ j _=>D d-(intOf j).toNat
 case atStart=>exact⟨0,(0, -1),x6 _,Z,Z,Z,Z,xW _ _⟩
 case round =>
  obtain⟨k,⟨s,r⟩,hk,rfl,rfl,rfl,HP,HB⟩:=hrel;by_cases hlt:k<D d
  ·have ai:(k:Int)<(D d:Int):=by omega
   have ae:(k:Int)<(D ps:Int):=by omega
   obtain⟨x,rfl,T⟩:=X (by omega);obtain⟨E,rfl,aa,V⟩:=ac (by omega);have q:MT (wr.rangeAt x (k*10) (aG (Q.ev d k)).toList):=jM (J.cN Z k hlt) ((HB.block x (by omega)).trans (u.block x T));have cp:A wr ⟨E,k,Y⟩=I (O C (ps.getD k 0)):=by rw[gS ps k (by omega)];exact(HB.cell (p:=⟨E,k,Y⟩) (by simp;omega)).trans ((u.cell (p:=⟨E,k,Y⟩) aa).trans (V k (by omega)))
   have ak:E<F (S wr):=by have:=HB.size;omega
   have f:MT ((xF (k+1)).foldl (oB v ps d) (0, -1)=if(Q.ev d k).B==1&&(Q.ev d k).z==v&&decide (r<ps.getD k 0)then((Q.ev d k).value,ps.getD k 0)else(s,r)):=by
    unfold MT;rw[jJ,<- HP.o];rfl
   generalize Q.ev d k=e1 at*;generalize ps.getD k 0=H at*;have i:MT (Below (F (S W0)) W0 (wr.alloc (G (aG e1) 180))):=HB.alloc HB.size _
   cases z1:e1.B==1
   ·rw[z1]at f;go_wp2_with(first|(refine fY (.tmp 17) Z Z x (k*10) e1 Z q.o ?_));go_roundw
    case rel=>exact⟨k+1,(s,r),by omega,by go_num,Z,Z,f.symm,i⟩
    case measure=>simp[intOf];omega
   cases z2:e1.z==v
   ·rw[z1,z2]at f;go_wp2_with(first|(refine fY (.tmp 17) Z Z x (k*10) e1 Z q.o ?_));go_roundw
    case rel=>exact⟨k+1,(s,r),by omega,by go_num,Z,Z,f.symm,i⟩
    case measure=>simp[intOf];omega
   by_cases hz3:r<H
   ·have z3:decide (r<H)=true:=decide_eq_true hz3;rw[z1,z2,z3]at f;go_wp2_with(first|(refine fY (.tmp 17) Z Z x (k*10) e1 Z q.o ?_));go_roundw
    case rel=>exact⟨k+1,(e1.value,H),by omega,by go_num,Z,Z,f.symm,i⟩
    case measure=>simp[intOf];omega
   ·have z3:decide (r<H)=M:=decide_eq_false hz3;rw[z1,z2,z3]at f;go_wp2_with(first|(refine fY (.tmp 17) Z Z x (k*10) e1 Z q.o ?_));go_roundw
    case rel=>exact⟨k+1,(s,r),by omega,by go_num,Z,Z,f.symm,i⟩
    case measure=>simp[intOf];omega
  ·have HE:MT (mB d v ps=s):=by
    have ab:k=D d:=by omega
    unfold MT;rw[K.o,<- ab,<- HP.o]
   go_wp2;go_ret;rw[HE.o];exact⟨Z,NE u.o (xR _) HB.o⟩
def NM.own(h:NM w g l)(B:Nat)(a:B<=g)(c:D l<1000000):w.ownsRow B 3 1 (MU g (D l) (D l)) (D l) (l.map (x3 C)):=by
 refine⟨by simp,x1 ⟨g,D l,oJ l,Z,a,h,xR _,by unfold maxLen;omega,by simp[oJ],by simp only[oJ,Nat.mul_one];exact List.take_of_length_le (by simp)⟩⟩
def zS{B n:Nat}{v:Value}(h:w.ownsRow B 3 1 v n (l.map (x3 C)))(r:n=D l):PC w v l:=by
 subst r
 rcases h.2 with⟨e,j⟩|⟨k,c,f,e,_,_,a,_⟩
 ·exact Or.inl ⟨e,List.eq_nil_of_length_eq_zero j⟩
 ·refine x1 ⟨k,c,e,fun i q=>?_,(h.lt k (by rw[e];rfl)).2,a⟩;have d:=h;rw[e]at d;rw[d.cellAt i (by omega)];simp[q]
def Tryz.PX:(prog.info? 3).map (fun i=>(i.zero,i.size,i.bytes))=I (I (O C 0),1,8):=by kernel_rfl
namespace Q
def pP(w:Wd)(ps:List Int)(k:Nat):List Int:=w.g++(xF k).map fun v:Nat=>mB w.E (v:Int) ps
def Ny(w:Wd)(ps:List Int)(k:Nat):pP w ps (k+1)=pP w ps k++[mB w.E (k:Int) ps]:=by
 unfold pP;rw[xd,xe,List.append_assoc];rfl
def YY(w:Wd)(ps:List Int):pP w ps 3=RE w ps:=rfl
def Nz(w:Wd)(ps:List Int)(k:Nat):(pP w ps k).length=D w.g+k:=by simp[pP]
end Q
def N6(ev rg pv:Value)(d:Q.Wd)(ps:List Int)(w:World)(h:PY w ev rg d)(hp:PC w pv ps)(hl:D ps=D d.E)(hn:D d.E<=64)(hr:D d.g<1000):
  Calls prog 72 #[.agg #[ev,rg],pv] w fun e w'=>∃v,e=U v/\PC w' v (RE d ps)/\(∀k,v.ownBlock=I k->F (S w)<=k)/\Below (F (S w)) w w':=by
 obtain⟨i0,hi,ak,al,am⟩:=info_parts Tryz.PX;obtain⟨ea,ec,ad,_⟩:=h.K.form;obtain⟨ra,rc,ai,_⟩:=h.g.form;obtain⟨pa,pc,ah,_⟩:=hp.form;obtain⟨k0,aq,f⟩:=lW w #[ev,rg] 80;have HW:=MS (h.X f);have HP:=MS (hp.X f);have H:=MS f;have HL:=MS hl;clear f h hp hl;subst ad ai ah;go_enter func72,ntmps72;go_upto_region 1 with fail
 generalize hE:w.alloc (G #[N ea (D d.E) ec,N ra (D d.g) rc] 80)=W0 at*;have c0:=cA k0;have l0:F (S w)<F (S W0):=by omega
 go_wp2_with(first|(go_at_call 115;refine(CD _ d.g _ HW.g (by omega)).mono ?_;rintro e w1 ⟨g1,rfl,ae,z,ac⟩;have V:=MS (ae.own (F (S W0)) z (by omega));have B1:=MS ac));go_loopw[5,6] (fun a j wr=>∃(k:Nat) (v:Value),k<=3/\j=O C k/\a=v/\MT (wr.ownsRow (F (S W0)) 3 1 v (D d.g+k) ((pP d ps k).map (x3 C)))/\MT (Below (F (S W0)) W0 wr)) fun _ j _=>3-(intOf j).toNat
 case atStart=>exact⟨0,_,by omega,Z,Z,by simpa[MT,pP]using V.o,B1⟩
 case round =>
  obtain⟨k,v,hk,rfl,i,s,HB⟩:=hrel;have i:=i.symm;subst i;by_cases hlt:k<3
  ·have ap:(k:Int)<3:=by omega
   have d0:=fL HB.o l0 c0;have ab:=MS (HW.X HB.o);have aa:=MS (HP.X HB.o);have HS:=MS (Ny d ps k);generalize ag:mB d.E (k:Int) ps=B at*;go_wp2_with(first
    |(go_at_call 116;refine(Nx _ _ _ d.E (k:Int) ps _ ab.K ⟨_,_,_,Z⟩ aa.o HL.o hn).mono ?_;rintro e r ⟨rfl,n⟩;rw[ag];have B2:MT (Below (F (S W0)) W0 r):=NE HB.o (xR _) n;have x:MT ((r.alloc (G #[O C B] 3)).ownsRow (F (S W0)) 3 1 v (D d.g+k) ((pP d ps k).map (x3 C))):=bE s.o fun y e=>(x8 _ _ _ (by have:=(s.lt y e).2;have:=n.size;omega)).trans (n.block y (s.lt y e).2);have T:MT (∀j u,[x3 C B][j]?=I u->(r.alloc (G #[O C B] 3)).cell? ((⟨F (S r),0,Y⟩:Addr).add j)=I u):=World.news_of_block (cs:=#[O C B]) (t:=3) (fr:=(0,0)) (heap_alloc_new r _);have aj:F (S W0)<=F (S r):=B2.size)
    |(at_builtin;refine wpList_append_lies _ Z (.tmp 14) (.tmp 19) 37 Z (F (S W0)) 3 i0 (O C 0) 1 8 underlying37 hi ak al am Z (by decide) _ (D d.g+k) ((pP d ps k).map (x3 C)) Z (by exact x.o) ⟨F (S r),0,Y⟩ 1 1 [O C B] Z Z (by exact T.o) (by simp[Value.oneCell']) (by decide) (by unfold maxLen;omega) (by omega) (by simp;omega) _ Z ?_;intro gn cn w5 q c an ao))
   have J:MT (Below (F (S W0)) W0 w5):=(B2.alloc aj _).trans ⟨c.os,c.tape,c.output,c.size,fun y hy=>c.block y (by simp;omega) fun e=>by have:=(x.lt y e.symm).1;omega⟩;have W:MT (w5.ownsRow (F (S W0)) 3 1 (MU gn (D d.g+k+1) cn) (D d.g+(k+1)) ((pP d ps (k+1)).map (x3 C))):=by
    unfold MT;rw[HS.o,xe];exact q
   go_roundw
   case rel=>exact⟨k+1,_,by omega,by go_num,Z,W,J⟩
   case measure=>simp[intOf];omega
  ·have af:k=3:=by omega
   go_wp2;go_ret;refine⟨_,Z,?_,fun y e=>by have:=(s.lt y e).1;omega,NE H.o (xR _) HB.o⟩;have h1:=s.o;rw[af,YY]at h1;exact zS h1 (by rw[<- YY,Nz])
