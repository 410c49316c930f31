import Derived.Test.YtlikcongbhhpfaaGreatDoorM21
set_option linter.unusedVariables false
set_option linter.unusedSimpArgs false
set_option maxHeartbeats 12800000
namespace Go.Proofs.YtlikcongbhhpfaaGreatDoor
open Go Go.RowKit Go.Proofs.Tryz P Q
set_option maxRecDepth 1000000
variable {W0 w w':World}{B fb g gb gc gd ge n o:Nat}{bs ds:List Int}{b:Bool}{t:TypeId}{c:Nat->Value}{gs:List Nat}
open _root_.Array renaming size->U
open Go.World renaming heap->N
open List renaming length->z
open Go.Value renaming slice->Y
open Option renaming none->C,some->I
open Go.Obj renaming cells->O
open Go.IntKind renaming i64->G
open Go.Ending renaming returned->E
open Nat renaming le_refl->xF,zero_le->xe,lt_of_lt_of_le->xh
open List renaming range->xR,ext_getElem->xg,getElem_mem->xi
open Go.RowKit.Below renaming refl->xW,heap_setCell->xa,heap_alloc->xc
open Or renaming inr->xb
open Go.Value renaming ownBlock->xd
open _root_.Array renaming getElem?_eq_none->xj
open Go.World renaming cell?_of_block->xk
open Go.Instr renaming makeSlice->xm
namespace Q
def dU(f:Nat->Int)(n k:Nat):List Int:=(xR n).map fun j=>if j<k then f j else 0
theorem yM(f:Nat->Int)(n:Nat):dU f n 0=List.replicate n 0:=by
 unfold dU;apply xg<;>simp
theorem uL(f:Nat->Int)(n k:Nat):(dU f n k).length=n:=by simp[dU]
theorem yS(f:Nat->Int)(n:Nat):dU f n n=(xR n).map f:=by
 unfold dU;apply List.map_congr_left;intro j a;simp at a;simp[a]
theorem AL(f:Nat->Int)(n k:Nat)(h:k<n):(dU f n k).set k (f k)=dU f n (k+1):=by
 unfold dU;apply xg
 ·simp
 ·intro i d a;simp at a;rw[List.getElem_set];by_cases hk:k=i
  ·subst hk;simp
  ·by_cases hlt:i<k
   ·simp[hk,hlt,show i<k+1 by omega]
   ·simp[hk,hlt,show ¬i<k+1 by omega]
end Q
theorem LE.gN{l:List Int}(h:LE w g l)(c:Nat)(a:z l<=c:=by first|exact xF _|omega|simp):ME w (JQ g (z l) c) l:=xb ⟨g,c,Z,fun i d=>h.cell i d,h.lt,a⟩
structure Ep(w w':World)(gc o gd:Nat):Prop where
 os:w'.os=w.os
 tape:w'.tape=w.tape
 output:w'.output=w.output
 size:U (N w')=U (N w)
 block:∀k,k≠gc->k≠gd->w'.heap[k]?=w.heap[k]?
 cell:∀j,j≠o+2->w'.cell? ⟨gc,j,C⟩=w.cell? ⟨gc,j,C⟩
 froz:∀j,w'.frozen? ⟨gc,j,C⟩=w.frozen? ⟨gc,j,C⟩
 shape:∀c t fr,w.heap[gc]?=I (O c t fr)->∃c',w'.heap[gc]?=I (O c' t fr)/\c'.size=c.size
theorem Ep.X(h:Ep w w' gc o gd)(a:B<=gc)(d:B<=gd):Below B w w' :=
 ⟨h.os,h.tape,h.output,by rw[h.size];exact xF _,fun k e=>h.block k (by omega) (by omega)⟩
def PH(w:World)(gc o gb gd:Nat)(bs ds:List Int)(rest:List (List Int)):Prop :=
 ∃begun,NH w gc o gb gd bs ds begun/\(begun=false/\ds=eN (z bs)/\rest=LX bs\/begun=true/\MV bs ds/\rest=nS bs ds)
theorem NH.of(h:NH w gc o gb gd bs ds b)(a:∀j,w'.cell? ⟨gc,j,C⟩=w.cell? ⟨gc,j,C⟩)(f:∀j,w'.frozen? ⟨gc,j,C⟩=w.frozen? ⟨gc,j,C⟩)(i:gc<U (N w'))(d:w'.heap[gb]?=w.heap[gb]?)(e:w'.heap[gd]?=w.heap[gd]?):NH w' gc o gb gd bs ds b :=
 ⟨(a _).trans h.c0,(a _).trans h.c1,(a _).trans h.c2,fun j=>(f j).trans (h.free j),i,h.bases.aA d,h.digits.aA e,h.cd,h.cb,h.bd,h.len⟩
theorem NH.X(h:NH w gc o gb gd bs ds b)(a:Below (U (N w)) w w'):NH w' gc o gb gd bs ds b :=
 h.of (fun _=>a.cell h.lt) (fun _=>a.frozen h.lt) (xh h.lt a.size) (a.block _ h.bases.lt) (a.block _ h.digits.lt)
theorem PH.X{rest:List (List Int)}(h:PH w gc o gb gd bs ds rest)(e:Below (U (N w)) w w'):PH w' gc o gb gd bs ds rest:=by
 obtain⟨b,a,d⟩:=h;exact⟨b,a.X e,d⟩
theorem PH.ML{rest:List (List Int)}(h:PH w gc o gb gd bs ds rest):∃b,NH w gc o gb gd bs ds b:=by
 obtain⟨b,a,_⟩:=h;exact⟨b,a⟩
theorem GM(gc o gb gd:Nat)(bs ds:List Int)(rest:List (List Int))(w:World)(h:PH w gc o gb gd bs ds rest)(L:z bs<10000)(S:∀b∈bs,b<1000000000):
  Calls prog 117 #[.pointer (I ⟨gc,o,C⟩)] w fun e w'=>(rest=[]/\e=E (.bool false)\/∃r q,rest=r::q/\e=E (.bool true)/\PH w' gc o gb gd bs r q/\MV bs r)/\Ep w w' gc o gd:=by
 obtain⟨b,f,F⟩:=h
 rcases F with⟨rfl,V,x⟩|⟨rfl,v,x⟩
 ·refine(H9 gc o gb gd bs ds w f L).mono ?_;rintro e w' ⟨rfl,rfl⟩;have T:Ep w (w.setCell ⟨gc,o+2,C⟩ (.bool true)) gc o gd:=⟨Z,Z,Z,by simp,fun k D _=>xa _ _ _ _ D,fun j X=>World.cell?_setCell_other _ _ _ _ (by first|(simp;done)|(simp;omega)),fun j=>World.frozen?_setCell _ _ _ _,fun c t M u=>⟨_,bC u _ _,by simp⟩⟩;refine⟨?_,T⟩
  cases hs:fG bs
  ·exact Or.inl ⟨by rw[x,VK hs],Z⟩
  ·have m:=VF hs;refine xb ⟨_,_,by rw[x,VJ hs],Z,⟨true,?_,xb ⟨Z,m,Z⟩⟩,m⟩;rw[<- V];exact⟨(T.cell _ (by omega)).trans f.c0,(T.cell _ (by omega)).trans f.c1,World.cell?_setCell_same _ _ _ f.c2,fun j=>(T.froz j).trans (f.free j),by rw[T.size];exact f.lt,f.bases.aA (T.block _ (fun e=>f.cb e.symm) f.bd),f.digits.aA (xa _ _ _ _ fun e=>f.cd e.symm),f.cd,f.cb,f.bd,f.len⟩
 ·have y:∀d∈ds,0<=d/\d<1000000000:=fun d H=>by
   obtain⟨i,A,rfl⟩:=List.getElem_of_mem H;have D:=v.vA i A;have K:i<z bs:=by rw[<- v.len];exact A
   have W:bs.getD i 0<1000000000:=by rw[eI bs i K];exact S _ (xi K)
   omega
  refine(Ia gc o gb gd bs ds w f L y).mono ?_;rintro e w' ⟨rfl,A,s,J⟩;have p:gc≠gd:=f.cd;have T:Ep w w' gc o gd:=⟨s.os,s.tape,s.output,J,fun k D F=>by
   by_cases hk:k<U (N w)
   ·exact s.block k hk (by simpa using F)
   ·rw[xj (by omega),xj (by omega)],fun j _=>xk (w:=w) (a:=⟨gc,j,C⟩) (s.block gc f.lt (by simpa using p)),fun j=>World.frozen?_of_block (w:=w) (a:=⟨gc,j,C⟩) (s.block gc f.lt (by simpa using p)),fun c t M u=>⟨c,(s.block gc f.lt (by simpa using p)).trans u,Z⟩⟩
  refine⟨?_,T⟩
  cases hs:(inc bs ds).2
  ·exact Or.inl ⟨by rw[x,VM v hs],Z⟩
  ·have m:=VG v hs;refine xb ⟨_,_,by rw[x,VL v hs],Z,⟨true,?_,xb ⟨Z,m,Z⟩⟩,m⟩;have l:∀j,w'.cell? ⟨gc,j,C⟩=w.cell? ⟨gc,j,C⟩:=fun j=>xk (w:=w) (a:=⟨gc,j,C⟩) (s.block gc f.lt (by simpa using p))
   refine⟨(l _).trans f.c0,?_,(l _).trans f.c2,fun j=>(T.froz j).trans (f.free j),by rw[T.size];exact f.lt,f.bases.aA (T.block _ (fun e=>f.cb e.symm) f.bd),A,f.cd,f.cb,f.bd,m.len⟩;rw[m.len,<- f.len];exact(l _).trans f.c1
def Mz(w w':World)(bs:List Int)(v1 v2 v3:Value):Prop:=∃gb gd,v1=JQ gb (z bs) (z bs)/\v2=JQ gd (z bs) (z bs)/\v3=.bool false/\LE w' gb bs/\LE w' gd (eN (z bs))/\U (N w)<=gb/\U (N w)<=gd/\gb≠gd
theorem gF{j:Func}{R:Ending->World->Prop}{a:Act}{p:Tmp}{d:TypeDesc}(g:Nat)(f:Array Value)(e:j.results=#[.cell p t])(r:prog.underlying t=I d)(i:d.isRow=true)(m:(prog.info? t).map (·.size)=I f.size)(q:a.tmps.getD p undef=.pointer (I ⟨g,0,C⟩))(h:w.heap[g]?=I (O f t (0,0)))(l:a.defers=[])(k:R (E (.agg f)) w):bodyPost prog j R .ret a w:=by
 refine bodyPost_ret (v:=.agg f) ?_ l k;rw[TX e,q];have:(asAddr (.pointer (I ⟨g,0,C⟩))).run prog w=.ok ⟨g,0,C⟩ w:=Z;rw[this,Result.andThen_ok,rQ w g _ _ _ h _ r i m]
theorem XO{a:World}{f i j s0 s1 s2:Value}(q:Below (U (N w)) w W0)(e:Below (U (N W0)) W0 a)(d:W0.heap[U (N w)]?=I (O #[f,i,j] t (0,0))):
  (((a.setCell ⟨U (N w),0,C⟩ s0).setCell ⟨U (N w),1,C⟩ s1).setCell ⟨U (N w),2,C⟩ s2).heap[U (N w)]?=I (O #[s0,s1,s2] t (0,0))/\(∀k,k≠U (N w)->(((a.setCell ⟨U (N w),0,C⟩ s0).setCell ⟨U (N w),1,C⟩ s1).setCell ⟨U (N w),2,C⟩ s2).heap[k]?=a.heap[k]?)/\(((a.setCell ⟨U (N w),0,C⟩ s0).setCell ⟨U (N w),1,C⟩ s1).setCell ⟨U (N w),2,C⟩ s2).heap.size=U (N a)/\Below (U (N w)) w (((a.setCell ⟨U (N w),0,C⟩ s0).setCell ⟨U (N w),1,C⟩ s1).setCell ⟨U (N w),2,C⟩ s2):=by
 have m:a.heap[U (N w)]?=I (O #[f,i,j] t (0,0)):=(e.block _ (Array.getElem?_eq_some_iff.1 d).1).trans d;refine⟨?_,fun k d=>?_,by simp,?_⟩
 ·have l:=bC m 0 s0;rw[bC (bC l 1 s1) 2 s2];rfl
 ·rw[xa _ _ _ _ d,xa _ _ _ _ d,xa _ _ _ _ d]
 ·exact(((JW q (xF _) e).setCell (p:=⟨U (N w),0,C⟩) (xF _) _).setCell (p:=⟨U (N w),1,C⟩) (xF _) _).setCell (p:=⟨U (N w),2,C⟩) (xF _) _
theorem DU(v:Value)(bs:List Int)(w:World)(h:ME w v bs)(hn:z bs<10000):
  Calls prog 103 #[v] w fun e w'=>∃v1 v2 v3,e=E (.agg #[v1,v2,v3])/\Mz w w' bs v1 v2 v3/\Below (U (N w)) w w':=by
 have aa:∀w,(xm 31 (.int G (z bs:Int)) (.int G (z bs:Int))).run prog w=.ok (JQ (U (N w)) (z bs) (z bs)) (w.alloc (O (madeCells #[.int G 0] (z bs)) 3)):=
  fun w=>run_make_row' 31 3 (.int G 0) 8 underlying31 Tryz.MZ Z G G (z bs) (by omega) (by omega) w
 have M:JP (madeCells #[.int G 0] (z bs)=lU (eN (z bs))):=rE (z bs);obtain⟨va,vc,rfl,ab⟩:=h.form;have W:=JO h;go_enter func103,ntmps103;go_upto_region 1 with fail
 obtain⟨r,H,m⟩:=gU w #[Y C 0 0,Y C 0 0,.bool false] 81;have i:=JO m;have A:=JO (W.o.X m);generalize hE:w.alloc (O #[Y C 0 0,Y C 0 0,.bool false] 81)=W0 at*;have c0:=aB r 0 _ Z;have c1:=aB r 1 _ Z;have c2:=aB r 2 _ Z;have f0:∀j,W0.frozen? ⟨U (N w),j,C⟩=false:=fun j=>by simp[World.frozen?,r]
 have s:U (N w)<U (N W0):=by omega
 have S:=JO r;go_region_with(go_at_call 123;refine(AE _ bs _ (A.o.X (by first|exact(xW _ _).drew|exact((xW _ _).alloc (xF _) _).drew|exact((xW _ _).drew).alloc (by simp) _)) hn).mono ?_;rintro e x ⟨f,rfl,F,q,a⟩;have d:JP (Below (U (N W0)) W0 x):=(by first|exact((xW (U (N W0)) W0).drew).trans (a.mono (by simp))|exact(((xW (U (N W0)) W0).alloc (xF _) _).drew).trans (a.mono (by simp))|exact(((xW (U (N W0)) W0).drew).alloc (by simp) _).trans (a.mono (by simp)));have p0:=JS d.o s c0;have p1:=JS d.o s c1;have p2:=JS d.o s c2;have pf:∀j,x.frozen? ⟨U (N w),j,C⟩=false:=fun j=>(d.o.frozen (p:=⟨U (N w),j,C⟩) s).trans (f0 j);have lw:=xh s d.o.size;have y:=JO F;have l:=JO a;simp at q)
 ·obtain⟨K,u,V,L⟩:=XO (s0:=.slice (some ⟨f,0,none⟩) (z bs) (z bs)) (s1:=.slice (some ⟨U (N x),0,none⟩) (z bs) (z bs)) (s2:=.bool false) i.o d.o S.o;have T:=y.o.lt;go_wp2;refine gF (p:=2) (U (N w)) _ (by kernel_rfl) underlying81 Z (by kernel_rfl) Z (by rw[xc _ _ _ (by omega)];exact K) Z ⟨_,_,_,Z,⟨f,U (N x),Z,Z,Z,?_,?_,by omega,by omega,by omega⟩,L.alloc (by omega) _⟩
  ·unfold LE;rw[xc _ _ _ (by omega),u f (by omega)];exact y.o
  ·unfold LE;rw[<- M.o];exact Eq.trans (congrArg (fun k=>(World.alloc _ _).heap[k]?) V.symm) (heap_alloc_new _ _)
 ·obtain⟨K,u,V,L⟩:=XO (s0:=JQ f (z bs) (z bs)) (s1:=JQ (U (N w)+1) (z bs) (z bs)) (s2:=.bool false) i.o d.o S.o;have J:=l.o.size;have D:=l.o.block (U (N w)+1) (by simp;omega);simp at J;go_wp2;refine gF (p:=2) (U (N w)) _ (by kernel_rfl) underlying81 Z (by kernel_rfl) Z (by exact K) Z ⟨_,_,_,Z,⟨f,U (N w)+1,Z,Z,Z,?_,?_,by omega,by omega,by omega⟩,L⟩
  ·unfold LE;rw[u f (by omega)];exact y.o
  ·unfold LE;rw[u _ (by omega),D,<- M.o,<- H];exact heap_alloc_new W0 _
theorem Tryz.infoEv:(prog.info? 166).map (fun i=>(i.zero,i.size,i.bytes))=I (I (.agg (aD Ev.zero)),10,80):=by kernel_rfl
theorem XP(n:Nat):(madeCells (aD Ev.zero) (n*10)).size=n*10:=by simp[madeCells]
theorem NC.xA{c:Nat}{es:List Ev}(h:NC w (JQ g n c) es)(e:w'.heap[g]?=w.heap[g]?)(_:True=True):NC w' (JQ g n c) es:=aU h fun k a=>by simp[xd]at a;subst a;exact e
namespace Q
def QX(es:List Ev):Prop:=∀e∈es,e.h<MU
theorem QX.ev{es:List Ev}(h:QX es)(k:Nat)(a:k<z es):(ev es k).h<MU:=by rw[sX es k a];exact h _ (xi a)
end Q
theorem Ef.frame{a:FA}{f:Ey}{r:Nat}{c:Array Value}(h:Ef w a f)(q:w.heap[r]?=I (O c 78 (0,0)))(p:∀k,k≠r->w'.heap[k]?=w.heap[k]?):Ef w' a f:=by
 have R:∀{g:Nat} {l:List Nat},Ed w g a.n l->Ed w' g a.n l:=fun d=>⟨d.at_.aA (p _ fun e=>by have:=xU d.at_ q (by decide);exact this e.symm),d.len,d.fits⟩
 refine⟨aU h.ev fun k e=>p k ?_,h.len,h.n64,R h.r1,R h.r2,R h.r3,R h.r4,R h.r5,R h.r6,R h.r7,R h.r8,R h.r9⟩;intro j;subst j
 rcases h.ev.2 with⟨i,_⟩|⟨v,s,u,i,_,m,_⟩
 ·rw[i]at e;simp[xd]at e
 ·rw[i]at e;simp[xd]at e;subst e;rw[q]at m;simp at m
structure FN(B:Nat)(W0 w:World)(fb ge n:Nat)(es:List Ev)(c:Nat->Value)(gs:List Nat):Prop where
 box:w.heap[fb]?=I (O #[JQ ge n n,c 1,c 2,c 3,c 4,c 5,c 6,c 7,c 8,c 9] 78 (0,0))
 ev:NC w (JQ ge n n) es
 rel:∀g∈gs,Ed w g n (LH n)
 nd:gs.Nodup
 gt:∀g∈gs,B<=g
 be:Below B W0 w
 sb:B<=U (N W0)/\B<=fb/\ge<fb
theorem FN.X{es:List Ev}(h:FN B W0 w fb ge n es c gs)(a:Below (U (N w)) w w'):FN B W0 w' fb ge n es c gs :=
 ⟨(a.block _ (Array.getElem?_eq_some_iff.1 h.box).1).trans h.box,h.ev.X a,fun g d=>(h.rel g d).X a,h.nd,h.gt,JW h.be h.sb.1 a,h.sb⟩
theorem FN.step{es:List Ev}(h:FN B W0 w fb ge n es c gs)(j:Below (U (N w)) w w')(s:U (N w)<=g)(m:Ed w' g n (LH n))(k:Nat)(u:1<=k/\k<=9):FN B W0 (w'.setCell ⟨fb,k,C⟩ (JQ g n n)) fb ge n es (fun i=>if i=k then JQ g n n else c i) (gs++[g]):=by
 have f:=h.X j;have R:∀{x:Nat},Ed w' x n (LH n)->Ed (w'.setCell ⟨fb,k,C⟩ (JQ g n n)) x n (LH n):=fun d=>⟨d.at_.aA (xa _ _ _ _ fun e=>xU d.at_ f.box (by decide) e.symm),d.len,d.fits⟩
 have l:=h.be.size;have q:=h.sb;refine⟨?_,f.ev.xA (xa _ _ _ _ (by simp;omega)) Z,fun x a=>?_,List.nodup_append.2 ⟨h.nd,by simp,fun x a y r e=>?_⟩,fun x a=>?_,f.be.setCell (p:=⟨fb,k,C⟩) h.sb.2.1 _,h.sb⟩
 ·rw[bC f.box]
  rcases(by omega:k=1\/k=2\/k=3\/k=4\/k=5\/k=6\/k=7\/k=8\/k=9)with e|e|e|e|e|e|e|e|e<;>subst e<;>rfl
 ·rcases List.mem_append.1 a with e|e
  ·exact R (f.rel x e)
  ·rw[List.mem_singleton.1 e];exact R m
 ·have:=(h.rel x a).lt;rw[List.mem_singleton.1 r]at e;omega
 ·rcases List.mem_append.1 a with e|e
  ·exact h.gt x e
  ·rw[List.mem_singleton.1 e];omega
theorem XQ(v:Value)(es:List Ev)(w:World)(he:NC w v es)(ay:0<z es)(hn:z es<=64)(ax:QX es):
  Calls prog 107 #[v] w fun e w'=>∃a,e=E (.agg (LY a))/\a.n=z es/\Ef w' a (KK es)/\Below (U (N w)) w w':=by
 obtain⟨ea,n,ec,hl,rfl,ba⟩:∃ea n ec,z es=n/\v=Y ea n ec/\(0<n->∃b,ea=I ⟨b,0,C⟩/\b<U (N w)):=by
  obtain⟨a,c,h1,h2⟩:=he.form;exact⟨a,_,c,Z,h1,h2⟩
 obtain⟨be,rfl,ar⟩:=ba (by omega);obtain⟨iz,hi,aA,aj,aB⟩:=info_parts Tryz.infoEv;have bg:∀w,(xm 71 (.int G (n:Int)) (.int G (n:Int))).run prog w=.ok (JQ (U (N w)) n n) (w.alloc (O (madeCells (aD Ev.zero) (n*10)) 166)):=fun w=>by
  have h:=run_makeSlice (P:=prog) w 71 166 iz (.agg (aD Ev.zero)) underlying71 hi aA G G (n:Int) (n:Int) (by omega) (Int.le_refl _) (by rw[aj];simp;omega) (by rw[aB];omega) (by omega);rw[aj]at h;have e:(Value.agg (aD Ev.zero)).cells=aD Ev.zero:=Z;rw[e]at h;simpa using h
 have aN:JP (KK es=(xR n).foldl (nT es) (Ey.bA es)):=by unfold JP KK;rw[hl]
 have aO:JP (∀f k,nT es f k=(xR n).foldl (fun f q=>f.gG k (ev es k) q (ev es q)) f):=fun f k=>by unfold nT;rw[hl]
 obtain⟨k0,bk,ah⟩:=gU w #[Y C 0 0,Y C 0 0,Y C 0 0,Y C 0 0,Y C 0 0,Y C 0 0,Y C 0 0,Y C 0 0,Y C 0 0,Y C 0 0] 78;have af:=JO ah;have aL:=JO (he.X ah);have ad:be<(w.alloc (O #[Y C 0 0,Y C 0 0,Y C 0 0,Y C 0 0,Y C 0 0,Y C 0 0,Y C 0 0,Y C 0 0,Y C 0 0,Y C 0 0] 78)).heap.size:=by omega
 have HL:=JO hl;have ao:=JO he;have aS:=JO ax;have W:n<=64:=by omega
 have bh:0<n:=by omega
 clear ah he hl hn ay ax;go_enter func107,ntmps107;go_upto_region 2 with fail
 generalize hE:w.alloc (O #[Y C 0 0,Y C 0 0,Y C 0 0,Y C 0 0,Y C 0 0,Y C 0 0,Y C 0 0,Y C 0 0,Y C 0 0,Y C 0 0] 78)=W0 at*;have l0:U (N w)<U (N W0):=by omega
 have az:U (N w)+1<=U (N W0):=by omega
 have K0:=JO k0;clear hE bk k0;have ai:(Builtin.copy_ #[71,71] 3 #[JQ (U (N W0)) n n,JQ be n ec]).run prog ((W0.alloc (O (madeCells (aD Ev.zero) (n*10)) 166)).alloc (O #[JQ (U (N W0)) n n,Y C 0 0,Y C 0 0,Y C 0 0,Y C 0 0,Y C 0 0,Y C 0 0,Y C 0 0,Y C 0 0,Y C 0 0] 78))=.ok (goInt (Nat.min n n)) (((W0.alloc (O (madeCells (aD Ev.zero) (n*10)) 166)).alloc (O #[JQ (U (N W0)) n n,Y C 0 0,Y C 0 0,Y C 0 0,Y C 0 0,Y C 0 0,Y C 0 0,Y C 0 0,Y C 0 0,Y C 0 0] 78)).setCells (U (N W0)) 0 (MY es)):=by
  have aa:((W0.alloc (O (madeCells (aD Ev.zero) (n*10)) 166)).alloc (O #[JQ (U (N W0)) n n,Y C 0 0,Y C 0 0,Y C 0 0,Y C 0 0,Y C 0 0,Y C 0 0,Y C 0 0,Y C 0 0,Y C 0 0] 78)).heap[U (N W0)]?=I (O (madeCells (aD Ev.zero) (n*10)) 166 (0,0)):=by
   rw[xc _ _ _ (by simp)];exact heap_alloc_new W0 _
  refine Mi _ _ _ _ 166 _ _ _ _ _ _ _ 10 _ underlying71 (by kernel_rfl) (by rw[lF,HL.o];simp) ?_ ?_ ?_ (Mh es)
  ·intro j u hu;have hj:j<n*10:=by have h1:=(List.getElem?_eq_some_iff.1 hu).1;rw[lF,HL.o]at h1;exact h1
   have ea:(⟨be,0,C⟩:Addr).add j=⟨be,j,C⟩:=by unfold Addr.add;split<;>simp_all
   have h2:W0.cell? ⟨be,j,C⟩=(MY es)[j]?:=by
    have h3:=aL.o;unfold NC at h3;rw[HL.o]at h3;exact h3.cellAt j hj
   rw[ea,<- hu,<- h2];simp only[World.cell?];rw[xc _ _ _ (by simp;omega),xc _ _ _ ad]
  ·intro j hj;rw[lF,HL.o]at hj;have h1:j<(madeCells (aD Ev.zero) (n*10)).size:=by rw[XP];exact hj
   simp only[World.cell?,aa,Nat.zero_add];simp[h1]
  ·intro j hj;simp only[World.frozen?,aa];simp
 have aw:Nat.min n n=n:=Nat.min_self n;rw[aw]at ai;have H1:JP (∃W1:World,W1=((W0.alloc (O (madeCells (aD Ev.zero) (n*10)) 166)).alloc (O #[JQ (U (N W0)) n n,Y C 0 0,Y C 0 0,Y C 0 0,Y C 0 0,Y C 0 0,Y C 0 0,Y C 0 0,Y C 0 0,Y C 0 0] 78)).setCells (U (N W0)) 0 (MY es)/\W1.heap[U (N W0)+1]?=I (O #[JQ (U (N W0)) n n,Y C 0 0,Y C 0 0,Y C 0 0,Y C 0 0,Y C 0 0,Y C 0 0,Y C 0 0,Y C 0 0,Y C 0 0] 78 (0,0))/\NC W1 (JQ (U (N W0)) n n) es/\Below (U (N W0)) W0 W1/\U (N W0)+2<=U (N W1)):=by
  refine⟨_,Z,?_,?_,?_,?_⟩
  ·rw[vL _ _ _ _ _ (by omega)];have:=heap_alloc_new (W0.alloc (O (madeCells (aD Ev.zero) (n*10)) 166)) (O #[JQ (U (N W0)) n n,Y C 0 0,Y C 0 0,Y C 0 0,Y C 0 0,Y C 0 0,Y C 0 0,Y C 0 0,Y C 0 0,Y C 0 0] 78);simpa using this
  ·have aa:((W0.alloc (O (madeCells (aD Ev.zero) (n*10)) 166)).alloc (O #[JQ (U (N W0)) n n,Y C 0 0,Y C 0 0,Y C 0 0,Y C 0 0,Y C 0 0,Y C 0 0,Y C 0 0,Y C 0 0,Y C 0 0] 78)).heap[U (N W0)]?=I (O ((madeCells (aD Ev.zero) (n*10)).toList.toArray) 166 (0,0)):=by
    rw[xc _ _ _ (by simp)];simpa using heap_alloc_new W0 (O (madeCells (aD Ev.zero) (n*10)) 166)
   have h1:=tV (U (N W0)) 166 (0,0) (MY es) _ 0 _ aa;have h2:=DT (MY es) [] (madeCells (aD Ev.zero) (n*10)).toList (by rw[lF,HL.o,Array.length_toList,XP]);simp only[List.nil_append,List.length_nil]at h2;rw[h2]at h1;refine⟨by rw[lF],xb ⟨U (N W0),n,(MY es).toArray,by rw[HL.o],xe _,h1,by rw[HL.o];exact xF _,by unfold maxLen;omega,by simp[lF,HL.o],by simp only[List.toList_toArray];exact List.take_of_length_le (by rw[lF];exact xF _)⟩⟩
  ·exact Below.setCells (xF _) _ _ _ (((xW _ _).alloc (xF _) _).alloc (by simp) _)
  ·rw[nN];simp
 obtain⟨W1,ag,kb,ae,aq,bj⟩:=H1.o;clear H1;rw[<- ag]at ai;go_upto_region 4 with fail
 (try rw[<- ag])
 have ak:JP (Below (U (N w)+1) W0 W1):=aq.mono az;generalize bl:U (N W0)=ge at*;generalize bc:ge+1=fb at*;have bd:ge<fb:=by omega
 have am:=JO ae;have ap:=JO kb;clear kb ae aq bj ai ag bg hi aA aj aB ad bc;have d:JP (FN (U (N w)+1) W0 W1 fb ge n es (fun _=>Y C 0 0) []):=⟨ap.o,am.o,fun g hg=>(by cases hg),List.nodup_nil,fun g hg=>(by cases hg),ak.o,by omega,by omega,bd⟩;clear ap am ak;obtain⟨x,y,A,D,H,J,K,L,M,S,T,V⟩:=gL d.o.box;go_upto_region 5 with(first|(go_at_call 109;refine(jA n _ W).mono ?_;rintro e w1 ⟨g1,rfl,r,l,m,i,s⟩;have FX:=JO (d.o.X s);have FY:=JO (d.o.step s l (Ed.mk r m i) 1 (by omega));clear r l m i s x y A D H J K L M S T V d;obtain⟨x,y,A,D,H,J,K,L,M,S,T,V⟩:=gL FX.o.box))
 clear x y A D H J K L M S T V FX;generalize w1.setCell ⟨fb,1,C⟩ (JQ g1 n n)=V1 at*;have d:=FY;clear FY;obtain⟨x,y,A,D,H,J,K,L,M,S,T,V⟩:=gL d.o.box;go_upto_region 6 with(first|(go_at_call 109;refine(jA n _ W).mono ?_;rintro e w2 ⟨g2,rfl,r,l,m,i,s⟩;have FX:=JO (d.o.X s);have FY:=JO (d.o.step s l (Ed.mk r m i) 2 (by omega));clear r l m i s x y A D H J K L M S T V d;obtain⟨x,y,A,D,H,J,K,L,M,S,T,V⟩:=gL FX.o.box))
 generalize w2.setCell ⟨fb,2,C⟩ (JQ g2 n n)=V2 at*;have d:=FY;obtain⟨x,y,A,D,H,J,K,L,M,S,T,V⟩:=gL d.o.box;go_upto_region 7 with(first|(go_at_call 109;refine(jA n _ W).mono ?_;rintro e w3 ⟨g3,rfl,r,l,m,i,s⟩;have FX:=JO (d.o.X s);have FY:=JO (d.o.step s l (Ed.mk r m i) 3 (by omega));obtain⟨x,y,A,D,H,J,K,L,M,S,T,V⟩:=gL FX.o.box))
 generalize w3.setCell ⟨fb,3,C⟩ (JQ g3 n n)=V3 at*;have d:=FY;obtain⟨x,y,A,D,H,J,K,L,M,S,T,V⟩:=gL d.o.box;go_upto_region 8 with(first|(go_at_call 109;refine(jA n _ W).mono ?_;rintro e w4 ⟨g4,rfl,r,l,m,i,s⟩;have FX:=JO (d.o.X s);have FY:=JO (d.o.step s l (Ed.mk r m i) 4 (by omega));obtain⟨x,y,A,D,H,J,K,L,M,S,T,V⟩:=gL FX.o.box))
 generalize w4.setCell ⟨fb,4,C⟩ (JQ g4 n n)=V4 at*;have d:=FY;obtain⟨x,y,A,D,H,J,K,L,M,S,T,V⟩:=gL d.o.box;go_upto_region 9 with(first|(go_at_call 109;refine(jA n _ W).mono ?_;rintro e w5 ⟨g5,rfl,r,l,m,i,s⟩;have FX:=JO (d.o.X s);have FY:=JO (d.o.step s l (Ed.mk r m i) 5 (by omega));obtain⟨x,y,A,D,H,J,K,L,M,S,T,V⟩:=gL FX.o.box))
 generalize w5.setCell ⟨fb,5,C⟩ (JQ g5 n n)=V5 at*;have d:=FY;obtain⟨x,y,A,D,H,J,K,L,M,S,T,V⟩:=gL d.o.box;go_upto_region 10 with(first|(go_at_call 109;refine(jA n _ W).mono ?_;rintro e w6 ⟨g6,rfl,r,l,m,i,s⟩;have FX:=JO (d.o.X s);have FY:=JO (d.o.step s l (Ed.mk r m i) 6 (by omega));obtain⟨x,y,A,D,H,J,K,L,M,S,T,V⟩:=gL FX.o.box))
 generalize w6.setCell ⟨fb,6,C⟩ (JQ g6 n n)=V6 at*;have d:=FY;obtain⟨x,y,A,D,H,J,K,L,M,S,T,V⟩:=gL d.o.box;go_upto_region 11 with(first|(go_at_call 109;refine(jA n _ W).mono ?_;rintro e w7 ⟨g7,rfl,r,l,m,i,s⟩;have FX:=JO (d.o.X s);have FY:=JO (d.o.step s l (Ed.mk r m i) 7 (by omega));obtain⟨x,y,A,D,H,J,K,L,M,S,T,V⟩:=gL FX.o.box))
 generalize w7.setCell ⟨fb,7,C⟩ (JQ g7 n n)=V7 at*;have d:=FY;obtain⟨x,y,A,D,H,J,K,L,M,S,T,V⟩:=gL d.o.box;go_upto_region 12 with(first|(go_at_call 109;refine(jA n _ W).mono ?_;rintro e w8 ⟨g8,rfl,r,l,m,i,s⟩;have FX:=JO (d.o.X s);have FY:=JO (d.o.step s l (Ed.mk r m i) 8 (by omega));obtain⟨x,y,A,D,H,J,K,L,M,S,T,V⟩:=gL FX.o.box))
 generalize w8.setCell ⟨fb,8,C⟩ (JQ g8 n n)=V8 at*;have d:=FY;obtain⟨x,y,A,D,H,J,K,L,M,S,T,V⟩:=gL d.o.box;go_upto_region 13 with(first|(go_at_call 109;refine(jA n _ W).mono ?_;rintro e w9 ⟨g9,rfl,r,l,m,i,s⟩;have FX:=JO (d.o.X s);have FY:=JO (d.o.step s l (Ed.mk r m i) 9 (by omega));obtain⟨x,y,A,D,H,J,K,L,M,S,T,V⟩:=gL FX.o.box))
 generalize w9.setCell ⟨fb,9,C⟩ (JQ g9 n n)=V9 at*;have d:=FY;have aC:=JO d.o.be;have FM:JP (Ee V9 fb (FA.mk n (JQ ge n n) g1 g2 g3 g4 g5 g6 g7 g8 g9) (Ey.bA es)):=by
  have hl:=HL.o;have R:∀g∈[g1,g2,g3,g4,g5,g6,g7,g8,g9],Ed V9 g n (LH (z es)):=by rw[hl];exact d.o.rel
  exact⟨d.o.box,⟨d.o.ev,hl,W,R g1 (by simp),R g2 (by simp),R g3 (by simp),R g4 (by simp),R g5 (by simp),R g6 (by simp),R g7 (by simp),R g8 (by simp),R g9 (by simp)⟩,d.o.nd⟩
 have aX:∀g∈[g1,g2,g3,g4,g5,g6,g7,g8,g9],U (N w)+1<=g:=d.o.gt;go_wp2;go_loopw[47] (fun j wr=>∃(k:Nat) (f:Ey),k<=n/\j=.int G k/\JP (f=(xR k).foldl (nT es) (Ey.bA es))/\JP (Ee wr fb (FA.mk n (JQ ge n n) g1 g2 g3 g4 g5 g6 g7 g8 g9) f)/\JP (Below (U (N w)+1) W0 wr)) fun j _=>n-(intOf j).toNat
 case atStart=>exact⟨0,_,xe _,Z,Z,FM,aC⟩
 case round =>
  obtain⟨k,f,hk,rfl,HT,HI,ab⟩:=hrel;by_cases hlt:k<n
  ·have bm:(k:Int)<(n:Int):=by omega
   have av:k<z es:=by rw[HL.o];exact hlt
   have aT:JP (wr.rangeAt be (k*10) (aD (ev es k)).toList):=eH (ao.o.bV HL.o.symm k av) ((ab.o.block be (by omega)).trans (af.o.block be ar));have aP:=aS.o.ev k av;have aV:JP ((xR (k+1)).foldl (nT es) (Ey.bA es)=(xR n).foldl (fun f q=>f.gG k (ev es k) q (ev es q)) f):=by unfold JP;rw[fP,<- HT.o];exact aO.o f k
   generalize ev es k=e1 at*;have aI:JP (KO (wr.alloc (O (aD e1) 166)) (U (N wr)) e1):=KO.bA wr e1;have aG:=JO (HI.o.X ((xW _ _).alloc (xF _) (O (aD e1) 166)));have aE:JP (Below (U (N w)+1) W0 (wr.alloc (O (aD e1) 166))):=ab.o.alloc (by have:=ab.o.size;omega) _;go_wp2_with(first|(refine cA (.tmp 50) Z Z be (k*10) e1 Z aT.o ?_));go_loopw[54] (fun j wq=>∃(q:Nat) (u:Ey),q<=n/\j=.int G q/\JP (u=(xR q).foldl (fun f q=>f.gG k e1 q (ev es q)) f)/\JP (Ee wq fb (FA.mk n (JQ ge n n) g1 g2 g3 g4 g5 g6 g7 g8 g9) u)/\JP (Below (U (N w)+1) W0 wq)/\JP (KO wq (U (N wr)) e1)) fun j _=>n-(intOf j).toNat
   case atStart=>exact⟨0,f,xe _,Z,Z,aG,aE,aI⟩
   case round =>
    obtain⟨q,u,hq,rfl,HU,HJ,ac,HA⟩:=hrel;by_cases hql:q<n
    ·have bn:(q:Int)<(n:Int):=by omega
     have bi:q<z es:=by rw[HL.o];exact hql
     have aU:JP (wr.rangeAt be (q*10) (aD (ev es q)).toList):=eH (ao.o.bV HL.o.symm q bi) ((ac.o.block be (by omega)).trans (af.o.block be ar));have aW:JP ((xR (q+1)).foldl (fun f q=>f.gG k e1 q (ev es q)) f=u.gG k e1 q (ev es q)):=by unfold JP;rw[fP,<- HU.o]
     generalize ev es q=e2 at*;have aH:=JO (HJ.o.X ((xW _ _).alloc (xF _) (O (aD e2) 166)));have an:=JO (HA.o.alloc (O (aD e2) 166));have aJ:=JO (KO.bA wr e2);have al:JP (Below (U (N w)+1) W0 (wr.alloc (O (aD e2) 166))):=ac.o.alloc (by have:=ac.o.size;omega) _;have aY:U (N w)+1<=(wr.alloc (O (aD e2) 166)).heap.size:=by have:=al.o.size;omega
     obtain⟨x0,x1,x2,x3,x4,x5,x6,x7,x8,x9,xf,xl⟩:=an.o.F;obtain⟨x,y,A,D,H,J,K,L,M,S,T,V⟩:=aJ.o.F;simp only[aD]at x0 x1 x2 x3 x4 x5 x6 x7 x8 x9 xf xl x y A D H J K L M S T V;go_wp2_with(first|(refine cA (.tmp 57) Z Z be (q*10) e2 Z aU.o ?_)|(go_at_call 157;refine(Mx (U (N w)+1) fb (FA.mk n (JQ ge n n) g1 g2 g3 g4 g5 g6 g7 g8 g9) u k q e1 e2 _ aH.o aY aX aP (by omega) (by omega)).mono ?_;rintro e wc ⟨rfl,hm,aZ,bb⟩;have aQ:=JO hm;have aF:=JO (al.o.trans aZ);have aK:=JO (bb _ _ an.o)));go_roundw
     case rel=>exact⟨q+1,_,by omega,by go_num,aW.o.symm,aQ,aF,aK⟩
     case measure=>simp[intOf];omega
    ·have aR:JP (u=(xR (k+1)).foldl (nT es) (Ey.bA es)):=by unfold JP;rw[aV.o,HU.o,show q=n by omega]
     go_wp2;go_roundw
     case rel=>exact⟨k+1,u,by omega,by go_num,aR,HJ,ac⟩
     case measure=>simp[intOf];omega
  ·have bf:k=n:=by omega
   have aM:JP (f=KK es):=by unfold JP;rw[aN.o,HT.o,bf]
   have au:=HI.o.box;simp only[LY]at au;obtain⟨x,y,A,D,H,J,K,L,M,S,T,V⟩:=gL au;have KR:=JO ((ab.o.block _ (by omega)).trans K0.o);obtain⟨z0,z1,z2,z3,z4,z5,z6,z7,z8,z9,zf,zl⟩:=gL KR.o;go_wp2;obtain⟨t0,t1,t2⟩:=vG [JQ ge n n,JQ g1 n n,JQ g2 n n,JQ g3 n n,JQ g4 n n,JQ g5 n n,JQ g6 n n,JQ g7 n n,JQ g8 n n,JQ g9 n n] KR.o Z;refine gF (p:=2) (U (N w)) _ (by kernel_rfl) underlying78 Z (by kernel_rfl) Z (by exact t0) Z ⟨FA.mk n (JQ ge n n) g1 g2 g3 g4 g5 g6 g7 g8 g9,Z,HL.o.symm,?_,?_⟩
   ·rw[<- aM.o];exact HI.o.fin.frame KR.o t1
   ·exact t2 _ _ (xF _) (af.o.trans (ab.o.mono (by omega)))
end Go.Proofs.YtlikcongbhhpfaaGreatDoor
