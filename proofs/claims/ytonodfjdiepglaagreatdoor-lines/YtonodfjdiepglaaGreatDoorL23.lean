import Derived.Test.YtonodfjdiepglaaGreatDoorL21
set_option linter.unusedVariables false
set_option linter.unusedSimpArgs false
set_option maxHeartbeats 12800000
namespace Go.Proofs.YtonodfjdiepglaaGreatDoor
open Go Go.RowKit Go.Proofs.Tryz P Q R
set_option maxRecDepth 1000000
variable {w w':World} {B g gb gc gd o:Nat} {bs ds l p:List Int} {b:Bool} {t:TypeId} {m:Int}
open List renaming range→xF,replicate→x2,getElem_mem→x7,ext_getElem→x9,range_succ→xd,map_append→xe
open Nat renaming le_refl→xR,lt_of_lt_of_le→xW,zero_le→x6
open Go.RowKit.Below renaming refl→x1,heap_setCell→x5,heap_alloc→x8
open Or renaming inr→x3
open Go.Value renaming int→x4
open _root_.Array renaming getElem?_eq_none→xa
open Go.World renaming cell?_of_block→xb
open Go.Instr renaming makeSlice→xc
namespace Q
def dN (f:Nat->Int) (n k:Nat):List Int:=(xF n).map fun j=>if j<k then f j else 0
theorem xG (f:Nat->Int) (n:Nat):dN f n 0=x2 n 0:=by
 unfold dN;apply x9<;>simp
theorem tU (f:Nat->Int) (n k:Nat):(dN f n k).length=n:=by simp[dN]
theorem zE (f:Nat->Int) (n:Nat):dN f n n=(xF n).map f:=by
 unfold dN;apply List.map_congr_left;intro j a;simp at a;simp[a]
theorem zB (f:Nat->Int) (n k:Nat) (h:k<n):(dN f n k).set k (f k)=dN f n (k+1):=by
 unfold dN;apply x9
 ·simp
 ·intro i c a;simp at a;rw[List.getElem_set];by_cases hk:k=i
  ·subst hk;simp
  ·by_cases hlt:i<k
   ·simp[hk,hlt,show i<k+1 by omega]
   ·simp[hk,hlt,show ¬ i<k+1 by omega]
end Q
theorem zAt.jK (h:zAt w g l) (c:Nat) (a:l.length<=c:=by first | exact xR _ | omega | simp):zCj w (.slice (some ⟨g,0,none⟩) l.length c) l:=x3 ⟨g,c,rfl,fun i d=>h.cell i d,h.lt,a⟩
structure Eu (w w':World) (gc o gd:Nat):Prop where
 os:w'.os=w.os
 tape:w'.tape=w.tape
 output:w'.output=w.output
 size:w'.heap.size=w.heap.size
 block:∀ k,k≠gc->k≠gd->w'.heap[k]?=w.heap[k]?
 cell:∀ j,j≠o+2->w'.cell? ⟨gc,j,none⟩=w.cell? ⟨gc,j,none⟩
 froz:∀ j,w'.frozen? ⟨gc,j,none⟩=w.frozen? ⟨gc,j,none⟩
 shape:∀ c t fr,w.heap[gc]?=some (.cells c t fr)->∃ c',w'.heap[gc]?=some (.cells c' t fr)/\c'.size=c.size
theorem Eu.below (h:Eu w w' gc o gd) (a:B<=gc) (c:B<=gd):Below B w w' :=
 ⟨h.os,h.tape,h.output,by rw[h.size];exact xR _,fun k d=>h.block k (by omega) (by omega)⟩
def zDS (w:World) (gc o gb gd:Nat) (bs ds:List Int) (rest:List (List Int)):Prop :=
 ∃ begun,CtrAt w gc o gb gd bs ds begun/\((begun=false/\ds=eI bs.length/\rest=zMH bs)\/(begun=true/\kAy bs ds/\rest=mV bs ds))
theorem CtrAt.of (h:CtrAt w gc o gb gd bs ds b) (a:∀ j,w'.cell? ⟨gc,j,none⟩=w.cell? ⟨gc,j,none⟩) (e:∀ j,w'.frozen? ⟨gc,j,none⟩=w.frozen? ⟨gc,j,none⟩) (f:gc<w'.heap.size)
  (c:w'.heap[gb]?=w.heap[gb]?) (d:w'.heap[gd]?=w.heap[gd]?):CtrAt w' gc o gb gd bs ds b :=
 ⟨(a _).trans h.c0,(a _).trans h.c1,(a _).trans h.c2,fun j=>(e j).trans (h.free j),f,h.bases.aA c,h.digits.aA d,h.cd,h.cb,h.bd,h.len⟩
theorem CtrAt.below (h:CtrAt w gc o gb gd bs ds b) (a:Below w.heap.size w w'):CtrAt w' gc o gb gd bs ds b :=
 h.of (fun _=>a.cell h.lt) (fun _=>a.frozen h.lt) (xW h.lt a.size) (a.block _ h.bases.lt) (a.block _ h.digits.lt)
theorem zDS.below {rest:List (List Int)} (h:zDS w gc o gb gd bs ds rest) (d:Below w.heap.size w w'):zDS w' gc o gb gd bs ds rest:=by
 obtain⟨b,a,c⟩:=h;exact⟨b,a.below d,c⟩
theorem zDS.ctr {rest:List (List Int)} (h:zDS w gc o gb gd bs ds rest):∃ b,CtrAt w gc o gb gd bs ds b:=by
 obtain⟨b,a,_⟩:=h;exact⟨b,a⟩
theorem EX (gc o gb gd:Nat) (bs ds:List Int) (rest:List (List Int)) (w:World) (h:zDS w gc o gb gd bs ds rest) (I:bs.length<10000) (K:∀ b∈bs,b<1000000000) :
  Calls prog 84 #[.pointer (some ⟨gc,o,none⟩)] w fun e w'=>((rest=[]/\e=.returned (.bool false))\/∃ r q,rest=r::q/\e=.returned (.bool true)/\zDS w' gc o gb gd bs r q/\kAy bs r)/\Eu w w' gc o gd:=by
 obtain⟨b,f,E⟩:=h
 rcases E with ⟨rfl,L,z⟩ | ⟨rfl,y,z⟩
 ·refine (zHN gc o gb gd bs ds w f I).mono ?_;rintro e w' ⟨rfl,rfl⟩;have T:Eu w (w.setCell ⟨gc,o+2,none⟩ (.bool true)) gc o gd:=⟨rfl,rfl,rfl,by simp,fun k D _=>x5 _ _ _ _ D,fun j N=>World.cell?_setCell_other _ _ _ _ (by first | (simp;done) | (simp;omega)),fun j=>World.frozen?_setCell _ _ _ _,fun c t J x=>⟨_,bH x _ _,by simp⟩⟩;refine⟨?_,T⟩
  cases hs:fF bs
  ·exact Or.inl ⟨by rw[z,kEx hs],rfl⟩
  ·have s:=kEo hs;refine x3 ⟨_,_,by rw[z,kDI hs],rfl,⟨true,?_,x3 ⟨rfl,s,rfl⟩⟩,s⟩;rw[<- L];exact⟨(T.cell _ (by omega)).trans f.c0,(T.cell _ (by omega)).trans f.c1,World.cell?_setCell_same _ _ _ f.c2,fun j=>(T.froz j).trans (f.free j),by rw[T.size];exact f.lt,f.bases.aA (T.block _ (fun e=>f.cb e.symm) f.bd),f.digits.aA (x5 _ _ _ _ (fun e=>f.cd e.symm)),f.cd,f.cb,f.bd,f.len⟩
 ·have A:∀ d∈ds,0<=d/\d<1000000000:=fun d F=>by
   obtain⟨i,C,rfl⟩:=List.getElem_of_mem F;have D:=y.uA i C;have H:i<bs.length:=by rw[<- y.len];exact C
   have M:bs.getD i 0<1000000000:=by rw[eT bs i H];exact K _ (x7 H)
   omega
  refine (zIW gc o gb gd bs ds w f I A).mono ?_;rintro e w' ⟨rfl,C,v,G⟩;have u:gc≠gd:=f.cd;have T:Eu w w' gc o gd:=⟨v.os,v.tape,v.output,G,fun k D E=>by
   by_cases hk:k<w.heap.size
   ·exact v.block k hk (by simpa using E)
   ·rw[xa (by omega),xa (by omega)],fun j _=>xb (w:=w) (a:=⟨gc,j,none⟩) (v.block gc f.lt (by simpa using u)),fun j=>World.frozen?_of_block (w:=w) (a:=⟨gc,j,none⟩) (v.block gc f.lt (by simpa using u)),fun c t J x=>⟨c,(v.block gc f.lt (by simpa using u)).trans x,rfl⟩⟩
  refine⟨?_,T⟩
  cases hs:(inc bs ds).2
  ·exact Or.inl ⟨by rw[z,kFJ y hs],rfl⟩
  ·have s:=kGr y hs;refine x3 ⟨_,_,by rw[z,kFu y hs],rfl,⟨true,?_,x3 ⟨rfl,s,rfl⟩⟩,s⟩;have n:∀ j,w'.cell? ⟨gc,j,none⟩=w.cell? ⟨gc,j,none⟩:=fun j=>xb (w:=w) (a:=⟨gc,j,none⟩) (v.block gc f.lt (by simpa using u))
   refine⟨(n _).trans f.c0,?_,(n _).trans f.c2,fun j=>(T.froz j).trans (f.free j),by rw[T.size];exact f.lt,f.bases.aA (T.block _ (fun e=>f.cb e.symm) f.bd),C,f.cd,f.cb,f.bd,s.len⟩;rw[s.len,<- f.len];exact (n _).trans f.c1
def zLD (w w':World) (bs:List Int) (v1 v2 v3:Value):Prop:=∃ gb gd,v1=.slice (some ⟨gb,0,none⟩) bs.length bs.length/\v2=.slice (some ⟨gd,0,none⟩) bs.length bs.length/\v3=.bool false/\zAt w' gb bs/\zAt w' gd (eI bs.length)/\w.heap.size<=gb/\w.heap.size<=gd/\gb≠gd
theorem gI {f:Func} {R:Ending->World->Prop} {a:Act} {p:Tmp} {d:TypeDesc} (g:Nat) (cs:Array Value) (c:f.results=#[.cell p t])
  (q:prog.underlying t=some d) (e:d.isRow=true) (k:(prog.info? t).map (·.size)=some cs.size)
  (n:a.tmps.getD p undef=.pointer (some ⟨g,0,none⟩)) (h:w.heap[g]?=some (.cells cs t (0,0))) (j:a.defers=[]) (i:R (.returned (.agg cs)) w):bodyPost prog f R .ret a w:=by
 refine bodyPost_ret (v:=.agg cs) ?_ j i;rw[zDj c,n];have:(asAddr (.pointer (some ⟨g,0,none⟩))).run prog w=.ok ⟨g,0,none⟩ w:=rfl;rw[this,Result.andThen_ok,qX w g _ _ _ h _ q e k]
theorem zLU {d a:World} {f i j s0 s1 s2:Value} (u:Below w.heap.size w d) (e:Below d.heap.size d a) (c:d.heap[w.heap.size]?=some (.cells #[f,i,j] t (0,0))) :
  (((a.setCell ⟨w.heap.size,0,none⟩ s0).setCell ⟨w.heap.size,1,none⟩ s1).setCell ⟨w.heap.size,2,none⟩ s2).heap[w.heap.size]?=some (.cells #[s0,s1,s2] t (0,0))/\(∀ k,k≠w.heap.size->(((a.setCell ⟨w.heap.size,0,none⟩ s0).setCell ⟨w.heap.size,1,none⟩ s1).setCell ⟨w.heap.size,2,none⟩ s2).heap[k]?=a.heap[k]?)/\(((a.setCell ⟨w.heap.size,0,none⟩ s0).setCell ⟨w.heap.size,1,none⟩ s1).setCell ⟨w.heap.size,2,none⟩ s2).heap.size=a.heap.size/\Below w.heap.size w (((a.setCell ⟨w.heap.size,0,none⟩ s0).setCell ⟨w.heap.size,1,none⟩ s1).setCell ⟨w.heap.size,2,none⟩ s2):=by
 have s:a.heap[w.heap.size]?=some (.cells #[f,i,j] t (0,0)):=(e.block _ (Array.getElem?_eq_some_iff.1 c).1).trans c;refine⟨?_,fun k c=>?_,by simp,?_⟩
 ·have n:=bH s 0 s0;have q:=bH n 1 s1;have r:=bH q 2 s2;rw[r];rfl
 ·rw[x5 _ _ _ _ c,x5 _ _ _ _ c,x5 _ _ _ _ c]
 ·exact ((((aK u (xR _) e)).setCell (p:=⟨w.heap.size,0,none⟩) (xR _) _).setCell (p:=⟨w.heap.size,1,none⟩) (xR _) _).setCell (p:=⟨w.heap.size,2,none⟩) (xR _) _
theorem CG (v:Value) (bs:List Int) (w:World) (h:zCj w v bs) (Y:bs.length<10000) :
  Calls prog 68 #[v] w fun e w'=>∃ v1 v2 v3,e=.returned (.agg #[v1,v2,v3])/\zLD w w' bs v1 v2 v3/\Below w.heap.size w w':=by
 have X:∀ w,(xc 68 (.int .i64 (bs.length:Int)) (.int .i64 (bs.length:Int))).run prog w=.ok (.slice (some ⟨w.heap.size,0,none⟩) bs.length bs.length) (w.alloc (.cells (madeCells #[.int .i64 0] bs.length) 3)) :=
  fun w=>run_make_row' 68 3 (.int .i64 0) 8 underlying68 Tryz.infoInt rfl .i64 .i64 bs.length (by omega) (by omega) w
 have K:Hid (madeCells #[.int .i64 0] bs.length=lL (eI bs.length)):=rE bs.length;obtain⟨va,vc,rfl,G⟩:=h.form;have N:=zAa h;clear G h;go_enter func68,ntmps68;go_upto_region 1 with fail
 obtain⟨n,F,i⟩:=jE w #[.slice none 0 0,.slice none 0 0,.bool false] 78;have q:=zAa i;have C:=zAa (N.out.below i);generalize V:w.alloc (.cells #[.slice none 0 0,.slice none 0 0,.bool false] 78)=a at *;have O:=aD n 0 _ rfl;have S:=aD n 1 _ rfl;have T:=aD n 2 _ rfl;have U:∀ j,a.frozen? ⟨w.heap.size,j,none⟩=false:=fun j=>by simp[World.frozen?,n]
 have x:w.heap.size<a.heap.size:=by omega
 have L:=zAa n;clear V n i;go_region_with (go_at_call 92;refine (yX _ bs _ (C.out.below (by first | exact (x1 _ _).drew | exact ((x1 _ _).alloc (xR _) _).drew | exact ((x1 _ _).drew).alloc (by simp) _)) Y).mono ?_;rintro e A ⟨f,rfl,E,u,c⟩;have d:Hid (Below a.heap.size a A):=(by first | exact ((x1 a.heap.size a).drew).trans (c.mono (by simp)) | exact (((x1 a.heap.size a).alloc (xR _) _).drew).trans (c.mono (by simp)) | exact (((x1 a.heap.size a).drew).alloc (by simp) _).trans (c.mono (by simp)));have p0:=aC d.out x O;have p1:=aC d.out x S;have p2:=aC d.out x T;have pf:∀ j,A.frozen? ⟨w.heap.size,j,none⟩=false:=(fun j=>(d.out.frozen (p:=⟨w.heap.size,j,none⟩) x).trans (U j));have Z:=xW x d.out.size;have y:=zAa E;have r:=zAa c;simp at u)
 ·obtain⟨I,z,M,J⟩:=zLU (s0:=.slice (some ⟨f,0,none⟩) bs.length bs.length) (s1:=.slice (some ⟨A.heap.size,0,none⟩) bs.length bs.length) (s2:=.bool false) q.out d.out L.out;have s:=y.out.lt;have W:w.heap.size<f:=by omega
  go_wp2;refine gI (p:=2) w.heap.size _ (by kernel_rfl) underlying78 rfl (by kernel_rfl) rfl (by rw[x8 _ _ _ (by omega)];exact I) rfl ⟨_,_,_,rfl,⟨f,A.heap.size,rfl,rfl,rfl,?_,?_,by omega,by omega,by omega⟩,J.alloc (by omega) _⟩
  ·unfold zAt;rw[x8 _ _ _ (by omega),z f (by omega)];exact y.out
  ·unfold zAt;rw[<- K.out];exact Eq.trans (congrArg (fun k=>(World.alloc _ _).heap[k]?) M.symm) (heap_alloc_new _ _)
 ·obtain⟨I,z,M,J⟩:=zLU (s0:=.slice (some ⟨f,0,none⟩) bs.length bs.length) (s1:=.slice (some ⟨w.heap.size+1,0,none⟩) bs.length bs.length) (s2:=.bool false) q.out d.out L.out;have s:=y.out.lt;have H:=r.out.size;have D:=r.out.block (w.heap.size+1) (by simp;omega);simp at H;go_wp2;refine gI (p:=2) w.heap.size _ (by kernel_rfl) underlying78 rfl (by kernel_rfl) rfl (by exact I) rfl ⟨_,_,_,rfl,⟨f,w.heap.size+1,rfl,rfl,rfl,?_,?_,by omega,by omega,by omega⟩,J⟩
  ·unfold zAt;rw[z f (by omega)];exact y.out
  ·unfold zAt;rw[z _ (by omega),D,<- K.out,<- F];exact heap_alloc_new a _
structure OrdOn (w:World) (g gr gb gd:Nat) (rs bs ds:List Int) (rest:List (List Int)):Prop where
 r0:w.cell? ⟨g,0,none⟩=some (.slice (some ⟨gr,0,none⟩) rs.length rs.length)
 rows:zAt w gr rs
 ctr:zDS w g 1 gb gd bs ds rest
 len:bs.length=rs.length
 ne:gr≠gd
 neg:gr≠g
theorem OrdOn.below {c:Nat} {d:List Int} {rest:List (List Int)} (h:OrdOn w g c gb gd d bs ds rest) (a:Below w.heap.size w w'):OrdOn w' g c gb gd d bs ds rest:=by
 obtain⟨b,e⟩:=h.ctr.ctr;exact⟨(a.cell e.lt).trans h.r0,h.rows.below a,h.ctr.below a,h.len,h.ne,h.neg⟩
theorem zEy (g c gb gd:Nat) (i bs ds:List Int) (rest:List (List Int)) (w:World) (h:OrdOn w g c gb gd i bs ds rest) (u:bs.length<10000) (n:∀ b∈bs,b<1000000000) :
  Calls prog 47 #[.pointer (some ⟨g,0,none⟩)] w fun e w'=>((rest=[]/\e=.returned (.bool false))\/∃ r q,rest=r::q/\e=.returned (.bool true)/\OrdOn w' g c gb gd i bs r q/\kAy bs r)/\Eu w w' g 1 gd:=by
 have H:=zAa h;obtain⟨b,a⟩:=h.ctr.ctr;have v:=a.lt;clear h a;go_enter func47,ntmps47;go_wp2_with (first | (go_at_call 84;refine (EX g 1 gb gd bs ds rest _ H.out.ctr u n).mono ?_;rintro e w' ⟨j,k⟩;have f:=zAa k;rcases j with ⟨d,rfl⟩ | ⟨r,q,d,rfl,a,s⟩))
 ·go_ret;exact⟨Or.inl ⟨d,rfl⟩,f.out⟩
 ·go_ret;have T:=f.out;exact⟨x3 ⟨r,q,d,rfl,⟨(T.cell 0 (by omega)).trans H.out.r0,H.out.rows.aA (T.block c H.out.neg H.out.ne),a,H.out.len,H.out.ne,H.out.neg⟩,s⟩,T⟩
namespace Q
def mH (rs:List Int) (i k:Nat):Int:=(((xF k).filter fun k=>rs.getD k (-1)==rs.getD i (-1)).length:Nat)
theorem kFZ (P:Nat->Bool) (k:Nat):(((xF (k+1)).filter P).length:Int)=(((xF k).filter P).length:Int)+if P k then 1 else 0:=by
 rw[xd,List.filter_append,List.length_append]
 cases h:P k<;>simp[List.filter,h]
theorem kHa (a:List Int) (i k:Nat):mH a i (k+1)=mH a i k+if a.getD k (-1)==a.getD i (-1) then 1 else 0:=kFZ (fun k=>a.getD k (-1)==a.getD i (-1)) k
theorem zOI (a:List Int) (i k:Nat):0<=mH a i k/\mH a i k<=k:=by
 unfold mH;have:=List.length_filter_le (fun k=>a.getD k (-1)==a.getD i (-1)) (xF k);simp at this ⊢;omega
end Q
theorem zJx (g q i:Nat) (d:List Int) (w:World) (H:w.cell? ⟨g,0,none⟩=some (.slice (some ⟨q,0,none⟩) d.length d.length)) (v:zAt w q d) (D:g<w.heap.size) (E:i<d.length) (U:d.length<10000) :
  Calls prog 85 #[.pointer (some ⟨g,0,none⟩),.int .i64 (i:Int)] w fun e w'=>e=.returned (.int .i64 (iL d i))/\Below w.heap.size w w':=by
 have z:=zAa v;have n:=v.lt;have G:Hid (iL d i=mH d i i):=rfl;have L:(i:Int)<(d.length:Int):=by omega
 have s:Hid (∀ W:World,Below w.heap.size w W->W.cell? ⟨q,i,none⟩=some (.int .i64 (d.getD i (-1)))):=fun W I=>by rw[eT d i E];exact (I.cell (p:=⟨q,i,none⟩) n).trans (z.out.cell i E)
 clear v;go_enter func85,ntmps85;go_wp2;go_loopw [5,6] (fun c j wr=>∃ k:Nat,k<=i/\j=.int .i64 k/\c=.int .i64 (mH d i k)/\Below w.heap.size w wr) (fun _ j _=>i-(intOf j).toNat)
 case atStart=>exact⟨0,x6 _,rfl,rfl,x1 _ _⟩
 case round =>
  obtain⟨k,T,rfl,rfl,a⟩:=hrel;have S:=aC a D H;have V:=xW D a.size;have X:=xW n a.size;by_cases hlt:k<i
  ·have M:(k:Int)<(i:Int):=by omega
   have r:k<d.length:=by omega
   have F:(k:Int)<(d.length:Int):=by omega
   have O:wr.cell? ⟨q,k,none⟩=some (.int .i64 (d.getD k (-1))):=by rw[eT d k r];exact (a.cell (p:=⟨q,k,none⟩) n).trans (z.out.cell k r)
   have N:=s.out wr a;have A:=zAa (kHa d i k);have J:=zOI d i k;generalize d.getD k (-1)=x at *;generalize d.getD i (-1)=y at *;generalize K:mH d i k=C at *
   cases hz:(x==y)
   ·have f:Hid (mH d i (k+1)=C):=by unfold Hid;rw[A.out,hz];simp
    go_wp2;go_quiet (fail)
    all_goals
     go_wp2;go_roundw
     case rel=>exact⟨k+1,by omega,by go_num,by rw[f.out],a.trans (dZ _ _ _)⟩
     case measure=>simp[intOf];omega
   ·have f:Hid (mH d i (k+1)=C+1):=by unfold Hid;rw[A.out,hz];simp
    go_wp2;go_quiet (fail)
    all_goals
     go_wp2;go_roundw
     case rel=>exact⟨k+1,by omega,by go_num,by rw[f.out],a.trans (dZ _ _ _)⟩
     case measure=>simp[intOf];omega
  ·have u:k=i:=by omega
   subst u;go_wp2;go_ret;rw[G.out];exact⟨rfl,a⟩
namespace Q
theorem kIC (a:List Int) (i k:Nat) (p:List Int):(jJ a i p k).length=p.length:=by unfold jJ;split<;>simp
theorem kHL (p:List Int) (i:Nat) (x:Int) (h:i<p.length):(p.set i x).getD i 0=x:=by simp[List.getD,h]
def Bd (p:List Int) (m:Int):Prop:=∀ x∈p, -1000000001<=x/\x<=m
theorem Bd.set (h:Bd p m) (i:Nat) (x:Int) (c:-1000000001<=x) (d:x<=m):Bd (p.set i x) m:=fun y a=>by
 rcases List.mem_or_eq_of_mem_set a with a | rfl
 ·exact h y a
 ·exact⟨c,d⟩
theorem Bd.mono {k:Int} (h:Bd p m) (c:m<=k):Bd p k:=fun y a=>⟨(h y a).1,by have:=(h y a).2;omega⟩
theorem Bd.get (h:Bd p m) (i:Nat) (a:i<p.length):-1000000001<=p.getD i 0/\p.getD i 0<=m:=by rw[eT p i a];exact h _ (x7 a)
end Q
theorem zAt.dA (h:zAt w g l) (i:Nat) (a:i<l.length):w.cell? ⟨g,i,none⟩=some (.int .i64 (l.getD i 0)):=by rw[eT l i a];exact h.cell i a
theorem zEZ (g M gb gd:Nat) (a bs ds:List Int) (rest:List (List Int)) (w:World) (h:OrdOn w g M gb gd a bs ds rest) (hd:kAy bs ds) (hb:∀ b∈bs,b<1000000000) (hn:a.length<=64) :
  Calls prog 49 #[.pointer (some ⟨g,0,none⟩)] w fun e w'=>∃ gp,e=.returned (.slice (some ⟨gp,0,none⟩) a.length a.length)/\zAt w' gp (zMm a ds)/\w.heap.size<=gp/\Below w.heap.size w w':=by
 have ay:∀ w,(xc 68 (.int .i64 (a.length:Int)) (.int .i64 (a.length:Int))).run prog w=.ok (.slice (some ⟨w.heap.size,0,none⟩) a.length a.length) (w.alloc (.cells (madeCells #[.int .i64 0] a.length) 3)) :=
  fun w=>run_make_row' 68 3 (.int .i64 0) 8 underlying68 Tryz.infoInt rfl .i64 .i64 a.length (by omega) (by omega) w
 obtain⟨bg,U⟩:=h.ctr.ctr;have ap:ds.length=a.length:=by rw[U.len,h.len]
 have c0:=h.r0;have c2:=U.c1;have n:=U.lt;have K:=zAa h.rows;have ai:=zAa U.digits;have C:=h.rows.lt;have ad:=U.digits.lt;have ah:Hid (∀ i,i<a.length->0<=ds.getD i 0/\ds.getD i 0<1000000000):=fun i hi=>by
  have h1:=hd.uA i (by omega);have h3:i<bs.length:=by rw[h.len];exact hi
  have h4:bs.getD i 0<1000000000:=by rw[eT bs i h3];exact hb _ (x7 h3)
  rw[eT ds i (by omega)];omega
 have al:Hid (zMm a ds=(xF a.length).foldl (fN a ds) (x2 a.length 0)):=rfl;have aj:Hid (zAt (w.alloc (.cells (madeCells #[.int .i64 0] a.length) 3)) w.heap.size (x2 a.length 0)):=by
  unfold Hid zAt;rw[<- rE];exact heap_alloc_new w _
 have ag:Hid (Below w.heap.size w (w.alloc (.cells (madeCells #[.int .i64 0] a.length) 3))):=(x1 _ _).alloc (xR _) _;rw[ap] at c2;simp only[Nat.reduceAdd] at c2;clear h U hb hd;go_enter func49,ntmps49;go_wp2;go_loopw [18] (fun j wr=>∃ (k:Nat) (p:List Int),k<=a.length/\j=.int .i64 k/\Hid (p=(xF k).foldl (fN a ds) (x2 a.length 0))/\Hid (zAt wr w.heap.size p)/\Hid (p.length=a.length)/\Hid (Bd p (64+k*64))/\Hid (Below w.heap.size w wr)) (fun j _=>a.length-(intOf j).toNat)
 case atStart=>exact⟨0,_,x6 _,rfl,rfl,aj,by simp[Hid],by intro x hx;rw[List.eq_of_mem_replicate hx];omega,ag⟩
 case round =>
  obtain⟨k,p,hk,rfl,HP,X,HL,I,E⟩:=hrel;have r:=E.out;have d0:=aC r n c0;have lg:=xW n r.size;have lr:=xW C r.size;clear r;by_cases hlt:k<a.length
  ·have ax:(k:Int)<(a.length:Int):=by omega
   have ck:wr.cell? ⟨M,k,none⟩=some (.int .i64 (a.getD k (-1))):=by rw[eT a k hlt];exact (E.out.cell (p:=⟨M,k,none⟩) C).trans (K.out.cell k hlt)
   have lp:=X.out.lt;have cp:=X.out.dA k (by rw[HL.out];exact hlt);have fp:=X.out.free k;have J:=zAa (X.out.set k (-1));have c:Hid (Below w.heap.size w (wr.setCell ⟨w.heap.size,k,none⟩ (.int .i64 (-1)))):=E.out.setCell (p:=⟨w.heap.size,k,none⟩) (xR _) _;have ab:Hid ((xF (k+1)).foldl (fN a ds) (x2 a.length 0)=fN a ds p k):=by unfold Hid;rw[fI,<- HP.out]
   have aa:Hid (fN a ds p k=if a.getD k (-1) == -1 then p.set k (-1) else (xF k).foldl (jJ a k) (p.set k (iL a k-ds.getD k 0))):=rfl;have H:w.heap.size<(wr.setCell ⟨w.heap.size,k,none⟩ (.int .i64 (-1))).heap.size:=by simpa using lp
   generalize ae:a.getD k (-1)=row at *;generalize az:p.getD k 0=aF at *;go_upto_region 6 with fail
   generalize hW:wr.setCell ⟨w.heap.size,k,none⟩ (.int .i64 (-1))=T at *
   cases hz:(row == -1)
   rotate_left
   ·have HN:Hid (p.set k (-1)=(xF (k+1)).foldl (fN a ds) (x2 a.length 0)):=by unfold Hid;rw[ab.out,aa.out,hz];rfl
    go_wp2;go_roundw
    case rel=>exact⟨k+1,_,by omega,by go_num,HN,J,by simp[Hid];exact HL.out,(I.out.set k (-1) (by omega) (by omega)).mono (by omega),c⟩
    case measure=>simp[intOf];omega
   ·have HN:Hid ((xF (k+1)).foldl (fN a ds) (x2 a.length 0)=(xF k).foldl (jJ a k) (p.set k (iL a k-ds.getD k 0))):=by unfold Hid;rw[ab.out,aa.out,hz];rfl
    have e0:=aC c.out n c0;have e2:=aC c.out n c2;have ed:T.cell? ⟨gd,k,none⟩=some (.int .i64 (ds.getD k 0)):=(c.out.cell (p:=⟨gd,k,none⟩) ad).trans (ai.out.dA k (by omega));have S:=xW n c.out.size;have af:=xW ad c.out.size;have aw:=ah.out k hlt;have am:=zOI a k k;have ao:mH a k k=iL a k:=rfl;rw[ao] at am;have Y:=zAa (K.out.aA (c.out.block M C));generalize ds.getD k 0=A at *;generalize an:iL a k=D at *;have W:=zAa (Bd.set I.out k (D-A) (by omega) (by omega));clear I;have aE:IntKind.i64.wrap (D-A)=D-A:=IntWalk.i64_in _ ⟨by omega,by omega⟩;go_upto_region 7 with fail
    go_region_held3 (fun w'=>w'.cell? ⟨g,2,none⟩=some (.slice (some ⟨gd,0,none⟩) a.length a.length)/\w'.cell? ⟨gd,k,none⟩=some (.int .i64 A)) (first | exact⟨e2,ed⟩ | exact⟨p2,pd⟩ | exact⟨(bI (by omega)).trans p2,(bI (by omega)).trans pd⟩) (first
     | (go_at_call 85;refine (zJx g M k a T.drew e0 (Y.out.aA rfl) S hlt (by omega)).mono ?_;rintro e w2 ⟨rfl,N⟩;rw[an];have V:Hid (Below T.heap.size T w2):=(by first | exact ((x1 T.heap.size T).drew).trans (N.mono (by simp)) | exact N);have p2:=aC V.out S e2;have pd:=aC V.out af ed;have I2:=zAa (J.out.aA (V.out.block w.heap.size H));have ip:=I2.out.dA k (by rw[List.length_set,HL.out];exact hlt);have au:=I2.out.free k;have av:=I2.out.lt))
    have I3:=zAa (I2.out.set k (D-A));rw[List.set_set] at I3;have B3:Hid (Below w.heap.size w (w2.setCell ⟨w.heap.size,k,none⟩ (.int .i64 (D-A)))):=(aK c.out (xR _) V.out).setCell (p:=⟨w.heap.size,k,none⟩) (xR _) _;go_wp2;go_loopw [6] (fun j wq=>∃ (q:Nat) (u:List Int),q<=k/\j=.int .i64 q/\Hid (u=(xF q).foldl (jJ a k) (p.set k (D-A)))/\Hid (zAt wq w.heap.size u)/\Hid (u.length=a.length)/\Hid (Bd u (64+k*64+q))/\Hid (Below w.heap.size w wq)) (fun j _=>k-(intOf j).toNat)
    case atStart=>exact⟨0,_,x6 _,rfl,rfl,I3,by simp[Hid];exact HL.out,W.out.mono (by omega),B3⟩
    case round =>
     clear I3 B3 I2 V p2 pd ip au av N e0 e2 ed S af Y J c H hW lp cp fp ck d0 lg lr;obtain⟨q,u,hq,rfl,HU,G,f,s,d⟩:=hrel;have d0:=aC d.out n c0;have lg:=xW n d.out.size;have lr:=xW C d.out.size;by_cases hql:q<k
     ·have aB:(q:Int)<(k:Int):=by omega
      have aD:(q:Int)<(a.length:Int):=by omega
      have F:q<a.length:=by omega
      have cq:wr.cell? ⟨M,q,none⟩=some (.int .i64 (a.getD q (-1))):=by rw[eT a q F];exact (d.out.cell (p:=⟨M,q,none⟩) C).trans (K.out.cell q F)
      have lp:=G.out.lt;have uq:=G.out.dA q (by rw[f.out];exact F);have uk:=G.out.dA k (by rw[f.out];exact hlt);have fq:=G.out.free q;have bq:=s.out.get q (by rw[f.out];exact F);have L:Hid ((xF (q+1)).foldl (jJ a k) (p.set k (D-A))=if a.getD q (-1)==row&&decide (u.getD k 0<=u.getD q 0) then u.set q (u.getD q 0+1) else u):=by
       unfold Hid;rw[fI,<- HU.out,<- ae];rfl
      have Z:=zAa (G.out.set q (u.getD q 0+1));have ac:=zAa (Bd.set (s.out.mono (k:=64+k*64+(q+1:Nat)) (by omega)) q (u.getD q 0+1) (by omega) (by omega));generalize a.getD q (-1)=x at *;generalize u.getD q 0=y at *;generalize u.getD k 0=z at *
      cases hx:(x==row)
      ·have v:Hid (u=(xF (q+1)).foldl (jJ a k) (p.set k (D-A))):=by unfold Hid;rw[L.out,hx];rfl
       go_wp2;go_quiet (fail)
       all_goals
        go_wp2;go_roundw
        case rel=>exact⟨q+1,u,by omega,by go_num,v,G.out.aA rfl,f,s.out.mono (by omega),d.out.trans (dZ _ _ _)⟩
        case measure=>simp[intOf];omega
      by_cases hy:z<=y
      ·have O:decide (z<=y)=true:=decide_eq_true hy;have v:Hid (u.set q (y+1)=(xF (q+1)).foldl (jJ a k) (p.set k (D-A))):=by unfold Hid;rw[L.out,hx,O];rfl
       go_wp2;go_quiet (fail)
       all_goals
        go_wp2;go_roundw
        case rel=>exact⟨q+1,_,by omega,by go_num,v,by first | exact Z.out | exact Z.out.aA rfl,by simp[Hid];exact f.out,ac,(d.out.trans (dZ _ _ _)).setCell (p:=⟨w.heap.size,q,none⟩) (xR _) _⟩
        case measure=>simp[intOf];omega
      ·have O:decide (z<=y)=false:=decide_eq_false hy;have v:Hid (u=(xF (q+1)).foldl (jJ a k) (p.set k (D-A))):=by unfold Hid;rw[L.out,hx,O];rfl
       go_wp2;go_quiet (fail)
       all_goals
        go_wp2;go_roundw
        case rel=>exact⟨q+1,u,by omega,by go_num,v,G.out.aA rfl,f,s.out.mono (by omega),d.out.trans (dZ _ _ _)⟩
        case measure=>simp[intOf];omega
     ·have ar:q=k:=by omega
      have ak:Hid (u=(xF (k+1)).foldl (fN a ds) (x2 a.length 0)):=by unfold Hid;rw[HN.out,HU.out,ar]
      go_wp2;go_roundw
      case rel=>exact⟨k+1,u,by omega,by go_num,ak,G,f,s.out.mono (by omega),d⟩
      case measure=>simp[intOf];omega
  ·have aq:k=a.length:=by omega
   have HE:Hid (p=zMm a ds):=by unfold Hid;rw[al.out,HP.out,aq]
   go_wp2;go_ret;exact⟨w.heap.size,rfl,by rw[<- HE.out];exact X.out,xR _,E.out⟩
structure WdIn (w:World) (ev rg:Value) (wd:Wd):Prop where
 evs:zAV w ev wd.Ea
 regs:zCj w rg wd.regs
theorem WdIn.below {ev c:Value} {d:Wd} (h:WdIn w ev c d) (a:Below w.heap.size w w'):WdIn w' ev c d:=⟨h.evs.below a,h.regs.below a⟩
theorem zKr (ev rg x:Value) (es:List Ev) (v:Int) (f:List Int) (w:World) (I:zAV w ev es) (N:∃ a n c,rg=.slice a n c) (Z:zCj w x f) (hl:f.length=es.length) (hn:es.length<=64) :
  Calls prog 93 #[.agg #[ev,rg],.int .i64 v,x] w fun e w'=>e=.returned (.int .i64 (jA es v f))/\Below w.heap.size w w':=by
 obtain⟨U,V,rfl,J⟩:=I.form;obtain⟨pa,pc,rfl,M⟩:=Z.form;obtain⟨ra,rn,rc,rfl⟩:=N;have X:f.length<=es.length:=by omega
 have Y:es.length<=f.length:=by omega
 have F:Hid (jA es v f=((xF es.length).foldl (kR v f es) (0, -1)).1):=rfl;obtain⟨k0,O,A⟩:=jE w #[.slice U es.length V,.slice ra rn rc] 70;have E:=zAa I;have y:=zAa A;clear A I Z hl;go_enter func93,ntmps93;go_upto_region 1 with fail
 generalize hE:w.alloc (.cells #[.slice U es.length V,.slice ra rn rc] 70)=z at *;have aa:=aD k0 0 _ rfl;have l0:w.heap.size<z.heap.size:=by omega
 clear hE k0 O;go_wp2;go_loopw [7,8,14] (fun a b j wr=>∃ (k:Nat) (p:Int × Int),k<=es.length/\j=.int .i64 k/\a=.int .i64 p.1/\b=.int .i64 p.2/\Hid (p=(xF k).foldl (kR v f es) (0, -1))/\Hid (Below z.heap.size z wr)) (fun _ _ j _=>es.length-(intOf j).toNat)
 case atStart=>exact⟨0,(0, -1),x6 _,rfl,rfl,rfl,rfl,x1 _ _⟩
 case round =>
  obtain⟨k,⟨x,u⟩,hk,rfl,rfl,rfl,T,HB⟩:=hrel;by_cases hlt:k<es.length
  ·have ab:(k:Int)<(es.length:Int):=by omega
   have W:(k:Int)<(f.length:Int):=by omega
   obtain⟨r,rfl,G⟩:=J (by omega);obtain⟨C,rfl,K,H⟩:=M (by omega);have q:Hid (wr.rangeAt r (k*10) (aI (Q.ev es k)).toList):=fY (E.out.cM rfl k hlt) ((HB.out.block r (by omega)).trans (y.out.block r G));have ac:r<wr.heap.size:=by have:=HB.out.size;omega
   have cp:wr.cell? ⟨C,k,none⟩=some (.int .i64 (f.getD k 0)):=by rw[eT f k (by omega)];exact (HB.out.cell (p:=⟨C,k,none⟩) (by simp;omega)).trans ((y.out.cell (p:=⟨C,k,none⟩) K).trans (H k (by omega)))
   have ad:C<wr.heap.size:=by have:=HB.out.size;omega
   have d:Hid ((xF (k+1)).foldl (kR v f es) (0, -1)=if (Q.ev es k).kind==1&&(Q.ev es k).var==v&&decide (u<f.getD k 0) then ((Q.ev es k).value,f.getD k 0) else (x,u)):=by
    unfold Hid;rw[fI,<- T.out];rfl
   generalize Q.ev es k=s at *;generalize f.getD k 0=D at *;have i:Hid (Below z.heap.size z (wr.alloc (.cells (aI s) 146))):=HB.out.alloc HB.out.size _
   cases z1:(s.kind==1)
   ·rw[z1] at d;go_wp2_with (first | (refine cQ (.tmp 17) rfl rfl r (k*10) s rfl q.out ?_));go_roundw
    case rel=>exact⟨k+1,(x,u),by omega,by go_num,rfl,rfl,d.out.symm,i⟩
    case measure=>simp[intOf];omega
   cases z2:(s.var==v)
   ·rw[z1,z2] at d;go_wp2_with (first | (refine cQ (.tmp 17) rfl rfl r (k*10) s rfl q.out ?_));go_roundw
    case rel=>exact⟨k+1,(x,u),by omega,by go_num,rfl,rfl,d.out.symm,i⟩
    case measure=>simp[intOf];omega
   by_cases hz3:u<D
   ·have S:decide (u<D)=true:=decide_eq_true hz3;rw[z1,z2,S] at d;go_wp2_with (first | (refine cQ (.tmp 17) rfl rfl r (k*10) s rfl q.out ?_));go_roundw
    case rel=>exact⟨k+1,(s.value,D),by omega,by go_num,rfl,rfl,d.out.symm,i⟩
    case measure=>simp[intOf];omega
   ·have S:decide (u<D)=false:=decide_eq_false hz3;rw[z1,z2,S] at d;go_wp2_with (first | (refine cQ (.tmp 17) rfl rfl r (k*10) s rfl q.out ?_));go_roundw
    case rel=>exact⟨k+1,(x,u),by omega,by go_num,rfl,rfl,d.out.symm,i⟩
    case measure=>simp[intOf];omega
  ·have HE:Hid (jA es v f=x):=by
    have L:k=es.length:=by omega
    unfold Hid;rw[F.out,<- L,<- T.out]
   go_wp2;go_ret;rw[HE.out];exact⟨rfl,aK y.out (xR _) HB.out⟩
theorem zAt.own (h:zAt w g l) (B:Nat) (a:B<=g) (c:l.length<1000000):w.ownsRow B 3 1 (.slice (some ⟨g,0,none⟩) l.length l.length) l.length (l.map (x4 .i64)):=by
 refine⟨by simp,x3 ⟨g,l.length,lL l,rfl,a,h,xR _,by unfold maxLen;omega,by simp[lL],by simp only[lL,Nat.mul_one];exact List.take_of_length_le (by simp)⟩⟩
theorem vS {n:Nat} {v:Value} (h:w.ownsRow B 3 1 v n (l.map (x4 .i64))) (r:n=l.length):zCj w v l:=by
 subst r
 rcases h.2 with ⟨e,j⟩ | ⟨k,c,f,e,_,_,a,_⟩
 ·exact Or.inl ⟨e,List.eq_nil_of_length_eq_zero j⟩
 ·refine x3 ⟨k,c,e,fun i q=>?_,(h.lt k (by rw[e];rfl)).2,a⟩;have d:=h;rw[e] at d;rw[d.cellAt i (by omega)];simp[q]
theorem Tryz.infoIntM:(prog.info? 3).map (fun i=>(i.zero,i.size,i.bytes))=some (some (.int .i64 0),1,8):=by kernel_rfl
namespace Q
def mA (w:Wd) (ps:List Int) (k:Nat):List Int:=w.regs++(xF k).map fun v:Nat=>jA w.Ea (v:Int) ps
theorem kIr (w:Wd) (a:List Int) (k:Nat):mA w a (k+1)=mA w a k++[jA w.Ea (k:Int) a]:=by
 unfold mA;rw[xd,xe,List.append_assoc];rfl
theorem zOA (w:Wd) (a:List Int):mA w a 3=gK w a:=rfl
theorem kJx (w:Wd) (a:List Int) (k:Nat):(mA w a k).length=w.regs.length+k:=by simp[mA]
end Q
theorem zGK (ev rg pv:Value) (d:Wd) (n:List Int) (w:World) (h:WdIn w ev rg d) (T:zCj w pv n) (hl:n.length=d.Ea.length) (hn:d.Ea.length<=64) (hr:d.regs.length<1000) :
  Calls prog 56 #[.agg #[ev,rg],pv] w fun e w'=>∃ v,e=.returned v/\zCj w' v (gK d n)/\(∀ k,v.ownBlock=some k->w.heap.size<=k)/\Below w.heap.size w w':=by
 obtain⟨i0,hi,Y,Z,aa⟩:=info_parts Tryz.infoIntM;obtain⟨ea,ec,N,_⟩:=h.evs.form;obtain⟨ra,rc,V,_⟩:=h.regs.form;obtain⟨pa,pc,U,_⟩:=T.form;obtain⟨k0,W,q⟩:=jE w #[ev,rg] 70;have HW:=zAa (h.below q);have HP:=zAa (T.below q);have H:=zAa q;have HL:=zAa hl;clear q h T hl;subst N V U;go_enter func56,ntmps56;go_upto_region 1 with fail
 generalize hE:w.alloc (.cells #[.slice ea d.Ea.length ec,.slice ra d.regs.length rc] 70)=f at *;have c0:=aD k0 0 _ rfl;have c1:=aD k0 1 _ rfl;have l0:w.heap.size<f.heap.size:=by omega
 clear hE k0 W;go_wp2_with (first | (go_at_call 92;refine (yX _ d.regs _ HW.out.regs (by omega)).mono ?_;rintro e w1 ⟨g1,rfl,F,r,E⟩;have C:=zAa (F.own f.heap.size r (by omega));have B1:=zAa E;clear F E r));go_loopw [5,6] (fun a j wr=>∃ (k:Nat) (v:Value),k<=3/\j=.int .i64 k/\a=v/\Hid (wr.ownsRow f.heap.size 3 1 v (d.regs.length+k) ((mA d n k).map (x4 .i64)))/\Hid (Below f.heap.size f wr)) (fun _ j _=>3-(intOf j).toNat)
 case atStart=>exact⟨0,_,by omega,rfl,rfl,by simpa [Hid,mA] using C.out,B1⟩
 case round =>
  clear C B1;obtain⟨k,v,hk,rfl,s,A,HB⟩:=hrel;have s:=s.symm;subst s;by_cases hlt:k<3
  ·have ad:(k:Int)<3:=by omega
   have d0:=aC HB.out l0 c0;have d1:=aC HB.out l0 c1;have lw:=xW l0 HB.out.size;have M:=zAa (HW.out.below HB.out);have L:=zAa (HP.out.below HB.out);have HS:=zAa (kIr d n k);generalize S:jA d.Ea (k:Int) n=G at *;go_wp2_with (first
    | (go_at_call 93;refine (zKr _ _ _ d.Ea (k:Int) n _ M.out.evs ⟨_,_,_,rfl⟩ L.out HL.out hn).mono ?_;rintro e z ⟨rfl,x⟩;rw[S];have B2:Hid (Below f.heap.size f z):=aK HB.out (xR _) x;have D:Hid ((z.alloc (.cells #[.int .i64 G] 3)).ownsRow f.heap.size 3 1 v (d.regs.length+k) ((mA d n k).map (x4 .i64))):=(aX A.out (fun y e=>(x8 _ _ _ (by have:=(A.out.lt y e).2;have:=x.size;omega)).trans (x.block y (A.out.lt y e).2)));have J:Hid (∀ j u,[x4 .i64 G][j]?=some u->(z.alloc (.cells #[.int .i64 G] 3)).cell? ((⟨z.heap.size,0,none⟩:Addr).add j)=some u):=World.news_of_block (cs:=#[.int .i64 G]) (t:=3) (fr:=(0,0)) (heap_alloc_new z _);have X:f.heap.size<=z.heap.size:=B2.out.size)
    | (at_builtin;refine wpList_append_lies _ rfl (.tmp 14) (.tmp 19) 68 rfl f.heap.size 3 i0 (.int .i64 0) 1 8 underlying68 hi Y Z aa rfl (by decide) _ (d.regs.length+k) ((mA d n k).map (x4 .i64)) rfl (by exact D.out) ⟨z.heap.size,0,none⟩ 1 1 [.int .i64 G] rfl rfl (by exact J.out) (by simp[Value.oneCell']) (by decide) (by unfold maxLen;omega) (by omega) (by simp;omega) _ rfl ?_;intro gn cn w5 i c ab ac))
   have I:Hid (Below f.heap.size f w5):=(B2.out.alloc X _).trans ⟨c.os,c.tape,c.output,c.size,fun y hy=>c.block y (by simp;omega) (fun e=>by have:=(D.out.lt y e.symm).1;omega)⟩;have K:Hid (w5.ownsRow f.heap.size 3 1 (.slice (some ⟨gn,0,none⟩) (d.regs.length+k+1) cn) (d.regs.length+(k+1)) ((mA d n (k+1)).map (x4 .i64))):=by
    unfold Hid;rw[HS.out,xe];exact i
   clear i c;go_roundw
   case rel=>exact⟨k+1,_,by omega,by go_num,rfl,K,I⟩
   case measure=>simp[intOf];omega
  ·have O:k=3:=by omega
   go_wp2;go_ret;refine⟨_,rfl,?_,fun y e=>by have:=(A.out.lt y e).1;omega,aK H.out (xR _) HB.out⟩;have h1:=A.out;rw[O,zOA] at h1;exact vS h1 (by rw[<- zOA,kJx])
end Go.Proofs.YtonodfjdiepglaaGreatDoor
