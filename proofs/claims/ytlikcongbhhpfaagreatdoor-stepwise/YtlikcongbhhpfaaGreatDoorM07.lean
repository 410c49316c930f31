import Derived.Test.YtlikcongbhhpfaaGreatDoorM04
import Derived.Test.YtlikcongbhhpfaaGreatDoorM06
set_option linter.unusedVariables false
set_option linter.unusedSimpArgs false
set_option maxHeartbeats 12800000
namespace Go.Proofs.YtlikcongbhhpfaaGreatDoor
open Go Go.RowKit Go.Proofs.Tryz P Q
set_option maxRecDepth 1000000
variable {w w':World}{B B' b g k n:Nat}{r:Rd}{ov tv v:Value}{vs:List Value}{rows:List ByteArray}{last s:ByteArray}{a:Act}
open List renaming length->T
open _root_.Array renaming size->A
open Go.World renaming heap->W
open Go.Value renaming slice->Y,int->G
open Option renaming none->C,some->L
open Go.IntKind renaming i64->E
open Go.Ending renaming returned->U
open Go.Obj renaming cells->M
open Bool renaming false->D
open _root_.ByteArray renaming toList->xF
open Nat renaming le_refl->xR
open Go.RowKit.Below renaming refl->xW,heap_setCell->x6
open List renaming map_cons->x0,take_succ_eq_append_getElem->x2,map_append->x3,dropLast_concat->x4,length_map->x7,getElem?_append_left->x8,length_cons->x9
open Go.World renaming ownsRow_nil->x1
open Go.Result renaming andThen_ok->x5
theorem UE(b off n t:Nat)(c:ByteArray)(r:List ByteArray)(w:World)(x:bM w b off (c::r))(F:T r=n-1)(H:1<=n)(z:n<=t)(J:b<A (W w)):
  Calls prog 100 #[Y (L ⟨b,off,C⟩) n t] w fun e w'=>e=U (gB (cI ((c::r).map xF)))/\Below (A (W w)) w w':=by
 obtain⟨N,_,_⟩:=x.head;have m:(c::r).length=n:=by simp;omega
 have K:((n:Int)==1)=(r.map xF).isEmpty:=by
  cases r with
  |nil=>simp at F;simp;omega
  |cons a q=>simp at F;simp;omega
 have O:((n:Int)==0)=D:=by simp;omega
 cases h1:c.toList==[115,116,111,114,101]
 rotate_left
 ·have i:JP (cI (c.toList::r.map xF)=P.store (c.toList::r.map xF)):=by
   unfold JP;simp[cI,h1]
  go_enter func100,ntmps100;go_wp2_with(first
   |(go_at_call 147;refine(Ij _ _ _ _ (c::r) _ (by exact x.alloc _) m z (by simp;omega)).mono ?_;rintro e I ⟨l,j⟩;rw[gB]at l;subst l;have o:=(KH.bA w JR.zero).X j)
   |(refine eU (.tmp 2) (.tmp 15) Z Z (A (W w)) _ _ Z Z (by exact o) ?_;intro y f d))
  try simp only[x0]
  rw[bD i];refine eP (p:=2) (u:=3) (A (W w)) _ _ (by kernel_rfl) Z Z f Z ⟨Z,?_⟩;exact dX (((xW _ _).alloc (xR _) _).trans (j.mono (by simp))) d (xR _)
 cases h2:c.toList==[102,101,110,99,101]
 rotate_left
 ·have i:JP (cI (c.toList::r.map xF)=fence (c.toList::r.map xF)):=by
   unfold JP;simp[cI,h1,h2]
  go_enter func100,ntmps100;go_wp2_with(first
   |(go_at_call 148;refine(Ii _ _ _ _ c r _ (by exact x.alloc _) F H z).mono ?_;rintro e I ⟨l,j⟩;rw[gB]at l;subst l;have o:=(KH.bA w JR.zero).X j)
   |(refine eU (.tmp 2) (.tmp 21) Z Z (A (W w)) _ _ Z Z (by exact o) ?_;intro y f d))
  try simp only[x0]
  rw[bD i];refine eP (p:=2) (u:=3) (A (W w)) _ _ (by kernel_rfl) Z Z f Z ⟨Z,?_⟩;exact dX (((xW _ _).alloc (xR _) _).trans (j.mono (by simp))) d (xR _)
 cases h3:c.toList==[98,97,114,114,105,101,114]
 rotate_left
 ·have i:JP (cI (c.toList::r.map xF)=({JR.zero with k:=5},(r.map xF).isEmpty)):=by
   unfold JP;simp[cI,h1,h2,h3]
  go_enter func100,ntmps100;go_wp2_with(first
   |(refine eU (.tmp 2) (.tmp 25) Z Z (A (W w)) _ {JR.zero with k:=5} Z Z (by exact KH.bA w JR.zero) ?_;intro y f d))
  try simp only[x0]
  rw[bD i];refine eP (p:=2) (u:=3) (A (W w)) {JR.zero with k:=5} _ (by kernel_rfl) Z (by simp) f Z ⟨Z,?_⟩;exact dX ((xW _ _).alloc (xR _) _) d (xR _)
 cases h4:c.toList==[105,102]
 rotate_left
 ·have i:JP (cI (c.toList::r.map xF)=kN (c.toList::r.map xF)):=by
   unfold JP;simp[cI,h1,h2,h3,h4]
  go_enter func100,ntmps100;go_wp2_with(first
   |(go_at_call 149;refine(Ih _ _ _ _ (c::r) _ (by exact x.alloc _) m).mono ?_;rintro e I ⟨l,j⟩;rw[gB]at l;subst l;have o:=(KH.bA w JR.zero).X j)
   |(refine eU (.tmp 2) (.tmp 33) Z Z (A (W w)) _ _ Z Z (by exact o) ?_;intro y f d))
  try simp only[x0]
  rw[bD i];refine eP (p:=2) (u:=3) (A (W w)) _ _ (by kernel_rfl) Z Z f Z ⟨Z,?_⟩;exact dX (((xW _ _).alloc (xR _) _).trans (j.mono (by simp))) d (xR _)
 cases h5:c.toList==[101,110,100]
 rotate_left
 ·have i:JP (cI (c.toList::r.map xF)=({JR.zero with k:=11},(r.map xF).isEmpty)):=by
   unfold JP;simp[cI,h1,h2,h3,h4,h5]
  go_enter func100,ntmps100;go_wp2_with(first
   |(refine eU (.tmp 2) (.tmp 37) Z Z (A (W w)) _ {JR.zero with k:=11} Z Z (by exact KH.bA w JR.zero) ?_;intro y f d))
  try simp only[x0]
  rw[bD i];refine eP (p:=2) (u:=3) (A (W w)) {JR.zero with k:=11} _ (by kernel_rfl) Z (by simp) f Z ⟨Z,?_⟩;exact dX ((xW _ _).alloc (xR _) _) d (xR _)
 have i:JP (cI (c.toList::r.map xF)=eG (c.toList::r.map xF)):=by
  unfold JP;simp[cI,h1,h2,h3,h4,h5]
 go_enter func100,ntmps100;go_wp2_with(first
  |(go_at_call 150;refine(Ip _ _ _ _ (c::r) _ (by exact x.alloc _) m z (by simp;omega)).mono ?_;rintro e I ⟨l,j⟩;rw[gB]at l;subst l;have o:=(KH.bA w JR.zero).X j)
  |(refine eU (.tmp 2) (.tmp 43) Z Z (A (W w)) _ _ Z Z (by exact o) ?_;intro y f d))
 simp only[x0];rw[bD i];refine eP (p:=2) (u:=3) (A (W w)) _ _ (by kernel_rfl) Z Z f Z ⟨Z,?_⟩;exact dX (((xW _ _).alloc (xR _) _).trans (j.mono (by simp))) d (xR _)
theorem Ja(r:Rd)(c:List UInt8)(d:List (List UInt8))(h:(c==[116,104,114,101,97,100])=true):MD r (c::d)=eW r (c::d):=by
 have:c=[116,104,114,101,97,100]:=by simpa using h
 simp[MD,this]
theorem MW.gZ(h:MW w B g r tv ov vs):∃l m i j,tv=Y l (T r.H) m/\ov=Y i (T r.O) j:=by
 have q:∃a c,ov=Y a (T r.O) c:=by
  rcases h.O.2 with⟨e,f⟩|⟨k,c,d,e,_⟩
  ·exact⟨C,0,by rw[e,f]⟩
  ·exact⟨_,c,e⟩
 have t:∃a c,tv=Y a (T r.H) c:=by
  rcases h.H.2 with⟨e,f⟩|⟨k,c,d,e,_⟩
  ·exact⟨C,0,by rw[e,f]⟩
  ·exact⟨_,c,e⟩
 obtain⟨i,j,o⟩:=q;obtain⟨l,m,p⟩:=t;exact⟨l,m,i,j,p,o⟩
theorem cN.oN(h:cN w B g r)(x:Int):cN (w.setCell ⟨g,2,C⟩ (G E x)) B g {r with count:=x}:=by
 obtain⟨tv,ov,vs,h⟩:=h;exact⟨tv,ov,vs,h.qS {r with count:=x} ov 2 (G E x) Z h.O Z⟩
theorem cN.pK(h:cN w B g r)(x:Int):cN w B g {r with i:=x}:=by
 obtain⟨tv,ov,vs,h⟩:=h;exact⟨tv,ov,vs,⟨h.cells,h.H,h.O,h.S⟩⟩
theorem cN.alloc(h:cN w B g r)(o:Obj):cN (w.alloc o) B g r:=h.X ((xW _ _).alloc (xR _) _)
theorem cN.drew(h:cN w B g r):cN w.drew B g r:=h.X (xW _ _).drew
theorem Jb(B g:Nat)(r:Rd)(l:JR)(w:World)(h:cN w B g r)(i:B<=A (W w))(u:2<=T r.O):
  Calls prog 152 #[.pointer (L ⟨g,0,C⟩),.agg (aC l)] w fun e w'=>e=U (.bool D)/\cN w' B g r/\Eg B g w w':=by
 have f:=JO h;obtain⟨tv,ov,vs,h⟩:=h;obtain⟨z,H,x,y,rfl,rfl⟩:=h.gZ;obtain⟨d,c,g0,m,p,q,t⟩:=h.F;have j:(2:Int)<=(T r.O:Int):=by omega
 go_enter func152,ntmps152;go_wp2;go_ret;exact⟨Z,f.o.alloc _,(Eg.refl _ _ _).alloc i _⟩
theorem Jc(r:Rd)(c:JR)(h:r.H=[]):cZ r c=(r,D):=by simp[cZ,h]
theorem Jd(r:Rd)(c:JR)(h:r.H≠[])(d:(c.k==11)=true):cZ r c=ends r c:=by simp[cZ,h,show c.k=11 by simpa using d]
theorem Je(r:Rd)(c:JR)(h:r.H≠[])(e:(c.k==11)=D)(d:r.most<=r.count):cZ r c=(r,D):=by
 simp[cZ,h,show ¬c.k=11 by simpa using e,d]
theorem Jf(r:Rd)(c:JR)(h:r.H≠[])(e:¬r.most<=r.count)(d:(c.k==10)=true)(f:2<=T r.O):cZ r c=({r with count:=r.count+1},D):=by
 simp[cZ,h,show c.k=10 by simpa using d,e,f]
theorem Jg(r:Rd)(c:JR)(h:r.H≠[])(e:¬r.most<=r.count)(d:(c.k==10)=true)(f:¬2<=T r.O):cZ r c=gI {r with count:=r.count+1} c:=by
 simp[cZ,h,show c.k=10 by simpa using d,e,f]
theorem Jh(r:Rd)(c:JR)(h:r.H≠[])(f:(c.k==11)=D)(e:¬r.most<=r.count)(d:(c.k==10)=D):cZ r c=(put {r with count:=r.count+1} c,true):=by
 simp[cZ,h,show ¬c.k=11 by simpa using f,show ¬c.k=10 by simpa using d,e]
theorem xG(B g N:Nat)(r:Rd)(c:JR)(w:World)(h:cN w B g r)(t:uA N r)(u:N<10000)(S:B<=A (W w))(J:T r.O<10)(y:0<=r.I)(z:r.I<10000)(aa:0<=r.count)(ab:r.count<10000):
  Calls prog 101 #[.pointer (L ⟨g,0,C⟩),.agg (aC c)] w fun e w'=>e=U (.bool (cZ r c).2)/\cN w' B g (cZ r c).1/\Eg B g w w':=by
 have q:=JO (h.alloc (M (aC c) 104));have m:=JO (((h.oN (r.count+1)).alloc (M (aC c) 104)).drew);obtain⟨tv,ov,vs,h⟩:=h;obtain⟨ta,tc,oa,oc,rfl,rfl⟩:=h.gZ;obtain⟨X,V,g0,g1,g2,g3,g4⟩:=h.F;have x:=JO (KH.bA w c);have p:Eg B g w (w.alloc (M (aC c) 104)):=(Eg.refl _ _ _).alloc S _;by_cases hne:r.H=[]
 ·have i:=JO (Jc r c hne);have hz:((T r.H:Int)==0)=true:=by simp[hne]
  simp only[aC];go_enter func101,ntmps101;go_wp2;go_ret;rw[bD i];exact⟨Z,q.o,p⟩
 have hz:((T r.H:Int)==0)=D:=by simpa using hne
 cases hk:c.k==11
 rotate_left
 ·have i:=JO (Jd r c hne hk);simp only[aC];go_enter func101,ntmps101;go_wp2_with(first
   |(refine eV (.tmp 3) Z Z (A (W w)) c Z (by exact x.o) ?_)
   |(go_at_call 151;refine(I4 B g N r c _ (by exact q.o) hne t u (by simp;omega) J).mono ?_;rintro e K ⟨rfl,f,d⟩))
  go_ret;rw[bD i];exact⟨Z,f,p.trans d⟩
 by_cases h8:r.most<=r.count
 ·have i:=JO (Je r c hne hk h8);simp only[aC];go_enter func101,ntmps101;go_wp2;go_region
  all_goals go_wp2
  go_ret;rw[bD i];exact⟨Z,q.o.drew,p.drew⟩
 have l:JP (KH ((w.setCell ⟨g,2,C⟩ (G E (r.count+1))).alloc (M (aC c) 104)).drew (A (W w)) c):=by
  unfold JP;have:=(KH.bA (w.setCell ⟨g,2,C⟩ (G E (r.count+1))) c).drew;simpa using this
 have j:Eg B g w ((w.setCell ⟨g,2,C⟩ (G E (r.count+1))).alloc (M (aC c) 104)).drew:=(((Eg.refl _ _ _).setCell _).alloc (by simp;exact S) _).drew
 cases hbk:c.k==10
 ·have i:=JO (Jh r c hne hk h8 hbk);simp only[aC];go_enter func101,ntmps101;go_wp2;go_region
  all_goals
   go_wp2_with(first
    |(refine eV (.tmp 3) Z Z (A (W w)) c Z (by exact l.o) ?_)
    |(go_at_call 153;refine(IC B g N {r with count:=r.count+1} c _ (by exact m.o) hne t u (by simp;omega)).mono ?_;rintro e K ⟨rfl,f,d⟩))
   go_ret;rw[bD i];exact⟨Z,f,j.trans (Eg.of d)⟩
 by_cases ho:2<=T r.O
 ·have i:=JO (Jf r c hne h8 hbk ho);simp only[aC];go_enter func101,ntmps101;go_wp2;go_region
  all_goals
   go_wp2_with(first
    |(refine eV (.tmp 3) Z Z (A (W w)) c Z (by exact l.o) ?_)
    |(go_at_call 152;refine(Jb B g {r with count:=r.count+1} c _ (by exact m.o) (by simp;omega) ho).mono ?_;rintro e K ⟨rfl,f,d⟩))
   go_ret;rw[bD i];exact⟨Z,f,j.trans d⟩
 ·have i:=JO (Jg r c hne h8 hbk ho);simp only[aC];go_enter func101,ntmps101;go_wp2;go_region
  all_goals
   go_wp2_with(first
    |(refine eV (.tmp 3) Z Z (A (W w)) c Z (by exact l.o) ?_)
    |(go_at_call 152;refine(I7 B g N {r with count:=r.count+1} c _ (by exact m.o) hne t u (by simp;omega) (by simp;omega) y z).mono ?_;rintro e K ⟨rfl,f,d⟩))
   go_ret;rw[bD i];exact⟨Z,f,j.trans d⟩
theorem Ji(B g N b off n q:Nat)(r:Rd)(c:ByteArray)(d:List ByteArray)(w:World)(h:cN w B g r)(y:bM w b off (c::d))(hn:T d=n-1)(u:1<=n)(aa:n<10000)(hc:n<=q)(j:b<A (W w))(V:r.most=8)(hF:uA N r)(hN:N<10000)(F:B<=A (W w))(x:T r.O<10)(K:0<=r.I)(S:r.I<10000)(H:0<=r.count)(J:r.count<10000):
  Calls prog 53 #[.pointer (L ⟨g,0,C⟩),Y (L ⟨b,off,C⟩) n q,G E r.i] w fun e w'=>e=U (.bool (MD r (c.toList::d.map xF)).2)/\cN w' B g (MD r (c.toList::d.map xF)).1/\Eg B g w w':=by
 have z:=JO h;obtain⟨hd,_,_⟩:=y.head;have ab:0<n:=by omega
 cases ht:c.toList==[116,104,114,101,97,100]
 rotate_left
 ·have p:=JO (Ja r c.toList (d.map xF) ht);go_enter func53,ntmps53;go_wp2_with(first|(go_at_call 99;refine(I9 B g _ _ _ _ r (c::d) _ z.o y (by simp;omega) aa F (by have:=hF.1;omega) x).mono ?_;rintro e w1 ⟨rfl,m,l⟩));go_ret;rw[bD p];exact⟨Z,m,l⟩
 have HD:=JO (CQ r c.toList (d.map xF) ht V)
 cases hs:(cI (c.toList::d.map xF)).2
 ·have p:JP (MD r (c.toList::d.map xF)=(r,D)):=by unfold JP;rw[HD.o,hs];rfl
  go_enter func53,ntmps53;go_wp2_with(first|(go_at_call 100;refine(UE _ _ _ _ c d _ y hn u hc j).mono ?_;rintro e w1 ⟨t,f⟩;simp only[gB,aC,x0]at t;subst t));go_ret;rw[bD p];exact⟨Z,(z.o.X f).alloc _,Eg.of ((f.mono F).alloc (by have:=f.size;omega) _)⟩
 ·have p:JP (MD r (c.toList::d.map xF)=cZ r {(cI (c.toList::d.map xF)).1 with i:=r.i}):=by unfold JP;rw[HD.o,hs];rfl
  go_enter func53,ntmps53;go_wp2_with(first|(go_at_call 100;refine(UE _ _ _ _ c d _ y hn u hc j).mono ?_;rintro e w1 ⟨t,f⟩;simp only[gB,aC,x0]at t;subst t)|(go_at_call 101;refine(xG B g N r {(cI (c.toList::d.map xF)).1 with i:=r.i} _ (by exact(z.o.X f).alloc (M (aC {(cI (c.toList::d.map xF)).1 with i:=r.i}) 104)) hF hN (by have:=f.size;simp;omega) x K S H J).mono ?_;rintro e w2 ⟨rfl,m,l⟩));go_ret;rw[bD p];exact⟨Z,m,(Eg.of ((f.mono F).alloc (by have:=f.size;omega) _)).trans l⟩
def bK(w:World)(B:Nat)(tv:Value)(ts:List JV):Prop:=∃vs,w.ownsRow B 96 3 tv (T ts) (OA ts vs)/\NU w B ts vs
theorem bK.keep{i:List JV}(h:bK w B tv i)(f:∀k,k<A (W w)->w'.heap[k]?=w.heap[k]?):bK w' B tv i:=by
 obtain⟨vs,c,d⟩:=h;exact⟨vs,aU c fun k e=>f k (c.lt k e).2,d.keep fun v l k e=>by obtain⟨n,m,j⟩:=d.mem v l;exact f k (j.lt k e).2⟩
theorem bK.nil(w:World)(B:Nat):bK w B (Y C 0 0) []:=⟨[],x1 _ _ _ _,trivial⟩
theorem P.Jj(c:UInt8)(l:List UInt8):∀x∈KD c l,T x<=T l:=by
 induction l with
 |nil=>intro x d;simp[KD]at d;simp[d]
 |cons y r ih =>
  intro x d;by_cases hy:y=c
  ·subst hy;rw[qA]at d
   rcases List.mem_cons.1 d with rfl|d
   ·simp
   ·have:=ih x d;simp;omega
  ·cases hs:KD c r with
   |nil=>exact absurd hs (lJ _ _)
   |cons a b =>
    rw[mP c y r hy a b hs]at d
    rcases List.mem_cons.1 d with rfl|d
    ·have:=ih a (by rw[hs];simp);simp;omega
    ·have:=ih x (by rw[hs];simp[d]);simp;omega
theorem P.Jk(r:Rd)(c:List (List UInt8))(d:0<=r.count):(MD r c).1.count<=r.count+1:=by
 unfold MD
 split
 ·unfold eW
  split
  ·(simp<;>omega)
  ·split
   ·split
    ·(simp<;>omega)
    ·(simp<;>omega)
   ·(simp<;>omega)
 ·split
  ·(simp<;>omega)
  ·simp only[]
   split
   ·split
    ·unfold ends
     split
     ·(simp<;>omega)
     ·(simp[put]<;>omega)
    ·split
     ·(simp<;>omega)
     ·split
      ·split
       ·(simp<;>omega)
       ·unfold gI
        split
        ·(simp<;>omega)
        ·(simp[put]<;>omega)
      ·(simp[put]<;>omega)
   ·(simp<;>omega)
structure LoopAt(rows:List ByteArray)(k:Nat)(r:Rd):Prop where
 run:LZ Rd.zero ((rows.take k).map xF)=(r,true)
 good:P.Good k r
 lin:r.i=k
 most:r.most=8
 cn:r.count<=k
theorem xY(rows:List ByteArray)(k:Nat)(c:k<T rows):(rows.take (k+1)).map xF=(rows.take k).map xF++[rows[k].toList]:=by
 rw[x2 c,x3,x0,List.map_nil]
theorem Jl(rows:List ByteArray):LoopAt rows 0 Rd.zero:=⟨by simp[LZ],BE,Z,Z,by simp[Rd.zero]⟩
theorem Jm(h:LoopAt rows k r)(d:k<T rows)(e:(MD {r with i:=r.i+1} (KD 32 rows[k].toList)).2=true):
  LoopAt rows (k+1) (MD {r with i:=r.i+1} (KD 32 rows[k].toList)).1:=by
 have c:=tC {r with i:=r.i+1} (KD 32 rows[k].toList) h.most;refine⟨?_,TA _ h.good (by have:=h.lin;omega),?_,c.2,?_⟩
 ·rw[xY rows k d,SZ _ _ _ _ h.run,<- e]
 ·rw[c.1];have:=h.lin;simp;omega
 ·have:=Jk {r with i:=r.i+1} (KD 32 rows[k].toList) h.good.JU;have f:=h.cn;simp at this⊢;omega
theorem Jn(f:rows.map xF++[last.toList]=KD 10 s.toList)(h:LoopAt rows k r)(l:k<T rows)(e:(MD {r with i:=r.i+1} (KD 32 rows[k].toList)).2=D):
  aT s.toList=([],(k:Int)+1):=by
 have d:=tC {r with i:=r.i+1} (KD 32 rows[k].toList) h.most;have c:LZ Rd.zero ((rows.take (k+1)).map xF)=MD {r with i:=r.i+1} (KD 32 rows[k].toList):=by
  rw[xY rows k l,SZ _ _ _ _ h.run]
 have j:(KD 10 s.toList).dropLast=(rows.take (k+1)).map xF++(rows.drop (k+1)).map xF:=by
  rw[<- f,x4,<- x3,List.take_append_drop]
 have:=Hm _ Rd.zero ((rows.drop (k+1)).map xF) (by rw[c];exact e);unfold aT;simp only[j,this,c,e];simp only[Bool.false_eq_true,if_false];rw[d.1,h.lin]
theorem Jo(e:rows.map xF++[last.toList]=KD 10 s.toList)(h:LoopAt rows (T rows) r):
  aT s.toList=if last.toList.isEmpty=D\/T r.H=0\/0<T r.O then([],(T rows:Int)+1)else(r.H,0):=by
 have c:=h.run;rw[List.take_length]at c;have d:last.toList=[]↔last.toList.isEmpty=true:=by rw[List.isEmpty_iff]
 unfold aT;simp only[<- e,x4,c,List.getLast?_concat,if_true,h.lin]
 congr 1
 simp only[ne_eq,Option.some.injEq,d,eq_iff_iff];simp[List.length_pos_iff,or_comm]
theorem pB{e:Func}{R:Ending->World->Prop}{p u:Tmp}(g:Nat)(tv d:Value)(c:e.results=#[.cell p 52,.tmp u])(j:a.tmps.getD p undef=.pointer (L ⟨g,0,C⟩))(l:a.tmps.getD u undef=d)(h:w.heap[g]?=L (M #[tv] 52 (0,0)))(i:a.defers=[])(f:R (U (.tuple #[.agg #[tv],d])) w):bodyPost prog e R .ret a w:=by
 refine bodyPost_ret (v:=.tuple #[.agg #[tv],d]) ?_ i f;rw[results_cell_tmp c,j,l];have:(asAddr (.pointer (L ⟨g,0,C⟩))).run prog w=.ok ⟨g,0,C⟩ w:=Z;rw[this,x5,rQ w g _ _ _ h _ underlying52 rfl (by kernel_rfl),x5]
theorem PG{e:TypeId}{f:Nat}{i:List Value}(h:w.ownsRow B e f v n i)(m:B'<=B):w.ownsRow B' e f v n i:=by
 refine⟨h.1,?_⟩
 rcases h.2 with l|⟨g,c,d,rfl,j,rest⟩
 ·exact .inl l
 ·exact .inr ⟨g,c,d,Z,by omega,rest⟩
theorem NU.base{w:World}{B B':Nat}(c:B'<=B):∀{d:List JV} {vs:List Value},NU w B d vs->NU w B' d vs
 |[],[],_=>trivial
 |_::_,_::_,h=>⟨PG h.1 c,h.2.1,NU.base c h.2.2⟩
theorem UF{p:Nat}(h:MW w B g r tv ov vs)(d:Below (A (W w)) w w')(i:p<B)(u:Value):bK (w'.setCell ⟨p,0,C⟩ u) p tv r.H:=by
 refine⟨vs,PG (aU h.H fun k c=>?_) (by omega),(h.S.keep fun v f k c=>?_).base (by omega)⟩
 ·have:=h.H.lt k c;rw[x6 _ _ _ _ (by simp;omega),d.block k this.2]
 ·obtain⟨n,j,e⟩:=h.S.mem v f;have:=e.lt k c;rw[x6 _ _ _ _ (by simp;omega),d.block k this.2]
theorem Jp(s:ByteArray)(w:World)(q:s.size<=8192):
  Calls prog 52 #[.string s,.string ⟨#[32]⟩] w fun e w'=>∃g d n c rs,e=U (JQ g n d)/\JP (c.toList::rs.map xF=KD 32 s.toList)/\bM w' g 0 (c::rs)/\T rs=n-1/\1<=n/\n<10000/\n<=d/\g<A (W w')/\Below (A (W w)) w w':=by
 refine(SU 32 s w q).mono ?_;rintro e w' ⟨g,d,t,rfl,f,i,o⟩;obtain⟨j,l,m⟩:=FP i;have p:=wM 32 s.toList;rw[<- f,x7,MS]at p
 cases t with
 |nil=>exact absurd f.symm (lJ _ _)
 |cons c rs=>exact⟨g,d,_,c,rs,Z,by simpa[JP]using f,j,by simp,by simp,by omega,l,m,o⟩
theorem dG{t:TypeId}(h:w.heap[g]?=L (M #[v] t (0,0))):w.cell? ⟨g,0,C⟩=L v/\w.frozen? ⟨g,0,C⟩=D/\g<A (W w):=by
 refine⟨?_,?_,(Array.getElem?_eq_some_iff.1 h).1⟩<;>simp[World.cell?,World.frozen?,h]
theorem UG(s:ByteArray)(m k:Nat):(s.extract m k).size<=s.size:=by
 simp[ByteArray.size_extract];omega
theorem UH(s:ByteArray)(w:World)(X:s.size<=8192):
  Calls prog 51 #[.string s] w fun e w'=>∃g c,∃(rows:List ByteArray) (last:ByteArray),e=U (.tuple #[JQ g (T rows) c,.bool last.toList.isEmpty])/\JP (rows.map xF++[last.toList]=KD 10 s.toList)/\bM w' g 0 rows/\T rows<=8192/\T rows<=c/\g<A (W w')/\A (W w)<=g/\(∀x∈rows,x.size<=8192)/\Below (A (W w)) w w':=by
 go_enter func51,ntmps51;go_wp2_with fail;refine(SU 10 s _ X).mono ?_;rintro e F ⟨g,c,H,rfl,d,f,O⟩;obtain⟨y,K,N⟩:=FP f;have J:A (W w)<=g:=(f.lt g Z).1;have z:=wM 10 s.toList;rw[<- d,x7,MS]at z;have p:H≠[]:=by intro e;rw[e]at d;exact lJ _ _ d.symm
 obtain⟨rows,last,rfl⟩:=rX H p;have u:JP (rows.map xF++[last.toList]=KD 10 s.toList):=by unfold JP;rw[<- d];simp
 have q:bM F g 0 rows:=fun i x l=>y i x (by rw[x8 (List.getElem?_eq_some_iff.1 l).1];exact l)
 have S:F.cell? ⟨g,T rows,C⟩=L (.string last):=by
  have:=y (T rows) last (by simp);simpa using this
 have t:∀x∈rows,x.size<=8192:=fun x l=>by
  have:=Jj 10 s.toList x.toList (by rw[<- u.o];simp;left;exact⟨x,l,Z⟩);rw[MS,MS]at this;omega
 have I:=JO t;have m:=JO q;simp only[List.length_append,x9,List.length_nil,Nat.zero_add]at z K;have V:¬(T rows:Int)<0:=by omega
 have j:(rows++[last]).length=T rows+1:=by simp
 simp only[j];go_wp2;go_region
 all_goals go_wp2
 go_ret2;refine⟨g,c,rows,last,?_,u,?_,by omega,by omega,N,J,I.o,O.drew⟩
 ·first|rfl|simp
 ·exact m.o.drew
theorem Jq(B:Nat)(w:World):cN (w.alloc (M #[Y C 0 0,G E 8,G E 0,G E 0,Y C 0 0] 114)) B (A (W w)) Rd.zero:=by
 refine⟨Y C 0 0,Y C 0 0,[],?_,x1 _ _ _ _,x1 _ _ _ _,trivial⟩;have:=heap_alloc_new w (M #[Y C 0 0,G E 8,G E 0,G E 0,Y C 0 0] 114);simpa[Rd.zero]using this
theorem UI(m:Int)(w:World):
  Calls prog 50 #[G E m] w fun e w'=>e=U (.agg #[Y C 0 0,G E m,G E 0,G E 0,Y C 0 0])/\Below (A (W w)) w w':=by
 go_enter func50,ntmps50;go_wp2;refine bodyPost_ret (v:=.agg #[Y C 0 0,G E m,G E 0,G E 0,Y C 0 0]) ?_ Z ⟨Z,(xW _ _).alloc (xR _) _⟩;simp[results,Tryz.results50,go_sem]
theorem yU(B g:Nat)(r:Rd)(w:World)(h:cN w B g r)(m:T r.H<6)(l:T r.O<10):
  Calls prog 54 #[.pointer (L ⟨g,0,C⟩)] w fun e w'=>e=U (.bool (decide (0<T r.H)&&decide (T r.O=0)))/\w'=w:=by
 obtain⟨tv,ov,vs,h⟩:=h;obtain⟨y,z,u,x,rfl,rfl⟩:=h.gZ;obtain⟨j,i,g0,o,p,q,t⟩:=h.F;by_cases h1:0<T r.H
 ·have c:(0:Int)<(T r.H:Int):=by omega
  cases h2:(T r.O:Int)==0
  all_goals
   have f:=h2;simp at f;go_enter func54,ntmps54;go_wp2;go_ret;refine⟨?_,Z⟩;simp[h1,f]
 ·have c:¬(0:Int)<(T r.H:Int):=by omega
  have d:decide (0<T r.H)=D:=decide_eq_false h1;go_enter func54,ntmps54;go_wp2;go_ret;refine⟨?_,Z⟩;simp[d]
theorem UJ(B g:Nat)(r:Rd)(tv ov:Value)(vs:List Value)(w:World)(h:MW w B g r tv ov vs):
  Calls prog 55 #[.pointer (L ⟨g,0,C⟩)] w fun e w'=>e=U (.agg #[tv])/\Below (A (W w)) w w':=by
 obtain⟨f,i,p,q,rfl,rfl⟩:=h.gZ;obtain⟨d,c,g0,j,l,m,o⟩:=h.F;clear h;go_enter func55,ntmps55;go_wp2;refine bodyPost_ret (v:=.agg #[Y f (T r.H) i]) ?_ Z ⟨Z,(xW _ _).alloc (xR _) _⟩;simp[results,Tryz.results55,go_sem]
theorem vT(s:ByteArray)(w:World)(hs:s.size<=8192):
  Calls prog 30 #[.string s] w fun e w'=>∃tv,e=U (.tuple #[.agg #[tv],G E (aT s.toList).2])/\bK w' (A (W w)) tv (aT s.toList).1/\Below (A (W w)) w w':=by
 go_enter func30,ntmps30;go_wp2_with fail;refine(UI 8 _).mono ?_;rintro e w0 ⟨rfl,N⟩;have aU:A (W w)+1<=A (W w0):=by have:=N.size;simpa using this
 have y:w0.heap[A (W w)]?=L (M #[Y C 0 0] 52 (0,0)):=by
  rw[N.block _ (by simp)];exact heap_alloc_new w _
 obtain⟨z0,z1,z2⟩:=dG y;have an:=JO y;have F:JP (Below (A (W w)) w w0):=((xW _ _).alloc (xR _) _).trans (N.mono (by simp));go_wp2_with fail;refine(UH s _ hs).mono ?_;rintro e z ⟨gl,cl,rows,last,rfl,HW,aP,ba,aZ,aF,ai,aQ,t⟩;have aE:=JO ((Jq (A (W z)) w0).X t);have V:z.heap[A (W w)]?=L (M #[Y C 0 0] 52 (0,0)):=by
  rw[t.block _ (by simp;omega),Below.heap_alloc _ _ _ (by omega)];exact an.o
 have ao:=JO V;have I:JP (Below (A (W w)) w z):=(F.o.alloc (by omega) _).trans (t.mono (by simp;omega));have aV:A (W w0)+1<=A (W z):=by have:=t.size;simpa using this
 have aw:=JO aP;have ax:=JO aQ;go_wp2;go_loopw[19] (fun i wr=>∃k:Nat,∃r:Rd,k<=T rows/\i=G E k/\JP (LoopAt rows k r)/\JP (cN wr (A (W z)) (A (W w0)) r)/\JP (bM wr gl 0 rows)/\
   JP (wr.heap[A (W w)]?=L (M #[Y C 0 0] 52 (0,0)))/\A (W z)<=A (W wr)/\Below (A (W w)) w wr) fun i _=>T rows-(intOf i).toNat
 case atStart=>exact⟨0,Rd.zero,Nat.zero_le _,Z,Jl _,aE,aw,ao,xR _,I.o⟩
 case round =>
  obtain⟨k,r,hk,rfl,K,HR,ag,HB,bc,f⟩:=hrel;have d:=K.o.good;have aj:=K.o.lin;have aI:=K.o.most;have aW:=K.o.cn;by_cases hlt:k<T rows
  ·have aO:rows[k]?=L rows[k]:=List.getElem?_eq_getElem hlt;have aD:=ag.o k rows[k] aO;simp only[Nat.zero_add]at aD;have aS:=ax.o rows[k] (List.getElem_mem hlt);have aX:(k:Int)<(T rows:Int):=by omega
   have ay:=JO fun h=>Jm K.o hlt h;have aq:=JO fun h=>Jn HW.o K.o hlt h;generalize rows[k]=row at*;have HM:=JO aI;have ae:=JO aj
   cases ht:(MD {r with i:=r.i+1} (KD 32 row.toList)).2
   all_goals
    go_wp2_with fail;refine(Jp _ _ aS).mono ?_;rintro e w2 ⟨gw,cw,n,c,rs,rfl,aB,aR,hn,aJ,aK,ah,aG,l⟩;have aN:=JO ((HR.o.X l).pK ((k:Int)+1));have aC:A (W z)<=A (W w2):=by have:=l.size;omega
    have az:=JO (ag.o.X l);have aa:JP (w2.heap[A (W w)]?=L (M #[Y C 0 0] 52 (0,0))):=(l.block _ (by omega)).trans HB.o;have J:JP (Below (A (W w)) w w2):=f.trans (l.mono (by omega));go_wp2_with fail;refine(Ji (A (W z)) (A (W w0)) k gw 0 n cw {r with i:=(k:Int)+1} c rs _ aN.o aR hn aJ aK ah aG HM.o ⟨d.few,d.stm⟩ (by omega) aC (by have:=d.O;simp;omega) d.ifs0 (by have:=d.ifs1;simp;omega) d.JU (by simp;omega)).mono ?_;rintro e w3 ⟨he,ab,x⟩;rw[aB.o]at he ab;have eL:({r with i:=(k:Int)+1}:Rd)={r with i:=r.i+1}:=by rw[ae.o]
    rw[eL]at he ab;rw[ht]at he;subst he;have m:w3.heap[A (W w)]?=L (M #[Y C 0 0] 52 (0,0)):=(x.block _ (by omega) (by omega)).trans aa.o;obtain⟨z0,z1,z2⟩:=dG m;have ad:=JO m;have j:JP (Below (A (W w)) w w3):=J.o.trans (x.X (by omega) (by omega));have aA:JP (bM w3 gl 0 rows):=az.o.jZ fun _=>x.block gl aF (by simp at ai;omega);have bb:=x.size;have av:=JO ab;go_wp2
   ·rw[aq.o ht];refine pB (p:=2) (u:=3) (A (W w)) (Y C 0 0) _ (by kernel_rfl) Z Z (by exact bC ad.o 0 _) Z ⟨_,Z,bK.nil _ _,?_⟩;exact(j.o).setCell (xR _) _
   ·go_roundw
    case rel=>exact⟨k+1,_,by omega,by go_num,ay.o ht,av,aA,ad,by omega,j.o⟩
    case measure=>simp[intOf];omega
  ·have aH:k=T rows:=by omega
   subst aH;have HE:=JO (Jo HW.o K.o);have am:T r.H<6:=by have:=d.few;omega
   have ak:T r.O<10:=by have:=d.O;omega
   obtain⟨z0,z1,z2⟩:=dG HB.o;have aY:¬(T rows:Int)<(T rows:Int):=by omega
   cases he:last.toList.isEmpty
   ·go_wp2;rw[bD HE,if_pos (Or.inl he)];refine pB (p:=2) (u:=3) (A (W w)) (Y C 0 0) _ (by kernel_rfl) Z Z (by exact bC HB.o 0 _) Z ⟨_,Z,bK.nil _ _,?_⟩;exact f.setCell (xR _) _
   cases hw:decide (0<T r.H)&&decide (T r.O=0)
   ·have aM:last.toList.isEmpty=D\/T r.H=0\/0<T r.O:=by
     have ac:=hw;rw[Bool.and_eq_false_iff,decide_eq_false_iff_not,decide_eq_false_iff_not]at ac;omega
    have au:=JO aM;go_wp2_with(first|(go_at_call 54;refine(yU _ _ r _ HR.o am ak).mono ?_;rintro e w' ⟨rfl,rfl⟩;rw[hw]));rw[bD HE,if_pos au.o];refine pB (p:=2) (u:=3) (A (W w)) (Y C 0 0) _ (by kernel_rfl) Z Z (by exact bC HB.o 0 _) Z ⟨_,Z,bK.nil _ _,?_⟩;exact f.setCell (xR _) _
   ·have aL:¬(last.toList.isEmpty=D\/T r.H=0\/0<T r.O):=by
     have ac:=hw;rw[Bool.and_eq_true,decide_eq_true_eq,decide_eq_true_eq]at ac;rintro(h|h|h)
     ·rw[he]at h;cases h
     ·omega
     ·omega
    have ar:=JO aL;obtain⟨tv,ov,vs,al⟩:=HR.o;obtain⟨ta,tc,oa,oc,rfl,rfl⟩:=al.gZ;have af:=JO al;go_wp2_with(first|(go_at_call 54;refine(yU _ _ r _ HR.o am ak).mono ?_;rintro e w' ⟨rfl,rfl⟩;rw[hw])|(go_at_call 55;refine(UJ _ _ r _ _ vs _ af.o).mono ?_;rintro e w4 ⟨rfl,S⟩;have q:=(S.block _ (by omega)).trans HB.o;obtain⟨y0,y1,y2⟩:=dG q;have ap:=JO q));rw[bD HE,if_neg ar.o];refine pB (p:=2) (u:=3) (A (W w)) _ _ (by kernel_rfl) Z Z (by exact bC ap.o 0 _) Z ⟨_,Z,UF af.o S (by omega) _,(f.trans (S.mono (by omega))).setCell (xR _) _⟩
namespace P
def LF:List JR->Int
 |[]=>0
 |s::r=>(if s.k==5 then 1 else 0)+LF r
theorem sL(a b:List JR):LF (a++b)=LF a+LF b:=by
 induction a with
 |nil=>simp[LF]
 |cons s r ih=>simp[LF,ih];omega
theorem Jr(l:List JR):0<=LF l/\LF l<=T l:=by
 induction l with
 |nil=>simp[LF]
 |cons s r ih=>simp only[LF,x9];split<;>omega
theorem Js(l:List JR)(k:Nat)(h:k<T l):LF (l.take (k+1))=LF (l.take k)+if l[k].k==5 then 1 else 0:=by
 rw[x2 h,sL];simp[LF]
end P
theorem Jt(l:List JR):∀(k:Nat) (h:k<T l) (i:Nat),i<11->(MG l)[k*11+i]?=(aC l[k]).toList[i]?:=by
 induction l with
 |nil=>intro k h;simp at h
 |cons a r ih =>
  intro k h i c;have e:MG (a::r)=(aC a).toList++MG r:=by simp[MG]
  have d:(aC a).toList.length=11:=Z;rw[e]
  cases k with
  |zero =>
   rw[x8 (by omega)];simp
  |succ k =>
   rw[List.getElem?_append_right (by omega),d,show(k+1)*11+i-11=k*11+i by omega,ih k (by simpa using h) i c];simp
theorem kJ{c:Nat}{l:List JR}(h:w.ownsRow B 104 11 (JQ b n c) n (MG l))(i:n=T l)(k:Nat)(f:k<T l):w.rangeAt b (k*11) (aC l[k]).toList:=by
 intro j v d;have e:j<11:=(List.getElem?_eq_some_iff.1 d).1;rw[h.cellAt _ (by omega),Jt l k f j e];exact d
theorem eH{o:Nat}{c:List Value}(h:w.rangeAt b o c)(e:w'.heap[b]?=w.heap[b]?):w'.rangeAt b o c:=fun j v d=>by
 rw[World.cell?_of_block (w:=w) (a:=⟨b,o+j,C⟩) e];exact h j v d
theorem dC{e:Array Oper}{rest:List Oper}{d:Oper}{Q:Exit->Act->World->Prop}(x:Operand)(f:d.guard=C)(j:d.op=.load 104 x)(b o:Nat)(c:JR)(m:a.eval x=.pointer (L ⟨b,o,C⟩))(l:w.rangeAt b o (aC c).toList)(h:wpList prog e Q rest (a.put d.dst (.agg #[G E c.k,G E c.i,G E c.dest,G E c.z,.bool c.a.KI,G E c.a.n,.bool c.b.KI,G E c.b.n,G E c.q,G E c.scope,G E c.label])) w):wpList prog e Q (d::rest) a w :=
 wpList_load_mid f _ x j b o m (aC c).toList _ l underlying104 Z (by kernel_rfl) h
theorem xI(B n:Nat)(K ln:Int)(F:Value)(l:List JR)(w:World)(f:w.ownsRow B 104 11 F n (MG l))(H:n=T l)(X:n<10000):
  Calls prog 56 #[.agg #[G E K,G E ln,F]] w fun e w'=>e=U (G E (LF l))/\Below (A (W w)) w w':=by
 have y:∃a c,F=Y a n c/\(0<n->∃b,a=L ⟨b,0,C⟩/\b<A (W w)):=by
  rcases f.2 with⟨e,O⟩|⟨k,c,N,e,_⟩
  ·exact⟨C,0,by rw[e,O],fun h=>by omega⟩
  ·exact⟨_,c,e,fun _=>⟨k,Z,(f.lt k (by rw[e];rfl)).2⟩⟩
 obtain⟨sa,sc,rfl,x⟩:=y;have I:=JO f;have q:=JO H;clear f H;go_enter func56,ntmps56;go_wp2;go_loopw[3,9] (fun c i wr=>∃k:Nat,k<=n/\i=G E k/\c=G E (LF (l.take k))/\Below (A (W w)) w wr) fun _ i _=>n-(intOf i).toNat
 case atStart=>exact⟨0,Nat.zero_le _,Z,by simp[LF],(xW _ _).alloc (xR _) _⟩
 case round =>
  obtain⟨k,hk,rfl,rfl,d⟩:=hrel;have S:=Jr (l.take k);have V:(l.take k).length<=k:=List.length_take_le _ _;by_cases hlt:k<n
  ·obtain⟨b,rfl,m⟩:=x (by omega);have p:k<T l:=by rw[<- q.o];exact hlt
   have u:=JO (eH (kJ I.o q.o k p) (d.block b m));have j:=JO (Js l k p);generalize aa:l[k]=z at u j
   cases h5:z.k==5
   ·go_wp2_with(first|(refine dC (.tmp 11) Z Z b (k*11) z Z u.o ?_));go_roundw
    case rel=>exact⟨k+1,by omega,by go_num,by rw[j.o,h5];simp,d.alloc (by have:=d.size;omega) _⟩
    case measure=>simp[intOf];omega
   ·go_wp2_with(first|(refine dC (.tmp 11) Z Z b (k*11) z Z u.o ?_));go_roundw
    case rel=>exact⟨k+1,by omega,by go_num,by rw[j.o,h5];simp,d.alloc (by have:=d.size;omega) _⟩
    case measure=>simp[intOf];omega
  ·have t:k=n:=by omega
   subst t;have J:JP (l.take k=l):=List.take_of_length_le (by have:=q.o;omega);go_wp2;go_ret;rw[J.o];exact⟨Z,d⟩
end Go.Proofs.YtlikcongbhhpfaaGreatDoor
