import Derived.Test.YtehclbpoabdpoaaGreatDoorO06
import Derived.Test.YtehclbpoabdpoaaGreatDoorO02
set_option linter.all false
set_option maxHeartbeats 0
namespace Go.Proofs.YtehclbpoabdpoaaGreatDoor
open Go Go.RowKit Go.Proofs.Tryz P Q
set_option maxRecDepth 1000000
variable {w w':World}{B B' b cap g k n:Nat}{r:Rd}{ov tv v:Value}{vs:List Value}{ts:List NB}{s:ByteArray}{fn:Func}{a:Act}{p u:Tmp}
open List renaming length->K
open _root_.Array renaming size->J
open Go.World renaming heap->V
open Option renaming none->Y,some->L
open Go.Value renaming int->C,slice->E,agg->T,string->A
open Go.IntKind renaming i64->G
open Go.Ending renaming returned->U
open Go.Obj renaming cells->M
open Bool renaming false->D
open _root_.ByteArray renaming toList->x2
open Nat renaming le_refl->x3,zero_le->x5
open Go.RowKit.Below renaming refl->x4,heap_alloc->x6,heap_setCell->xa
open List renaming getElem_mem->x7,take_succ_eq_append_getElem->x8,length_cons->xb,drop_eq_nil_of_le->xc,map_cons->xd,length_take_le->xg,map_append->xh,dropLast_concat->xi,take_length->xj,length_map->xk,getElem?_append_left->xl,take_of_length_le->xm
open Go.Result renaming andThen_ok->x9
open Go.World renaming ownsRow_nil->xe
def Im(r:Rd)(c:List UInt8)(d:List (List UInt8))(h:(c==[116,104,114,101,97,100])=true):cW r (c::d)=P.eG r (c::d):=by
 have:c=[116,104,114,101,97,100]:=by simpa using h
 simp[cW,this]
def OZ.lH(h:OZ w B g r tv ov vs):∃l m i j,tv=E l (K r.H) m/\ov=E i (K r.O) j:=by
 have o:∃a c,ov=E a (K r.O) c:=by
  rcases h.O.2 with⟨e,f⟩|⟨k,c,d,e,_⟩
  ·exact⟨Y,0,by rw[e,f]⟩
  ·exact⟨_,c,e⟩
 have q:∃a c,tv=E a (K r.H) c:=by
  rcases h.H.2 with⟨e,f⟩|⟨k,c,d,e,_⟩
  ·exact⟨Y,0,by rw[e,f]⟩
  ·exact⟨_,c,e⟩
 obtain⟨i,j,e1⟩:=o;obtain⟨l,m,e2⟩:=q;exact⟨l,m,i,j,e2,e1⟩
def dU.rR(h:dU w B g r)(x:Int):dU (w.setCell ⟨g,2,Y⟩ (C G x)) B g {r with count:=x}:=by
 obtain⟨tv,ov,vs,h⟩:=h;exact⟨tv,ov,vs,h.tT {r with count:=x} ov 2 (C G x) Z h.O Z⟩
def dU.yR(h:dU w B g r)(x:Int):dU w B g {r with i:=x}:=by
 obtain⟨tv,ov,vs,h⟩:=h;exact⟨tv,ov,vs,⟨h.cells,h.H,h.O,h.S⟩⟩
def dU.alloc(h:dU w B g r)(o:Obj):dU (w.alloc o) B g r:=h.X ((x4 _ _).alloc (x3 _) _)
def dU.drew(h:dU w B g r):dU w.drew B g r:=h.X (x4 _ _).drew
def Ip(B g:Nat)(r:Rd)(l:MV)(w:World)(h:dU w B g r)(i:B<=J (V w))(z:2<=K r.O):
  Calls prog 128 #[.pointer (L ⟨g,0,Y⟩),T (aV l)] w fun e w'=>e=U (.bool D)/\dU w' B g r/\Ee B g w w':=by
 have f:=MS h;obtain⟨tv,ov,vs,h⟩:=h;obtain⟨N,S,H,I,rfl,rfl⟩:=h.lH;obtain⟨d,c,m,q,t,x,y⟩:=h.F;have j:(2:Int)<=(K r.O:Int):=by omega
 go_enter func128,ntmps128;go_wp2;go_ret;exact⟨Z,f.alloc _,(Ee.refl _ _ _).alloc i _⟩
def Iq(r:Rd)(c:MV)(h:r.H=[]):jS r c=(r,D):=by simp[jS,h]
def Ir(r:Rd)(c:MV)(h:r.H≠[])(d:(c.B==11)=true):jS r c=P.fC r c:=by simp[jS,h,show c.B=11 by simpa using d]
def It(r:Rd)(c:MV)(h:r.H≠[])(e:(c.B==11)=D)(d:r.most<=r.count):jS r c=(r,D):=by
 simp[jS,h,show ¬c.B=11 by simpa using e,d]
def Iu(r:Rd)(c:MV)(h:r.H≠[])(e:¬r.most<=r.count)(d:(c.B==10)=true)(f:2<=K r.O):jS r c=({r with count:=r.count+1},D):=by
 simp[jS,h,show c.B=10 by simpa using d,e,f]
def Iv(r:Rd)(c:MV)(h:r.H≠[])(e:¬r.most<=r.count)(d:(c.B==10)=true)(f:¬2<=K r.O):jS r c=P.branch {r with count:=r.count+1} c:=by
 simp[jS,h,show c.B=10 by simpa using d,e,f]
def Iw(r:Rd)(c:MV)(h:r.H≠[])(f:(c.B==11)=D)(e:¬r.most<=r.count)(d:(c.B==10)=D):jS r c=(P.put {r with count:=r.count+1} c,true):=by
 simp[jS,h,show ¬c.B=11 by simpa using f,show ¬c.B=10 by simpa using d,e]
def Ix(B g N:Nat)(r:Rd)(c:MV)(w:World)(h:dU w B g r)(x:zN N r)(y:N<10000)(hB:B<=J (V w))(X:K r.O<10)(S:0<=r.I)(W:r.I<10000)(ac:0<=r.count)(ad:r.count<10000):
  Calls prog 88 #[.pointer (L ⟨g,0,Y⟩),T (aV c)] w fun e w'=>e=U (.bool (jS r c).2)/\dU w' B g (jS r c).1/\Ee B g w w':=by
 have t:=MS (h.alloc (M (aV c) 137));have m:=MS (((h.rR (r.count+1)).alloc (M (aV c) 137)).drew);obtain⟨tv,ov,vs,h⟩:=h;obtain⟨ta,tc,oa,oc,rfl,rfl⟩:=h.lH;obtain⟨ab,aa,g0,g1,g2,g3,g4⟩:=h.F;have z:=MS (bB.new w c);have q:Ee B g w (w.alloc (M (aV c) 137)):=(Ee.refl _ _ _).alloc hB _;by_cases hne:r.H=[]
 ·have i:=MS (Iq r c hne);have hz:((K r.H:Int)==0)=true:=by simp[hne]
  simp only[aV];go_enter func88,ntmps88;go_wp2;go_ret;rw[cV i];exact⟨Z,t.o,q⟩
 have hz:((K r.H:Int)==0)=D:=by simpa using hne
 cases hk:c.B==11
 rotate_left
 ·have i:=MS (Ir r c hne hk);simp only[aV];go_enter func88,ntmps88;go_wp2_with(first
   |(refine rT (.tmp 3) Z Z (J (V w)) c Z (by exact z.o) ?_)
   |(go_at_call 127;refine(Ig B g N r c _ (by exact t.o) hne x y (by simp;omega) X).mono ?_;rintro e w2 ⟨rfl,f,d⟩))
  go_ret;rw[cV i];exact⟨Z,f,q.trans d⟩
 by_cases h8:r.most<=r.count
 ·have i:=MS (It r c hne hk h8);simp only[aV];go_enter func88,ntmps88;go_wp2;go_region
  all_goals go_wp2
  go_ret;rw[cV i];exact⟨Z,t.drew,q.drew⟩
 have l:MT (bB ((w.setCell ⟨g,2,Y⟩ (C G (r.count+1))).alloc (M (aV c) 137)).drew (J (V w)) c):=by
  unfold MT;have:=(bB.new (w.setCell ⟨g,2,Y⟩ (C G (r.count+1))) c).drew;simpa using this
 have j:Ee B g w ((w.setCell ⟨g,2,Y⟩ (C G (r.count+1))).alloc (M (aV c) 137)).drew:=(((Ee.refl _ _ _).setCell _).alloc (by simp;exact hB) _).drew
 cases hbk:c.B==10
 ·have i:=MS (Iw r c hne hk h8 hbk);simp only[aV];go_enter func88,ntmps88;go_wp2;go_region
  all_goals
   go_wp2_with(first
    |(refine rT (.tmp 3) Z Z (J (V w)) c Z (by exact l.o) ?_)
    |(go_at_call 129;refine(LS B g N {r with count:=r.count+1} c _ (by exact m.o) hne x y (by simp;omega)).mono ?_;rintro e w2 ⟨rfl,f,d⟩))
   go_ret;rw[cV i];exact⟨Z,f,j.trans (Ee.of d)⟩
 by_cases ho:2<=K r.O
 ·have i:=MS (Iu r c hne h8 hbk ho);simp only[aV];go_enter func88,ntmps88;go_wp2;go_region
  all_goals
   go_wp2_with(first
    |(refine rT (.tmp 3) Z Z (J (V w)) c Z (by exact l.o) ?_)
    |(go_at_call 128;refine(Ip B g {r with count:=r.count+1} c _ (by exact m.o) (by simp;omega) ho).mono ?_;rintro e w2 ⟨rfl,f,d⟩))
   go_ret;rw[cV i];exact⟨Z,f,j.trans d⟩
 ·have i:=MS (Iv r c hne h8 hbk ho);simp only[aV];go_enter func88,ntmps88;go_wp2;go_region
  all_goals
   go_wp2_with(first
    |(refine rT (.tmp 3) Z Z (J (V w)) c Z (by exact l.o) ?_)
    |(go_at_call 128;refine(Ii B g N {r with count:=r.count+1} c _ (by exact m.o) hne x y (by simp;omega) (by simp;omega) S W).mono ?_;rintro e w2 ⟨rfl,f,d⟩))
   go_ret;rw[cV i];exact⟨Z,f,j.trans d⟩
def Iy(B g N b off n cap:Nat)(r:Rd)(c:ByteArray)(d:List ByteArray)(w:World)(h:dU w B g r)(z:NQ w b off (c::d))(hn:K d=n-1)(x:1<=n)(ad:n<10000)(hc:n<=cap)(j:b<J (V w))(ac:r.most=8)(hF:zN N r)(hN:N<10000)(H:B<=J (V w))(y:K r.O<10)(aa:0<=r.I)(ab:r.I<10000)(S:0<=r.count)(W:r.count<10000):
  Calls prog 79 #[.pointer (L ⟨g,0,Y⟩),E (L ⟨b,off,Y⟩) n cap,C G r.i] w fun e w'=>e=U (.bool (cW r (c.toList::d.map x2)).2)/\dU w' B g (cW r (c.toList::d.map x2)).1/\Ee B g w w':=by
 have F:=MS h;obtain⟨hd,_,_⟩:=z.head;have ae:0<n:=by omega
 cases ht:c.toList==[116,104,114,101,97,100]
 rotate_left
 ·have q:=MS (Im r c.toList (d.map x2) ht);go_enter func79,ntmps79;go_wp2_with(first|(go_at_call 120;refine(Il B g _ _ _ _ r (c::d) _ F.o z (by simp;omega) ad H (by have:=hF.1;omega) y).mono ?_;rintro e w1 ⟨rfl,m,l⟩));go_ret;rw[cV q];exact⟨Z,m,l⟩
 have HD:=MS (UJ r c.toList (d.map x2) ht ac)
 cases hs:(cR (c.toList::d.map x2)).2
 ·have q:MT (cW r (c.toList::d.map x2)=(r,D)):=by unfold MT;rw[HD.o,hs];rfl
  go_enter func79,ntmps79;go_wp2_with(first|(go_at_call 121;refine(UB _ _ _ _ c d _ z hn x hc j).mono ?_;rintro e w1 ⟨t,f⟩;simp only[nI,aV,xd]at t;subst t));go_ret;rw[cV q];exact⟨Z,(F.X f).alloc _,Ee.of ((f.mono H).alloc (by have:=f.size;omega) _)⟩
 ·have q:MT (cW r (c.toList::d.map x2)=jS r {(cR (c.toList::d.map x2)).1 with i:=r.i}):=by unfold MT;rw[HD.o,hs];rfl
  go_enter func79,ntmps79;go_wp2_with(first|(go_at_call 121;refine(UB _ _ _ _ c d _ z hn x hc j).mono ?_;rintro e w1 ⟨t,f⟩;simp only[nI,aV,xd]at t;subst t)|(go_at_call 88;refine(Ix B g N r {(cR (c.toList::d.map x2)).1 with i:=r.i} _ (by exact(F.X f).alloc (M (aV {(cR (c.toList::d.map x2)).1 with i:=r.i}) 137)) hF hN (by have:=f.size;simp;omega) y aa ab S W).mono ?_;rintro e w2 ⟨rfl,m,l⟩));go_ret;rw[cV q];exact⟨Z,m,(Ee.of ((f.mono H).alloc (by have:=f.size;omega) _)).trans l⟩
def fN(w:World)(B:Nat)(tv:Value)(ts:List NB):Prop:=∃vs,w.ownsRow B 132 3 tv (K ts) (QL ts vs)/\QE w B ts vs
def fN.keep(h:fN w B tv ts)(f:∀k,k<J (V w)->w'.heap[k]?=w.heap[k]?):fN w' B tv ts:=by
 obtain⟨vs,c,d⟩:=h;exact⟨vs,bE c fun k e=>f k (c.lt k e).2,d.keep fun v j k e=>by obtain⟨n,l,i⟩:=d.mem v j;exact f k (i.lt k e).2⟩
def fN.nil(w:World)(B:Nat):fN w B (E Y 0 0) []:=⟨[],xe _ _ _ _,trivial⟩
def P.Iz(c:UInt8)(l:List UInt8):∀x∈ND c l,K x<=K l:=by
 induction l with
 |nil=>intro x d;simp[ND]at d;simp[d]
 |cons y r ih =>
  intro x d;by_cases hy:y=c
  ·subst hy;rw[JV]at d
   rcases List.mem_cons.1 d with rfl|d
   ·simp
   ·have:=ih x d;simp;omega
  ·cases hs:ND c r with
   |nil=>exact absurd hs (yT _ _)
   |cons a b =>
    rw[vS c y r hy a b hs]at d
    rcases List.mem_cons.1 d with rfl|d
    ·have:=ih a (by rw[hs];simp);simp;omega
    ·have:=ih x (by rw[hs];simp[d]);simp;omega
def P.I0(r:Rd)(c:List (List UInt8))(d:0<=r.count):(cW r c).1.count<=r.count+1:=by
 unfold cW
 split
 ·unfold P.eG
  split
  ·(simp<;>omega)
  ·split
   ·split
    ·(simp<;>omega)
    ·(simp<;>omega)
   ·(simp<;>omega)
 ·split
  ·(simp<;>omega)
  ·simp only[]
   split
   ·split
    ·unfold P.fC
     split
     ·(simp<;>omega)
     ·(simp[P.put]<;>omega)
    ·split
     ·(simp<;>omega)
     ·split
      ·split
       ·(simp<;>omega)
       ·unfold P.branch
        split
        ·(simp<;>omega)
        ·(simp[P.put]<;>omega)
      ·(simp[P.put]<;>omega)
   ·(simp<;>omega)
structure LoopAt(rows:List ByteArray)(k:Nat)(r:Rd):Prop where
 run:OX Rd.zero ((rows.take k).map x2)=(r,true)
 good:P.Good k r
 lin:r.i=k
 most:r.most=8
 cn:r.count<=k
def VA(rows:List ByteArray)(k:Nat)(c:k<K rows):(rows.take (k+1)).map x2=(rows.take k).map x2++[rows[k].toList]:=by
 rw[x8 c,xh,xd,List.map_nil]
def I1(rows:List ByteArray):LoopAt rows 0 Rd.zero:=⟨by simp[OX],MD,Z,Z,by simp[Rd.zero]⟩
def I4{rows:List ByteArray}(h:LoopAt rows k r)(d:k<K rows)(e:(cW {r with i:=r.i+1} (ND 32 rows[k].toList)).2=true):
  LoopAt rows (k+1) (cW {r with i:=r.i+1} (ND 32 rows[k].toList)).1:=by
 have c:=UK {r with i:=r.i+1} (ND 32 rows[k].toList) h.most;refine⟨?_,UO _ h.good (by have:=h.lin;omega),?_,c.2,?_⟩
 ·rw[VA rows k d,UL _ _ _ _ h.run,<- e]
 ·rw[c.1];have:=h.lin;simp;omega
 ·have:=I0 {r with i:=r.i+1} (ND 32 rows[k].toList) h.good.NA;have f:=h.cn;simp at this⊢;omega
def I6{rows:List ByteArray}{last:ByteArray}(f:rows.map x2++[last.toList]=ND 10 s.toList)(h:LoopAt rows k r)(l:k<K rows)(e:(cW {r with i:=r.i+1} (ND 32 rows[k].toList)).2=D):
  cS s.toList=([],(k:Int)+1):=by
 have d:=UK {r with i:=r.i+1} (ND 32 rows[k].toList) h.most;have c:OX Rd.zero ((rows.take (k+1)).map x2)=cW {r with i:=r.i+1} (ND 32 rows[k].toList):=by
  rw[VA rows k l,UL _ _ _ _ h.run]
 have j:(ND 10 s.toList).dropLast=(rows.take (k+1)).map x2++(rows.drop (k+1)).map x2:=by
  rw[<- f,xi,<- xh,List.take_append_drop]
 have:=Hk _ Rd.zero ((rows.drop (k+1)).map x2) (by rw[c];exact e);unfold cS;simp only[j,this,c,e];simp only[Bool.false_eq_true,if_false];rw[d.1,h.lin]
def I7{rows:List ByteArray}{last:ByteArray}(d:rows.map x2++[last.toList]=ND 10 s.toList)(h:LoopAt rows (K rows) r):
  cS s.toList=if last.toList.isEmpty=D\/K r.H=0\/0<K r.O then([],(K rows:Int)+1)else(r.H,0):=by
 have c:=h.run;rw[xj]at c;have e1:last.toList=[]↔last.toList.isEmpty=true:=by rw[List.isEmpty_iff]
 unfold cS;simp only[<- d,xi,c,List.getLast?_concat,if_true,h.lin]
 congr 1
 simp only[ne_eq,Option.some.injEq,e1,eq_iff_iff];simp[List.length_pos_iff,or_comm]
def CY{R:Ending->World->Prop}(g:Nat)(tv d:Value)(c:fn.results=#[.cell p 40,.tmp u])(i:a.tmps.getD p undef=.pointer (L ⟨g,0,Y⟩))(j:a.tmps.getD u undef=d)(h:w.heap[g]?=L (M #[tv] 40 (0,0)))(f:a.defers=[])(e:R (U (.tuple #[T #[tv],d])) w):bodyPost prog fn R .ret a w:=by
 refine bodyPost_ret (v:=.tuple #[T #[tv],d]) ?_ f e;rw[results_cell_tmp c,i,j];have:(asAddr (.pointer (L ⟨g,0,Y⟩))).run prog w=.ok ⟨g,0,Y⟩ w:=Z;rw[this,x9,vW w g _ _ _ h _ underlying40 rfl (by kernel_rfl),x9]
def BK{e:TypeId}{d:Nat}{f:List Value}(h:w.ownsRow B e d v n f)(l:B'<=B):w.ownsRow B' e d v n f:=by
 refine⟨h.1,?_⟩
 rcases h.2 with j|⟨g,cap,c,rfl,i,rest⟩
 ·exact .inl j
 ·exact .inr ⟨g,cap,c,Z,by omega,rest⟩
def QE.base{w:World}{B B':Nat}(c:B'<=B):∀{ts:List NB} {vs:List Value},QE w B ts vs->QE w B' ts vs
 |[],[],_=>trivial
 |_::_,_::_,h=>⟨BK h.1 c,h.2.1,QE.base c h.2.2⟩
def I8{p:Nat}(h:OZ w B g r tv ov vs)(d:Below (J (V w)) w w')(i:p<B)(u:Value):fN (w'.setCell ⟨p,0,Y⟩ u) p tv r.H:=by
 refine⟨vs,BK (bE h.H fun k c=>?_) (by omega),(h.S.keep fun v f k c=>?_).base (by omega)⟩
 ·have:=h.H.lt k c;rw[xa _ _ _ _ (by simp;omega),d.block k this.2]
 ·obtain⟨n,j,e⟩:=h.S.mem v f;have:=e.lt k c;rw[xa _ _ _ _ (by simp;omega),d.block k this.2]
def I9(s:ByteArray)(w:World)(hs:s.size<=8192):
  Calls prog 78 #[A s,A ⟨#[32]⟩] w fun e w'=>∃g cap n c rs,e=U (MU g n cap)/\MT (c.toList::rs.map x2=ND 32 s.toList)/\NQ w' g 0 (c::rs)/\K rs=n-1/\1<=n/\n<10000/\n<=cap/\g<J (V w')/\Below (J (V w)) w w':=by
 refine(US 32 s w hs).mono ?_;rintro e w' ⟨g,cap,q,rfl,d,f,m⟩;obtain⟨i,j,l⟩:=KI f;have o:=CF 32 s.toList;rw[<- d,xk,jR]at o
 cases q with
 |nil=>exact absurd d.symm (yT _ _)
 |cons c rs=>exact⟨g,cap,_,c,rs,Z,by simpa[MT]using d,i,by simp,by simp,by omega,j,l,m⟩
def oC{t:TypeId}(h:w.heap[g]?=L (M #[v] t (0,0))):w.cell? ⟨g,0,Y⟩=L v/\w.frozen? ⟨g,0,Y⟩=D/\g<J (V w):=by
 refine⟨?_,?_,(Array.getElem?_eq_some_iff.1 h).1⟩<;>simp[World.cell?,World.frozen?,h]
def Ja(s:ByteArray)(w:World)(hs:s.size<=8192):
  Calls prog 46 #[A s] w fun e w'=>∃g cap,∃(rows:List ByteArray) (last:ByteArray),e=U (.tuple #[MU g (K rows) cap,.bool last.toList.isEmpty])/\MT (rows.map x2++[last.toList]=ND 10 s.toList)/\NQ w' g 0 rows/\K rows<=8192/\K rows<=cap/\g<J (V w')/\J (V w)<=g/\(∀x∈rows,x.size<=8192)/\Below (J (V w)) w w':=by
 go_enter func46,ntmps46;go_wp2_with fail;refine(US 10 s _ hs).mono ?_;rintro e H ⟨g,cap,I,rfl,c,d,X⟩;obtain⟨z,S,W⟩:=KI d;have O:J (V w)<=g:=(d.lt g Z).1;have F:=CF 10 s.toList;rw[<- c,xk,jR]at F;have m:I≠[]:=by intro e;rw[e]at c;exact yT _ _ c.symm
 obtain⟨rows,last,rfl⟩:=nC I m;have y:MT (rows.map x2++[last.toList]=ND 10 s.toList):=by unfold MT;rw[<- c];simp
 have q:NQ H g 0 rows:=fun i x j=>z i x (by rw[xl (List.getElem?_eq_some_iff.1 j).1];exact j)
 have aa:H.cell? ⟨g,K rows,Y⟩=L (A last):=by
  have:=z (K rows) last (by simp);simpa using this
 have t:∀x∈rows,x.size<=8192:=fun x j=>by
  have:=Iz 10 s.toList x.toList (by rw[<- y.o];simp;left;exact⟨x,j,Z⟩);rw[jR,jR]at this;omega
 have N:=MS t;have l:=MS q;simp only[List.length_append,xb,List.length_nil,Nat.zero_add]at F S;have ab:¬(K rows:Int)<0:=by omega
 have f:(rows++[last]).length=K rows+1:=by simp
 simp only[f];go_wp2;go_region
 all_goals go_wp2
 go_ret2;refine⟨g,cap,rows,last,?_,y,?_,by omega,by omega,W,O,N.o,X.drew⟩
 ·first|rfl|simp
 ·exact l.drew
def Jb(B:Nat)(w:World):dU (w.alloc (M #[E Y 0 0,C G 8,C G 0,C G 0,E Y 0 0] 125)) B (J (V w)) Rd.zero:=by
 refine⟨E Y 0 0,E Y 0 0,[],?_,xe _ _ _ _,xe _ _ _ _,trivial⟩;have:=heap_alloc_new w (M #[E Y 0 0,C G 8,C G 0,C G 0,E Y 0 0] 125);simpa[Rd.zero]using this
def Jc(m:Int)(w:World):
  Calls prog 45 #[C G m] w fun e w'=>e=U (T #[E Y 0 0,C G m,C G 0,C G 0,E Y 0 0])/\Below (J (V w)) w w':=by
 go_enter func45,ntmps45;go_wp2;refine bodyPost_ret (v:=T #[E Y 0 0,C G m,C G 0,C G 0,E Y 0 0]) ?_ Z ⟨Z,(x4 _ _).alloc (x3 _) _⟩;simp[results,Tryz.results45,go_sem]
def VB(B g:Nat)(r:Rd)(w:World)(h:dU w B g r)(m:K r.H<6)(l:K r.O<10):
  Calls prog 48 #[.pointer (L ⟨g,0,Y⟩)] w fun e w'=>e=U (.bool (decide (0<K r.H)&&decide (K r.O=0)))/\w'=w:=by
 obtain⟨tv,ov,vs,h⟩:=h;obtain⟨N,S,z,I,rfl,rfl⟩:=h.lH;obtain⟨j,i,o,q,t,x,y⟩:=h.F;by_cases h1:0<K r.H
 ·have c:(0:Int)<(K r.H:Int):=by omega
  cases h2:(K r.O:Int)==0
  all_goals
   have f:=h2;simp at f;go_enter func48,ntmps48;go_wp2;go_ret;refine⟨?_,Z⟩;simp[h1,f]
 ·have c:¬(0:Int)<(K r.H:Int):=by omega
  have d:decide (0<K r.H)=D:=decide_eq_false h1;go_enter func48,ntmps48;go_wp2;go_ret;refine⟨?_,Z⟩;simp[d]
def Jd(B g:Nat)(r:Rd)(tv ov:Value)(vs:List Value)(w:World)(h:OZ w B g r tv ov vs):
  Calls prog 49 #[.pointer (L ⟨g,0,Y⟩)] w fun e w'=>e=U (T #[tv])/\Below (J (V w)) w w':=by
 obtain⟨f,i,t,x,rfl,rfl⟩:=h.lH;obtain⟨d,c,j,l,m,o,q⟩:=h.F;clear h;go_enter func49,ntmps49;go_wp2;refine bodyPost_ret (v:=T #[E f (K r.H) i]) ?_ Z ⟨Z,(x4 _ _).alloc (x3 _) _⟩;simp[results,Tryz.results49,go_sem]
def VC(s:ByteArray)(w:World)(hs:s.size<=8192):
  Calls prog 41 #[A s] w fun e w'=>∃tv,e=U (.tuple #[T #[tv],C G (cS s.toList).2])/\fN w' (J (V w)) tv (cS s.toList).1/\Below (J (V w)) w w':=by
 go_enter func41,ntmps41;go_wp2_with fail;refine(Jc 8 _).mono ?_;rintro e w0 ⟨rfl,W⟩;have aV:J (V w)+1<=J (V w0):=by have:=W.size;simpa using this
 have y:w0.heap[J (V w)]?=L (M #[E Y 0 0] 40 (0,0)):=by
  rw[W.block _ (by simp)];exact heap_alloc_new w _
 obtain⟨z0,z1,z2⟩:=oC y;have ap:=MS y;have F:MT (Below (J (V w)) w w0):=((x4 _ _).alloc (x3 _) _).trans (W.mono (by simp));go_wp2_with fail;refine(Ja s _ hs).mono ?_;rintro e z ⟨gl,cl,rows,last,rfl,HW,aR,bb,ba,aH,ak,aS,t⟩;have aG:=MS ((Jb (J (V z)) w0).X t);have ab:z.heap[J (V w)]?=L (M #[E Y 0 0] 40 (0,0)):=by
  rw[t.block _ (by simp;omega),x6 _ _ _ (by omega)];exact ap.o
 have aq:=MS ab;have I:MT (Below (J (V w)) w z):=(F.alloc (by omega) _).trans (t.mono (by simp;omega));have aW:J (V w0)+1<=J (V z):=by have:=t.size;simpa using this
 have ay:=MS aR;have az:=MS aS;go_wp2;go_loopw[19] (fun i wr=>∃k:Nat,∃r:Rd,k<=K rows/\i=C G k/\MT (LoopAt rows k r)/\MT (dU wr (J (V z)) (J (V w0)) r)/\MT (NQ wr gl 0 rows)/\
   MT (wr.heap[J (V w)]?=L (M #[E Y 0 0] 40 (0,0)))/\J (V z)<=J (V wr)/\Below (J (V w)) w wr) fun i _=>K rows-(intOf i).toNat
 case atStart=>exact⟨0,Rd.zero,x5 _,Z,I1 _,aG,ay,aq,x3 _,I.o⟩
 case round =>
  obtain⟨k,r,hk,rfl,S,HR,ai,HB,bd,f⟩:=hrel;have d:=S.good;have al:=S.lin;have aK:=S.most;have aX:=S.cn;by_cases hlt:k<K rows
  ·have aQ:rows[k]?=L rows[k]:=List.getElem?_eq_getElem hlt;have aF:=ai.o k rows[k] aQ;simp only[Nat.zero_add]at aF;have aU:=az.o rows[k] (x7 hlt);have aY:(k:Int)<(K rows:Int):=by omega
   have aA:=MS fun h=>I4 S.o hlt h;have au:=MS fun h=>I6 HW.o S.o hlt h;generalize rows[k]=row at*;have HM:=MS aK;have ag:=MS al
   cases ht:(cW {r with i:=r.i+1} (ND 32 row.toList)).2
   all_goals
    go_wp2_with fail;refine(I9 _ _ aU).mono ?_;rintro e w2 ⟨gw,cw,n,c,rs,rfl,aD,aT,hn,aL,aM,aj,aI,l⟩;have aP:=MS ((HR.X l).yR ((k:Int)+1));have aE:J (V z)<=J (V w2):=by have:=l.size;omega
    have aB:=MS (ai.X l);have ac:MT (w2.heap[J (V w)]?=L (M #[E Y 0 0] 40 (0,0))):=(l.block _ (by omega)).trans HB.o;have N:MT (Below (J (V w)) w w2):=f.trans (l.mono (by omega));go_wp2_with fail;refine(Iy (J (V z)) (J (V w0)) k gw 0 n cw {r with i:=(k:Int)+1} c rs _ aP.o aT hn aL aM aj aI HM.o ⟨d.few,d.stm⟩ (by omega) aE (by have:=d.O;simp;omega) d.ifs0 (by have:=d.ifs1;simp;omega) d.NA (by simp;omega)).mono ?_;rintro e w3 ⟨he,ad,x⟩;rw[aD.o]at he ad;have eL:({r with i:=(k:Int)+1}:Rd)={r with i:=r.i+1}:=by rw[ag.o]
    rw[eL]at he ad;rw[ht]at he;subst he;have m:w3.heap[J (V w)]?=L (M #[E Y 0 0] 40 (0,0)):=(x.block _ (by omega) (by omega)).trans ac.o;obtain⟨z0,z1,z2⟩:=oC m;have af:=MS m;have j:MT (Below (J (V w)) w w3):=N.trans (x.X (by omega) (by omega));have aC:MT (NQ w3 gl 0 rows):=aB.kept fun _=>x.block gl aH (by simp at ak;omega);have bc:=x.size;have ax:=MS ad;go_wp2
   ·rw[au.o ht];refine CY (p:=2) (u:=3) (J (V w)) (E Y 0 0) _ (by kernel_rfl) Z Z (by exact bX af.o 0 _) Z ⟨_,Z,fN.nil _ _,?_⟩;exact(j.o).setCell (x3 _) _
   ·go_roundw
    case rel=>exact⟨k+1,_,by omega,by go_num,aA.o ht,ax,aC,af,by omega,j.o⟩
    case measure=>simp[intOf];omega
  ·have aJ:k=K rows:=by omega
   subst aJ;have HE:=MS (I7 HW.o S.o);have ao:K r.H<6:=by have:=d.few;omega
   have am:K r.O<10:=by have:=d.O;omega
   obtain⟨z0,z1,z2⟩:=oC HB.o;have aZ:¬(K rows:Int)<(K rows:Int):=by omega
   cases he:last.toList.isEmpty
   ·go_wp2;rw[cV HE,if_pos (Or.inl he)];refine CY (p:=2) (u:=3) (J (V w)) (E Y 0 0) _ (by kernel_rfl) Z Z (by exact bX HB.o 0 _) Z ⟨_,Z,fN.nil _ _,?_⟩;exact f.setCell (x3 _) _
   cases hw:decide (0<K r.H)&&decide (K r.O=0)
   ·have aO:last.toList.isEmpty=D\/K r.H=0\/0<K r.O:=by
     have ae:=hw;rw[Bool.and_eq_false_iff,decide_eq_false_iff_not,decide_eq_false_iff_not]at ae;omega
    have aw:=MS aO;go_wp2_with(first|(go_at_call 48;refine(VB _ _ r _ HR.o ao am).mono ?_;rintro e w' ⟨rfl,rfl⟩;rw[hw]));rw[cV HE,if_pos aw.o];refine CY (p:=2) (u:=3) (J (V w)) (E Y 0 0) _ (by kernel_rfl) Z Z (by exact bX HB.o 0 _) Z ⟨_,Z,fN.nil _ _,?_⟩;exact f.setCell (x3 _) _
   ·have aN:¬(last.toList.isEmpty=D\/K r.H=0\/0<K r.O):=by
     have ae:=hw;rw[Bool.and_eq_true,decide_eq_true_eq,decide_eq_true_eq]at ae;rintro(h|h|h)
     ·rw[he]at h;cases h
     ·omega
     ·omega
    have av:=MS aN;obtain⟨tv,ov,vs,an⟩:=HR.o;obtain⟨ta,tc,oa,oc,rfl,rfl⟩:=an.lH;have ah:=MS an;go_wp2_with(first|(go_at_call 48;refine(VB _ _ r _ HR.o ao am).mono ?_;rintro e w' ⟨rfl,rfl⟩;rw[hw])|(go_at_call 49;refine(Jd _ _ r _ _ vs _ ah.o).mono ?_;rintro e w4 ⟨rfl,aa⟩;have q:=(aa.block _ (by omega)).trans HB.o;obtain⟨y0,y1,y2⟩:=oC q;have ar:=MS q));rw[cV HE,if_neg av.o];refine CY (p:=2) (u:=3) (J (V w)) _ _ (by kernel_rfl) Z Z (by exact bX ar.o 0 _) Z ⟨_,Z,I8 ah.o aa (by omega) _,(f.trans (aa.mono (by omega))).setCell (x3 _) _⟩
namespace P
def PO:List MV->Int
 |[]=>0
 |s::r=>(if s.B==5 then 1 else 0)+PO r
def Je(a b:List MV):PO (a++b)=PO a+PO b:=by
 induction a with
 |nil=>simp[PO]
 |cons s r ih=>simp[PO,ih];omega
def yU(l:List MV):0<=PO l/\PO l<=K l:=by
 induction l with
 |nil=>simp[PO]
 |cons s r ih=>simp only[PO,xb];split<;>omega
def Jf(l:List MV)(k:Nat)(h:k<K l):PO (l.take (k+1))=PO (l.take k)+if l[k].B==5 then 1 else 0:=by
 rw[x8 h,Je];simp[PO]
end P
def Jg(l:List MV):∀(k:Nat) (h:k<K l) (i:Nat),i<11->(kQ l)[k*11+i]?=(aV l[k]).toList[i]?:=by
 induction l with
 |nil=>intro k h;simp at h
 |cons a r ih =>
  intro k h i c;have e:kQ (a::r)=(aV a).toList++kQ r:=by simp[kQ]
  have d:(aV a).toList.length=11:=Z;rw[e]
  cases k with
  |zero =>
   rw[xl (by omega)];simp
  |succ k =>
   rw[List.getElem?_append_right (by omega),d,show(k+1)*11+i-11=k*11+i by omega,ih k (by simpa using h) i c];simp
def AS{l:List MV}(h:w.ownsRow B 137 11 (MU b n cap) n (kQ l))(f:n=K l)(k:Nat)(e:k<K l):w.rangeAt b (k*11) (aV l[k]).toList:=by
 intro j v c;have d:j<11:=(List.getElem?_eq_some_iff.1 c).1;rw[h.cellAt _ (by omega),Jg l k e j d];exact c
def jM{o:Nat}{cs:List Value}(h:w.rangeAt b o cs)(e:w'.heap[b]?=w.heap[b]?):w'.rangeAt b o cs:=fun j v c=>by
 rw[World.cell?_of_block (w:=w) (a:=⟨b,o+j,Y⟩) e];exact h j v c
def mD{e:Array Oper}{rest:List Oper}{d:Oper}{Q:Exit->Act->World->Prop}(x:Operand)(f:d.guard=Y)(j:d.op=.load 137 x)(b o:Nat)(c:MV)(m:a.eval x=.pointer (L ⟨b,o,Y⟩))(l:w.rangeAt b o (aV c).toList)(h:wpList prog e Q rest (a.put d.dst (T #[C G c.B,C G c.i,C G c.dest,C G c.z,.bool c.a.MW,C G c.a.n,.bool c.b.MW,C G c.b.n,C G c.q,C G c.scope,C G c.label])) w):wpList prog e Q (d::rest) a w :=
 wpList_load_mid f _ x j b o m (aV c).toList _ l underlying137 Z (by kernel_rfl) h
def DD(B n:Nat)(bl ln:Int)(I:Value)(l:List MV)(w:World)(f:w.ownsRow B 137 11 I n (kQ l))(N:n=K l)(ac:n<10000):
  Calls prog 50 #[T #[C G bl,C G ln,I]] w fun e w'=>e=U (C G (PO l))/\Below (J (V w)) w w':=by
 have F:∃a c,I=E a n c/\(0<n->∃b,a=L ⟨b,0,Y⟩/\b<J (V w)):=by
  rcases f.2 with⟨e,X⟩|⟨k,c,W,e,_⟩
  ·exact⟨Y,0,by rw[e,X],fun h=>by omega⟩
  ·exact⟨_,c,e,fun _=>⟨k,Z,(f.lt k (by rw[e];rfl)).2⟩⟩
 obtain⟨sa,sc,rfl,z⟩:=F;have O:=MS f;have t:=MS N;clear f N;go_enter func50,ntmps50;go_wp2;go_loopw[3,9] (fun c i wr=>∃k:Nat,k<=n/\i=C G k/\c=C G (PO (l.take k))/\Below (J (V w)) w wr) fun _ i _=>n-(intOf i).toNat
 case atStart=>exact⟨0,x5 _,Z,by simp[PO],(x4 _ _).alloc (x3 _) _⟩
 case round =>
  obtain⟨k,hk,rfl,rfl,d⟩:=hrel;have aa:=yU (l.take k);have ab:(l.take k).length<=k:=xg _ _;by_cases hlt:k<n
  ·obtain⟨b,rfl,m⟩:=z (by omega);have q:k<K l:=by rw[<- t.o];exact hlt
   have y:=MS (jM (AS O.o t.o k q) (d.block b m));have j:=MS (Jf l k q);generalize ad:l[k]=H at y j
   cases h5:H.B==5
   ·go_wp2_with(first|(refine mD (.tmp 11) Z Z b (k*11) H Z y.o ?_));go_roundw
    case rel=>exact⟨k+1,by omega,by go_num,by rw[j.o,h5];simp,d.alloc (by have:=d.size;omega) _⟩
    case measure=>simp[intOf];omega
   ·go_wp2_with(first|(refine mD (.tmp 11) Z Z b (k*11) H Z y.o ?_));go_roundw
    case rel=>exact⟨k+1,by omega,by go_num,by rw[j.o,h5];simp,d.alloc (by have:=d.size;omega) _⟩
    case measure=>simp[intOf];omega
  ·have x:k=n:=by omega
   subst x;have S:MT (l.take k=l):=xm (by have:=t.o;omega);go_wp2;go_ret;rw[S.o];exact⟨Z,d⟩
namespace P
def kO(b:Int):List NB->Int
 |[]=>0
 |t::r=>if t.block==b then PO t.S else kO b r
def iU(all:List NB):List NB->Int
 |[]=>0
 |t::r=>if PO t.S != kO t.block all||decide (2<PO t.S)then t.i else iU all r
end P
def Jh(ts:List NB):∀(vs:List Value),K vs=K ts->∀(k:Nat) (h:k<K ts),∃v,vs[k]?=L v/\(QL ts vs)[k*3]?=L (C G ts[k].block)/\(QL ts vs)[k*3+1]?=L (C G ts[k].i)/\(QL ts vs)[k*3+2]?=L v:=by
 induction ts with
 |nil=>intro vs _ k h;simp at h
 |cons t r ih =>
  intro vs c k h
  match vs,c with
  |v::q,c =>
   cases k with
   |zero=>exact⟨v,Z,by simp[QL],by simp[QL],by simp[QL]⟩
   |succ k =>
    obtain⟨u,d,e,f,j⟩:=ih q (by simpa using c) k (by simpa using h);refine⟨u,by simpa using d,?_,?_,?_⟩
    ·rw[show(k+1)*3=k*3+3 by omega];simpa[QL]using e
    ·rw[show(k+1)*3+1=k*3+1+3 by omega];simpa[QL]using f
    ·rw[show(k+1)*3+2=k*3+2+3 by omega];simpa[QL]using j
def QE.get{w:World}{B:Nat}:∀{ts:List NB} {vs:List Value},QE w B ts vs->∀(k:Nat) (h:k<K ts) (v:Value),vs[k]?=L v->w.ownsRow B 137 11 v ts[k].S.length (kQ ts[k].S)
 |t::r,u::q,h,0,_,v,hv=>by simp at hv;subst hv;exact h.1
 |t::r,u::q,h,k+1,hk,v,hv=>QE.get h.2.2 k (by simpa using hk) v (by simpa using hv)
def AI{d:Nat}(h:fN w B (MU d n cap) ts)(y:n=K ts)(k:Nat)(m:k<K ts):
  d<J (V w)/\∃j sc,w.cell? ⟨d,k*3,Y⟩=L (C G ts[k].block)/\w.cell? ⟨d,k*3+1,Y⟩=L (C G ts[k].i)/\w.cell? ⟨d,k*3+2,Y⟩=L (E j ts[k].S.length sc)/\w.ownsRow B 137 11 (E j ts[k].S.length sc) ts[k].S.length (kQ ts[k].S):=by
 obtain⟨vs,f,l⟩:=h;rw[<- y]at f;obtain⟨v,t,e1,e2,e3⟩:=Jh ts vs l.vO k m;have o:=l.get k m v t;have z:∃a c,v=E a ts[k].S.length c:=by
  rcases o.2 with⟨e,x⟩|⟨F,c,q,e,_⟩
  ·exact⟨Y,0,by rw[e,x]⟩
  ·exact⟨_,c,e⟩
 obtain⟨j,sc,rfl⟩:=z;refine⟨(f.lt d Z).2,j,sc,?_,?_,?_,o⟩
 ·rw[f.cellAt _ (by omega)];exact e1
 ·rw[f.cellAt _ (by omega)];exact e2
 ·rw[f.cellAt _ (by omega)];exact e3
def IJ(B H n cap:Nat)(b:Int)(ts:List NB)(w:World)(h:fN w B (MU H n cap) ts)(hn:n=K ts)(aa:n<10)(m:∀t∈ts,K t.S<10000):
  Calls prog 51 #[T #[MU H n cap],C G b] w fun e w'=>e=U (C G (kO b ts))/\Below (J (V w)) w w':=by
 have N:=MS h;have q:=MS hn;have O:=MS m;go_enter func51,ntmps51;go_wp2;go_loopw[10] (fun i wr=>∃k:Nat,k<=n/\i=C G k/\MT (kO b ts=kO b (ts.drop k))/\Below (J (V w)) w wr) fun i _=>n-(intOf i).toNat
 case atStart=>exact⟨0,x5 _,Z,Z,(x4 _ _).alloc (x3 _) _⟩
 case round =>
  obtain⟨k,hk,rfl,HB,c⟩:=hrel;by_cases hlt:k<n
  ·have l:k<K ts:=by rw[<- q.o];exact hlt
   obtain⟨f,sa,sc,W,X,c2,I⟩:=AI N.o q.o k l;have d0:=MZ c f W;have d1:=MZ c f X;have d2:=MZ c f c2;have y:=O.o ts[k] (x7 l);have F:=MS (wL ts k l);have z:=MS (bE I fun j hj=>c.block j (I.lt j hj).2);generalize m:ts[k]=t at*;have ab:J (V w)<=J (V wr):=c.size
   cases hb:t.block==b
   ·have d:MT (kO b ts=kO b (ts.drop (k+1))):=by
     unfold MT;rw[HB.o,F.o,kO,hb];simp
    go_wp2;go_roundw
    case rel=>exact⟨k+1,by omega,by go_num,d,c.alloc (by omega) _⟩
    case measure=>simp[intOf];omega
   ·have d:MT (kO b ts=PO t.S):=by
     unfold MT;rw[HB.o,F.o,kO,hb];simp
    go_wp2_with(first|(go_at_call 50;refine(DD B (K t.S) _ _ _ t.S _ (by exact z.alloc _) Z y).mono ?_;rintro e w1 ⟨rfl,x⟩));go_ret;rw[d.o];exact⟨Z,(c.alloc (by omega) _).trans (x.mono (by simp;omega))⟩
  ·have d:MT (kO b ts=0):=by
    unfold MT;rw[HB.o,xc (by have:=q.o;omega)];rfl
   go_wp2;go_ret;rw[d.o];exact⟨Z,c⟩
def Ji(B x n cap:Nat)(ts:List NB)(w:World)(h:fN w B (MU x n cap) ts)(hn:n=K ts)(H:n<10)(q:∀t∈ts,K t.S<10000):
  Calls prog 29 #[T #[MU x n cap]] w fun e w'=>e=U (C G (iU ts ts))/\Below (J (V w)) w w':=by
 have HA:=MS h;have N:=MS hn;have O:=MS q;clear h hn q;go_enter func29,ntmps29;go_wp2;go_loopw[10] (fun i wr=>∃k:Nat,k<=n/\i=C G k/\MT (iU ts ts=iU ts (ts.drop k))/\MT (wr.heap[J (V w)]?=L (M #[MU x n cap] 40 (0,0)))/\Below (J (V w)) w wr) fun i _=>n-(intOf i).toNat
 case atStart=>exact⟨0,x5 _,Z,Z,heap_alloc_new w _,(x4 _ _).alloc (x3 _) _⟩
 case round =>
  obtain⟨k,hk,rfl,HB,HP,d⟩:=hrel;by_cases hlt:k<n
  ·have z:k<K ts:=by rw[<- N.o];exact hlt
   obtain⟨y,sa,sc,c0,c1,c2,ho⟩:=AI HA.o N.o k z;have d0:=MZ d y c0;have d1:=MZ d y c1;have d2:=MZ d y c2;have F:=O.o ts[k] (x7 z);have HD:=MS (wL ts k z);have I:=MS (bE ho fun j X=>d.block j (ho.lt j X).2);generalize q:ts[k]=t at*;clear q c0 c1 c2 ho;have ad:J (V w)<=J (V wr):=d.size;obtain⟨p0,_,p2⟩:=oC HP.o;have W:MT (∀l:World,Below (wr.alloc (M #[C G t.block,C G t.i,E sa (K t.S) sc] 132)).heap.size (wr.alloc (M #[C G t.block,C G t.i,E sa (K t.S) sc] 132)) l->fN l B (MU x n cap) ts):=fun l c=>by
    refine HA.keep fun j X=>?_;rw[c.block j (by simp;omega),x6 _ _ _ (by omega),d.block j X]
   cases hu:PO t.S != kO t.block ts||decide (2<PO t.S)
   ·have m:MT (iU ts ts=iU ts (ts.drop (k+1))):=by
     unfold MT;rw[HB.o,HD.o,iU,hu];simp
    obtain⟨aa,ab⟩:(PO t.S != kO t.block ts)=D/\decide (2<PO t.S)=D:=by simpa using hu
    go_wp2_with(first|(go_at_call 50;refine(DD B (K t.S) _ _ _ t.S _ (by exact I.alloc _) Z F).mono ?_;rintro e l ⟨rfl,c⟩;have s1:J (V wr)+1<=J (V l):=(by have:=c.size;simp at this;omega);have y0:=c.cell (p:=⟨J (V wr),0,Y⟩) (by simp);have y2:=c.cell (p:=⟨J (V w),0,Y⟩) (by simp;omega))|(go_at_call 51;refine(IJ B x n cap _ ts _ (by exact W.o l c) N.o H O.o).mono ?_;rintro e w2 ⟨rfl,f⟩));go_roundw
    case rel=>exact⟨k+1,by omega,by go_num,m,by unfold MT;rw[f.block _ (by omega),c.block _ (by simp;omega),x6 _ _ _ p2];exact HP.o,(d.alloc (by omega) _).trans ((c.mono (by simp;omega)).trans (f.mono (by omega)))⟩
    case measure=>simp[intOf];omega
   ·have m:MT (iU ts ts=t.i):=by
     unfold MT;rw[HB.o,HD.o,iU,hu];simp
    cases hv:PO t.S != kO t.block ts
    ·have ac:2<PO t.S:=by simpa[hv]using hu
     go_wp2_with(first|(go_at_call 50;refine(DD B (K t.S) _ _ _ t.S _ (by exact I.alloc _) Z F).mono ?_;rintro e l ⟨rfl,c⟩;have s1:J (V wr)+1<=J (V l):=(by have:=c.size;simp at this;omega);have y0:=c.cell (p:=⟨J (V wr),0,Y⟩) (by simp);have y1:=c.cell (p:=⟨J (V wr),1,Y⟩) (by simp);have y2:=c.cell (p:=⟨J (V w),0,Y⟩) (by simp;omega))|(go_at_call 51;refine(IJ B x n cap _ ts _ (by exact W.o l c) N.o H O.o).mono ?_;rintro e w2 ⟨rfl,f⟩;have x1:=f.cell (p:=⟨J (V wr),1,Y⟩) (show J (V wr)<J (V l)by omega)));go_ret;rw[m.o];exact⟨Z,(d.alloc (by omega) _).trans ((c.mono (by simp;omega)).trans (f.mono (by omega)))⟩
    ·clear hu;go_wp2_with(first|(go_at_call 50;refine(DD B (K t.S) _ _ _ t.S _ (by exact I.alloc _) Z F).mono ?_;rintro e l ⟨rfl,c⟩;have s1:J (V wr)+1<=J (V l):=(by have:=c.size;simp at this;omega);have y0:=c.cell (p:=⟨J (V wr),0,Y⟩) (by simp);have y1:=c.cell (p:=⟨J (V wr),1,Y⟩) (by simp);have y2:=c.cell (p:=⟨J (V w),0,Y⟩) (by simp;omega))|(go_at_call 51;refine(IJ B x n cap _ ts _ (by exact W.o l c) N.o H O.o).mono ?_;rintro e w2 ⟨rfl,f⟩;have x1:=f.cell (p:=⟨J (V wr),1,Y⟩) (show J (V wr)<J (V l)by omega)));go_ret;rw[m.o];exact⟨Z,(d.alloc (by omega) _).trans ((c.mono (by simp;omega)).trans (f.mono (by omega)))⟩
  ·have m:MT (iU ts ts=0):=by
    unfold MT;rw[HB.o,xc (by have:=N.o;omega)];rfl
   go_wp2;go_ret;rw[m.o];exact⟨Z,d⟩
namespace P
def fK(d:Int):List MV->Option Int
 |[]=>Y
 |s::r =>
  if s.B==10 then fK (d+1) r
  else if s.B==11 then fK (d-1) r
  else if s.B==5 then if 0<d then L s.i else fK d r
  else fK d r
def kX:List NB->Int
 |[]=>0
 |t::r=>match fK 0 t.S with
  |some l=>l
  |none=>kX r
end P
def Jj(B bt n cap:Nat)(ts:List NB)(w:World)(h:fN w B (MU bt n cap) ts)(hn:n=K ts)(ak:n<10)(z:∀t∈ts,K t.S<10000):
  Calls prog 42 #[T #[MU bt n cap]] w fun e w'=>e=U (C G (kX ts))/\Below (J (V w)) w w':=by
 have HA:=MS h;have HN:=MS hn;have HS:=MS z;clear h hn z;go_enter func42,ntmps42;go_wp2;go_loopw[11] (fun i wr=>∃k:Nat,k<=n/\i=C G k/\MT (kX ts=kX (ts.drop k))/\Below (J (V w)) w wr) fun i _=>n-(intOf i).toNat
 case atStart=>exact⟨0,x5 _,Z,Z,(x4 _ _).alloc (x3 _) _⟩
 case round =>
  obtain⟨k,hk,rfl,HB,d⟩:=hrel;by_cases hlt:k<n
  ·have N:k<K ts:=by rw[<- HN.o];exact hlt
   obtain⟨I,sa,sc,c0,c1,c2,ho⟩:=AI HA.o HN.o k N;have d0:=MZ d I c0;have d1:=MZ d I c1;have d2:=MZ d I c2;have aj:=HS.o ts[k] (x7 N);have HD:=MS (wL ts k N);have HO:=MS ho;generalize z:ts[k]=t at*;have ad:0<K t.S->∃b,sa=L ⟨b,0,Y⟩/\b<J (V w):=fun h0=>by
    rcases ho.2 with⟨e,af⟩|⟨b',c',ae,e,ag,ac,_⟩
    ·omega
    ·simp only[Value.slice.injEq]at e;exact⟨b',e.1,(Array.getElem?_eq_some_iff.1 ac).1⟩
   have H:Below (J (V w)) w (wr.alloc (M #[C G t.block,C G t.i,E sa (K t.S) sc] 132)):=d.alloc d.size _;have ab:=MS H;go_wp2;go_loopw[5,18] (fun dv j w2=>∃q:Nat,∃dV:Int,q<=K t.S/\j=C G q/\dv=C G dV/\-(q:Int)<=dV/\dV<=q/\MT (fK 0 t.S=fK dV (t.S.drop q))/\Below (J (V w)) w w2) fun _ j _=>K t.S-(intOf j).toNat
   case atStart=>exact⟨0,0,x5 _,Z,Z,by simp,by simp,Z,ab.o⟩
   case round =>
    obtain⟨q,dV,hq,rfl,rfl,ah,ai,O,d⟩:=hrel;by_cases hql:q<K t.S
    ·obtain⟨b,rfl,aa⟩:=ad (by omega);have X:=MS (jM (AS HO.o Z q hql) (d.block b aa));have W:=MS (wL t.S q hql);generalize z:t.S[q]=x at X W;clear z;have l:=d.size
     cases h10:x.B==10
     rotate_left
     ·have f:MT (fK 0 t.S=fK (dV+1) (t.S.drop (q+1))):=by
       unfold MT;rw[O.o,W.o,fK];simp[h10]
      go_wp2_with(first|(refine mD (.tmp 20) Z Z b (q*11) x Z X.o ?_));go_roundw
      case rel=>exact⟨q+1,dV+1,by omega,by go_num,by go_num,by simp;omega,by simp;omega,f,d.alloc l _⟩
      case measure=>simp[intOf];omega
     have m:¬x.B=10:=by simpa using h10
     cases h11:x.B==11
     rotate_left
     ·have f:MT (fK 0 t.S=fK (dV-1) (t.S.drop (q+1))):=by
       unfold MT;rw[O.o,W.o,fK];simp[m,h11]
      go_wp2_with(first|(refine mD (.tmp 20) Z Z b (q*11) x Z X.o ?_));go_roundw
      case rel=>exact⟨q+1,dV-1,by omega,by go_num,by go_num,by simp;omega,by simp;omega,f,d.alloc l _⟩
      case measure=>simp[intOf];omega
     have y:¬x.B=11:=by simpa using h11
     cases h5:x.B==5
     ·have f:MT (fK 0 t.S=fK (dV) (t.S.drop (q+1))):=by
       unfold MT;rw[O.o,W.o,fK];simp[m,y,h5]
      go_wp2_with(first|(refine mD (.tmp 20) Z Z b (q*11) x Z X.o ?_));go_roundw
      case rel=>exact⟨q+1,dV,by omega,by go_num,by go_num,by simp;omega,by simp;omega,f,d.alloc l _⟩
      case measure=>simp[intOf];omega
     by_cases hp:0<dV
     ·have f:MT (kX ts=x.i):=by
       have e:fK 0 t.S=L x.i:=by rw[O.o,W.o,fK];simp[m,y,h5,hp]
       unfold MT;rw[HB.o,HD.o,kX,e]
      go_wp2_with(first|(refine mD (.tmp 20) Z Z b (q*11) x Z X.o ?_));go_ret;rw[f.o];exact⟨Z,d.alloc l _⟩
     ·have f:MT (fK 0 t.S=fK (dV) (t.S.drop (q+1))):=by
       unfold MT;rw[O.o,W.o,fK];simp[m,y,h5,hp]
      go_wp2_with(first|(refine mD (.tmp 20) Z Z b (q*11) x Z X.o ?_));go_roundw
      case rel=>exact⟨q+1,dV,by omega,by go_num,by go_num,by simp;omega,by simp;omega,f,d.alloc l _⟩
      case measure=>simp[intOf];omega
    ·have F:MT (kX ts=kX (ts.drop (k+1))):=by
      have e:fK 0 t.S=Y:=by rw[O.o,xc (by omega)];rfl
      unfold MT;rw[HB.o,HD.o,kX,e]
     go_wp2;go_roundw
     case rel=>exact⟨k+1,by omega,by go_num,F,d⟩
     case measure=>simp[intOf];omega
  ·have F:MT (kX ts=0):=by
    unfold MT;rw[HB.o,xc (by have:=HN.o;omega)];rfl
   go_wp2;go_ret;rw[F.o];exact⟨Z,d⟩
namespace P
def NA(p:MV->Bool):List MV->Int
 |[]=>0
 |s::r=>(if p s then 1 else 0)+NA p r
def xJ(p:MV->Bool)(a b:List MV):NA p (a++b)=NA p a+NA p b:=by
 induction a with
 |nil=>simp[NA]
 |cons s r ih=>simp[NA,ih];omega
def oZ(p:MV->Bool)(l:List MV):0<=NA p l/\NA p l<=K l:=by
 induction l with
 |nil=>simp[NA]
 |cons s r ih=>simp only[NA,xb];split<;>omega
def FO(p:MV->Bool)(l:List MV)(k:Nat)(h:k<K l):NA p (l.take (k+1))=NA p (l.take k)+if p l[k]then 1 else 0:=by
 rw[x8 h,xJ];simp[NA]
def NY(p:MV->Bool):List NB->Int
 |[]=>0
 |t::r=>NA p t.S+NY p r
def Jk(p:MV->Bool)(a b:List NB):NY p (a++b)=NY p a+NY p b:=by
 induction a with
 |nil=>simp[NY]
 |cons s r ih=>simp[NY,ih];omega
def MN(p:MV->Bool)(l:List NB)(k:Nat)(h:k<K l):NY p (l.take (k+1))=NY p (l.take k)+NA p l[k].S:=by
 rw[x8 h,Jk];simp[NY]
def JC(p:MV->Bool)(l:List NB)(N:Nat)(h:∀t∈l,K t.S<N):0<=NY p l/\NY p l<=K l*N:=by
 induction l with
 |nil=>simp[NY]
 |cons t r ih =>
  have d:=ih fun t c=>h t (by simp[c]);have e:=oZ p t.S;have f:=h t (by simp);simp only[NY,xb];refine⟨by omega,?_⟩;have:((K r+1:Nat):Int)*N=K r*N+N:=by push_cast;rw[Int.add_mul];omega
  rw[this];omega
def OE(s:MV):Bool:=aX s.B
def OD(s:MV):Bool:=lV s.B
def OO(s:MV):Bool:=s.B==4&&s.q==5
def jQ(ts:List NB):Bool:=decide (4<NY OE ts)||decide (3<NY OD ts)||decide (3<NY OO ts)
end P
def Jl(B bt n cap:Nat)(ts:List NB)(w:World)(h:fN w B (MU bt n cap) ts)(hn:n=K ts)(av:n<10)(f:∀t∈ts,K t.S<10000):
  Calls prog 30 #[T #[MU bt n cap]] w fun e w'=>e=U (.bool (jQ ts))/\Below (J (V w)) w w':=by
 have HA:=MS h;have N:=MS hn;have HS:=MS f;clear h hn f;go_enter func30,ntmps30;go_wp2;go_loopw[3,4,5,13] (fun a b c i wr=>∃k:Nat,k<=n/\i=C G k/\a=C G (NY P.OE (ts.take k))/\b=C G (NY P.OD (ts.take k))/\c=C G (NY P.OO (ts.take k))/\Below (J (V w)) w wr) fun _ _ _ i _=>n-(intOf i).toNat
 case atStart=>exact⟨0,x5 _,Z,by simp[NY],by simp[NY],by simp[NY],(x4 _ _).alloc (x3 _) _⟩
 case round =>
  obtain⟨k,hk,rfl,rfl,rfl,rfl,d⟩:=hrel;have x:∀t∈ts.take k,K t.S<10000:=fun t ht=>HS.o t (List.mem_of_mem_take ht)
  have al:=JC P.OE (ts.take k) 10000 x;have am:=JC P.OD (ts.take k) 10000 x;have ak:=JC P.OO (ts.take k) 10000 x;have aq:(ts.take k).length<=k:=xg _ _;clear x;by_cases hlt:k<n
  ·have m:k<K ts:=by rw[<- N.o];exact hlt
   obtain⟨y,sa,sc,c0,c1,c2,ho⟩:=AI HA.o N.o k m;have d0:=MZ d y c0;have d1:=MZ d y c1;have d2:=MZ d y c2;have au:=HS.o ts[k] (x7 m);have HR:=MS (MN P.OE ts k m);have HW:=MS (MN P.OD ts k m);have HF:=MS (MN P.OO ts k m);have O:=MS ho;generalize f:ts[k]=t at*;have ad:0<K t.S->∃b,sa=L ⟨b,0,Y⟩/\b<J (V w):=fun h0=>by
    rcases ho.2 with⟨e,ai⟩|⟨b',c',ah,e,aj,aa,_⟩
    ·omega
    ·simp only[Value.slice.injEq]at e;exact⟨b',e.1,(Array.getElem?_eq_some_iff.1 aa).1⟩
   clear f c0 c1 c2 ho;have I:MT (Below (J (V w)) w (wr.alloc (M #[C G t.block,C G t.i,E sa (K t.S) sc] 132))):=d.alloc d.size _;clear d;generalize hR:NY P.OE (ts.take k)=R at*;generalize hW:NY P.OD (ts.take k)=W at*;generalize hF:NY P.OO (ts.take k)=F at*;clear hR hW hF;go_wp2;go_loopw[3,4,5,20] (fun a b c j w2=>∃q:Nat,q<=K t.S/\j=C G q/\a=C G (R+P.NA P.OE (t.S.take q))/\b=C G (W+P.NA P.OD (t.S.take q))/\c=C G (F+P.NA P.OO (t.S.take q))/\Below (J (V w)) w w2) fun _ _ _ j _=>K t.S-(intOf j).toNat
   case atStart=>exact⟨0,x5 _,Z,by simp[P.NA],by simp[P.NA],by simp[P.NA],I.o⟩
   case round =>
    obtain⟨q,hq,rfl,rfl,rfl,rfl,d⟩:=hrel;have ao:=oZ P.OE (t.S.take q);have ap:=oZ P.OD (t.S.take q);have an:=oZ P.OO (t.S.take q);have ar:(t.S.take q).length<=q:=xg _ _;by_cases hql:q<K t.S
    ·obtain⟨b,rfl,H⟩:=ad (by omega);have hr:=MS (jM (AS O.o Z q hql) (d.block b H));have KR:=MS (FO P.OE t.S q hql);have KW:=MS (FO P.OD t.S q hql);have X:=MS (FO P.OO t.S q hql);generalize f:t.S[q]=l at hr KR KW X;clear f;generalize af:P.NA P.OE (t.S.take q)=xR at*;generalize ag:P.NA P.OD (t.S.take q)=xW at*;generalize ae:P.NA P.OO (t.S.take q)=xF at*;clear af ag ae
     cases b1:P.aX l.B<;>cases b2:lV l.B<;>cases b3:l.B==4
     all_goals
      try cases b4:l.q==5
     all_goals
      have e1:P.OE l=P.aX l.B:=Z;have e2:P.OD l=lV l.B:=Z;have e3:P.OO l=(l.B==4&&l.q==5):=Z;have NR:MT (P.NA P.OE (t.S.take (q+1))=_):=KR.o;have NW:MT (P.NA P.OD (t.S.take (q+1))=_):=KW.o;have NF:MT (P.NA P.OO (t.S.take (q+1))=_):=X.o;rw[e1,b1]at NR;rw[e2,b2]at NW;simp only[e3,b3,b4]at NF;clear e1 e2 e3 KR KW X;go_wp2_with(first|(refine mD (.tmp 22) Z Z b (q*11) l Z hr.o ?_)|(go_at_call 52;refine(LN _ _).mono ?_;rintro e w' ⟨rfl,rfl⟩)|(go_at_call 53;refine(Fy _ _).mono ?_;rintro e w' ⟨rfl,rfl⟩));go_roundw
      case rel=>exact⟨q+1,by omega,by go_num,by rw[NR.o];simp<;>omega,by rw[NW.o];simp<;>omega,by rw[NF.o];simp<;>omega,d.alloc d.size _⟩
      case measure=>simp[intOf];omega
    ·have ac:q=K t.S:=by omega
     subst ac;have z:MT (t.S.take (K t.S)=t.S):=xj;go_wp2;go_roundw
     case rel=>exact⟨k+1,by omega,by go_num,by rw[HR.o,z.o],by rw[HW.o,z.o],by rw[HF.o,z.o],d⟩
     case measure=>simp[intOf];omega
  ·have ab:k=n:=by omega
   subst ab;have z:MT (ts.take k=ts):=xm (by have:=N.o;omega);have O:MT (jQ ts=(decide (4<NY P.OE (ts.take k))||decide (3<NY P.OD (ts.take k))||decide (3<NY P.OO (ts.take k)))):=by
    unfold MT;rw[z.o];rfl
   generalize NY P.OE (ts.take k)=R at*;generalize NY P.OD (ts.take k)=W at*;generalize NY P.OO (ts.take k)=F at*;go_wp2
   all_goals go_ret
   all_goals rw[O.o]
   all_goals refine⟨?_,d⟩
   all_goals simp[*]
namespace P
def VD(c:List (List UInt8)):∀(k:Nat) (r:Rd),Good k r->Good (k+K c) (OX r c).1/\r.i<=(OX r c).1.i/\((OX r c).2=D->r.i<(OX r c).1.i):=by
 induction c with
 |nil=>intro k r h;exact⟨h,by simp[OX],by simp[OX]⟩
 |cons x r ih =>
  intro k q h;have e:=UO (ND 32 x) h (by have:=h.lin1;omega);have d:(cW {q with i:=q.i+1} (ND 32 x)).1.i=q.i+1:=by
   unfold cW
   split
   ·unfold eG
    split
    ·rfl
    ·split
     ·split<;>rfl
     ·rfl
   ·split
    ·rfl
    ·simp only[]
     split
     ·split
      ·unfold fC;split<;>rfl
      ·split
       ·rfl
       ·split
        ·split
         ·rfl
         ·unfold branch;split<;>rfl
        ·rfl
     ·rfl
  simp only[OX]
  cases f:(cW {q with i:=q.i+1} (ND 32 x)).2
  ·refine⟨?_,?_,?_⟩
   ·have:=e;refine⟨this.few,fun t f=>?_,this.O,this.ifs0,?_,this.NA,this.lin0,?_⟩
    ·have:=this.stm t f;simp;omega
    ·have:=this.ifs1;simp at*;omega
    ·have:=this.lin1;simp at*;omega
   ·simp[d];omega
   ·simp[d];omega
  ·obtain⟨j,l,m⟩:=ih (k+1) _ e;simp only[if_true];refine⟨?_,?_,?_⟩
   ·rw[show k+(x::r).length=k+1+K r by simp;omega];exact j
   ·rw[d]at l;omega
   ·intro o;have:=m o;rw[d]at this;omega
def VE(l:List UInt8)(h:(cS l).2=0):(cS l).1≠[]/\(cS l).1.length<=4/\∀t∈(cS l).1,K t.S<=K l:=by
 have q:=CF 10 l;obtain⟨d,m,f⟩:=VD (ND 10 l).dropLast 0 Rd.zero MD;have o:(ND 10 l).dropLast.length<=K l:=by rw[List.length_dropLast];omega
 unfold cS at h⊢;simp only[]at h⊢
 cases hq:(OX Rd.zero (ND 10 l).dropLast).2
 ·have:=f hq;have z:Rd.zero.i=0:=Z;simp[hq]at h;omega
 ·simp only[hq,if_true]at h⊢
  split at h
  ·have z:Rd.zero.i=0:=Z;simp at h;omega
  ·rename_i c;rw[if_neg c];refine⟨fun e=>c (Or.inr (Or.inr e)),d.few,fun t j=>?_⟩;have:=d.stm t j;omega
def PK(l:List UInt8):List NB×Int×Int :=
 if 2000<K l then([],1,0)
 else if(cS l).2 != 0 then([],2,(cS l).2)
 else if kX (cS l).1 != 0 then([],3,kX (cS l).1)
 else if iU (cS l).1 (cS l).1 != 0 then([],3,iU (cS l).1 (cS l).1)
 else if jQ (cS l).1 then([],4,0)
 else((cS l).1,0,0)
end P
def Jm{v:Tmp}{e:TypeId}(h:fn.results=#[.cell p e,.tmp u,.tmp v])(c:Array Value)(d:Program)(w:World):
  (results fn c).run d w=((asAddr (c.getD p undef)).run d w).andThen fun a f=>((loadVar e a).run d f).andThen fun x i=>.ok (.tuple #[x,c.getD u undef,c.getD v undef]) i:=by
 simp only[results,h];simp[Sem.run_bind,Result.andThen]
def JQ{R:Ending->World->Prop}{v:Tmp}(g:Nat)(tv d e:Value)(c:fn.results=#[.cell p 40,.tmp u,.tmp v])(j:a.tmps.getD p undef=.pointer (L ⟨g,0,Y⟩))(l:a.tmps.getD u undef=d)(m:a.tmps.getD v undef=e)(h:w.heap[g]?=L (M #[tv] 40 (0,0)))(i:a.defers=[])(f:R (U (.tuple #[T #[tv],d,e])) w):bodyPost prog fn R .ret a w:=by
 refine bodyPost_ret (v:=.tuple #[T #[tv],d,e]) ?_ i f;rw[Jm c,j,l,m];have:(asAddr (.pointer (L ⟨g,0,Y⟩))).run prog w=.ok ⟨g,0,Y⟩ w:=Z;rw[this,x9,vW w g _ _ _ h _ underlying40 rfl (by kernel_rfl),x9]
def fN.base(h:fN w B tv ts)(c:B'<=B):fN w B' tv ts:=by
 obtain⟨vs,d,e⟩:=h;exact⟨vs,BK d c,e.base c⟩
def Jn(s:ByteArray)(w:World)(hs:s.size<=8192)(h:2000<s.size):
  Calls prog 25 #[A s] w fun e w'=>e=U (.tuple #[T #[E Y 0 0],C G 1,C G 0])/\Below (J (V w)) w w':=by
 have c:(2000:Int)<(s.size:Int):=by omega
 go_enter func25,ntmps25;go_wp2;refine JQ (p:=2) (u:=3) (v:=4) (J (V w)) (E Y 0 0) _ _ (by kernel_rfl) Z Z Z (by exact heap_alloc_new w _) Z ⟨Z,?_⟩;exact(x4 _ _).alloc (x3 _) _
def fN.form(h:fN w B tv ts):∃a c,tv=E a (K ts) c/\(ts≠[]->∃bt,a=L ⟨bt,0,Y⟩):=by
 obtain⟨vs,j,l⟩:=h
 rcases j.2 with⟨e,f⟩|⟨k,c,i,e,_⟩
 ·exact⟨Y,0,by rw[e,f],fun d=>absurd (List.eq_nil_of_length_eq_zero f) d⟩
 ·exact⟨_,c,e,fun _=>⟨k,Z⟩⟩
def Jo(s:ByteArray)(w:World)(hs:s.size<=8192)(h:s.size<=2000)(x:((cS s.toList).2 != 0)=true):
  Calls prog 25 #[A s] w fun e w'=>e=U (.tuple #[T #[E Y 0 0],C G 2,C G (cS s.toList).2])/\Below (J (V w)) w w':=by
 have t:¬(2000:Int)<(s.size:Int):=by omega
 go_enter func25,ntmps25;go_wp2_with(first|(go_at_call 41;refine(VC s _ hs).mono ?_;rintro e l ⟨tv,rfl,j,d⟩;obtain⟨y,z,rfl,q⟩:=j.form;have m:J (V w)+1<=J (V l):=(by have:=d.size;simp at this;omega);have c:l.heap[J (V w)]?=L (M #[E Y 0 0] 40 (0,0)):=(by rw[d.block _ (by simp)];exact heap_alloc_new w _);obtain⟨z0,F,H⟩:=oC c;have f:=MS c;have i:MT (Below (J (V w)) w l):=((x4 _ _).alloc (x3 _) _).trans (d.mono (by simp))));refine JQ (p:=2) (u:=3) (v:=4) (J (V w)) (E Y 0 0) _ _ (by kernel_rfl) Z Z Z ?_ Z ⟨Z,?_⟩
 ·rw[x6 _ _ _ (by simp;omega)];exact bX f.o 0 _
 ·exact(i.setCell (x3 _) _).alloc (by simp;omega) _
def fN.set(h:fN w (B+1) tv ts)(u:Value):fN (w.setCell ⟨B,0,Y⟩ u) B tv ts:=by
 obtain⟨vs,d,e⟩:=h;refine⟨vs,BK (bE d fun k c=>?_) (by omega),(e.keep fun v i k c=>?_).base (by omega)⟩
 ·have:=(d.lt k c).1;exact xa _ _ _ _ (by simp;omega)
 ·obtain⟨n,j,f⟩:=e.mem v i;have:=(f.lt k c).1;exact xa _ _ _ _ (by simp;omega)
def Jp{c:World}(j:fN c B tv ts)(f:Below (J (V w)) w c)(d:c.heap[J (V w)]?=L (M #[E Y 0 0] 40 (0,0)))(e:Below (c.alloc (M #[tv] 40)).heap.size (c.alloc (M #[tv] 40)) w')(l:J (V w)+1<=B:=by simp):
  fN w' (J (V w)+1) tv ts/\Below (J (V w)) w w'/\w'.heap[J (V w)]?=L (M #[E Y 0 0] 40 (0,0))/\w'.heap[J (V c)]?=L (M #[tv] 40 (0,0))/\J (V c)<J (V w'):=by
 have i:J (V w)<J (V c):=(Array.getElem?_eq_some_iff.1 d).1;refine⟨(j.keep fun k m=>?_).base l,?_,?_,?_,?_⟩
 ·rw[e.block k (by simp;omega)];exact x6 _ _ _ m
 ·exact(f.alloc f.size _).trans (e.mono (by simp;omega))
 ·rw[e.block _ (by simp;omega),x6 _ _ _ i];exact d
 ·rw[e.block _ (by simp)];exact heap_alloc_new c _
 ·have:=e.size;simp at this;omega
