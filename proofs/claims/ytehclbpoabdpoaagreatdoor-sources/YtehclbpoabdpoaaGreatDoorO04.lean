import Derived.Deep.AppendLies
import Derived.Test.YtehclbpoabdpoaaGreatDoorO03
set_option linter.all false
set_option maxHeartbeats 0
namespace Go.Proofs.YtehclbpoabdpoaaGreatDoor
open Go Go.RowKit Go.Proofs.Tryz P Q
set_option maxRecDepth 1000000
variable {w w':World}{B cap g k n sz:Nat}{e e':TypeId}{ov tv v:Value}{vs xs:List Value}{r:Rd}
open List renaming length->M
open _root_.Array renaming size->L
open Go.World renaming heap->D,cell?->T
open Option renaming some->Y,none->G
open Go.Obj renaming cells->C
open Go.IntKind renaming i64->E
open Go.Value renaming int->U,string->z
open _root_.ByteArray renaming toList->xF,empty->x2
open Nat renaming le_refl->xR
open Go.Value renaming ownBlock->xW,string->x4,int->x5
open Go.RowKit.Below renaming heap_alloc->x1,heap_setCell->x6
open List renaming length_take->x3,drop_append_of_le_length->x7,take_of_length_le->x8
open Go.World renaming cell?_of_block->x9
def BS(s:ByteArray)(m k:Nat):(s.extract m k).toList=(s.toList.take k).drop m:=by
 rw[oO,oO,List.drop_take];simp
def wY(s:ByteArray)(k:Nat)(h:k<s.size):s.toList.take (k+1)=s.toList.take k++[s[k]]:=by
 rw[oO,List.take_succ_eq_append_getElem (by simpa using h)];rfl
def Tryz.infoStr:(prog.info? 9).map (fun i=>(i.zero,i.size,i.bytes))=Y (Y (z x2),1,16):=by kernel_rfl
def Hr(c:UInt8)(s:ByteArray)(k m:Nat)(a:List ByteArray)(d:k<s.size)(h:ND c (s.toList.take k)=a.map xF++[(s.toList.take k).drop m])(b:s[k]=c):
  ND c (s.toList.take (k+1))=(a++[s.extract m k]).map xF++[(s.toList.take (k+1)).drop (k+1)]:=by
 rw[wY s k d,CP _ _ _ _ _ h,if_pos b];simp[BS];omega
def Hs(c:UInt8)(s:ByteArray)(k m:Nat)(a:List ByteArray)(d:k<s.size)(f:m<=k)(h:ND c (s.toList.take k)=a.map xF++[(s.toList.take k).drop m])(b:¬s[k]=c):
  ND c (s.toList.take (k+1))=a.map xF++[(s.toList.take (k+1)).drop m]:=by
 rw[wY s k d,CP _ _ _ _ _ h,if_neg b];have:m<=(s.toList.take k).length:=by rw[x3,jR];omega
 rw[x7 this]
def UR(s:ByteArray)(c:UInt8)(k:Nat)(h:k<s.size):((s.extract k (k+1)).toList==(⟨#[c]⟩:ByteArray).toList)=decide (s[k]=c):=by
 have e:(s.extract k (k+1)).toList=[s[k]]:=by
  rw[BS,wY s k h,x7 (by rw[x3,jR];omega),List.drop_of_length_le (by rw[x3];omega)];rfl
 have e2:(⟨#[c]⟩:ByteArray).toList=[c]:=by rw[oO]
 rw[e,e2];by_cases hc:s[k]=c<;>simp[hc]
def US(c:UInt8)(s:ByteArray)(w:World)(hs:s.size<=8192):
  Calls prog 78 #[z s,z ⟨#[c]⟩] w fun e w'=>∃g cap,∃N:List ByteArray,e=.returned (MU g (M N) cap)/\N.map xF=ND c s.toList/\
   w'.ownsRow (L (D w)) 9 1 (MU g (M N) cap) (M N) (N.map x4)/\Below (L (D w)) w w':=by
 obtain⟨i0,hi,I,J,K⟩:=info_parts Tryz.infoStr;have aa:(⟨#[c]⟩:ByteArray).size=1:=Z;generalize q:(⟨#[c]⟩:ByteArray)=y at*;go_enter func78,ntmps78;go_wp2;go_loopw[5,6,7] (fun v f i wr=>∃k m:Nat,∃p:List ByteArray,k<=s.size/\m<=k/\i=U E k/\f=U E m/\M p<=k/\MT (ND c (s.toList.take k)=p.map xF++[(s.toList.take k).drop m])/\
   wr.ownsRow (L (D w)) 9 1 v (M p) (p.map x4)/\Below (L (D w)) w wr) fun _ _ i _=>s.size-(intOf i).toNat
 case atStart=>exact⟨0,0,[],Nat.zero_le _,xR _,Z,Z,xR _,by unfold MT;simp[ND],World.ownsRow_nil _ _ _ _,Below.refl _ _⟩
 case round =>
  obtain⟨k,m,p,hk,hm,rfl,rfl,ab,S,b,a⟩:=hrel;have ad:(m:Int)<=(k:Int):=by omega
  by_cases hlt:k<s.size
  ·have F:(k:Int)+1<=(s.size:Int):=by omega
   have ac:∀O,(Instr.slice 9 (z s) (Y (U E (k:Int))) (Y (U E ((k:Int)+1))) G).run prog O=.ok (z (s.extract k (k+1))) O:=fun O=>by
    rw[run_slice_string O 9 s E E _ _ underlying9 (by omega) (by omega) (by omega),show (k:Int).toNat=k by omega,show((k:Int)+1).toNat=k+1 by omega]
   by_cases hc:s[k]=c
   ·have hq:((s.extract k (k+1)).toList==y.toList)=true:=by rw[<- q,UR s c k hlt];simpa using hc
    have HC:=MS hc;go_wp2_with(first
     |(at_builtin;refine wpList_append_lies _ Z (.tmp 38) (.tmp 43) 45 Z (L (D w)) 9 i0 (z x2) 1 16 underlying45 hi I J K Z (by decide) _ _ _ Z (b.alloc _) ⟨L (D wr),0,G⟩ 1 1 [z (s.extract m k)] Z Z ?c1 ?c2 (by decide) ?c3 ?c4 ?c5 _ Z ?_))
    case c1 =>
     intro j u t
     match j,t with
     |0,t=>simp at t;subst t;simp[Addr.add]
    case c2=>intro u H;simp at H;subst H;rfl
    case c3=>unfold maxLen;omega
    case c4=>omega
    case c5=>have:=a.size;simp;omega
    intro g cap w1 l d W A;have R:=Hr c s k m p hlt S.o HC.o;have HR:=MS R;have x:Below (L (D w)) w w1:=(a.alloc a.size _).grown d (by have:=a.size;simp;omega) fun j t=>(b.lt j t).1;go_wp2;go_roundw
    case rel=>exact⟨k+1,k+1,p++[s.extract m k],by omega,xR _,by go_num,by go_num,by simp;omega,HR,by simpa using l,x⟩
    case measure=>simp[intOf];omega
   ·have hq:((s.extract k (k+1)).toList==y.toList)=false:=by rw[<- q,UR s c k hlt];simpa using hc
    have HR:=MS (Hs c s k m p hlt hm S.o hc);go_wp2;go_roundw
    case rel=>exact⟨k+1,m,p,by omega,by omega,by go_num,Z,by omega,HR,b,a⟩
    case measure=>simp[intOf];omega
  ·have F:¬(k:Int)+1<=(s.size:Int):=by omega
   have V:MT ((p++[s.extract m s.size]).map xF=ND c s.toList):=by
    have X:k=s.size:=by omega
    subst X;unfold MT;have:=S.o;rw[x8 (by rw[jR];exact xR _)]at this;rw[this];simp[BS,x8,jR]
   go_wp2_with(first
     |(at_builtin;refine wpList_append_lies _ Z (.tmp 49) (.tmp 53) 45 Z (L (D w)) 9 i0 (z x2) 1 16 underlying45 hi I J K Z (by decide) _ _ _ Z (b.alloc _) ⟨L (D wr),0,G⟩ 1 1 [z (s.extract m s.size)] Z Z ?d1 ?d2 (by decide) ?d3 ?d4 ?d5 _ Z ?_))
   case d2=>first|rfl|(intro u H;simp at H;subst H;rfl)
   case d3=>unfold maxLen;omega
   case d4=>omega
   case d5=>have:=a.size;simp;omega
   intro g cap w1 l d W A;have x:Below (L (D w)) w w1:=(a.alloc a.size _).grown d (by have:=a.size;simp;omega) fun j t=>(b.lt j t).1;go_wp2;go_ret;exact⟨g,cap,p++[s.extract m s.size],by simp,V.o,by simpa using l,x⟩
def KI{a:List ByteArray}(h:w.ownsRow B 9 1 (MU g (M a) cap) (M a) (a.map x4)):NQ w g 0 a/\M a<=cap/\g<L (D w):=by
 refine⟨fun i s hs=>?_,?_,(h.lt g Z).2⟩
 ·have o:=(List.getElem?_eq_some_iff.1 hs).1;rw[Nat.zero_add,h.cellAt i (by omega)];simp[hs]
 ·rcases h.2 with⟨b,_⟩|⟨j,c,d,b,l,m,f,_⟩
  ·simp at b
  ·simp only[Value.slice.injEq]at b;omega
def QL:List NB->List Value->List Value
 |t::ts,v::vs=>U E t.block::U E t.i::v::QL ts vs
 |_,_=>[]
def kQ(l:List MV):List Value:=l.flatMap fun s=>(aV s).toList
def Ht(l:List MV)(s:MV):kQ (l++[s])=kQ l++(aV s).toList:=by simp[kQ]
def QE(w:World)(B:Nat):List NB->List Value->Prop
 |[],[]=>True
 |t::ts,v::vs=>w.ownsRow B 137 11 v (M t.S) (kQ t.S)/\(∀u∈vs,v.ownBlock=G\/v.ownBlock≠u.ownBlock)/\QE w B ts vs
 |_,_=>False
structure OZ(w:World)(B g:Nat)(r:Rd)(tv ov:Value)(vs:List Value):Prop where
 cells:w.heap[g]?=Y (C #[tv,U E r.most,U E r.count,U E r.I,ov] 125 (0,0))
 H:w.ownsRow B 132 3 tv (M r.H) (QL r.H vs)
 O:w.ownsRow B 3 1 ov (M r.O) (r.O.map (x5 E))
 S:QE w B r.H vs
def dU(w:World)(B g:Nat)(r:Rd):Prop:=∃tv ov vs,OZ w B g r tv ov vs
def bE(h:w.ownsRow B e sz v n xs)(d:∀k,v.ownBlock=Y k->w'.heap[k]?=w.heap[k]?):w'.ownsRow B e sz v n xs:=by
 refine⟨h.1,?_⟩
 rcases h.2 with f|⟨g,cap,a,rfl,c,b,rest⟩
 ·exact .inl f
 ·exact .inr ⟨g,cap,a,Z,c,by rw[d g rfl];exact b,rest⟩
def QE.vO{w:World}{B:Nat}:∀{a:List NB} {vs:List Value},QE w B a vs->M vs=M a
 |[],[],_=>Z
 |_::_,_::_,h=>by simp[QE.vO h.2.2]
def QE.keep{w w':World}{B:Nat}:∀{a:List NB} {vs:List Value},QE w B a vs->(∀v∈vs,∀k,v.ownBlock=Y k->w'.heap[k]?=w.heap[k]?)->QE w' B a vs
 |[],[],_,_=>trivial
 |_::_,v::_,h,hk=>⟨bE h.1 (hk v (by simp)),h.2.1,QE.keep h.2.2 fun u b=>hk u (by simp[b])⟩
def QE.mem{w:World}{B:Nat}:∀{b:List NB} {vs:List Value},QE w B b vs->∀v∈vs,∃n xs,w.ownsRow B 137 11 v n xs
 |[],[],_,u,a=>by simp at a
 |_::_,v::_,h,u,a=>by
  rcases List.mem_cons.1 a with rfl|a
  ·exact⟨_,_,h.1⟩
  ·exact QE.mem h.2.2 u a
def OZ.lt(h:OZ w B g r tv ov vs):g<L (D w):=(Array.getElem?_eq_some_iff.1 h.cells).1
def OZ.keep(h:OZ w B g r tv ov vs)(a:∀k,k<L (D w)->w'.heap[k]?=w.heap[k]?):OZ w' B g r tv ov vs :=
 ⟨by rw[a g h.lt];exact h.cells,bE h.H fun k e=>a k (h.H.lt k e).2,bE h.O fun k e=>a k (h.O.lt k e).2,
  h.S.keep fun v c k e=>by obtain⟨n,xs,b⟩:=h.S.mem v c;exact a k (b.lt k e).2⟩
def dU.X(h:dU w B g r)(a:Below (L (D w)) w w'):dU w' B g r:=by
 obtain⟨tv,ov,vs,h⟩:=h;exact⟨tv,ov,vs,h.keep a.block⟩
def gQ(h:w.ownsRow B e sz v n xs)(c:v.ownBlock=Y k):∃a,w.heap[k]?=Y (C a e (0,0)):=by
 rcases h.2 with⟨rfl,_⟩|⟨g,cap,a,rfl,d,b,rest⟩
 ·simp[xW]at c
 ·simp[xW]at c;subst c;exact⟨a,b⟩
def iP{l:Nat}{f:Nat}{j:Value}{q:Nat}{i:List Value}(h:w.ownsRow B e sz v n xs)(m:w.ownsRow l e' f j q i)(d:e≠e')(p:v.ownBlock=Y k):j.ownBlock≠Y k:=by
 intro b;obtain⟨c,o⟩:=gQ h p;obtain⟨s,a⟩:=gQ m b;rw[o]at a;simp at a;exact d a.2
def pE{cs:Array Value}{d:Nat×Nat}(h:w.ownsRow B e sz v n xs)(a:w.heap[g]?=Y (C cs e' d))(b:e≠e'):v.ownBlock≠Y g:=by
 intro i;obtain⟨c,f⟩:=gQ h i;rw[f]at a;simp at a;exact b a.2.1
def zQ:∀(c:List NB) (vs:List Value) (t:NB) (v:Value),M vs=M c->QL (c++[t]) (vs++[v])=QL c vs++[U E t.block,U E t.i,v]
 |[],[],_,_,_=>Z
 |a::r,b::q,t,v,h=>by simp[QL,zQ r q t v (by simpa using h)]
def AN:∀(c:List NB) (vs:List Value),M vs=M c->(QL c vs).length=M c*3
 |[],[],_=>Z
 |a::r,b::q,h=>by simp[QL,AN r q (by simpa using h)];omega
def zY{w:World}{B:Nat}:∀(o:List NB) (vs:List Value) (t:NB) (v:Value),QE w B (o++[t]) (vs++[v])↔QE w B o vs/\w.ownsRow B 137 11 v (M t.S) (kQ t.S)/\∀u∈vs,u.ownBlock=G\/u.ownBlock≠v.ownBlock
 |[],[],t,v=>by simp[QE]
 |[],b::q,t,v=>by
  cases q with
  |nil=>simp[QE]
  |cons c q=>simp[QE]
 |a::r,[],t,v=>by
  cases r with
  |nil=>simp[QE]
  |cons c q=>simp[QE]
 |a::r,b::q,t,v=>by
  have ih:=zY (w:=w) (B:=B) r q t v;simp only[List.cons_append,QE,ih];constructor
  ·rintro⟨j,f,l,m,i⟩;refine⟨⟨j,fun u d=>f u (by simp[d]),l⟩,m,fun u d=>?_⟩
   rcases List.mem_cons.1 d with rfl|d
   ·exact f v (by simp)
   ·exact i u d
  ·rintro⟨⟨j,f,l⟩,m,i⟩;refine⟨j,fun u d=>?_,l,m,fun u d=>i u (by simp[d])⟩
   rcases List.mem_append.1 d with d|d
   ·exact f u d
   ·simp at d;subst d;exact i b (by simp)
def nC{α:Type}(l:List α)(h:l≠[]):∃a b,l=a++[b]:=⟨l.dropLast,l.getLast h,(List.dropLast_concat_getLast h).symm⟩
def Tryz.infoStm:(prog.info? 137).map (fun i=>(i.zero,i.size,i.bytes))=Y (Y (.agg (aV MV.zero)),11,88):=by kernel_rfl
def Hu{W0 X:World}{l p m o d:Nat}{F:List NB}{t:NB}{V:Value}{W:MV}(hr:r.H=F++[t])(hn:M F=n)(hm:M t.S=m)(h:OZ w B g r (MU l (n+1) p) ov (vs++[V]))(hk:∀k,k<L (D w)->W0.heap[k]?=w.heap[k]?)(al:L (D w)<=L (D W0))(ah:W0.os=w.os)(aj:W0.tape=w.tape)(ai:W0.output=w.output)(hB:B<=L (D w))(ae:X.ownsRow B 137 11 (MU o (m+1) d) (m+1) (kQ t.S++(aV W).toList))(b:W0.grownBy X V.ownBlock)(ab:V.ownBlock=Y o\/o=L (D W0)):
  dU (X.setCell ⟨l,n*3+2,G⟩ (MU o (m+1) d)) B g (P.put r W)/\Below B w (X.setCell ⟨l,n*3+2,G⟩ (MU o (m+1) d)):=by
 have ag:=h.S;rw[hr,zY]at ag;obtain⟨x,N,af⟩:=ag;have f:=h.H;have ac:=gQ f (k:=l) Z;obtain⟨aa,j⟩:=ac;have I:l<L (D w):=(Array.getElem?_eq_some_iff.1 j).1;have s:M vs=M F:=x.vO;have q:∀k c e fr,w.heap[k]?=Y (C c e fr)->e≠137->V.ownBlock≠Y k:=fun k c e fr hc he=>pE N hc (Ne.symm he)
 have same:∀k,k<L (D w)->V.ownBlock≠Y k->k≠l->(X.setCell ⟨l,n*3+2,G⟩ (MU o (m+1) d)).heap[k]?=w.heap[k]?:=fun k K h1 h2=>by
  rw[x6 _ _ _ _ h2,b.block k (by omega) (Ne.symm h1),hk k K]
 have J:o≠l:=by
  intro e;subst e
  rcases ab with ha|ha
  ·exact q o aa _ _ j (by decide) ha
  ·omega
 refine⟨⟨MU l (n+1) p,ov,vs++[MU o (m+1) d],?_,?_,?_,?_⟩,?_⟩
 ·have ad:g≠l:=fun e=>by subst e;rw[h.cells]at j;simp at j
  rw[same g h.lt (q g _ _ _ h.cells (by decide)) ad];exact h.cells
 ·have h1:X.ownsRow B 132 3 (MU l (n+1) p) (n+1) (QL r.H (vs++[V])):=by
   have e:M r.H=n+1:=by rw[hr];simp;omega
   rw[e]at f;exact bE f fun k a=>by
    simp[xW]at a;subst a;rw[b.block l (by omega) (Ne.symm (q l aa _ _ j (by decide))),hk l I]
  have h2:=(h1.stored (n*3+2) (MU o (m+1) d)).1;have e1:(P.put r W).H=F++[{t with S:=t.S++[W]}]:=by simp only[P.put,hr,wO]
  rw[e1,zQ _ _ _ _ s];rw[hr,zQ _ _ _ _ s]at h2;have e2:(QL F vs++[x5 E t.block,U E t.i,V]).set (n*3+2) (MU o (m+1) d)=QL F vs++[U E t.block,U E t.i,MU o (m+1) d]:=by
   rw[List.set_append_right _ _ (by rw[AN _ _ s];omega),AN _ _ s,show n*3+2-M F*3=2 by omega];rfl
  rw[e2]at h2;simpa[hn]using h2
 ·refine bE h.O fun k a=>?_;have hl:=h.O.lt k a;refine same k hl.2 ?_ ?_
  ·exact iP h.O N (by decide) a
  ·intro e;subst e;exact iP h.O f (by decide) a Z
 ·have e1:(P.put r W).H=F++[{t with S:=t.S++[W]}]:=by simp only[P.put,hr,wO]
  rw[e1,zY];refine⟨x.keep fun u hu k a=>?_,?_,fun u hu=>?_⟩
  ·obtain⟨n',ak,y⟩:=x.mem u hu;have K:=(y.lt k a).2;refine same k K (fun e=>?_) fun e=>?_
   ·rcases af u hu with A|A
    ·rw[A]at a;cases a
    ·exact A (by rw[a,e])
   ·subst e;exact iP y f (by decide) a Z
  ·have:=ae;rw[<- Ht]at this;refine bE (by simpa[hm]using this) fun k a=>?_;simp[xW]at a;subst a;exact x6 _ _ _ _ J
  ·rcases af u hu with A|A
   ·exact .inl A
   ·rcases ab with ha|ha
    ·exact .inr (by rw[ha]at A;exact A)
    ·refine .inr fun e=>?_;obtain⟨n',ak,y⟩:=x.mem u hu;have:=(y.lt o e).2;omega
 ·refine⟨b.os.trans ah,b.tape.trans aj,b.output.trans ai,?_,fun k a=>?_⟩
  ·have:=b.size;simp[World.setCell];omega
  ·refine same k (by omega) (fun e=>?_) fun e=>?_
   ·have:=(N.lt k e).1;omega
   ·have:=(f.lt l Z).1;omega
def Hv(B g c n p:Nat)(a:MV)(l:Value)(m:Nat)(xs:List Value)(w:World)(hg:T w ⟨g,0,G⟩=Y (MU c (n+1) p))(hn:n<5)(hm:m<10000)(hc:T w ⟨c,n*3+2,G⟩=Y l)(hf:w.frozen? ⟨c,n*3+2,G⟩=false)(s:w.ownsRow B 137 11 l m xs)(F:Y c≠l.ownBlock)(H:Y g≠l.ownBlock)(hB:B<=L (D w))(A:g<L (D w))(q:c<L (D w))(Q:Ending->World->Prop)(V:∀y d J,J.ownsRow B 137 11 (MU y (m+1) d) (m+1) (xs++(aV a).toList)->((w.alloc (C (aV a) 137)).drew.alloc (C (aV a) 137)).grownBy J l.ownBlock->l.ownBlock=Y y\/y=L (D w)+2 ->
   Q (.returned (.tuple #[])) (J.setCell ⟨c,n*3+2,G⟩ (MU y (m+1) d))):
  Calls prog 129 #[.pointer (Y ⟨g,0,G⟩),.agg (aV a)] w Q:=by
 obtain⟨i0,hi,N,O,S⟩:=info_parts Tryz.infoStm;have i:((w.alloc (C (aV a) 137)).drew.alloc (C (aV a) 137)).ownsRow B 137 11 l m xs:=((s.alloc _).drew).alloc _;have HO:=MS i;have f:∀j u,(aV a).toList[j]?=Y u->((w.alloc (C (aV a) 137)).drew.alloc (C (aV a) 137)).cell? ((⟨L (D w)+1,0,G⟩:Addr).add j)=Y u:=World.news_of_block (t:=137) (fr:=(0,0)) (by have:=heap_alloc_new (w.alloc (C (aV a) 137)).drew (C (aV a) 137);simpa using this);have HN:=MS f;have I:∀k,k<L (D w)->((w.alloc (C (aV a) 137)).drew.alloc (C (aV a) 137)).heap[k]?=w.heap[k]?:=fun k hk=>by
  rw[x1 _ _ _ (by simp;omega)];exact x1 _ _ _ hk
 have X:MT (((w.alloc (C (aV a) 137)).drew.alloc (C (aV a) 137)).cell? ⟨c,n*3+2,G⟩=Y l):=(x9 (w:=w) (I c q)).trans hc;have HF:MT (((w.alloc (C (aV a) 137)).drew.alloc (C (aV a) 137)).frozen? ⟨c,n*3+2,G⟩=false):=(World.frozen?_of_block (w:=w) (I c q)).trans hf;have HG:MT (((w.alloc (C (aV a) 137)).drew.alloc (C (aV a) 137)).cell? ⟨g,0,G⟩=Y (MU c (n+1) p)):=(x9 (w:=w) (I g A)).trans hg;have HQ:=MS V;clear i f I V s;have aa:(n:Int)<(n:Int)+1:=by omega
 have ab:(0:Int)<=(n:Int):=by omega
 simp only[aV];go_enter func129,ntmps129;go_wp2_with fail;go_region_law(refine step_append_lies _ Z (.tmp 25) (.tmp 27) 130 Z B 137 i0 (.agg (aV MV.zero)) 11 88 underlying130 hi N O S Z (by decide) l m xs (by simp[Act.eval]) (by exact HO.o) ⟨L (D w)+1,0,G⟩ 1 1 (aV a).toList (by simp[Act.eval]) Z (by exact HN.o) (by simp[aV,Value.oneCell']) (by decide) (by unfold maxLen;omega) (by omega) (by simp;omega) (L (D w)+2) (by simp) ?_;intro y d J x b K W;have c1:=(b.cell_far ⟨c,n*3+2,G⟩ (by simp;omega) F).trans X.o;have f1:=(b.frozen_far ⟨c,n*3+2,G⟩ (by simp;omega) F).trans HF.o;have d1:=(b.cell_far ⟨g,0,G⟩ (by simp;omega) H).trans HG.o)
 all_goals go_end0
 all_goals exact HQ.o _ _ _ x b K
def zN(N:Nat)(r:Rd):Prop:=M r.H<=4/\∀t∈r.H,M t.S<=N
def LS(B g N:Nat)(r:Rd)(u:MV)(w:World)(h:dU w B g r)(F:r.H≠[])(V:zN N r)(hN:N<10000)(O:B<=L (D w)):
  Calls prog 129 #[.pointer (Y ⟨g,0,G⟩),.agg (aV u)] w fun e w'=>e=.returned (.tuple #[])/\dU w' B g (P.put r u)/\Below B w w':=by
 obtain⟨tv,ov,vs,h⟩:=h;obtain⟨l,t,m⟩:=nC r.H F;have X:=h.S.vO;have s:vs≠[]:=by intro e;subst e;rw[m]at X;simp at X
 obtain⟨J,sv,rfl⟩:=nC vs s;have p:M r.H=M l+1:=by rw[m];simp
 have a:=h.H;rw[p]at a;obtain⟨x,b,rfl,_,c⟩:=a.form (by omega);have q:=h.S;rw[m,zY]at q;obtain⟨I,j,ab⟩:=q;have f:M J=M l:=I.vO;have hc:T w ⟨x,M l*3+2,G⟩=Y sv:=by
  rw[a.cellAt _ (by omega),m,zQ _ _ _ _ f,List.getElem?_append_right (by rw[AN _ _ f];omega),AN _ _ f,show M l*3+2-M l*3=2 by omega];rfl
 have A:T w ⟨g,0,G⟩=Y (MU x (M l+1) b):=by
  simp[World.cell?,h.cells]
 have hm:M t.S<=N:=V.2 t (by rw[m];simp);obtain⟨aa,o⟩:=gQ a (k:=x) Z;refine Hv B g x (M l) b u sv (M t.S) (kQ t.S) w A (by have:=V.1;omega) (by omega) hc (a.frozenAt _) j (Ne.symm (pE j o (by decide))) (Ne.symm (pE j h.cells (by decide))) O h.lt c _ ?_;intro g1 K w1 i d y;refine⟨Z,Hu (W0:=(w.alloc (C (aV u) 137)).drew.alloc (C (aV u) 137)) m Z Z h (fun k hk=>?_) (by simp;omega) Z Z Z O i d (by rcases y with W|W;exact .inl W;right;simp;omega)⟩;rw[x1 _ _ _ (by simp;omega)];exact x1 _ _ _ hk
def OZ.tT(d:Rd)(b:Value)(h:OZ w B g r tv ov vs)(i:Nat)(u:Value)(p:d.H=r.H)(o:w.ownsRow B 3 1 b (M d.O) (d.O.map (x5 E)))(q:(#[tv,U E r.most,U E r.count,U E r.I,ov]:Array Value).setIfInBounds i u=#[tv,U E d.most,U E d.count,U E d.I,b]):
  OZ (w.setCell ⟨g,i,G⟩ u) B g d tv b vs:=by
 have keep:∀k,(∃(c:Array Value) (e:TypeId),w.heap[k]?=Y (Obj.cells c e (0,0))/\e≠125)->(w.setCell ⟨g,i,G⟩ u).heap[k]?=w.heap[k]?:=fun k ⟨c,e,a,j⟩ =>
  x6 _ _ _ _ fun m=>by simp at m;subst m;rw[h.cells]at a;simp at a;exact j a.2.symm
 refine⟨by rw[bX h.cells,q],?_,?_,?_⟩
 ·rw[p];exact bE h.H fun k f=>by obtain⟨c,a⟩:=gQ h.H f;exact keep k ⟨c,_,a,by decide⟩
 ·exact bE o fun k f=>by obtain⟨c,a⟩:=gQ o f;exact keep k ⟨c,_,a,by decide⟩
 ·rw[p];exact h.S.keep fun v s k f=>by
   obtain⟨n,xs,l⟩:=h.S.mem v s;obtain⟨c,a⟩:=gQ l f;exact keep k ⟨c,_,a,by decide⟩
def OZ.F(h:OZ w B g r tv ov vs):g<L (D w)/\(∀i,w.frozen? ⟨g,i,G⟩=false)/\T w ⟨g,0,G⟩=Y tv/\T w ⟨g,1,G⟩=Y (U E r.most)/\
  T w ⟨g,2,G⟩=Y (U E r.count)/\T w ⟨g,3,G⟩=Y (U E r.I)/\T w ⟨g,4,G⟩=Y ov:=by
 refine⟨h.lt,fun i=>?_,?_,?_,?_,?_,?_⟩<;>simp[World.cell?,World.frozen?,h.cells]
def Hw{x:Value}(h:w.ownsRow B e 1 (MU k (n+1) cap) (n+1) (xs++[x])):w.ownsRow B e 1 (MU k n cap) n xs:=by
 have j:=h.1
 rcases h.2 with⟨c,_⟩|⟨q,i,a,c,l,m,o,d,f,b⟩
 ·simp at c
 ·simp only[Value.slice.injEq,Option.some.injEq,Addr.mk.injEq,and_true,true_and]at c;obtain⟨rfl,rfl⟩:=c;refine⟨by simp at j;omega,.inr ⟨k,cap,a,Z,l,m,by omega,d,f,?_⟩⟩;have p:M xs=n:=by simp at j;omega
  have e:a.toList.take n=(a.toList.take ((n+1)*1)).take n:=by rw[List.take_take];congr 1;omega
  rw[Nat.mul_one,e,b,<- p];simp
