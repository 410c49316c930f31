import Derived.Laws.IdiomStrings
import Derived.Test.YtehclbpoabdpoaaGreatDoorO08
set_option linter.all false
set_option maxHeartbeats 0
namespace Go.Proofs.YtehclbpoabdpoaaGreatDoor
open Go Go.RowKit Go.Proofs.Tryz P Q
set_option maxRecDepth 1000000
variable {w w' w0 w1 w2:World}{B b cap g n:Nat}{ws:List ByteArray}{bv v:Value}{ops:Array Oper}{op:Oper}{a:Act}{vs:List Value}
open List renaming length->T
open _root_.Array renaming size->A
open Go.World renaming heap->W,cell?->K
open Go.Value renaming string->Y,slice->N,int->D
open Option renaming none->C,some->I
open Bool renaming false->E,true->U
open Go.IntKind renaming i64->H
open Go.Ending renaming returned->S
open _root_.ByteArray renaming toList->xF
open Nat renaming le_refl->xR,zero_le->x8
open Or renaming inr->xW
open UInt8 renaming ofNat->x1
open List renaming getElem?_append_left->x2,mem_append->x3,mem_flatten->x4,nodup_append->x5,getElem?_append_right->xa,map_cons->xb,mem_append_right->xd,length_take->xe,length_map->xg,take_of_length_le->xh,cons_append->xj,mem_of_getElem?->xk
open Bool renaming false_eq_true->x6
open Go.Value renaming string->x7
open Go.RowKit.Below renaming refl->x9
open Option renaming mem_toList->xc
open Go.Result renaming andThen_ok->xi
def Kh(c:UInt8)(s:ByteArray)(k:Nat)(e:List ByteArray)(d:ByteArray)(i:k<s.size)(h:ND c (s.toList.take k)=(e++[d]).map xF)(f:s[k]=c):
  ND c (s.toList.take (k+1))=(e++[d]++[(⟨#[]⟩:ByteArray)]).map xF:=by
 rw[wY s k i,CP _ _ _ (e.map xF) d.toList (by simpa using h),if_pos f];simp[bQ]
def Ki(c:UInt8)(s:ByteArray)(k:Nat)(e:List ByteArray)(d:ByteArray)(f:k<s.size)(h:ND c (s.toList.take k)=(e++[d]).map xF)(i:¬s[k]=c):
  ND c (s.toList.take (k+1))=(e++[d++s.extract k (k+1)]).map xF:=by
 rw[wY s k f,CP _ _ _ (e.map xF) d.toList (by simpa using h),if_neg i];have:(s.extract k (k+1)).toList=[s[k]]:=by
  rw[BS,wY s k f,List.drop_append_of_le_length (by rw[xe,jR];omega),List.drop_of_length_le (by rw[xe,jR];omega)];rfl
 simp[Jq,this]
def VV(a c:UInt8):((a.toNat:Int)==(c.toNat:Int))=decide (a=c):=by
 rw[Bool.eq_iff_iff];simp[<- UInt8.toNat_inj];omega
def Kj{e:TypeId}{c:List Value}{x y:Value}(h:w.ownsRow B e 1 (MU g (n+1) cap) (n+1) (c++[x])):(w.setCell ⟨g,n,C⟩ y).ownsRow B e 1 (MU g (n+1) cap) (n+1) (c++[y]):=by
 have d:=(h.stored n y).1;have f:T c=n:=by have:=h.1;simp at this;omega
 have:(c++[x]).set n y=c++[y]:=by rw[List.set_append_right _ _ (by omega),f,Nat.sub_self];rfl
 rw[this]at d;exact d
def KS(s:ByteArray)(c:UInt8)(w:World)(hs:s.size<=8192):
  Calls prog 13 #[Y s,D .u8 (c.toNat:Int)] w fun e w'=>∃g cap n d z,e=S (MU g n cap)/\MT (d.toList::z.map xF=ND c s.toList)/\w'.ownsRow (A (W w)) 9 1 (MU g n cap) n ((d::z).map x7)/\T z=n-1/\1<=n/\n<10000/\Below (A (W w)) w w':=by
 obtain⟨i0,hi,ad,ae,af⟩:=info_parts Tryz.infoStr;go_enter func13,ntmps13;go_wp2;go_loopw[5,6] (fun v i wr=>∃k n g cap:Nat,∃q:List ByteArray,∃f:ByteArray,k<=s.size/\i=D H k/\v=MU g (n+1) cap/\T q=n/\n<=k/\f.size<=k/\MT (ND c (s.toList.take k)=(q++[f]).map xF)/\wr.ownsRow (A (W w)) 9 1 (MU g (n+1) cap) (n+1) (q.map x7++[Y f])/\Below (A (W w)) w wr) fun _ i _=>s.size-(intOf i).toNat
 case atStart =>
  refine⟨0,0,A (W w),1,[],⟨#[]⟩,x8 _,Z,Z,Z,xR _,by simp[VF],by unfold MT;simp[ND,bQ],?_,(x9 _ _).alloc (xR _) _⟩;refine⟨by simp,.inr ⟨A (W w),1,#[Y ⟨#[]⟩],Z,xR _,heap_alloc_new w _,by omega,by unfold maxLen;omega,Z,Z⟩⟩
 case round =>
  obtain⟨k,n,g,cap,q,f,hk,rfl,rfl,V,am,aj,J,l,m⟩:=hrel;have p:=MS V;have ac:=m.size;by_cases hlt:k<s.size
  ·by_cases hc:s[k]=c
   ·have X:((s[k].toNat:Int)==(c.toNat:Int))=U:=by rw[VV];simpa using hc
    have HR:=MS (Kh c s k q f hlt J.o hc);go_wp2_with(first
     |(at_builtin;refine wpList_append_lies _ Z (.tmp 20) (.tmp 21) 45 Z (A (W w)) 9 i0 (Y ByteArray.empty) 1 16 underlying45 hi ad ae af Z (by decide) _ _ _ Z (l.alloc _) ⟨A (W wr),0,C⟩ 1 1 [Y ⟨#[]⟩] Z Z ?c1 ?c2 (by decide) ?c3 ?c4 ?c5 _ Z ?_))
    case c1 =>
     intro j u F
     match j,F with
     |0,F=>simp at F;subst F;simp[Addr.add]
    case c2=>intro u hu;simp at hu;subst hu;rfl
    case c3=>unfold maxLen;omega
    case c4=>omega
    case c5=>simp;omega
    intro gn cn w1 x t ai ah;have O:Below (A (W w)) w w1:=(m.alloc ac _).grown t (by simp;omega) fun j F=>(l.lt j F).1;go_wp2;go_roundw
    case rel=>exact⟨k+1,n+1,gn,cn,q++[f],⟨#[]⟩,by omega,by go_num,Z,by have:=p.o;simp;omega,by omega,by simp[VF],HR,by simpa using x,O⟩
    case measure=>simp[intOf];omega
   ·have X:((s[k].toNat:Int)==(c.toNat:Int))=E:=by rw[VV];simpa using hc
    have HR:=MS (Ki c s k q f hlt J.o hc);have aa:K wr ⟨g,n,C⟩=I (Y f):=by
     rw[l.cellAt n (by omega),xa (by rw[xg,p.o];exact xR _),xg,p.o];simp
    have ag:=l.frozenAt n;have al:(n:Int)<(n:Int)+1:=by omega
    have ak:(s.extract k (k+1)).size<=1:=by simp[ByteArray.size_extract];omega
    have G:=MS (Kj (y:=Y (f++s.extract k (k+1))) l);have M:A (W w)<=g:=(l.lt g Z).1;have an:∀w,(Instr.slice 9 (Y s) (I (D H (k:Int))) (I (D H ((k:Int)+1))) C).run prog w=.ok (Y (s.extract k (k+1))) w:=fun w=>by
     rw[run_slice_string w 9 s H H _ _ underlying9 (by omega) (by omega) (by omega),show (k:Int).toNat=k by omega,show((k:Int)+1).toNat=k+1 by omega]
    have ao:IntKind.i64.wrap ((k:Int)+1)=(k:Int)+1:=by rw[IntKind.wrap_i64];omega
    go_wp2;go_region
    all_goals go_wp2
    all_goals go_roundw
    case rel=>exact⟨k+1,n,g,cap,q,f++s.extract k (k+1),by omega,by go_num,Z,p.o,by omega,by simp;omega,HR,G.drew,(m.setCell M _).drew⟩
    case measure=>simp[intOf];omega
  ·have ab:k=s.size:=by omega
   subst ab;have L:MT (ND c s.toList=(q++[f]).map xF):=by
    unfold MT;have:=J.o;rw[xh (by rw[jR];exact xR _)]at this;exact this
   have hl:=p.o;go_wp2;go_ret;obtain⟨d,z,hd⟩:∃d z,q++[f]=d::z:=by
    cases q with
    |nil=>exact⟨f,[],Z⟩
    |cons a r=>exact⟨a,r++[f],Z⟩
   refine⟨g,cap,n+1,d,z,Z,?_,?_,?_,by omega,by omega,m⟩
   ·unfold MT;rw[L.o,hd];rfl
   ·rw[<- hd];simpa using l
   ·have:=congrArg List.length hd;simp at this;omega
namespace R
def fZ(w:List UInt8)(k:Int):List (List UInt8)->Int
 |[]=>-1
 |x::r=>if x==w&&w != []then k else fZ w (k+1) r
def inn(w l:List UInt8):Int:=fZ w 0 (ND 32 l)
def Kk(w:List UInt8)(l:List (List UInt8)):∀k,fZ w k l=-1\/k<=fZ w k l/\fZ w k l<k+T l:=by
 induction l with
 |nil=>intro k;left;rfl
 |cons x r ih =>
  intro k;simp only[fZ]
  split
  ·right;simp;omega
  ·rcases ih (k+1)with h|h
   ·left;exact h
   ·right;simp at h⊢;omega
end R
def KK(h:w.ownsRow B 9 1 (MU g n cap) n (ws.map x7))(c:T ws=n):NQ w g 0 ws/\n<=cap/\g<A (W w):=by
 subst c;exact KI h
def NQ.get{off:Nat}(h:NQ w b off ws)(k:Nat)(c:k<T ws):K w ⟨b,off+k,C⟩=I (Y ws[k]):=h k _ (List.getElem?_eq_getElem c)
def Kl(v l:ByteArray)(w:World)(hs:l.size<=8192):
  Calls prog 27 #[Y v,Y l] w fun e w'=>e=S (D H (R.inn v.toList l.toList))/\Below (A (W w)) w w':=by
 go_enter func27,ntmps27;go_wp2_with(first|(go_at_call 13;refine(KS l 32 _ hs).mono ?_;rintro e w1 ⟨g,cap,n,d,f,rfl,F,q,V,L,M,m⟩;obtain⟨u,O,y⟩:=KK q (by simp;omega);have s:=MS u;have j:MT ((d::f).length=n):=by simp[MT];omega));go_loopw[6] (fun i wr=>∃k:Nat,k<=n/\i=D H k/\MT (R.inn v.toList l.toList=R.fZ v.toList k (((d::f).map xF).drop k))/\wr=w1) fun i _=>n-(intOf i).toNat
 case atStart=>exact⟨0,x8 _,Z,by unfold MT R.inn;rw[<- F.o];rfl,Z⟩
 case round =>
  obtain⟨k,hk,rfl,r,rfl⟩:=hrel;by_cases hlt:k<n
  ·have p:k<(d::f).length:=by rw[j.o];exact hlt
   have G:=s.get k p;rw[Nat.zero_add]at G;have z:=MS (wL ((d::f).map xF) k (by simpa using p));have t:MT (((d::f).map xF).drop k=(d::f)[k].toList::((d::f).map xF).drop (k+1)):=by
    have:=z.o;unfold MT;rw[this,List.getElem_map]
   generalize hx:(d::f)[k]=x at*;have J:(k:Int)<(n:Int):=by omega
   by_cases e1:x.toList=v.toList
   ·cases e2:v.toList.isEmpty
    ·have c:MT (R.inn v.toList l.toList=(k:Int)):=by
      have X:v.toList≠[]:=by simpa using e2
      unfold MT;rw[r.o,t.o,R.fZ,if_pos (by simp[e1,X])]
     go_wp2;go_ret;rw[c.o];exact⟨Z,m⟩
    ·have c:MT (R.inn v.toList l.toList=R.fZ v.toList ((k+1:Nat):Int) (((d::f).map xF).drop (k+1))):=by
      unfold MT;rw[r.o,t.o,R.fZ,if_neg (by simp[List.isEmpty_iff.1 e2])];rfl
     go_wp2;go_roundw
     case rel=>exact⟨k+1,by omega,by go_num,c,trivial⟩
     case measure=>simp[intOf];omega
   ·have c:MT (R.inn v.toList l.toList=R.fZ v.toList ((k+1:Nat):Int) (((d::f).map xF).drop (k+1))):=by
     unfold MT;rw[r.o,t.o,R.fZ,if_neg (by simp[e1])];rfl
    go_wp2;go_roundw
    case rel=>exact⟨k+1,by omega,by go_num,c,trivial⟩
    case measure=>simp[intOf];omega
  ·have c:MT (R.inn v.toList l.toList=-1):=by
    unfold MT;rw[r.o,List.drop_eq_nil_of_le (by have:=j.o;simp at this⊢;omega)];rfl
   go_wp2;go_ret;rw[c.o];exact⟨Z,m⟩
namespace R
def regs:List UInt8:=[114,48,32,114,49,32,114,50,32,114,51]
def qJ:List UInt8:=[48,32,49,32,50,32,51]
def cJ:List UInt8:=[120,32,121,32,122]
def wW:List UInt8:=[98,108,111,99,107,32,100,101,118,105,99,101]
def mG:List UInt8:=[43,32,45,32,61,61]
def bG(v:List UInt8):Int×Bool:=if 0<=inn v regs then(-1-inn v regs,U)else(inn v qJ,decide (0<=inn v qJ))
def DH(v l:List UInt8):-1<=inn v l/\inn v l<=T l:=by
 have h:=Kk v (ND 32 l) 0;have c:=CF 32 l;unfold inn;omega
end R
def jN(v:ByteArray)(L:List UInt8)(a:Array UInt8)(w:World)(h:a.toList=L)(hs:a.size<=8192):
  Calls prog 27 #[Y v,Y ⟨a⟩] w fun e w'=>e=S (D H (R.inn v.toList L))/\Below (A (W w)) w w':=by
 have:=Kl v ⟨a⟩ w hs;rw[bQ a,h]at this;exact this
def uJ(v:ByteArray)(w:World):
  Calls prog 16 #[Y v] w fun e w'=>e=S (.tuple #[D H (R.bG v.toList).1,.bool (R.bG v.toList).2])/\Below (A (W w)) w w':=by
 have k:=R.DH v.toList R.regs;have l:=R.DH v.toList R.qJ;have q:T R.regs=11:=Z;have s:T R.qJ=7:=Z;rw[q]at k;rw[s]at l;have i:MT (R.bG v.toList=if 0<=R.inn v.toList R.regs then(-1-R.inn v.toList R.regs,U)else(R.inn v.toList R.qJ,decide (0<=R.inn v.toList R.qJ))):=Z;generalize p:R.inn v.toList R.regs=r at*;generalize m:R.inn v.toList R.qJ=n at*;have HR:=MS p;have j:=MS m;go_enter func16,ntmps16;go_wp2_with fail;refine(jN v R.regs _ _ Z (by simp)).mono ?_;rintro e w1 ⟨rfl,c⟩;rw[HR.o];go_wp2_with fail;refine(jN v R.qJ _ _ Z (by simp)).mono ?_;rintro e w2 ⟨rfl,f⟩;rw[j.o];have d:=c.trans (f.mono c.size);by_cases h0:0<=r
 ·go_wp2;go_ret2;rw[i.o,if_pos h0];exact⟨by simp,d⟩
 ·go_wp2;go_ret2;rw[i.o,if_neg (by omega)];exact⟨by simp,d⟩
namespace R
structure Lh where
 op:ByteArray
 MW:Int
 z:Int
 a:Int
 b:Int
 sign:ByteArray
 ord:ByteArray
 scope:ByteArray
def weak:List UInt8:=[119,101,97,107]
def how(x:Lh)(orders:List UInt8):List ByteArray->Lh×Bool
 |[]=>(x,E)
 |o::r =>
  if o.toList==weak then({x with ord:=o},decide (0<=inn o.toList orders)&&r.isEmpty)
  else if inn o.toList orders<0 then({x with ord:=o},E)
  else match r with
   |[s]=>({x with ord:=o,scope:=s},decide (0<=inn s.toList wW))
   |_=>({x with ord:=o},E)
def MJ(x:Lh)(c:List UInt8)(o:ByteArray)(r:List ByteArray)(h:(o.toList==weak)=U):how x c (o::r)=({x with ord:=o},decide (0<=inn o.toList c)&&r.isEmpty):=by simp[how,h]
def VW(x:Lh)(c:List UInt8)(o:ByteArray)(r:List ByteArray)(h:(o.toList==weak)=E)(d:inn o.toList c<0):how x c (o::r)=({x with ord:=o},E):=by simp[how,h,d]
def GG(x:Lh)(c:List UInt8)(o:ByteArray)(r:List ByteArray)(h:(o.toList==weak)=E)(d:¬T r=1):how x c (o::r)=({x with ord:=o},E):=by
 match r,d with
 |[],_=>simp[how,h]
 |[_],d=>simp at d
 |_::_::_,_=>simp[how,h]
def VX(x:Lh)(c:List UInt8)(o s:ByteArray)(h:(o.toList==weak)=E)(d:0<=inn o.toList c):how x c [o,s]=({x with ord:=o,scope:=s},decide (0<=inn s.toList wW)):=by
 have:¬inn o.toList c<0:=by omega
 simp[how,h,this]
end R
def cI(x:R.Lh)(bv:Value):Array Value:=#[Y x.op,D H x.MW,D H x.z,D H x.a,D H x.b,Y x.sign,Y x.ord,Y x.scope,bv]
def OG(w:World)(g:Nat)(x:R.Lh)(bv:Value):Prop:=w.heap[g]?=I (.cells (cI x bv) 52 (0,0))
def OG.F{x:R.Lh}(h:OG w g x bv):g<A (W w)/\(∀i,w.frozen? ⟨g,i,C⟩=E)/\
  K w ⟨g,0,C⟩=I (Y x.op)/\K w ⟨g,1,C⟩=I (D H x.MW)/\K w ⟨g,2,C⟩=I (D H x.z)/\K w ⟨g,3,C⟩=I (D H x.a)/\K w ⟨g,4,C⟩=I (D H x.b)/\
  K w ⟨g,5,C⟩=I (Y x.sign)/\K w ⟨g,6,C⟩=I (Y x.ord)/\K w ⟨g,7,C⟩=I (Y x.scope)/\K w ⟨g,8,C⟩=I bv:=by
 have c:∀i,K w ⟨g,i,C⟩=(cI x bv)[i]?:=fun i=>by unfold OG at h;simp[World.cell?,h]
 exact⟨(Array.getElem?_eq_some_iff.1 h).1,fun i=>by unfold OG at h;simp[World.frozen?,h],c 0,c 1,c 2,c 3,c 4,c 5,c 6,c 7,c 8⟩
def OG.lt{x:R.Lh}(h:OG w g x bv):g<A (W w):=(Array.getElem?_eq_some_iff.1 h).1
def OG.aC{x:R.Lh}(h:OG w g x bv)(e:w'.heap[g]?=w.heap[g]?):OG w' g x bv:=by
 unfold OG at*;rw[e];exact h
def OG.X{x:R.Lh}(h:OG w g x bv)(c:Below (A (W w)) w w'):OG w' g x bv:=h.aC (c.block g h.lt)
def OG.alloc{x:R.Lh}(h:OG w g x bv)(o:Obj):OG (w.alloc o) g x bv:=h.aC (Below.heap_alloc _ _ _ h.lt)
def OG.drew{x:R.Lh}(h:OG w g x bv):OG w.drew g x bv:=h
def OG.new(w:World)(x:R.Lh)(bv:Value):OG (w.alloc (.cells (cI x bv) 52)) (A (W w)) x bv:=heap_alloc_new w _
def OG.set{x:R.Lh}(y:R.Lh)(h:OG w g x bv)(i:Nat)(u:Value)(e:(cI x bv).setIfInBounds i u=cI y bv):OG (w.setCell ⟨g,i,C⟩ u) g y bv:=by
 unfold OG at*;rw[bX h,e]
def OG.iG{x:R.Lh}(h:OG w g x bv)(s:ByteArray):OG (w.setCell ⟨g,6,C⟩ (Y s)) g {x with ord:=s} bv:=h.set _ 6 _ Z
def OG.iN{x:R.Lh}(h:OG w g x bv)(s:ByteArray):OG (w.setCell ⟨g,7,C⟩ (Y s)) g {x with scope:=s} bv:=h.set _ 7 _ Z
def yQ(g b off n cap:Nat)(x:R.Lh)(bv:Value)(c:List UInt8)(u:Array UInt8)(ws:List ByteArray)(w:World)(hg:OG w g x bv)(hw:NQ w b off ws)(hn:T ws=n)(ab:b≠g)(af:u.toList=c)(k:u.size<=8192):
  Calls prog 38 #[.pointer (I ⟨g,0,C⟩),N (I ⟨b,off,C⟩) n cap,Y ⟨u⟩] w fun e w'=>e=S (.bool (R.how x c ws).2)/\OG w' g (R.how x c ws).1 bv/\w.grownBy w' (I g):=by
 cases ws with
 |nil =>
  simp at hn;subst hn;go_enter func38,ntmps38;go_wp2;go_ret;exact⟨Z,hg,fH _ _⟩
 |cons o r =>
  obtain⟨hd,t,ag⟩:=hw.head;have aj:((n:Int)==0)=E:=by simp at hn;simp;omega
  have ah:0<n:=by simp at hn;omega
  have z:T r=n-1:=by simp at hn;omega
  have j:=MS af;have i:MT (∀w1:World,Below (A (W w)) w w1->OG w1 g x bv/\K w1 ⟨b,off,C⟩=I (Y o)/\b<A (W w1)/\NQ w1 b (off+1) r):=fun w1 d =>
   ⟨hg.X d,(d.cell (p:=⟨b,off,C⟩) t).trans hd,Nat.lt_of_lt_of_le t d.size,ag.X d⟩
  cases hwk:o.toList==R.weak
  rotate_left
  ·have m:=MS (R.MJ x c o r hwk);have aa:(o.toList==[119,101,97,107])=U:=hwk;have ak:((n:Int)==1)=r.isEmpty:=by
    cases r with
    |nil=>simp at z;simp;omega
    |cons a q=>simp at z;simp;omega
   by_cases hk:0<=R.inn o.toList c
   ·go_enter func38,ntmps38;go_wp2_with(first|(go_at_call 27;refine(jN o c u _ j.o k).mono ?_;rintro e w1 ⟨rfl,d⟩;obtain⟨f,k2,k3,k4⟩:=i.o w1 d;obtain⟨f1,f2,G,J,L,M,O,V,c6,c7,c8⟩:=f.F;have l:=MS f));go_ret;rw[cV m];exact⟨by simp[hk],l.iG _,dG (mR d _) _ _⟩
   ·go_enter func38,ntmps38;go_wp2_with(first|(go_at_call 27;refine(jN o c u _ j.o k).mono ?_;rintro e w1 ⟨rfl,d⟩;obtain⟨f,k2,k3,k4⟩:=i.o w1 d;obtain⟨f1,f2,G,J,L,M,O,V,c6,c7,c8⟩:=f.F;have l:=MS f));go_ret;rw[cV m];have ad:¬0<=R.inn o.toList c:=by omega
    exact⟨by simp[ad],l.iG _,dG (mR d _) _ _⟩
  have aa:(o.toList==[119,101,97,107])=E:=hwk;by_cases hk:R.inn o.toList c<0
  ·have m:=MS (R.VW x c o r hwk hk);go_enter func38,ntmps38;go_wp2_with(first|(go_at_call 27;refine(jN o c u _ j.o k).mono ?_;rintro e w1 ⟨rfl,d⟩;obtain⟨f,k2,k3,k4⟩:=i.o w1 d;obtain⟨f1,f2,G,J,L,M,O,V,c6,c7,c8⟩:=f.F;have l:=MS f));go_ret;rw[cV m];exact⟨Z,l.iG _,dG (mR d _) _ _⟩
  have ae:0<=R.inn o.toList c:=by omega
  have ai:decide (R.inn o.toList c<0)=E:=decide_eq_false hk;by_cases h2:n=2
  ·subst h2;obtain⟨s,rfl⟩:∃s,r=[s]:=by
    match r,z with
    |[s],_=>exact⟨s,Z⟩
   have m:=MS (R.VX x c o s hwk ae);go_enter func38,ntmps38;go_wp2_with fail;refine(jN o c u _ j.o k).mono ?_;rintro e w1 ⟨rfl,d⟩;obtain⟨f,k2,k3,k4⟩:=i.o w1 d;obtain⟨f1,f2,G,J,L,M,O,V,c6,c7,c8⟩:=f.F;obtain⟨k5,_,_⟩:=k4.head;have l:=MS f;go_wp2_with fail;refine(jN s R.wW _ _ Z (by simp)).mono ?_;rintro e w2 ⟨rfl,y⟩;have k6:=(l.iG o).X y;have k7:K w2 ⟨b,off+1,C⟩=I (Y s):=(y.cell (p:=⟨b,off+1,C⟩) (by simp;omega)).trans ((cY ab).trans k5);have ac:w.grownBy w2 (I g):=nM (dG (mR d _) _ _) (mR y _);have K6:=MS k6;obtain⟨f1,f2,G,J,L,M,O,V,c6,c7,c8⟩:=k6.F;go_wp2;go_ret;rw[cV m];exact⟨Z,K6.iN _,dG ac _ _⟩
  ·have m:=MS (R.GG x c o r hwk (by omega));have hx:((n:Int) != 2)=U:=by rw[bne_iff_ne];omega
   go_enter func38,ntmps38;go_wp2_with(first|(go_at_call 27;refine(jN o c u _ j.o k).mono ?_;rintro e w1 ⟨rfl,d⟩;obtain⟨f,k2,k3,k4⟩:=i.o w1 d;obtain⟨f1,f2,G,J,L,M,O,V,c6,c7,c8⟩:=f.F;have l:=MS f));go_ret;rw[cV m];exact⟨Z,l.iG _,dG (mR d _) _ _⟩
namespace R
def jE:ByteArray:=⟨#[98,97,114,114,105,101,114]⟩
def gT:ByteArray:=⟨#[102,101,110,99,101]⟩
def gN:ByteArray:=⟨#[115,116,111,114,101]⟩
def gG:ByteArray:=⟨#[108,111,97,100]⟩
def eK:ByteArray:=⟨#[115,101,116]⟩
def oFence:List UInt8:=[97,99,113,114,101,108,32,115,99]
def oStore:List UInt8:=[119,101,97,107,32,114,101,108,97,120,101,100,32,114,101,108,101,97,115,101]
def oLoad:List UInt8:=[119,101,97,107,32,114,101,108,97,120,101,100,32,97,99,113,117,105,114,101]
def oG:List UInt8:=[114,101,108,97,120,101,100,32,97,99,113,117,105,114,101,32,114,101,108,101,97,115,101,32,97,99,113,114,101,108]
def x0:Lh:=⟨⟨#[]⟩, -1, -1,0,0,⟨#[]⟩,⟨#[]⟩,⟨#[]⟩⟩
def z0:Lh:=⟨⟨#[]⟩,0,0,0,0,⟨#[]⟩,⟨#[]⟩,⟨#[]⟩⟩
def sX(p v:ByteArray)(r:List ByteArray):Lh×Bool :=
 let h:=how {x0 with op:=gN,z:=inn p.toList cJ,a:=(bG v.toList).1} oStore r
 (h.1,(bG v.toList).2&&h.2&&decide (0<=inn p.toList cJ))
def rC(d p:ByteArray)(r:List ByteArray):Lh×Bool :=
 let h:=how {x0 with MW:=inn d.toList regs,op:=gG,z:=inn p.toList cJ} oLoad r
 (h.1,decide (0<=inn d.toList regs)&&h.2&&decide (0<=inn p.toList cJ))
def qM(d c p v:ByteArray)(r:List ByteArray):Lh×Bool :=
 let h:=how {x0 with MW:=inn d.toList regs,op:=c,z:=inn p.toList cJ,a:=(bG v.toList).1} oG r
 (h.1,decide (0<=inn d.toList regs)&&h.2&&(bG v.toList).2&&decide (0<=inn p.toList cJ))
def qG(d a:ByteArray):Lh×Bool :=
 ({x0 with MW:=inn d.toList regs,op:=eK,a:=(bG a.toList).1},decide (0<=inn d.toList regs)&&(bG a.toList).2)
def qR(d a s b:ByteArray):Lh×Bool :=
 ({x0 with MW:=inn d.toList regs,op:=eK,a:=(bG a.toList).1,sign:=s,b:=(bG b.toList).1},decide (0<=inn d.toList regs)&&(bG a.toList).2&&(bG b.toList).2&&decide (0<=inn s.toList mG))
def BG(d a:ByteArray):Lh×Bool:=({x0 with MW:=inn d.toList regs,op:=eK,a:=(bG a.toList).1},E)
def mS(d c:ByteArray)(r:List ByteArray):Lh×Bool :=
 if c.toList==[108,111,97,100]&&decide (2<=T r)then
  match r with
  |p::q=>rC d p q
  |[]=>(x0,E)
 else if(c.toList==[97,100,100]||c.toList==[115,119,97,112])&&decide (3<=T r)then
  match r with
  |p::v::q=>qM d c p v q
  |_=>(x0,E)
 else match r with
  |[]=>qG d c
  |[s,b]=>qR d c s b
  |_=>BG d c
def fD(c:ByteArray)(r:List ByteArray):Lh×Bool :=
 if c.toList==[98,97,114,114,105,101,114]then({x0 with op:=jE},r.isEmpty)
 else if c.toList==[102,101,110,99,101]then how {x0 with op:=gT} oFence r
 else if c.toList==[115,116,111,114,101]&&decide (3<=T r)then
  match r with
  |p::v::q=>sX p v q
  |_=>(x0,E)
 else match r with
  |e::d::q=>if e.toList==[61]then mS c d q else(x0,E)
  |_=>(x0,E)
end R
def wI{rest:List Oper}{Q:Exit->Act->World->Prop}(x:Operand)(c:op.guard=C)(e:op.op=.load 52 x)(g:Nat)(y:R.Lh)(bv:Value)(f:a.eval x=.pointer (I ⟨g,0,C⟩))(d:OG w g y bv)(h:wpList prog ops Q rest (a.put op.dst (.agg (cI y bv))) w):wpList prog ops Q (op::rest) a w :=
 KZ c _ x e g f _ _ d _ underlying52 Z (by kernel_rfl) h
def uG{rest:List Oper}{Q:Exit->Act->World->Prop}(x y:Operand)(e:op.guard=C)(j:op.op=.store 52 x y)(g:Nat)(z t:R.Lh)(f c:Value)(d:c.oneCell'=U)(k:a.eval x=.pointer (I ⟨g,0,C⟩))(l:a.eval y=.agg (cI t c))(i:OG w g z f)(h:∀w',OG w' g t c->w.grownBy w' (I g)->wpList prog ops Q rest (a.put op.dst undef) w'):wpList prog ops Q (op::rest) a w :=
 LV e _ x y j g (cI t c) (cI z f) _ k l i Z (by kernel_rfl) (by simp[cI,d];simp[Value.oneCell']) h
def nQ(r:R.Lh×Bool):Value:=.tuple #[.agg (cI r.1 (N C 0 0)),.bool r.2]
def jG{e:Func}{Q:Ending->World->Prop}{p u:Tmp}(g:Nat)(x:R.Lh)(d:Bool)(c:e.results=#[.cell p 52,.tmp u])(j:a.tmps.getD p undef=.pointer (I ⟨g,0,C⟩))(k:a.tmps.getD u undef=.bool d)(h:OG w g x (N C 0 0))(i:a.defers=[])(f:Q (S (nQ (x,d))) w):bodyPost prog e Q .ret a w:=by
 refine bodyPost_ret (v:=nQ (x,d)) ?_ i f;rw[results_cell_tmp c,j,k];have:(asAddr (.pointer (I ⟨g,0,C⟩))).run prog w=.ok ⟨g,0,C⟩ w:=Z;rw[this,xi,vW w g _ _ _ h _ underlying52 rfl (by kernel_rfl),xi];rfl
structure StAt(w0 w1:World)(b off:Nat)(ws:List ByteArray)(x:R.Lh):Prop where
 xat:OG w1 (A (W w0)+1) x (N C 0 0)
 res:OG w1 (A (W w0)) R.z0 (N C 0 0)
 words:NQ w1 b off ws
 bel:Below (A (W w0)) w0 w1
def StAt.start(w:World)(b off:Nat)(ws:List ByteArray)(x:R.Lh)(c:NQ w b off ws):StAt w ((w.alloc (.cells (cI R.z0 (N C 0 0)) 52)).alloc (.cells (cI x (N C 0 0)) 52)) b off ws x:=by
 refine⟨?_,(OG.new w R.z0 _).alloc _,(c.alloc _).alloc _,((x9 _ _).alloc (xR _) _).alloc (by simp) _⟩;have:=OG.new (w.alloc (.cells (cI R.z0 (N C 0 0)) 52)) x (N C 0 0);simpa using this
def StAt.X{off:Nat}{x:R.Lh}(h:StAt w0 w1 b off ws x)(c:Below (A (W w1)) w1 w2):StAt w0 w2 b off ws x :=
 ⟨h.xat.X c,h.res.X c,h.words.X c,h.bel.trans (c.mono h.bel.size)⟩
def StAt.set{off:Nat}{x:R.Lh}(y:R.Lh)(h:StAt w0 w1 b off ws x)(c:b<A (W w0))(i:Nat)(u:Value)(e:(cI x (N C 0 0)).setIfInBounds i u=cI y (N C 0 0)):StAt w0 (w1.setCell ⟨A (W w0)+1,i,C⟩ u) b off ws y :=
 ⟨h.xat.set y i u e,h.res.aC (Below.heap_setCell _ _ _ _ (by simp)),h.words.set (by omega) _ _,h.bel.setCell (by simp) _⟩
def StAt.how{off:Nat}{x y:R.Lh}(h:StAt w0 w1 b off ws x)(e:b<A (W w0))(d:OG w2 (A (W w0)+1) y (N C 0 0))(c:w1.grownBy w2 (I (A (W w0)+1))):StAt w0 w2 b off ws y :=
 ⟨d,h.res.aC (c.block _ h.res.lt (by simp)),h.words.grown c (by omega),kS h.bel c (by omega)⟩
def StAt.done{off:Nat}{x:R.Lh}(h:StAt w0 w1 b off ws x)(c:w1.grownBy w2 (I (A (W w0)))):Below (A (W w0)) w0 w2:=kS h.bel c (xR _)
def NQ.drop{off:Nat}(h:NQ w b off ws)(k:Nat):NQ w b (off+k) (ws.drop k):=by
 intro i s hs;have:=h (k+i) s (by simpa using hs);rw[show off+k+i=off+(k+i)by omega];exact this
def sL(v l:List UInt8)(ws:List (List UInt8))(h:ND 32 l=ws):R.inn v l=R.fZ v 0 ws:=by unfold R.inn;rw[h]
def VY(v:List UInt8):R.inn v R.cJ=if v=[120]then 0 else if v=[121]then 1 else if v=[122]then 2 else -1:=by
 rw[sL v R.cJ [[120],[121],[122]] (by decide)];by_cases h1:v=[120]
 ·subst h1;decide
 by_cases h2:v=[121]
 ·subst h2;decide
 by_cases h3:v=[122]
 ·subst h3;decide
 simp[R.fZ,Ne.symm h1,Ne.symm h2,Ne.symm h3,h1,h2,h3]
def GP(v:List UInt8):(fT v).2=decide (0<=R.inn v R.cJ)/\((fT v).2=U->(fT v).1=R.inn v R.cJ):=by
 rw[VY];unfold fT;by_cases h1:v=[120]
 ·subst h1;decide
 by_cases h2:v=[121]
 ·subst h2;decide
 by_cases h3:v=[122]
 ·subst h3;decide
 simp[h1,h2,h3]
def zW(v:List UInt8):R.inn v R.regs=if v=[114,48]then 0 else if v=[114,49]then 1 else if v=[114,50]then 2 else if v=[114,51]then 3 else -1:=by
 rw[sL v R.regs [[114,48],[114,49],[114,50],[114,51]] (by decide)];by_cases h1:v=[114,48]
 ·subst h1;decide
 by_cases h2:v=[114,49]
 ·subst h2;decide
 by_cases h3:v=[114,50]
 ·subst h3;decide
 by_cases h4:v=[114,51]
 ·subst h4;decide
 simp[R.fZ,Ne.symm h1,Ne.symm h2,Ne.symm h3,Ne.symm h4,h1,h2,h3,h4]
def Km(v:List UInt8):R.inn v R.qJ=if v=[48]then 0 else if v=[49]then 1 else if v=[50]then 2 else if v=[51]then 3 else -1:=by
 rw[sL v R.qJ [[48],[49],[50],[51]] (by decide)];by_cases h1:v=[48]
 ·subst h1;decide
 by_cases h2:v=[49]
 ·subst h2;decide
 by_cases h3:v=[50]
 ·subst h3;decide
 by_cases h4:v=[51]
 ·subst h4;decide
 simp[R.fZ,Ne.symm h1,Ne.symm h2,Ne.symm h3,Ne.symm h4,h1,h2,h3,h4]
def VZ(c:UInt8):(eD c 4).2=U↔c=48\/c=49\/c=50\/c=51:=by
 have:∀c:Fin 256,(eD (x1 c.1) 4).2=U↔x1 c.1=48\/x1 c.1=49\/x1 c.1=50\/x1 c.1=51:=by decide +kernel
 have h:=this ⟨c.toNat,UInt8.toNat_lt c⟩;simpa using h
def xB(v:List UInt8):(bZ v).2=decide (0<=R.inn v R.regs)/\((bZ v).2=U->(bZ v).1=R.inn v R.regs):=by
 rw[zW];by_cases h1:v=[114,48]
 ·subst h1;decide
 by_cases h2:v=[114,49]
 ·subst h2;decide
 by_cases h3:v=[114,50]
 ·subst h3;decide
 by_cases h4:v=[114,51]
 ·subst h4;decide
 have f:(bZ v).2=E:=by
  cases hr:(bZ v).2
  ·rfl
  ·exfalso;unfold bZ at hr
   split at hr
   ·rename_i c d
    split at hr
    ·rename_i e;subst e
     rcases(VZ d).1 hr with rfl|rfl|rfl|rfl
     ·exact h1 Z
     ·exact h2 Z
     ·exact h3 Z
     ·exact h4 Z
    ·simp at hr
   ·simp at hr
 rw[f];simp[h1,h2,h3,h4]
def rI(o:QR):Int:=if o.MW then -1-o.n else o.n
def wB(v:List UInt8):(cF v).2=(R.bG v).2/\((cF v).2=U->rI (cF v).1=(R.bG v).1):=by
 by_cases h1:v=[114,48]
 ·subst h1;decide
 by_cases h2:v=[114,49]
 ·subst h2;decide
 by_cases h3:v=[114,50]
 ·subst h3;decide
 by_cases h4:v=[114,51]
 ·subst h4;decide
 by_cases k1:v=[48]
 ·subst k1;decide
 by_cases k2:v=[49]
 ·subst k2;decide
 by_cases k3:v=[50]
 ·subst k3;decide
 by_cases k4:v=[51]
 ·subst k4;decide
 have d:(cF v).2=E:=by
  cases hr:(cF v).2
  ·rfl
  ·exfalso;unfold cF at hr
   split at hr
   ·rename_i c
    rcases(VZ c).1 hr with rfl|rfl|rfl|rfl
    ·exact k1 Z
    ·exact k2 Z
    ·exact k3 Z
    ·exact k4 Z
   ·have:=(xB v).1;simp only at hr;rw[this,zW]at hr;simp[h1,h2,h3,h4]at hr
 rw[d];unfold R.bG;rw[zW,Km];simp[h1,h2,h3,h4,k1,k2,k3,k4]
namespace R
def MP(a b:List UInt8):Nat->List UInt8->List UInt8
 |0,_=>[]
 |n+1,l =>
  if decide (T a<=T l)&&l.take (T a)==a&&decide (0<T l)then b++MP a b n (l.drop (T a))
  else match l with
   |[]=>[]
   |x::r=>x::MP a b n r
def aqr:List UInt8:=[97,99,113,114,101,108]
def WB:List UInt8:=[97,99,113,95,114,101,108]
def blk:List UInt8:=[98,108,111,99,107]
def cta:List UInt8:=[99,116,97]
def dvc:List UInt8:=[100,101,118,105,99,101]
def gpu:List UInt8:=[103,112,117]
def EQ(a b s:List UInt8):List UInt8:=MP a b (T s+1) s
def Kn(ord scope:List UInt8):List UInt8 :=
 if ord==weak then EQ aqr WB ord else EQ aqr WB ord++[46]++EQ dvc gpu (EQ blk cta scope)
end R
def oW:List UInt8:=[119,101,97,107]
def oR:List UInt8:=[114,101,108,97,120,101,100]
def oA:List UInt8:=[97,99,113,117,105,114,101]
def oL:List UInt8:=[114,101,108,101,97,115,101]
def oQ:List UInt8:=[97,99,113,114,101,108]
def oS:List UInt8:=[115,99]
def uK(o:List UInt8)(h:(P.order o).2=U):o=oW\/o=oR\/o=oA\/o=oL\/o=oQ\/o=oS:=by
 unfold P.order at h;by_cases h1:o=oW
 ·exact .inl h1
 by_cases h2:o=oR
 ·exact .inr (.inl h2)
 by_cases h3:o=oA
 ·exact .inr (.inr (.inl h3))
 by_cases h4:o=oL
 ·exact .inr (.inr (.inr (.inl h4)))
 by_cases h5:o=oQ
 ·exact .inr (.inr (.inr (.inr (.inl h5))))
 by_cases h6:o=oS
 ·exact .inr (.inr (.inr (.inr (.inr h6))))
 exfalso;simp only[oW,oR,oA,oL,oQ,oS]at h1 h2 h3 h4 h5 h6;simp[h1,h2,h3,h4,h5,h6]at h
def Ko(o:List UInt8)(c:¬o=oW)(d:¬o=oR)(e:¬o=oA)(f:¬o=oL)(i:¬o=oQ)(j:¬o=oS):(P.order o).2=E:=by
 cases h:(P.order o).2
 ·rfl
 ·rcases uK o h with h|h|h|h|h|h<;>contradiction
def Kp(s:List UInt8):(scope s).2=decide (0<=R.inn s R.wW)/\((scope s).2=U->s=[98,108,111,99,107]\/s=[100,101,118,105,99,101]):=by
 have e:ND 32 R.wW=[[98,108,111,99,107],[100,101,118,105,99,101]]:=by decide
 rw[sL s R.wW _ e];by_cases h1:s=[98,108,111,99,107]
 ·subst h1;decide
 by_cases h2:s=[100,101,118,105,99,101]
 ·subst h2;decide
 have:(scope s).2=E:=by unfold scope;simp[h1,h2]
 rw[this];simp[R.fZ,Ne.symm h1,Ne.symm h2]
def uU(kind:Int)(orders:List UInt8):Prop:=∀o,((P.order o).2&&QM kind (P.order o).1)=decide (0<=R.inn o orders)
def zF(c:Int)(d:List UInt8)(ws:List (List UInt8))(hs:ND 32 d=ws)(f:∀x∈ws,x=oW\/x=oR\/x=oA\/x=oL\/x=oQ\/x=oS)(u:((P.order oW).2&&QM c (P.order oW).1)=decide (0<=R.fZ oW 0 ws))(s:((P.order oR).2&&QM c (P.order oR).1)=decide (0<=R.fZ oR 0 ws))(m:((P.order oA).2&&QM c (P.order oA).1)=decide (0<=R.fZ oA 0 ws))(p:((P.order oL).2&&QM c (P.order oL).1)=decide (0<=R.fZ oL 0 ws))(q:((P.order oQ).2&&QM c (P.order oQ).1)=decide (0<=R.fZ oQ 0 ws))(t:((P.order oS).2&&QM c (P.order oS).1)=decide (0<=R.fZ oS 0 ws)):uU c d:=by
 intro o;rw[sL o d ws hs];by_cases h1:o=oW
 ·subst h1;exact u
 by_cases h2:o=oR
 ·subst h2;exact s
 by_cases h3:o=oA
 ·subst h3;exact m
 by_cases h4:o=oL
 ·subst h4;exact p
 by_cases h5:o=oQ
 ·subst h5;exact q
 by_cases h6:o=oS
 ·subst h6;exact t
 rw[Ko o h1 h2 h3 h4 h5 h6];have:∀(l:List (List UInt8)) (k:Int),(∀x∈l,x=oW\/x=oR\/x=oA\/x=oL\/x=oQ\/x=oS)->R.fZ o k l=-1:=by
  intro l
  induction l with
  |nil=>intro k _;rfl
  |cons x r ih =>
   intro k j;have i:(x==o)=E:=by
    cases hb:x==o
    ·rfl
    ·have e:x=o:=by simpa using hb
     subst e
     rcases j x (by simp)with h|h|h|h|h|h<;>contradiction
   simp only[R.fZ,i];exact ih (k+1) fun y z=>j y (by simp[z])
 rw[this ws 0 f];rfl
def Kq:uU 4 R.oFence:=zF 4 R.oFence [oQ,oS] (by decide) (by decide) (by decide) (by decide) (by decide) (by decide) (by decide) (by decide)
def Kr:uU 1 R.oStore:=zF 1 R.oStore [oW,oR,oL] (by decide) (by decide) (by decide) (by decide) (by decide) (by decide) (by decide) (by decide)
def Ks:uU 0 R.oLoad:=zF 0 R.oLoad [oW,oR,oA] (by decide) (by decide) (by decide) (by decide) (by decide) (by decide) (by decide) (by decide)
def Kt:uU 2 R.oG:=zF 2 R.oG [oR,oA,oL,oQ] (by decide) (by decide) (by decide) (by decide) (by decide) (by decide) (by decide) (by decide)
def Ku:uU 3 R.oG:=zF 3 R.oG [oR,oA,oL,oQ] (by decide) (by decide) (by decide) (by decide) (by decide) (by decide) (by decide) (by decide)
def ordW(o:Int):List UInt8:=if o==0 then oW else if o==1 then oR else if o==2 then oA else if o==3 then oL else if o==4 then oQ else oS
def scW(o s:Int):List UInt8:=if o==0 then[]else if s==0 then[98,108,111,99,107]else[100,101,118,105,99,101]
structure OkOS(o s:Int):Prop where
 o0:0<=o
 o1:o<6
 s0:s=0\/s=1
 w:o=0->s=0
structure Same(st st':MV)(x x':R.Lh):Prop where
 suf:TA st'=46::R.Kn x'.ord.toList x'.scope.toList
 sc:(st'.q==5)=(x'.ord.toList==oS)
 stm:st'={st with q:=st'.q,scope:=st'.scope}
 ln:x'={x with ord:=x'.ord,scope:=x'.scope}
 od:x'.ord.toList=ordW st'.q
 sp:x'.scope.toList=scW st'.q st'.scope
 ok:OkOS st'.q st'.scope
def BH(f:MV)(x:R.Lh)(c:List UInt8)(z:uU f.B c)(l:x.scope.toList=[])(m:f.scope=0)(ws:List ByteArray):
  (dI f (ws.map xF)).2=(R.how x c ws).2/\((R.how x c ws).2=U->Same f (dI f (ws.map xF)).1 x (R.how x c ws).1):=by
 match ws with
 |[]=>exact⟨Z,fun h=>by simp[R.how]at h⟩
 |o::r =>
  have q:=z o.toList;rw[xb]
  cases hk:decide (0<=R.inn o.toList c)
  ·rw[hk]at q;have y:dI f (o.toList::r.map xF)=(f,E):=by
    unfold dI;simp only[q];rfl
   rw[y];have u:R.inn o.toList c<0:=by have:=of_decide_eq_false hk;omega
   cases hw:o.toList==R.weak
   ·rw[R.VW x c o r hw u];simp
   ·rw[R.MJ x c o r hw];simp[hk]
  ·rw[hk]at q;obtain⟨j,p⟩:(P.order o.toList).2=U/\QM f.B (P.order o.toList).1=U:=by simpa using q
   cases hw:o.toList==R.weak
   ·have k:((P.order o.toList).1==0)=E:=by
     have d:¬o.toList=oW:=by intro e;rw[e]at hw;revert hw;decide
     rcases uK _ j with h|h|h|h|h|h
     ·exact absurd h d
     all_goals(rw[h];decide)
    match r with
    |[]=>rw[R.GG x c o [] hw (by simp)];simp only[List.map_nil];rw[TO f _ j p k];simp
    |[s] =>
     rw[R.VX x c o s hw (of_decide_eq_true hk)];simp only[xb,List.map_nil];rw[TP f _ _ j p k];have i:=Kp s.toList;refine⟨i.1,fun h=>?_⟩;rw[<- i.1]at h;refine⟨?_,?_,Z,Z,?_,?_,?_⟩
     ·have d:¬o.toList=oW:=by intro e;rw[e]at hw;revert hw;decide
      unfold TA;simp only[k]
      rcases uK _ j with e|e|e|e|e|e
      ·exact absurd e d
      all_goals(rcases i.2 h with e2|e2<;>(simp only[e,e2];decide))
     ·rcases uK _ j with e|e|e|e|e|e<;>(simp only[e];decide)
     ·rcases uK _ j with e|e|e|e|e|e<;>(simp only[e];decide)
     ·have d:¬o.toList=oW:=by intro e;rw[e]at hw;revert hw;decide
      rcases uK _ j with e|e|e|e|e|e
      ·exact absurd e d
      all_goals(rcases i.2 h with e2|e2<;>(simp only[e,e2];decide))
     ·have d:¬o.toList=oW:=by intro e;rw[e]at hw;revert hw;decide
      rcases uK _ j with e|e|e|e|e|e
      ·exact absurd e d
      all_goals(rcases i.2 h with e2|e2<;>(simp only[e,e2];exact⟨by decide,by decide,by decide,by decide⟩))
    |_::_::_=>rw[R.GG x c o _ hw (by simp)];simp only[xb];rw[TQ f _ _ _ _ j p k];simp
   ·have t:o.toList=oW:=by simpa[R.weak,oW]using hw
    have F:(P.order o.toList).1=0:=by rw[t];decide
    rw[R.MJ x c o r hw,TN f _ _ j p F];refine⟨by rw[hk];simp,fun _=>⟨?_,?_,Z,Z,?_,?_,?_⟩⟩
    ·unfold TA;simp only[t,l,m];decide
    ·simp only[t];decide
    ·simp only[t];decide
    ·simp only[l];rfl
    ·simp only[m];exact⟨by decide,by decide,by decide,fun _=>Z⟩
namespace R
def jW:List UInt8:=[97,100,100]
def jT:List UInt8:=[115,119,97,112]
def OE(x:Lh):Bool:=x.op.toList==gG.toList||x.op.toList==jW||x.op.toList==jT
def OD(x:Lh):Bool:=x.op.toList==gN.toList||x.op.toList==jW||x.op.toList==jT
def OO(x:Lh):Bool:=x.op.toList==gT.toList&&x.ord.toList==oS
def isB(x:Lh):Bool:=x.op.toList==jE.toList
def sIf:ByteArray:=⟨#[105,102]⟩
def fI(a:Int):Lh:={x0 with op:=sIf,a:=a}
def bl:List UInt8:=[48,32,49]
structure Tree where
 mk::
 x:Lh
 body:List Tree
structure Th where
 block:Int
 body:List Tree
 row:Int
structure Fr where
 l:List Tree
 a:Int
structure St where
 ts:List Th
 O:List Fr
 count:Int
 inner:Int
def St.zero:St:=⟨[],[],0,0⟩
def tH:List Th->Tree->List Th
 |[],_=>[]
 |[t],s=>[{t with body:=t.body++[s]}]
 |t::u::r,s=>t::tH (u::r) s
def CT:List Fr->Tree->List Fr
 |[],_=>[]
 |[t],s=>[{t with l:=t.l++[s]}]
 |t::u::r,s=>t::CT (u::r) s
def xC(c:List Th)(t:Th)(s:Tree):tH (c++[t]) s=c++[{t with body:=t.body++[s]}]:=by
 induction c with
 |nil=>rfl
 |cons a r ih=>cases r with
  |nil=>rfl
  |cons b q=>simpa[tH]using ih
def wU(c:List Fr)(t:Fr)(s:Tree):CT (c++[t]) s=c++[{t with l:=t.l++[s]}]:=by
 induction c with
 |nil=>rfl
 |cons a r ih=>cases r with
  |nil=>rfl
  |cons b q=>simpa[CT]using ih
def put(s:St)(x:Tree):St:=if s.O.isEmpty then{s with ts:=tH s.ts x}else{s with O:=CT s.O x}
def eG(s:St)(i:Int)(r:List ByteArray):Option St :=
 match r with
 |[d]=>if decide (0<=inn d.toList bl)&&s.O.isEmpty&&!(T s.ts==4)then I {s with ts:=s.ts++[⟨inn d.toList bl,[],i⟩],count:=0}else C
 |_=>C
def fC(s:St)(r:List ByteArray):Option St :=
 match s.O.getLast? with
 |none=>C
 |some f=>if r.isEmpty then I (put {s with O:=s.O.dropLast} (.mk (fI f.a) f.l))else C
def branch(s:St)(r:List ByteArray):Option St :=
 match r with
 |[a]=>if decide (s.count<8)&&decide (T s.O<2)&&(bG a.toList).2 then I {s with count:=s.count+1,O:=s.O++[⟨[],(bG a.toList).1⟩]}else C
 |_=>C
def bW(s:St)(i:Int)(c:ByteArray)(r:List ByteArray):Option St :=
 if decide (s.count<8)&&(fD c r).2 then
  I (put {s with count:=s.count+1,inner:=if isB (fD c r).1&&!s.O.isEmpty&&s.inner==0 then i else s.inner} (.mk (fD c r).1 []))
 else C
def step(s:St)(i:Int)(c:ByteArray)(r:List ByteArray):Option St :=
 if c.toList==[116,104,114,101,97,100]then eG s i r
 else if s.ts.isEmpty then C
 else if c.toList==[101,110,100]then fC s r
 else if c.toList==[105,102]then branch s r
 else bW s i c r
def nF(l:List UInt8):ByteArray:=⟨l.toArray⟩
def WC(l:List UInt8):(nF l).toList=l:=by rw[nF,bQ]
def WD(b:ByteArray):nF b.toList=b:=by
 rw[nF,oO]
def run(s:St)(i:Int):List (List UInt8)->Option St×Int
 |[]=>(I s,i)
 |x::xs=>match(ND 32 x).map nF with
  |[]=>(C,i+1)
  |c::w=>match step s (i+1) c w with
   |none=>(C,i+1)
   |some s'=>run s' (i+1) xs
def NL(p:Lh->Bool):List Tree->Int
 |[]=>0
 |⟨x,b⟩::r=>(if p x then 1 else 0)+NL p b+NL p r
def iM(p:Lh->Bool)(t:Tree):Int:=(if p t.x then 1 else 0)+NL p t.body
def iY(p:Lh->Bool):NL p []=0:=by simp only[NL]
def jA(p:Lh->Bool)(t:Tree)(r:List Tree):NL p (t::r)=iM p t+NL p r:=by cases t;simp only[NL,iM]
def oK(f0 f1:Int):List Th->Int
 |[]=>0
 |t::r =>
  let n:=NL isB t.body
  let f:=if t.block==0 then f0 else f1
  let g:=if f<0 then n else f
  if g != n||decide (2<n)then t.row
  else if t.block==0 then oK g f1 r else oK f0 g r
def mI(ts:List Th):Int:=oK (-1) (-1) ts
def eH(p:Lh->Bool):List Th->Int
 |[]=>0
 |t::r=>NL p t.body+eH p r
def sN(ts:List Th):Bool:=decide (eH OE ts<=4)&&decide (eH OD ts<=3)&&decide (eH OO ts<=3)
def read(l:List UInt8):List Th×Int×Int :=
 if 2000<T l then([],1,0)
 else match run St.zero 0 (ND 10 l).dropLast with
  |(C,i)=>([],2,i)
  |(I s,n) =>
   if(ND 10 l).getLast?≠I []\/n=0\/s.O≠[]then([],2,n+1)
   else
    let inner:=if s.inner==0 then mI s.ts else s.inner
    if 0<inner then([],3,inner)else if sN s.ts then(s.ts,0,0)else([],4,0)
end R
def AF(v:List UInt8):R.inn v R.bl=if v=[48]then 0 else if v=[49]then 1 else -1:=by
 rw[sL v R.bl [[48],[49]] (by decide)];by_cases h1:v=[48]
 ·subst h1;decide
 by_cases h2:v=[49]
 ·subst h2;decide
 simp[R.fZ,Ne.symm h1,Ne.symm h2,h1,h2]
def kE:List R.Tree->List Value->List Value
 |t::l,v::vs=>(cI t.x v).toList++kE l vs
 |_,_=>[]
def Kv(l m:List R.Tree):∀(vs c:List Value),T vs=T l->kE (l++m) (vs++c)=kE l vs++kE m c:=by
 induction l with
 |nil =>
  intro vs c h;have:vs=[]:=List.length_eq_zero_iff.1 h;subst this;simp[kE]
 |cons t l ih =>
  intro vs c h
  cases vs with
  |nil=>simp at h
  |cons v vs=>simp only[xj,kE,ih vs c (by simpa using h),List.append_assoc]
def Kw(l:List R.Tree):∀(vs:List Value),T vs=T l->∀(i:Nat) (t:R.Tree) (v:Value),l[i]?=I t->vs[i]?=I v->∀j,j<9->(kE l vs)[i*9+j]?=(cI t.x v)[j]?:=by
 induction l with
 |nil=>intro vs _ i t v h;simp at h
 |cons t0 l ih =>
  intro vs e i t v c d j f
  cases vs with
  |nil=>simp at e
  |cons v0 vs =>
   cases i with
   |zero =>
    simp at c d;subst c d;simp only[kE];rw[x2 (by simp[cI];omega)];simp
   |succ i =>
    simp at c d;have:=ih vs (by simpa using e) i t v c d j f;simp only[kE];rw[xa (by simp[cI];omega),<- this]
    congr 1
    simp[cI];omega
def NZ(w:World)(B:Nat)(v:Value)(l:List R.Tree)(F:List Nat):Prop :=
 ∀M:Value->List R.Tree->List Nat->Prop,(∀(v:Value) (l:List R.Tree) (vs:List Value) (Fs:List (List Nat)),w.ownsRow B 52 9 v (T l) (kE l vs)->T vs=T l->T Fs=T l ->
   (∀(i:Nat) (t:R.Tree) (u:Value) (F:List Nat),l[i]?=I t->vs[i]?=I u->Fs[i]?=I F->M u t.body F)->(v.ownBlock.toList++Fs.flatten).Nodup->M v l (v.ownBlock.toList++Fs.flatten))->M v l F
def NZ.row{l:List R.Tree}{Fs:List (List Nat)}(o:w.ownsRow B 52 9 v (T l) (kE l vs))(p:T vs=T l)(j:T Fs=T l)(k:∀(i:Nat) (t:R.Tree) (u:Value) (F:List Nat),l[i]?=I t->vs[i]?=I u->Fs[i]?=I F->NZ w B u t.body F)(m:(v.ownBlock.toList++Fs.flatten).Nodup):NZ w B v l (v.ownBlock.toList++Fs.flatten):=
 fun M c=>c v l vs Fs o p j (fun i t u F d e f=>k i t u F d e f M c) m
def NZ.ind{w:World}{B:Nat}{c:∀(v:Value) (l:List R.Tree) (F:List Nat),NZ w B v l F->Prop}(row:∀{v:Value} {l:List R.Tree} {vs:List Value} {d:List (List Nat)} (p:w.ownsRow B 52 9 v (T l) (kE l vs)) (q:T vs=T l) (m:T d=T l)
   (k:∀(i:Nat) (t:R.Tree) (u:Value) (F:List Nat),l[i]?=I t->vs[i]?=I u->d[i]?=I F->NZ w B u t.body F) (o:(v.ownBlock.toList++d.flatten).Nodup)
   (_:∀(i:Nat) (t:R.Tree) (u:Value) (F:List Nat) (e:l[i]?=I t) (f:vs[i]?=I u) (j:d[i]?=I F),c u t.body F (k i t u F e f j)),c v l (v.ownBlock.toList++d.flatten) (NZ.row p q m k o)){v:Value}{l:List R.Tree}{F:List Nat}(h:NZ w B v l F):c v l F h :=
 (h (fun v l F=>∃h:NZ w B v l F,c v l F h) fun v l vs d p q m k o=>⟨NZ.row p q m (fun i t u F e f j=>(k i t u F e f j).1) o,row p q m _ o fun i t u F e f j=>(k i t u F e f j).2⟩).2
def NZ.cs{w:World}{B:Nat}{c:∀(v:Value) (l:List R.Tree) (F:List Nat),NZ w B v l F->Prop}(row:∀{v:Value} {l:List R.Tree} {vs:List Value} {d:List (List Nat)} (k:w.ownsRow B 52 9 v (T l) (kE l vs)) (m:T vs=T l) (e:T d=T l)
   (f:∀(i:Nat) (t:R.Tree) (u:Value) (F:List Nat),l[i]?=I t->vs[i]?=I u->d[i]?=I F->NZ w B u t.body F) (j:(v.ownBlock.toList++d.flatten).Nodup),c v l (v.ownBlock.toList++d.flatten) (NZ.row k m e f j)){v:Value}{l:List R.Tree}{F:List Nat}(h:NZ w B v l F):c v l F h :=
 NZ.ind (fun k m e f j _=>row k m e f j) h
def NZ.nil(w:World)(B:Nat):NZ w B (N C 0 0) [] []:=
 .row (Fs:=[]) (vs:=[]) (World.ownsRow_nil _ _ _ _) Z Z (fun i t u F h=>by simp at h) (by simp[Value.ownBlock])
def NZ.yF{l:List R.Tree}{F:List Nat}(h:NZ w B v l F):F.Nodup:=by
 cases h using NZ.cs with
 |row _ _ _ _ hn=>exact hn
def NZ.own{l:List R.Tree}{F:List Nat}(h:NZ w B v l F):∀k,v.ownBlock=I k->k∈F:=by
 intro k c
 cases h using NZ.cs with
 |row _ _ _ _ _=>simp[c]
def NZ.keep{l:List R.Tree}{F:List Nat}(h:NZ w B v l F)(f:∀k∈F,w'.heap[k]?=w.heap[k]?):NZ w' B v l F:=by
 induction h using NZ.ind with
 | @row v l vs Fs ho hv hF hc hn ih =>
  refine .row (bE ho fun k e=>f k (by simp[e])) hv hF (fun i t u F j m d=>ih i t u F j m d fun k c=>f k ?_) hn;have:F∈Fs:=xk d;simp only[x3,x4];exact xW ⟨F,this,c⟩
def NZ.fV{l:List R.Tree}{F:List Nat}(h:NZ w B v l F):∀k∈F,B<=k/\k<A (W w):=by
 induction h using NZ.ind with
 | @row v l vs Fs ho hv hF hc hn ih =>
  intro k c;simp only[x3,x4,xc]at c
  rcases c with c|⟨F,d,c⟩
  ·exact ho.lt k c
  ·obtain⟨i,m,e⟩:=List.mem_iff_getElem.1 d;have f:i<T l:=by omega
   have j:i<T vs:=by omega
   exact ih i l[i] vs[i] F (by simp[f]) (by simp[j]) (by simp[m,e]) k c
def NZ.aY{s:Value}{l:List R.Tree}{F G:List Nat}{x:R.Lh}{b:List R.Tree}(h:NZ w B v l F)(O:NZ w B bv b G)(V:∀k∈F,k∉G)(ho:∀vs:List Value,w.ownsRow B 52 9 v (T l) (kE l vs)->w'.ownsRow B 52 9 s (T l+1) (kE l vs++(cI x bv).toList))(hk:∀k,k∈F\/k∈G->I k≠v.ownBlock->w'.heap[k]?=w.heap[k]?)(f:s.ownBlock=v.ownBlock\/∀k,s.ownBlock=I k->A (W w)<=k):
  ∃F',NZ w' B s (l++[.mk x b]) F'/\∀k∈F',k∈F\/k∈G\/s.ownBlock=I k:=by
 have hB:=h.fV
 cases h using NZ.cs with
 | @row _ _ vs Fs ho0 hv hF hc hn =>
  have o:(Fs++[G]).flatten=Fs.flatten++G:=by simp
  refine⟨s.ownBlock.toList++(Fs++[G]).flatten,.row (vs:=vs++[bv]) ?_ (by simp[hv]) (by simp[hF]) ?_ ?_,?_⟩
  ·rw[Kv _ _ _ _ hv,List.length_append];simpa[kE]using ho vs ho0
  ·intro i t u F z L y;have M:∀k∈Fs.flatten,w'.heap[k]?=w.heap[k]?:=fun k m=>by
    refine hk k (Or.inl (xd _ m)) fun e=>?_;rw[x5]at hn;exact hn.2.2 k (by rw[<- e];simp) k m Z
   by_cases hi:i<T l
   ·rw[x2 hi]at z;rw[x2 (by omega)]at L;rw[x2 (by omega)]at y;refine(hc i t u F z L y).keep fun k m=>M k ?_;simp only[x4];exact⟨F,xk y,m⟩
   ·have aa:i=T l:=by
     have:=(List.getElem?_eq_some_iff.1 z).1;simp at this;omega
    subst aa;rw[xa (by omega)]at z L y;simp at z;simp[hv]at L;simp[hF]at y;subst z L y;refine O.keep fun k J=>hk k (xW J) fun e=>?_;exact V k (by simp[<- e]) J
  ·rw[o];have r:=hn;rw[x5]at r;have X:(Fs.flatten++G).Nodup:=by
    rw[x5];refine⟨r.2.1,O.yF,fun a p c j e=>?_⟩;subst e;exact V a (xd _ p) j
   rw[x5];refine⟨by cases s.ownBlock<;>simp,X,fun a p c j e=>?_⟩;subst e;simp only[xc]at p
   rcases f with f|f
   ·rw[f]at p
    rcases List.mem_append.1 j with d|d
    ·exact r.2.2 a (by simpa using p) a d Z
    ·exact V a (by simp;exact Or.inl p) d
   ·have h2:=f a p
    rcases List.mem_append.1 j with d|d
    ·have:=(hB a (xd _ d)).2;omega
    ·have:=(O.fV a d).2;omega
  ·intro k q;rw[o]at q;simp only[x3,xc]at q⊢
   rcases q with d|d|d
   ·exact xW (xW d)
   ·exact Or.inl (xW d)
   ·exact xW (Or.inl d)
namespace R
def eT(op ord:List UInt8)(x:Lh):Bool:=x.op.toList==op&&(ord.isEmpty||x.ord.toList==ord)
def OA(l:List Tree):Int:=NL (fun _=>U) l
def gK(p:Lh->Bool)(l:List Tree):0<=NL p l/\NL p l<=NL (fun _=>U) l:=by
 induction l using NL.induct with
 |case1=>simp[iY]
 |case2 x b r h1 h2 =>
  simp only[jA,iM,if_true]
  split<;>omega
def LB(p:Lh->Bool)(a b:List Tree):NL p (a++b)=NL p a+NL p b:=by
 induction a with
 |nil=>simp[iY,jA]
 |cons t r ih=>simp only[xj,iY,jA,ih];omega
def WE(p:Lh->Bool)(l:List Tree)(k:Nat)(h:k<T l):NL p (l.take (k+1))=NL p (l.take k)+((if p l[k].x then 1 else 0)+NL p l[k].body):=by
 rw[List.take_succ_eq_append_getElem h,LB];simp only[iY,jA]
 cases l[k]with
 |mk x b=>cases hp:p x<;>simp[iM,iY,hp]
def WF(l:List Tree)(k:Nat)(h:k<T l):OA (l.take k)+1+OA l[k].body<=OA l:=by
 have c:=WE (fun _=>U) l k h;have d:NL (fun _=>U) l=NL (fun _=>U) (l.take (k+1))+NL (fun _=>U) (l.drop (k+1)):=by
  rw[<- LB,List.take_append_drop]
 have e:=(gK (fun _=>U) (l.drop (k+1))).1;simp only[if_true]at c;unfold OA;omega
def DN(l:List Tree):(T l:Int)<=OA l:=by
 induction l with
 |nil=>simp[OA,iY,jA]
 |cons t r ih =>
  have:1<=iM (fun _=>U) t:=by
   cases t with
   |mk x b=>have:=(gK (fun _=>U) b).1;simp[iM];omega
  simp only[OA,iY,jA,List.length_cons]at ih⊢;omega
end R
def NZ.i{l:List R.Tree}(e:w.ownsRow B 52 9 (MU g n cap) n (kE l vs))(m:n=T l)(i:T vs=T l)(k:Nat)(d:k<T l)(u:Value)(f:vs[k]?=I u):
  ∀j,j<9->K w ⟨g,k*9+j,C⟩=(cI l[k].x u)[j]?:=by
 intro j c;rw[e.cellAt _ (by omega)];exact Kw l vs i k l[k] u (by simp[d]) f j c
def Kx(op ord:ByteArray){l:List R.Tree}{F:List Nat}(h:NZ w0 B v l F):R.OA l<10000->∀w:World,(∀k∈F,w.heap[k]?=w0.heap[k]?) ->
  Calls prog 21 #[v,Y op,Y ord] w fun e w'=>e=S (D H (R.NL (R.eT op.toList ord.toList) l))/\Below (A (W w)) w w':=by
 induction h using NZ.ind with
 | @row v l vs Fs ho hv hF hc hnd ih =>
 intro X w L;have z:=(NZ.row ho hv hF hc hnd).fV;have q:∀k∈v.ownBlock.toList++Fs.flatten,k<A (W w):=fun k M=>by
  have h2:=L k M;rw[Array.getElem?_eq_getElem ((z k M).2)]at h2;exact(Array.getElem?_eq_some_iff.1 h2).1
 have how:w.ownsRow B 52 9 v (T l) (kE l vs):=bE ho fun k e=>L k (by simp[e]);have af:∃a c,v=N a (T l) c/\(0<T l->∃b,a=I ⟨b,0,C⟩/\b<A (W w)):=by
  rcases how.2 with⟨e,h0⟩|⟨k,c,ah,e,_⟩
  ·exact⟨C,0,by rw[e,h0],fun h=>by omega⟩
  ·exact⟨_,c,e,fun _=>⟨k,Z,(how.lt k (by rw[e];rfl)).2⟩⟩
 obtain⟨sa,sc,rfl,ae⟩:=af;have ag:=R.DN l;have HO:=MS how;have aa:=MS ih;have HK:=MS L;have ab:=MS q;have HV:=MS hv;have HF:=MS hF;have HS:=MS X;have hn:T l<10000:=by omega
 generalize hN:T l=n at*;have HL:=MS hN;clear hN how ih L q hv hF X ho hc hnd z;go_enter func21,ntmps21;go_wp2;go_loopw[7,8] (fun c i wr=>∃k:Nat,k<=n/\i=D H k/\c=D H (R.NL (R.eT op.toList ord.toList) (l.take k))/\Below (A (W w)) w wr) fun _ i _=>n-(intOf i).toNat
 case atStart=>exact⟨0,x8 _,Z,by simp[R.iY,R.jA],x9 _ _⟩
 case round =>
  obtain⟨k,L,rfl,rfl,d⟩:=hrel;have ak:=R.gK (R.eT op.toList ord.toList) (l.take k);by_cases q:k<n
  ·obtain⟨b,rfl,r⟩:=ae (by omega);have y:k<T l:=by rw[HL.o];exact q
   have aj:(k:Int)<(n:Int):=by omega
   have V:k<T vs:=by rw[HV.o];exact q
   have O:k<T Fs:=by rw[HF.o];exact q
   have CE:=NZ.i HO.o HL.symm (by rw[HV.o,HL.o]) k y vs[k] (by simp[V]);have c0:=(d.cell (p:=⟨b,k*9,C⟩) r).trans (CE 0 (by omega));have c6:=(d.cell (p:=⟨b,k*9+6,C⟩) r).trans (CE 6 (by omega));have c8:=(d.cell (p:=⟨b,k*9+8,C⟩) r).trans (CE 8 (by omega));simp[cI]at c0 c6 c8;have am:=R.WF l k y;have an:=(R.gK (fun _=>U) (l.take k)).1;have al:=R.gK (R.eT op.toList ord.toList) l[k].body;have hS:=HS.o;have HC:MT (∀w2:World,Below (A (W w)) w w2->Calls prog 21 #[vs[k],Y op,Y ord] w2 fun e w'=>e=S (D H (R.NL (R.eT op.toList ord.toList) l[k].body))/\Below (A (W w2)) w2 w'):=by
    intro w2 ac;refine aa.o k l[k] vs[k] Fs[k] (by simp[y]) (by simp[V]) (by simp[O]) (by unfold R.OA at*;omega) w2 fun j hj=>?_;have J:j∈(MU b n sc).ownBlock.toList++Fs.flatten:=by
     simp only[x3,x4];exact xW ⟨Fs[k],List.getElem_mem O,hj⟩
    rw[ac.block j (ab.o j J),HK.o j J]
   have m:=MS (R.WE (R.eT op.toList ord.toList) l k y);have ai:0<=R.NL (R.eT op.toList ord.toList) l[k].body/\R.NL (R.eT op.toList ord.toList) l[k].body<10000:=by unfold R.OA at*;omega
   have f:0<=R.NL (R.eT op.toList ord.toList) (l.take k)/\R.NL (R.eT op.toList ord.toList) (l.take k)<10000:=by unfold R.OA at*;omega
   generalize l[k]=t at*;generalize vs[k]=u at*;generalize R.NL (R.eT op.toList ord.toList) t.body=nb at*;generalize R.NL (R.eT op.toList ord.toList) (l.take k)=na at*;have s:A (W w)<=A (W wr):=d.size;have fin:∀w1,Below (A (W wr)) wr w1->Below (A (W w)) w w1:=fun w1 h1=>d.trans (h1.mono s)
   by_cases e1:t.x.op.toList=op.toList
   ·cases e2:ord.toList.isEmpty
    ·cases e3:t.x.ord.toList==ord.toList
     ·have G:R.eT op.toList ord.toList t.x=E:=by simp[R.eT,e3,e2]
      rw[G]at m;go_wp2_with(first|(go_at_call 21;refine(HC.o _ (by first|exact d|exact d.alloc s _)).mono ?_;rintro e w1 ⟨rfl,f⟩));go_roundw
      case rel=>exact⟨k+1,by omega,by go_num,by rw[m.o];congr 1;first|(simp only[x6,if_false];omega)|(simp only[if_true];omega),fin _ f⟩
      case measure=>simp[intOf];omega
     ·have G:R.eT op.toList ord.toList t.x=U:=by simp[R.eT,e1,e3]
      rw[G]at m;go_wp2_with(first|(go_at_call 21;refine(HC.o _ (by first|exact d|exact d.alloc s _)).mono ?_;rintro e w1 ⟨rfl,f⟩));go_roundw
      case rel=>exact⟨k+1,by omega,by go_num,by rw[m.o];congr 1;first|(simp only[x6,if_false];omega)|(simp only[if_true];omega),fin _ f⟩
      case measure=>simp[intOf];omega
    ·have G:R.eT op.toList ord.toList t.x=U:=by simp[R.eT,e1,e2]
     rw[G]at m;go_wp2_with(first|(go_at_call 21;refine(HC.o _ (by first|exact d|exact d.alloc s _)).mono ?_;rintro e w1 ⟨rfl,f⟩));go_roundw
     case rel=>exact⟨k+1,by omega,by go_num,by rw[m.o];congr 1;first|(simp only[x6,if_false];omega)|(simp only[if_true];omega),fin _ f⟩
     case measure=>simp[intOf];omega
   ·have G:R.eT op.toList ord.toList t.x=E:=by simp[R.eT,e1]
    rw[G]at m;go_wp2_with(first|(go_at_call 21;refine(HC.o _ (by first|exact d|exact d.alloc s _)).mono ?_;rintro e w1 ⟨rfl,f⟩));go_roundw
    case rel=>exact⟨k+1,by omega,by go_num,by rw[m.o];congr 1;first|(simp only[x6,if_false];omega)|(simp only[if_true];omega),fin _ f⟩
    case measure=>simp[intOf];omega
  ·have ad:k=n:=by omega
   subst ad;have HT:MT (l.take k=l):=xh (by have:=HL.o;omega);go_wp2;go_ret;rw[HT.o];exact⟨Z,d⟩
