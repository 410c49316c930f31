import Derived.Test.YtehclbpoabdpoaaGreatDoorProg
import Derived.Handy
import Derived.Lib.Strings
import Derived.Deep.MidRow
set_option linter.all false
set_option maxHeartbeats 0
namespace Go.Proofs.YtehclbpoabdpoaaGreatDoor
open Go Go.RowKit Go.Proofs.Tryz
set_option maxRecDepth 1000000
def Z{α:Sort _}{a:α}:a=a:=rfl
variable {p:Prop}{a:Act}{b g:Nat}{r:Option Nat}{w w':World}{e:TypeId}{fr:Nat × Nat}{ws:List ByteArray}{ops:Array Oper}{op:Oper}{l:List Code}
open Go.World renaming cell?->D
open Bool renaming false->Y,true->G
open Option renaming none->C,some->O
open Go.Value renaming int->I,bool->N,string->L
open Go.IntKind renaming i64->E
open Go.Ending renaming returned->U
open Go.Obj renaming cells->M
open Go.Code renaming wp->xF
open Go.World renaming cell?->xR,cell?_of_block->x3,block_lt_of_cell?->x5,setCells->x6
open Go.RowKit.Below renaming heap_setCell->xW,heap_alloc->x4
open UInt8 renaming toNat_lt->x1
open Nat renaming lt_of_lt_of_le->x2
open _root_.Array renaming getElem?_eq_none->x7
open Go.Result renaming andThen_ok->x8
abbrev MU(g n c:Nat):Value:=.slice (O ⟨g,0,C⟩) n c
def MT(p:Prop):Prop:=p
def MT.o(h:MT p):p:=h
namespace P
structure QR where
 MW:Bool
 n:Int
structure MV where
 B:Int
 i:Int
 dest:Int
 z:Int
 a:QR
 b:QR
 q:Int
 scope:Int
 label:Int
def QR.zero:QR:=⟨Y,0⟩
def MV.zero:MV:=⟨0,0,0,0,QR.zero,QR.zero,0,0,0⟩
def eD(c:UInt8)(n:Int):Int×Bool:=((c.toNat:Int)-48,decide (48<=(c.toNat:Int))&&decide ((c.toNat:Int)-48<n))
def bZ:List UInt8->Int×Bool
 |[c,d]=>if c=114 then eD d 4 else(0,Y)
 |_=>(0,Y)
def cF:List UInt8->QR×Bool
 |[c]=>(⟨Y,(eD c 4).1⟩,(eD c 4).2)
 |l=>(⟨G,(bZ l).1⟩,(bZ l).2)
def fT(l:List UInt8):Int×Bool :=
 if l==[120]then(0,G)else if l==[121]then(1,G)else if l==[122]then(2,G)else(0,Y)
def order(l:List UInt8):Int×Bool :=
 if l==[119,101,97,107]then(0,G)
 else if l==[114,101,108,97,120,101,100]then(1,G)
 else if l==[97,99,113,117,105,114,101]then(2,G)
 else if l==[114,101,108,101,97,115,101]then(3,G)
 else if l==[97,99,113,114,101,108]then(4,G)
 else if l==[115,99]then(5,G)
 else(0,Y)
def scope(l:List UInt8):Int×Bool :=
 if l==[98,108,111,99,107]then(0,G)else if l==[100,101,118,105,99,101]then(1,G)else(0,Y)
def sign(l:List UInt8):Int×Bool :=
 if l==[43]then(7,G)else if l==[45]then(8,G)else if l==[61,61]then(9,G)else(0,Y)
def QM(kind order:Int):Bool :=
 if kind==0 then order==0||order==1||order==2
 else if kind==1 then order==0||order==1||order==3
 else if kind==2||kind==3 then order==1||order==2||order==3||order==4
 else if kind==4 then order==4||order==5
 else Y
def aX(kind:Int):Bool:=kind==0||kind==2||kind==3
def lV(kind:Int):Bool:=kind==1||kind==2||kind==3
def iC(st:MV)(place value:List UInt8):MV×Bool :=
 if(fT place).2 then({st with z:=(fT place).1,a:=(cF value).1},(cF value).2)else(st,Y)
def dI(st:MV):List (List UInt8)->MV×Bool
 |[]=>(st,Y)
 |o::r =>
  if(order o).2&&QM st.B (order o).1 then
   if(order o).1==0 then({st with q:=0},r.isEmpty)
   else match r with
    |[s]=>({st with q:=(order o).1,scope:=(scope s).1},(scope s).2)
    |_=>({st with q:=(order o).1},Y)
  else(st,Y)
def Fw(c:MV)(o:List UInt8)(r:List (List UInt8))(h:(order o).2=Y):dI c (o::r)=(c,Y):=by simp[dI,h]
def Fx(c:MV)(o:List UInt8)(r:List (List UInt8))(h:QM c.B (order o).1=Y):dI c (o::r)=(c,Y):=by simp[dI,h]
def TN(c:MV)(o:List UInt8)(r:List (List UInt8))(h:(order o).2=G)(d:QM c.B (order o).1=G)(f:(order o).1=0):dI c (o::r)=({c with q:=0},r.isEmpty):=by
 rw[f]at d;simp[dI,h,d,f]
def TO(c:MV)(o:List UInt8)(h:(order o).2=G)(d:QM c.B (order o).1=G)(f:((order o).1==0)=Y):dI c [o]=({c with q:=(order o).1},Y):=by
 simp[dI,h,d,f]
def TP(c:MV)(o s:List UInt8)(h:(order o).2=G)(d:QM c.B (order o).1=G)(f:((order o).1==0)=Y):dI c [o,s]=({c with q:=(order o).1,scope:=(scope s).1},(scope s).2):=by
 simp[dI,h,d,f]
def TQ(c:MV)(o s t:List UInt8)(q:List (List UInt8))(h:(order o).2=G)(d:QM c.B (order o).1=G)(f:((order o).1==0)=Y):dI c (o::s::t::q)=({c with q:=(order o).1},Y):=by
 simp[dI,h,d,f]
def load(st:MV):List (List UInt8)->MV×Bool
 |[]=>(st,Y)
 |v::r=>if(fT v).2 then dI {st with B:=0,z:=(fT v).1} r else(st,Y)
def step(st:MV)(kind:Int):List (List UInt8)->MV×Bool
 |p::v::r=>let t:=iC {st with B:=kind} p v
  if t.2 then dI t.1 r else(t.1,Y)
 |_=>(st,Y)
def sum(st:MV):List (List UInt8)->MV×Bool
 |[a]=>if(cF a).2 then({st with B:=6,a:=(cF a).1},G)else(st,Y)
 |[a,s,b] =>
  if(cF a).2 then
   if(sign s).2 then({st with B:=(sign s).1,a:=(cF a).1,b:=(cF b).1},(cF b).2)
   else({st with B:=6,a:=(cF a).1},Y)
  else(st,Y)
 |_=>(st,Y)
def GR(c:MV)(v:List UInt8)(r:List (List UInt8))(h:(fT v).2=Y):load c (v::r)=(c,Y):=by simp[load,h]
def FL(c:MV)(v:List UInt8)(r:List (List UInt8))(h:(fT v).2=G):load c (v::r)=dI {c with B:=0,z:=(fT v).1} r:=by simp[load,h]
def KP(c:MV)(k:Int)(p v:List UInt8)(r:List (List UInt8))(h:(iC {c with B:=k} p v).2=Y):step c k (p::v::r)=((iC {c with B:=k} p v).1,Y):=by simp[step,h]
def JF(c:MV)(k:Int)(p v:List UInt8)(r:List (List UInt8))(h:(iC {c with B:=k} p v).2=G):step c k (p::v::r)=dI (iC {c with B:=k} p v).1 r:=by simp[step,h]
def CG(c:MV)(a:List UInt8)(r:List (List UInt8))(h:(cF a).2=Y):sum c (a::r)=(c,Y):=by
 match r with
 |[]=>simp[sum,h]
 |[_]=>simp[sum]
 |[_,_]=>simp[sum,h]
 |_::_::_::_=>simp[sum]
def GZ(c:MV)(a:List UInt8)(h:(cF a).2=G):sum c [a]=({c with B:=6,a:=(cF a).1},G):=by simp[sum,h]
def TR(c:MV)(a s b:List UInt8)(h:(cF a).2=G)(d:(sign s).2=Y):sum c [a,s,b]=({c with B:=6,a:=(cF a).1},Y):=by simp[sum,h,d]
def KJ(c:MV)(a s b:List UInt8)(h:(cF a).2=G)(d:(sign s).2=G):sum c [a,s,b]=({c with B:=(sign s).1,a:=(cF a).1,b:=(cF b).1},(cF b).2):=by simp[sum,h,d]
def EX(c:MV)(l:List (List UInt8))(d:¬l.length=1)(f:¬l.length=3):sum c l=(c,Y):=by
 match l with
 |[]=>rfl
 |[_]=>simp at d
 |[_,_]=>rfl
 |[_,_,_]=>simp at f
 |_::_::_::_::_=>rfl
def fP:List (List UInt8)->MV×Bool
 |d::e::c::r =>
  if e==[61]then
   if(bZ d).2 then
    if c==[108,111,97,100]then load {MV.zero with dest:=(bZ d).1} r
    else if c==[97,100,100]then step {MV.zero with dest:=(bZ d).1} 2 r
    else if c==[115,119,97,112]then step {MV.zero with dest:=(bZ d).1} 3 r
    else sum {MV.zero with dest:=(bZ d).1} (c::r)
   else(MV.zero,Y)
  else(MV.zero,Y)
 |_=>(MV.zero,Y)
def store:List (List UInt8)->MV×Bool
 |_::p::v::r=>let t:=iC {MV.zero with B:=1} p v
  if t.2 then dI t.1 r else(MV.zero,Y)
 |_=>(MV.zero,Y)
def fence:List (List UInt8)->MV×Bool
 |_::r=>dI {MV.zero with B:=4} r
 |_=>(MV.zero,Y)
def oY:List (List UInt8)->MV×Bool
 |[_,a]=>({MV.zero with B:=10,a:=(cF a).1},(cF a).2)
 |_=>(MV.zero,Y)
def cR:List (List UInt8)->MV×Bool
 |[]=>(MV.zero,Y)
 |c::r =>
  if c==[115,116,111,114,101]then store (c::r)
  else if c==[102,101,110,99,101]then fence (c::r)
  else if c==[98,97,114,114,105,101,114]then({MV.zero with B:=5},r.isEmpty)
  else if c==[105,102]then oY (c::r)
  else if c==[101,110,100]then({MV.zero with B:=11},r.isEmpty)
  else fP (c::r)
end P
def LG(c n:Int)(w:World)(f:0<=c)(d:c<256):
  Calls prog 146 #[I .u8 c,I E n] w fun e w'=>e=U (.tuple #[I E (c-48),N (decide (48<=c)&&decide (c-48<n))])/\w'=w:=by
 go_enter func146,ntmps146;go_wp2
 all_goals go_ret2
 all_goals simp[*]
 all_goals omega
def yN(s:ByteArray)(w:World):
  Calls prog 195 #[L s] w fun e w'=>e=U (.tuple #[I E (P.fT s.toList).1,N (P.fT s.toList).2])/\w'=w:=by
 go_enter func195,ntmps195;go_wp2
 all_goals go_ret2
 all_goals simp[P.fT, *]
def xV(s:ByteArray)(w:World):
  Calls prog 196 #[L s] w fun e w'=>e=U (.tuple #[I E (P.order s.toList).1,N (P.order s.toList).2])/\w'=w:=by
 go_enter func196,ntmps196;go_wp2
 all_goals go_ret2
 all_goals simp[P.order, *]
def xQ(s:ByteArray)(w:World):
  Calls prog 197 #[L s] w fun e w'=>e=U (.tuple #[I E (P.scope s.toList).1,N (P.scope s.toList).2])/\w'=w:=by
 go_enter func197,ntmps197;go_wp2
 all_goals go_ret2
 all_goals simp[P.scope, *]
def TS(s:ByteArray)(w:World):
  Calls prog 198 #[L s] w fun e w'=>e=U (.tuple #[I E (P.sign s.toList).1,N (P.sign s.toList).2])/\w'=w:=by
 go_enter func198,ntmps198;go_wp2
 all_goals go_ret2
 all_goals simp[P.sign, *]
def xZ(k o:Int)(w:World):
  Calls prog 154 #[I E k,I E o] w fun e w'=>e=U (N (P.QM k o))/\w'=w:=by
 go_enter func154,ntmps154;go_wp2
 all_goals go_ret
 all_goals simp[P.QM, *]
def LN(k:Int)(w:World):
  Calls prog 52 #[I E k] w fun e w'=>e=U (N (P.aX k))/\w'=w:=by
 go_enter func52,ntmps52;go_wp2
 all_goals go_ret
 all_goals simp[P.aX, *]
def Fy(k:Int)(w:World):
  Calls prog 53 #[I E k] w fun e w'=>e=U (N (P.lV k))/\w'=w:=by
 go_enter func53,ntmps53;go_wp2
 all_goals go_ret
 all_goals simp[P.lV, *]
def oO(s:ByteArray):s.toList=s.data.toList:=ByteArray.toList_eq s
def jR(s:ByteArray):s.toList.length=s.size:=by rw[oO];rfl
def TT(s:ByteArray)(h:s.size=1):s.toList=[s[0]]:=by
 rw[oO]
 rcases s with⟨⟨l⟩⟩
 match l,h with
 |[a],_=>rfl
def Fz(s:ByteArray)(h:s.size=2):s.toList=[s[0],s[1]]:=by
 rw[oO]
 rcases s with⟨⟨l⟩⟩
 match l,h with
 |[a,b],_=>rfl
def F7(a:UInt8)(n:Nat)(c:n<256):((a.toNat:Int)==(n:Int))=(a==UInt8.ofNat n):=by
 rw[Bool.eq_iff_iff];simp[<- UInt8.toNat_inj];omega
def F8(s:ByteArray)(h:s.size=2):P.bZ s.toList=if((s[0].toNat:Int) != 114)=G then(0,Y)else P.eD s[1] 4:=by
 rw[Fz s h];have e:((s[0].toNat:Int) != 114)=(s[0] != 114):=by
  have:=F7 s[0] 114 (by omega);simp only[bne];exact congrArg (!·) this
 rw[e];by_cases h1:s[0]=114<;>simp[P.bZ,h1]
def Gb(s:ByteArray)(h:¬s.size=2):P.bZ s.toList=(0,Y):=by
 have:=jR s;unfold P.bZ
 split
 ·simp_all
 ·rfl
def TU(s:ByteArray)(w:World):
  Calls prog 170 #[L s] w fun e w'=>e=U (.tuple #[I E (P.bZ s.toList).1,N (P.bZ s.toList).2])/\w'=w:=by
 by_cases h2:s.size=2
 ·have H:=F8 s h2;have c:s[1].toNat<256:=x1 _;go_enter func170,ntmps170;go_wp2_with(go_at_call 146;refine(LG _ _ _ (by omega) (by omega)).mono ?_;rintro e w' ⟨rfl,rfl⟩)
  all_goals go_ret2
  all_goals simp[P.eD, *]
 ·have H:=Gb s h2;go_enter func170,ntmps170;go_wp2;go_ret2;simp[*]
def Gc(s:ByteArray)(h:s.size=1):P.cF s.toList=(⟨Y,(P.eD s[0] 4).1⟩,(P.eD s[0] 4).2):=by
 rw[TT s h];rfl
def Gd(s:ByteArray)(h:¬s.size=1):P.cF s.toList=(⟨G,(P.bZ s.toList).1⟩,(P.bZ s.toList).2):=by
 have:=jR s;unfold P.cF
 split
 ·simp_all
 ·rfl
def rO(s:ByteArray)(w:World):
  Calls prog 169 #[L s] w fun e w'=>e=U (.tuple #[.agg #[N (P.cF s.toList).1.MW,I E (P.cF s.toList).1.n],N (P.cF s.toList).2])/\Below w.heap.size w w':=by
 by_cases h2:s.size=1
 ·have H:=Gc s h2;have c:s[0].toNat<256:=x1 _;go_enter func169,ntmps169;go_wp2_with(go_at_call 146;refine(LG _ _ _ (by omega) (by omega)).mono ?_;rintro e w' ⟨rfl,rfl⟩);go_returns;exact⟨by simp[H,P.eD],by go_grown⟩
 ·have H:=Gd s h2;go_enter func169,ntmps169;go_wp2_with(go_at_call 170;refine(TU _ _).mono ?_;rintro e w' ⟨rfl,rfl⟩);go_returns;exact⟨by simp[H],by go_grown⟩
def MS(h:p):MT p:=h
def cV(h:MT p):p:=h
def fH(w:World)(r:Option Nat):w.grownBy w r:=⟨Z,Z,Z,Nat.le_refl _,fun _ _ _=>Z⟩
def nM{a b c:World}(h:a.grownBy b r)(k:b.grownBy c r):a.grownBy c r :=
 ⟨k.os.trans h.os,k.tape.trans h.tape,k.output.trans h.output,Nat.le_trans h.size k.size,fun i d f=>(k.block i (x2 d h.size) f).trans (h.block i d f)⟩
def uA{a:World}(h:a.grownBy w r)(o:Obj):a.grownBy (w.alloc o) r:=nM h (World.grownBy_alloc _ _ _)
def zB{a:World}(h:a.grownBy w r):a.grownBy w.drew r:=⟨h.os,h.tape,h.output,h.size,h.block⟩
def TV(h:w.drew.grownBy w' r):w.grownBy w' r:=⟨h.os,h.tape,h.output,h.size,h.block⟩
def dG{a:World}(h:a.grownBy w (O g))(i:Nat)(u:Value):a.grownBy (w.setCell ⟨g,i,C⟩ u) (O g):=
 nM h ⟨Z,Z,Z,by simp[World.setCell],fun k _ c=>xW _ _ _ _ fun e=>c (by rw[e])⟩
def mR(h:Below w.heap.size w w')(r:Option Nat):w.grownBy w' r:=⟨h.os,h.tape,h.output,h.size,fun k c _=>h.block k c⟩
def Ge(h:w.grownBy w' C):Below w.heap.size w w':=⟨h.os,h.tape,h.output,h.size,fun k c=>h.block k c (by simp)⟩
def kS{c:World}(h:Below w.heap.size w c)(k:c.grownBy w' (O g))(f:w.heap.size<=g):Below w.heap.size w w' :=
 h.trans ⟨k.os,k.tape,k.output,k.size,fun i d=>k.block i (x2 d h.size) (by simp;omega)⟩
def bX{c:Array Value}(h:w.heap[g]?=O (M c e fr))(i:Nat)(u:Value):
  (w.setCell ⟨g,i,C⟩ u).heap[g]?=O (M (c.setIfInBounds i u) e fr):=by
 simp only[World.setCell,Array.getElem?_modify];simp[h]
def cY{i o:Nat}{u:Value}(h:b≠g):(w.setCell ⟨g,i,C⟩ u).cell? ⟨b,o,C⟩=D w ⟨b,o,C⟩:=
 x3 (w:=w) (a:=⟨b,o,C⟩) (xW _ _ _ _ h)
def aV(st:P.MV):Array Value:=#[I E st.B,I E st.i,I E st.dest,I E st.z,N st.a.MW,I E st.a.n,N st.b.MW,I E st.b.n,I E st.q,I E st.scope,I E st.label]
def bB(w:World)(g:Nat)(st:P.MV):Prop:=w.heap[g]?=O (M (aV st) 137 (0,0))
def bB.lt{c:P.MV}(h:bB w g c):g<w.heap.size:=(Array.getElem?_eq_some_iff.1 h).1
def bB.cell{c:P.MV}(h:bB w g c)(i:Nat):D w ⟨g,i,C⟩=(aV c)[i]?:=by
 unfold bB at h;simp[xR,h]
def bB.free{c:P.MV}(h:bB w g c)(i:Nat):w.frozen? ⟨g,i,C⟩=Y:=by
 unfold bB at h;simp[World.frozen?,h]
def bB.F{c:P.MV}(h:bB w g c):g<w.heap.size/\(∀i,w.frozen? ⟨g,i,C⟩=Y)/\
  D w ⟨g,0,C⟩=O (I E c.B)/\D w ⟨g,1,C⟩=O (I E c.i)/\D w ⟨g,2,C⟩=O (I E c.dest)/\D w ⟨g,3,C⟩=O (I E c.z)/\
  D w ⟨g,4,C⟩=O (N c.a.MW)/\D w ⟨g,5,C⟩=O (I E c.a.n)/\D w ⟨g,6,C⟩=O (N c.b.MW)/\D w ⟨g,7,C⟩=O (I E c.b.n)/\
  D w ⟨g,8,C⟩=O (I E c.q)/\D w ⟨g,9,C⟩=O (I E c.scope)/\D w ⟨g,10,C⟩=O (I E c.label):=
 ⟨h.lt,h.free,h.cell 0,h.cell 1,h.cell 2,h.cell 3,h.cell 4,h.cell 5,h.cell 6,h.cell 7,h.cell 8,h.cell 9,h.cell 10⟩
def bB.aC{c:P.MV}(h:bB w g c)(e:w'.heap[g]?=w.heap[g]?):bB w' g c:=by
 unfold bB at*;rw[e];exact h
def bB.X{c:P.MV}(h:bB w g c)(d:Below w.heap.size w w'):bB w' g c:=h.aC (d.block g h.lt)
def bB.alloc{c:P.MV}(h:bB w g c)(o:Obj):bB (w.alloc o) g c:=h.aC (x4 _ _ _ h.lt)
def bB.drew{c:P.MV}(h:bB w g c):bB w.drew g c:=h
def bB.set{d:P.MV}(c:P.MV)(h:bB w g d)(i:Nat)(u:Value)(e:(aV d).setIfInBounds i u=aV c):bB (w.setCell ⟨g,i,C⟩ u) g c:=by
 unfold bB at*;rw[bX h,e]
def bB.new(w:World)(c:P.MV):bB (w.alloc (M (aV c) 137)) w.heap.size c:=by
 unfold bB;exact heap_alloc_new w _
def bB.cZ{c:P.MV}(h:bB w g c)(x:Int):bB (w.setCell ⟨g,0,C⟩ (I E x)) g {c with B:=x}:=h.set _ 0 _ Z
def bB.mJ{c:P.MV}(h:bB w g c)(x:Int):bB (w.setCell ⟨g,3,C⟩ (I E x)) g {c with z:=x}:=h.set _ 3 _ Z
def bB.rH{c:P.MV}(h:bB w g c)(x:P.QR):bB ((w.setCell ⟨g,4,C⟩ (N x.MW)).setCell ⟨g,5,C⟩ (I E x.n)) g {c with a:=x}:=
 (h.set {c with a:=⟨x.MW,c.a.n⟩} 4 _ Z).set _ 5 _ Z
def bB.bM{c:P.MV}(h:bB w g c)(x:P.QR):bB ((w.setCell ⟨g,6,C⟩ (N x.MW)).setCell ⟨g,7,C⟩ (I E x.n)) g {c with b:=x}:=
 (h.set {c with b:=⟨x.MW,c.b.n⟩} 6 _ Z).set _ 7 _ Z
def bB.fR{c:P.MV}(h:bB w g c)(x:Int):bB (w.setCell ⟨g,8,C⟩ (I E x)) g {c with q:=x}:=h.set _ 8 _ Z
def bB.iN{c:P.MV}(h:bB w g c)(x:Int):bB (w.setCell ⟨g,9,C⟩ (I E x)) g {c with scope:=x}:=h.set _ 9 _ Z
def NQ(w:World)(b off:Nat)(ws:List ByteArray):Prop:=∀i s,ws[i]?=O s->D w ⟨b,off+i,C⟩=O (L s)
def NQ.head{off:Nat}{s:ByteArray}{r:List ByteArray}(h:NQ w b off (s::r)):D w ⟨b,off,C⟩=O (L s)/\b<w.heap.size/\NQ w b (off+1) r:=by
 have c:=h 0 s Z;refine⟨c,x5 w _ c,fun i t d=>?_⟩;have:=h (i+1) t (by simpa using d);rw[show off+1+i=off+(i+1)by omega];exact this
def NQ.kept{off:Nat}(h:NQ w b off ws)(e:b<w.heap.size->w'.heap[b]?=w.heap[b]?):NQ w' b off ws:=by
 intro i s hs;have c:=h i s hs;rw[x3 (w:=w) (e (x5 w _ c))];exact c
def NQ.X{off:Nat}(h:NQ w b off ws)(c:Below w.heap.size w w'):NQ w' b off ws:=h.kept fun e=>c.block b e
def NQ.grown{off:Nat}(h:NQ w b off ws)(d:w.grownBy w' (O g))(c:b≠g):NQ w' b off ws:=h.kept fun e=>d.block b e (by simpa using c)
def NQ.set{off:Nat}(h:NQ w b off ws)(c:b≠g)(i:Nat)(u:Value):NQ (w.setCell ⟨g,i,C⟩ u) b off ws:=h.kept fun _=>xW _ _ _ _ c
def NQ.alloc{off:Nat}(h:NQ w b off ws)(o:Obj):NQ (w.alloc o) b off ws:=h.kept fun e=>x4 _ _ _ e
def NQ.drew{off:Nat}(h:NQ w b off ws):NQ w.drew b off ws:=h.kept fun _=>Z
def NQ.nil(w:World)(b off:Nat):NQ w b off []:=fun _ _ h=>by simp at h
def jP{t:TypeId}{c:Array Value}(h:w.heap[b]?=O (M c t (0,0)))(j:Nat)(v:Value)(d:c[j]?=O v):D w ⟨b,j,C⟩=O v:=by
 simp only[xR,h];simpa using d
def MZ{B:Nat}{j:Nat}{v:Value}(c:Below B w w')(f:b<B)(d:D w ⟨b,j,C⟩=O v):D w' ⟨b,j,C⟩=O v:=(c.cell (p:=⟨b,j,C⟩) f).trans d
def sM(cur:Array Value)(o:Nat):List Value->Array Value
 |[]=>cur
 |v::r=>sM (cur.setIfInBounds o v) (o+1) r
def yM{g:Nat}{e:TypeId}{fr:Nat×Nat}:∀(d:List Value) (o:Nat) (w:World) (c:Array Value),w.heap[g]?=O (M c e fr)->(w.setCells g o d).heap[g]?=O (M (sM c o d) e fr)
 |[],_,_,_,h=>h
 |v::r,o,w,c,h=>by
  rw[x6];exact yM r (o+1) _ _ (bX h o v)
def IE{g:Nat}:∀(c:List Value) (o:Nat) (w:World),w.grownBy (w.setCells g o c) (O g)
 |[],_,w=>fH w _
 |v::r,o,w=>by
  rw[x6];exact nM (dG (fH _ _) _ _) (IE r (o+1) _)
def Gf(d:List Value):∀(o:Nat) (c:Array Value),(sM c o d).size=c.size:=by
 induction d with
 |nil=>intro o c;rfl
 |cons v r ih=>intro o c;rw[sM,ih];simp
def TW(d:List Value):∀(o:Nat) (c:Array Value) (j:Nat),o+d.length<=c.size->(sM c o d)[j]?=if o<=j/\j<o+d.length then d[j-o]? else c[j]?:=by
 induction d with
 |nil=>intro o c j _;simp[sM];omega
 |cons v r ih =>
  intro o c j h;simp at h;rw[sM,ih _ _ _ (by simp;omega)];by_cases h1:o=j
  ·subst h1;rw[if_neg (by omega),if_pos (by simp)];simp[Array.getElem?_setIfInBounds];omega
  ·by_cases h2:o+1<=j/\j<o+1+r.length
   ·rw[if_pos h2,if_pos (by simp;omega)];rw[show j-o=j-(o+1)+1 by omega];simp
   ·rw[if_neg h2,if_neg (by simp;omega)];simp[h1]
def TX(c new:Array Value)(h:c.size=new.size):sM c 0 new.toList=new:=by
 apply Array.ext_getElem?;intro j;rw[TW _ _ _ _ (by simp;omega)];by_cases h1:j<new.size
 ·rw[if_pos (by simp;omega)];simp
 ·rw[if_neg (by simp;omega),x7 (by omega),x7 (by omega)]
def IS{cs:Array Value}(c:w.heap[g]?=O (M cs e (0,0))):w.rangeAt g 0 cs.toList:=by
 intro j v d;simp[xR,c];simpa using d
def TY{cs:Array Value}(c:w.heap[g]?=O (M cs e (0,0)))(n:Nat)(f:n<=cs.size):w.there g 0 n:=by
 intro j d;simp[xR,World.frozen?,c];omega
variable {Pg:Program}
def vW(w:World)(g:Nat)(c:TypeId)(cs:Array Value)(e:TypeId)(i:w.heap[g]?=O (M cs e (0,0)))(d:TypeDesc)(k:Pg.underlying c=O d)(f:d.isRow=G)(j:(Pg.info? c).map (·.size)=O cs.size):
  (loadVar c ⟨g,0,C⟩).run Pg w=.ok (.agg cs) w:=by
 have:=run_loadVar_mid (P:=Pg) w g 0 c cs.toList d (IS i) k f (by simpa using j);simpa using this
def KZ{rest:List Oper}{Q:Exit->Act->World->Prop}(f:op.guard=C)(c:TypeId)(x:Operand)(m:op.op=.load c x)(g:Nat)(o:a.eval x=.pointer (O ⟨g,0,C⟩))(cs:Array Value)(e:TypeId)(j:w.heap[g]?=O (M cs e (0,0)))(d:TypeDesc)(n:Pg.underlying c=O d)(i:d.isRow=G)(k:(Pg.info? c).map (·.size)=O cs.size)(h:wpList Pg ops Q rest (a.put op.dst (.agg cs)) w):wpList Pg ops Q (op::rest) a w :=
 wpList_load_mid f c x m g 0 o cs.toList d (IS j) n i (by simpa using k) (by simpa using h)
def LV{rest:List Oper}{Q:Exit->Act->World->Prop}(d:op.guard=C)(i:TypeId)(x y:Operand)(o:op.op=.store i x y)(g:Nat)(c cs:Array Value)(e:TypeId)(q:a.eval x=.pointer (O ⟨g,0,C⟩))(s:a.eval y=.agg c)(k:w.heap[g]?=O (M cs e (0,0)))(f:cs.size=c.size)(n:(Pg.info? i).map (·.size)=O c.size)(m:c.all (·.oneCell')=G)(h:∀w',w'.heap[g]?=O (M c e (0,0))->w.grownBy w' (O g)->wpList Pg ops Q rest (a.put op.dst undef) w'):wpList Pg ops Q (op::rest) a w:=by
 refine wpList_store_mid d i x y o g 0 c q s (TY k _ (by omega)) n m ?_;have j:=yM c.toList 0 w cs k;rw[TX cs c f]at j;exact h _ j (IE _ _ _)
def rT{rest:List Oper}{Q:Exit->Act->World->Prop}(x:Operand)(c:op.guard=C)(i:op.op=.load 137 x)(g:Nat)(d:P.MV)(j:a.eval x=.pointer (O ⟨g,0,C⟩))(f:bB w g d)(h:wpList prog ops Q rest (a.put op.dst (.agg (aV d))) w):wpList prog ops Q (op::rest) a w :=
 KZ c _ x i g j _ _ f _ underlying137 Z (by kernel_rfl) h
def mX{rest:List Oper}{Q:Exit->Act->World->Prop}(x y:Operand)(c:op.guard=C)(i:op.op=.store 137 x y)(g:Nat)(d t:P.MV)(j:a.eval x=.pointer (O ⟨g,0,C⟩))(k:a.eval y=.agg (aV t))(f:bB w g d)(h:∀w',bB w' g t->w.grownBy w' (O g)->wpList prog ops Q rest (a.put op.dst undef) w'):wpList prog ops Q (op::rest) a w :=
 LV c _ x y i g (aV t) (aV d) _ j k f Z (by kernel_rfl) (by simp[aV,Value.oneCell']) h
def Gg{c:P.MV}(h:bB w g c):(loadVar 137 ⟨g,0,C⟩).run prog w=.ok (.agg (aV c)) w :=
 vW w g _ _ _ h _ underlying137 Z (by kernel_rfl)
def nI(r:P.MV×Bool):Value:=.tuple #[.agg (aV r.1),N r.2]
def rF{i:Func}{R:Ending->World->Prop}{p u:Tmp}(g:Nat)(f:P.MV)(d:Bool)(c:i.results=#[.cell p 137,.tmp u])(m:a.tmps.getD p undef=.pointer (O ⟨g,0,C⟩))(n:a.tmps.getD u undef=N d)(h:bB w g f)(k:a.defers=[])(j:R (U (nI (f,d))) w):bodyPost prog i R .ret a w:=by
 refine bodyPost_ret (v:=nI (f,d)) ?_ k j;rw[results_cell_tmp c,m,n];have:(asAddr (.pointer (O ⟨g,0,C⟩))).run prog w=.ok ⟨g,0,C⟩ w:=Z;rw[this,x8,Gg h,x8];rfl
def dR:Code->List Code
 |.seq a b=>dR a++dR b
 |c=>[c]
def NG(P:Program):List Code->(Exit->Act->World->Prop)->Act->World->Prop
 |[],Q,a,w=>Q .normal a w
 |c::r,Q,a,w=>xF P c (Exit.then (fun a' w'=>NG P r Q a' w') Q) a w
def Gh{P:Program}{Q:Exit->Act->World->Prop}(x y:List Code):∀(a:Act) (w:World),NG P (x++y) Q a w->NG P x (Exit.then (fun d w'=>NG P y Q d w') Q) a w:=by
 induction x with
 |nil=>intro a w h;exact h
 |cons c r ih =>
  intro a w h;refine wp_mono h fun e d w' f=>?_
  cases e<;>first|exact ih _ _ f|exact f
def PW{P:Program}(c:Code):∀(Q:Exit->Act->World->Prop) (a:Act) (w:World),NG P (dR c) Q a w->xF P c Q a w:=by
 have bW:∀(c:Code) (Q:Exit->Act->World->Prop) (a:Act) (w:World),NG P [c] Q a w->xF P c Q a w:=fun c Q a w h =>
  wp_mono h fun e j w' d=>by cases e<;>exact d
 induction c with
 |seq x y hx hy =>
  intro Q a w h;refine wp_seq (hx _ _ _ ?_);have mono:∀(l:List Code) (Q1 f:Exit->Act->World->Prop) (a:Act) (w:World),(∀e a w,Q1 e a w->f e a w)->NG P l Q1 a w->NG P l f a w:=by
   intro l
   induction l with
   |nil=>intro Q1 f a w i h;exact i _ _ _ h
   |cons c r ih =>
    intro Q1 f a w i h;refine wp_mono h fun e j w' d=>?_
    cases e<;>first|exact ih _ _ _ _ i d|exact i _ _ _ d
  refine mono _ _ _ _ _ (fun e j w' d=>?_) (Gh (dR x) (dR y) a w h)
  cases e<;>first|exact hy _ _ _ d|exact d
 |_=>exact fun Q a w h=>bW _ Q a w h
def Gi{P:Program}{Q:Exit->Act->World->Prop}(i:Nat)(c:i<l.length)(h:∀K:Act->World->Prop,(∀a w,NG P (l.drop (i+1)) Q a w->K a w)->xF P (l.getD i .skip) (Exit.then K Q) a w):NG P (l.drop i) Q a w:=by
 rw[List.drop_eq_getElem_cons c];have e:l.getD i .skip=l[i]:=by simp[List.getD,c]
 rw[e]at h;exact h _ fun _ _ h=>h
def nH{P:Program}{c:Code}{r:List Code}{Q:Exit->Act->World->Prop}(h:∀K:Act->World->Prop,MT (∀a w,NG P r Q a w->K a w)->xF P c (Exit.then K Q) a w):NG P (c::r) Q a w :=
 h _ fun _ _ h=>h
def MX{P:Program}{m:Nat}{Q:Exit->Act->World->Prop}(i:Nat)(e:l.length=m)(c:Nat.blt i m=G)(h:∀K:Act->World->Prop,MT (∀a w,NG P (l.drop (i+1)) Q a w->K a w)->xF P (l.getD i .skip) (Exit.then K Q) a w):NG P (l.drop i) Q a w :=
 Gi i (by rw[e];simpa using c) h
def aO(c:Code)(i:Nat):Code:=(dR c)[i]?.getD .skip
def bC(c:Code):Code:=match c with
 |.block _ d=>d
 |d=>d
def oP:Code->Code
 |.loop c=>c
 |d=>d
def gA(a:Act)(i:Nat):Value:=a.tmps.getD i undef
def Gj{l:List Value}{d:Value}:l=(List.range l.length).map fun i=>l.getD i d:=by
 apply List.ext_getElem
 ·simp
 ·intro i c f;simp[List.getD,c]
def OQ{n:Nat}(h:a.tmps.size=n)(f:a.defers=[]):a=⟨⟨(List.range n).map (gA a)⟩,[]⟩:=by
 obtain⟨⟨l⟩,d⟩:=a;simp only at f;subst f;have j:l.length=n:=h;have c:=Gj (l:=l) (d:=undef);rw[j]at c;have k:gA ⟨⟨l⟩,[]⟩=fun i=>l.getD i undef:=by funext i;simp[gA,Array.getD_eq_getD_getElem?]
 rw[k];exact congrArg (fun x:List Value=>(⟨⟨x⟩,[]⟩:Act)) c
structure Fr(a:Act)(l:List (Nat×Value)):Prop where
 sz:a.tmps.size=244
 df:a.defers=[]
 at_:l.map (fun x=>gA a x.1)=l.map Prod.snd
