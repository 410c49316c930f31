import Derived.Test.YtlikcongbhhpfaaGreatDoorProg
import Derived.Handy
import Derived.Lib.Strings
set_option linter.unusedVariables false
set_option linter.unusedSimpArgs false
set_option maxHeartbeats 12800000
namespace Go.Proofs.YtlikcongbhhpfaaGreatDoor
open Go Go.RowKit Go.Proofs.Tryz
set_option maxRecDepth 1000000
theorem Z{α:Sort _}{a:α}:a=a:=rfl
variable {p:Prop}{a w w':World}{b g:Nat}{r:Option Nat}{ws:List ByteArray}
open Go.World renaming cell?->L
open Bool renaming false->Y,true->G
open Go.Value renaming int->C,bool->N,string->M
open Option renaming none->O,some->E
open Go.IntKind renaming i64->I
open Go.Ending renaming returned->U
open Go.Code renaming wp->xF
open Go.RowKit.Below renaming heap_setCell->xR,heap_alloc->x2
open UInt8 renaming toNat_lt->xW
open Nat renaming lt_of_lt_of_le->x0
open Go.World renaming cell?_of_block->x1,block_lt_of_cell?->x3
abbrev JQ(g n c:Nat):Value:=.slice (E ⟨g,0,O⟩) n c
def JP(p:Prop):Prop:=p
theorem JP.o(h:JP p):p:=h
namespace P
structure MR where
 KI:Bool
 n:Int
structure JR where
 k:Int
 i:Int
 dest:Int
 z:Int
 a:MR
 b:MR
 q:Int
 scope:Int
 label:Int
def MR.zero:MR:=⟨Y,0⟩
def JR.zero:JR:=⟨0,0,0,0,MR.zero,MR.zero,0,0,0⟩
def cH(c:UInt8)(n:Int):Int×Bool:=((c.toNat:Int)-48,decide (48<=(c.toNat:Int))&&decide ((c.toNat:Int)-48<n))
def aS:List UInt8->Int×Bool
 |[c,d]=>if c=114 then cH d 4 else(0,Y)
 |_=>(0,Y)
def aO:List UInt8->MR×Bool
 |[c]=>(⟨Y,(cH c 4).1⟩,(cH c 4).2)
 |l=>(⟨G,(aS l).1⟩,(aS l).2)
def cR(l:List UInt8):Int×Bool :=
 if l==[120]then(0,G)else if l==[121]then(1,G)else if l==[122]then(2,G)else(0,Y)
def aF(l:List UInt8):Int×Bool :=
 if l==[119,101,97,107]then(0,G)
 else if l==[114,101,108,97,120,101,100]then(1,G)
 else if l==[97,99,113,117,105,114,101]then(2,G)
 else if l==[114,101,108,101,97,115,101]then(3,G)
 else if l==[97,99,113,114,101,108]then(4,G)
 else if l==[115,99]then(5,G)
 else(0,Y)
def scope(l:List UInt8):Int×Bool :=
 if l==[98,108,111,99,107]then(0,G)else if l==[100,101,118,105,99,101]then(1,G)else(0,Y)
def cX(l:List UInt8):Int×Bool :=
 if l==[43]then(7,G)else if l==[45]then(8,G)else if l==[61,61]then(9,G)else(0,Y)
def OQ(kind aF:Int):Bool :=
 if kind==0 then aF==0||aF==1||aF==2
 else if kind==1 then aF==0||aF==1||aF==3
 else if kind==2||kind==3 then aF==1||aF==2||aF==3||aF==4
 else if kind==4 then aF==4||aF==5
 else Y
def eE(kind:Int):Bool:=kind==0||kind==2||kind==3
def oS(kind:Int):Bool:=kind==1||kind==2||kind==3
def MI(st:JR)(place value:List UInt8):JR×Bool :=
 if(cR place).2 then({st with z:=(cR place).1,a:=(aO value).1},(aO value).2)else(st,Y)
def dI(st:JR):List (List UInt8)->JR×Bool
 |[]=>(st,Y)
 |o::r =>
  if(aF o).2&&OQ st.k (aF o).1 then
   if(aF o).1==0 then({st with q:=0},r.isEmpty)
   else match r with
    |[s]=>({st with q:=(aF o).1,scope:=(scope s).1},(scope s).2)
    |_=>({st with q:=(aF o).1},Y)
  else(st,Y)
theorem G6(c:JR)(o:List UInt8)(r:List (List UInt8))(h:(aF o).2=Y):dI c (o::r)=(c,Y):=by simp[dI,h]
theorem G7(c:JR)(o:List UInt8)(r:List (List UInt8))(h:OQ c.k (aF o).1=Y):dI c (o::r)=(c,Y):=by simp[dI,h]
theorem RW(c:JR)(o:List UInt8)(r:List (List UInt8))(h:(aF o).2=G)(d:OQ c.k (aF o).1=G)(e:(aF o).1=0):dI c (o::r)=({c with q:=0},r.isEmpty):=by
 rw[e]at d;simp[dI,h,d,e]
theorem RX(c:JR)(o:List UInt8)(h:(aF o).2=G)(d:OQ c.k (aF o).1=G)(e:((aF o).1==0)=Y):dI c [o]=({c with q:=(aF o).1},Y):=by
 simp[dI,h,d,e]
theorem RY(c:JR)(o s:List UInt8)(h:(aF o).2=G)(d:OQ c.k (aF o).1=G)(e:((aF o).1==0)=Y):dI c [o,s]=({c with q:=(aF o).1,scope:=(scope s).1},(scope s).2):=by
 simp[dI,h,d,e]
theorem RZ(c:JR)(o s t:List UInt8)(q:List (List UInt8))(h:(aF o).2=G)(d:OQ c.k (aF o).1=G)(e:((aF o).1==0)=Y):dI c (o::s::t::q)=({c with q:=(aF o).1},Y):=by
 simp[dI,h,d,e]
def load(st:JR):List (List UInt8)->JR×Bool
 |[]=>(st,Y)
 |v::r=>if(cR v).2 then dI {st with k:=0,z:=(cR v).1} r else(st,Y)
def step(st:JR)(kind:Int):List (List UInt8)->JR×Bool
 |p::v::r=>let t:=MI {st with k:=kind} p v
  if t.2 then dI t.1 r else(t.1,Y)
 |_=>(st,Y)
def sum(st:JR):List (List UInt8)->JR×Bool
 |[a]=>if(aO a).2 then({st with k:=6,a:=(aO a).1},G)else(st,Y)
 |[a,s,b] =>
  if(aO a).2 then
   if(cX s).2 then({st with k:=(cX s).1,a:=(aO a).1,b:=(aO b).1},(aO b).2)
   else({st with k:=6,a:=(aO a).1},Y)
  else(st,Y)
 |_=>(st,Y)
theorem G8(c:JR)(v:List UInt8)(r:List (List UInt8))(h:(cR v).2=Y):load c (v::r)=(c,Y):=by simp[load,h]
theorem G9(c:JR)(v:List UInt8)(r:List (List UInt8))(h:(cR v).2=G):load c (v::r)=dI {c with k:=0,z:=(cR v).1} r:=by simp[load,h]
theorem SB(c:JR)(k:Int)(p v:List UInt8)(r:List (List UInt8))(h:(MI {c with k:=k} p v).2=Y):step c k (p::v::r)=((MI {c with k:=k} p v).1,Y):=by simp[step,h]
theorem SC(c:JR)(k:Int)(p v:List UInt8)(r:List (List UInt8))(h:(MI {c with k:=k} p v).2=G):step c k (p::v::r)=dI (MI {c with k:=k} p v).1 r:=by simp[step,h]
theorem SD(c:JR)(a:List UInt8)(r:List (List UInt8))(h:(aO a).2=Y):sum c (a::r)=(c,Y):=by
 match r with
 |[]=>simp[sum,h]
 |[_]=>simp[sum]
 |[_,_]=>simp[sum,h]
 |_::_::_::_=>simp[sum]
theorem SE(c:JR)(a:List UInt8)(h:(aO a).2=G):sum c [a]=({c with k:=6,a:=(aO a).1},G):=by simp[sum,h]
theorem Ha(c:JR)(a s b:List UInt8)(h:(aO a).2=G)(d:(cX s).2=Y):sum c [a,s,b]=({c with k:=6,a:=(aO a).1},Y):=by simp[sum,h,d]
theorem SF(c:JR)(a s b:List UInt8)(h:(aO a).2=G)(d:(cX s).2=G):sum c [a,s,b]=({c with k:=(cX s).1,a:=(aO a).1,b:=(aO b).1},(aO b).2):=by simp[sum,h,d]
theorem Hb(c:JR)(l:List (List UInt8))(d:¬l.length=1)(e:¬l.length=3):sum c l=(c,Y):=by
 match l with
 |[]=>rfl
 |[_]=>simp at d
 |[_,_]=>rfl
 |[_,_,_]=>simp at e
 |_::_::_::_::_=>rfl
def eG:List (List UInt8)->JR×Bool
 |d::e::c::r =>
  if e==[61]then
   if(aS d).2 then
    if c==[108,111,97,100]then load {JR.zero with dest:=(aS d).1} r
    else if c==[97,100,100]then step {JR.zero with dest:=(aS d).1} 2 r
    else if c==[115,119,97,112]then step {JR.zero with dest:=(aS d).1} 3 r
    else sum {JR.zero with dest:=(aS d).1} (c::r)
   else(JR.zero,Y)
  else(JR.zero,Y)
 |_=>(JR.zero,Y)
def store:List (List UInt8)->JR×Bool
 |_::p::v::r=>let t:=MI {JR.zero with k:=1} p v
  if t.2 then dI t.1 r else(JR.zero,Y)
 |_=>(JR.zero,Y)
def fence:List (List UInt8)->JR×Bool
 |_::r=>dI {JR.zero with k:=4} r
 |_=>(JR.zero,Y)
def kN:List (List UInt8)->JR×Bool
 |[_,a]=>({JR.zero with k:=10,a:=(aO a).1},(aO a).2)
 |_=>(JR.zero,Y)
def cI:List (List UInt8)->JR×Bool
 |[]=>(JR.zero,Y)
 |c::r =>
  if c==[115,116,111,114,101]then store (c::r)
  else if c==[102,101,110,99,101]then fence (c::r)
  else if c==[98,97,114,114,105,101,114]then({JR.zero with k:=5},r.isEmpty)
  else if c==[105,102]then kN (c::r)
  else if c==[101,110,100]then({JR.zero with k:=11},r.isEmpty)
  else eG (c::r)
end P
theorem EC(c n:Int)(w:World)(f:0<=c)(d:c<256):
  Calls prog 146 #[C .u8 c,C I n] w fun e w'=>e=U (.tuple #[C I (c-48),N (decide (48<=c)&&decide (c-48<n))])/\w'=w:=by
 go_enter func146,ntmps146;go_wp2
 all_goals go_ret2
 all_goals simp[*]
 all_goals omega
theorem vX(s:ByteArray)(w:World):
  Calls prog 190 #[M s] w fun e w'=>e=U (.tuple #[C I (P.cR s.toList).1,N (P.cR s.toList).2])/\w'=w:=by
 go_enter func190,ntmps190;go_wp2
 all_goals go_ret2
 all_goals simp[P.cR, *]
theorem uB(s:ByteArray)(w:World):
  Calls prog 191 #[M s] w fun e w'=>e=U (.tuple #[C I (P.aF s.toList).1,N (P.aF s.toList).2])/\w'=w:=by
 go_enter func191,ntmps191;go_wp2
 all_goals go_ret2
 all_goals simp[P.aF, *]
theorem uE(s:ByteArray)(w:World):
  Calls prog 192 #[M s] w fun e w'=>e=U (.tuple #[C I (P.scope s.toList).1,N (P.scope s.toList).2])/\w'=w:=by
 go_enter func192,ntmps192;go_wp2
 all_goals go_ret2
 all_goals simp[P.scope, *]
theorem SH(s:ByteArray)(w:World):
  Calls prog 193 #[M s] w fun e w'=>e=U (.tuple #[C I (P.cX s.toList).1,N (P.cX s.toList).2])/\w'=w:=by
 go_enter func193,ntmps193;go_wp2
 all_goals go_ret2
 all_goals simp[P.cX, *]
theorem nW(k o:Int)(w:World):
  Calls prog 188 #[C I k,C I o] w fun e w'=>e=U (N (P.OQ k o))/\w'=w:=by
 go_enter func188,ntmps188;go_wp2
 all_goals go_ret
 all_goals simp[P.OQ, *]
theorem FL(k:Int)(w:World):
  Calls prog 58 #[C I k] w fun e w'=>e=U (N (P.eE k))/\w'=w:=by
 go_enter func58,ntmps58;go_wp2
 all_goals go_ret
 all_goals simp[P.eE, *]
theorem Hc(k:Int)(w:World):
  Calls prog 59 #[C I k] w fun e w'=>e=U (N (P.oS k))/\w'=w:=by
 go_enter func59,ntmps59;go_wp2
 all_goals go_ret
 all_goals simp[P.oS, *]
theorem jF(s:ByteArray):s.toList=s.data.toList:=ByteArray.toList_eq s
theorem MS(s:ByteArray):s.toList.length=s.size:=by rw[jF];rfl
theorem II(s:ByteArray)(h:s.size=1):s.toList=[s[0]]:=by
 rw[jF]
 rcases s with⟨⟨l⟩⟩
 match l,h with
 |[a],_=>rfl
theorem SI(s:ByteArray)(h:s.size=2):s.toList=[s[0],s[1]]:=by
 rw[jF]
 rcases s with⟨⟨l⟩⟩
 match l,h with
 |[a,b],_=>rfl
theorem SJ(a:UInt8)(n:Nat)(c:n<256):((a.toNat:Int)==(n:Int))=(a==UInt8.ofNat n):=by
 rw[Bool.eq_iff_iff];simp[<- UInt8.toNat_inj];omega
theorem EI(s:ByteArray)(h:s.size=2):P.aS s.toList=if((s[0].toNat:Int) != 114)=G then(0,Y)else P.cH s[1] 4:=by
 rw[SI s h];have e:((s[0].toNat:Int) != 114)=(s[0] != 114):=by
  have:=SJ s[0] 114 (by omega);simp only[bne];exact congrArg (!·) this
 rw[e];by_cases h1:s[0]=114<;>simp[P.aS,h1]
theorem EG(s:ByteArray)(h:¬s.size=2):P.aS s.toList=(0,Y):=by
 have:=MS s;unfold P.aS
 split
 ·simp_all
 ·rfl
theorem oM(s:ByteArray)(w:World):
  Calls prog 171 #[M s] w fun e w'=>e=U (.tuple #[C I (P.aS s.toList).1,N (P.aS s.toList).2])/\w'=w:=by
 by_cases h2:s.size=2
 ·have H:=EI s h2;have c:s[1].toNat<256:=xW _;go_enter func171,ntmps171;go_wp2_with(go_at_call 146;refine(EC _ _ _ (by omega) (by omega)).mono ?_;rintro e w' ⟨rfl,rfl⟩)
  all_goals go_ret2
  all_goals simp[P.cH, *]
 ·have H:=EG s h2;go_enter func171,ntmps171;go_wp2;go_ret2;simp[*]
theorem SK(s:ByteArray)(h:s.size=1):P.aO s.toList=(⟨Y,(P.cH s[0] 4).1⟩,(P.cH s[0] 4).2):=by
 rw[II s h];rfl
theorem SL(s:ByteArray)(h:¬s.size=1):P.aO s.toList=(⟨G,(P.aS s.toList).1⟩,(P.aS s.toList).2):=by
 have:=MS s;unfold P.aO
 split
 ·simp_all
 ·rfl
theorem oL(s:ByteArray)(w:World):
  Calls prog 170 #[M s] w fun e w'=>e=U (.tuple #[.agg #[N (P.aO s.toList).1.KI,C I (P.aO s.toList).1.n],N (P.aO s.toList).2])/\Below w.heap.size w w':=by
 by_cases h2:s.size=1
 ·have H:=SK s h2;have c:s[0].toNat<256:=xW _;go_enter func170,ntmps170;go_wp2_with(go_at_call 146;refine(EC _ _ _ (by omega) (by omega)).mono ?_;rintro e w' ⟨rfl,rfl⟩);go_returns;exact⟨by simp[H,P.cH],by go_grown⟩
 ·have H:=SL s h2;go_enter func170,ntmps170;go_wp2_with(go_at_call 171;refine(oM _ _).mono ?_;rintro e w' ⟨rfl,rfl⟩);go_returns;exact⟨by simp[H],by go_grown⟩
theorem JO(h:p):JP p:=h
theorem bD(h:JP p):p:=h
theorem eA(w:World)(r:Option Nat):w.grownBy w r:=⟨Z,Z,Z,Nat.le_refl _,fun _ _ _=>Z⟩
theorem lE{b c:World}(h:a.grownBy b r)(k:b.grownBy c r):a.grownBy c r :=
 ⟨k.os.trans h.os,k.tape.trans h.tape,k.output.trans h.output,Nat.le_trans h.size k.size,fun i d e=>(k.block i (x0 d h.size) e).trans (h.block i d e)⟩
theorem nZ(h:a.grownBy w r)(o:Obj):a.grownBy (w.alloc o) r:=lE h (World.grownBy_alloc _ _ _)
theorem uQ(h:a.grownBy w r):a.grownBy w.drew r:=⟨h.os,h.tape,h.output,h.size,h.block⟩
theorem DV(h:w.drew.grownBy w' r):w.grownBy w' r:=⟨h.os,h.tape,h.output,h.size,h.block⟩
theorem dB(h:a.grownBy w (E g))(i:Nat)(u:Value):a.grownBy (w.setCell ⟨g,i,O⟩ u) (E g):=
 lE h ⟨Z,Z,Z,by simp[World.setCell],fun k _ c=>xR _ _ _ _ fun e=>c (by rw[e])⟩
theorem nM(h:Below w.heap.size w w')(r:Option Nat):w.grownBy w' r:=⟨h.os,h.tape,h.output,h.size,fun k c _=>h.block k c⟩
theorem dX{c:World}(h:Below w.heap.size w c)(k:c.grownBy w' (E g))(e:w.heap.size<=g):Below w.heap.size w w' :=
 h.trans ⟨k.os,k.tape,k.output,k.size,fun i d=>k.block i (x0 d h.size) (by simp;omega)⟩
theorem bC{c:Array Value}{e:TypeId}{d:Nat×Nat}(h:w.heap[g]?=E (.cells c e d))(i:Nat)(u:Value):
  (w.setCell ⟨g,i,O⟩ u).heap[g]?=E (.cells (c.setIfInBounds i u) e d):=by
 simp only[World.setCell,Array.getElem?_modify];simp[h]
theorem aV{i o:Nat}{u:Value}(h:b≠g):(w.setCell ⟨g,i,O⟩ u).cell? ⟨b,o,O⟩=L w ⟨b,o,O⟩:=
 x1 (w:=w) (a:=⟨b,o,O⟩) (xR _ _ _ _ h)
def aC(st:P.JR):Array Value:=#[C I st.k,C I st.i,C I st.dest,C I st.z,N st.a.KI,C I st.a.n,N st.b.KI,C I st.b.n,C I st.q,C I st.scope,C I st.label]
def KH(w:World)(g:Nat)(st:P.JR):Prop:=w.heap[g]?=E (.cells (aC st) 104 (0,0))
theorem KH.lt{c:P.JR}(h:KH w g c):g<w.heap.size:=(Array.getElem?_eq_some_iff.1 h).1
theorem KH.cell{c:P.JR}(h:KH w g c)(i:Nat):L w ⟨g,i,O⟩=(aC c)[i]?:=by
 unfold KH at h;simp[World.cell?,h]
theorem KH.free{c:P.JR}(h:KH w g c)(i:Nat):w.frozen? ⟨g,i,O⟩=Y:=by
 unfold KH at h;simp[World.frozen?,h]
theorem KH.F{c:P.JR}(h:KH w g c):g<w.heap.size/\(∀i,w.frozen? ⟨g,i,O⟩=Y)/\
  L w ⟨g,0,O⟩=E (C I c.k)/\L w ⟨g,1,O⟩=E (C I c.i)/\L w ⟨g,2,O⟩=E (C I c.dest)/\L w ⟨g,3,O⟩=E (C I c.z)/\
  L w ⟨g,4,O⟩=E (N c.a.KI)/\L w ⟨g,5,O⟩=E (C I c.a.n)/\L w ⟨g,6,O⟩=E (N c.b.KI)/\L w ⟨g,7,O⟩=E (C I c.b.n)/\
  L w ⟨g,8,O⟩=E (C I c.q)/\L w ⟨g,9,O⟩=E (C I c.scope)/\L w ⟨g,10,O⟩=E (C I c.label):=
 ⟨h.lt,h.free,h.cell 0,h.cell 1,h.cell 2,h.cell 3,h.cell 4,h.cell 5,h.cell 6,h.cell 7,h.cell 8,h.cell 9,h.cell 10⟩
theorem KH.aA{c:P.JR}(h:KH w g c)(e:w'.heap[g]?=w.heap[g]?):KH w' g c:=by
 unfold KH at*;rw[e];exact h
theorem KH.X{c:P.JR}(h:KH w g c)(d:Below w.heap.size w w'):KH w' g c:=h.aA (d.block g h.lt)
theorem KH.alloc{c:P.JR}(h:KH w g c)(o:Obj):KH (w.alloc o) g c:=h.aA (x2 _ _ _ h.lt)
theorem KH.drew{c:P.JR}(h:KH w g c):KH w.drew g c:=h
theorem KH.set{d:P.JR}(c:P.JR)(h:KH w g d)(i:Nat)(u:Value)(e:(aC d).setIfInBounds i u=aC c):KH (w.setCell ⟨g,i,O⟩ u) g c:=by
 unfold KH at*;rw[bC h,e]
theorem KH.bA(w:World)(c:P.JR):KH (w.alloc (.cells (aC c) 104)) w.heap.size c:=by
 unfold KH;exact heap_alloc_new w _
theorem KH.cK{c:P.JR}(h:KH w g c)(x:Int):KH (w.setCell ⟨g,0,O⟩ (C I x)) g {c with k:=x}:=h.set _ 0 _ Z
theorem KH.iG{c:P.JR}(h:KH w g c)(x:Int):KH (w.setCell ⟨g,3,O⟩ (C I x)) g {c with z:=x}:=h.set _ 3 _ Z
theorem KH.fM{c:P.JR}(h:KH w g c)(x:P.MR):KH ((w.setCell ⟨g,4,O⟩ (N x.KI)).setCell ⟨g,5,O⟩ (C I x.n)) g {c with a:=x}:=
 (h.set {c with a:=⟨x.KI,c.a.n⟩} 4 _ Z).set _ 5 _ Z
theorem KH.wJ{c:P.JR}(h:KH w g c)(x:P.MR):KH ((w.setCell ⟨g,6,O⟩ (N x.KI)).setCell ⟨g,7,O⟩ (C I x.n)) g {c with b:=x}:=
 (h.set {c with b:=⟨x.KI,c.b.n⟩} 6 _ Z).set _ 7 _ Z
theorem KH.dF{c:P.JR}(h:KH w g c)(x:Int):KH (w.setCell ⟨g,8,O⟩ (C I x)) g {c with q:=x}:=h.set _ 8 _ Z
theorem KH.fO{c:P.JR}(h:KH w g c)(x:Int):KH (w.setCell ⟨g,9,O⟩ (C I x)) g {c with scope:=x}:=h.set _ 9 _ Z
def bM(w:World)(b off:Nat)(ws:List ByteArray):Prop:=∀i s,ws[i]?=E s->L w ⟨b,off+i,O⟩=E (M s)
theorem bM.head{off:Nat}{s:ByteArray}{r:List ByteArray}(h:bM w b off (s::r)):L w ⟨b,off,O⟩=E (M s)/\b<w.heap.size/\bM w b (off+1) r:=by
 have c:=h 0 s Z;refine⟨c,x3 w _ c,fun i t d=>?_⟩;have:=h (i+1) t (by simpa using d);rw[show off+1+i=off+(i+1)by omega];exact this
theorem bM.jZ{off:Nat}(h:bM w b off ws)(e:b<w.heap.size->w'.heap[b]?=w.heap[b]?):bM w' b off ws:=by
 intro i s d;have c:=h i s d;rw[x1 (w:=w) (e (x3 w _ c))];exact c
theorem bM.X{off:Nat}(h:bM w b off ws)(c:Below w.heap.size w w'):bM w' b off ws:=h.jZ fun e=>c.block b e
theorem bM.grown{off:Nat}(h:bM w b off ws)(d:w.grownBy w' (E g))(c:b≠g):bM w' b off ws:=h.jZ fun e=>d.block b e (by simpa using c)
theorem bM.set{off:Nat}(h:bM w b off ws)(c:b≠g)(i:Nat)(u:Value):bM (w.setCell ⟨g,i,O⟩ u) b off ws:=h.jZ fun _=>xR _ _ _ _ c
theorem bM.alloc{off:Nat}(h:bM w b off ws)(o:Obj):bM (w.alloc o) b off ws:=h.jZ fun e=>x2 _ _ _ e
theorem bM.drew{off:Nat}(h:bM w b off ws):bM w.drew b off ws:=h.jZ fun _=>Z
theorem bM.nil(w:World)(b off:Nat):bM w b off []:=fun _ _ h=>by simp at h
theorem aB{t:TypeId}{c:Array Value}(h:w.heap[b]?=E (.cells c t (0,0)))(j:Nat)(v:Value)(d:c[j]?=E v):L w ⟨b,j,O⟩=E v:=by
 simp only[World.cell?,h];simpa using d
theorem JS{B:Nat}{j:Nat}{v:Value}(c:Below B w w')(e:b<B)(d:L w ⟨b,j,O⟩=E v):L w' ⟨b,j,O⟩=E v:=(c.cell (p:=⟨b,j,O⟩) e).trans d
def kK:Code->List Code
 |.seq a b=>kK a++kK b
 |c=>[c]
def NN(P:Program):List Code->(Exit->Act->World->Prop)->Act->World->Prop
 |[],Q,a,w=>Q .normal a w
 |c::r,Q,a,w=>xF P c (Exit.then (fun a' w'=>NN P r Q a' w') Q) a w
theorem Hd{P:Program}{Q:Exit->Act->World->Prop}(x y:List Code):∀(a:Act) (w:World),NN P (x++y) Q a w->NN P x (Exit.then (fun d w'=>NN P y Q d w') Q) a w:=by
 induction x with
 |nil=>intro a w h;exact h
 |cons c r ih =>
  intro a w h;refine wp_mono h fun e d w' f=>?_
  cases e<;>first|exact ih _ _ f|exact f
theorem PR{P:Program}(c:Code):∀(Q:Exit->Act->World->Prop) (a:Act) (w:World),NN P (kK c) Q a w->xF P c Q a w:=by
 have one:∀(c:Code) (Q:Exit->Act->World->Prop) (a:Act) (w:World),NN P [c] Q a w->xF P c Q a w:=fun c Q a w h =>
  wp_mono h fun e k w' d=>by cases e<;>exact d
 induction c with
 |seq x y hx hy =>
  intro Q a w h;refine wp_seq (hx _ _ _ ?_);have mono:∀(l:List Code) (f i:Exit->Act->World->Prop) (a:Act) (w:World),(∀e a w,f e a w->i e a w)->NN P l f a w->NN P l i a w:=by
   intro l
   induction l with
   |nil=>intro f i a w j h;exact j _ _ _ h
   |cons c r ih =>
    intro f i a w j h;refine wp_mono h fun e k w' d=>?_
    cases e<;>first|exact ih _ _ _ _ j d|exact j _ _ _ d
  refine mono _ _ _ _ _ (fun e k w' d=>?_) (Hd (kK x) (kK y) a w h)
  cases e<;>first|exact hy _ _ _ d|exact d
 |_=>exact fun Q a w h=>one _ Q a w h
theorem LG{P:Program}{l:List Code}{Q:Exit->Act->World->Prop}{a:Act}(i:Nat)(c:i<l.length)(h:∀K:Act->World->Prop,(∀a w,NN P (l.drop (i+1)) Q a w->K a w)->xF P (l.getD i .skip) (Exit.then K Q) a w):NN P (l.drop i) Q a w:=by
 rw[List.drop_eq_getElem_cons c];have e:l.getD i .skip=l[i]:=by simp[List.getD,c]
 rw[e]at h;exact h _ fun _ _ h=>h
def jS:Code->Code
 |.block _ d=>d
 |d=>d
def SN:Code->Code
 |.cond _ x _=>x
 |d=>d
def nL:Code->Code
 |.loop c=>c
 |d=>d
def gA(a:Act)(i:Nat):Value:=a.tmps.getD i undef
def fL(f:Nat->Value):List Value:=[f 0,f 1,f 2,f 3,f 4,f 5,f 6,f 7,f 8,f 9,f 10,f 11,f 12,f 13,f 14,f 15,f 16,f 17,f 18,f 19,f 20,f 21,f 22,f 23,f 24,f 25,f 26,f 27,f 28,f 29,f 30,f 31,f 32,f 33,f 34,f 35,f 36,f 37,f 38,f 39,f 40,f 41,f 42,f 43,f 44,f 45,f 46,f 47,f 48,f 49,f 50,f 51,f 52,f 53,f 54,f 55,f 56,f 57,f 58,f 59,f 60,f 61,f 62,f 63,f 64,f 65,f 66,f 67,f 68,f 69,f 70,f 71,f 72,f 73,f 74,f 75,f 76,f 77,f 78,f 79,f 80,f 81,f 82,f 83,f 84,f 85,f 86,f 87,f 88,f 89,f 90,f 91,f 92,f 93,f 94,f 95,f 96,f 97,f 98,f 99,f 100,f 101,f 102,f 103,f 104,f 105,f 106,f 107,f 108,f 109,f 110,f 111,f 112,f 113,f 114,f 115,f 116,f 117,f 118,f 119,f 120,f 121,f 122,f 123,f 124,f 125,f 126,f 127,f 128,f 129,f 130,f 131,f 132,f 133,f 134,f 135,f 136,f 137,f 138,f 139,f 140,f 141,f 142,f 143,f 144,f 145,f 146,f 147,f 148,f 149,f 150,f 151,f 152,f 153,f 154,f 155,f 156,f 157,f 158,f 159,f 160,f 161,f 162,f 163,f 164,f 165,f 166,f 167,f 168,f 169,f 170,f 171,f 172,f 173,f 174,f 175,f 176,f 177,f 178,f 179,f 180,f 181,f 182,f 183,f 184,f 185,f 186,f 187,f 188,f 189,f 190,f 191,f 192,f 193,f 194,f 195,f 196,f 197,f 198,f 199,f 200,f 201,f 202,f 203,f 204,f 205,f 206,f 207,f 208,f 209,f 210,f 211,f 212,f 213,f 214,f 215,f 216,f 217,f 218,f 219,f 220,f 221,f 222,f 223,f 224,f 225,f 226,f 227,f 228,f 229,f 230,f 231,f 232,f 233,f 234,f 235,f 236]
theorem He(f:Nat->Value):(List.range 237).map f=fL f:=by kernel_rfl
theorem Hf{l:List Value}{d:Value}:l=(List.range l.length).map fun i=>l.getD i d:=by
 apply List.ext_getElem
 ·simp
 ·intro i c e;simp[List.getD,c]
theorem OR{a:Act}(h:a.tmps.size=237)(e:a.defers=[]):a=⟨⟨fL (gA a)⟩,[]⟩:=by
 obtain⟨⟨l⟩,d⟩:=a;simp only at e;subst e;have f:l.length=237:=h;have c:=Hf (l:=l) (d:=undef);rw[f,He]at c;have j:gA ⟨⟨l⟩,[]⟩=fun i=>l.getD i undef:=by funext i;simp[gA,Array.getD_eq_getD_getElem?]
 rw[j];exact congrArg (fun x:List Value=>(⟨⟨x⟩,[]⟩:Act)) c
def sF(fn:Func):List Code:=kK (fn.body.getD .skip)
def sA(fn:Func):List Code:=kK (nL (jS ((sF fn).getD 8 .skip)))
def sB(fn:Func):List Code:=kK (jS ((sA fn).getD 2 .skip))
def sG(fn:Func):List Code:=kK (nL (jS ((sF fn).getD 11 .skip)))
def sU(fn:Func):List Code:=kK (jS ((sG fn).getD 2 .skip))
def sH(fn:Func):List Code:=kK (nL (jS ((sU fn).getD 4 .skip)))
def sV(fn:Func):List Code:=kK (jS ((sH fn).getD 2 .skip))
def sI(fn:Func):List Code:=kK (SN ((sU fn).getD 6 .skip))
def sJ(fn:Func):List Code:=kK (nL (jS ((sI fn).getD 2 .skip)))
def sK(fn:Func):List Code:=kK (nL (jS ((sF fn).getD 14 .skip)))
theorem OK:(sF f5).length=22:=by kernel_rfl
theorem uH:(sA f5).length=4:=by kernel_rfl
theorem pM:(sB f5).length=8:=by kernel_rfl
theorem yN:(sG f5).length=3:=by kernel_rfl
theorem oU:(sU f5).length=7:=by kernel_rfl
theorem pH:(sH f5).length=4:=by kernel_rfl
theorem qX:(sV f5).length=3:=by kernel_rfl
theorem rB:(sI f5).length=5:=by kernel_rfl
theorem sP:(sJ f5).length=4:=by kernel_rfl
theorem QS:(sK f5).length=4:=by kernel_rfl
theorem sF8:(sF f5).getD 8 .skip=.block 0 (.loop (nL (jS ((sF f5).getD 8 .skip)))):=by kernel_rfl
theorem sA2:(sA f5).getD 2 .skip=.block 1 (jS ((sA f5).getD 2 .skip)):=by kernel_rfl
theorem Hg:(sF f5).getD 11 .skip=.block 2 (.loop (nL (jS ((sF f5).getD 11 .skip)))):=by kernel_rfl
theorem sG2:(sG f5).getD 2 .skip=.block 3 (jS ((sG f5).getD 2 .skip)):=by kernel_rfl
theorem sU4:(sU f5).getD 4 .skip=.block 4 (.loop (nL (jS ((sU f5).getD 4 .skip)))):=by kernel_rfl
theorem sH2:(sH f5).getD 2 .skip=.block 5 (jS ((sH f5).getD 2 .skip)):=by kernel_rfl
theorem sI2:(sI f5).getD 2 .skip=.block 6 (.loop (nL (jS ((sI f5).getD 2 .skip)))):=by kernel_rfl
theorem Hh:(sF f5).getD 14 .skip=.block 8 (.loop (nL (jS ((sF f5).getD 14 .skip)))):=by kernel_rfl
end Go.Proofs.YtlikcongbhhpfaaGreatDoor
