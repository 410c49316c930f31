import Derived.Test.YtonodfjdiepglaaGreatDoorProg
import Derived.Handy
import Derived.Lib.Strings
set_option linter.unusedVariables false
set_option linter.unusedSimpArgs false
set_option maxHeartbeats 12800000
namespace Go.Proofs.YtonodfjdiepglaaGreatDoor
open Go Go.RowKit Go.Proofs.Tryz
set_option maxRecDepth 1000000
variable {s:ByteArray} {p:Prop} {a c w w':World} {B b g i:Nat} {r:Option Nat} {ws:List ByteArray} {Q:Exit->Act->World->Prop}
open Go.RowKit.Below renaming heap_setCell→xF,heap_alloc→x3
open Go.Code renaming wp→xR
open Go.World renaming setCell→xW,cell?_of_block→x2,block_lt_of_cell?→x4
open Nat renaming lt_of_lt_of_le→x1
namespace P
structure Opd where
 reg:Bool
 n:Int
structure Stm where
 kind:Int
 line:Int
 dest:Int
 var:Int
 a:Opd
 b:Opd
 order:Int
 scope:Int
 label:Int
def Opd.zero:Opd:=⟨false,0⟩
def Stm.zero:Stm:=⟨0,0,0,0,Opd.zero,Opd.zero,0,0,0⟩
def gT (c:UInt8) (n:Int):Int × Bool:=((c.toNat:Int)-48,decide (48<=(c.toNat:Int))&&decide ((c.toNat:Int)-48<n))
def cD:List UInt8->Int × Bool
 | [c,d]=>if c=114 then gT d 4 else (0,false)
 | _=>(0,false)
def cA:List UInt8->Opd × Bool
 | [c]=>(⟨false,(gT c 4).1⟩,(gT c 4).2)
 | l=>(⟨true,(cD l).1⟩,(cD l).2)
def eQ (l:List UInt8):Int × Bool :=
 if l==[120] then (0,true) else if l==[121] then (1,true) else if l==[122] then (2,true) else (0,false)
def order (l:List UInt8):Int × Bool :=
 if l==[119,101,97,107] then (0,true)
 else if l==[114,101,108,97,120,101,100] then (1,true)
 else if l==[97,99,113,117,105,114,101] then (2,true)
 else if l==[114,101,108,101,97,115,101] then (3,true)
 else if l==[97,99,113,114,101,108] then (4,true)
 else if l==[115,99] then (5,true)
 else (0,false)
def scope (l:List UInt8):Int × Bool :=
 if l==[98,108,111,99,107] then (0,true) else if l==[100,101,118,105,99,101] then (1,true) else (0,false)
def sign (l:List UInt8):Int × Bool :=
 if l==[43] then (7,true) else if l==[45] then (8,true) else if l==[61,61] then (9,true) else (0,false)
def zMU (kind order:Int):Bool :=
 if kind==0 then order==0||order==1||order==2
 else if kind==1 then order==0||order==1||order==3
 else if kind==2||kind==3 then order==1||order==2||order==3||order==4
 else if kind==4 then order==4||order==5
 else false
def reads (kind:Int):Bool:=kind==0||kind==2||kind==3
def zMK (kind:Int):Bool:=kind==1||kind==2||kind==3
def kAp (st:Stm) (bE value:List UInt8):Stm × Bool :=
 if (eQ bE).2 then ({ st with var:=(eQ bE).1,a:=(cA value).1 },(cA value).2) else (st,false)
def dY (st:Stm):List (List UInt8)->Stm × Bool
 | []=>(st,false)
 | o::r =>
  if (order o).2&&zMU st.kind (order o).1 then
   if (order o).1==0 then ({ st with order:=0 },r.isEmpty)
   else match r with
    | [s]=>({ st with order:=(order o).1,scope:=(scope s).1 },(scope s).2)
    | _=>({ st with order:=(order o).1 },false)
  else (st,false)
theorem kFQ (d:Stm) (o:List UInt8) (r:List (List UInt8)) (h:(order o).2=true) (e:zMU d.kind (order o).1=true) (f:(order o).1=0):dY d (o::r)=({ d with order:=0 },r.isEmpty):=by
 rw[f] at e;simp[dY,h,e,f]
theorem kEU (d:Stm) (o:List UInt8) (h:(order o).2=true) (e:zMU d.kind (order o).1=true) (f:((order o).1==0)=false):dY d [o]=({ d with order:=(order o).1 },false):=by
 simp[dY,h,e,f]
theorem kGV (d:Stm) (o s:List UInt8) (h:(order o).2=true) (e:zMU d.kind (order o).1=true) (f:((order o).1==0)=false):dY d [o,s]=({ d with order:=(order o).1,scope:=(scope s).1 },(scope s).2):=by
 simp[dY,h,e,f]
theorem kFT (d:Stm) (o s t:List UInt8) (q:List (List UInt8)) (h:(order o).2=true) (e:zMU d.kind (order o).1=true) (f:((order o).1==0)=false):dY d (o::s::t::q)=({ d with order:=(order o).1 },false):=by
 simp[dY,h,e,f]
def load (st:Stm):List (List UInt8)->Stm × Bool
 | []=>(st,false)
 | v::r=>if (eQ v).2 then dY { st with kind:=0,var:=(eQ v).1 } r else (st,false)
def step (st:Stm) (kind:Int):List (List UInt8)->Stm × Bool
 | p::v::r=>let t:=kAp { st with kind:=kind } p v
  if t.2 then dY t.1 r else (t.1,false)
 | _=>(st,false)
def sum (st:Stm):List (List UInt8)->Stm × Bool
 | [a]=>if (cA a).2 then ({ st with kind:=6,a:=(cA a).1 },true) else (st,false)
 | [a,s,b] =>
  if (cA a).2 then
   if (sign s).2 then ({ st with kind:=(sign s).1,a:=(cA a).1,b:=(cA b).1 },(cA b).2)
   else ({ st with kind:=6,a:=(cA a).1 },false)
  else (st,false)
 | _=>(st,false)
theorem yM (d:Stm) (v:List UInt8) (r:List (List UInt8)) (h:(eQ v).2=false):load d (v::r)=(d,false):=by simp[load,h]
theorem zG (d:Stm) (v:List UInt8) (r:List (List UInt8)) (h:(eQ v).2=true):load d (v::r)=dY { d with kind:=0,var:=(eQ v).1 } r:=by simp[load,h]
theorem kLr (d:Stm) (k:Int) (p v:List UInt8) (r:List (List UInt8)) (h:(kAp { d with kind:=k } p v).2=false):step d k (p::v::r)=((kAp { d with kind:=k } p v).1,false):=by simp[step,h]
theorem kKW (d:Stm) (k:Int) (p v:List UInt8) (r:List (List UInt8)) (h:(kAp { d with kind:=k } p v).2=true):step d k (p::v::r)=dY (kAp { d with kind:=k } p v).1 r:=by simp[step,h]
theorem xJ (d:Stm) (a:List UInt8) (r:List (List UInt8)) (h:(cA a).2=false):sum d (a::r)=(d,false):=by
 match r with
 | []=>simp[sum,h]
 | [_]=>simp[sum]
 | [_,_]=>simp[sum,h]
 | _::_::_::_=>simp[sum]
theorem kJk (d:Stm) (a:List UInt8) (h:(cA a).2=true):sum d [a]=({ d with kind:=6,a:=(cA a).1 },true):=by simp[sum,h]
theorem kKF (d:Stm) (a s b:List UInt8) (h:(cA a).2=true) (e:(sign s).2=false):sum d [a,s,b]=({ d with kind:=6,a:=(cA a).1 },false):=by simp[sum,h,e]
theorem kIL (d:Stm) (a s b:List UInt8) (h:(cA a).2=true) (e:(sign s).2=true):sum d [a,s,b]=({ d with kind:=(sign s).1,a:=(cA a).1,b:=(cA b).1 },(cA b).2):=by simp[sum,h,e]
theorem zPx (d:Stm) (l:List (List UInt8)) (e:¬ l.length=1) (f:¬ l.length=3):sum d l=(d,false):=by
 match l with
 | []=>rfl
 | [_]=>simp at e
 | [_,_]=>rfl
 | [_,_,_]=>simp at f
 | _::_::_::_::_=>rfl
def gC:List (List UInt8)->Stm × Bool
 | d::e::c::r =>
  if e==[61] then
   if (cD d).2 then
    if c==[108,111,97,100] then load { Stm.zero with dest:=(cD d).1 } r
    else if c==[97,100,100] then step { Stm.zero with dest:=(cD d).1 } 2 r
    else if c==[115,119,97,112] then step { Stm.zero with dest:=(cD d).1 } 3 r
    else sum { Stm.zero with dest:=(cD d).1 } (c::r)
   else (Stm.zero,false)
  else (Stm.zero,false)
 | _=>(Stm.zero,false)
def store:List (List UInt8)->Stm × Bool
 | _::p::v::r=>let t:=kAp { Stm.zero with kind:=1 } p v
  if t.2 then dY t.1 r else (Stm.zero,false)
 | _=>(Stm.zero,false)
def fence:List (List UInt8)->Stm × Bool
 | _::r=>dY { Stm.zero with kind:=4 } r
 | _=>(Stm.zero,false)
def kJZ:List (List UInt8)->Stm × Bool
 | [_,a]=>({ Stm.zero with kind:=10,a:=(cA a).1 },(cA a).2)
 | _=>(Stm.zero,false)
def dD:List (List UInt8)->Stm × Bool
 | []=>(Stm.zero,false)
 | c::r =>
  if c==[115,116,111,114,101] then store (c::r)
  else if c==[102,101,110,99,101] then fence (c::r)
  else if c==[98,97,114,114,105,101,114] then ({ Stm.zero with kind:=5 },r.isEmpty)
  else if c==[105,102] then kJZ (c::r)
  else if c==[101,110,100] then ({ Stm.zero with kind:=11 },r.isEmpty)
  else gC (c::r)
end P
theorem FI (k o:Int) (w:World) :
  Calls prog 117 #[.int .i64 k,.int .i64 o] w fun e w'=>e=.returned (.bool (P.zMU k o))/\w'=w:=by
 go_enter func117,ntmps117;go_wp2
 all_goals go_ret
 all_goals simp[P.zMU, *]
theorem CO (k:Int) (w:World) :
  Calls prog 36 #[.int .i64 k] w fun e w'=>e=.returned (.bool (P.reads k))/\w'=w:=by
 go_enter func36,ntmps36;go_wp2
 all_goals go_ret
 all_goals simp[P.reads, *]
theorem zHx (k:Int) (w:World) :
  Calls prog 37 #[.int .i64 k] w fun e w'=>e=.returned (.bool (P.zMK k))/\w'=w:=by
 go_enter func37,ntmps37;go_wp2
 all_goals go_ret
 all_goals simp[P.zMK, *]
theorem kS (s:ByteArray):s.toList=s.data.toList:=ByteArray.toList_eq s
theorem bS (s:ByteArray):s.toList.length=s.size:=by rw[kS];rfl
theorem zLJ (a:UInt8) (n:Nat) (d:n<256):((a.toNat:Int)==(n:Int))=(a==UInt8.ofNat n):=by
 rw[Bool.eq_iff_iff];simp[<- UInt8.toNat_inj];omega
theorem zLt (x:ByteArray) (l:List UInt8) (h:x.data.toList=l):x=⟨l.toArray⟩:=by
 subst h;cases x;simp
theorem wT (l:List UInt8):(⟨l.toArray⟩:ByteArray).toList=l:=by rw[kS]
theorem kO (a b:ByteArray):(a++b).toList=a.toList++b.toList:=by
 rw[kS,kS,kS];simp
theorem aP (l:Array UInt8):(⟨l⟩:ByteArray).toList=l.toList:=by rw[kS]
theorem kA (l:Array UInt8):(⟨l⟩:ByteArray).size=l.size:=rfl
def fM (k:Nat) (s:ByteArray) (l:List UInt8):Prop:=s.toList=l/\s.size<=k
theorem fM.size {k:Nat} {l:List UInt8} (h:fM k s l):s.size<=k:=h.2
theorem zAa (h:p):Hid p:=h
theorem fX (h:Hid p):p:=h
theorem jM (w:World) (r:Option Nat):w.grownBy w r:=⟨rfl,rfl,rfl,Nat.le_refl _,fun _ _ _=>rfl⟩
theorem yN {b:World} (h:a.grownBy b r) (k:b.grownBy c r):a.grownBy c r :=
 ⟨k.os.trans h.os,k.tape.trans h.tape,k.output.trans h.output,Nat.le_trans h.size k.size,fun i d e=>(k.block i (x1 d h.size) e).trans (h.block i d e)⟩
theorem zEe (h:a.grownBy w r) (o:Obj):a.grownBy (w.alloc o) r:=yN h (World.grownBy_alloc _ _ _)
theorem zEK (h:a.grownBy w r):a.grownBy w.drew r:=⟨h.os,h.tape,h.output,h.size,h.block⟩
theorem gD (h:a.grownBy w (some g)) (i:Nat) (u:Value):a.grownBy (w.setCell ⟨g,i,none⟩ u) (some g) :=
 yN h ⟨rfl,rfl,rfl,by simp[xW],fun k _ d=>xF _ _ _ _ (fun e=>d (by rw[e]))⟩
theorem nP (h:Below w.heap.size w w') (r:Option Nat):w.grownBy w' r:=⟨h.os,h.tape,h.output,h.size,fun k d _=>h.block k d⟩
theorem kM {d:World} (h:Below w.heap.size w d) (k:d.grownBy w' (some g)) (f:w.heap.size<=g):Below w.heap.size w w' :=
 h.trans ⟨k.os,k.tape,k.output,k.size,fun i e=>k.block i (x1 e h.size) (by simp;omega)⟩
theorem bH {d:Array Value} {e:TypeId} {f:Nat × Nat} (h:w.heap[g]?=some (.cells d e f)) (i:Nat) (u:Value) :
  (w.setCell ⟨g,i,none⟩ u).heap[g]?=some (.cells (d.setIfInBounds i u) e f):=by
 simp only[xW,Array.getElem?_modify];simp[h]
theorem bI {o:Nat} {u:Value} (h:b≠g):(w.setCell ⟨g,i,none⟩ u).cell? ⟨b,o,none⟩=w.cell? ⟨b,o,none⟩ :=
 x2 (w:=w) (a:=⟨b,o,none⟩) (xF _ _ _ _ h)
def aQ (st:P.Stm):Array Value:=#[.int .i64 st.kind,.int .i64 st.line,.int .i64 st.dest,.int .i64 st.var,.bool st.a.reg,.int .i64 st.a.n,.bool st.b.reg,.int .i64 st.b.n,.int .i64 st.order,.int .i64 st.scope,.int .i64 st.label]
def bC (w:World) (g:Nat) (st:P.Stm):Prop:=w.heap[g]?=some (.cells (aQ st) 109 (0,0))
theorem bC.lt {d:P.Stm} (h:bC w g d):g<w.heap.size:=(Array.getElem?_eq_some_iff.1 h).1
theorem bC.cell {d:P.Stm} (h:bC w g d) (i:Nat):w.cell? ⟨g,i,none⟩=(aQ d)[i]?:=by
 unfold bC at h;simp[World.cell?,h]
theorem bC.free {d:P.Stm} (h:bC w g d) (i:Nat):w.frozen? ⟨g,i,none⟩=false:=by
 unfold bC at h;simp[World.frozen?,h]
theorem bC.facts {d:P.Stm} (h:bC w g d):g<w.heap.size/\(∀ i,w.frozen? ⟨g,i,none⟩=false) /\
  w.cell? ⟨g,0,none⟩=some (.int .i64 d.kind)/\w.cell? ⟨g,1,none⟩=some (.int .i64 d.line)/\w.cell? ⟨g,2,none⟩=some (.int .i64 d.dest)/\w.cell? ⟨g,3,none⟩=some (.int .i64 d.var) /\
  w.cell? ⟨g,4,none⟩=some (.bool d.a.reg)/\w.cell? ⟨g,5,none⟩=some (.int .i64 d.a.n)/\w.cell? ⟨g,6,none⟩=some (.bool d.b.reg)/\w.cell? ⟨g,7,none⟩=some (.int .i64 d.b.n) /\
  w.cell? ⟨g,8,none⟩=some (.int .i64 d.order)/\w.cell? ⟨g,9,none⟩=some (.int .i64 d.scope)/\w.cell? ⟨g,10,none⟩=some (.int .i64 d.label) :=
 ⟨h.lt,h.free,h.cell 0,h.cell 1,h.cell 2,h.cell 3,h.cell 4,h.cell 5,h.cell 6,h.cell 7,h.cell 8,h.cell 9,h.cell 10⟩
theorem bC.aA {d:P.Stm} (h:bC w g d) (e:w'.heap[g]?=w.heap[g]?):bC w' g d:=by
 unfold bC at *;rw[e];exact h
theorem bC.below {d:P.Stm} (h:bC w g d) (e:Below w.heap.size w w'):bC w' g d:=h.aA (e.block g h.lt)
theorem bC.alloc {d:P.Stm} (h:bC w g d) (o:Obj):bC (w.alloc o) g d:=h.aA (x3 _ _ _ h.lt)
theorem bC.drew {d:P.Stm} (h:bC w g d):bC w.drew g d:=h
theorem bC.set {f:P.Stm} (d:P.Stm) (h:bC w g f) (i:Nat) (u:Value) (e:(aQ f).setIfInBounds i u=aQ d):bC (w.setCell ⟨g,i,none⟩ u) g d:=by
 unfold bC at *;rw[bH h,e]
theorem bC.bT (w:World) (d:P.Stm):bC (w.alloc (.cells (aQ d) 109)) w.heap.size d:=by
 unfold bC;exact heap_alloc_new w _
theorem bC.qM {d:P.Stm} (h:bC w g d) (x:Int):bC (w.setCell ⟨g,3,none⟩ (.int .i64 x)) g { d with var:=x }:=h.set _ 3 _ rfl
theorem bC.DQ {d:P.Stm} (h:bC w g d) (x:P.Opd):bC ((w.setCell ⟨g,4,none⟩ (.bool x.reg)).setCell ⟨g,5,none⟩ (.int .i64 x.n)) g { d with a:=x } :=
 (h.set { d with a:=⟨x.reg,d.a.n⟩ } 4 _ rfl).set _ 5 _ rfl
theorem bC.EK {d:P.Stm} (h:bC w g d) (x:P.Opd):bC ((w.setCell ⟨g,6,none⟩ (.bool x.reg)).setCell ⟨g,7,none⟩ (.int .i64 x.n)) g { d with b:=x } :=
 (h.set { d with b:=⟨x.reg,d.b.n⟩ } 6 _ rfl).set _ 7 _ rfl
theorem bC.lY {d:P.Stm} (h:bC w g d) (x:Int):bC (w.setCell ⟨g,8,none⟩ (.int .i64 x)) g { d with order:=x }:=h.set _ 8 _ rfl
theorem bC.fR {d:P.Stm} (h:bC w g d) (x:Int):bC (w.setCell ⟨g,9,none⟩ (.int .i64 x)) g { d with scope:=x }:=h.set _ 9 _ rfl
def zAp (w:World) (b off:Nat) (ws:List ByteArray):Prop:=∀ i s,ws[i]?=some s->w.cell? ⟨b,off+i,none⟩=some (.string s)
theorem zAp.head {off:Nat} {r:List ByteArray} (h:zAp w b off (s::r)):w.cell? ⟨b,off,none⟩=some (.string s)/\b<w.heap.size/\zAp w b (off+1) r:=by
 have d:=h 0 s rfl;refine⟨d,x4 w _ d,fun i t e=>?_⟩;have:=h (i+1) t (by simpa using e);rw[show off+1+i=off+(i+1) by omega];exact this
theorem zAp.kX {off:Nat} (h:zAp w b off ws) (e:b<w.heap.size->w'.heap[b]?=w.heap[b]?):zAp w' b off ws:=by
 intro i s f;have d:=h i s f;rw[x2 (w:=w) (e (x4 w _ d))];exact d
theorem zAp.below {off:Nat} (h:zAp w b off ws) (d:Below w.heap.size w w'):zAp w' b off ws:=h.kX (fun e=>d.block b e)
theorem zAp.grown {off:Nat} (h:zAp w b off ws) (f:w.grownBy w' (some g)) (d:b≠g):zAp w' b off ws:=h.kX (fun e=>f.block b e (by simpa using d))
theorem zAp.set {off:Nat} (h:zAp w b off ws) (d:b≠g) (i:Nat) (u:Value):zAp (w.setCell ⟨g,i,none⟩ u) b off ws:=h.kX (fun _=>xF _ _ _ _ d)
theorem zAp.alloc {off:Nat} (h:zAp w b off ws) (o:Obj):zAp (w.alloc o) b off ws:=h.kX (fun e=>x3 _ _ _ e)
theorem zAp.drew {off:Nat} (h:zAp w b off ws):zAp w.drew b off ws:=h.kX (fun _=>rfl)
theorem zAp.nil (w:World) (b off:Nat):zAp w b off []:=fun _ _ h=>by simp at h
theorem aD {t:TypeId} {c:Array Value} (h:w.heap[b]?=some (.cells c t (0,0))) (j:Nat) (v:Value) (d:c[j]?=some v):w.cell? ⟨b,j,none⟩=some v:=by
 simp only[World.cell?,h];simpa using d
theorem aC {j:Nat} {v:Value} (d:Below B w w') (f:b<B) (e:w.cell? ⟨b,j,none⟩=some v):w'.cell? ⟨b,j,none⟩=some v:=(d.cell (p:=⟨b,j,none⟩) f).trans e
structure Ek (B g:Nat) (w w':World):Prop where
 os:w'.os=w.os
 tape:w'.tape=w.tape
 output:w'.output=w.output
 size:w.heap.size<=w'.heap.size
 block:∀ k,k<B->k≠g->w'.heap[k]?=w.heap[k]?
theorem Ek.refl (B g:Nat) (w:World):Ek B g w w:=⟨rfl,rfl,rfl,Nat.le_refl _,fun _ _ _=>rfl⟩
theorem Ek.of (h:Below B w w'):Ek B g w w':=⟨h.os,h.tape,h.output,h.size,fun k d _=>h.block k d⟩
theorem Ek.trans {b:World} (h:Ek B g a b) (k:Ek B g b c):Ek B g a c :=
 ⟨k.os.trans h.os,k.tape.trans h.tape,k.output.trans h.output,Nat.le_trans h.size k.size,fun i e d=>(k.block i e d).trans (h.block i e d)⟩
theorem Ek.drew (h:Ek B g a w):Ek B g a w.drew:=⟨h.os,h.tape,h.output,h.size,h.block⟩
theorem Ek.alloc (h:Ek B g a w) (d:B<=w.heap.size) (o:Obj):Ek B g a (w.alloc o) :=
 h.trans (Ek.of ((Below.refl _ _).alloc d _))
theorem Ek.setCell (h:Ek B g a w) (u:Value):Ek B g a (w.setCell ⟨g,i,none⟩ u) :=
 h.trans ⟨rfl,rfl,rfl,by simp[xW],fun k _ d=>xF _ _ _ _ d⟩
theorem Ek.grown {row:Option Nat} (h:Ek B g a w) (e:w.grownBy w' row) (d:B<=w.heap.size) (f:∀ k,row=some k->B<=k):Ek B g a w' :=
 h.trans (Ek.of ((Below.refl _ _).grown e d f))
theorem Ek.below {d:Nat} (h:Ek B g w w') (e:d<=B) (f:d<=g):Below d w w':=⟨h.os,h.tape,h.output,h.size,fun k j=>h.block k (by omega) (by omega)⟩
def qI:Code->Option Code
 | .loop c=>some c
 | .scope c=>qI c
 | .block _ c=>qI c
 | .seq a b=>(qI a).orElse fun _=>qI b
 | .cond _ a b=>(qI a).orElse fun _=>qI b
 | _=>none
def AE (fn:Func):Code:=(fn.body.bind qI).getD .skip
def lO:Code->List Code
 | .seq a b=>lO a++lO b
 | c=>[c]
def dK (P:Program):List Code->(Exit->Act->World->Prop)->Act->World->Prop
 | [],Q,a,w=>Q .normal a w
 | c::r,Q,a,w=>xR P c (Exit.then (fun a' w'=>dK P r Q a' w') Q) a w
theorem zIm {P:Program} (x y:List Code):∀ (a:Act) (w:World),dK P (x++y) Q a w->dK P x (Exit.then (fun d w'=>dK P y Q d w') Q) a w:=by
 induction x with
 | nil=>intro a w h;exact h
 | cons c r ih =>
  intro a w h;refine wp_mono h (fun e d w' f=>?_)
  cases e<;>first | exact ih _ _ f | exact f
theorem pQ {P:Program} (c:Code):∀ (Q:Exit->Act->World->Prop) (a:Act) (w:World),dK P (lO c) Q a w->xR P c Q a w:=by
 have cY:∀ (c:Code) (Q:Exit->Act->World->Prop) (a:Act) (w:World),dK P [c] Q a w->xR P c Q a w:=fun c Q a w h =>
  wp_mono h (fun e m w' d=>by cases e<;>exact d)
 induction c with
 | seq x y hx hy =>
  intro Q a w h;refine wp_seq (hx _ _ _ ?_);have n:=zIm (lO x) (lO y) a w h;have mono:∀ (l:List Code) (f j:Exit->Act->World->Prop) (a:Act) (w:World),(∀ e a w,f e a w->j e a w)->dK P l f a w->dK P l j a w:=by
   intro l
   induction l with
   | nil=>intro f j a w k h;exact k _ _ _ h
   | cons c r ih =>
    intro f j a w k h;refine wp_mono h (fun e m w' d=>?_)
    cases e<;>first | exact ih _ _ _ _ k d | exact k _ _ _ d
  refine mono _ _ _ _ _ (fun e m w' d=>?_) n
  cases e<;>first | exact hy _ _ _ d | exact d
 | _=>exact fun Q a w h=>cY _ Q a w h
theorem aR {P:Program} {l:List Code} {a:Act} (i:Nat) (d:i<l.length) (h:∀ K:Act->World->Prop,(∀ a w,dK P (l.drop (i+1)) Q a w->K a w)->xR P (l.getD i .skip) (Exit.then K Q) a w):dK P (l.drop i) Q a w:=by
 rw[List.drop_eq_getElem_cons d];have e:l.getD i .skip=l[i]:=by simp[List.getD,d]
 rw[e] at h;exact h _ (fun _ _ h=>h)
def sG:Code->Code
 | .block _ d=>d
 | d=>d
def zK:Code->Code
 | .cond _ x _=>x
 | d=>d
def wP:Code->Code
 | .cond _ _ x=>x
 | d=>d
def gA (a:Act) (i:Nat):Value:=a.tmps.getD i undef
def gF (f:Nat->Value):Act:=⟨#[f 0,f 1,f 2,f 3,f 4,f 5,f 6,f 7,f 8,f 9,f 10,f 11,f 12,f 13,f 14,f 15,f 16,f 17,f 18,f 19,f 20,f 21,f 22,f 23,f 24,f 25,f 26,f 27,f 28,f 29,f 30,f 31,f 32,f 33,f 34,f 35,f 36,f 37,f 38,f 39,f 40,f 41,f 42,f 43,f 44,f 45,f 46,f 47,f 48,f 49,f 50,f 51,f 52,f 53,f 54,f 55,f 56,f 57,f 58,f 59,f 60,f 61,f 62,f 63,f 64,f 65,f 66,f 67,f 68,f 69,f 70,f 71,f 72,f 73,f 74,f 75,f 76,f 77,f 78,f 79,f 80,f 81,f 82,f 83,f 84,f 85,f 86,f 87,f 88,f 89,f 90,f 91,f 92,f 93,f 94,f 95,f 96,f 97,f 98,f 99,f 100,f 101,f 102,f 103,f 104,f 105,f 106,f 107,f 108,f 109,f 110,f 111,f 112,f 113,f 114,f 115,f 116,f 117,f 118,f 119,f 120,f 121,f 122,f 123,f 124,f 125,f 126,f 127,f 128,f 129,f 130,f 131,f 132,f 133,f 134,f 135,f 136,f 137,f 138,f 139,f 140,f 141,f 142,f 143,f 144,f 145,f 146,f 147,f 148,f 149,f 150,f 151,f 152,f 153,f 154,f 155,f 156,f 157,f 158,f 159,f 160,f 161,f 162,f 163,f 164,f 165,f 166,f 167,f 168,f 169,f 170,f 171,f 172,f 173,f 174,f 175,f 176,f 177,f 178,f 179,f 180,f 181,f 182,f 183,f 184,f 185,f 186,f 187,f 188,f 189,f 190,f 191,f 192,f 193,f 194,f 195,f 196,f 197,f 198,f 199,f 200,f 201,f 202,f 203,f 204,f 205,f 206,f 207,f 208,f 209,f 210,f 211,f 212,f 213,f 214,f 215,f 216,f 217,f 218,f 219,f 220,f 221,f 222,f 223,f 224,f 225,f 226,f 227,f 228,f 229,f 230,f 231,f 232,f 233,f 234,f 235,f 236,f 237,f 238,f 239,f 240,f 241,f 242,f 243,f 244,f 245,f 246,f 247,f 248,f 249,f 250,f 251,f 252,f 253,f 254,f 255,f 256,f 257,f 258,f 259,f 260,f 261,f 262,f 263,f 264,f 265,f 266,f 267,f 268,f 269,f 270,f 271,f 272,f 273,f 274,f 275,f 276,f 277,f 278,f 279,f 280,f 281,f 282,f 283,f 284,f 285,f 286,f 287,f 288,f 289,f 290,f 291,f 292,f 293,f 294,f 295,f 296,f 297,f 298,f 299,f 300,f 301,f 302,f 303,f 304,f 305,f 306,f 307,f 308,f 309,f 310,f 311,f 312,f 313,f 314,f 315,f 316,f 317,f 318,f 319,f 320,f 321,f 322,f 323],[]⟩
theorem zJv {l:List Value} {d:Value}:l=(List.range l.length).map (fun i=>l.getD i d):=by
 apply List.ext_getElem
 ·simp
 ·intro i e f;simp[List.getD,e]
theorem hD {a:Act} (h:a.tmps.size=324) (j:a.defers=[]):a=gF (gA a):=by
 obtain⟨⟨l⟩,d⟩:=a;simp only at j;subst j;have k:l.length=324:=h;have e:=zJv (l:=l) (d:=undef);rw[k] at e;have m:∀ f:Nat->Value,(List.range 324).map f=[f 0,f 1,f 2,f 3,f 4,f 5,f 6,f 7,f 8,f 9,f 10,f 11,f 12,f 13,f 14,f 15,f 16,f 17,f 18,f 19,f 20,f 21,f 22,f 23,f 24,f 25,f 26,f 27,f 28,f 29,f 30,f 31,f 32,f 33,f 34,f 35,f 36,f 37,f 38,f 39,f 40,f 41,f 42,f 43,f 44,f 45,f 46,f 47,f 48,f 49,f 50,f 51,f 52,f 53,f 54,f 55,f 56,f 57,f 58,f 59,f 60,f 61,f 62,f 63,f 64,f 65,f 66,f 67,f 68,f 69,f 70,f 71,f 72,f 73,f 74,f 75,f 76,f 77,f 78,f 79,f 80,f 81,f 82,f 83,f 84,f 85,f 86,f 87,f 88,f 89,f 90,f 91,f 92,f 93,f 94,f 95,f 96,f 97,f 98,f 99,f 100,f 101,f 102,f 103,f 104,f 105,f 106,f 107,f 108,f 109,f 110,f 111,f 112,f 113,f 114,f 115,f 116,f 117,f 118,f 119,f 120,f 121,f 122,f 123,f 124,f 125,f 126,f 127,f 128,f 129,f 130,f 131,f 132,f 133,f 134,f 135,f 136,f 137,f 138,f 139,f 140,f 141,f 142,f 143,f 144,f 145,f 146,f 147,f 148,f 149,f 150,f 151,f 152,f 153,f 154,f 155,f 156,f 157,f 158,f 159,f 160,f 161,f 162,f 163,f 164,f 165,f 166,f 167,f 168,f 169,f 170,f 171,f 172,f 173,f 174,f 175,f 176,f 177,f 178,f 179,f 180,f 181,f 182,f 183,f 184,f 185,f 186,f 187,f 188,f 189,f 190,f 191,f 192,f 193,f 194,f 195,f 196,f 197,f 198,f 199,f 200,f 201,f 202,f 203,f 204,f 205,f 206,f 207,f 208,f 209,f 210,f 211,f 212,f 213,f 214,f 215,f 216,f 217,f 218,f 219,f 220,f 221,f 222,f 223,f 224,f 225,f 226,f 227,f 228,f 229,f 230,f 231,f 232,f 233,f 234,f 235,f 236,f 237,f 238,f 239,f 240,f 241,f 242,f 243,f 244,f 245,f 246,f 247,f 248,f 249,f 250,f 251,f 252,f 253,f 254,f 255,f 256,f 257,f 258,f 259,f 260,f 261,f 262,f 263,f 264,f 265,f 266,f 267,f 268,f 269,f 270,f 271,f 272,f 273,f 274,f 275,f 276,f 277,f 278,f 279,f 280,f 281,f 282,f 283,f 284,f 285,f 286,f 287,f 288,f 289,f 290,f 291,f 292,f 293,f 294,f 295,f 296,f 297,f 298,f 299,f 300,f 301,f 302,f 303,f 304,f 305,f 306,f 307,f 308,f 309,f 310,f 311,f 312,f 313,f 314,f 315,f 316,f 317,f 318,f 319,f 320,f 321,f 322,f 323]:=fun f=>by kernel_rfl
 rw[m] at e;have n:gA ⟨⟨l⟩,[]⟩=fun i=>l.getD i undef:=by funext i;simp[gA,Array.getD_eq_getD_getElem?]
 rw[gF,n];exact congrArg (fun x:List Value=>(⟨⟨x⟩,[]⟩:Act)) e
def aB (fn:Func):List Code:=lO (AE fn)
def aL (fn:Func):List Code:=lO (sG ((aB fn).getD 2 .skip))
def aE (fn:Func):List Code:=lO (wP ((aL fn).getD 8 .skip))
def aZ (fn:Func):List Code:=lO (zK ((aE fn).getD 4 .skip))
def zKJ:Code->Code
 | .loop c=>c
 | d=>d
def aF (fn:Func):List Code:=lO (fn.body.getD .skip)
def aG (fn:Func):List Code:=lO (zKJ (sG ((aF fn).getD 20 .skip)))
def aH (fn:Func):List Code:=lO (sG ((aG fn).getD 2 .skip))
theorem dL:(aF f5).length=25:=by kernel_rfl
theorem vA:(aG f5).length=4:=by kernel_rfl
theorem FF:(aH f5).length=3:=by kernel_rfl
theorem zLW:(aF f5).getD 11 .skip=.block 0 (.loop (AE f5)):=by kernel_rfl
theorem zLX:(aF f5).getD 20 .skip=.block 2 (.loop (zKJ (sG ((aF f5).getD 20 .skip)))):=by kernel_rfl
theorem aG2:(aG f5).getD 2 .skip=.block 3 (sG ((aG f5).getD 2 .skip)):=by kernel_rfl
theorem uO:(aB f5).length=4:=by kernel_rfl
theorem eV:(aL f5).length=13:=by kernel_rfl
theorem eU:(aE f5).length=12:=by kernel_rfl
theorem eM:(aZ f5).length=15:=by kernel_rfl
end Go.Proofs.YtonodfjdiepglaaGreatDoor
