import Derived.Test.YtgceflcbckjjiaaGreatDoorProg
import Derived.Handy
import Derived.Lib.Strings
import Derived.Deep.AppendLies
set_option linter.unusedVariables false
set_option linter.unusedSimpArgs false
set_option maxHeartbeats 12800000
namespace Go.Proofs.YtgceflcbckjjiaaGreatDoor
namespace P
structure Opd where
 reg:Bool
 n:Int
structure Stm where
 kind:Int
 line:Int
 dest:Int
 var:Int
 a:Opd
 b:Opd
 order:Int
 scope:Int
 label:Int
def Opd.zero:Opd:=⟨false,0⟩
def Stm.zero:Stm:=⟨0,0,0,0,Opd.zero,Opd.zero,0,0,0⟩
def digit (c:UInt8) (n:Int):Int × Bool:=((c.toNat:Int)-48,decide (48≤(c.toNat:Int))&&decide ((c.toNat:Int)-48<n))
def zOa:List UInt8→Int × Bool
 | [c,d]=>if c=114 then digit d 4 else (0,false)
 | _=>(0,false)
def zOy:List UInt8→Opd × Bool
 | [c]=>(⟨false,(digit c 4).1⟩,(digit c 4).2)
 | l=>(⟨true,(zOa l).1⟩,(zOa l).2)
def varOf (l:List UInt8):Int × Bool :=
 if l==[120] then (0,true) else if l==[121] then (1,true) else if l==[122] then (2,true) else (0,false)
def order (l:List UInt8):Int × Bool :=
 if l==[119,101,97,107] then (0,true)
 else if l==[114,101,108,97,120,101,100] then (1,true)
 else if l==[97,99,113,117,105,114,101] then (2,true)
 else if l==[114,101,108,101,97,115,101] then (3,true)
 else if l==[97,99,113,114,101,108] then (4,true)
 else if l==[115,99] then (5,true)
 else (0,false)
def scope (l:List UInt8):Int × Bool :=
 if l==[98,108,111,99,107] then (0,true) else if l==[100,101,118,105,99,101] then (1,true) else (0,false)
def sign (l:List UInt8):Int × Bool :=
 if l==[43] then (7,true) else if l==[45] then (8,true) else if l==[61,61] then (9,true) else (0,false)
def zQe (kind order:Int):Bool :=
 if kind==0 then order==0||order==1||order==2
 else if kind==1 then order==0||order==1||order==3
 else if kind==2||kind==3 then order==1||order==2||order==3||order==4
 else if kind==4 then order==4||order==5
 else false
def reads (kind:Int):Bool:=kind==0||kind==2||kind==3
def zQF (kind:Int):Bool:=kind==1||kind==2||kind==3
def target (st:Stm) (place value:List UInt8):Stm × Bool :=
 if (varOf place).2 then ({ st with var:=(varOf place).1,a:=(zOy value).1 },(zOy value).2) else (st,false)
def zPn (st:Stm):List (List UInt8)→Stm × Bool
 | []=>(st,false)
 | o::r =>
  if (order o).2&&zQe st.kind (order o).1 then
   if (order o).1==0 then ({ st with order:=0 },r.isEmpty)
   else match r with
    | [s]=>({ st with order:=(order o).1,scope:=(scope s).1 },(scope s).2)
    | _=>({ st with order:=(order o).1 },false)
  else (st,false)
theorem ordering_no1 (st:Stm) (o:List UInt8) (r:List (List UInt8)) (h:(order o).2=false):zPn st (o::r)=(st,false):=by simp[zPn,h]
theorem ordering_no2 (st:Stm) (o:List UInt8) (r:List (List UInt8)) (h:zQe st.kind (order o).1=false):zPn st (o::r)=(st,false):=by simp[zPn,h]
theorem ordering_weak (st:Stm) (o:List UInt8) (r:List (List UInt8)) (h:(order o).2=true) (h2:zQe st.kind (order o).1=true) (h3:(order o).1=0):zPn st (o::r)=({ st with order:=0 },r.isEmpty):=by
 rw[h3] at h2;simp[zPn,h,h2,h3]
theorem ordering_short (st:Stm) (o:List UInt8) (h:(order o).2=true) (h2:zQe st.kind (order o).1=true) (h3:((order o).1==0)=false):zPn st [o]=({ st with order:=(order o).1 },false):=by
 simp[zPn,h,h2,h3]
theorem ordering_two (st:Stm) (o s:List UInt8) (h:(order o).2=true) (h2:zQe st.kind (order o).1=true) (h3:((order o).1==0)=false):zPn st [o,s]=({ st with order:=(order o).1,scope:=(scope s).1 },(scope s).2):=by
 simp[zPn,h,h2,h3]
theorem ordering_long (st:Stm) (o s t:List UInt8) (q:List (List UInt8)) (h:(order o).2=true) (h2:zQe st.kind (order o).1=true) (h3:((order o).1==0)=false):zPn st (o::s::t::q)=({ st with order:=(order o).1 },false):=by
 simp[zPn,h,h2,h3]
def load (st:Stm):List (List UInt8)→Stm × Bool
 | []=>(st,false)
 | v::r=>if (varOf v).2 then zPn { st with kind:=0,var:=(varOf v).1 } r else (st,false)
def step (st:Stm) (kind:Int):List (List UInt8)→Stm × Bool
 | p::v::r=>let t:=target { st with kind:=kind } p v
  if t.2 then zPn t.1 r else (t.1,false)
 | _=>(st,false)
def sum (st:Stm):List (List UInt8)→Stm × Bool
 | [a]=>if (zOy a).2 then ({ st with kind:=6,a:=(zOy a).1 },true) else (st,false)
 | [a,s,b] =>
  if (zOy a).2 then
   if (sign s).2 then ({ st with kind:=(sign s).1,a:=(zOy a).1,b:=(zOy b).1 },(zOy b).2)
   else ({ st with kind:=6,a:=(zOy a).1 },false)
  else (st,false)
 | _=>(st,false)
theorem load_no (st:Stm) (v:List UInt8) (r:List (List UInt8)) (h:(varOf v).2=false):load st (v::r)=(st,false):=by simp[load,h]
theorem load_yes (st:Stm) (v:List UInt8) (r:List (List UInt8)) (h:(varOf v).2=true):load st (v::r)=zPn { st with kind:=0,var:=(varOf v).1 } r:=by simp[load,h]
theorem step_no (st:Stm) (k:Int) (p v:List UInt8) (r:List (List UInt8)) (h:(target { st with kind:=k } p v).2=false):step st k (p::v::r)=((target { st with kind:=k } p v).1,false):=by simp[step,h]
theorem step_yes (st:Stm) (k:Int) (p v:List UInt8) (r:List (List UInt8)) (h:(target { st with kind:=k } p v).2=true):step st k (p::v::r)=zPn (target { st with kind:=k } p v).1 r:=by simp[step,h]
theorem zQV (st:Stm) (a:List UInt8) (r:List (List UInt8)) (h:(zOy a).2=false):sum st (a::r)=(st,false):=by
 match r with
 | []=>simp[sum,h]
 | [_]=>simp[sum]
 | [_,_]=>simp[sum,h]
 | _::_::_::_=>simp[sum]
theorem sum_one (st:Stm) (a:List UInt8) (h:(zOy a).2=true):sum st [a]=({ st with kind:=6,a:=(zOy a).1 },true):=by simp[sum,h]
theorem sum_sign (st:Stm) (a s b:List UInt8) (h:(zOy a).2=true) (h2:(sign s).2=false):sum st [a,s,b]=({ st with kind:=6,a:=(zOy a).1 },false):=by simp[sum,h,h2]
theorem sum_all (st:Stm) (a s b:List UInt8) (h:(zOy a).2=true) (h2:(sign s).2=true):sum st [a,s,b]=({ st with kind:=(sign s).1,a:=(zOy a).1,b:=(zOy b).1 },(zOy b).2):=by simp[sum,h,h2]
theorem sum_len (st:Stm) (l:List (List UInt8)) (h1:¬ l.length=1) (h3:¬ l.length=3):sum st l=(st,false):=by
 match l with
 | []=>rfl
 | [_]=>simp at h1
 | [_,_]=>rfl
 | [_,_,_]=>simp at h3
 | _::_::_::_::_=>rfl
def zOj:List (List UInt8)→Stm × Bool
 | d::e::c::r =>
  if e==[61] then
   if (zOa d).2 then
    if c==[108,111,97,100] then load { Stm.zero with dest:=(zOa d).1 } r
    else if c==[97,100,100] then step { Stm.zero with dest:=(zOa d).1 } 2 r
    else if c==[115,119,97,112] then step { Stm.zero with dest:=(zOa d).1 } 3 r
    else sum { Stm.zero with dest:=(zOa d).1 } (c::r)
   else (Stm.zero,false)
  else (Stm.zero,false)
 | _=>(Stm.zero,false)
def store:List (List UInt8)→Stm × Bool
 | _::p::v::r=>let t:=target { Stm.zero with kind:=1 } p v
  if t.2 then zPn t.1 r else (Stm.zero,false)
 | _=>(Stm.zero,false)
def fence:List (List UInt8)→Stm × Bool
 | _::r=>zPn { Stm.zero with kind:=4 } r
 | _=>(Stm.zero,false)
def zPT:List (List UInt8)→Stm × Bool
 | [_,a]=>({ Stm.zero with kind:=10,a:=(zOy a).1 },(zOy a).2)
 | _=>(Stm.zero,false)
def zOk:List (List UInt8)→Stm × Bool
 | []=>(Stm.zero,false)
 | c::r =>
  if c==[115,116,111,114,101] then store (c::r)
  else if c==[102,101,110,99,101] then fence (c::r)
  else if c==[98,97,114,114,105,101,114] then ({ Stm.zero with kind:=5 },r.isEmpty)
  else if c==[105,102] then zPT (c::r)
  else if c==[101,110,100] then ({ Stm.zero with kind:=11 },r.isEmpty)
  else zOj (c::r)
end P
end Go.Proofs.YtgceflcbckjjiaaGreatDoor
namespace Go.Proofs.YtgceflcbckjjiaaGreatDoor
open Go Go.RowKit
set_option maxRecDepth 100000
theorem zEj (c n:Int) (w:World) (hc:0≤c) (hc2:c<256) :
  Calls Tryz.prog 146 #[.int .u8 c,.int .i64 n] w fun e w'=>e=.returned (.tuple #[.int .i64 (c-48),.bool (decide (48≤c)&&decide (c-48<n))])∧w'=w:=by
 go_enter Tryz.func146,Tryz.ntmps146
 go_wp2
 all_goals go_ret2
 all_goals simp[*]
 all_goals omega
theorem zBW (s:ByteArray) (w:World) :
  Calls Tryz.prog 190 #[.string s] w fun e w'=>e=.returned (.tuple #[.int .i64 (P.varOf s.toList).1,.bool (P.varOf s.toList).2])∧w'=w:=by
 go_enter Tryz.func190,Tryz.ntmps190
 go_wp2
 all_goals go_ret2
 all_goals simp[P.varOf, *]
theorem zCv (s:ByteArray) (w:World) :
  Calls Tryz.prog 191 #[.string s] w fun e w'=>e=.returned (.tuple #[.int .i64 (P.order s.toList).1,.bool (P.order s.toList).2])∧w'=w:=by
 go_enter Tryz.func191,Tryz.ntmps191
 go_wp2
 all_goals go_ret2
 all_goals simp[P.order, *]
theorem zCw (s:ByteArray) (w:World) :
  Calls Tryz.prog 192 #[.string s] w fun e w'=>e=.returned (.tuple #[.int .i64 (P.scope s.toList).1,.bool (P.scope s.toList).2])∧w'=w:=by
 go_enter Tryz.func192,Tryz.ntmps192
 go_wp2
 all_goals go_ret2
 all_goals simp[P.scope, *]
theorem zHr (s:ByteArray) (w:World) :
  Calls Tryz.prog 193 #[.string s] w fun e w'=>e=.returned (.tuple #[.int .i64 (P.sign s.toList).1,.bool (P.sign s.toList).2])∧w'=w:=by
 go_enter Tryz.func193,Tryz.ntmps193
 go_wp2
 all_goals go_ret2
 all_goals simp[P.sign, *]
theorem zBy (k o:Int) (w:World) :
  Calls Tryz.prog 188 #[.int .i64 k,.int .i64 o] w fun e w'=>e=.returned (.bool (P.zQe k o))∧w'=w:=by
 go_enter Tryz.func188,Tryz.ntmps188
 go_wp2
 all_goals go_ret
 all_goals simp[P.zQe, *]
theorem zEk (k:Int) (w:World) :
  Calls Tryz.prog 58 #[.int .i64 k] w fun e w'=>e=.returned (.bool (P.reads k))∧w'=w:=by
 go_enter Tryz.func58,Tryz.ntmps58
 go_wp2
 all_goals go_ret
 all_goals simp[P.reads, *]
theorem zHN (k:Int) (w:World) :
  Calls Tryz.prog 59 #[.int .i64 k] w fun e w'=>e=.returned (.bool (P.zQF k))∧w'=w:=by
 go_enter Tryz.func59,Tryz.ntmps59
 go_wp2
 all_goals go_ret
 all_goals simp[P.zQF, *]
theorem zAQ (s:ByteArray):s.toList=s.data.toList:=ByteArray.toList_eq s
theorem zAr (s:ByteArray):s.toList.length=s.size:=by rw[zAQ];rfl
theorem zEQ (s:ByteArray) (h:s.size=1):s.toList=[s[0]]:=by
 rw[zAQ]
 rcases s with ⟨⟨l⟩⟩
 match l,h with
 | [a],_=>rfl
theorem zHO (s:ByteArray) (h:s.size=2):s.toList=[s[0],s[1]]:=by
 rw[zAQ]
 rcases s with ⟨⟨l⟩⟩
 match l,h with
 | [a,b],_=>rfl
theorem zMd (a:UInt8) (n:Nat) (hn:n<256):((a.toNat:Int)==(n:Int))=(a==UInt8.ofNat n):=by
 rw[Bool.eq_iff_iff];simp[← UInt8.toNat_inj];omega
theorem zFW (s:ByteArray) (h:s.size=2):P.zOa s.toList=if ((s[0].toNat:Int) != 114)=true then (0,false) else P.digit s[1] 4:=by
 rw[zHO s h]
 have e:((s[0].toNat:Int) != 114)=(s[0] != 114):=by
  have:=zMd s[0] 114 (by omega)
  simp only[bne];exact congrArg (!·) this
 rw[e]
 by_cases h1:s[0]=114<;>simp[P.zOa,h1]
theorem zGK (s:ByteArray) (h:¬ s.size=2):P.zOa s.toList=(0,false):=by
 have:=zAr s
 unfold P.zOa
 split
 ·simp_all
 ·rfl
theorem zBf (s:ByteArray) (w:World) :
  Calls Tryz.prog 171 #[.string s] w fun e w'=>e=.returned (.tuple #[.int .i64 (P.zOa s.toList).1,.bool (P.zOa s.toList).2])∧w'=w:=by
 by_cases h2:s.size=2
 ·have H:=zFW s h2
  have hb:s[1].toNat<256:=UInt8.toNat_lt _
  go_enter Tryz.func171,Tryz.ntmps171
  go_wp2_with (go_at_call 146;refine (zEj _ _ _ (by omega) (by omega)).mono ?_;rintro e w' ⟨rfl,rfl⟩)
  all_goals go_ret2
  all_goals simp[P.digit, *]
 ·have H:=zGK s h2
  go_enter Tryz.func171,Tryz.ntmps171
  go_wp2
  go_ret2
  simp[*]
theorem zGL (s:ByteArray) (h:s.size=1):P.zOy s.toList=(⟨false,(P.digit s[0] 4).1⟩,(P.digit s[0] 4).2):=by
 rw[zEQ s h];rfl
theorem zHP (s:ByteArray) (h:¬ s.size=1):P.zOy s.toList=(⟨true,(P.zOa s.toList).1⟩,(P.zOa s.toList).2):=by
 have:=zAr s
 unfold P.zOy
 split
 ·simp_all
 ·rfl
theorem zBn (s:ByteArray) (w:World) :
  Calls Tryz.prog 170 #[.string s] w fun e w'=>e=.returned (.tuple #[.agg #[.bool (P.zOy s.toList).1.reg,.int .i64 (P.zOy s.toList).1.n],.bool (P.zOy s.toList).2])∧Below w.heap.size w w':=by
 by_cases h2:s.size=1
 ·have H:=zGL s h2
  have hb:s[0].toNat<256:=UInt8.toNat_lt _
  go_enter Tryz.func170,Tryz.ntmps170
  go_wp2_with (go_at_call 146;refine (zEj _ _ _ (by omega) (by omega)).mono ?_;rintro e w' ⟨rfl,rfl⟩)
  go_returns
  exact⟨by simp[H,P.digit],by go_grown⟩
 ·have H:=zHP s h2
  go_enter Tryz.func170,Tryz.ntmps170
  go_wp2_with (go_at_call 171;refine (zBf _ _).mono ?_;rintro e w' ⟨rfl,rfl⟩)
  go_returns
  exact⟨by simp[H],by go_grown⟩
theorem zAa {p:Prop} (h:p):Hid p:=h
theorem zAD {p:Prop} (h:Hid p):p:=h
theorem zAC (w:World) (r:Option Nat):w.grownBy w r:=⟨rfl,rfl,rfl,Nat.le_refl _,fun _ _ _=>rfl⟩
theorem zAW {a b c:World} {r:Option Nat} (h:a.grownBy b r) (k:b.grownBy c r):a.grownBy c r :=
 ⟨k.os.trans h.os,k.tape.trans h.tape,k.output.trans h.output,Nat.le_trans h.size k.size,fun i hi hr=>(k.block i (Nat.lt_of_lt_of_le hi h.size) hr).trans (h.block i hi hr)⟩
theorem zBo {a w:World} {r:Option Nat} (h:a.grownBy w r) (o:Obj):a.grownBy (w.alloc o) r:=zAW h (World.grownBy_alloc _ _ _)
theorem zCx {a w:World} {r:Option Nat} (h:a.grownBy w r):a.grownBy w.drew r:=⟨h.os,h.tape,h.output,h.size,h.block⟩
theorem zIL {w w':World} {r:Option Nat} (h:w.drew.grownBy w' r):w.grownBy w' r:=⟨h.os,h.tape,h.output,h.size,h.block⟩
theorem zAl {a w:World} {g:Nat} (h:a.grownBy w (some g)) (i:Nat) (u:Value):a.grownBy (w.setCell ⟨g,i,none⟩ u) (some g) :=
 zAW h ⟨rfl,rfl,rfl,by simp[World.setCell],fun k _ hr=>Below.heap_setCell _ _ _ _ (fun e=>hr (by rw[e]))⟩
theorem zAX {w w':World} (h:Below w.heap.size w w') (r:Option Nat):w.grownBy w' r:=⟨h.os,h.tape,h.output,h.size,fun k hk _=>h.block k hk⟩
theorem zAu {w w1 w':World} {g:Nat} (h:Below w.heap.size w w1) (k:w1.grownBy w' (some g)) (hg:w.heap.size≤g):Below w.heap.size w w' :=
 h.trans ⟨k.os,k.tape,k.output,k.size,fun i hi=>k.block i (Nat.lt_of_lt_of_le hi h.size) (by simp;omega)⟩
theorem zAe {w:World} {g:Nat} {cur:Array Value} {e:TypeId} {fr:Nat × Nat} (h:w.heap[g]?=some (.cells cur e fr)) (i:Nat) (u:Value) :
  (w.setCell ⟨g,i,none⟩ u).heap[g]?=some (.cells (cur.setIfInBounds i u) e fr):=by
 simp only[World.setCell,Array.getElem?_modify]
 simp[h]
theorem zAg {w:World} {g i b o:Nat} {u:Value} (h:b≠g):(w.setCell ⟨g,i,none⟩ u).cell? ⟨b,o,none⟩=w.cell? ⟨b,o,none⟩ :=
 World.cell?_of_block (w:=w) (a:=⟨b,o,none⟩) (Below.heap_setCell _ _ _ _ h)
def zAb (st:P.Stm):Array Value:=#[.int .i64 st.kind,.int .i64 st.line,.int .i64 st.dest,.int .i64 st.var,.bool st.a.reg,.int .i64 st.a.n,.bool st.b.reg,.int .i64 st.b.n,.int .i64 st.order,.int .i64 st.scope,.int .i64 st.label]
def zAv (w:World) (g:Nat) (st:P.Stm):Prop:=w.heap[g]?=some (.cells (zAb st) 96 (0,0))
theorem zAv.lt {w:World} {g:Nat} {st:P.Stm} (h:zAv w g st):g<w.heap.size:=(Array.getElem?_eq_some_iff.1 h).1
theorem zAv.cell {w:World} {g:Nat} {st:P.Stm} (h:zAv w g st) (i:Nat):w.cell? ⟨g,i,none⟩=(zAb st)[i]?:=by
 unfold zAv at h
 simp[World.cell?,h]
theorem zAv.free {w:World} {g:Nat} {st:P.Stm} (h:zAv w g st) (i:Nat):w.frozen? ⟨g,i,none⟩=false:=by
 unfold zAv at h
 simp[World.frozen?,h]
theorem zAv.facts {w:World} {g:Nat} {st:P.Stm} (h:zAv w g st):g<w.heap.size∧(∀ i,w.frozen? ⟨g,i,none⟩=false) ∧
  w.cell? ⟨g,0,none⟩=some (.int .i64 st.kind)∧w.cell? ⟨g,1,none⟩=some (.int .i64 st.line)∧w.cell? ⟨g,2,none⟩=some (.int .i64 st.dest)∧w.cell? ⟨g,3,none⟩=some (.int .i64 st.var) ∧
  w.cell? ⟨g,4,none⟩=some (.bool st.a.reg)∧w.cell? ⟨g,5,none⟩=some (.int .i64 st.a.n)∧w.cell? ⟨g,6,none⟩=some (.bool st.b.reg)∧w.cell? ⟨g,7,none⟩=some (.int .i64 st.b.n) ∧
  w.cell? ⟨g,8,none⟩=some (.int .i64 st.order)∧w.cell? ⟨g,9,none⟩=some (.int .i64 st.scope)∧w.cell? ⟨g,10,none⟩=some (.int .i64 st.label) :=
 ⟨h.lt,h.free,h.cell 0,h.cell 1,h.cell 2,h.cell 3,h.cell 4,h.cell 5,h.cell 6,h.cell 7,h.cell 8,h.cell 9,h.cell 10⟩
theorem zAv.there {w:World} {g:Nat} {st:P.Stm} (h:zAv w g st):g<w.heap.size∧(∀ i,w.frozen? ⟨g,i,none⟩=false) ∧
  w.cell? ⟨g,0,none⟩=some (.int .i64 st.kind)∧w.cell? ⟨g,1,none⟩=some (.int .i64 st.line)∧w.cell? ⟨g,2,none⟩=some (.int .i64 st.dest)∧w.cell? ⟨g,3,none⟩=some (.int .i64 st.var) ∧
  w.cell? ⟨g,4,none⟩=some (.bool st.a.reg)∧w.cell? ⟨g,5,none⟩=some (.int .i64 st.a.n)∧w.cell? ⟨g,6,none⟩=some (.bool st.b.reg)∧w.cell? ⟨g,7,none⟩=some (.int .i64 st.b.n) ∧
  w.cell? ⟨g,8,none⟩=some (.int .i64 st.order)∧w.cell? ⟨g,9,none⟩=some (.int .i64 st.scope)∧w.cell? ⟨g,10,none⟩=some (.int .i64 st.label):=h.facts
theorem zAv.of_block {w w':World} {g:Nat} {st:P.Stm} (h:zAv w g st) (e:w'.heap[g]?=w.heap[g]?):zAv w' g st:=by
 unfold zAv at *;rw[e];exact h
theorem zAv.below {w w':World} {g:Nat} {st:P.Stm} (h:zAv w g st) (hb:Below w.heap.size w w'):zAv w' g st:=h.of_block (hb.block g h.lt)
theorem zAv.alloc {w:World} {g:Nat} {st:P.Stm} (h:zAv w g st) (o:Obj):zAv (w.alloc o) g st:=h.of_block (Below.heap_alloc _ _ _ h.lt)
theorem zAv.drew {w:World} {g:Nat} {st:P.Stm} (h:zAv w g st):zAv w.drew g st:=h
theorem zAv.set {w:World} {g:Nat} {st:P.Stm} (st':P.Stm) (h:zAv w g st) (i:Nat) (u:Value) (e:(zAb st).setIfInBounds i u=zAb st'):zAv (w.setCell ⟨g,i,none⟩ u) g st':=by
 unfold zAv at *
 rw[zAe h,e]
theorem zAv.new (w:World) (st:P.Stm):zAv (w.alloc (.cells (zAb st) 96)) w.heap.size st:=by
 unfold zAv;exact heap_alloc_new w _
theorem zAv.setKind {w:World} {g:Nat} {st:P.Stm} (h:zAv w g st) (x:Int):zAv (w.setCell ⟨g,0,none⟩ (.int .i64 x)) g { st with kind:=x }:=h.set _ 0 _ rfl
theorem zAv.setVar {w:World} {g:Nat} {st:P.Stm} (h:zAv w g st) (x:Int):zAv (w.setCell ⟨g,3,none⟩ (.int .i64 x)) g { st with var:=x }:=h.set _ 3 _ rfl
theorem zAv.setA {w:World} {g:Nat} {st:P.Stm} (h:zAv w g st) (x:P.Opd):zAv ((w.setCell ⟨g,4,none⟩ (.bool x.reg)).setCell ⟨g,5,none⟩ (.int .i64 x.n)) g { st with a:=x } :=
 (h.set { st with a:=⟨x.reg,st.a.n⟩ } 4 _ rfl).set _ 5 _ rfl
theorem zAv.setB {w:World} {g:Nat} {st:P.Stm} (h:zAv w g st) (x:P.Opd):zAv ((w.setCell ⟨g,6,none⟩ (.bool x.reg)).setCell ⟨g,7,none⟩ (.int .i64 x.n)) g { st with b:=x } :=
 (h.set { st with b:=⟨x.reg,st.b.n⟩ } 6 _ rfl).set _ 7 _ rfl
theorem zAv.setOrder {w:World} {g:Nat} {st:P.Stm} (h:zAv w g st) (x:Int):zAv (w.setCell ⟨g,8,none⟩ (.int .i64 x)) g { st with order:=x }:=h.set _ 8 _ rfl
theorem zAv.setScope {w:World} {g:Nat} {st:P.Stm} (h:zAv w g st) (x:Int):zAv (w.setCell ⟨g,9,none⟩ (.int .i64 x)) g { st with scope:=x }:=h.set _ 9 _ rfl
def zAB (w:World) (b off:Nat) (ws:List ByteArray):Prop:=∀ i s,ws[i]?=some s→w.cell? ⟨b,off+i,none⟩=some (.string s)
theorem zAB.head {w:World} {b off:Nat} {s:ByteArray} {r:List ByteArray} (h:zAB w b off (s::r)):w.cell? ⟨b,off,none⟩=some (.string s)∧b<w.heap.size∧zAB w b (off+1) r:=by
 have h0:=h 0 s rfl
 refine⟨h0,World.block_lt_of_cell? w _ h0,fun i t ht=>?_⟩
 have:=h (i+1) t (by simpa using ht)
 rw[show off+1+i=off+(i+1) by omega];exact this
theorem zAB.kept {w w':World} {b off:Nat} {ws:List ByteArray} (h:zAB w b off ws) (e:b<w.heap.size→w'.heap[b]?=w.heap[b]?):zAB w' b off ws:=by
 intro i s hs
 have h1:=h i s hs
 rw[World.cell?_of_block (w:=w) (e (World.block_lt_of_cell? w _ h1))];exact h1
theorem zAB.below {w w':World} {b off:Nat} {ws:List ByteArray} (h:zAB w b off ws) (hb:Below w.heap.size w w'):zAB w' b off ws:=h.kept (fun e=>hb.block b e)
theorem zAB.grown {w w':World} {b off g:Nat} {ws:List ByteArray} (h:zAB w b off ws) (hb:w.grownBy w' (some g)) (hne:b≠g):zAB w' b off ws:=h.kept (fun e=>hb.block b e (by simpa using hne))
theorem zAB.set {w:World} {b off g:Nat} {ws:List ByteArray} (h:zAB w b off ws) (hne:b≠g) (i:Nat) (u:Value):zAB (w.setCell ⟨g,i,none⟩ u) b off ws:=h.kept (fun _=>Below.heap_setCell _ _ _ _ hne)
theorem zAB.alloc {w:World} {b off:Nat} {ws:List ByteArray} (h:zAB w b off ws) (o:Obj):zAB (w.alloc o) b off ws:=h.kept (fun e=>Below.heap_alloc _ _ _ e)
theorem zAB.drew {w:World} {b off:Nat} {ws:List ByteArray} (h:zAB w b off ws):zAB w.drew b off ws:=h.kept (fun _=>rfl)
theorem zAB.nil (w:World) (b off:Nat):zAB w b off []:=fun _ _ h=>by simp at h
theorem ceL {w:World} {b:Nat} {t:TypeId} {c:Array Value} (h:w.heap[b]?=some (.cells c t (0,0))) (j:Nat) (v:Value) (hv:c[j]?=some v):w.cell? ⟨b,j,none⟩=some v:=by
 simp only[World.cell?,h];simpa using hv
theorem cfL {B:Nat} {w w' :World} {b j:Nat} {v:Value} (hb:Below B w w') (hl:b<B) (hc:w.cell? ⟨b,j,none⟩=some v):w'.cell? ⟨b,j,none⟩=some v:=(hb.cell (p:=⟨b,j,none⟩) hl).trans hc
end Go.Proofs.YtgceflcbckjjiaaGreatDoor
namespace Go.Proofs.YtgceflcbckjjiaaGreatDoor
namespace P
def zOd (c:UInt8):List UInt8→List (List UInt8)
 | []=>[[]]
 | x::r=>if x=c then []::zOd c r else match zOd c r with
  | h::t=>(x::h)::t
  | []=>[[x]]
theorem zPH (c:UInt8) (l:List UInt8):zOd c l≠[]:=by
 cases l with
 | nil=>simp[zOd]
 | cons x r =>
  unfold zOd
  split
  ·simp
  ·split<;>simp
theorem splitAt_cons_eq (c:UInt8) (r:List UInt8):zOd c (c::r)=[]::zOd c r:=by simp[zOd]
theorem splitAt_cons_ne (c x:UInt8) (r:List UInt8) (h:x≠c) (a:List UInt8) (b:List (List UInt8)) (e:zOd c r=a::b):zOd c (x::r)=(x::a)::b:=by simp[zOd,h,e]
theorem zPJ (c x:UInt8) (l:List UInt8):∀ (a:List (List UInt8)) (b:List UInt8),zOd c l=a++[b]→zOd c (l++[x])=if x=c then a++[b,[]] else a++[b++[x]]:=by
 induction l with
 | nil =>
  intro a b h
  simp[zOd] at h
  have:a=[]∧b=[]:=by
   cases a with
   | nil=>simpa using h
   | cons p q=>simp at h
  obtain⟨rfl,rfl⟩:=this
  by_cases hx:x=c<;>simp[zOd,hx]
 | cons y r ih =>
  intro a b h
  by_cases hy:y=c
  ·subst hy
   rw[splitAt_cons_eq] at h
   cases a with
   | nil =>
    simp at h
    exact absurd h.2 (zPH _ _)
   | cons p q =>
    simp at h
    obtain⟨rfl,h⟩:=h
    have:=ih q b h
    rw[List.cons_append,splitAt_cons_eq,this]
    split<;>simp
  ·cases hs:zOd c r with
   | nil=>exact absurd hs (zPH _ _)
   | cons p q =>
    rw[splitAt_cons_ne c y r hy p q hs] at h
    rw[List.cons_append]
    cases a with
    | nil =>
     simp at h
     obtain⟨rfl,rfl⟩:=h
     have:=ih [] p (by simpa using hs)
     by_cases hx:x=c
     ·rw[if_pos hx] at this ⊢
      rw[splitAt_cons_ne c y _ hy p [[]] (by simpa using this)];simp
     ·rw[if_neg hx] at this ⊢
      rw[splitAt_cons_ne c y _ hy (p++[x]) [] (by simpa using this)];simp
    | cons p' q' =>
     simp at h
     obtain⟨rfl,rfl⟩:=h
     have:=ih (p::q') b (by simpa using hs)
     by_cases hx:x=c
     ·rw[if_pos hx] at this ⊢
      rw[splitAt_cons_ne c y _ hy p (q'++[b,[]]) (by simpa using this)];simp
     ·rw[if_neg hx] at this ⊢
      rw[splitAt_cons_ne c y _ hy p (q'++[b++[x]]) (by simpa using this)];simp
end P
end Go.Proofs.YtgceflcbckjjiaaGreatDoor
namespace Go.Proofs.YtgceflcbckjjiaaGreatDoor
open Go Go.RowKit
set_option maxRecDepth 100000
theorem zAL (s:ByteArray) (m k:Nat):(s.extract m k).toList=(s.toList.take k).drop m:=by
 rw[zAQ,zAQ,List.drop_take]
 simp
theorem zCy (s:ByteArray) (k:Nat) (h:k<s.size):s.toList.take (k+1)=s.toList.take k++[s[k]]:=by
 rw[zAQ,List.take_succ_eq_append_getElem (by simpa using h)];rfl
theorem Tryz.infoStr:(Tryz.prog.info? 9).map (fun i=>(i.zero,i.size,i.bytes))=some (some (.string ByteArray.empty),1,16):=by kernel_rfl
theorem zHQ (c:UInt8) (s:ByteArray) (k m:Nat) (bs:List ByteArray) (hk:k<s.size) (h:P.zOd c (s.toList.take k)=bs.map ByteArray.toList++[(s.toList.take k).drop m]) (hc:s[k]=c) :
  P.zOd c (s.toList.take (k+1))=(bs++[s.extract m k]).map ByteArray.toList++[(s.toList.take (k+1)).drop (k+1)]:=by
 rw[zCy s k hk,P.zPJ _ _ _ _ _ h,if_pos hc]
 simp[zAL]
 omega
theorem zHR (c:UInt8) (s:ByteArray) (k m:Nat) (bs:List ByteArray) (hk:k<s.size) (hm:m≤k) (h:P.zOd c (s.toList.take k)=bs.map ByteArray.toList++[(s.toList.take k).drop m]) (hc:¬ s[k]=c) :
  P.zOd c (s.toList.take (k+1))=bs.map ByteArray.toList++[(s.toList.take (k+1)).drop m]:=by
 rw[zCy s k hk,P.zPJ _ _ _ _ _ h,if_neg hc]
 have:m≤(s.toList.take k).length:=by rw[List.length_take,zAr];omega
 rw[List.drop_append_of_le_length this]
theorem zCM (a:UInt8) (n:Nat) (hn:n<256):(((a.toNat:Int)==(n:Int))=true) ↔ a=UInt8.ofNat n:=by
 rw[zMd a n hn];simp
theorem zKu (s:ByteArray) (c:UInt8) (k:Nat) (h:k<s.size):((s.extract k (k+1)).toList==(⟨#[c]⟩:ByteArray).toList)=decide (s[k]=c):=by
 have e:(s.extract k (k+1)).toList=[s[k]]:=by
  rw[zAL,zCy s k h,List.drop_append_of_le_length (by rw[List.length_take,zAr];omega),List.drop_of_length_le (by rw[List.length_take];omega)]
  rfl
 have e2:(⟨#[c]⟩:ByteArray).toList=[c]:=by rw[zAQ]
 rw[e,e2]
 by_cases hc:s[k]=c<;>simp[hc]
theorem zFX (c:UInt8) (s:ByteArray) (w:World) (hs:s.size≤8192) :
  Calls Tryz.prog 52 #[.string s,.string ⟨#[c]⟩] w fun e w'=>∃ g cap,∃ ws:List ByteArray,e=.returned (.slice (some ⟨g,0,none⟩) ws.length cap)∧ws.map ByteArray.toList=P.zOd c s.toList ∧
   w'.ownsRow w.heap.size 9 1 (.slice (some ⟨g,0,none⟩) ws.length cap) ws.length (ws.map Value.string)∧Below w.heap.size w w':=by
 obtain⟨i0,hi,hz0,hz1,hz2⟩:=info_parts Tryz.infoStr
 have hone:(⟨#[c]⟩:ByteArray).size=1:=rfl
 generalize hbet:(⟨#[c]⟩:ByteArray)=bet at *
 go_enter Tryz.func52,Tryz.ntmps52
 go_wp2
 go_loopw [5,6,7] (fun v f i wr=>∃ k m:Nat,∃ bs:List ByteArray,k≤s.size∧m≤k∧i=.int .i64 k∧f=.int .i64 m∧bs.length≤k∧Hid (P.zOd c (s.toList.take k)=bs.map ByteArray.toList++[(s.toList.take k).drop m]) ∧
   wr.ownsRow w.heap.size 9 1 v bs.length (bs.map Value.string)∧Below w.heap.size w wr) (fun _ _ i _=>s.size-(intOf i).toNat)
 case atStart=>exact⟨0,0,[],Nat.zero_le _,Nat.le_refl _,rfl,rfl,Nat.le_refl _,by unfold Hid;simp[P.zOd],World.ownsRow_nil _ _ _ _,Below.refl _ _⟩
 case round =>
  obtain⟨k,m,bs,hk,hm,rfl,rfl,hbl,HS,hown,hbel⟩:=hrel
  have hmk:(m:Int)≤(k:Int):=by omega
  by_cases hlt:k<s.size
  ·have hlt':(k:Int)+1≤(s.size:Int):=by omega
   have hex:∀ wx,(Instr.slice 9 (.string s) (some (.int .i64 (k:Int))) (some (.int .i64 ((k:Int)+1))) none).run Tryz.prog wx=.ok (.string (s.extract k (k+1))) wx:=fun wx=>by
    rw[run_slice_string wx 9 s .i64 .i64 _ _ Tryz.underlying9 (by omega) (by omega) (by omega),show ((k:Int)).toNat=k by omega,show ((k:Int)+1).toNat=k+1 by omega]
   by_cases hc:s[k]=c
   ·have hq:((s.extract k (k+1)).toList==bet.toList)=true:=by rw[← hbet,zKu s c k hlt];simpa using hc
    have HC:=zAa hc
    clear hc
    go_wp2_with (first
     | (at_builtin;refine wpList_append_lies _ rfl (.tmp 38) (.tmp 43) 37 rfl w.heap.size 9 i0 (.string ByteArray.empty) 1 16 Tryz.underlying37 hi hz0 hz1 hz2 rfl (by decide) _ _ _ rfl (hown.alloc _) ⟨wr.heap.size,0,none⟩ 1 1 [.string (s.extract m k)] rfl rfl ?c1 ?c2 (by decide) ?c3 ?c4 ?c5 _ rfl ?_))
    case c1 =>
     intro j u hj
     match j,hj with
     | 0,hj=>simp at hj;subst hj;simp[Addr.add]
    case c2=>intro u hu;simp at hu;subst hu;rfl
    case c3=>unfold maxLen;omega
    case c4=>omega
    case c5=>have:=hbel.size;simp;omega
    intro g cap w1 hown' hgrow hat hglt
    have R:=zHQ c s k m bs hlt HS.out HC.out
    have HR:=zAa R
    have hb1:Below w.heap.size w w1:=(hbel.alloc hbel.size _).grown hgrow (by have:=hbel.size;simp;omega) (fun j hj=>(hown.lt j hj).1)
    clear R hown hgrow hat HS
    go_wp2
    go_roundw
    case rel=>exact⟨k+1,k+1,bs++[s.extract m k],by omega,Nat.le_refl _,by go_num,by go_num,by simp;omega,HR,by simpa using hown',hb1⟩
    case measure=>simp[intOf];omega
   ·have hq:((s.extract k (k+1)).toList==bet.toList)=false:=by rw[← hbet,zKu s c k hlt];simpa using hc
    have HR:=zAa (zHR c s k m bs hlt hm HS.out hc)
    clear HS hc
    go_wp2
    go_roundw
    case rel=>exact⟨k+1,m,bs,by omega,by omega,by go_num,rfl,by omega,HR,hown,hbel⟩
    case measure=>simp[intOf];omega
  ·have hlt':¬ ((k:Int)+1≤(s.size:Int)):=by omega
   have HS2:Hid ((bs++[s.extract m s.size]).map ByteArray.toList=P.zOd c s.toList):=by
    have hks:k=s.size:=by omega
    subst hks
    unfold Hid
    have:=HS.out
    rw[List.take_of_length_le (by rw[zAr];exact Nat.le_refl _)] at this
    rw[this];simp[zAL,List.take_of_length_le,zAr]
   clear HS
   go_wp2_with (first
     | (at_builtin;refine wpList_append_lies _ rfl (.tmp 49) (.tmp 53) 37 rfl w.heap.size 9 i0 (.string ByteArray.empty) 1 16 Tryz.underlying37 hi hz0 hz1 hz2 rfl (by decide) _ _ _ rfl (hown.alloc _) ⟨wr.heap.size,0,none⟩ 1 1 [.string (s.extract m s.size)] rfl rfl ?d1 ?d2 (by decide) ?d3 ?d4 ?d5 _ rfl ?_))
   case d2=>first | rfl | (intro u hu;simp at hu;subst hu;rfl)
   case d3=>unfold maxLen;omega
   case d4=>omega
   case d5=>have:=hbel.size;simp;omega
   intro g cap w1 hown' hgrow hat hglt
   have hb1:Below w.heap.size w w1:=(hbel.alloc hbel.size _).grown hgrow (by have:=hbel.size;simp;omega) (fun j hj=>(hown.lt j hj).1)
   clear hown hgrow hat
   go_wp2
   go_ret
   exact⟨g,cap,bs++[s.extract m s.size],by simp,HS2.out,by simpa using hown',hb1⟩
theorem zEl {w:World} {B g cap:Nat} {ws:List ByteArray} (h:w.ownsRow B 9 1 (.slice (some ⟨g,0,none⟩) ws.length cap) ws.length (ws.map Value.string)):zAB w g 0 ws∧ws.length≤cap∧g<w.heap.size:=by
 refine⟨fun i s hs=>?_,?_,(h.lt g rfl).2⟩
 ·have hi:=(List.getElem?_eq_some_iff.1 hs).1
  rw[Nat.zero_add,h.cellAt i (by omega)]
  simp[hs]
 ·rcases h.2 with ⟨h',_⟩ | ⟨g',cap',cur,h',hb,hg,hnc,_⟩
  ·simp at h'
  ·simp only[Value.slice.injEq] at h';omega
end Go.Proofs.YtgceflcbckjjiaaGreatDoor
