import Derived.Test.YtgceflcbckjjiaaGreatDoorProg
import Derived.Handy
import Derived.Lib.Strings
set_option linter.unusedVariables false
set_option linter.unusedSimpArgs false
set_option maxHeartbeats 12800000
namespace Go.Proofs.YtgceflcbckjjiaaGreatDoor
namespace P
structure Opd where
 reg:Bool
 n:Int
structure Stm where
 kind:Int
 line:Int
 dest:Int
 var:Int
 a:Opd
 b:Opd
 order:Int
 scope:Int
 label:Int
def Opd.zero:Opd:=⟨false,0⟩
def Stm.zero:Stm:=⟨0,0,0,0,Opd.zero,Opd.zero,0,0,0⟩
def digit (c:UInt8) (n:Int):Int × Bool:=((c.toNat:Int)-48,decide (48≤(c.toNat:Int))&&decide ((c.toNat:Int)-48<n))
def zKc:List UInt8→Int × Bool
 | [c,d]=>if c=114 then digit d 4 else (0,false)
 | _=>(0,false)
def zKv:List UInt8→Opd × Bool
 | [c]=>(⟨false,(digit c 4).1⟩,(digit c 4).2)
 | l=>(⟨true,(zKc l).1⟩,(zKc l).2)
def varOf (l:List UInt8):Int × Bool :=
 if l==[120] then (0,true) else if l==[121] then (1,true) else if l==[122] then (2,true) else (0,false)
def order (l:List UInt8):Int × Bool :=
 if l==[119,101,97,107] then (0,true)
 else if l==[114,101,108,97,120,101,100] then (1,true)
 else if l==[97,99,113,117,105,114,101] then (2,true)
 else if l==[114,101,108,101,97,115,101] then (3,true)
 else if l==[97,99,113,114,101,108] then (4,true)
 else if l==[115,99] then (5,true)
 else (0,false)
def scope (l:List UInt8):Int × Bool :=
 if l==[98,108,111,99,107] then (0,true) else if l==[100,101,118,105,99,101] then (1,true) else (0,false)
def sign (l:List UInt8):Int × Bool :=
 if l==[43] then (7,true) else if l==[45] then (8,true) else if l==[61,61] then (9,true) else (0,false)
def zMw (kind order:Int):Bool :=
 if kind==0 then order==0||order==1||order==2
 else if kind==1 then order==0||order==1||order==3
 else if kind==2||kind==3 then order==1||order==2||order==3||order==4
 else if kind==4 then order==4||order==5
 else false
def reads (kind:Int):Bool:=kind==0||kind==2||kind==3
def zMr (kind:Int):Bool:=kind==1||kind==2||kind==3
def target (st:Stm) (place value:List UInt8):Stm × Bool :=
 if (varOf place).2 then ({ st with var:=(varOf place).1,a:=(zKv value).1 },(zKv value).2) else (st,false)
def zLd (st:Stm):List (List UInt8)→Stm × Bool
 | []=>(st,false)
 | o::r =>
  if (order o).2&&zMw st.kind (order o).1 then
   if (order o).1==0 then ({ st with order:=0 },r.isEmpty)
   else match r with
    | [s]=>({ st with order:=(order o).1,scope:=(scope s).1 },(scope s).2)
    | _=>({ st with order:=(order o).1 },false)
  else (st,false)
theorem ordering_no1 (st:Stm) (o:List UInt8) (r:List (List UInt8)) (h:(order o).2=false):zLd st (o::r)=(st,false):=by simp[zLd,h]
theorem ordering_no2 (st:Stm) (o:List UInt8) (r:List (List UInt8)) (h:zMw st.kind (order o).1=false):zLd st (o::r)=(st,false):=by simp[zLd,h]
theorem ordering_weak (st:Stm) (o:List UInt8) (r:List (List UInt8)) (h:(order o).2=true) (h2:zMw st.kind (order o).1=true) (h3:(order o).1=0):zLd st (o::r)=({ st with order:=0 },r.isEmpty):=by
 rw[h3] at h2;simp[zLd,h,h2,h3]
theorem ordering_short (st:Stm) (o:List UInt8) (h:(order o).2=true) (h2:zMw st.kind (order o).1=true) (h3:((order o).1==0)=false):zLd st [o]=({ st with order:=(order o).1 },false):=by
 simp[zLd,h,h2,h3]
theorem ordering_two (st:Stm) (o s:List UInt8) (h:(order o).2=true) (h2:zMw st.kind (order o).1=true) (h3:((order o).1==0)=false):zLd st [o,s]=({ st with order:=(order o).1,scope:=(scope s).1 },(scope s).2):=by
 simp[zLd,h,h2,h3]
theorem ordering_long (st:Stm) (o s t:List UInt8) (q:List (List UInt8)) (h:(order o).2=true) (h2:zMw st.kind (order o).1=true) (h3:((order o).1==0)=false):zLd st (o::s::t::q)=({ st with order:=(order o).1 },false):=by
 simp[zLd,h,h2,h3]
def load (st:Stm):List (List UInt8)→Stm × Bool
 | []=>(st,false)
 | v::r=>if (varOf v).2 then zLd { st with kind:=0,var:=(varOf v).1 } r else (st,false)
def step (st:Stm) (kind:Int):List (List UInt8)→Stm × Bool
 | p::v::r=>let t:=target { st with kind:=kind } p v
  if t.2 then zLd t.1 r else (t.1,false)
 | _=>(st,false)
def sum (st:Stm):List (List UInt8)→Stm × Bool
 | [a]=>if (zKv a).2 then ({ st with kind:=6,a:=(zKv a).1 },true) else (st,false)
 | [a,s,b] =>
  if (zKv a).2 then
   if (sign s).2 then ({ st with kind:=(sign s).1,a:=(zKv a).1,b:=(zKv b).1 },(zKv b).2)
   else ({ st with kind:=6,a:=(zKv a).1 },false)
  else (st,false)
 | _=>(st,false)
theorem load_no (st:Stm) (v:List UInt8) (r:List (List UInt8)) (h:(varOf v).2=false):load st (v::r)=(st,false):=by simp[load,h]
theorem load_yes (st:Stm) (v:List UInt8) (r:List (List UInt8)) (h:(varOf v).2=true):load st (v::r)=zLd { st with kind:=0,var:=(varOf v).1 } r:=by simp[load,h]
theorem step_no (st:Stm) (k:Int) (p v:List UInt8) (r:List (List UInt8)) (h:(target { st with kind:=k } p v).2=false):step st k (p::v::r)=((target { st with kind:=k } p v).1,false):=by simp[step,h]
theorem step_yes (st:Stm) (k:Int) (p v:List UInt8) (r:List (List UInt8)) (h:(target { st with kind:=k } p v).2=true):step st k (p::v::r)=zLd (target { st with kind:=k } p v).1 r:=by simp[step,h]
theorem zMG (st:Stm) (a:List UInt8) (r:List (List UInt8)) (h:(zKv a).2=false):sum st (a::r)=(st,false):=by
 match r with
 | []=>simp[sum,h]
 | [_]=>simp[sum]
 | [_,_]=>simp[sum,h]
 | _::_::_::_=>simp[sum]
theorem sum_one (st:Stm) (a:List UInt8) (h:(zKv a).2=true):sum st [a]=({ st with kind:=6,a:=(zKv a).1 },true):=by simp[sum,h]
theorem sum_sign (st:Stm) (a s b:List UInt8) (h:(zKv a).2=true) (h2:(sign s).2=false):sum st [a,s,b]=({ st with kind:=6,a:=(zKv a).1 },false):=by simp[sum,h,h2]
theorem sum_all (st:Stm) (a s b:List UInt8) (h:(zKv a).2=true) (h2:(sign s).2=true):sum st [a,s,b]=({ st with kind:=(sign s).1,a:=(zKv a).1,b:=(zKv b).1 },(zKv b).2):=by simp[sum,h,h2]
theorem sum_len (st:Stm) (l:List (List UInt8)) (h1:¬ l.length=1) (h3:¬ l.length=3):sum st l=(st,false):=by
 match l with
 | []=>rfl
 | [_]=>simp at h1
 | [_,_]=>rfl
 | [_,_,_]=>simp at h3
 | _::_::_::_::_=>rfl
def zKl:List (List UInt8)→Stm × Bool
 | d::e::c::r =>
  if e==[61] then
   if (zKc d).2 then
    if c==[108,111,97,100] then load { Stm.zero with dest:=(zKc d).1 } r
    else if c==[97,100,100] then step { Stm.zero with dest:=(zKc d).1 } 2 r
    else if c==[115,119,97,112] then step { Stm.zero with dest:=(zKc d).1 } 3 r
    else sum { Stm.zero with dest:=(zKc d).1 } (c::r)
   else (Stm.zero,false)
  else (Stm.zero,false)
 | _=>(Stm.zero,false)
def store:List (List UInt8)→Stm × Bool
 | _::p::v::r=>let t:=target { Stm.zero with kind:=1 } p v
  if t.2 then zLd t.1 r else (Stm.zero,false)
 | _=>(Stm.zero,false)
def fence:List (List UInt8)→Stm × Bool
 | _::r=>zLd { Stm.zero with kind:=4 } r
 | _=>(Stm.zero,false)
def zLE:List (List UInt8)→Stm × Bool
 | [_,a]=>({ Stm.zero with kind:=10,a:=(zKv a).1 },(zKv a).2)
 | _=>(Stm.zero,false)
def zKm:List (List UInt8)→Stm × Bool
 | []=>(Stm.zero,false)
 | c::r =>
  if c==[115,116,111,114,101] then store (c::r)
  else if c==[102,101,110,99,101] then fence (c::r)
  else if c==[98,97,114,114,105,101,114] then ({ Stm.zero with kind:=5 },r.isEmpty)
  else if c==[105,102] then zLE (c::r)
  else if c==[101,110,100] then ({ Stm.zero with kind:=11 },r.isEmpty)
  else zKl (c::r)
end P
end Go.Proofs.YtgceflcbckjjiaaGreatDoor
namespace Go.Proofs.YtgceflcbckjjiaaGreatDoor
open Go Go.RowKit
set_option maxRecDepth 100000
theorem zDE (c n:Int) (w:World) (hc:0≤c) (hc2:c<256) :
  Calls Tryz.prog 146 #[.int .u8 c,.int .i64 n] w fun e w'=>e=.returned (.tuple #[.int .i64 (c-48),.bool (decide (48≤c)&&decide (c-48<n))])∧w'=w:=by
 go_enter Tryz.func146,Tryz.ntmps146
 go_wp2
 all_goals go_ret2
 all_goals simp[*]
 all_goals omega
theorem zBO (s:ByteArray) (w:World) :
  Calls Tryz.prog 190 #[.string s] w fun e w'=>e=.returned (.tuple #[.int .i64 (P.varOf s.toList).1,.bool (P.varOf s.toList).2])∧w'=w:=by
 go_enter Tryz.func190,Tryz.ntmps190
 go_wp2
 all_goals go_ret2
 all_goals simp[P.varOf, *]
theorem zCi (s:ByteArray) (w:World) :
  Calls Tryz.prog 191 #[.string s] w fun e w'=>e=.returned (.tuple #[.int .i64 (P.order s.toList).1,.bool (P.order s.toList).2])∧w'=w:=by
 go_enter Tryz.func191,Tryz.ntmps191
 go_wp2
 all_goals go_ret2
 all_goals simp[P.order, *]
theorem zCj (s:ByteArray) (w:World) :
  Calls Tryz.prog 192 #[.string s] w fun e w'=>e=.returned (.tuple #[.int .i64 (P.scope s.toList).1,.bool (P.scope s.toList).2])∧w'=w:=by
 go_enter Tryz.func192,Tryz.ntmps192
 go_wp2
 all_goals go_ret2
 all_goals simp[P.scope, *]
theorem zFY (s:ByteArray) (w:World) :
  Calls Tryz.prog 193 #[.string s] w fun e w'=>e=.returned (.tuple #[.int .i64 (P.sign s.toList).1,.bool (P.sign s.toList).2])∧w'=w:=by
 go_enter Tryz.func193,Tryz.ntmps193
 go_wp2
 all_goals go_ret2
 all_goals simp[P.sign, *]
theorem zBU (k o:Int) (w:World) :
  Calls Tryz.prog 188 #[.int .i64 k,.int .i64 o] w fun e w'=>e=.returned (.bool (P.zMw k o))∧w'=w:=by
 go_enter Tryz.func188,Tryz.ntmps188
 go_wp2
 all_goals go_ret
 all_goals simp[P.zMw, *]
theorem zDF (k:Int) (w:World) :
  Calls Tryz.prog 58 #[.int .i64 k] w fun e w'=>e=.returned (.bool (P.reads k))∧w'=w:=by
 go_enter Tryz.func58,Tryz.ntmps58
 go_wp2
 all_goals go_ret
 all_goals simp[P.reads, *]
theorem zGs (k:Int) (w:World) :
  Calls Tryz.prog 59 #[.int .i64 k] w fun e w'=>e=.returned (.bool (P.zMr k))∧w'=w:=by
 go_enter Tryz.func59,Tryz.ntmps59
 go_wp2
 all_goals go_ret
 all_goals simp[P.zMr, *]
theorem zAR (s:ByteArray):s.toList=s.data.toList:=ByteArray.toList_eq s
theorem zAu (s:ByteArray):s.toList.length=s.size:=by rw[zAR];rfl
theorem zEf (s:ByteArray) (h:s.size=1):s.toList=[s[0]]:=by
 rw[zAR]
 rcases s with ⟨⟨l⟩⟩
 match l,h with
 | [a],_=>rfl
theorem zGt (s:ByteArray) (h:s.size=2):s.toList=[s[0],s[1]]:=by
 rw[zAR]
 rcases s with ⟨⟨l⟩⟩
 match l,h with
 | [a,b],_=>rfl
theorem zIV (a:UInt8) (n:Nat) (hn:n<256):((a.toNat:Int)==(n:Int))=(a==UInt8.ofNat n):=by
 rw[Bool.eq_iff_iff];simp[← UInt8.toNat_inj];omega
theorem zEG (s:ByteArray) (h:s.size=2):P.zKc s.toList=if ((s[0].toNat:Int) != 114)=true then (0,false) else P.digit s[1] 4:=by
 rw[zGt s h]
 have e:((s[0].toNat:Int) != 114)=(s[0] != 114):=by
  have:=zIV s[0] 114 (by omega)
  simp only[bne];exact congrArg (!·) this
 rw[e]
 by_cases h1:s[0]=114<;>simp[P.zKc,h1]
theorem zFp (s:ByteArray) (h:¬ s.size=2):P.zKc s.toList=(0,false):=by
 have:=zAu s
 unfold P.zKc
 split
 ·simp_all
 ·rfl
theorem zBb (s:ByteArray) (w:World) :
  Calls Tryz.prog 171 #[.string s] w fun e w'=>e=.returned (.tuple #[.int .i64 (P.zKc s.toList).1,.bool (P.zKc s.toList).2])∧w'=w:=by
 by_cases h2:s.size=2
 ·have H:=zEG s h2
  have hb:s[1].toNat<256:=UInt8.toNat_lt _
  go_enter Tryz.func171,Tryz.ntmps171
  go_wp2_with (go_at_call 146;refine (zDE _ _ _ (by omega) (by omega)).mono ?_;rintro e w' ⟨rfl,rfl⟩)
  all_goals go_ret2
  all_goals simp[P.digit, *]
 ·have H:=zFp s h2
  go_enter Tryz.func171,Tryz.ntmps171
  go_wp2
  go_ret2
  simp[*]
theorem zFq (s:ByteArray) (h:s.size=1):P.zKv s.toList=(⟨false,(P.digit s[0] 4).1⟩,(P.digit s[0] 4).2):=by
 rw[zEf s h];rfl
theorem zGu (s:ByteArray) (h:¬ s.size=1):P.zKv s.toList=(⟨true,(P.zKc s.toList).1⟩,(P.zKc s.toList).2):=by
 have:=zAu s
 unfold P.zKv
 split
 ·simp_all
 ·rfl
theorem zBl (s:ByteArray) (w:World) :
  Calls Tryz.prog 170 #[.string s] w fun e w'=>e=.returned (.tuple #[.agg #[.bool (P.zKv s.toList).1.reg,.int .i64 (P.zKv s.toList).1.n],.bool (P.zKv s.toList).2])∧Below w.heap.size w w':=by
 by_cases h2:s.size=1
 ·have H:=zFq s h2
  have hb:s[0].toNat<256:=UInt8.toNat_lt _
  go_enter Tryz.func170,Tryz.ntmps170
  go_wp2_with (go_at_call 146;refine (zDE _ _ _ (by omega) (by omega)).mono ?_;rintro e w' ⟨rfl,rfl⟩)
  go_returns
  exact⟨by simp[H,P.digit],by go_grown⟩
 ·have H:=zGu s h2
  go_enter Tryz.func170,Tryz.ntmps170
  go_wp2_with (go_at_call 171;refine (zBb _ _).mono ?_;rintro e w' ⟨rfl,rfl⟩)
  go_returns
  exact⟨by simp[H],by go_grown⟩
theorem zAa {p:Prop} (h:p):Hid p:=h
theorem zAB {p:Prop} (h:Hid p):p:=h
theorem zAE (w:World) (r:Option Nat):w.grownBy w r:=⟨rfl,rfl,rfl,Nat.le_refl _,fun _ _ _=>rfl⟩
theorem zAT {a b c:World} {r:Option Nat} (h:a.grownBy b r) (k:b.grownBy c r):a.grownBy c r :=
 ⟨k.os.trans h.os,k.tape.trans h.tape,k.output.trans h.output,Nat.le_trans h.size k.size,fun i hi hr=>(k.block i (Nat.lt_of_lt_of_le hi h.size) hr).trans (h.block i hi hr)⟩
theorem zBz {a w:World} {r:Option Nat} (h:a.grownBy w r) (o:Obj):a.grownBy (w.alloc o) r:=zAT h (World.grownBy_alloc _ _ _)
theorem zCk {a w:World} {r:Option Nat} (h:a.grownBy w r):a.grownBy w.drew r:=⟨h.os,h.tape,h.output,h.size,h.block⟩
theorem zGV {w w':World} {r:Option Nat} (h:w.drew.grownBy w' r):w.grownBy w' r:=⟨h.os,h.tape,h.output,h.size,h.block⟩
theorem zAk {a w:World} {g:Nat} (h:a.grownBy w (some g)) (i:Nat) (u:Value):a.grownBy (w.setCell ⟨g,i,none⟩ u) (some g) :=
 zAT h ⟨rfl,rfl,rfl,by simp[World.setCell],fun k _ hr=>Below.heap_setCell _ _ _ _ (fun e=>hr (by rw[e]))⟩
theorem zBd {w w':World} (h:Below w.heap.size w w') (r:Option Nat):w.grownBy w' r:=⟨h.os,h.tape,h.output,h.size,fun k hk _=>h.block k hk⟩
theorem zAy {w w1 w':World} {g:Nat} (h:Below w.heap.size w w1) (k:w1.grownBy w' (some g)) (hg:w.heap.size≤g):Below w.heap.size w w' :=
 h.trans ⟨k.os,k.tape,k.output,k.size,fun i hi=>k.block i (Nat.lt_of_lt_of_le hi h.size) (by simp;omega)⟩
theorem zAf {w:World} {g:Nat} {cur:Array Value} {e:TypeId} {fr:Nat × Nat} (h:w.heap[g]?=some (.cells cur e fr)) (i:Nat) (u:Value) :
  (w.setCell ⟨g,i,none⟩ u).heap[g]?=some (.cells (cur.setIfInBounds i u) e fr):=by
 simp only[World.setCell,Array.getElem?_modify]
 simp[h]
theorem zAh {w:World} {g i b o:Nat} {u:Value} (h:b≠g):(w.setCell ⟨g,i,none⟩ u).cell? ⟨b,o,none⟩=w.cell? ⟨b,o,none⟩ :=
 World.cell?_of_block (w:=w) (a:=⟨b,o,none⟩) (Below.heap_setCell _ _ _ _ h)
def zAb (st:P.Stm):Array Value:=#[.int .i64 st.kind,.int .i64 st.line,.int .i64 st.dest,.int .i64 st.var,.bool st.a.reg,.int .i64 st.a.n,.bool st.b.reg,.int .i64 st.b.n,.int .i64 st.order,.int .i64 st.scope,.int .i64 st.label]
def zAw (w:World) (g:Nat) (st:P.Stm):Prop:=w.heap[g]?=some (.cells (zAb st) 96 (0,0))
theorem zAw.lt {w:World} {g:Nat} {st:P.Stm} (h:zAw w g st):g<w.heap.size:=(Array.getElem?_eq_some_iff.1 h).1
theorem zAw.cell {w:World} {g:Nat} {st:P.Stm} (h:zAw w g st) (i:Nat):w.cell? ⟨g,i,none⟩=(zAb st)[i]?:=by
 unfold zAw at h
 simp[World.cell?,h]
theorem zAw.free {w:World} {g:Nat} {st:P.Stm} (h:zAw w g st) (i:Nat):w.frozen? ⟨g,i,none⟩=false:=by
 unfold zAw at h
 simp[World.frozen?,h]
theorem zAw.facts {w:World} {g:Nat} {st:P.Stm} (h:zAw w g st):g<w.heap.size∧(∀ i,w.frozen? ⟨g,i,none⟩=false) ∧
  w.cell? ⟨g,0,none⟩=some (.int .i64 st.kind)∧w.cell? ⟨g,1,none⟩=some (.int .i64 st.line)∧w.cell? ⟨g,2,none⟩=some (.int .i64 st.dest)∧w.cell? ⟨g,3,none⟩=some (.int .i64 st.var) ∧
  w.cell? ⟨g,4,none⟩=some (.bool st.a.reg)∧w.cell? ⟨g,5,none⟩=some (.int .i64 st.a.n)∧w.cell? ⟨g,6,none⟩=some (.bool st.b.reg)∧w.cell? ⟨g,7,none⟩=some (.int .i64 st.b.n) ∧
  w.cell? ⟨g,8,none⟩=some (.int .i64 st.order)∧w.cell? ⟨g,9,none⟩=some (.int .i64 st.scope)∧w.cell? ⟨g,10,none⟩=some (.int .i64 st.label) :=
 ⟨h.lt,h.free,h.cell 0,h.cell 1,h.cell 2,h.cell 3,h.cell 4,h.cell 5,h.cell 6,h.cell 7,h.cell 8,h.cell 9,h.cell 10⟩
theorem zAw.there {w:World} {g:Nat} {st:P.Stm} (h:zAw w g st):g<w.heap.size∧(∀ i,w.frozen? ⟨g,i,none⟩=false) ∧
  w.cell? ⟨g,0,none⟩=some (.int .i64 st.kind)∧w.cell? ⟨g,1,none⟩=some (.int .i64 st.line)∧w.cell? ⟨g,2,none⟩=some (.int .i64 st.dest)∧w.cell? ⟨g,3,none⟩=some (.int .i64 st.var) ∧
  w.cell? ⟨g,4,none⟩=some (.bool st.a.reg)∧w.cell? ⟨g,5,none⟩=some (.int .i64 st.a.n)∧w.cell? ⟨g,6,none⟩=some (.bool st.b.reg)∧w.cell? ⟨g,7,none⟩=some (.int .i64 st.b.n) ∧
  w.cell? ⟨g,8,none⟩=some (.int .i64 st.order)∧w.cell? ⟨g,9,none⟩=some (.int .i64 st.scope)∧w.cell? ⟨g,10,none⟩=some (.int .i64 st.label):=h.facts
theorem zAw.of_block {w w':World} {g:Nat} {st:P.Stm} (h:zAw w g st) (e:w'.heap[g]?=w.heap[g]?):zAw w' g st:=by
 unfold zAw at *;rw[e];exact h
theorem zAw.below {w w':World} {g:Nat} {st:P.Stm} (h:zAw w g st) (hb:Below w.heap.size w w'):zAw w' g st:=h.of_block (hb.block g h.lt)
theorem zAw.alloc {w:World} {g:Nat} {st:P.Stm} (h:zAw w g st) (o:Obj):zAw (w.alloc o) g st:=h.of_block (Below.heap_alloc _ _ _ h.lt)
theorem zAw.drew {w:World} {g:Nat} {st:P.Stm} (h:zAw w g st):zAw w.drew g st:=h
theorem zAw.set {w:World} {g:Nat} {st:P.Stm} (st':P.Stm) (h:zAw w g st) (i:Nat) (u:Value) (e:(zAb st).setIfInBounds i u=zAb st'):zAw (w.setCell ⟨g,i,none⟩ u) g st':=by
 unfold zAw at *
 rw[zAf h,e]
theorem zAw.new (w:World) (st:P.Stm):zAw (w.alloc (.cells (zAb st) 96)) w.heap.size st:=by
 unfold zAw;exact heap_alloc_new w _
theorem zAw.setKind {w:World} {g:Nat} {st:P.Stm} (h:zAw w g st) (x:Int):zAw (w.setCell ⟨g,0,none⟩ (.int .i64 x)) g { st with kind:=x }:=h.set _ 0 _ rfl
theorem zAw.setVar {w:World} {g:Nat} {st:P.Stm} (h:zAw w g st) (x:Int):zAw (w.setCell ⟨g,3,none⟩ (.int .i64 x)) g { st with var:=x }:=h.set _ 3 _ rfl
theorem zAw.setA {w:World} {g:Nat} {st:P.Stm} (h:zAw w g st) (x:P.Opd):zAw ((w.setCell ⟨g,4,none⟩ (.bool x.reg)).setCell ⟨g,5,none⟩ (.int .i64 x.n)) g { st with a:=x } :=
 (h.set { st with a:=⟨x.reg,st.a.n⟩ } 4 _ rfl).set _ 5 _ rfl
theorem zAw.setB {w:World} {g:Nat} {st:P.Stm} (h:zAw w g st) (x:P.Opd):zAw ((w.setCell ⟨g,6,none⟩ (.bool x.reg)).setCell ⟨g,7,none⟩ (.int .i64 x.n)) g { st with b:=x } :=
 (h.set { st with b:=⟨x.reg,st.b.n⟩ } 6 _ rfl).set _ 7 _ rfl
theorem zAw.setOrder {w:World} {g:Nat} {st:P.Stm} (h:zAw w g st) (x:Int):zAw (w.setCell ⟨g,8,none⟩ (.int .i64 x)) g { st with order:=x }:=h.set _ 8 _ rfl
theorem zAw.setScope {w:World} {g:Nat} {st:P.Stm} (h:zAw w g st) (x:Int):zAw (w.setCell ⟨g,9,none⟩ (.int .i64 x)) g { st with scope:=x }:=h.set _ 9 _ rfl
def zAz (w:World) (b off:Nat) (ws:List ByteArray):Prop:=∀ i s,ws[i]?=some s→w.cell? ⟨b,off+i,none⟩=some (.string s)
theorem zAz.head {w:World} {b off:Nat} {s:ByteArray} {r:List ByteArray} (h:zAz w b off (s::r)):w.cell? ⟨b,off,none⟩=some (.string s)∧b<w.heap.size∧zAz w b (off+1) r:=by
 have h0:=h 0 s rfl
 refine⟨h0,World.block_lt_of_cell? w _ h0,fun i t ht=>?_⟩
 have:=h (i+1) t (by simpa using ht)
 rw[show off+1+i=off+(i+1) by omega];exact this
theorem zAz.kept {w w':World} {b off:Nat} {ws:List ByteArray} (h:zAz w b off ws) (e:b<w.heap.size→w'.heap[b]?=w.heap[b]?):zAz w' b off ws:=by
 intro i s hs
 have h1:=h i s hs
 rw[World.cell?_of_block (w:=w) (e (World.block_lt_of_cell? w _ h1))];exact h1
theorem zAz.below {w w':World} {b off:Nat} {ws:List ByteArray} (h:zAz w b off ws) (hb:Below w.heap.size w w'):zAz w' b off ws:=h.kept (fun e=>hb.block b e)
theorem zAz.grown {w w':World} {b off g:Nat} {ws:List ByteArray} (h:zAz w b off ws) (hb:w.grownBy w' (some g)) (hne:b≠g):zAz w' b off ws:=h.kept (fun e=>hb.block b e (by simpa using hne))
theorem zAz.set {w:World} {b off g:Nat} {ws:List ByteArray} (h:zAz w b off ws) (hne:b≠g) (i:Nat) (u:Value):zAz (w.setCell ⟨g,i,none⟩ u) b off ws:=h.kept (fun _=>Below.heap_setCell _ _ _ _ hne)
theorem zAz.alloc {w:World} {b off:Nat} {ws:List ByteArray} (h:zAz w b off ws) (o:Obj):zAz (w.alloc o) b off ws:=h.kept (fun e=>Below.heap_alloc _ _ _ e)
theorem zAz.drew {w:World} {b off:Nat} {ws:List ByteArray} (h:zAz w b off ws):zAz w.drew b off ws:=h.kept (fun _=>rfl)
theorem zAz.nil (w:World) (b off:Nat):zAz w b off []:=fun _ _ h=>by simp at h
theorem ceL {w:World} {b:Nat} {t:TypeId} {c:Array Value} (h:w.heap[b]?=some (.cells c t (0,0))) (j:Nat) (v:Value) (hv:c[j]?=some v):w.cell? ⟨b,j,none⟩=some v:=by
 simp only[World.cell?,h];simpa using hv
theorem cfL {B:Nat} {w w' :World} {b j:Nat} {v:Value} (hb:Below B w w') (hl:b<B) (hc:w.cell? ⟨b,j,none⟩=some v):w'.cell? ⟨b,j,none⟩=some v:=(hb.cell (p:=⟨b,j,none⟩) hl).trans hc
end Go.Proofs.YtgceflcbckjjiaaGreatDoor
namespace Go.Proofs.YtgceflcbckjjiaaGreatDoor
namespace P
def zJZ (c:UInt8):List UInt8→List (List UInt8)
 | []=>[[]]
 | x::r=>if x=c then []::zJZ c r else match zJZ c r with
  | h::t=>(x::h)::t
  | []=>[[x]]
theorem zLr (c:UInt8) (l:List UInt8):zJZ c l≠[]:=by
 cases l with
 | nil=>simp[zJZ]
 | cons x r =>
  unfold zJZ
  split
  ·simp
  ·split<;>simp
theorem splitAt_cons_eq (c:UInt8) (r:List UInt8):zJZ c (c::r)=[]::zJZ c r:=by simp[zJZ]
theorem splitAt_cons_ne (c x:UInt8) (r:List UInt8) (h:x≠c) (a:List UInt8) (b:List (List UInt8)) (e:zJZ c r=a::b):zJZ c (x::r)=(x::a)::b:=by simp[zJZ,h,e]
theorem zLt (c x:UInt8) (l:List UInt8):∀ (a:List (List UInt8)) (b:List UInt8),zJZ c l=a++[b]→zJZ c (l++[x])=if x=c then a++[b,[]] else a++[b++[x]]:=by
 induction l with
 | nil =>
  intro a b h
  simp[zJZ] at h
  have:a=[]∧b=[]:=by
   cases a with
   | nil=>simpa using h
   | cons p q=>simp at h
  obtain⟨rfl,rfl⟩:=this
  by_cases hx:x=c<;>simp[zJZ,hx]
 | cons y r ih =>
  intro a b h
  by_cases hy:y=c
  ·subst hy
   rw[splitAt_cons_eq] at h
   cases a with
   | nil =>
    simp at h
    exact absurd h.2 (zLr _ _)
   | cons p q =>
    simp at h
    obtain⟨rfl,h⟩:=h
    have:=ih q b h
    rw[List.cons_append,splitAt_cons_eq,this]
    split<;>simp
  ·cases hs:zJZ c r with
   | nil=>exact absurd hs (zLr _ _)
   | cons p q =>
    rw[splitAt_cons_ne c y r hy p q hs] at h
    rw[List.cons_append]
    cases a with
    | nil =>
     simp at h
     obtain⟨rfl,rfl⟩:=h
     have:=ih [] p (by simpa using hs)
     by_cases hx:x=c
     ·rw[if_pos hx] at this ⊢
      rw[splitAt_cons_ne c y _ hy p [[]] (by simpa using this)];simp
     ·rw[if_neg hx] at this ⊢
      rw[splitAt_cons_ne c y _ hy (p++[x]) [] (by simpa using this)];simp
    | cons p' q' =>
     simp at h
     obtain⟨rfl,rfl⟩:=h
     have:=ih (p::q') b (by simpa using hs)
     by_cases hx:x=c
     ·rw[if_pos hx] at this ⊢
      rw[splitAt_cons_ne c y _ hy p (q'++[b,[]]) (by simpa using this)];simp
     ·rw[if_neg hx] at this ⊢
      rw[splitAt_cons_ne c y _ hy p (q'++[b++[x]]) (by simpa using this)];simp
end P
end Go.Proofs.YtgceflcbckjjiaaGreatDoor
