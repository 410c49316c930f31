import Derived.Test.YtkmebkbpfmoeaaaGreatProg
import Derived.Handy
import Derived.Lib.Strings
import Derived.Deep.MidRow
import Derived.Laws.Bits64b
set_option linter.unusedVariables false
set_option linter.unusedSimpArgs false
set_option maxHeartbeats 12800000
namespace Go.Proofs.YtkmebkbpfmoeaaaGreat
namespace P
structure Opd where
 reg:Bool
 n:Int
structure Stm where
 kind:Int
 line:Int
 dest:Int
 var:Int
 a:Opd
 b:Opd
 order:Int
 scope:Int
 label:Int
def Opd.zero:Opd:=⟨false,0⟩
def Stm.zero:Stm:=⟨0,0,0,0,Opd.zero,Opd.zero,0,0,0⟩
def digit (c:UInt8) (n:Int):Int × Bool:=((c.toNat:Int)-48,decide (48≤(c.toNat:Int))&&decide ((c.toNat:Int)-48<n))
def zIn:List UInt8→Int × Bool
 | [c,d]=>if c=114 then digit d 4 else (0,false)
 | _=>(0,false)
def zIz:List UInt8→Opd × Bool
 | [c]=>(⟨false,(digit c 4).1⟩,(digit c 4).2)
 | l=>(⟨true,(zIn l).1⟩,(zIn l).2)
def varOf (l:List UInt8):Int × Bool :=
 if l==[120] then (0,true) else if l==[121] then (1,true) else if l==[122] then (2,true) else (0,false)
def order (l:List UInt8):Int × Bool :=
 if l==[119,101,97,107] then (0,true)
 else if l==[114,101,108,97,120,101,100] then (1,true)
 else if l==[97,99,113,117,105,114,101] then (2,true)
 else if l==[114,101,108,101,97,115,101] then (3,true)
 else if l==[97,99,113,114,101,108] then (4,true)
 else if l==[115,99] then (5,true)
 else (0,false)
def scope (l:List UInt8):Int × Bool :=
 if l==[98,108,111,99,107] then (0,true) else if l==[100,101,118,105,99,101] then (1,true) else (0,false)
def sign (l:List UInt8):Int × Bool :=
 if l==[43] then (7,true) else if l==[45] then (8,true) else if l==[61,61] then (9,true) else (0,false)
def zKu (kind order:Int):Bool :=
 if kind==0 then order==0||order==1||order==2
 else if kind==1 then order==0||order==1||order==3
 else if kind==2||kind==3 then order==1||order==2||order==3||order==4
 else if kind==4 then order==4||order==5
 else false
def reads (kind:Int):Bool:=kind==0||kind==2||kind==3
def zKg (kind:Int):Bool:=kind==1||kind==2||kind==3
def target (st:Stm) (place value:List UInt8):Stm × Bool :=
 if (varOf place).2 then ({ st with var:=(varOf place).1,a:=(zIz value).1 },(zIz value).2) else (st,false)
def zJd (st:Stm):List (List UInt8)→Stm × Bool
 | []=>(st,false)
 | o::r =>
  if (order o).2&&zKu st.kind (order o).1 then
   if (order o).1==0 then ({ st with order:=0 },r.isEmpty)
   else match r with
    | [s]=>({ st with order:=(order o).1,scope:=(scope s).1 },(scope s).2)
    | _=>({ st with order:=(order o).1 },false)
  else (st,false)
theorem ordering_no1 (st:Stm) (o:List UInt8) (r:List (List UInt8)) (h:(order o).2=false):zJd st (o::r)=(st,false):=by simp[zJd,h]
theorem ordering_no2 (st:Stm) (o:List UInt8) (r:List (List UInt8)) (h:zKu st.kind (order o).1=false):zJd st (o::r)=(st,false):=by simp[zJd,h]
theorem ordering_weak (st:Stm) (o:List UInt8) (r:List (List UInt8)) (h:(order o).2=true) (h2:zKu st.kind (order o).1=true) (h3:(order o).1=0):zJd st (o::r)=({ st with order:=0 },r.isEmpty):=by
 rw[h3] at h2;simp[zJd,h,h2,h3]
theorem ordering_short (st:Stm) (o:List UInt8) (h:(order o).2=true) (h2:zKu st.kind (order o).1=true) (h3:((order o).1==0)=false):zJd st [o]=({ st with order:=(order o).1 },false):=by
 simp[zJd,h,h2,h3]
theorem ordering_two (st:Stm) (o s:List UInt8) (h:(order o).2=true) (h2:zKu st.kind (order o).1=true) (h3:((order o).1==0)=false):zJd st [o,s]=({ st with order:=(order o).1,scope:=(scope s).1 },(scope s).2):=by
 simp[zJd,h,h2,h3]
theorem ordering_long (st:Stm) (o s t:List UInt8) (q:List (List UInt8)) (h:(order o).2=true) (h2:zKu st.kind (order o).1=true) (h3:((order o).1==0)=false):zJd st (o::s::t::q)=({ st with order:=(order o).1 },false):=by
 simp[zJd,h,h2,h3]
def load (st:Stm):List (List UInt8)→Stm × Bool
 | []=>(st,false)
 | v::r=>if (varOf v).2 then zJd { st with kind:=0,var:=(varOf v).1 } r else (st,false)
def step (st:Stm) (kind:Int):List (List UInt8)→Stm × Bool
 | p::v::r=>let t:=target { st with kind:=kind } p v
  if t.2 then zJd t.1 r else (t.1,false)
 | _=>(st,false)
def sum (st:Stm):List (List UInt8)→Stm × Bool
 | [a]=>if (zIz a).2 then ({ st with kind:=6,a:=(zIz a).1 },true) else (st,false)
 | [a,s,b] =>
  if (zIz a).2 then
   if (sign s).2 then ({ st with kind:=(sign s).1,a:=(zIz a).1,b:=(zIz b).1 },(zIz b).2)
   else ({ st with kind:=6,a:=(zIz a).1 },false)
  else (st,false)
 | _=>(st,false)
theorem load_no (st:Stm) (v:List UInt8) (r:List (List UInt8)) (h:(varOf v).2=false):load st (v::r)=(st,false):=by simp[load,h]
theorem load_yes (st:Stm) (v:List UInt8) (r:List (List UInt8)) (h:(varOf v).2=true):load st (v::r)=zJd { st with kind:=0,var:=(varOf v).1 } r:=by simp[load,h]
theorem step_no (st:Stm) (k:Int) (p v:List UInt8) (r:List (List UInt8)) (h:(target { st with kind:=k } p v).2=false):step st k (p::v::r)=((target { st with kind:=k } p v).1,false):=by simp[step,h]
theorem step_yes (st:Stm) (k:Int) (p v:List UInt8) (r:List (List UInt8)) (h:(target { st with kind:=k } p v).2=true):step st k (p::v::r)=zJd (target { st with kind:=k } p v).1 r:=by simp[step,h]
theorem zKF (st:Stm) (a:List UInt8) (r:List (List UInt8)) (h:(zIz a).2=false):sum st (a::r)=(st,false):=by
 match r with
 | []=>simp[sum,h]
 | [_]=>simp[sum]
 | [_,_]=>simp[sum,h]
 | _::_::_::_=>simp[sum]
theorem sum_one (st:Stm) (a:List UInt8) (h:(zIz a).2=true):sum st [a]=({ st with kind:=6,a:=(zIz a).1 },true):=by simp[sum,h]
theorem sum_sign (st:Stm) (a s b:List UInt8) (h:(zIz a).2=true) (h2:(sign s).2=false):sum st [a,s,b]=({ st with kind:=6,a:=(zIz a).1 },false):=by simp[sum,h,h2]
theorem sum_all (st:Stm) (a s b:List UInt8) (h:(zIz a).2=true) (h2:(sign s).2=true):sum st [a,s,b]=({ st with kind:=(sign s).1,a:=(zIz a).1,b:=(zIz b).1 },(zIz b).2):=by simp[sum,h,h2]
theorem sum_len (st:Stm) (l:List (List UInt8)) (h1:¬ l.length=1) (h3:¬ l.length=3):sum st l=(st,false):=by
 match l with
 | []=>rfl
 | [_]=>simp at h1
 | [_,_]=>rfl
 | [_,_,_]=>simp at h3
 | _::_::_::_::_=>rfl
def zIt:List (List UInt8)→Stm × Bool
 | d::e::c::r =>
  if e==[61] then
   if (zIn d).2 then
    if c==[108,111,97,100] then load { Stm.zero with dest:=(zIn d).1 } r
    else if c==[97,100,100] then step { Stm.zero with dest:=(zIn d).1 } 2 r
    else if c==[115,119,97,112] then step { Stm.zero with dest:=(zIn d).1 } 3 r
    else sum { Stm.zero with dest:=(zIn d).1 } (c::r)
   else (Stm.zero,false)
  else (Stm.zero,false)
 | _=>(Stm.zero,false)
def store:List (List UInt8)→Stm × Bool
 | _::p::v::r=>let t:=target { Stm.zero with kind:=1 } p v
  if t.2 then zJd t.1 r else (Stm.zero,false)
 | _=>(Stm.zero,false)
def fence:List (List UInt8)→Stm × Bool
 | _::r=>zJd { Stm.zero with kind:=4 } r
 | _=>(Stm.zero,false)
def zJF:List (List UInt8)→Stm × Bool
 | [_,a]=>({ Stm.zero with kind:=10,a:=(zIz a).1 },(zIz a).2)
 | _=>(Stm.zero,false)
def zIu:List (List UInt8)→Stm × Bool
 | []=>(Stm.zero,false)
 | c::r =>
  if c==[115,116,111,114,101] then store (c::r)
  else if c==[102,101,110,99,101] then fence (c::r)
  else if c==[98,97,114,114,105,101,114] then ({ Stm.zero with kind:=5 },r.isEmpty)
  else if c==[105,102] then zJF (c::r)
  else if c==[101,110,100] then ({ Stm.zero with kind:=11 },r.isEmpty)
  else zIt (c::r)
end P
end Go.Proofs.YtkmebkbpfmoeaaaGreat
namespace Go.Proofs.YtkmebkbpfmoeaaaGreat
open Go Go.RowKit
set_option maxRecDepth 100000
theorem zDl (c n:Int) (w:World) (hc:0≤c) (hc2:c<256) :
  Calls Tryz.prog 93 #[.int .u8 c,.int .i64 n] w fun e w'=>e=.returned (.tuple #[.int .i64 (c-48),.bool (decide (48≤c)&&decide (c-48<n))])∧w'=w:=by
 go_enter Tryz.func93,Tryz.ntmps93
 go_wp2
 all_goals go_ret2
 all_goals simp[*]
 all_goals omega
theorem zBC (s:ByteArray) (w:World) :
  Calls Tryz.prog 129 #[.string s] w fun e w'=>e=.returned (.tuple #[.int .i64 (P.varOf s.toList).1,.bool (P.varOf s.toList).2])∧w'=w:=by
 go_enter Tryz.func129,Tryz.ntmps129
 go_wp2
 all_goals go_ret2
 all_goals simp[P.varOf, *]
theorem zBR (s:ByteArray) (w:World) :
  Calls Tryz.prog 130 #[.string s] w fun e w'=>e=.returned (.tuple #[.int .i64 (P.order s.toList).1,.bool (P.order s.toList).2])∧w'=w:=by
 go_enter Tryz.func130,Tryz.ntmps130
 go_wp2
 all_goals go_ret2
 all_goals simp[P.order, *]
theorem zBS (s:ByteArray) (w:World) :
  Calls Tryz.prog 132 #[.string s] w fun e w'=>e=.returned (.tuple #[.int .i64 (P.scope s.toList).1,.bool (P.scope s.toList).2])∧w'=w:=by
 go_enter Tryz.func132,Tryz.ntmps132
 go_wp2
 all_goals go_ret2
 all_goals simp[P.scope, *]
theorem zFo (s:ByteArray) (w:World) :
  Calls Tryz.prog 133 #[.string s] w fun e w'=>e=.returned (.tuple #[.int .i64 (P.sign s.toList).1,.bool (P.sign s.toList).2])∧w'=w:=by
 go_enter Tryz.func133,Tryz.ntmps133
 go_wp2
 all_goals go_ret2
 all_goals simp[P.sign, *]
theorem zBG (k o:Int) (w:World) :
  Calls Tryz.prog 131 #[.int .i64 k,.int .i64 o] w fun e w'=>e=.returned (.bool (P.zKu k o))∧w'=w:=by
 go_enter Tryz.func131,Tryz.ntmps131
 go_wp2
 all_goals go_ret
 all_goals simp[P.zKu, *]
theorem zDm (k:Int) (w:World) :
  Calls Tryz.prog 44 #[.int .i64 k] w fun e w'=>e=.returned (.bool (P.reads k))∧w'=w:=by
 go_enter Tryz.func44,Tryz.ntmps44
 go_wp2
 all_goals go_ret
 all_goals simp[P.reads, *]
theorem zFJ (k:Int) (w:World) :
  Calls Tryz.prog 45 #[.int .i64 k] w fun e w'=>e=.returned (.bool (P.zKg k))∧w'=w:=by
 go_enter Tryz.func45,Tryz.ntmps45
 go_wp2
 all_goals go_ret
 all_goals simp[P.zKg, *]
theorem zAN (s:ByteArray):s.toList=s.data.toList:=ByteArray.toList_eq s
theorem zAB (s:ByteArray):s.toList.length=s.size:=by rw[zAN];rfl
theorem zDI (s:ByteArray) (h:s.size=1):s.toList=[s[0]]:=by
 rw[zAN]
 rcases s with ⟨⟨l⟩⟩
 match l,h with
 | [a],_=>rfl
theorem zFK (s:ByteArray) (h:s.size=2):s.toList=[s[0],s[1]]:=by
 rw[zAN]
 rcases s with ⟨⟨l⟩⟩
 match l,h with
 | [a,b],_=>rfl
theorem zIb (a:UInt8) (n:Nat) (hn:n<256):((a.toNat:Int)==(n:Int))=(a==UInt8.ofNat n):=by
 rw[Bool.eq_iff_iff];simp[← UInt8.toNat_inj];omega
theorem zEf (s:ByteArray) (h:s.size=2):P.zIn s.toList=if ((s[0].toNat:Int) != 114)=true then (0,false) else P.digit s[1] 4:=by
 rw[zFK s h]
 have e:((s[0].toNat:Int) != 114)=(s[0] != 114):=by
  have:=zIb s[0] 114 (by omega)
  simp only[bne];exact congrArg (!·) this
 rw[e]
 by_cases h1:s[0]=114<;>simp[P.zIn,h1]
theorem zEJ (s:ByteArray) (h:¬ s.size=2):P.zIn s.toList=(0,false):=by
 have:=zAB s
 unfold P.zIn
 split
 ·simp_all
 ·rfl
theorem zAY (s:ByteArray) (w:World) :
  Calls Tryz.prog 115 #[.string s] w fun e w'=>e=.returned (.tuple #[.int .i64 (P.zIn s.toList).1,.bool (P.zIn s.toList).2])∧w'=w:=by
 by_cases h2:s.size=2
 ·have H:=zEf s h2
  have hb:s[1].toNat<256:=UInt8.toNat_lt _
  go_enter Tryz.func115,Tryz.ntmps115
  go_wp2_with (go_at_call 93;refine (zDl _ _ _ (by omega) (by omega)).mono ?_;rintro e w' ⟨rfl,rfl⟩)
  all_goals go_ret2
  all_goals simp[P.digit, *]
 ·have H:=zEJ s h2
  go_enter Tryz.func115,Tryz.ntmps115
  go_wp2
  go_ret2
  simp[*]
theorem zEK (s:ByteArray) (h:s.size=1):P.zIz s.toList=(⟨false,(P.digit s[0] 4).1⟩,(P.digit s[0] 4).2):=by
 rw[zDI s h];rfl
theorem zFL (s:ByteArray) (h:¬ s.size=1):P.zIz s.toList=(⟨true,(P.zIn s.toList).1⟩,(P.zIn s.toList).2):=by
 have:=zAB s
 unfold P.zIz
 split
 ·simp_all
 ·rfl
theorem zBf (s:ByteArray) (w:World) :
  Calls Tryz.prog 114 #[.string s] w fun e w'=>e=.returned (.tuple #[.agg #[.bool (P.zIz s.toList).1.reg,.int .i64 (P.zIz s.toList).1.n],.bool (P.zIz s.toList).2])∧Below w.heap.size w w':=by
 by_cases h2:s.size=1
 ·have H:=zEK s h2
  have hb:s[0].toNat<256:=UInt8.toNat_lt _
  go_enter Tryz.func114,Tryz.ntmps114
  go_wp2_with (go_at_call 93;refine (zDl _ _ _ (by omega) (by omega)).mono ?_;rintro e w' ⟨rfl,rfl⟩)
  go_returns
  exact⟨by simp[H,P.digit],by go_grown⟩
 ·have H:=zFL s h2
  go_enter Tryz.func114,Tryz.ntmps114
  go_wp2_with (go_at_call 115;refine (zAY _ _).mono ?_;rintro e w' ⟨rfl,rfl⟩)
  go_returns
  exact⟨by simp[H],by go_grown⟩
theorem zAa {p:Prop} (h:p):Hid p:=h
theorem zAC {p:Prop} (h:Hid p):p:=h
theorem zAA (w:World) (r:Option Nat):w.grownBy w r:=⟨rfl,rfl,rfl,Nat.le_refl _,fun _ _ _=>rfl⟩
theorem zAR {a b c:World} {r:Option Nat} (h:a.grownBy b r) (k:b.grownBy c r):a.grownBy c r :=
 ⟨k.os.trans h.os,k.tape.trans h.tape,k.output.trans h.output,Nat.le_trans h.size k.size,fun i hi hr=>(k.block i (Nat.lt_of_lt_of_le hi h.size) hr).trans (h.block i hi hr)⟩
theorem zBr {a w:World} {r:Option Nat} (h:a.grownBy w r) (o:Obj):a.grownBy (w.alloc o) r:=zAR h (World.grownBy_alloc _ _ _)
theorem zBT {a w:World} {r:Option Nat} (h:a.grownBy w r):a.grownBy w.drew r:=⟨h.os,h.tape,h.output,h.size,h.block⟩
theorem zGk {w w':World} {r:Option Nat} (h:w.drew.grownBy w' r):w.grownBy w' r:=⟨h.os,h.tape,h.output,h.size,h.block⟩
theorem zAj {a w:World} {g:Nat} (h:a.grownBy w (some g)) (i:Nat) (u:Value):a.grownBy (w.setCell ⟨g,i,none⟩ u) (some g) :=
 zAR h ⟨rfl,rfl,rfl,by simp[World.setCell],fun k _ hr=>Below.heap_setCell _ _ _ _ (fun e=>hr (by rw[e]))⟩
theorem zAZ {w w':World} (h:Below w.heap.size w w') (r:Option Nat):w.grownBy w' r:=⟨h.os,h.tape,h.output,h.size,fun k hk _=>h.block k hk⟩
theorem zAs {w w1 w':World} {g:Nat} (h:Below w.heap.size w w1) (k:w1.grownBy w' (some g)) (hg:w.heap.size≤g):Below w.heap.size w w' :=
 h.trans ⟨k.os,k.tape,k.output,k.size,fun i hi=>k.block i (Nat.lt_of_lt_of_le hi h.size) (by simp;omega)⟩
theorem zAf {w:World} {g:Nat} {cur:Array Value} {e:TypeId} {fr:Nat × Nat} (h:w.heap[g]?=some (.cells cur e fr)) (i:Nat) (u:Value) :
  (w.setCell ⟨g,i,none⟩ u).heap[g]?=some (.cells (cur.setIfInBounds i u) e fr):=by
 simp only[World.setCell,Array.getElem?_modify]
 simp[h]
theorem zAh {w:World} {g i b o:Nat} {u:Value} (h:b≠g):(w.setCell ⟨g,i,none⟩ u).cell? ⟨b,o,none⟩=w.cell? ⟨b,o,none⟩ :=
 World.cell?_of_block (w:=w) (a:=⟨b,o,none⟩) (Below.heap_setCell _ _ _ _ h)
def zAd (st:P.Stm):Array Value:=#[.int .i64 st.kind,.int .i64 st.line,.int .i64 st.dest,.int .i64 st.var,.bool st.a.reg,.int .i64 st.a.n,.bool st.b.reg,.int .i64 st.b.n,.int .i64 st.order,.int .i64 st.scope,.int .i64 st.label]
def zAu (w:World) (g:Nat) (st:P.Stm):Prop:=w.heap[g]?=some (.cells (zAd st) 97 (0,0))
theorem zAu.lt {w:World} {g:Nat} {st:P.Stm} (h:zAu w g st):g<w.heap.size:=(Array.getElem?_eq_some_iff.1 h).1
theorem zAu.cell {w:World} {g:Nat} {st:P.Stm} (h:zAu w g st) (i:Nat):w.cell? ⟨g,i,none⟩=(zAd st)[i]?:=by
 unfold zAu at h
 simp[World.cell?,h]
theorem zAu.free {w:World} {g:Nat} {st:P.Stm} (h:zAu w g st) (i:Nat):w.frozen? ⟨g,i,none⟩=false:=by
 unfold zAu at h
 simp[World.frozen?,h]
theorem zAu.facts {w:World} {g:Nat} {st:P.Stm} (h:zAu w g st):g<w.heap.size∧(∀ i,w.frozen? ⟨g,i,none⟩=false) ∧
  w.cell? ⟨g,0,none⟩=some (.int .i64 st.kind)∧w.cell? ⟨g,1,none⟩=some (.int .i64 st.line)∧w.cell? ⟨g,2,none⟩=some (.int .i64 st.dest)∧w.cell? ⟨g,3,none⟩=some (.int .i64 st.var) ∧
  w.cell? ⟨g,4,none⟩=some (.bool st.a.reg)∧w.cell? ⟨g,5,none⟩=some (.int .i64 st.a.n)∧w.cell? ⟨g,6,none⟩=some (.bool st.b.reg)∧w.cell? ⟨g,7,none⟩=some (.int .i64 st.b.n) ∧
  w.cell? ⟨g,8,none⟩=some (.int .i64 st.order)∧w.cell? ⟨g,9,none⟩=some (.int .i64 st.scope)∧w.cell? ⟨g,10,none⟩=some (.int .i64 st.label) :=
 ⟨h.lt,h.free,h.cell 0,h.cell 1,h.cell 2,h.cell 3,h.cell 4,h.cell 5,h.cell 6,h.cell 7,h.cell 8,h.cell 9,h.cell 10⟩
theorem zAu.there {w:World} {g:Nat} {st:P.Stm} (h:zAu w g st):g<w.heap.size∧(∀ i,w.frozen? ⟨g,i,none⟩=false) ∧
  w.cell? ⟨g,0,none⟩=some (.int .i64 st.kind)∧w.cell? ⟨g,1,none⟩=some (.int .i64 st.line)∧w.cell? ⟨g,2,none⟩=some (.int .i64 st.dest)∧w.cell? ⟨g,3,none⟩=some (.int .i64 st.var) ∧
  w.cell? ⟨g,4,none⟩=some (.bool st.a.reg)∧w.cell? ⟨g,5,none⟩=some (.int .i64 st.a.n)∧w.cell? ⟨g,6,none⟩=some (.bool st.b.reg)∧w.cell? ⟨g,7,none⟩=some (.int .i64 st.b.n) ∧
  w.cell? ⟨g,8,none⟩=some (.int .i64 st.order)∧w.cell? ⟨g,9,none⟩=some (.int .i64 st.scope)∧w.cell? ⟨g,10,none⟩=some (.int .i64 st.label):=h.facts
theorem zAu.of_block {w w':World} {g:Nat} {st:P.Stm} (h:zAu w g st) (e:w'.heap[g]?=w.heap[g]?):zAu w' g st:=by
 unfold zAu at *;rw[e];exact h
theorem zAu.below {w w':World} {g:Nat} {st:P.Stm} (h:zAu w g st) (hb:Below w.heap.size w w'):zAu w' g st:=h.of_block (hb.block g h.lt)
theorem zAu.alloc {w:World} {g:Nat} {st:P.Stm} (h:zAu w g st) (o:Obj):zAu (w.alloc o) g st:=h.of_block (Below.heap_alloc _ _ _ h.lt)
theorem zAu.drew {w:World} {g:Nat} {st:P.Stm} (h:zAu w g st):zAu w.drew g st:=h
theorem zAu.set {w:World} {g:Nat} {st:P.Stm} (st':P.Stm) (h:zAu w g st) (i:Nat) (u:Value) (e:(zAd st).setIfInBounds i u=zAd st'):zAu (w.setCell ⟨g,i,none⟩ u) g st':=by
 unfold zAu at *
 rw[zAf h,e]
theorem zAu.new (w:World) (st:P.Stm):zAu (w.alloc (.cells (zAd st) 97)) w.heap.size st:=by
 unfold zAu;exact heap_alloc_new w _
theorem zAu.setKind {w:World} {g:Nat} {st:P.Stm} (h:zAu w g st) (x:Int):zAu (w.setCell ⟨g,0,none⟩ (.int .i64 x)) g { st with kind:=x }:=h.set _ 0 _ rfl
theorem zAu.setVar {w:World} {g:Nat} {st:P.Stm} (h:zAu w g st) (x:Int):zAu (w.setCell ⟨g,3,none⟩ (.int .i64 x)) g { st with var:=x }:=h.set _ 3 _ rfl
theorem zAu.setA {w:World} {g:Nat} {st:P.Stm} (h:zAu w g st) (x:P.Opd):zAu ((w.setCell ⟨g,4,none⟩ (.bool x.reg)).setCell ⟨g,5,none⟩ (.int .i64 x.n)) g { st with a:=x } :=
 (h.set { st with a:=⟨x.reg,st.a.n⟩ } 4 _ rfl).set _ 5 _ rfl
theorem zAu.setB {w:World} {g:Nat} {st:P.Stm} (h:zAu w g st) (x:P.Opd):zAu ((w.setCell ⟨g,6,none⟩ (.bool x.reg)).setCell ⟨g,7,none⟩ (.int .i64 x.n)) g { st with b:=x } :=
 (h.set { st with b:=⟨x.reg,st.b.n⟩ } 6 _ rfl).set _ 7 _ rfl
theorem zAu.setOrder {w:World} {g:Nat} {st:P.Stm} (h:zAu w g st) (x:Int):zAu (w.setCell ⟨g,8,none⟩ (.int .i64 x)) g { st with order:=x }:=h.set _ 8 _ rfl
theorem zAu.setScope {w:World} {g:Nat} {st:P.Stm} (h:zAu w g st) (x:Int):zAu (w.setCell ⟨g,9,none⟩ (.int .i64 x)) g { st with scope:=x }:=h.set _ 9 _ rfl
def zAt (w:World) (b off:Nat) (ws:List ByteArray):Prop:=∀ i s,ws[i]?=some s→w.cell? ⟨b,off+i,none⟩=some (.string s)
theorem zAt.head {w:World} {b off:Nat} {s:ByteArray} {r:List ByteArray} (h:zAt w b off (s::r)):w.cell? ⟨b,off,none⟩=some (.string s)∧b<w.heap.size∧zAt w b (off+1) r:=by
 have h0:=h 0 s rfl
 refine⟨h0,World.block_lt_of_cell? w _ h0,fun i t ht=>?_⟩
 have:=h (i+1) t (by simpa using ht)
 rw[show off+1+i=off+(i+1) by omega];exact this
theorem zAt.kept {w w':World} {b off:Nat} {ws:List ByteArray} (h:zAt w b off ws) (e:b<w.heap.size→w'.heap[b]?=w.heap[b]?):zAt w' b off ws:=by
 intro i s hs
 have h1:=h i s hs
 rw[World.cell?_of_block (w:=w) (e (World.block_lt_of_cell? w _ h1))];exact h1
theorem zAt.below {w w':World} {b off:Nat} {ws:List ByteArray} (h:zAt w b off ws) (hb:Below w.heap.size w w'):zAt w' b off ws:=h.kept (fun e=>hb.block b e)
theorem zAt.grown {w w':World} {b off g:Nat} {ws:List ByteArray} (h:zAt w b off ws) (hb:w.grownBy w' (some g)) (hne:b≠g):zAt w' b off ws:=h.kept (fun e=>hb.block b e (by simpa using hne))
theorem zAt.set {w:World} {b off g:Nat} {ws:List ByteArray} (h:zAt w b off ws) (hne:b≠g) (i:Nat) (u:Value):zAt (w.setCell ⟨g,i,none⟩ u) b off ws:=h.kept (fun _=>Below.heap_setCell _ _ _ _ hne)
theorem zAt.alloc {w:World} {b off:Nat} {ws:List ByteArray} (h:zAt w b off ws) (o:Obj):zAt (w.alloc o) b off ws:=h.kept (fun e=>Below.heap_alloc _ _ _ e)
theorem zAt.drew {w:World} {b off:Nat} {ws:List ByteArray} (h:zAt w b off ws):zAt w.drew b off ws:=h.kept (fun _=>rfl)
theorem zAt.nil (w:World) (b off:Nat):zAt w b off []:=fun _ _ h=>by simp at h
theorem ceL {w:World} {b:Nat} {t:TypeId} {c:Array Value} (h:w.heap[b]?=some (.cells c t (0,0))) (j:Nat) (v:Value) (hv:c[j]?=some v):w.cell? ⟨b,j,none⟩=some v:=by
 simp only[World.cell?,h];simpa using hv
theorem cfL {B:Nat} {w w' :World} {b j:Nat} {v:Value} (hb:Below B w w') (hl:b<B) (hc:w.cell? ⟨b,j,none⟩=some v):w'.cell? ⟨b,j,none⟩=some v:=(hb.cell (p:=⟨b,j,none⟩) hl).trans hc
def zBJ (cur:Array Value) (o:Nat):List Value→Array Value
 | []=>cur
 | v::r=>zBJ (cur.setIfInBounds o v) (o+1) r
theorem zBo {g:Nat} {e:TypeId} {fr:Nat × Nat}:∀ (vs:List Value) (o:Nat) (w:World) (cur:Array Value),w.heap[g]?=some (.cells cur e fr)→(w.setCells g o vs).heap[g]?=some (.cells (zBJ cur o vs) e fr)
 | [],_,_,_,h=>h
 | v::r,o,w,cur,h=>by
  rw[World.setCells]
  exact zBo r (o+1) _ _ (zAf h o v)
theorem zBO {g:Nat}:∀ (vs:List Value) (o:Nat) (w:World),w.grownBy (w.setCells g o vs) (some g)
 | [],_,w=>zAA w _
 | v::r,o,w=>by
  rw[World.setCells]
  exact zAR (zAj (zAA _ _) _ _) (zBO r (o+1) _)
theorem zDU (vs:List Value):∀ (o:Nat) (cur:Array Value),(zBJ cur o vs).size=cur.size:=by
 induction vs with
 | nil=>intro o cur;rfl
 | cons v r ih=>intro o cur;rw[zBJ,ih];simp
theorem zCU (vs:List Value):∀ (o:Nat) (cur:Array Value) (j:Nat),o+vs.length≤cur.size→(zBJ cur o vs)[j]?=if o≤j∧j<o+vs.length then vs[j-o]? else cur[j]?:=by
 induction vs with
 | nil=>intro o cur j _;simp[zBJ];omega
 | cons v r ih =>
  intro o cur j h
  simp at h
  rw[zBJ,ih _ _ _ (by simp;omega)]
  by_cases h1:o=j
  ·subst h1
   rw[if_neg (by omega),if_pos (by simp)]
   simp[Array.getElem?_setIfInBounds];omega
  ·by_cases h2:o+1≤j∧j<o+1+r.length
   ·rw[if_pos h2,if_pos (by simp;omega)]
    rw[show j-o=(j-(o+1))+1 by omega];simp
   ·rw[if_neg h2,if_neg (by simp;omega)]
    simp[h1]
theorem zCV (cur new:Array Value) (h:cur.size=new.size):zBJ cur 0 new.toList=new:=by
 apply Array.ext_getElem?
 intro j
 rw[zCU _ _ _ _ (by simp;omega)]
 by_cases h1:j<new.size
 ·rw[if_pos (by simp;omega)];simp
 ·rw[if_neg (by simp;omega),Array.getElem?_eq_none (by omega),Array.getElem?_eq_none (by omega)]
theorem zBP {w:World} {g:Nat} {cs:Array Value} {e:TypeId} (hg:w.heap[g]?=some (.cells cs e (0,0))):w.rangeAt g 0 cs.toList:=by
 intro j v hv
 simp[World.cell?,hg]
 simpa using hv
theorem zCs {w:World} {g:Nat} {cs:Array Value} {e:TypeId} (hg:w.heap[g]?=some (.cells cs e (0,0))) (n:Nat) (hn:n≤cs.size):w.there g 0 n:=by
 intro j hj
 simp[World.cell?,World.frozen?,hg]
 omega
variable {Pg:Program}
theorem zBi (w:World) (g:Nat) (ty:TypeId) (cs:Array Value) (e:TypeId) (hg:w.heap[g]?=some (.cells cs e (0,0))) (d:TypeDesc) (hu:Pg.underlying ty=some d) (hd:d.isRow=true) (hi:(Pg.info? ty).map (·.size)=some cs.size) :
  (loadVar ty ⟨g,0,none⟩).run Pg w=.ok (.agg cs) w:=by
 have:=run_loadVar_mid (P:=Pg) w g 0 ty cs.toList d (zBP hg) hu hd (by simpa using hi)
 simpa using this
theorem zCh {ops:Array Oper} {rest:List Oper} {op:Oper} {a:Act} {w:World} {Q:Exit→Act→World→Prop} (hgd:op.guard=none) (ty:TypeId) (x:Operand) (ho:op.op=.load ty x)
  (g:Nat) (hx:a.eval x=.pointer (some ⟨g,0,none⟩)) (cs:Array Value) (e:TypeId) (hg:w.heap[g]?=some (.cells cs e (0,0))) (d:TypeDesc)
  (hu:Pg.underlying ty=some d) (hd:d.isRow=true) (hi:(Pg.info? ty).map (·.size)=some cs.size)
  (h:wpList Pg ops Q rest (a.put op.dst (.agg cs)) w):wpList Pg ops Q (op::rest) a w :=
 wpList_load_mid hgd ty x ho g 0 hx cs.toList d (zBP hg) hu hd (by simpa using hi) (by simpa using h)
theorem zCg {ops:Array Oper} {rest:List Oper} {op:Oper} {a:Act} {w:World} {Q:Exit→Act→World→Prop} (hgd:op.guard=none) (ty:TypeId) (x y:Operand) (ho:op.op=.store ty x y)
  (g:Nat) (cells cs:Array Value) (e:TypeId) (hx:a.eval x=.pointer (some ⟨g,0,none⟩)) (hy:a.eval y=.agg cells) (hg:w.heap[g]?=some (.cells cs e (0,0))) (hsz:cs.size=cells.size)
  (hi:(Pg.info? ty).map (·.size)=some cells.size) (h1:cells.all (·.oneCell')=true)
  (h:∀ w',w'.heap[g]?=some (.cells cells e (0,0))→w.grownBy w' (some g)→wpList Pg ops Q rest (a.put op.dst undef) w'):wpList Pg ops Q (op::rest) a w:=by
 refine wpList_store_mid hgd ty x y ho g 0 cells hx hy (zCs hg _ (by omega)) hi h1 ?_
 have hb:=zBo cells.toList 0 w cs hg
 rw[zCV cs cells hsz] at hb
 exact h _ hb (zBO _ _ _)
theorem zAy {ops:Array Oper} {rest:List Oper} {op:Oper} {a:Act} {w:World} {Q:Exit→Act→World→Prop} (x:Operand) (hgd:op.guard=none) (ho:op.op=.load 97 x)
  (g:Nat) (st:P.Stm) (hx:a.eval x=.pointer (some ⟨g,0,none⟩)) (hg:zAu w g st)
  (h:wpList Tryz.prog ops Q rest (a.put op.dst (.agg (zAd st))) w):wpList Tryz.prog ops Q (op::rest) a w :=
 zCh hgd _ x ho g hx _ _ hg _ Tryz.underlying97 rfl (by kernel_rfl) h
theorem zAk {ops:Array Oper} {rest:List Oper} {op:Oper} {a:Act} {w:World} {Q:Exit→Act→World→Prop} (x y:Operand) (hgd:op.guard=none) (ho:op.op=.store 97 x y)
  (g:Nat) (st t:P.Stm) (hx:a.eval x=.pointer (some ⟨g,0,none⟩)) (hy:a.eval y=.agg (zAd t)) (hg:zAu w g st)
  (h:∀ w',zAu w' g t→w.grownBy w' (some g)→wpList Tryz.prog ops Q rest (a.put op.dst undef) w'):wpList Tryz.prog ops Q (op::rest) a w :=
 zCg hgd _ x y ho g (zAd t) (zAd st) _ hx hy hg rfl (by kernel_rfl) (by simp[zAd,Value.oneCell']) h
theorem zFp {w:World} {g:Nat} {st:P.Stm} (h:zAu w g st):(loadVar 97 ⟨g,0,none⟩).run Tryz.prog w=.ok (.agg (zAd st)) w :=
 zBi w g _ _ _ h _ Tryz.underlying97 rfl (by kernel_rfl)
def zBU (r:P.Stm × Bool):Value:=.tuple #[.agg (zAd r.1),.bool r.2]
theorem zAV {fn:Func} {R:Ending→World→Prop} {a:Act} {w:World} {p u:Tmp} (g:Nat) (st:P.Stm) (ok:Bool) (hres:fn.results=#[.cell p 97,.tmp u])
  (hp:a.tmps.getD p undef=.pointer (some ⟨g,0,none⟩)) (hu:a.tmps.getD u undef=.bool ok) (h:zAu w g st) (hd:a.defers=[]) (hR:R (.returned (zBU (st,ok))) w):bodyPost Tryz.prog fn R .ret a w:=by
 refine bodyPost_ret (v:=zBU (st,ok)) ?_ hd hR
 rw[results_cell_tmp hres,hp,hu]
 have:(asAddr (.pointer (some ⟨g,0,none⟩))).run Tryz.prog w=.ok ⟨g,0,none⟩ w:=rfl
 rw[this,Result.andThen_ok,zFp h,Result.andThen_ok]
 rfl
end Go.Proofs.YtkmebkbpfmoeaaaGreat
namespace Go.Proofs.YtkmebkbpfmoeaaaGreat
namespace Q
def one (i:Int):Nat:=if i<0∨64≤i then 0 else 2 ^ i.toNat
def hasS (s:Nat) (i:Int):Bool:=(s &&& one i) != 0
def moved (s:Nat) (n:Int):Nat:=if n<0∨64≤n then 0 else s*2 ^ n.toNat % 18446744073709551616
def ofR (r:List Nat) (a:Int):Nat:=if a<0 then 0 else r.getD a.toNat 0
def hasR (r:List Nat) (a b:Int):Bool:=hasS (ofR r a) b
def newR (n:Nat):List Nat:=List.replicate n 0
def addR (r:List Nat) (a b:Int):List Nat:=if a<0∨(r.length:Int)≤a∨(r.length:Int)≤b then r else r.set a.toNat (ofR r a ||| one b)
def orR (r o:List Nat):List Nat:=(List.range r.length).map fun i:Nat=>ofR r (i:Int) ||| ofR o (i:Int)
def andR (r o:List Nat):List Nat:=(List.range r.length).map fun i:Nat=>ofR r (i:Int) &&& ofR o (i:Int)
def turnB (r:List Nat) (a:Nat) (t:List Nat) (b:Nat):List Nat:=if hasR r a b then addR t b a else t
def turnA (r:List Nat) (t:List Nat) (a:Nat):List Nat:=(List.range r.length).foldl (turnB r a) t
def zJG (r:List Nat):List Nat:=(List.range r.length).foldl (turnA r) (newR r.length)
def thenB (r next:List Nat) (a:Nat) (acc:Nat) (b:Nat):Nat:=if hasR r a b then acc ||| ofR next b else acc
def thenA (r next:List Nat) (a:Nat):Nat:=(List.range r.length).foldl (thenB r next a) 0
def thenR (r next:List Nat):List Nat:=(List.range r.length).map (thenA r next)
def zJH (b:Nat) (c:List Nat) (a:Nat):List Nat:=if hasR c a b then c.set a (ofR c a ||| ofR c b) else c
def zKv (n:Nat) (c:List Nat) (b:Nat):List Nat:=(List.range n).foldl (zJH b) c
def zJj (r:List Nat):List Nat:=(List.range r.length).foldl (zKv r.length) (orR r r)
def leadsR (r:List Nat):Bool:=r.any fun x=>x != 0
def zIK (r:List Nat):Bool:=(List.range r.length).any fun i:Nat=>hasR r (i:Int) (i:Int)
def zJY (r:List Nat):Bool:=zIK (zJj r)
abbrev M64:Nat:=18446744073709551616
structure Fits (r:List Nat):Prop where
 len:r.length≤64
 lt:∀ x∈r,x<M64
theorem zKw (i:Int):one i<M64:=by
 unfold one
 split
 ·decide
 ·have:i.toNat≤63:=by omega
  exact Nat.lt_of_le_of_lt (Nat.pow_le_pow_right (by omega) this) (by decide)
theorem or_lt {a b:Nat} (ha:a<M64) (hb:b<M64):a ||| b<M64:=Nat.or_lt_two_pow (n:=64) ha hb
theorem and_lt {a b:Nat} (hb:b<M64):a &&& b<M64:=Nat.and_lt_two_pow (n:=64) a hb
theorem moved_lt (s:Nat) (n:Int):moved s n<M64:=by
 unfold moved
 split
 ·decide
 ·exact Nat.mod_lt _ (by decide)
theorem getD_in (r:List Nat) (i:Nat) (h:i<r.length):r.getD i 0=r[i]:=by simp[List.getD,List.getElem?_eq_getElem h]
theorem getD_out (r:List Nat) (i:Nat) (h:r.length≤i):r.getD i 0=0:=by simp[List.getD,List.getElem?_eq_none h]
theorem zIW {r:List Nat} (h:Fits r) (a:Int):ofR r a<M64:=by
 unfold ofR
 split
 ·decide
 ·by_cases hl:a.toNat<r.length
  ·rw[getD_in _ _ hl];exact h.lt _ (List.getElem_mem hl)
  ·rw[getD_out _ _ (by omega)];decide
theorem ofR_nat (r:List Nat) (i:Nat):ofR r (i:Int)=r.getD i 0:=by
 unfold ofR;rw[if_neg (by omega)];rfl
theorem ofR_get (r:List Nat) (i:Nat) (h:i<r.length):ofR r (i:Int)=r[i]:=by
 rw[ofR_nat,getD_in _ _ h]
theorem zKx (r:List Nat) (a:Int) (h:a<0∨(r.length:Int)≤a):ofR r a=0:=by
 unfold ofR
 split
 ·rfl
 ·rw[getD_out _ _ (by omega)]
theorem fits_new (n:Nat) (h:n≤64):Fits (newR n):=⟨by simpa [newR] using h,fun x hx=>by rw[List.eq_of_mem_replicate hx];decide⟩
theorem fits_set {r:List Nat} (h:Fits r) (i x:Nat) (hx:x<M64):Fits (r.set i x) :=
 ⟨by simpa using h.len,fun y hy=>by rcases List.mem_or_eq_of_mem_set hy with hy | rfl;exact h.lt _ hy;exact hx⟩
theorem zIL (r:List Nat) (a b:Int):(addR r a b).length=r.length:=by unfold addR;split<;>simp
theorem zID {r:List Nat} (h:Fits r) (a b:Int):Fits (addR r a b):=by
 unfold addR
 split
 ·exact h
 ·exact fits_set h _ _ (or_lt (zIW h _) (zKw _))
theorem or_len (r o:List Nat):(orR r o).length=r.length:=by simp[orR]
theorem and_len (r o:List Nat):(andR r o).length=r.length:=by simp[andR]
theorem then_len (r o:List Nat):(thenR r o).length=r.length:=by simp[thenR]
theorem fits_or {r o:List Nat} (h:Fits r) (k:Fits o):Fits (orR r o) :=
 ⟨by rw[or_len];exact h.len,fun x hx=>by simp only[orR,List.mem_map] at hx;obtain⟨i,_,rfl⟩:=hx;exact or_lt (zIW h _) (zIW k _)⟩
theorem fits_and {r o:List Nat} (h:Fits r) (k:Fits o):Fits (andR r o) :=
 ⟨by rw[and_len];exact h.len,fun x hx=>by simp only[andR,List.mem_map] at hx;obtain⟨i,_,rfl⟩:=hx;exact and_lt (zIW k _)⟩
theorem thenB_lt {r o:List Nat} (k:Fits o) (a:Nat) (l:List Nat):∀ acc,acc<M64→l.foldl (thenB r o a) acc<M64:=by
 induction l with
 | nil=>intro acc h;exact h
 | cons b q ih =>
  intro acc h
  refine ih _ ?_
  unfold thenB;split
  ·exact or_lt h (zIW k _)
  ·exact h
theorem fits_then {r o:List Nat} (h:Fits r) (k:Fits o):Fits (thenR r o) :=
 ⟨by rw[then_len];exact h.len,fun x hx=>by simp only[thenR,List.mem_map] at hx;obtain⟨i,_,rfl⟩:=hx;exact thenB_lt k _ _ _ (by decide)⟩
theorem zIm {α:Type} (f:α→Nat→α) (x:α) (n:Nat):(List.range (n+1)).foldl f x=f ((List.range n).foldl f x) n:=by
 rw[List.range_succ,List.foldl_append];rfl
theorem closeB_len (b:Nat) (c:List Nat) (a:Nat):(zJH b c a).length=c.length:=by unfold zJH;split<;>simp
theorem closeB_fits {c:List Nat} (h:Fits c) (b a:Nat):Fits (zJH b c a):=by
 unfold zJH;split
 ·exact fits_set h _ _ (or_lt (zIW h _) (zIW h _))
 ·exact h
theorem fold_keep {α:Type} (P:α→Prop) (f:α→Nat→α) (hf:∀ x i,P x→P (f x i)) (l:List Nat):∀ x,P x→P (l.foldl f x):=by
 induction l with
 | nil=>intro x h;exact h
 | cons i q ih=>intro x h;exact ih _ (hf _ _ h)
theorem closeA_ok (n m b:Nat) {c:List Nat} (h:Fits c∧c.length=m):Fits (zKv n c b)∧(zKv n c b).length=m :=
 fold_keep (fun c=>Fits c∧c.length=m) _ (fun x i hx=>⟨closeB_fits hx.1 _ _,by rw[closeB_len];exact hx.2⟩) _ _ h
theorem closed_ok {r:List Nat} (h:Fits r):Fits (zJj r)∧(zJj r).length=r.length :=
 fold_keep (fun c=>Fits c∧c.length=r.length) _ (fun x i hx=>closeA_ok _ _ _ hx) _ _ ⟨fits_or h h,or_len _ _⟩
theorem turnA_ok (r:List Nat) (a m:Nat) {t:List Nat} (h:Fits t∧t.length=m):Fits (turnA r t a)∧(turnA r t a).length=m :=
 fold_keep (fun c=>Fits c∧c.length=m) _ (fun x i hx=>by unfold turnB;split;exact⟨zID hx.1 _ _,by rw[zIL];exact hx.2⟩;exact hx) _ _ h
theorem turned_ok {r:List Nat} (h:r.length≤64):Fits (zJG r)∧(zJG r).length=r.length :=
 fold_keep (fun c=>Fits c∧c.length=r.length) _ (fun x i hx=>turnA_ok _ _ _ hx) _ _ ⟨fits_new _ h,by simp[newR]⟩
end Q
end Go.Proofs.YtkmebkbpfmoeaaaGreat
