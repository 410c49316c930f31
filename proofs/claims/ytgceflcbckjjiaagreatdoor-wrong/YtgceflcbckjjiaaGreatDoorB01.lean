import Derived.Test.YtgceflcbckjjiaaGreatDoorProg
import Derived.Handy
set_option linter.unusedVariables false
set_option linter.unusedSimpArgs false
namespace Go.Proofs.YtgceflcbckjjiaaGreatDoor
namespace P
structure Opd where
 reg:Bool
 n:Int
structure Stm where
 kind:Int
 line:Int
 dest:Int
 var:Int
 a:Opd
 b:Opd
 order:Int
 scope:Int
 label:Int
def Opd.zero:Opd:=⟨false,0⟩
def Stm.zero:Stm:=⟨0,0,0,0,Opd.zero,Opd.zero,0,0,0⟩
def digit (c:UInt8) (n:Int):Int × Bool:=((c.toNat:Int)-48,decide (48≤(c.toNat:Int))&&decide ((c.toNat:Int)-48<n))
def register:List UInt8→Int × Bool
 | [c,d]=>if c=114 then digit d 4 else (0,false)
 | _=>(0,false)
def operand:List UInt8→Opd × Bool
 | [c]=>(⟨false,(digit c 4).1⟩,(digit c 4).2)
 | l=>(⟨true,(register l).1⟩,(register l).2)
def varOf (l:List UInt8):Int × Bool :=
 if l==[120] then (0,true) else if l==[121] then (1,true) else if l==[122] then (2,true) else (0,false)
def order (l:List UInt8):Int × Bool :=
 if l==[119,101,97,107] then (0,true)
 else if l==[114,101,108,97,120,101,100] then (1,true)
 else if l==[97,99,113,117,105,114,101] then (2,true)
 else if l==[114,101,108,101,97,115,101] then (3,true)
 else if l==[97,99,113,114,101,108] then (4,true)
 else if l==[115,99] then (5,true)
 else (0,false)
def scope (l:List UInt8):Int × Bool :=
 if l==[98,108,111,99,107] then (0,true) else if l==[100,101,118,105,99,101] then (1,true) else (0,false)
def sign (l:List UInt8):Int × Bool :=
 if l==[43] then (7,true) else if l==[45] then (8,true) else if l==[61,61] then (9,true) else (0,false)
def allows (kind order:Int):Bool :=
 if kind==0 then order==0||order==1||order==2
 else if kind==1 then order==0||order==1||order==3
 else if kind==2||kind==3 then order==1||order==2||order==3||order==4
 else if kind==4 then order==4||order==5
 else false
def reads (kind:Int):Bool:=kind==0||kind==2||kind==3
def writes (kind:Int):Bool:=kind==1||kind==2||kind==3
def target (st:Stm) (place value:List UInt8):Stm × Bool :=
 if (varOf place).2 then ({ st with var:=(varOf place).1,a:=(operand value).1 },(operand value).2) else (st,false)
def ordering (st:Stm):List (List UInt8)→Stm × Bool
 | []=>(st,false)
 | o::r =>
  if (order o).2&&allows st.kind (order o).1 then
   if (order o).1==0 then ({ st with order:=0 },r.isEmpty)
   else match r with
    | [s]=>({ st with order:=(order o).1,scope:=(scope s).1 },(scope s).2)
    | _=>({ st with order:=(order o).1 },false)
  else (st,false)
theorem ordering_no1 (st:Stm) (o:List UInt8) (r:List (List UInt8)) (h:(order o).2=false):ordering st (o::r)=(st,false):=by simp[ordering,h]
theorem ordering_no2 (st:Stm) (o:List UInt8) (r:List (List UInt8)) (h:allows st.kind (order o).1=false):ordering st (o::r)=(st,false):=by simp[ordering,h]
theorem ordering_weak (st:Stm) (o:List UInt8) (r:List (List UInt8)) (h:(order o).2=true) (h2:allows st.kind (order o).1=true) (h3:(order o).1=0):ordering st (o::r)=({ st with order:=0 },r.isEmpty):=by
 rw[h3] at h2;simp[ordering,h,h2,h3]
theorem ordering_short (st:Stm) (o:List UInt8) (h:(order o).2=true) (h2:allows st.kind (order o).1=true) (h3:((order o).1==0)=false):ordering st [o]=({ st with order:=(order o).1 },false):=by
 simp[ordering,h,h2,h3]
theorem ordering_two (st:Stm) (o s:List UInt8) (h:(order o).2=true) (h2:allows st.kind (order o).1=true) (h3:((order o).1==0)=false):ordering st [o,s]=({ st with order:=(order o).1,scope:=(scope s).1 },(scope s).2):=by
 simp[ordering,h,h2,h3]
theorem ordering_long (st:Stm) (o s t:List UInt8) (q:List (List UInt8)) (h:(order o).2=true) (h2:allows st.kind (order o).1=true) (h3:((order o).1==0)=false):ordering st (o::s::t::q)=({ st with order:=(order o).1 },false):=by
 simp[ordering,h,h2,h3]
def load (st:Stm):List (List UInt8)→Stm × Bool
 | []=>(st,false)
 | v::r=>if (varOf v).2 then ordering { st with kind:=0,var:=(varOf v).1 } r else (st,false)
def step (st:Stm) (kind:Int):List (List UInt8)→Stm × Bool
 | p::v::r=>let t:=target { st with kind:=kind } p v
  if t.2 then ordering t.1 r else (t.1,false)
 | _=>(st,false)
def sum (st:Stm):List (List UInt8)→Stm × Bool
 | [a]=>if (operand a).2 then ({ st with kind:=6,a:=(operand a).1 },true) else (st,false)
 | [a,s,b] =>
  if (operand a).2 then
   if (sign s).2 then ({ st with kind:=(sign s).1,a:=(operand a).1,b:=(operand b).1 },(operand b).2)
   else ({ st with kind:=6,a:=(operand a).1 },false)
  else (st,false)
 | _=>(st,false)
theorem load_no (st:Stm) (v:List UInt8) (r:List (List UInt8)) (h:(varOf v).2=false):load st (v::r)=(st,false):=by simp[load,h]
theorem load_yes (st:Stm) (v:List UInt8) (r:List (List UInt8)) (h:(varOf v).2=true):load st (v::r)=ordering { st with kind:=0,var:=(varOf v).1 } r:=by simp[load,h]
theorem step_no (st:Stm) (k:Int) (p v:List UInt8) (r:List (List UInt8)) (h:(target { st with kind:=k } p v).2=false):step st k (p::v::r)=((target { st with kind:=k } p v).1,false):=by simp[step,h]
theorem step_yes (st:Stm) (k:Int) (p v:List UInt8) (r:List (List UInt8)) (h:(target { st with kind:=k } p v).2=true):step st k (p::v::r)=ordering (target { st with kind:=k } p v).1 r:=by simp[step,h]
theorem sum_no (st:Stm) (a:List UInt8) (r:List (List UInt8)) (h:(operand a).2=false):sum st (a::r)=(st,false):=by
 match r with
 | []=>simp[sum,h]
 | [_]=>simp[sum]
 | [_,_]=>simp[sum,h]
 | _::_::_::_=>simp[sum]
theorem sum_one (st:Stm) (a:List UInt8) (h:(operand a).2=true):sum st [a]=({ st with kind:=6,a:=(operand a).1 },true):=by simp[sum,h]
theorem sum_sign (st:Stm) (a s b:List UInt8) (h:(operand a).2=true) (h2:(sign s).2=false):sum st [a,s,b]=({ st with kind:=6,a:=(operand a).1 },false):=by simp[sum,h,h2]
theorem sum_all (st:Stm) (a s b:List UInt8) (h:(operand a).2=true) (h2:(sign s).2=true):sum st [a,s,b]=({ st with kind:=(sign s).1,a:=(operand a).1,b:=(operand b).1 },(operand b).2):=by simp[sum,h,h2]
theorem sum_len (st:Stm) (l:List (List UInt8)) (h1:¬ l.length=1) (h3:¬ l.length=3):sum st l=(st,false):=by
 match l with
 | []=>rfl
 | [_]=>simp at h1
 | [_,_]=>rfl
 | [_,_,_]=>simp at h3
 | _::_::_::_::_=>rfl
def assignment:List (List UInt8)→Stm × Bool
 | d::e::c::r =>
  if e==[61] then
   if (register d).2 then
    if c==[108,111,97,100] then load { Stm.zero with dest:=(register d).1 } r
    else if c==[97,100,100] then step { Stm.zero with dest:=(register d).1 } 2 r
    else if c==[115,119,97,112] then step { Stm.zero with dest:=(register d).1 } 3 r
    else sum { Stm.zero with dest:=(register d).1 } (c::r)
   else (Stm.zero,false)
  else (Stm.zero,false)
 | _=>(Stm.zero,false)
def store:List (List UInt8)→Stm × Bool
 | _::p::v::r=>let t:=target { Stm.zero with kind:=1 } p v
  if t.2 then ordering t.1 r else (Stm.zero,false)
 | _=>(Stm.zero,false)
def fence:List (List UInt8)→Stm × Bool
 | _::r=>ordering { Stm.zero with kind:=4 } r
 | _=>(Stm.zero,false)
def condition:List (List UInt8)→Stm × Bool
 | [_,a]=>({ Stm.zero with kind:=10,a:=(operand a).1 },(operand a).2)
 | _=>(Stm.zero,false)
def statement:List (List UInt8)→Stm × Bool
 | []=>(Stm.zero,false)
 | c::r =>
  if c==[115,116,111,114,101] then store (c::r)
  else if c==[102,101,110,99,101] then fence (c::r)
  else if c==[98,97,114,114,105,101,114] then ({ Stm.zero with kind:=5 },r.isEmpty)
  else if c==[105,102] then condition (c::r)
  else if c==[101,110,100] then ({ Stm.zero with kind:=11 },r.isEmpty)
  else assignment (c::r)
end P
end Go.Proofs.YtgceflcbckjjiaaGreatDoor
namespace Go.Proofs.YtgceflcbckjjiaaGreatDoor
open Go Go.RowKit
set_option maxRecDepth 100000
set_option maxHeartbeats 400000 in
theorem digit_any (c n:Int) (w:World) (hc:0≤c) (hc2:c<256) :
  Calls Tryz.prog 146 #[.int .u8 c,.int .i64 n] w fun e w'=>e=.returned (.tuple #[.int .i64 (c-48),.bool (decide (48≤c)&&decide (c-48<n))])∧w'=w:=by
 go_enter Tryz.func146,Tryz.ntmps146
 go_wp2
 all_goals go_ret2
 all_goals simp[*]
 all_goals omega
set_option maxHeartbeats 400000 in
theorem variable_any (s:ByteArray) (w:World) :
  Calls Tryz.prog 190 #[.string s] w fun e w'=>e=.returned (.tuple #[.int .i64 (P.varOf s.toList).1,.bool (P.varOf s.toList).2])∧w'=w:=by
 go_enter Tryz.func190,Tryz.ntmps190
 go_wp2
 all_goals go_ret2
 all_goals simp[P.varOf, *]
set_option maxHeartbeats 400000 in
theorem order_any (s:ByteArray) (w:World) :
  Calls Tryz.prog 191 #[.string s] w fun e w'=>e=.returned (.tuple #[.int .i64 (P.order s.toList).1,.bool (P.order s.toList).2])∧w'=w:=by
 go_enter Tryz.func191,Tryz.ntmps191
 go_wp2
 all_goals go_ret2
 all_goals simp[P.order, *]
set_option maxHeartbeats 400000 in
theorem scope_any (s:ByteArray) (w:World) :
  Calls Tryz.prog 192 #[.string s] w fun e w'=>e=.returned (.tuple #[.int .i64 (P.scope s.toList).1,.bool (P.scope s.toList).2])∧w'=w:=by
 go_enter Tryz.func192,Tryz.ntmps192
 go_wp2
 all_goals go_ret2
 all_goals simp[P.scope, *]
set_option maxHeartbeats 400000 in
theorem sign_any (s:ByteArray) (w:World) :
  Calls Tryz.prog 193 #[.string s] w fun e w'=>e=.returned (.tuple #[.int .i64 (P.sign s.toList).1,.bool (P.sign s.toList).2])∧w'=w:=by
 go_enter Tryz.func193,Tryz.ntmps193
 go_wp2
 all_goals go_ret2
 all_goals simp[P.sign, *]
set_option maxHeartbeats 400000 in
theorem allows_any (k o:Int) (w:World) :
  Calls Tryz.prog 188 #[.int .i64 k,.int .i64 o] w fun e w'=>e=.returned (.bool (P.allows k o))∧w'=w:=by
 go_enter Tryz.func188,Tryz.ntmps188
 go_wp2
 all_goals go_ret
 all_goals simp[P.allows, *]
set_option maxHeartbeats 400000 in
theorem reads_any (k:Int) (w:World) :
  Calls Tryz.prog 58 #[.int .i64 k] w fun e w'=>e=.returned (.bool (P.reads k))∧w'=w:=by
 go_enter Tryz.func58,Tryz.ntmps58
 go_wp2
 all_goals go_ret
 all_goals simp[P.reads, *]
set_option maxHeartbeats 400000 in
theorem writes_any (k:Int) (w:World) :
  Calls Tryz.prog 59 #[.int .i64 k] w fun e w'=>e=.returned (.bool (P.writes k))∧w'=w:=by
 go_enter Tryz.func59,Tryz.ntmps59
 go_wp2
 all_goals go_ret
 all_goals simp[P.writes, *]
end Go.Proofs.YtgceflcbckjjiaaGreatDoor
