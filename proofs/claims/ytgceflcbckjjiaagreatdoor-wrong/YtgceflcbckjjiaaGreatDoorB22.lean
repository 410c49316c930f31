import Derived.Lib.ItoaNum
import Derived.Lib.ItoaWalk
import Derived.Test.YtgceflcbckjjiaaGreatDoorB21
set_option linter.unusedVariables false
set_option linter.unusedSimpArgs false
namespace Go.Proofs.YtgceflcbckjjiaaGreatDoor
open Go Go.RowKit
set_option maxRecDepth 100000
theorem ba_of (x:ByteArray) (l:List UInt8) (h:x.data.toList=l):x=⟨l.toArray⟩:=by
 subst h
 cases x
 simp
theorem mk_toList (l:List UInt8):(⟨l.toArray⟩:ByteArray).toList=l:=by rw[toList_data]
theorem app_toList (a b:ByteArray):(a++b).toList=a.toList++b.toList:=by
 rw[toList_data,toList_data,toList_data];simp
theorem lit_toList (l:Array UInt8):(⟨l⟩:ByteArray).toList=l.toList:=by rw[toList_data]
theorem lit_size (l:Array UInt8):(⟨l⟩:ByteArray).size=l.size:=rfl
def Txt (k:Nat) (s:ByteArray) (l:List UInt8):Prop:=s.toList=l∧s.size≤k
theorem Txt.size {k:Nat} {s:ByteArray} {l:List UInt8} (h:Txt k s l):s.size≤k:=h.2
set_option maxHeartbeats 2000000 in
theorem small_any (i:Nat) (w:World) (h:i<100) :
  Calls Tryz.prog 184 #[.int .i64 (i:Int)] w fun e w'=>e=.returned (.string ⟨(Lib.decDigits i).toArray⟩)∧w'=w:=by
 go_enter Tryz.func184,Tryz.ntmps184
 go_name_bytes_deep 45 SM hSM
 have eSM:SM=Lib.smalls:=by rw[← hSM];decide +kernel
 subst eSM
 clear hSM
 go_name_bytes_deep 30 DG hDG
 have eDG:DG=Lib.digits36:=by rw[← hDG];decide +kernel
 subst eDG
 clear hDG
 by_cases h10:i<10
 ·have hsl:∀ w,(Instr.slice 9 (.string Lib.digits36) (some (.int .i64 (i:Int))) (some (.int .i64 ((i:Int)+1))) none).run Tryz.prog w=.ok (.string (Lib.digits36.extract i (i+1))) w:=fun w=>by
   rw[run_slice_string w 9 Lib.digits36 .i64 .i64 _ _ Tryz.underlying9 (by omega) (by omega) (by rw[Lib.digits36_size];omega),show ((i:Int)).toNat=i by omega,show ((i:Int)+1).toNat=i+1 by omega]
  go_wp2
  go_ret
  refine⟨?_,rfl⟩
  show Ending.returned (Value.string (Lib.digits36.extract i (i+1)))=_
  rw[ba_of (Lib.digits36.extract i (i+1)) (Lib.decDigits i) (by rw[Lib.extract_data];exact Lib.digits36_piece h10)]
 ·have hsl:∀ w,(Instr.slice 9 (.string Lib.smalls) (some (.int .i64 ((i:Int)*2))) (some (.int .i64 ((i:Int)*2+2))) none).run Tryz.prog w=.ok (.string (Lib.smalls.extract (i*2) (i*2+2))) w:=fun w=>by
   rw[run_slice_string w 9 Lib.smalls .i64 .i64 _ _ Tryz.underlying9 (by omega) (by omega) (by rw[Lib.smalls_size];omega),show ((i:Int)*2).toNat=i*2 by omega,show ((i:Int)*2+2).toNat=i*2+2 by omega]
  go_wp2
  go_ret
  refine⟨?_,rfl⟩
  show Ending.returned (Value.string (Lib.smalls.extract (i*2) (i*2+2)))=_
  rw[ba_of (Lib.smalls.extract (i*2) (i*2+2)) (Lib.decDigits i) (by rw[Lib.extract_data];exact Lib.smalls_piece h10 h)]
set_option maxHeartbeats 2000000 in
theorem format_any (i:Nat) (w:World) (h:i<100) :
  Calls Tryz.prog 164 #[.int .i64 (i:Int),.int .i64 10] w fun e w'=>e=.returned (.string ⟨(Lib.decDigits i).toArray⟩)∧w'=w:=by
 have h1:(0:Int)≤(i:Int):=by omega
 have h2:(i:Int)<100:=by omega
 go_enter Tryz.func164,Tryz.ntmps164
 go_wp2_with (first | (go_at_call 184;refine (small_any i _ h).mono ?_;rintro e w' ⟨rfl,rfl⟩))
 go_ret
 exact⟨rfl,rfl⟩
theorem itoa_any (n:Int) (w:World) (h0:0≤n) (h:n<100) :
  Calls Tryz.prog 83 #[.int .i64 n] w fun e w'=>e=.returned (.string ⟨(Lib.decDigits n.toNat).toArray⟩)∧w'=w:=by
 obtain⟨i,rfl⟩:=Int.eq_ofNat_of_zero_le h0
 rw[Int.toNat_natCast]
 go_enter Tryz.func83,Tryz.ntmps83
 go_wp2_with (first | (go_at_call 164;refine (format_any i _ (by omega)).mono ?_;rintro e w' ⟨rfl,rfl⟩) | go_in)
 go_ret
 exact⟨rfl,rfl⟩
end Go.Proofs.YtgceflcbckjjiaaGreatDoor
namespace Go.Proofs.YtgceflcbckjjiaaGreatDoor
namespace P
open Go
def dec (n:Int):List UInt8:=Lib.decDigits n.toNat
def regT (n:Int):List UInt8:=[37,114]++dec n
def varT (v:Int):List UInt8:=if v==0 then [120] else if v==1 then [121] else [122]
def opdT (o:Opd):List UInt8:=if o.reg then regT o.n else dec o.n
def ordT (o:Int):List UInt8 :=
 if o==1 then [114,101,108,97,120,101,100] else if o==2 then [97,99,113,117,105,114,101] else if o==3 then [114,101,108,101,97,115,101]
 else if o==4 then [97,99,113,95,114,101,108] else [115,99]
def sufT (st:Stm):List UInt8 :=
 if st.order==0 then [46,119,101,97,107] else [46]++ordT st.order++(if st.scope==0 then [46,99,116,97] else [46,103,112,117])
def celT (v:Int):List UInt8:=[91]++varT v++[93]
def labT (n:Int):List UInt8:=[76]++dec n
def instr (st:Stm):List UInt8 :=
 if st.kind==0 then [108,100]++sufT st++[32]++regT st.dest++[44,32]++celT st.var
 else if st.kind==1 then [115,116]++sufT st++[32]++celT st.var++[44,32]++opdT st.a
 else if st.kind==2 then [97,116,111,109,46,97,100,100]++sufT st++[32]++regT st.dest++[44,32]++celT st.var++[44,32]++opdT st.a
 else if st.kind==3 then [97,116,111,109,46,101,120,99,104]++sufT st++[32]++regT st.dest++[44,32]++celT st.var++[44,32]++opdT st.a
 else if st.kind==4 then [102,101,110,99,101]++sufT st
 else if st.kind==5 then [98,97,114,46,115,121,110,99]
 else if st.kind==6 then [109,111,118,32]++regT st.dest++[44,32]++opdT st.a
 else if st.kind==7 then [97,100,100,32]++regT st.dest++[44,32]++opdT st.a++[44,32]++opdT st.b
 else if st.kind==8 then [115,117,98,32]++regT st.dest++[44,32]++opdT st.a++[44,32]++opdT st.b
 else if st.kind==9 then [115,101,116,101,113,32]++regT st.dest++[44,32]++opdT st.a++[44,32]++opdT st.b
 else if st.kind==11 then labT st.label++[58]
 else [98,122,32]++opdT st.a++[44,32]++labT st.label
def writeS:List Stm→List UInt8
 | []=>[]
 | s::r=>instr s++[10]++writeS r
def writeT (t:Thr):List UInt8:=[46,116,104,114,101,97,100,32]++dec t.block++[10]++writeS t.stmts
def write:List Thr→List UInt8
 | []=>[]
 | t::r=>writeT t++write r
structure Small (st:Stm):Prop where
 d0:0≤st.dest
 d1:st.dest<100
 a0:0≤st.a.n
 a1:st.a.n<100
 b0:0≤st.b.n
 b1:st.b.n<100
 l0:0≤st.label
 l1:st.label<100
theorem dec_len (n:Int) (h:n<100):(dec n).length≤2:=by
 have:∀ i:Fin 100,(Lib.decDigits i.1).length≤2:=by decide +kernel
 unfold dec
 by_cases h0:0≤n
 ·exact this ⟨n.toNat,by omega⟩
 ·rw[show n.toNat=0 by omega];exact this ⟨0,by omega⟩
end P
end Go.Proofs.YtgceflcbckjjiaaGreatDoor
