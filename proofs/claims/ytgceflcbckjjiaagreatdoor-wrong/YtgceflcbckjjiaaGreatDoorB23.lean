import Derived.Test.YtgceflcbckjjiaaGreatDoorB22
set_option linter.unusedVariables false
set_option linter.unusedSimpArgs false
namespace Go.Proofs.YtgceflcbckjjiaaGreatDoor
open Go Go.RowKit
set_option maxRecDepth 100000
theorem itoa_txt (n:Int) (w:World) (h0:0≤n) (h:n<100) :
  Calls Tryz.prog 83 #[.int .i64 n] w fun e w'=>∃ s,e=.returned (.string s)∧Txt 2 s (P.dec n)∧w'=w:=by
 refine (itoa_any n w h0 h).mono ?_
 rintro e w' ⟨rfl,rfl⟩
 refine⟨_,rfl,⟨mk_toList _,?_⟩,rfl⟩
 have:=P.dec_len n h
 rw[← size_toList,mk_toList];exact this
set_option maxHeartbeats 400000 in
theorem regA_any (n:Int) (w:World) (h0:0≤n) (h:n<100) :
  Calls Tryz.prog 135 #[.int .i64 n] w fun e w'=>∃ s,e=.returned (.string s)∧Txt 4 s (P.regT n)∧w'=w:=by
 go_enter Tryz.func135,Tryz.ntmps135
 go_wp2_with (first | (go_at_call 83;refine (itoa_txt n _ h0 h).mono ?_;rintro e w' ⟨s,rfl,hs,rfl⟩;have hsz:=hs.size))
 go_ret
 refine⟨_,rfl,⟨?_,?_⟩,rfl⟩
 ·simp[app_toList,lit_toList,hs.1,P.regT]
 ·simp[lit_size];omega
set_option maxHeartbeats 400000 in
theorem varA_any (n:Int) (w:World) :
  Calls Tryz.prog 136 #[.int .i64 n] w fun e w'=>∃ s,e=.returned (.string s)∧Txt 3 s (P.celT n)∧w'=w:=by
 go_enter Tryz.func136,Tryz.ntmps136
 go_wp2
 all_goals go_ret
 all_goals refine⟨_,rfl,⟨?_,by simp[lit_size]⟩,rfl⟩
 all_goals simp[P.celT,P.varT,lit_toList, *]
set_option maxHeartbeats 400000 in
theorem ordA_any (n:Int) (w:World) :
  Calls Tryz.prog 134 #[.int .i64 n] w fun e w'=>∃ s,e=.returned (.string s)∧Txt 8 s ([46]++P.ordT n)∧w'=w:=by
 go_enter Tryz.func134,Tryz.ntmps134
 go_wp2
 all_goals go_ret
 all_goals refine⟨_,rfl,⟨?_,by simp[lit_size]⟩,rfl⟩
 all_goals simp[P.ordT,lit_toList, *]
set_option maxHeartbeats 400000 in
theorem labA_any (n:Int) (w:World) (h0:0≤n) (h:n<100) :
  Calls Tryz.prog 84 #[.int .i64 n] w fun e w'=>∃ s,e=.returned (.string s)∧Txt 3 s (P.labT n)∧w'=w:=by
 go_enter Tryz.func84,Tryz.ntmps84
 go_wp2_with (first | (go_at_call 83;refine (itoa_txt n _ h0 h).mono ?_;rintro e w' ⟨s,rfl,hs,rfl⟩;have hsz:=hs.size))
 go_ret
 refine⟨_,rfl,⟨?_,?_⟩,rfl⟩
 ·simp[app_toList,lit_toList,hs.1,P.labT]
 ·simp[lit_size];omega
set_option maxHeartbeats 400000 in
theorem thrA_any (n:Int) (w:World) (h0:0≤n) (h:n<100) :
  Calls Tryz.prog 44 #[.int .i64 n] w fun e w'=>∃ s,e=.returned (.string s)∧Txt 10 s ([46,116,104,114,101,97,100,32]++P.dec n)∧w'=w:=by
 go_enter Tryz.func44,Tryz.ntmps44
 go_wp2_with (first | (go_at_call 83;refine (itoa_txt n _ h0 h).mono ?_;rintro e w' ⟨s,rfl,hs,rfl⟩;have hsz:=hs.size))
 go_ret
 refine⟨_,rfl,⟨?_,?_⟩,rfl⟩
 ·simp[app_toList,lit_toList,hs.1]
 ·simp[lit_size];omega
set_option maxHeartbeats 400000 in
theorem opdA_any (o:P.Opd) (w:World) (h0:0≤o.n) (h:o.n<100) :
  Calls Tryz.prog 137 #[.agg #[.bool o.reg,.int .i64 o.n]] w fun e w'=>∃ s,e=.returned (.string s)∧Txt 4 s (P.opdT o)∧Below w.heap.size w w':=by
 cases hr:o.reg
 ·go_enter Tryz.func137,Tryz.ntmps137
  go_wp2_with (first | (go_at_call 83;refine (itoa_txt o.n _ h0 h).mono ?_;rintro e w' ⟨s,rfl,hs,rfl⟩;have hsz:=hs.size))
  go_ret
  refine⟨_,rfl,⟨?_,by omega⟩,(Below.refl _ _).alloc (Nat.le_refl _) _⟩
  rw[hs.1];simp[P.opdT,hr]
 ·go_enter Tryz.func137,Tryz.ntmps137
  go_wp2_with (first | (go_at_call 135;refine (regA_any o.n _ h0 h).mono ?_;rintro e w' ⟨s,rfl,hs,rfl⟩;have hsz:=hs.size))
  go_ret
  refine⟨_,rfl,⟨?_,by omega⟩,(Below.refl _ _).alloc (Nat.le_refl _) _⟩
  rw[hs.1];simp[P.opdT,hr]
namespace P
def sufO (o sc:Int):List UInt8:=if o==0 then [46,119,101,97,107] else [46]++ordT o++(if sc==0 then [46,99,116,97] else [46,103,112,117])
theorem sufO_eq (st:Stm):sufO st.order st.scope=sufT st:=rfl
end P
set_option maxHeartbeats 800000 in
theorem sufA_any (o sc:Int) (w:World) :
  Calls Tryz.prog 87 #[.int .i64 o,.int .i64 sc] w fun e w'=>∃ s,e=.returned (.string s)∧Txt 20 s (P.sufO o sc)∧w'=w:=by
 cases h0:(o==0)
 ·cases h1:(sc==0)
  all_goals
   go_enter Tryz.func87,Tryz.ntmps87
   go_wp2_with (first | (go_at_call 134;refine (ordA_any o _).mono ?_;rintro e w' ⟨s,rfl,hs,rfl⟩;have hsz:=hs.size))
   go_ret
   refine⟨_,rfl,⟨?_,?_⟩,rfl⟩
   ·simp[app_toList,lit_toList,hs.1,P.sufO,h0,h1]
   ·simp[lit_size];omega
 ·go_enter Tryz.func87,Tryz.ntmps87
  go_wp2
  go_ret
  refine⟨_,rfl,⟨?_,by simp[lit_size]⟩,rfl⟩
  simp[lit_toList,P.sufO,h0]
namespace P
def layT (k:Int):List UInt8 × List UInt8 :=
 if k==0 then ([108,100],[100,118])
 else if k==1 then ([115,116],[118,97])
 else if k==2 then ([97,116,111,109,46,97,100,100],[100,118,97])
 else if k==3 then ([97,116,111,109,46,101,120,99,104],[100,118,97])
 else if k==4 then ([102,101,110,99,101],[])
 else if k==5 then ([98,97,114,46,115,121,110,99],[])
 else if k==6 then ([109,111,118],[100,97])
 else if k==7 then ([97,100,100],[100,97,98])
 else if k==8 then ([115,117,98],[100,97,98])
 else if k==9 then ([115,101,116,101,113],[100,97,98])
 else ([98,122],[97,108])
def isOrd (k:Int):Bool:=(k==0||k==1||k==2||k==3)||k==4
def partT (st:Stm) (c:UInt8):List UInt8 :=
 if c=100 then regT st.dest else if c=118 then celT st.var else if c=97 then opdT st.a else if c=98 then opdT st.b else labT st.label
def joinT (st:Stm):List UInt8→List UInt8
 | []=>[]
 | c::r=>[32]++partT st c++r.flatMap (fun c=>[44,32]++partT st c)
def betT (l:List UInt8):List UInt8:=if l.isEmpty then [32] else [44,32]
theorem joinT_snoc (st:Stm) (l:List UInt8) (c:UInt8):joinT st (l++[c])=joinT st l++(betT l++partT st c):=by
 cases l with
 | nil=>simp[joinT,betT]
 | cons a r=>simp[joinT,betT]
theorem instr_end (st:Stm) (h:(st.kind==11)=true):instr st=labT st.label++[58]:=by
 have h':st.kind=11:=by simpa using h
 simp[instr,h']
theorem instr_lay (st:Stm) (h:(st.kind==11)=false):instr st=(layT st.kind).1++(if isOrd st.kind then sufO st.order st.scope else [])++joinT st (layT st.kind).2:=by
 have h':¬ st.kind=11:=by simpa using h
 rw[sufO_eq]
 by_cases hk:st.kind=0∨st.kind=1∨st.kind=2∨st.kind=3∨st.kind=4∨st.kind=5∨st.kind=6∨st.kind=7∨st.kind=8∨st.kind=9
 ·rcases hk with e | e | e | e | e | e | e | e | e | e<;>simp[instr,e,layT,isOrd,joinT,partT]
 ·have h0:¬ st.kind=0:=by omega
  have h1:¬ st.kind=1:=by omega
  have h2:¬ st.kind=2:=by omega
  have h3:¬ st.kind=3:=by omega
  have h4:¬ st.kind=4:=by omega
  have h5:¬ st.kind=5:=by omega
  have h6:¬ st.kind=6:=by omega
  have h7:¬ st.kind=7:=by omega
  have h8:¬ st.kind=8:=by omega
  have h9:¬ st.kind=9:=by omega
  simp[instr,h',h0,h1,h2,h3,h4,h5,h6,h7,h8,h9,layT,isOrd,joinT,partT]
end P
set_option maxHeartbeats 800000 in
theorem layA_any (k:Int) (w:World) :
  Calls Tryz.prog 85 #[.int .i64 k] w fun e w'=>∃ s t,e=.returned (.tuple #[.string s,.string t])∧Txt 9 s (P.layT k).1∧Txt 3 t (P.layT k).2∧w'=w:=by
 go_enter Tryz.func85,Tryz.ntmps85
 go_wp2
 all_goals go_ret2
 all_goals refine⟨_,_,rfl,⟨?_,by simp[lit_size]⟩,⟨?_,by simp[lit_size]⟩,rfl⟩
 all_goals simp[P.layT,lit_toList, *]
end Go.Proofs.YtgceflcbckjjiaaGreatDoor
