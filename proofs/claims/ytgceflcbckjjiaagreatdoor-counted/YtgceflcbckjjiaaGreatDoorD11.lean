import Derived.Test.YtgceflcbckjjiaaGreatDoorD10
set_option linter.unusedVariables false
set_option linter.unusedSimpArgs false
set_option maxHeartbeats 12800000
namespace Go.Proofs.YtgceflcbckjjiaaGreatDoor
open Go Go.RowKit
set_option maxRecDepth 100000
theorem zDB (n:Int) (w:World) (h0:0≤n) (h:n<100) :
  Calls Tryz.prog 83 #[.int .i64 n] w fun e w'=>∃ s,e=.returned (.string s)∧Txt 2 s (P.dec n)∧w'=w:=by
 refine (zHV n w h0 h).mono ?_
 rintro e w' ⟨rfl,rfl⟩
 refine⟨_,rfl,⟨zAj _,?_⟩,rfl⟩
 have:=P.dec_len n h
 rw[← zAu,zAj];exact this
theorem zGe (n:Int) (w:World) (h0:0≤n) (h:n<100) :
  Calls Tryz.prog 135 #[.int .i64 n] w fun e w'=>∃ s,e=.returned (.string s)∧Txt 4 s (P.regT n)∧w'=w:=by
 go_enter Tryz.func135,Tryz.ntmps135
 go_wp2_with (first | (go_at_call 83;refine (zDB n _ h0 h).mono ?_;rintro e w' ⟨s,rfl,hs,rfl⟩;have hsz:=hs.size))
 go_ret
 refine⟨_,rfl,⟨?_,?_⟩,rfl⟩
 ·simp[zAq,zAc,hs.1,P.regT]
 ·simp[zAF];omega
theorem zHW (n:Int) (w:World) :
  Calls Tryz.prog 136 #[.int .i64 n] w fun e w'=>∃ s,e=.returned (.string s)∧Txt 3 s (P.celT n)∧w'=w:=by
 go_enter Tryz.func136,Tryz.ntmps136
 go_wp2
 all_goals go_ret
 all_goals refine⟨_,rfl,⟨?_,by simp[zAF]⟩,rfl⟩
 all_goals simp[P.celT,P.varT,zAc, *]
theorem zHX (n:Int) (w:World) :
  Calls Tryz.prog 134 #[.int .i64 n] w fun e w'=>∃ s,e=.returned (.string s)∧Txt 8 s ([46]++P.ordT n)∧w'=w:=by
 go_enter Tryz.func134,Tryz.ntmps134
 go_wp2
 all_goals go_ret
 all_goals refine⟨_,rfl,⟨?_,by simp[zAF]⟩,rfl⟩
 all_goals simp[P.ordT,zAc, *]
theorem zGf (n:Int) (w:World) (h0:0≤n) (h:n<100) :
  Calls Tryz.prog 84 #[.int .i64 n] w fun e w'=>∃ s,e=.returned (.string s)∧Txt 3 s (P.labT n)∧w'=w:=by
 go_enter Tryz.func84,Tryz.ntmps84
 go_wp2_with (first | (go_at_call 83;refine (zDB n _ h0 h).mono ?_;rintro e w' ⟨s,rfl,hs,rfl⟩;have hsz:=hs.size))
 go_ret
 refine⟨_,rfl,⟨?_,?_⟩,rfl⟩
 ·simp[zAq,zAc,hs.1,P.labT]
 ·simp[zAF];omega
theorem zHY (n:Int) (w:World) (h0:0≤n) (h:n<100) :
  Calls Tryz.prog 44 #[.int .i64 n] w fun e w'=>∃ s,e=.returned (.string s)∧Txt 10 s ([46,116,104,114,101,97,100,32]++P.dec n)∧w'=w:=by
 go_enter Tryz.func44,Tryz.ntmps44
 go_wp2_with (first | (go_at_call 83;refine (zDB n _ h0 h).mono ?_;rintro e w' ⟨s,rfl,hs,rfl⟩;have hsz:=hs.size))
 go_ret
 refine⟨_,rfl,⟨?_,?_⟩,rfl⟩
 ·simp[zAq,zAc,hs.1]
 ·simp[zAF];omega
theorem zGg (o:P.Opd) (w:World) (h0:0≤o.n) (h:o.n<100) :
  Calls Tryz.prog 137 #[.agg #[.bool o.reg,.int .i64 o.n]] w fun e w'=>∃ s,e=.returned (.string s)∧Txt 4 s (P.opdT o)∧Below w.heap.size w w':=by
 cases hr:o.reg
 ·go_enter Tryz.func137,Tryz.ntmps137
  go_wp2_with (first | (go_at_call 83;refine (zDB o.n _ h0 h).mono ?_;rintro e w' ⟨s,rfl,hs,rfl⟩;have hsz:=hs.size))
  go_ret
  refine⟨_,rfl,⟨?_,by omega⟩,(Below.refl _ _).alloc (Nat.le_refl _) _⟩
  rw[hs.1];simp[P.opdT,hr]
 ·go_enter Tryz.func137,Tryz.ntmps137
  go_wp2_with (first | (go_at_call 135;refine (zGe o.n _ h0 h).mono ?_;rintro e w' ⟨s,rfl,hs,rfl⟩;have hsz:=hs.size))
  go_ret
  refine⟨_,rfl,⟨?_,by omega⟩,(Below.refl _ _).alloc (Nat.le_refl _) _⟩
  rw[hs.1];simp[P.opdT,hr]
namespace P
def sufO (o sc:Int):List UInt8:=if o==0 then [46,119,101,97,107] else [46]++ordT o++(if sc==0 then [46,99,116,97] else [46,103,112,117])
theorem sufO_eq (st:Stm):sufO st.order st.scope=sufT st:=rfl
end P
theorem zHZ (o sc:Int) (w:World) :
  Calls Tryz.prog 87 #[.int .i64 o,.int .i64 sc] w fun e w'=>∃ s,e=.returned (.string s)∧Txt 20 s (P.sufO o sc)∧w'=w:=by
 cases h0:(o==0)
 ·cases h1:(sc==0)
  all_goals
   go_enter Tryz.func87,Tryz.ntmps87
   go_wp2_with (first | (go_at_call 134;refine (zHX o _).mono ?_;rintro e w' ⟨s,rfl,hs,rfl⟩;have hsz:=hs.size))
   go_ret
   refine⟨_,rfl,⟨?_,?_⟩,rfl⟩
   ·simp[zAq,zAc,hs.1,P.sufO,h0,h1]
   ·simp[zAF];omega
 ·go_enter Tryz.func87,Tryz.ntmps87
  go_wp2
  go_ret
  refine⟨_,rfl,⟨?_,by simp[zAF]⟩,rfl⟩
  simp[zAc,P.sufO,h0]
namespace P
def layT (k:Int):List UInt8 × List UInt8 :=
 if k==0 then ([108,100],[100,118])
 else if k==1 then ([115,116],[118,97])
 else if k==2 then ([97,116,111,109,46,97,100,100],[100,118,97])
 else if k==3 then ([97,116,111,109,46,101,120,99,104],[100,118,97])
 else if k==4 then ([102,101,110,99,101],[])
 else if k==5 then ([98,97,114,46,115,121,110,99],[])
 else if k==6 then ([109,111,118],[100,97])
 else if k==7 then ([97,100,100],[100,97,98])
 else if k==8 then ([115,117,98],[100,97,98])
 else if k==9 then ([115,101,116,101,113],[100,97,98])
 else ([98,122],[97,108])
def isOrd (k:Int):Bool:=(k==0||k==1||k==2||k==3)||k==4
def partT (st:Stm) (c:UInt8):List UInt8 :=
 if c=100 then regT st.dest else if c=118 then celT st.var else if c=97 then opdT st.a else if c=98 then opdT st.b else labT st.label
def joinT (st:Stm):List UInt8→List UInt8
 | []=>[]
 | c::r=>[32]++partT st c++r.flatMap (fun c=>[44,32]++partT st c)
def betT (l:List UInt8):List UInt8:=if l.isEmpty then [32] else [44,32]
theorem zLS (st:Stm) (l:List UInt8) (c:UInt8):joinT st (l++[c])=joinT st l++(betT l++partT st c):=by
 cases l with
 | nil=>simp[joinT,betT]
 | cons a r=>simp[joinT,betT]
theorem instr_end (st:Stm) (h:(st.kind==11)=true):instr st=labT st.label++[58]:=by
 have h':st.kind=11:=by simpa using h
 simp[instr,h']
theorem instr_lay (st:Stm) (h:(st.kind==11)=false):instr st=(layT st.kind).1++(if isOrd st.kind then sufO st.order st.scope else [])++joinT st (layT st.kind).2:=by
 have h':¬ st.kind=11:=by simpa using h
 rw[sufO_eq]
 by_cases hk:st.kind=0∨st.kind=1∨st.kind=2∨st.kind=3∨st.kind=4∨st.kind=5∨st.kind=6∨st.kind=7∨st.kind=8∨st.kind=9
 ·rcases hk with e | e | e | e | e | e | e | e | e | e<;>simp[instr,e,layT,isOrd,joinT,partT]
 ·have h0:¬ st.kind=0:=by omega
  have h1:¬ st.kind=1:=by omega
  have h2:¬ st.kind=2:=by omega
  have h3:¬ st.kind=3:=by omega
  have h4:¬ st.kind=4:=by omega
  have h5:¬ st.kind=5:=by omega
  have h6:¬ st.kind=6:=by omega
  have h7:¬ st.kind=7:=by omega
  have h8:¬ st.kind=8:=by omega
  have h9:¬ st.kind=9:=by omega
  simp[instr,h',h0,h1,h2,h3,h4,h5,h6,h7,h8,h9,layT,isOrd,joinT,partT]
end P
theorem zIa (k:Int) (w:World) :
  Calls Tryz.prog 85 #[.int .i64 k] w fun e w'=>∃ s t,e=.returned (.tuple #[.string s,.string t])∧Txt 9 s (P.layT k).1∧Txt 3 t (P.layT k).2∧w'=w:=by
 go_enter Tryz.func85,Tryz.ntmps85
 go_wp2
 all_goals go_ret2
 all_goals refine⟨_,_,rfl,⟨?_,by simp[zAF]⟩,⟨?_,by simp[zAF]⟩,rfl⟩
 all_goals simp[P.layT,zAc, *]
theorem zEi (k:Int) (w:World) :
  Calls Tryz.prog 79 #[.int .i64 k] w fun e w'=>e=.returned (.bool (k==0||k==1||k==2||k==3))∧w'=w:=by
 go_enter Tryz.func79,Tryz.ntmps79
 go_wp2
 all_goals go_ret
 all_goals simp[*]
theorem zHl (k:Int) (w:World) :
  Calls Tryz.prog 86 #[.int .i64 k] w fun e w'=>e=.returned (.bool (P.isOrd k))∧w'=w:=by
 cases h1:(k==0||k==1||k==2||k==3)
 ·go_enter Tryz.func86,Tryz.ntmps86
  go_wp2_with (first | (go_at_call 79;refine (zEi _ _).mono ?_;rintro e w' ⟨rfl,rfl⟩;rw[h1]))
  go_ret
  refine⟨?_,rfl⟩
  simp[P.isOrd,h1]
 ·go_enter Tryz.func86,Tryz.ntmps86
  go_wp2_with (first | (go_at_call 79;refine (zEi _ _).mono ?_;rintro e w' ⟨rfl,rfl⟩;rw[h1]))
  go_ret
  refine⟨?_,rfl⟩
  simp[P.isOrd,h1]
theorem zES (st:P.Stm) (c:UInt8) (w:World) (hS:P.Small st) :
  Calls Tryz.prog 88 #[.agg (zAb st),.int .u8 (c.toNat:Int)] w fun e w'=>∃ s,e=.returned (.string s)∧Txt 10 s (P.partT st c)∧Below w.heap.size w w':=by
 have hc:c.toNat<256:=UInt8.toNat_lt c
 simp only[zAb]
 cases h1:((c.toNat:Int)==100)
 rotate_left
 ·have HE:Hid (P.partT st c=P.regT st.dest):=by unfold Hid P.partT;rw[if_pos (show c=100 from (zEt c 100 (by omega)).1 h1)]
  go_enter Tryz.func88,Tryz.ntmps88
  go_wp2_with (first | (go_at_call 135;refine (zGe _ _ hS.d0 hS.d1).mono ?_;rintro e w' ⟨s,rfl,hs,rfl⟩))
  go_ret
  rw[zAB HE]
  exact⟨_,rfl,⟨hs.1,by have:=hs.size;omega⟩,(Below.refl _ _).alloc (Nat.le_refl _) _⟩
 have n1:¬ c=100:=fun e=>by subst e;simp at h1
 cases h2:((c.toNat:Int)==118)
 rotate_left
 ·have HE:Hid (P.partT st c=P.celT st.var):=by unfold Hid P.partT;rw[if_neg n1,if_pos (show c=118 from (zEt c 118 (by omega)).1 h2)]
  go_enter Tryz.func88,Tryz.ntmps88
  go_wp2_with (first | (go_at_call 136;refine (zHW _ _).mono ?_;rintro e w' ⟨s,rfl,hs,rfl⟩))
  go_ret
  rw[zAB HE]
  exact⟨_,rfl,⟨hs.1,by have:=hs.size;omega⟩,(Below.refl _ _).alloc (Nat.le_refl _) _⟩
 have n2:¬ c=118:=fun e=>by subst e;simp at h2
 cases h3:((c.toNat:Int)==97)
 rotate_left
 ·have HE:Hid (P.partT st c=P.opdT st.a):=by unfold Hid P.partT;rw[if_neg n1,if_neg n2,if_pos (show c=97 from (zEt c 97 (by omega)).1 h3)]
  go_enter Tryz.func88,Tryz.ntmps88
  go_wp2_with (first | (go_at_call 137;refine (zGg st.a _ hS.a0 hS.a1).mono ?_;rintro e w1 ⟨s,rfl,hs,hb⟩))
  go_ret
  rw[zAB HE]
  exact⟨_,rfl,⟨hs.1,by have:=hs.size;omega⟩,((Below.refl _ _).alloc (Nat.le_refl _) _).trans (hb.mono (by simp))⟩
 have n3:¬ c=97:=fun e=>by subst e;simp at h3
 cases h4:((c.toNat:Int)==98)
 rotate_left
 ·have HE:Hid (P.partT st c=P.opdT st.b):=by unfold Hid P.partT;rw[if_neg n1,if_neg n2,if_neg n3,if_pos (show c=98 from (zEt c 98 (by omega)).1 h4)]
  go_enter Tryz.func88,Tryz.ntmps88
  go_wp2_with (first | (go_at_call 137;refine (zGg st.b _ hS.b0 hS.b1).mono ?_;rintro e w1 ⟨s,rfl,hs,hb⟩))
  go_ret
  rw[zAB HE]
  exact⟨_,rfl,⟨hs.1,by have:=hs.size;omega⟩,((Below.refl _ _).alloc (Nat.le_refl _) _).trans (hb.mono (by simp))⟩
 have n4:¬ c=98:=fun e=>by subst e;simp at h4
 have HE:Hid (P.partT st c=P.labT st.label):=by unfold Hid P.partT;rw[if_neg n1,if_neg n2,if_neg n3,if_neg n4]
 go_enter Tryz.func88,Tryz.ntmps88
 go_wp2_with (first | (go_at_call 84;refine (zGf _ _ hS.l0 hS.l1).mono ?_;rintro e w' ⟨s,rfl,hs,rfl⟩))
 go_ret
 rw[zAB HE]
 exact⟨_,rfl,⟨hs.1,by have:=hs.size;omega⟩,(Below.refl _ _).alloc (Nat.le_refl _) _⟩
theorem zHm (st:P.Stm) (w:World) (hS:P.Small st) :
  Calls Tryz.prog 45 #[.agg (zAb st)] w fun e w'=>∃ s,e=.returned (.string s)∧Txt 80 s (P.instr st)∧Below w.heap.size w w':=by
 cases hk:(st.kind==11)
 rotate_left
 ·have HE:=zAa (P.instr_end st hk)
  simp only[zAb]
  go_enter Tryz.func45,Tryz.ntmps45
  go_wp2_with (first | (go_at_call 84;refine (zGf _ _ hS.l0 hS.l1).mono ?_;rintro e w' ⟨s,rfl,hs,rfl⟩;have hsz:=hs.size))
  go_ret
  rw[zAB HE]
  refine⟨_,rfl,⟨?_,?_⟩,(Below.refl _ _).alloc (Nat.le_refl _) _⟩
  ·simp[zAq,zAc,hs.1]
  ·simp[zAF];omega
 have HE:=zAa (P.instr_lay st hk)
 have hSt:=zAa (zAw.new w st)
 have hBl:Hid (Below w.heap.size w (w.alloc (.cells (zAb st) 96))):=(Below.refl _ _).alloc (Nat.le_refl _) _
 cases ho:P.isOrd st.kind
 all_goals
  simp only[zAb]
  go_enter Tryz.func45,Tryz.ntmps45
  go_wp2_with (first
   | (go_at_call 85;refine (zIa _ _).mono ?_;rintro e w' ⟨sl,so,rfl,hsl,hso,rfl⟩;have hz1:=hsl.size;have hz2:=hso.size)
   | (go_at_call 86;refine (zHl _ _).mono ?_;rintro e w' ⟨rfl,rfl⟩;rw[ho])
   | (go_at_call 87;refine (zHZ _ _ _).mono ?_;rintro e w' ⟨ss,rfl,hss,rfl⟩;have hz3:=hss.size))
 ·have HB:Hid (sl.toList=(P.layT st.kind).1++(if P.isOrd st.kind then P.sufO st.order st.scope else [])):=by unfold Hid;rw[ho,hsl.1];simp
  have hz4:sl.size≤40:=by omega
  go_loopw [3,5,6] (fun a b i wr=>∃ k:Nat,∃ ln bt:ByteArray,k≤so.size∧i=.int .i64 k∧a=.string ln∧b=.string bt∧ln.size≤40+k*12∧bt.size≤2∧Hid (ln.toList=(P.layT st.kind).1++(if P.isOrd st.kind then P.sufO st.order st.scope else [])++P.joinT st (so.toList.take k))∧Hid (bt.toList=P.betT (so.toList.take k)) ∧
    Hid (zAw wr w.heap.size st)∧Hid (Below w.heap.size w wr)) (fun _ _ i _=>so.size-(intOf i).toNat)
  case atStart=>exact⟨0,_,_,Nat.zero_le _,rfl,rfl,rfl,by omega,by simp[zAF],by unfold Hid;rw[HB.out];simp[P.joinT],by unfold Hid;simp[P.betT,zAc],hSt,hBl⟩
  case round =>
   obtain⟨k,ln,bt,hk,rfl,rfl,rfl,hlz,hbz,HL,HT,HS1,HB1⟩:=hrel
   by_cases hlt:k<so.size
   ·have HSn:=zAa (zCB so k hlt)
    obtain⟨f1,f2,c0,c1,c2,c3,c4,c5,c6,c7,c8,c9,c10⟩:=HS1.out.facts
    go_wp2
    go_region_with (go_at_call 88;refine (zES st so[k] _ hS).mono ?_;rintro e w3 ⟨sp,rfl,hsp,hb3⟩;have hz5:=hsp.size;have G3:=zAa (HS1.out.drew.below hb3);have B3:=zAa ((HB1.out.drew).trans (hb3.mono (by have:=HB1.out.size;simp;omega))))
    all_goals
     go_wp2
     go_roundw
     case rel =>
      refine⟨k+1,_,_,by omega,by go_num,rfl,rfl,?_,by simp[zAF],?_,?_,G3,B3⟩
      ·simp;omega
      ·unfold Hid;rw[HSn.out,P.zLS];simp[zAq,HL.out,HT.out,hsp.1]
      ·unfold Hid;rw[HSn.out];simp[zAc,P.betT]
     case measure=>simp[intOf];omega
   ·have hks:k=so.size:=by omega
    have HX:Hid (so.toList.take k=(P.layT st.kind).2):=by unfold Hid;rw[List.take_of_length_le (by rw[zAu];omega),hso.1]
    go_wp2
    go_ret
    rw[zAB HE]
    refine⟨_,rfl,⟨?_,by omega⟩,HB1.out⟩
    rw[HL.out,HX.out]
 ·have HB:Hid ((sl++ss).toList=(P.layT st.kind).1++(if P.isOrd st.kind then P.sufO st.order st.scope else [])):=by unfold Hid;rw[ho,zAq,hsl.1,hss.1];simp
  have hz4:(sl++ss).size≤40:=by simp;omega
  go_loopw [3,5,6] (fun a b i wr=>∃ k:Nat,∃ ln bt:ByteArray,k≤so.size∧i=.int .i64 k∧a=.string ln∧b=.string bt∧ln.size≤40+k*12∧bt.size≤2∧Hid (ln.toList=(P.layT st.kind).1++(if P.isOrd st.kind then P.sufO st.order st.scope else [])++P.joinT st (so.toList.take k))∧Hid (bt.toList=P.betT (so.toList.take k)) ∧
    Hid (zAw wr w.heap.size st)∧Hid (Below w.heap.size w wr)) (fun _ _ i _=>so.size-(intOf i).toNat)
  case atStart=>exact⟨0,_,_,Nat.zero_le _,rfl,rfl,rfl,by omega,by simp[zAF],by unfold Hid;rw[HB.out];simp[P.joinT],by unfold Hid;simp[P.betT,zAc],hSt,hBl⟩
  case round =>
   obtain⟨k,ln,bt,hk,rfl,rfl,rfl,hlz,hbz,HL,HT,HS1,HB1⟩:=hrel
   by_cases hlt:k<so.size
   ·have HSn:=zAa (zCB so k hlt)
    obtain⟨f1,f2,c0,c1,c2,c3,c4,c5,c6,c7,c8,c9,c10⟩:=HS1.out.facts
    go_wp2
    go_region_with (go_at_call 88;refine (zES st so[k] _ hS).mono ?_;rintro e w3 ⟨sp,rfl,hsp,hb3⟩;have hz5:=hsp.size;have G3:=zAa (HS1.out.drew.below hb3);have B3:=zAa ((HB1.out.drew).trans (hb3.mono (by have:=HB1.out.size;simp;omega))))
    all_goals
     go_wp2
     go_roundw
     case rel =>
      refine⟨k+1,_,_,by omega,by go_num,rfl,rfl,?_,by simp[zAF],?_,?_,G3,B3⟩
      ·simp;omega
      ·unfold Hid;rw[HSn.out,P.zLS];simp[zAq,HL.out,HT.out,hsp.1]
      ·unfold Hid;rw[HSn.out];simp[zAc,P.betT]
     case measure=>simp[intOf];omega
   ·have hks:k=so.size:=by omega
    have HX:Hid (so.toList.take k=(P.layT st.kind).2):=by unfold Hid;rw[List.take_of_length_le (by rw[zAu];omega),hso.1]
    go_wp2
    go_ret
    rw[zAB HE]
    refine⟨_,rfl,⟨?_,by omega⟩,HB1.out⟩
    rw[HL.out,HX.out]
namespace P
theorem write_append (a b:List Thr):write (a++b)=write a++write b:=by
 induction a with
 | nil=>rfl
 | cons t r ih=>simp[write,ih]
theorem write_snoc (l:List Thr) (k:Nat) (h:k<l.length):write (l.take (k+1))=write (l.take k)++writeT l[k]:=by
 rw[List.take_succ_eq_append_getElem h,write_append];simp[write]
theorem writeS_append (a b:List Stm):zMH (a++b)=zMH a++zMH b:=by
 induction a with
 | nil=>rfl
 | cons t r ih=>simp[zMH,ih]
theorem writeS_snoc (l:List Stm) (k:Nat) (h:k<l.length):zMH (l.take (k+1))=zMH (l.take k)++(instr l[k]++[10]):=by
 rw[List.take_succ_eq_append_getElem h,writeS_append];simp[zMH]
end P
theorem zCQ (B bt n cap:Nat) (ts:List P.Thr) (w:World) (h:zAl w B (.slice (some ⟨bt,0,none⟩) n cap) ts) (hn:n=ts.length) (hnb:n<10) (hst:∀ t∈ts,t.stmts.length<10000) (hsm:∀ t∈ts,0≤t.block∧t.block<100∧∀ s∈t.stmts,P.Small s) :
  Calls Tryz.prog 27 #[.agg #[.slice (some ⟨bt,0,none⟩) n cap]] w fun e w'=>∃ s,e=.returned (.string s)∧Txt 10000000 s (P.write ts)∧Below w.heap.size w w':=by
 have HA:=zAa h
 have HN:=zAa hn
 have HS:=zAa hst
 have HM:=zAa hsm
 clear h hn hst hsm
 go_enter Tryz.func27,Tryz.ntmps27
 go_wp2
 go_loopw [3,11] (fun a i wr=>∃ k:Nat,∃ s:ByteArray,k≤n∧i=.int .i64 k∧a=.string s∧s.size≤k*1000000∧Hid (s.toList=P.write (ts.take k))∧Below w.heap.size w wr) (fun _ i _=>n-(intOf i).toNat)
 case atStart=>exact⟨0,⟨#[]⟩,Nat.zero_le _,rfl,rfl,by simp[zAF],by unfold Hid;simp[zAc,P.write],(Below.refl _ _).alloc (Nat.le_refl _) _⟩
 case round =>
  obtain⟨k,s,hk,rfl,rfl,hsz,HW,hbel⟩:=hrel
  by_cases hlt:k<n
  ·have hkl:k<ts.length:=by rw[← HN.out];exact hlt
   obtain⟨hbt,sa,sc,c0,c1,c2,ho⟩:=zCn HA.out HN.out k hkl
   have d0:=cfL hbel hbt c0
   have d1:=cfL hbel hbt c1
   have d2:=cfL hbel hbt c2
   have hls:=HS.out ts[k] (List.getElem_mem hkl)
   obtain⟨hb0,hb1,hms⟩:=HM.out ts[k] (List.getElem_mem hkl)
   have HMS:=zAa hms
   have HX:=zAa (P.write_snoc ts k hkl)
   have HO:=zAa ho
   generalize hst:ts[k]=t at *
   have hsa:0<t.stmts.length→∃ b,sa=some ⟨b,0,none⟩∧b<w.heap.size:=fun h0=>by
    rcases ho.2 with ⟨e,h0'⟩ | ⟨b',c',cur,e,hb',hg',_⟩
    ·omega
    ·simp only[Value.slice.injEq] at e
     exact⟨b',e.1,(Array.getElem?_eq_some_iff.1 hg').1⟩
   clear hst c0 c1 c2 ho hms
   have hws:w.heap.size≤wr.heap.size:=hbel.size
   have HB1:Hid (Below w.heap.size w (wr.alloc (.cells #[.int .i64 t.block,.int .i64 t.line,.slice sa t.stmts.length sc] 88))):=hbel.alloc hws _
   clear hbel
   go_wp2_with (first | (go_at_call 44;refine (zHY t.block _ hb0 hb1).mono ?_;rintro e w' ⟨sn,rfl,hsn,rfl⟩;have zn:=hsn.size))
   go_loopw [3,24] (fun a j w2=>∃ q:Nat,∃ u:ByteArray,q≤t.stmts.length∧j=.int .i64 q∧a=.string u∧u.size≤k*1000000+20+q*81∧Hid (u.toList=P.write (ts.take k)++([46,116,104,114,101,97,100,32]++P.dec t.block++[10])++P.zMH (t.stmts.take q))∧Below w.heap.size w w2) (fun _ j _=>t.stmts.length-(intOf j).toNat)
   case atStart =>
    refine⟨0,_,Nat.zero_le _,rfl,rfl,?_,?_,HB1.out⟩
    ·simp[zAF];omega
    ·unfold Hid;simp[zAq,zAc,hsn.1,HW.out,P.zMH]
   case round =>
    obtain⟨q,u,hq,rfl,rfl,husz,HU,hbel⟩:=hrel
    by_cases hql:q<t.stmts.length
    ·obtain⟨b,rfl,hblt⟩:=hsa (by omega)
     have hr:=zAa (zAv (zBc HO.out rfl q hql) (hbel.block b hblt))
     have hsmq:=HMS.out t.stmts[q] (List.getElem_mem hql)
     have KS:=zAa (P.writeS_snoc t.stmts q hql)
     generalize hst:t.stmts[q]=st at hr KS hsmq
     clear hst
     have hws2:=hbel.size
     go_wp2_with (first | (refine zAi (.tmp 26) rfl rfl b (q*11) st rfl hr.out ?_) | (go_at_call 45;refine (zHm st _ hsmq).mono ?_;rintro e w3 ⟨si,rfl,hsi,hb3⟩;have zi:=hsi.size))
     go_roundw
     case rel =>
      refine⟨q+1,_,by omega,by go_num,rfl,?_,?_,(hbel.alloc hws2 _).trans (hb3.mono (by simp;omega))⟩
      ·simp[zAF];omega
      ·unfold Hid;rw[KS.out];simp[zAq,zAc,hsi.1,HU.out]
     case measure=>simp[intOf];omega
    ·have hqq:q=t.stmts.length:=by omega
     subst hqq
     have HT:Hid (t.stmts.take t.stmts.length=t.stmts):=List.take_length
     go_wp2
     go_roundw
     case rel =>
      refine⟨k+1,u,by omega,by go_num,rfl,by omega,?_,hbel⟩
      unfold Hid;rw[HX.out,HU.out,HT.out];simp[P.writeT]
     case measure=>simp[intOf];omega
  ·have hkn:k=n:=by omega
   subst hkn
   have HT:Hid (ts.take k=ts):=List.take_of_length_le (by have:=HN.out;omega)
   go_wp2
   go_ret
   exact⟨s,rfl,⟨by rw[HW.out,HT.out],by omega⟩,hbel⟩
end Go.Proofs.YtgceflcbckjjiaaGreatDoor
namespace Go.Proofs.YtgceflcbckjjiaaGreatDoor
open Go
namespace P
def zLH (v:Int) (st:Stm):Bool:=isAcc st.kind&&st.var==v
def zKf (ts:List Thr) (b v:Int):Bool:=ts.any fun t=>t.block==b&&t.stmts.any (zLH v)
def bothReach (ts:List Thr) (v:Int):Bool:=zKf ts 0 v&&zKf ts 1 v
def ofOne (ts:List Thr):Bool:=match ts with
 | []=>true
 | t::r=>(t::r).all fun u=>u.block==t.block
def stays (ts:List Thr) (st:Stm):Bool:=if st.kind==4 then ofOne ts else isAcc st.kind&&!bothReach ts st.var
def zLI (ts:List Thr) (st:Stm):Stm:=if stays ts st then { st with scope:=0 } else st
def zKu (ts:List Thr) (ss:List Stm):List Stm:=ss.map (zLI ts)
def ofReg (k:Int):Bool:=isReg k||k==10||k==11
def zKJ (n:Int):List Stm→Bool
 | []=>true
 | s::r=>if s.kind==5 then zKJ (n+1) r else if n==1&&!ofReg s.kind then false else zKJ n r
def idleB (ts:List Thr) (b:Int):Bool:=ts.all fun t=>t.block != b||zKJ 0 t.stmts
def zKn (n:Int):List Stm→List Stm
 | []=>[]
 | s::r=>if s.kind==5 then (if n+1==2 then zKn (n+1) r else s::zKn (n+1) r) else s::zKn n r
def zMh (a b:Stm):Bool:=a.kind==4&&b.kind==4&&(a.order==5||b.order==4)&&(a.scope==1||b.scope==0)
def covO (p:Option Stm) (s:Stm):Bool:=match p with
 | none=>false
 | some q=>zMh q s
def zKj (p:Option Stm):List Stm→List Stm
 | []=>[]
 | s::r=>if covO p s then zKj p r else s::zKj (some s) r
def zMn (ts:List Thr) (b:Int) (ss:List Stm):List Stm:=if idleB ts b then zKn 0 ss else ss
def trimT (ts:List Thr) (t:Thr):Thr:={ t with stmts:=zKj none (zMn ts t.block (zKu ts t.stmts)) }
def zKM (ts:List Thr):List Thr:=ts.map (trimT ts)
def needs (st:Stm) (shared:Bool):Bool:=st.order==0||(shared&&(st.scope==0||st.order==4))
def zLp (ts:List Thr) (v:Int):Bool:=ts.all fun t=>t.stmts.all fun st=>!(zLH v st&&needs st (bothReach ts v))
def acq (o:Int):Bool:=o==2||o==4
def rel (o:Int):Bool:=o==3||o==4
def zKk (st:Stm):Stm:=⟨4,st.line,0,0,Opd.zero,Opd.zero,4,st.scope,0⟩
def zKN (pr:Int→Bool) (st:Stm):List Stm :=
 if isAcc st.kind&&pr st.var then (if rel st.order then [zKk st] else [])++[{ st with order:=1 }]++(if acq st.order then [zKk st] else []) else [st]
def zKo (pr:Int→Bool):List Stm→List Stm
 | []=>[]
 | s::r=>zKN pr s++zKo pr r
def zKZ (ts:List Thr) (t:Thr):Thr:={ t with stmts:=zKo (zLp ts) t.stmts }
def zLv (ts:List Thr):List Thr:=ts.map (zKZ ts)
def ways (ts:List Thr) (opt fen:Bool):List Thr :=
 if fen then zLv (if opt then zKM ts else ts) else if opt then zKM ts else ts
end P
end Go.Proofs.YtgceflcbckjjiaaGreatDoor
namespace Go.Proofs.YtgceflcbckjjiaaGreatDoor
open Go Go.RowKit
set_option maxRecDepth 100000
theorem zBE (k:Int) (w:World) :
  Calls Tryz.prog 79 #[.int .i64 k] w fun e w'=>e=.returned (.bool (P.isAcc k))∧w'=w:=by
 go_enter Tryz.func79,Tryz.ntmps79
 go_wp2
 all_goals go_ret
 all_goals simp[P.isAcc, *]
theorem zDK (k:Int) (w:World) :
  Calls Tryz.prog 82 #[.int .i64 k] w fun e w'=>e=.returned (.bool (P.acq k))∧w'=w:=by
 go_enter Tryz.func82,Tryz.ntmps82
 go_wp2
 all_goals go_ret
 all_goals simp[P.acq, *]
theorem zDL (k:Int) (w:World) :
  Calls Tryz.prog 81 #[.int .i64 k] w fun e w'=>e=.returned (.bool (P.rel k))∧w'=w:=by
 go_enter Tryz.func81,Tryz.ntmps81
 go_wp2
 all_goals go_ret
 all_goals simp[P.rel, *]
theorem zET (k:Int) (w:World) :
  Calls Tryz.prog 130 #[.int .i64 k] w fun e w'=>e=.returned (.bool (P.ofReg k))∧w'=w:=by
 go_enter Tryz.func130,Tryz.ntmps130
 go_wp2
 all_goals go_ret
 all_goals simp[P.ofReg,P.isReg, *]
theorem zBX (st:P.Stm) (v:Int) (w:World) :
  Calls Tryz.prog 131 #[.agg (zAb st),.int .i64 v] w fun e w'=>e=.returned (.bool (P.zLH v st))∧Below w.heap.size w w':=by
 simp only[zAb]
 cases ha:P.isAcc st.kind<;>cases hv:(st.var==v)
 all_goals
  go_enter Tryz.func131,Tryz.ntmps131
  go_wp2_with (first | (go_at_call 79;refine (zBE _ _).mono ?_;rintro e w' ⟨rfl,rfl⟩;rw[ha]))
  go_ret
  exact⟨by simp[P.zLH,ha,hv],(Below.refl _ _).alloc (Nat.le_refl _) _⟩
theorem zEU (st:P.Stm) (s:Bool) (w:World) :
  Calls Tryz.prog 132 #[.agg (zAb st),.bool s] w fun e w'=>e=.returned (.bool (P.needs st s))∧Below w.heap.size w w':=by
 simp only[zAb]
 cases h0:(st.order==0)<;>cases s<;>cases h1:(st.scope==0)<;>cases h4:(st.order==4)
 all_goals
  go_enter Tryz.func132,Tryz.ntmps132
  go_wp2
  go_ret
  exact⟨by simp[P.needs,h0,h1,h4],(Below.refl _ _).alloc (Nat.le_refl _) _⟩
end Go.Proofs.YtgceflcbckjjiaaGreatDoor
