import Derived.Test.YtgceflcbckjjiaaGreatDoorB23
set_option linter.unusedVariables false
set_option linter.unusedSimpArgs false
namespace Go.Proofs.YtgceflcbckjjiaaGreatDoor
open Go Go.RowKit
set_option maxRecDepth 100000
theorem isAccA_any (k:Int) (w:World) :
  Calls Tryz.prog 79 #[.int .i64 k] w fun e w'=>e=.returned (.bool (k==0||k==1||k==2||k==3))∧w'=w:=by
 go_enter Tryz.func79,Tryz.ntmps79
 go_wp2
 all_goals go_ret
 all_goals simp[*]
set_option maxHeartbeats 400000 in
theorem isOrd_any (k:Int) (w:World) :
  Calls Tryz.prog 86 #[.int .i64 k] w fun e w'=>e=.returned (.bool (P.isOrd k))∧w'=w:=by
 cases h1:(k==0||k==1||k==2||k==3)
 ·go_enter Tryz.func86,Tryz.ntmps86
  go_wp2_with (first | (go_at_call 79;refine (isAccA_any _ _).mono ?_;rintro e w' ⟨rfl,rfl⟩;rw[h1]))
  go_ret
  refine⟨?_,rfl⟩
  simp[P.isOrd,h1]
 ·go_enter Tryz.func86,Tryz.ntmps86
  go_wp2_with (first | (go_at_call 79;refine (isAccA_any _ _).mono ?_;rintro e w' ⟨rfl,rfl⟩;rw[h1]))
  go_ret
  refine⟨?_,rfl⟩
  simp[P.isOrd,h1]
set_option maxHeartbeats 1600000 in
theorem partA_any (st:P.Stm) (c:UInt8) (w:World) (hS:P.Small st) :
  Calls Tryz.prog 88 #[.agg (stmCells st),.int .u8 (c.toNat:Int)] w fun e w'=>∃ s,e=.returned (.string s)∧Txt 10 s (P.partT st c)∧Below w.heap.size w w':=by
 have hc:c.toNat<256:=UInt8.toNat_lt c
 simp only[stmCells]
 cases h1:((c.toNat:Int)==100)
 rotate_left
 ·have HE:Hid (P.partT st c=P.regT st.dest):=by unfold Hid P.partT;rw[if_pos (show c=100 from (byte_eq c 100 (by omega)).1 h1)]
  go_enter Tryz.func88,Tryz.ntmps88
  go_wp2_with (first | (go_at_call 135;refine (regA_any _ _ hS.d0 hS.d1).mono ?_;rintro e w' ⟨s,rfl,hs,rfl⟩))
  go_ret
  rw[unhide HE]
  exact⟨_,rfl,⟨hs.1,by have:=hs.size;omega⟩,(Below.refl _ _).alloc (Nat.le_refl _) _⟩
 have n1:¬ c=100:=fun e=>by subst e;simp at h1
 cases h2:((c.toNat:Int)==118)
 rotate_left
 ·have HE:Hid (P.partT st c=P.celT st.var):=by unfold Hid P.partT;rw[if_neg n1,if_pos (show c=118 from (byte_eq c 118 (by omega)).1 h2)]
  go_enter Tryz.func88,Tryz.ntmps88
  go_wp2_with (first | (go_at_call 136;refine (varA_any _ _).mono ?_;rintro e w' ⟨s,rfl,hs,rfl⟩))
  go_ret
  rw[unhide HE]
  exact⟨_,rfl,⟨hs.1,by have:=hs.size;omega⟩,(Below.refl _ _).alloc (Nat.le_refl _) _⟩
 have n2:¬ c=118:=fun e=>by subst e;simp at h2
 cases h3:((c.toNat:Int)==97)
 rotate_left
 ·have HE:Hid (P.partT st c=P.opdT st.a):=by unfold Hid P.partT;rw[if_neg n1,if_neg n2,if_pos (show c=97 from (byte_eq c 97 (by omega)).1 h3)]
  go_enter Tryz.func88,Tryz.ntmps88
  go_wp2_with (first | (go_at_call 137;refine (opdA_any st.a _ hS.a0 hS.a1).mono ?_;rintro e w1 ⟨s,rfl,hs,hb⟩))
  go_ret
  rw[unhide HE]
  exact⟨_,rfl,⟨hs.1,by have:=hs.size;omega⟩,((Below.refl _ _).alloc (Nat.le_refl _) _).trans (hb.mono (by simp))⟩
 have n3:¬ c=97:=fun e=>by subst e;simp at h3
 cases h4:((c.toNat:Int)==98)
 rotate_left
 ·have HE:Hid (P.partT st c=P.opdT st.b):=by unfold Hid P.partT;rw[if_neg n1,if_neg n2,if_neg n3,if_pos (show c=98 from (byte_eq c 98 (by omega)).1 h4)]
  go_enter Tryz.func88,Tryz.ntmps88
  go_wp2_with (first | (go_at_call 137;refine (opdA_any st.b _ hS.b0 hS.b1).mono ?_;rintro e w1 ⟨s,rfl,hs,hb⟩))
  go_ret
  rw[unhide HE]
  exact⟨_,rfl,⟨hs.1,by have:=hs.size;omega⟩,((Below.refl _ _).alloc (Nat.le_refl _) _).trans (hb.mono (by simp))⟩
 have n4:¬ c=98:=fun e=>by subst e;simp at h4
 have HE:Hid (P.partT st c=P.labT st.label):=by unfold Hid P.partT;rw[if_neg n1,if_neg n2,if_neg n3,if_neg n4]
 go_enter Tryz.func88,Tryz.ntmps88
 go_wp2_with (first | (go_at_call 84;refine (labA_any _ _ hS.l0 hS.l1).mono ?_;rintro e w' ⟨s,rfl,hs,rfl⟩))
 go_ret
 rw[unhide HE]
 exact⟨_,rfl,⟨hs.1,by have:=hs.size;omega⟩,(Below.refl _ _).alloc (Nat.le_refl _) _⟩
set_option maxHeartbeats 3200000 in
theorem instr_any (st:P.Stm) (w:World) (hS:P.Small st) :
  Calls Tryz.prog 45 #[.agg (stmCells st)] w fun e w'=>∃ s,e=.returned (.string s)∧Txt 80 s (P.instr st)∧Below w.heap.size w w':=by
 cases hk:(st.kind==11)
 rotate_left
 ·have HE:=hide (P.instr_end st hk)
  simp only[stmCells]
  go_enter Tryz.func45,Tryz.ntmps45
  go_wp2_with (first | (go_at_call 84;refine (labA_any _ _ hS.l0 hS.l1).mono ?_;rintro e w' ⟨s,rfl,hs,rfl⟩;have hsz:=hs.size))
  go_ret
  rw[unhide HE]
  refine⟨_,rfl,⟨?_,?_⟩,(Below.refl _ _).alloc (Nat.le_refl _) _⟩
  ·simp[app_toList,lit_toList,hs.1]
  ·simp[lit_size];omega
 have HE:=hide (P.instr_lay st hk)
 have hSt:=hide (StmAt.new w st)
 have hBl:Hid (Below w.heap.size w (w.alloc (.cells (stmCells st) 96))):=(Below.refl _ _).alloc (Nat.le_refl _) _
 cases ho:P.isOrd st.kind
 all_goals
  simp only[stmCells]
  go_enter Tryz.func45,Tryz.ntmps45
  go_wp2_with (first
   | (go_at_call 85;refine (layA_any _ _).mono ?_;rintro e w' ⟨sl,so,rfl,hsl,hso,rfl⟩;have hz1:=hsl.size;have hz2:=hso.size)
   | (go_at_call 86;refine (isOrd_any _ _).mono ?_;rintro e w' ⟨rfl,rfl⟩;rw[ho])
   | (go_at_call 87;refine (sufA_any _ _ _).mono ?_;rintro e w' ⟨ss,rfl,hss,rfl⟩;have hz3:=hss.size))
 ·have HB:Hid (sl.toList=(P.layT st.kind).1++(if P.isOrd st.kind then P.sufO st.order st.scope else [])):=by unfold Hid;rw[ho,hsl.1];simp
  have hz4:sl.size≤40:=by omega
  go_loopw [3,5,6] (fun a b i wr=>∃ k:Nat,∃ ln bt:ByteArray,k≤so.size∧i=.int .i64 k∧a=.string ln∧b=.string bt∧ln.size≤40+k*12∧bt.size≤2∧Hid (ln.toList=(P.layT st.kind).1++(if P.isOrd st.kind then P.sufO st.order st.scope else [])++P.joinT st (so.toList.take k))∧Hid (bt.toList=P.betT (so.toList.take k)) ∧
    Hid (StmAt wr w.heap.size st)∧Hid (Below w.heap.size w wr)) (fun _ _ i _=>so.size-(intOf i).toNat)
  case atStart=>exact⟨0,_,_,Nat.zero_le _,rfl,rfl,rfl,by omega,by simp[lit_size],by unfold Hid;rw[HB.out];simp[P.joinT],by unfold Hid;simp[P.betT,lit_toList],hSt,hBl⟩
  case round =>
   obtain⟨k,ln,bt,hk,rfl,rfl,rfl,hlz,hbz,HL,HT,HS1,HB1⟩:=hrel
   by_cases hlt:k<so.size
   ·have HSn:=hide (take_snoc so k hlt)
    obtain⟨f1,f2,c0,c1,c2,c3,c4,c5,c6,c7,c8,c9,c10⟩:=HS1.out.facts
    go_wp2
    go_region_with (go_at_call 88;refine (partA_any st so[k] _ hS).mono ?_;rintro e w3 ⟨sp,rfl,hsp,hb3⟩;have hz5:=hsp.size;have G3:=hide (HS1.out.drew.below hb3);have B3:=hide ((HB1.out.drew).trans (hb3.mono (by have:=HB1.out.size;simp;omega))))
    all_goals
     go_wp2
     go_roundw
     case rel =>
      refine⟨k+1,_,_,by omega,by go_num,rfl,rfl,?_,by simp[lit_size],?_,?_,G3,B3⟩
      ·simp;omega
      ·unfold Hid;rw[HSn.out,P.joinT_snoc];simp[app_toList,HL.out,HT.out,hsp.1]
      ·unfold Hid;rw[HSn.out];simp[lit_toList,P.betT]
     case measure=>simp[intOf];omega
   ·have hks:k=so.size:=by omega
    have HX:Hid (so.toList.take k=(P.layT st.kind).2):=by unfold Hid;rw[List.take_of_length_le (by rw[size_toList];omega),hso.1]
    go_wp2
    go_ret
    rw[unhide HE]
    refine⟨_,rfl,⟨?_,by omega⟩,HB1.out⟩
    rw[HL.out,HX.out]
 ·have HB:Hid ((sl++ss).toList=(P.layT st.kind).1++(if P.isOrd st.kind then P.sufO st.order st.scope else [])):=by unfold Hid;rw[ho,app_toList,hsl.1,hss.1];simp
  have hz4:(sl++ss).size≤40:=by simp;omega
  go_loopw [3,5,6] (fun a b i wr=>∃ k:Nat,∃ ln bt:ByteArray,k≤so.size∧i=.int .i64 k∧a=.string ln∧b=.string bt∧ln.size≤40+k*12∧bt.size≤2∧Hid (ln.toList=(P.layT st.kind).1++(if P.isOrd st.kind then P.sufO st.order st.scope else [])++P.joinT st (so.toList.take k))∧Hid (bt.toList=P.betT (so.toList.take k)) ∧
    Hid (StmAt wr w.heap.size st)∧Hid (Below w.heap.size w wr)) (fun _ _ i _=>so.size-(intOf i).toNat)
  case atStart=>exact⟨0,_,_,Nat.zero_le _,rfl,rfl,rfl,by omega,by simp[lit_size],by unfold Hid;rw[HB.out];simp[P.joinT],by unfold Hid;simp[P.betT,lit_toList],hSt,hBl⟩
  case round =>
   obtain⟨k,ln,bt,hk,rfl,rfl,rfl,hlz,hbz,HL,HT,HS1,HB1⟩:=hrel
   by_cases hlt:k<so.size
   ·have HSn:=hide (take_snoc so k hlt)
    obtain⟨f1,f2,c0,c1,c2,c3,c4,c5,c6,c7,c8,c9,c10⟩:=HS1.out.facts
    go_wp2
    go_region_with (go_at_call 88;refine (partA_any st so[k] _ hS).mono ?_;rintro e w3 ⟨sp,rfl,hsp,hb3⟩;have hz5:=hsp.size;have G3:=hide (HS1.out.drew.below hb3);have B3:=hide ((HB1.out.drew).trans (hb3.mono (by have:=HB1.out.size;simp;omega))))
    all_goals
     go_wp2
     go_roundw
     case rel =>
      refine⟨k+1,_,_,by omega,by go_num,rfl,rfl,?_,by simp[lit_size],?_,?_,G3,B3⟩
      ·simp;omega
      ·unfold Hid;rw[HSn.out,P.joinT_snoc];simp[app_toList,HL.out,HT.out,hsp.1]
      ·unfold Hid;rw[HSn.out];simp[lit_toList,P.betT]
     case measure=>simp[intOf];omega
   ·have hks:k=so.size:=by omega
    have HX:Hid (so.toList.take k=(P.layT st.kind).2):=by unfold Hid;rw[List.take_of_length_le (by rw[size_toList];omega),hso.1]
    go_wp2
    go_ret
    rw[unhide HE]
    refine⟨_,rfl,⟨?_,by omega⟩,HB1.out⟩
    rw[HL.out,HX.out]
end Go.Proofs.YtgceflcbckjjiaaGreatDoor
