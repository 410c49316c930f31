import Derived.Test.YtgceflcbckjjiaaGreatDoorB28
set_option linter.unusedVariables false
set_option linter.unusedSimpArgs false
namespace Go.Proofs.YtgceflcbckjjiaaGreatDoor
open Go Go.RowKit
set_option maxRecDepth 100000
theorem ordGo_step (kind:Int) (l:List UInt8) (f o sc:Nat) (hs:sc<2):P.ordGo kind l (f+1) (2*o+sc)=if P.allows kind (o:Int)&&l==P.sufO (o:Int) (sc:Int) then some ((o:Int),(sc:Int)) else P.ordGo kind l f (2*o+sc+1):=by
 rw[P.ordGo]
 have h1:(2*o+sc) / 2=o:=by omega
 have h2:(2*o+sc) % 2=sc:=by omega
 rw[h1,h2]
set_option maxHeartbeats 1600000 in
theorem readOrd_any (g:Nat) (st:P.Stm) (s:ByteArray) (w:World) (h:StmAt w g st) :
  Calls Tryz.prog 166 #[.pointer (some ⟨g,0,none⟩),.string s] w fun e w'=>e=.returned (.bool (P.readOrd st s.toList).2)∧StmAt w' g (P.readOrd st s.toList).1∧w.grownBy w' (some g):=by
 obtain⟨glt,gfr,g0,g1,g2,g3,g4,g5,g6,g7,g8,g9,g10⟩:=h.facts
 have HA:=hide h
 clear h
 cases ho:P.isOrd st.kind
 ·have HE:Hid (P.readOrd st s.toList=(st,s.toList==[])):=by unfold Hid P.readOrd;rw[ho];rfl
  cases hs:s.toList.isEmpty
  all_goals
   have hs2:(s.toList==[])=s.toList.isEmpty:=by cases s.toList<;>rfl
   go_enter Tryz.func166,Tryz.ntmps166
   go_wp2_with (first | (go_at_call 86;refine (isOrd_any _ _).mono ?_;rintro e w' ⟨rfl,rfl⟩;rw[ho]))
   go_ret
   rw[HE.out,hs2,hs];exact⟨rfl,HA.out,grown_refl _ _⟩
 ·have HE:Hid (P.readOrd st s.toList=match P.ordGo st.kind s.toList 12 0 with | some (o,sc)=>({ st with order:=o,scope:=sc },true) | none=>(st,false)):=by unfold Hid P.readOrd;rw[ho];rfl
  go_enter Tryz.func166,Tryz.ntmps166
  go_wp2_with (first | (go_at_call 86;refine (isOrd_any _ _).mono ?_;rintro e w' ⟨rfl,rfl⟩;rw[ho]))
  go_loop [5] (fun i=>∃ o:Nat,o≤6∧i=.int .i64 o∧Hid (P.ordGo st.kind s.toList 12 0=P.ordGo st.kind s.toList (12-2*o) (2*o))) (fun i=>6-(intOf i).toNat)
  case atStart=>exact⟨0,by omega,rfl,rfl⟩
  case round =>
   obtain⟨o,hoo,rfl,HO⟩:=hrel
   by_cases hlt:o<6
   ·have hin:(o:Int)≤5:=by omega
    go_wp2
    go_loop [6] (fun i=>∃ sc:Nat,sc≤2∧i=.int .i64 sc∧Hid (P.ordGo st.kind s.toList 12 0=P.ordGo st.kind s.toList (12-2*o-sc) (2*o+sc))) (fun i=>2-(intOf i).toNat)
    case atStart=>exact⟨0,by omega,rfl,HO⟩
    case round =>
     obtain⟨sc,hsc,rfl,HS⟩:=hrel
     by_cases hls:sc<2
     ·have his:(sc:Int)≤1:=by omega
      have HST:Hid (P.ordGo st.kind s.toList 12 0=if P.allows st.kind (o:Int)&&s.toList==P.sufO (o:Int) (sc:Int) then some ((o:Int),(sc:Int)) else P.ordGo st.kind s.toList (12-2*o-(sc+1)) (2*o+(sc+1))):=by
       unfold Hid;rw[HS.out,show 12-2*o-sc=(12-2*o-(sc+1))+1 by omega,ordGo_step _ _ _ _ _ hls];rfl
      cases ha:P.allows st.kind (o:Int)
      ·have HN:Hid (P.ordGo st.kind s.toList 12 0=P.ordGo st.kind s.toList (12-2*o-(sc+1)) (2*o+(sc+1))):=by unfold Hid;rw[HST.out,ha];rfl
       clear HST HS
       go_wp2_with (first | (go_at_call 188;refine (allows_any _ _ _).mono ?_;rintro e w' ⟨rfl,rfl⟩;rw[ha]))
       go_round
       case rel=>exact⟨sc+1,by omega,by go_num,HN⟩
       case measure=>simp[intOf];omega
      ·cases hb:(s.toList==P.sufO (o:Int) (sc:Int))
       ·have HN:Hid (P.ordGo st.kind s.toList 12 0=P.ordGo st.kind s.toList (12-2*o-(sc+1)) (2*o+(sc+1))):=by unfold Hid;rw[HST.out,ha,hb];rfl
        have HB:=hide hb
        clear HST HS hb
        go_wp2_with (first | (go_at_call 188;refine (allows_any _ _ _).mono ?_;rintro e w' ⟨rfl,rfl⟩;rw[ha]) | (go_at_call 87;refine (sufA_any _ _ _).mono ?_;rintro e w' ⟨t,rfl,ht,rfl⟩;have hq:(s.toList==t.toList)=false:=(by rw[ht.1];exact HB.out)))
        go_round
        case rel=>exact⟨sc+1,by omega,by go_num,HN⟩
        case measure=>simp[intOf];omega
       ·have HN:Hid (P.readOrd st s.toList=({ st with order:=(o:Int),scope:=(sc:Int) },true)):=by unfold Hid;rw[HE.out,HST.out,ha,hb];rfl
        have HB:=hide hb
        have HF:=hide ((HA.out.setOrder (o:Int)).setScope (sc:Int))
        clear HST HS hb
        go_wp2_with (first | (go_at_call 188;refine (allows_any _ _ _).mono ?_;rintro e w' ⟨rfl,rfl⟩;rw[ha]) | (go_at_call 87;refine (sufA_any _ _ _).mono ?_;rintro e w' ⟨t,rfl,ht,rfl⟩;have hq:(s.toList==t.toList)=true:=(by rw[ht.1];exact HB.out)))
        go_ret
        rw[HN.out];exact⟨rfl,HF.out,grown_setCell (grown_setCell (grown_refl _ _) _ _) _ _⟩
     ·have hs2:sc=2:=by omega
      have HN:Hid (P.ordGo st.kind s.toList 12 0=P.ordGo st.kind s.toList (12-2*(o+1)) (2*(o+1))):=by
       unfold Hid;rw[HS.out,hs2,show 12-2*o-2=12-2*(o+1) by omega,show 2*o+2=2*(o+1) by omega]
      clear HS
      go_wp2
      go_round
      case rel=>exact⟨o+1,by omega,by go_num,HN⟩
      case measure=>simp[intOf];omega
   ·have ho6:o=6:=by omega
    have HN:Hid (P.readOrd st s.toList=(st,false)):=by unfold Hid;rw[HE.out,HO.out,ho6];rfl
    go_wp2
    go_ret
    rw[HN.out];exact⟨rfl,HA.out,grown_refl _ _⟩
set_option maxHeartbeats 3200000 in
theorem readPart_any (g:Nat) (st:P.Stm) (c:UInt8) (s:ByteArray) (w:World) (h:StmAt w g st) (hl0:0≤st.label) (hl1:st.label<100) :
  Calls Tryz.prog 189 #[.pointer (some ⟨g,0,none⟩),.int .u8 (c.toNat:Int),.string s] w fun e w'=>e=.returned (.bool (P.partR st c s.toList).2)∧StmAt w' g (P.partR st c s.toList).1∧w.grownBy w' (some g):=by
 obtain⟨glt,gfr,g0,g1,g2,g3,g4,g5,g6,g7,g8,g9,g10⟩:=h.facts
 have HA:=hide h
 clear h
 cases h1:((c.toNat:Int)==100)
 rotate_left
 ·have hc:c=100:=(byte_eq c 100 (by omega)).1 h1
  have HE:Hid (P.partR st c s.toList=({ st with dest:=(P.readReg s.toList).1 },(P.readReg s.toList).2)):=by unfold Hid P.partR;rw[if_pos hc]
  have HF:Hid (StmAt (w.setCell ⟨g,2,none⟩ (.int .i64 (P.readReg s.toList).1)) g { st with dest:=(P.readReg s.toList).1 }):=HA.out.set _ 2 _ rfl
  clear hc
  go_enter Tryz.func189,Tryz.ntmps189
  go_wp2_with (first | (go_at_call 209;refine (readReg_any s _).mono ?_;rintro e w' ⟨rfl,rfl⟩))
  go_ret
  rw[HE.out];exact⟨rfl,HF.out,grown_setCell (grown_refl _ _) _ _⟩
 have n1:¬ c=100:=fun e=>by subst e;simp at h1
 cases h2:((c.toNat:Int)==118)
 rotate_left
 ·have hc:c=118:=(byte_eq c 118 (by omega)).1 h2
  have HE:Hid (P.partR st c s.toList=({ st with var:=(P.readVar s.toList).1 },(P.readVar s.toList).2)):=by unfold Hid P.partR;rw[if_neg n1,if_pos hc]
  have HF:=hide (HA.out.setVar (P.readVar s.toList).1)
  clear hc n1
  go_enter Tryz.func189,Tryz.ntmps189
  go_wp2_with (first | (go_at_call 210;refine (readVar_any s _).mono ?_;rintro e w' ⟨rfl,rfl⟩))
  go_ret
  rw[HE.out];exact⟨rfl,HF.out,grown_setCell (grown_refl _ _) _ _⟩
 have n2:¬ c=118:=fun e=>by subst e;simp at h2
 cases h3:((c.toNat:Int)==97)
 rotate_left
 ·have hc:c=97:=(byte_eq c 97 (by omega)).1 h3
  have HE:Hid (P.partR st c s.toList=({ st with a:=(P.readOpd s.toList).1 },(P.readOpd s.toList).2)):=by unfold Hid P.partR;rw[if_neg n1,if_neg n2,if_pos hc]
  clear hc n1 n2
  go_enter Tryz.func189,Tryz.ntmps189
  go_wp2_with (first | (go_at_call 211;refine (readOpd_any s _).mono ?_;rintro e w1 ⟨rfl,hb1⟩;have HA1:=hide (HA.out.below hb1);have HF:=hide ((HA1.out.setA (P.readOpd s.toList).1).alloc (.cells #[.bool (P.readOpd s.toList).1.reg,.int .i64 (P.readOpd s.toList).1.n] 94));obtain⟨glt,gfr,g0,g1,g2,g3,g4,g5,g6,g7,g8,g9,g10⟩:=HA1.out.facts))
  go_ret
  rw[HE.out];exact⟨rfl,HF.out,grown_alloc (grown_setCell (grown_setCell (grown_of_below hb1 _) _ _) _ _) _⟩
 have n3:¬ c=97:=fun e=>by subst e;simp at h3
 cases h4:((c.toNat:Int)==98)
 rotate_left
 ·have hc:c=98:=(byte_eq c 98 (by omega)).1 h4
  have HE:Hid (P.partR st c s.toList=({ st with b:=(P.readOpd s.toList).1 },(P.readOpd s.toList).2)):=by unfold Hid P.partR;rw[if_neg n1,if_neg n2,if_neg n3,if_pos hc]
  clear hc n1 n2 n3
  go_enter Tryz.func189,Tryz.ntmps189
  go_wp2_with (first | (go_at_call 211;refine (readOpd_any s _).mono ?_;rintro e w1 ⟨rfl,hb1⟩;have HA1:=hide (HA.out.below hb1);have HF:=hide ((HA1.out.setB (P.readOpd s.toList).1).alloc (.cells #[.bool (P.readOpd s.toList).1.reg,.int .i64 (P.readOpd s.toList).1.n] 94));obtain⟨glt,gfr,g0,g1,g2,g3,g4,g5,g6,g7,g8,g9,g10⟩:=HA1.out.facts))
  go_ret
  rw[HE.out];exact⟨rfl,HF.out,grown_alloc (grown_setCell (grown_setCell (grown_of_below hb1 _) _ _) _ _) _⟩
 have n4:¬ c=98:=fun e=>by subst e;simp at h4
 have HE:Hid (P.partR st c s.toList=(st,s.toList==P.labT st.label)):=by unfold Hid P.partR;rw[if_neg n1,if_neg n2,if_neg n3,if_neg n4]
 clear n1 n2 n3 n4
 cases hb:(s.toList==P.labT st.label)
 all_goals
  have HB:=hide hb
  clear hb
  go_enter Tryz.func189,Tryz.ntmps189
  go_wp2_with (first | (go_at_call 84;refine (labA_any _ _ hl0 hl1).mono ?_;rintro e w' ⟨t,rfl,ht,rfl⟩;have hq:=(show (s.toList==t.toList)=(s.toList==P.labT st.label) by rw[ht.1]).trans HB.out))
  go_ret
  rw[HE.out,HB.out];exact⟨rfl,HA.out,grown_refl _ _⟩
end Go.Proofs.YtgceflcbckjjiaaGreatDoor
