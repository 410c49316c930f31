import Derived.Test.YtgceflcbckjjiaaGreatDoorB25
import Derived.Test.YtgceflcbckjjiaaGreatDoorB26
set_option linter.unusedVariables false
set_option linter.unusedSimpArgs false
namespace Go.Proofs.YtgceflcbckjjiaaGreatDoor
open Go Go.RowKit
set_option maxRecDepth 100000
theorem toList_get (s:ByteArray) (k:Nat) (h:k<s.size):s.toList[k]'(by rw[size_toList];exact h)=s[k]:=by
 have e:s.toList=s.data.toList:=toList_data s
 simp only[e]
 rfl
theorem cutA_at (l:List UInt8) (k:Nat) (hk:k<l.length) (hn:∀ c∈l.take k,c≠32) (hc:l[k]=32):P.cutA l=(l.take k,P.splitW 44 32 (l.drop (k+1))):=by
 have e:l=l.take k++32::l.drop (k+1):=by
  conv=>lhs;rw[← List.take_append_drop k l]
  rw[List.drop_eq_getElem_cons hk,hc]
 have h1:∀ (p q:List UInt8),(∀ c∈p,c≠32)→(p++32::q).takeWhile (fun c=>c != 32)=p∧(p++32::q).dropWhile (fun c=>c != 32)=32::q∧(p++32::q).any (fun c=>c==32)=true:=by
  intro p q
  induction p with
  | nil=>intro _;simp
  | cons x r ih =>
   intro h
   have hx:x≠32:=h x (by simp)
   obtain⟨a,b,c⟩:=ih (fun c hc=>h c (by simp[hc]))
   simp[hx,a,b]
 obtain⟨a,b,c⟩:=h1 (l.take k) (l.drop (k+1)) hn
 unfold P.cutA
 rw[← e] at a b c
 rw[a,b,c]
 simp
theorem cutA_none (l:List UInt8) (hn:∀ c∈l,c≠32):P.cutA l=(l,[]):=by
 unfold P.cutA
 have h1:l.takeWhile (fun c=>c != 32)=l:=by
  induction l with
  | nil=>rfl
  | cons x r ih=>have hx:x≠32:=hn x (by simp);simp[hx,ih (fun c hc=>hn c (by simp[hc]))]
 have h2:l.any (fun c=>c==32)=false:=by
  rw[List.any_eq_false];intro c hc;simpa using hn c hc
 rw[h1,h2];rfl
def OpsAt (w:World) (v:Value) (ws:List ByteArray):Prop:=∃ a cap,v=.slice a ws.length cap∧ws.length≤cap∧(ws≠[]→∃ g,a=some ⟨g,0,none⟩∧WordsAt w g 0 ws∧g<w.heap.size)
def CutOut (s:ByteArray) (w w':World) (e:Ending):Prop:=∃ (f:ByteArray) (v:Value) (ws:List ByteArray),e=.returned (.tuple #[.string f,v])∧f.toList=(P.cutA s.toList).1∧ws.map ByteArray.toList=(P.cutA s.toList).2∧OpsAt w' v ws∧f.size≤s.size∧ws.length≤8193∧Below w.heap.size w w'
set_option maxHeartbeats 1600000 in
theorem cut_any (s:ByteArray) (w:World) (hs:s.size≤8192) :
  Calls Tryz.prog 165 #[.string s] w fun e w'=>CutOut s w w' e:=by
 go_enter Tryz.func165,Tryz.ntmps165
 go_wp2
 go_loop [4] (fun i=>∃ k:Nat,k≤s.size∧i=.int .i64 k∧Hid (∀ c∈s.toList.take k,c≠32)) (fun i=>s.size-(intOf i).toNat)
 case atStart=>exact⟨0,Nat.zero_le _,rfl,by unfold Hid;simp⟩
 case round =>
  obtain⟨k,hk,rfl,HK⟩:=hrel
  by_cases hlt:k<s.size
  ·by_cases hc:s[k]=32
   ·have hc':((s[k].toNat:Int)==32)=true:=by simp[hc]
    have HE:Hid (P.cutA s.toList=(s.toList.take k,P.splitW 44 32 (s.toList.drop (k+1)))):=cutA_at _ k (by rw[size_toList];exact hlt) HK.out (by rw[toList_get s k hlt];exact hc)
    have hsz:=extract_size s (k+1) s.size
    have hk1:(k:Int)+1≤(s.size:Int):=by omega
    have hki:(k:Int)≤(s.size:Int):=by omega
    have hkl:(k:Int)<(s.size:Int):=by omega
    have htn:((k:Int)+1).toNat=k+1:=by omega
    have hk0:(0:Int)≤(k:Int):=by omega
    have hk01:(0:Int)≤(k:Int)+1:=by omega
    have HX:Hid ((s.extract 0 k).toList=s.toList.take k∧(s.extract (k+1) s.size).toList=s.toList.drop (k+1)):=by
     unfold Hid;rw[extract_toList,extract_toList,List.take_of_length_le (i:=s.size) (by rw[size_toList];exact Nat.le_refl _)];simp
    have hz0:=extract_size s 0 k
    have hwp:IntKind.i64.wrap ((k:Int)+1)=(k:Int)+1:=by simp[IntKind.wrap,IntKind.signed,IntKind.bits];omega
    have hs1:∀ wx,(Instr.slice 9 (.string s) (some (.int .i64 ((k:Int)+1))) none none).run Tryz.prog wx=.ok (.string (s.extract (k+1) s.size)) wx:=fun wx=>by
     rw[run_slice_string_from_if _ _ _ _ _ Tryz.underlying9,if_pos (by omega),htn]
    have hs2:∀ wx,(Instr.slice 9 (.string s) none (some (.int .i64 (k:Int))) none).run Tryz.prog wx=.ok (.string (s.extract 0 k)) wx:=fun wx=>by
     rw[run_slice_string_to_if _ _ _ _ _ Tryz.underlying9,if_pos (by omega)];rfl
    clear hc
    go_wp2
    go_region_with (go_at_call 52;refine (splitW_any 44 32 (s.extract (k+1) s.size) _ (by omega)).mono ?_;rintro e w1 ⟨g,cap,ws,rfl,hws,hown,hb1⟩;have HW:=hide hws;have HO:=hide hown;clear hws hown)
    all_goals
     go_wp2
     go_ret2
     obtain⟨o1,o2,o3⟩:=own_words HO.out
     refine⟨_,_,ws,rfl,?_,?_,⟨_,cap,rfl,o2,fun _=>⟨g,rfl,o1,o3⟩⟩,?_,?_,?_⟩
     ·rw[HE.out];exact HX.out.1
     ·rw[HE.out,HW.out,HX.out.2]
     ·exact hz0
     ·have:=P.splitW_le 44 32 (s.extract (k+1) s.size).toList
      rw[← HW.out,List.length_map,size_toList] at this;omega
     ·exact ((Below.refl w.heap.size w).drew).trans (hb1.mono (by simp))
   ·have hc':((s[k].toNat:Int)==32)=false:=by
     cases hx:((s[k].toNat:Int)==32)
     ·rfl
     ·exact absurd ((byte_eq _ 32 (by omega)).1 hx) hc
    have HK2:Hid (∀ c∈s.toList.take (k+1),c≠32):=by
     intro c hcm
     rw[take_snoc s k hlt] at hcm
     rcases List.mem_append.1 hcm with h | h
     ·exact HK.out c h
     ·simp at h;rw[h];exact hc
    clear hc
    go_wp2
    go_round
    case rel=>exact⟨k+1,by omega,by go_num,HK2⟩
    case measure=>simp[intOf];omega
  ·have HE:Hid (P.cutA s.toList=(s.toList,[])):=cutA_none _ (by have h1:=HK.out;rw[List.take_of_length_le (by rw[size_toList];omega)] at h1;exact h1)
   go_wp2
   go_ret2
   refine⟨s,.slice none 0 0,[],rfl,by rw[HE.out],by rw[HE.out];rfl,⟨none,0,rfl,Nat.le_refl _,fun h=>absurd rfl h⟩,Nat.le_refl _,by simp,Below.refl _ _⟩
end Go.Proofs.YtgceflcbckjjiaaGreatDoor
