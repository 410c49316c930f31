import Derived.Test.YtgceflcbckjjiaaGreatDoorB24
set_option linter.unusedVariables false
set_option linter.unusedSimpArgs false
namespace Go.Proofs.YtgceflcbckjjiaaGreatDoor
open Go Go.RowKit
set_option maxRecDepth 100000
theorem two_eq (s:ByteArray) (a b:UInt8) (k:Nat) (h:k+2≤s.size):((s.extract k (k+2)).toList==(⟨#[a,b]⟩:ByteArray).toList)=decide (s.toList.drop k=a::b::s.toList.drop (k+2)):=by
 have hl:s.toList.length=s.size:=size_toList s
 have e:(s.extract k (k+2)).toList=(s.toList.drop k).take 2:=by
  rw[extract_toList,List.take_drop]
 have e2:(⟨#[a,b]⟩:ByteArray).toList=[a,b]:=by rw[toList_data]
 have e3:s.toList.drop k=(s.toList.drop k).take 2++s.toList.drop (k+2):=by
  have:=(List.take_append_drop 2 (s.toList.drop k)).symm
  rwa [List.drop_drop] at this
 rw[e,e2]
 by_cases hc:(s.toList.drop k).take 2=[a,b]
 ·rw[hc] at e3 ⊢
  have:s.toList.drop k=a::b::s.toList.drop (k+2):=by rw[e3];rfl
  simp[this]
 ·have h2:¬ s.toList.drop k=a::b::s.toList.drop (k+2):=fun e4=>hc (by rw[e4];rfl)
  rw[decide_eq_false h2]
  simpa using hc
def CutW (a b:UInt8) (s:List UInt8) (m j:Nat) (bs:List (List UInt8)):Prop:=bs++P.preH ((s.take j).drop m) (P.splitW a b (s.drop j))=P.splitW a b s
theorem cutW_start (a b:UInt8) (s:List UInt8):CutW a b s 0 0 []:=by unfold CutW;simp[P.preH_nil _ (P.splitW_ne a b s)]
theorem cutW_hit {a b:UInt8} {s:List UInt8} {m j:Nat} {bs:List (List UInt8)} (h:CutW a b s m j bs) (hd:s.drop j=a::b::s.drop (j+2)):CutW a b s (j+2) (j+2) (bs++[(s.take j).drop m]):=by
 unfold CutW at *
 rw[hd,P.splitW_hit] at h
 rw[← h]
 have e:(s.take (j+2)).drop (j+2)=[]:=List.drop_of_length_le (by rw[List.length_take];omega)
 rw[e,P.preH_nil _ (P.splitW_ne _ _ _)]
 simp[P.preH]
theorem cutW_miss {a b:UInt8} {s:List UInt8} {m j:Nat} {bs:List (List UInt8)} (h:CutW a b s m j bs) (hm:m≤j) (hj:j<s.length) (hd:¬ s.drop j=a::b::s.drop (j+2)):CutW a b s m (j+1) bs:=by
 unfold CutW at *
 have e1:s.drop j=s[j]::s.drop (j+1):=List.drop_eq_getElem_cons hj
 have hne:¬ (s[j]=a∧(s.drop (j+1)).head?=some b):=by
  rintro ⟨h1,h2⟩
  apply hd
  rw[e1,h1]
  congr 1
  cases hx:s.drop (j+1) with
  | nil=>rw[hx] at h2;simp at h2
  | cons y q =>
   rw[hx] at h2;simp at h2
   have:s.drop (j+2)=q:=by rw[show j+2=(j+1)+1 by omega,← List.drop_drop,hx];rfl
   rw[this,h2]
 rw[e1,P.splitW_miss a b _ _ hne,P.preH_preH _ _ _ (P.splitW_ne _ _ _)] at h
 rw[← h,List.take_succ_eq_append_getElem hj,List.drop_append_of_le_length (by rw[List.length_take];omega)]
theorem cutW_end {a b:UInt8} {s:List UInt8} {m j:Nat} {bs:List (List UInt8)} (h:CutW a b s m j bs) (hm:m≤j) (hj:s.length≤j+1):bs++[s.drop m]=P.splitW a b s:=by
 unfold CutW at h
 rw[P.splitW_short a b (s.drop j) (by simp;omega)] at h
 rw[← h]
 simp only[P.preH]
 by_cases hl:j≤s.length
 ·rw[← List.drop_append_of_le_length (by rw[List.length_take];omega),List.take_append_drop]
 ·rw[List.take_of_length_le (by omega),List.drop_of_length_le (l:=s) (i:=j) (by omega),List.append_nil]
set_option maxHeartbeats 1600000 in
theorem splitW_any (a b:UInt8) (s:ByteArray) (w:World) (hs:s.size≤8192) :
  Calls Tryz.prog 52 #[.string s,.string ⟨#[a,b]⟩] w fun e w'=>∃ g cap,∃ ws:List ByteArray,e=.returned (.slice (some ⟨g,0,none⟩) ws.length cap)∧ws.map ByteArray.toList=P.splitW a b s.toList ∧
   w'.ownsRow w.heap.size 9 1 (.slice (some ⟨g,0,none⟩) ws.length cap) ws.length (ws.map Value.string)∧Below w.heap.size w w':=by
 obtain⟨i0,hi,hz0,hz1,hz2⟩:=info_parts Tryz.infoStr
 have htwo:(⟨#[a,b]⟩:ByteArray).size=2:=rfl
 generalize hbet:(⟨#[a,b]⟩:ByteArray)=bet at *
 go_enter Tryz.func52,Tryz.ntmps52
 go_wp2
 go_loopw [5,6,7] (fun v f i wr=>∃ k m:Nat,∃ bs:List ByteArray,k≤s.size∧m≤k+1∧m≤s.size∧i=.int .i64 k∧f=.int .i64 m∧bs.length≤k∧Hid (CutW a b s.toList m (max k m) (bs.map ByteArray.toList)) ∧
   wr.ownsRow w.heap.size 9 1 v bs.length (bs.map Value.string)∧Below w.heap.size w wr) (fun _ _ i _=>s.size-(intOf i).toNat)
 case atStart=>exact⟨0,0,[],Nat.zero_le _,Nat.zero_le _,Nat.zero_le _,rfl,rfl,Nat.le_refl _,cutW_start _ _ _,World.ownsRow_nil _ _ _ _,Below.refl _ _⟩
 case round =>
  obtain⟨k,m,bs,hk,hm,hms,rfl,rfl,hbl,HS,hown,hbel⟩:=hrel
  by_cases hlt:k+2≤s.size
  ·have hlt':(k:Int)+2≤(s.size:Int):=by omega
   have hex:∀ wx,(Instr.slice 9 (.string s) (some (.int .i64 (k:Int))) (some (.int .i64 ((k:Int)+2))) none).run Tryz.prog wx=.ok (.string (s.extract k (k+2))) wx:=fun wx=>by
    rw[run_slice_string wx 9 s .i64 .i64 _ _ Tryz.underlying9 (by omega) (by omega) (by omega),show ((k:Int)).toNat=k by omega,show ((k:Int)+2).toNat=k+2 by omega]
   by_cases hmk:m≤k
   ·have hmi:(m:Int)≤(k:Int):=by omega
    have hmx:max k m=k:=by omega
    by_cases hc:s.toList.drop k=a::b::s.toList.drop (k+2)
    ·have hq:((s.extract k (k+2)).toList==bet.toList)=true:=by rw[← hbet,two_eq s a b k hlt];simpa using hc
     have HR:Hid (CutW a b s.toList (k+2) (k+2) ((bs++[s.extract m k]).map ByteArray.toList)):=by
      have h1:=HS.out
      rw[hmx] at h1
      have h2:=cutW_hit h1 hc
      rw[List.map_append,List.map_cons,List.map_nil,extract_toList];exact h2
     clear hc HS
     go_wp2_with (first
      | (at_builtin;refine wpList_append_lies _ rfl (.tmp 38) (.tmp 43) 37 rfl w.heap.size 9 i0 (.string ByteArray.empty) 1 16 Tryz.underlying37 hi hz0 hz1 hz2 rfl (by decide) _ _ _ rfl (hown.alloc _) ⟨wr.heap.size,0,none⟩ 1 1 [.string (s.extract m k)] rfl rfl ?c1 ?c2 (by decide) ?c3 ?c4 ?c5 _ rfl ?_))
     case c1 =>
      intro j u hj
      match j,hj with
      | 0,hj=>simp at hj;subst hj;simp[Addr.add]
     case c2=>intro u hu;simp at hu;subst hu;rfl
     case c3=>unfold maxLen;omega
     case c4=>omega
     case c5=>have:=hbel.size;simp;omega
     intro g cap w1 hown' hgrow hat hglt
     have hb1:Below w.heap.size w w1:=(hbel.alloc hbel.size _).grown hgrow (by have:=hbel.size;simp;omega) (fun j hj=>(hown.lt j hj).1)
     clear hown hgrow hat
     go_wp2
     go_roundw
     case rel=>exact⟨k+1,k+2,bs++[s.extract m k],by omega,by omega,by omega,by go_num,by go_num,by simp;omega,by rw[show max (k+1) (k+2)=k+2 by omega];exact HR,by simpa using hown',hb1⟩
     case measure=>simp[intOf];omega
    ·have hq:((s.extract k (k+2)).toList==bet.toList)=false:=by rw[← hbet,two_eq s a b k hlt];simpa using hc
     have HR:Hid (CutW a b s.toList m (max (k+1) m) (bs.map ByteArray.toList)):=by
      have h1:=HS.out
      rw[hmx] at h1
      unfold Hid;rw[show max (k+1) m=k+1 by omega]
      exact cutW_miss h1 hmk (by rw[size_toList];omega) hc
     clear HS hc
     go_wp2
     go_roundw
     case rel=>exact⟨k+1,m,bs,by omega,by omega,by omega,by go_num,rfl,by omega,HR,hown,hbel⟩
     case measure=>simp[intOf];omega
   ·have hmi:¬ (m:Int)≤(k:Int):=by omega
    have hmd:decide ((m:Int)≤(k:Int))=false:=decide_eq_false hmi
    have HR:Hid (CutW a b s.toList m (max (k+1) m) (bs.map ByteArray.toList)):=by
     have h1:=HS.out
     unfold Hid;rw[show max (k+1) m=max k m by omega];exact h1
    clear HS
    go_wp2
    go_roundw
    case rel=>exact⟨k+1,m,bs,by omega,by omega,by omega,by go_num,rfl,by omega,HR,hown,hbel⟩
    case measure=>simp[intOf];omega
  ·have hlt':¬ ((k:Int)+2≤(s.size:Int)):=by omega
   have hsz:(m:Int)≤(s.size:Int):=by omega
   have HS2:Hid ((bs++[s.extract m s.size]).map ByteArray.toList=P.splitW a b s.toList):=by
    unfold Hid
    rw[List.map_append,List.map_cons,List.map_nil,extract_toList,List.take_of_length_le (by rw[size_toList];exact Nat.le_refl _)]
    exact cutW_end HS.out (by omega) (by rw[size_toList];omega)
   clear HS
   go_wp2_with (first
     | (at_builtin;refine wpList_append_lies _ rfl (.tmp 49) (.tmp 53) 37 rfl w.heap.size 9 i0 (.string ByteArray.empty) 1 16 Tryz.underlying37 hi hz0 hz1 hz2 rfl (by decide) _ _ _ rfl (hown.alloc _) ⟨wr.heap.size,0,none⟩ 1 1 [.string (s.extract m s.size)] rfl rfl ?d1 ?d2 (by decide) ?d3 ?d4 ?d5 _ rfl ?_))
   case d2=>first | rfl | (intro u hu;simp at hu;subst hu;rfl)
   case d3=>unfold maxLen;omega
   case d4=>omega
   case d5=>have:=hbel.size;simp;omega
   intro g cap w1 hown' hgrow hat hglt
   have hb1:Below w.heap.size w w1:=(hbel.alloc hbel.size _).grown hgrow (by have:=hbel.size;simp;omega) (fun j hj=>(hown.lt j hj).1)
   clear hown hgrow hat
   go_wp2
   go_ret
   exact⟨g,cap,bs++[s.extract m s.size],by simp,HS2.out,by simpa using hown',hb1⟩
end Go.Proofs.YtgceflcbckjjiaaGreatDoor
