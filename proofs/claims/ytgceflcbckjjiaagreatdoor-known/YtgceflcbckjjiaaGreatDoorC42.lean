import Derived.Test.YtgceflcbckjjiaaGreatDoorC41
set_option linter.unusedVariables false
set_option linter.unusedSimpArgs false
set_option maxHeartbeats 12800000
namespace Go.Proofs.YtgceflcbckjjiaaGreatDoor
open Go Go.RowKit
set_option maxRecDepth 100000
theorem zKA (s:ByteArray) (a b:UInt8) (k:Nat) (h:k+2≤s.size):((s.extract k (k+2)).toList==(⟨#[a,b]⟩:ByteArray).toList)=decide (s.toList.drop k=a::b::s.toList.drop (k+2)):=by
 have hl:s.toList.length=s.size:=zAr s
 have e:(s.extract k (k+2)).toList=(s.toList.drop k).take 2:=by
  rw[zAL,List.take_drop]
 have e2:(⟨#[a,b]⟩:ByteArray).toList=[a,b]:=by rw[zAQ]
 have e3:s.toList.drop k=(s.toList.drop k).take 2++s.toList.drop (k+2):=by
  have:=(List.take_append_drop 2 (s.toList.drop k)).symm
  rwa [List.drop_drop] at this
 rw[e,e2]
 by_cases hc:(s.toList.drop k).take 2=[a,b]
 ·rw[hc] at e3 ⊢
  have:s.toList.drop k=a::b::s.toList.drop (k+2):=by rw[e3];rfl
  simp[this]
 ·have h2:¬ s.toList.drop k=a::b::s.toList.drop (k+2):=fun e4=>hc (by rw[e4];rfl)
  rw[decide_eq_false h2]
  simpa using hc
def zHB (a b:UInt8) (s:List UInt8) (m j:Nat) (bs:List (List UInt8)):Prop:=bs++P.preH ((s.take j).drop m) (P.zQc a b (s.drop j))=P.zQc a b s
theorem zIp (a b:UInt8) (s:List UInt8):zHB a b s 0 0 []:=by unfold zHB;simp[P.zQK _ (P.zQd a b s)]
theorem zKn {a b:UInt8} {s:List UInt8} {m j:Nat} {bs:List (List UInt8)} (h:zHB a b s m j bs) (hd:s.drop j=a::b::s.drop (j+2)):zHB a b s (j+2) (j+2) (bs++[(s.take j).drop m]):=by
 unfold zHB at *
 rw[hd,P.splitW_hit] at h
 rw[← h]
 have e:(s.take (j+2)).drop (j+2)=[]:=List.drop_of_length_le (by rw[List.length_take];omega)
 rw[e,P.zQK _ (P.zQd _ _ _)]
 simp[P.preH]
theorem zJs {a b:UInt8} {s:List UInt8} {m j:Nat} {bs:List (List UInt8)} (h:zHB a b s m j bs) (hm:m≤j) (hj:j<s.length) (hd:¬ s.drop j=a::b::s.drop (j+2)):zHB a b s m (j+1) bs:=by
 unfold zHB at *
 have e1:s.drop j=s[j]::s.drop (j+1):=List.drop_eq_getElem_cons hj
 have hne:¬ (s[j]=a∧(s.drop (j+1)).head?=some b):=by
  rintro ⟨h1,h2⟩
  apply hd
  rw[e1,h1]
  congr 1
  cases hx:s.drop (j+1) with
  | nil=>rw[hx] at h2;simp at h2
  | cons y q =>
   rw[hx] at h2;simp at h2
   have:s.drop (j+2)=q:=by rw[show j+2=(j+1)+1 by omega,← List.drop_drop,hx];rfl
   rw[this,h2]
 rw[e1,P.splitW_miss a b _ _ hne,P.preH_preH _ _ _ (P.zQd _ _ _)] at h
 rw[← h,List.take_succ_eq_append_getElem hj,List.drop_append_of_le_length (by rw[List.length_take];omega)]
theorem zKo {a b:UInt8} {s:List UInt8} {m j:Nat} {bs:List (List UInt8)} (h:zHB a b s m j bs) (hm:m≤j) (hj:s.length≤j+1):bs++[s.drop m]=P.zQc a b s:=by
 unfold zHB at h
 rw[P.splitW_short a b (s.drop j) (by simp;omega)] at h
 rw[← h]
 simp only[P.preH]
 by_cases hl:j≤s.length
 ·rw[← List.drop_append_of_le_length (by rw[List.length_take];omega),List.take_append_drop]
 ·rw[List.take_of_length_le (by omega),List.drop_of_length_le (l:=s) (i:=j) (by omega),List.append_nil]
theorem zIq (a b:UInt8) (s:ByteArray) (w:World) (hs:s.size≤8192) :
  Calls Tryz.prog 52 #[.string s,.string ⟨#[a,b]⟩] w fun e w'=>∃ g cap,∃ ws:List ByteArray,e=.returned (.slice (some ⟨g,0,none⟩) ws.length cap)∧ws.map ByteArray.toList=P.zQc a b s.toList ∧
   w'.ownsRow w.heap.size 9 1 (.slice (some ⟨g,0,none⟩) ws.length cap) ws.length (ws.map Value.string)∧Below w.heap.size w w':=by
 obtain⟨i0,hi,hz0,hz1,hz2⟩:=info_parts Tryz.infoStr
 have htwo:(⟨#[a,b]⟩:ByteArray).size=2:=rfl
 generalize hbet:(⟨#[a,b]⟩:ByteArray)=bet at *
 go_enter Tryz.func52,Tryz.ntmps52
 go_wp2
 go_loopw [5,6,7] (fun v f i wr=>∃ k m:Nat,∃ bs:List ByteArray,k≤s.size∧m≤k+1∧m≤s.size∧i=.int .i64 k∧f=.int .i64 m∧bs.length≤k∧Hid (zHB a b s.toList m (max k m) (bs.map ByteArray.toList)) ∧
   wr.ownsRow w.heap.size 9 1 v bs.length (bs.map Value.string)∧Below w.heap.size w wr) (fun _ _ i _=>s.size-(intOf i).toNat)
 case atStart=>exact⟨0,0,[],Nat.zero_le _,Nat.zero_le _,Nat.zero_le _,rfl,rfl,Nat.le_refl _,zIp _ _ _,World.ownsRow_nil _ _ _ _,Below.refl _ _⟩
 case round =>
  obtain⟨k,m,bs,hk,hm,hms,rfl,rfl,hbl,HS,hown,hbel⟩:=hrel
  by_cases hlt:k+2≤s.size
  ·have hlt':(k:Int)+2≤(s.size:Int):=by omega
   have hex:∀ wx,(Instr.slice 9 (.string s) (some (.int .i64 (k:Int))) (some (.int .i64 ((k:Int)+2))) none).run Tryz.prog wx=.ok (.string (s.extract k (k+2))) wx:=fun wx=>by
    rw[run_slice_string wx 9 s .i64 .i64 _ _ Tryz.underlying9 (by omega) (by omega) (by omega),show ((k:Int)).toNat=k by omega,show ((k:Int)+2).toNat=k+2 by omega]
   by_cases hmk:m≤k
   ·have hmi:(m:Int)≤(k:Int):=by omega
    have hmx:max k m=k:=by omega
    by_cases hc:s.toList.drop k=a::b::s.toList.drop (k+2)
    ·have hq:((s.extract k (k+2)).toList==bet.toList)=true:=by rw[← hbet,zKA s a b k hlt];simpa using hc
     have HR:Hid (zHB a b s.toList (k+2) (k+2) ((bs++[s.extract m k]).map ByteArray.toList)):=by
      have h1:=HS.out
      rw[hmx] at h1
      have h2:=zKn h1 hc
      rw[List.map_append,List.map_cons,List.map_nil,zAL];exact h2
     clear hc HS
     go_wp2_with (first
      | (at_builtin;refine wpList_append_lies _ rfl (.tmp 38) (.tmp 43) 37 rfl w.heap.size 9 i0 (.string ByteArray.empty) 1 16 Tryz.underlying37 hi hz0 hz1 hz2 rfl (by decide) _ _ _ rfl (hown.alloc _) ⟨wr.heap.size,0,none⟩ 1 1 [.string (s.extract m k)] rfl rfl ?c1 ?c2 (by decide) ?c3 ?c4 ?c5 _ rfl ?_))
     case c1 =>
      intro j u hj
      match j,hj with
      | 0,hj=>simp at hj;subst hj;simp[Addr.add]
     case c2=>intro u hu;simp at hu;subst hu;rfl
     case c3=>unfold maxLen;omega
     case c4=>omega
     case c5=>have:=hbel.size;simp;omega
     intro g cap w1 hown' hgrow hat hglt
     have hb1:Below w.heap.size w w1:=(hbel.alloc hbel.size _).grown hgrow (by have:=hbel.size;simp;omega) (fun j hj=>(hown.lt j hj).1)
     clear hown hgrow hat
     go_wp2
     go_roundw
     case rel=>exact⟨k+1,k+2,bs++[s.extract m k],by omega,by omega,by omega,by go_num,by go_num,by simp;omega,by rw[show max (k+1) (k+2)=k+2 by omega];exact HR,by simpa using hown',hb1⟩
     case measure=>simp[intOf];omega
    ·have hq:((s.extract k (k+2)).toList==bet.toList)=false:=by rw[← hbet,zKA s a b k hlt];simpa using hc
     have HR:Hid (zHB a b s.toList m (max (k+1) m) (bs.map ByteArray.toList)):=by
      have h1:=HS.out
      rw[hmx] at h1
      unfold Hid;rw[show max (k+1) m=k+1 by omega]
      exact zJs h1 hmk (by rw[zAr];omega) hc
     clear HS hc
     go_wp2
     go_roundw
     case rel=>exact⟨k+1,m,bs,by omega,by omega,by omega,by go_num,rfl,by omega,HR,hown,hbel⟩
     case measure=>simp[intOf];omega
   ·have hmi:¬ (m:Int)≤(k:Int):=by omega
    have hmd:decide ((m:Int)≤(k:Int))=false:=decide_eq_false hmi
    have HR:Hid (zHB a b s.toList m (max (k+1) m) (bs.map ByteArray.toList)):=by
     have h1:=HS.out
     unfold Hid;rw[show max (k+1) m=max k m by omega];exact h1
    clear HS
    go_wp2
    go_roundw
    case rel=>exact⟨k+1,m,bs,by omega,by omega,by omega,by go_num,rfl,by omega,HR,hown,hbel⟩
    case measure=>simp[intOf];omega
  ·have hlt':¬ ((k:Int)+2≤(s.size:Int)):=by omega
   have hsz:(m:Int)≤(s.size:Int):=by omega
   have HS2:Hid ((bs++[s.extract m s.size]).map ByteArray.toList=P.zQc a b s.toList):=by
    unfold Hid
    rw[List.map_append,List.map_cons,List.map_nil,zAL,List.take_of_length_le (by rw[zAr];exact Nat.le_refl _)]
    exact zKo HS.out (by omega) (by rw[zAr];omega)
   clear HS
   go_wp2_with (first
     | (at_builtin;refine wpList_append_lies _ rfl (.tmp 49) (.tmp 53) 37 rfl w.heap.size 9 i0 (.string ByteArray.empty) 1 16 Tryz.underlying37 hi hz0 hz1 hz2 rfl (by decide) _ _ _ rfl (hown.alloc _) ⟨wr.heap.size,0,none⟩ 1 1 [.string (s.extract m s.size)] rfl rfl ?d1 ?d2 (by decide) ?d3 ?d4 ?d5 _ rfl ?_))
   case d2=>first | rfl | (intro u hu;simp at hu;subst hu;rfl)
   case d3=>unfold maxLen;omega
   case d4=>omega
   case d5=>have:=hbel.size;simp;omega
   intro g cap w1 hown' hgrow hat hglt
   have hb1:Below w.heap.size w w1:=(hbel.alloc hbel.size _).grown hgrow (by have:=hbel.size;simp;omega) (fun j hj=>(hown.lt j hj).1)
   clear hown hgrow hat
   go_wp2
   go_ret
   exact⟨g,cap,bs++[s.extract m s.size],by simp,HS2.out,by simpa using hown',hb1⟩
theorem zFh (s:ByteArray) (k:Nat) (h:k<s.size):s.toList[k]'(by rw[zAr];exact h)=s[k]:=by
 have e:s.toList=s.data.toList:=zAQ s
 simp only[e]
 rfl
theorem zKW (l:List UInt8) (k:Nat) (hk:k<l.length) (hn:∀ c∈l.take k,c≠32) (hc:l[k]=32):P.cutA l=(l.take k,P.zQc 44 32 (l.drop (k+1))):=by
 have e:l=l.take k++32::l.drop (k+1):=by
  conv=>lhs;rw[← List.take_append_drop k l]
  rw[List.drop_eq_getElem_cons hk,hc]
 have h1:∀ (p q:List UInt8),(∀ c∈p,c≠32)→(p++32::q).takeWhile (fun c=>c != 32)=p∧(p++32::q).dropWhile (fun c=>c != 32)=32::q∧(p++32::q).any (fun c=>c==32)=true:=by
  intro p q
  induction p with
  | nil=>intro _;simp
  | cons x r ih =>
   intro h
   have hx:x≠32:=h x (by simp)
   obtain⟨a,b,c⟩:=ih (fun c hc=>h c (by simp[hc]))
   simp[hx,a,b]
 obtain⟨a,b,c⟩:=h1 (l.take k) (l.drop (k+1)) hn
 unfold P.cutA
 rw[← e] at a b c
 rw[a,b,c]
 simp
theorem zJt (l:List UInt8) (hn:∀ c∈l,c≠32):P.cutA l=(l,[]):=by
 unfold P.cutA
 have h1:l.takeWhile (fun c=>c != 32)=l:=by
  induction l with
  | nil=>rfl
  | cons x r ih=>have hx:x≠32:=hn x (by simp);simp[hx,ih (fun c hc=>hn c (by simp[hc]))]
 have h2:l.any (fun c=>c==32)=false:=by
  rw[List.any_eq_false];intro c hc;simpa using hn c hc
 rw[h1,h2];rfl
def zIr (w:World) (v:Value) (ws:List ByteArray):Prop:=∃ a cap,v=.slice a ws.length cap∧ws.length≤cap∧(ws≠[]→∃ g,a=some ⟨g,0,none⟩∧zAB w g 0 ws∧g<w.heap.size)
def zMl (s:ByteArray) (w w':World) (e:Ending):Prop:=∃ (f:ByteArray) (v:Value) (ws:List ByteArray),e=.returned (.tuple #[.string f,v])∧f.toList=(P.cutA s.toList).1∧ws.map ByteArray.toList=(P.cutA s.toList).2∧zIr w' v ws∧f.size≤s.size∧ws.length≤8193∧Below w.heap.size w w'
theorem zKX (s:ByteArray) (w:World) (hs:s.size≤8192) :
  Calls Tryz.prog 165 #[.string s] w fun e w'=>zMl s w w' e:=by
 go_enter Tryz.func165,Tryz.ntmps165
 go_wp2
 go_loop [4] (fun i=>∃ k:Nat,k≤s.size∧i=.int .i64 k∧Hid (∀ c∈s.toList.take k,c≠32)) (fun i=>s.size-(intOf i).toNat)
 case atStart=>exact⟨0,Nat.zero_le _,rfl,by unfold Hid;simp⟩
 case round =>
  obtain⟨k,hk,rfl,HK⟩:=hrel
  by_cases hlt:k<s.size
  ·by_cases hc:s[k]=32
   ·have hc':((s[k].toNat:Int)==32)=true:=by simp[hc]
    have HE:Hid (P.cutA s.toList=(s.toList.take k,P.zQc 44 32 (s.toList.drop (k+1)))):=zKW _ k (by rw[zAr];exact hlt) HK.out (by rw[zFh s k hlt];exact hc)
    have hsz:=zDP s (k+1) s.size
    have hk1:(k:Int)+1≤(s.size:Int):=by omega
    have hki:(k:Int)≤(s.size:Int):=by omega
    have hkl:(k:Int)<(s.size:Int):=by omega
    have htn:((k:Int)+1).toNat=k+1:=by omega
    have hk0:(0:Int)≤(k:Int):=by omega
    have hk01:(0:Int)≤(k:Int)+1:=by omega
    have HX:Hid ((s.extract 0 k).toList=s.toList.take k∧(s.extract (k+1) s.size).toList=s.toList.drop (k+1)):=by
     unfold Hid;rw[zAL,zAL,List.take_of_length_le (i:=s.size) (by rw[zAr];exact Nat.le_refl _)];simp
    have hz0:=zDP s 0 k
    have hwp:IntKind.i64.wrap ((k:Int)+1)=(k:Int)+1:=by simp[IntKind.wrap,IntKind.signed,IntKind.bits];omega
    have hs1:∀ wx,(Instr.slice 9 (.string s) (some (.int .i64 ((k:Int)+1))) none none).run Tryz.prog wx=.ok (.string (s.extract (k+1) s.size)) wx:=fun wx=>by
     rw[run_slice_string_from_if _ _ _ _ _ Tryz.underlying9,if_pos (by omega),htn]
    have hs2:∀ wx,(Instr.slice 9 (.string s) none (some (.int .i64 (k:Int))) none).run Tryz.prog wx=.ok (.string (s.extract 0 k)) wx:=fun wx=>by
     rw[run_slice_string_to_if _ _ _ _ _ Tryz.underlying9,if_pos (by omega)];rfl
    clear hc
    go_wp2
    go_region_with (go_at_call 52;refine (zIq 44 32 (s.extract (k+1) s.size) _ (by omega)).mono ?_;rintro e w1 ⟨g,cap,ws,rfl,hws,hown,hb1⟩;have HW:=zAa hws;have HO:=zAa hown;clear hws hown)
    all_goals
     go_wp2
     go_ret2
     obtain⟨o1,o2,o3⟩:=zEl HO.out
     refine⟨_,_,ws,rfl,?_,?_,⟨_,cap,rfl,o2,fun _=>⟨g,rfl,o1,o3⟩⟩,?_,?_,?_⟩
     ·rw[HE.out];exact HX.out.1
     ·rw[HE.out,HW.out,HX.out.2]
     ·exact hz0
     ·have:=P.splitW_le 44 32 (s.extract (k+1) s.size).toList
      rw[← HW.out,List.length_map,zAr] at this;omega
     ·exact ((Below.refl w.heap.size w).drew).trans (hb1.mono (by simp))
   ·have hc':((s[k].toNat:Int)==32)=false:=by
     cases hx:((s[k].toNat:Int)==32)
     ·rfl
     ·exact absurd ((zCM _ 32 (by omega)).1 hx) hc
    have HK2:Hid (∀ c∈s.toList.take (k+1),c≠32):=by
     intro c hcm
     rw[zCy s k hlt] at hcm
     rcases List.mem_append.1 hcm with h | h
     ·exact HK.out c h
     ·simp at h;rw[h];exact hc
    clear hc
    go_wp2
    go_round
    case rel=>exact⟨k+1,by omega,by go_num,HK2⟩
    case measure=>simp[intOf];omega
  ·have HE:Hid (P.cutA s.toList=(s.toList,[])):=zJt _ (by have h1:=HK.out;rw[List.take_of_length_le (by rw[zAr];omega)] at h1;exact h1)
   go_wp2
   go_ret2
   refine⟨s,.slice none 0 0,[],rfl,by rw[HE.out],by rw[HE.out];rfl,⟨none,0,rfl,Nat.le_refl _,fun h=>absurd rfl h⟩,Nat.le_refl _,by simp,Below.refl _ _⟩
theorem zIs (l:List UInt8) (k:Nat) (hk:k<4) (hn:∀ j:Nat,j<k→(l==P.regT (j:Int))=false) (h:(l==P.regT (k:Int))=true):P.zOz l=((k:Int),true):=by
 have h':l=P.regT (k:Int):=by simpa using h
 have hn':∀ j:Nat,j<k→¬ l=P.regT (j:Int):=fun j hj=>by simpa using hn j hj
 have:k=0∨k=1∨k=2∨k=3:=by omega
 unfold P.zOz
 rcases this with rfl | rfl | rfl | rfl
 ·rw[if_pos (show l=P.regT 0 from h')];rfl
 ·rw[if_neg (show ¬ l=P.regT 0 from hn' 0 (by omega)),if_pos (show l=P.regT 1 from h')];rfl
 ·rw[if_neg (show ¬ l=P.regT 0 from hn' 0 (by omega)),if_neg (show ¬ l=P.regT 1 from hn' 1 (by omega)),if_pos (show l=P.regT 2 from h')];rfl
 ·rw[if_neg (show ¬ l=P.regT 0 from hn' 0 (by omega)),if_neg (show ¬ l=P.regT 1 from hn' 1 (by omega)),if_neg (show ¬ l=P.regT 2 from hn' 2 (by omega)),if_pos (show l=P.regT 3 from h')];rfl
theorem zGB (l:List UInt8) (hn:∀ j:Nat,j<4→(l==P.regT (j:Int))=false):P.zOz l=(0,false):=by
 have hn':∀ j:Nat,j<4→¬ l=P.regT (j:Int):=fun j hj=>by simpa using hn j hj
 unfold P.zOz
 rw[if_neg (show ¬ l=P.regT 0 from hn' 0 (by omega)),if_neg (show ¬ l=P.regT 1 from hn' 1 (by omega)),if_neg (show ¬ l=P.regT 2 from hn' 2 (by omega)),if_neg (show ¬ l=P.regT 3 from hn' 3 (by omega))]
theorem zIt (l:List UInt8) (k:Nat) (hk:k<3) (hn:∀ j:Nat,j<k→(l==P.celT (j:Int))=false) (h:(l==P.celT (k:Int))=true):P.zOR l=((k:Int),true):=by
 have h':l=P.celT (k:Int):=by simpa using h
 have hn':∀ j:Nat,j<k→¬ l=P.celT (j:Int):=fun j hj=>by simpa using hn j hj
 have:k=0∨k=1∨k=2:=by omega
 unfold P.zOR
 rcases this with rfl | rfl | rfl
 ·rw[if_pos (show l=P.celT 0 from h')];rfl
 ·rw[if_neg (show ¬ l=P.celT 0 from hn' 0 (by omega)),if_pos (show l=P.celT 1 from h')];rfl
 ·rw[if_neg (show ¬ l=P.celT 0 from hn' 0 (by omega)),if_neg (show ¬ l=P.celT 1 from hn' 1 (by omega)),if_pos (show l=P.celT 2 from h')];rfl
theorem zGC (l:List UInt8) (hn:∀ j:Nat,j<3→(l==P.celT (j:Int))=false):P.zOR l=(0,false):=by
 have hn':∀ j:Nat,j<3→¬ l=P.celT (j:Int):=fun j hj=>by simpa using hn j hj
 unfold P.zOR
 rw[if_neg (show ¬ l=P.celT 0 from hn' 0 (by omega)),if_neg (show ¬ l=P.celT 1 from hn' 1 (by omega)),if_neg (show ¬ l=P.celT 2 from hn' 2 (by omega))]
theorem zIu (l:List UInt8) (k:Nat) (hk:k<4) (hn:∀ j:Nat,j<k→(l==P.dec (j:Int))=false) (h:(l==P.dec (k:Int))=true):P.zOs l=(⟨false,(k:Int)⟩,true):=by
 have h':l=P.dec (k:Int):=by simpa using h
 have hn':∀ j:Nat,j<k→¬ l=P.dec (j:Int):=fun j hj=>by simpa using hn j hj
 have:k=0∨k=1∨k=2∨k=3:=by omega
 unfold P.zOs
 rcases this with rfl | rfl | rfl | rfl
 ·rw[if_pos (show l=P.dec 0 from h')];rfl
 ·rw[if_neg (show ¬ l=P.dec 0 from hn' 0 (by omega)),if_pos (show l=P.dec 1 from h')];rfl
 ·rw[if_neg (show ¬ l=P.dec 0 from hn' 0 (by omega)),if_neg (show ¬ l=P.dec 1 from hn' 1 (by omega)),if_pos (show l=P.dec 2 from h')];rfl
 ·rw[if_neg (show ¬ l=P.dec 0 from hn' 0 (by omega)),if_neg (show ¬ l=P.dec 1 from hn' 1 (by omega)),if_neg (show ¬ l=P.dec 2 from hn' 2 (by omega)),if_pos (show l=P.dec 3 from h')];rfl
theorem zGD (l:List UInt8) (hn:∀ j:Nat,j<4→(l==P.dec (j:Int))=false):P.zOs l=(⟨true,(P.zOz l).1⟩,(P.zOz l).2):=by
 have hn':∀ j:Nat,j<4→¬ l=P.dec (j:Int):=fun j hj=>by simpa using hn j hj
 unfold P.zOs
 rw[if_neg (show ¬ l=P.dec 0 from hn' 0 (by omega)),if_neg (show ¬ l=P.dec 1 from hn' 1 (by omega)),if_neg (show ¬ l=P.dec 2 from hn' 2 (by omega)),if_neg (show ¬ l=P.dec 3 from hn' 3 (by omega))]
theorem zEF (s:ByteArray) (w:World) :
  Calls Tryz.prog 209 #[.string s] w fun e w'=>e=.returned (.tuple #[.int .i64 (P.zOz s.toList).1,.bool (P.zOz s.toList).2])∧w'=w:=by
 go_enter Tryz.func209,Tryz.ntmps209
 go_wp2
 go_loop [4] (fun i=>∃ k:Nat,k≤4∧i=.int .i64 k∧Hid (∀ j:Nat,j<k→(s.toList==P.regT (j:Int))=false)) (fun i=>4-(intOf i).toNat)
 case atStart=>exact⟨0,by omega,rfl,fun j hj=>by omega⟩
 case round =>
  obtain⟨k,hk,rfl,HK⟩:=hrel
  by_cases hlt:k<4
  ·have hin:(k:Int)<4:=by omega
   cases hb:(s.toList==P.regT (k:Int))
   ·have HK2:Hid (∀ j:Nat,j<k+1→(s.toList==P.regT (j:Int))=false):=fun j hj=>by
     by_cases e:j=k
     ·rw[e];exact hb
     ·exact HK.out j (by omega)
    have HB:=zAa hb
    clear hb
    go_wp2_with (first | (go_at_call 135;refine (zEg _ _ (by omega) (by omega)).mono ?_;rintro e w' ⟨t,rfl,ht,rfl⟩;have hq:(s.toList==t.toList)=false:=(by rw[ht.1];exact HB.out)))
    go_round
    case rel=>exact⟨k+1,by omega,by go_num,HK2⟩
    case measure=>simp[intOf];omega
   ·have HE:=zAa (zIs s.toList k hlt HK.out hb)
    have HB:=zAa hb
    clear hb
    go_wp2_with (first | (go_at_call 135;refine (zEg _ _ (by omega) (by omega)).mono ?_;rintro e w' ⟨t,rfl,ht,rfl⟩;have hq:(s.toList==t.toList)=true:=(by rw[ht.1];exact HB.out)))
    go_ret2
    rw[HE.out];exact⟨rfl,rfl⟩
  ·have HE:Hid (P.zOz s.toList=(0,false)):=zGB _ (fun j hj=>HK.out j (by omega))
   go_wp2
   go_ret2
   rw[HE.out];exact⟨rfl,rfl⟩
theorem zHh (s:ByteArray) (w:World) :
  Calls Tryz.prog 210 #[.string s] w fun e w'=>e=.returned (.tuple #[.int .i64 (P.zOR s.toList).1,.bool (P.zOR s.toList).2])∧w'=w:=by
 go_enter Tryz.func210,Tryz.ntmps210
 go_wp2
 go_loop [4] (fun i=>∃ k:Nat,k≤3∧i=.int .i64 k∧Hid (∀ j:Nat,j<k→(s.toList==P.celT (j:Int))=false)) (fun i=>3-(intOf i).toNat)
 case atStart=>exact⟨0,by omega,rfl,fun j hj=>by omega⟩
 case round =>
  obtain⟨k,hk,rfl,HK⟩:=hrel
  by_cases hlt:k<3
  ·have hin:(k:Int)<3:=by omega
   cases hb:(s.toList==P.celT (k:Int))
   ·have HK2:Hid (∀ j:Nat,j<k+1→(s.toList==P.celT (j:Int))=false):=fun j hj=>by
     by_cases e:j=k
     ·rw[e];exact hb
     ·exact HK.out j (by omega)
    have HB:=zAa hb
    clear hb
    go_wp2_with (first | (go_at_call 136;refine (zFq _ _).mono ?_;rintro e w' ⟨t,rfl,ht,rfl⟩;have hq:(s.toList==t.toList)=false:=(by rw[ht.1];exact HB.out)))
    go_round
    case rel=>exact⟨k+1,by omega,by go_num,HK2⟩
    case measure=>simp[intOf];omega
   ·have HE:=zAa (zIt s.toList k hlt HK.out hb)
    have HB:=zAa hb
    clear hb
    go_wp2_with (first | (go_at_call 136;refine (zFq _ _).mono ?_;rintro e w' ⟨t,rfl,ht,rfl⟩;have hq:(s.toList==t.toList)=true:=(by rw[ht.1];exact HB.out)))
    go_ret2
    rw[HE.out];exact⟨rfl,rfl⟩
  ·have HE:Hid (P.zOR s.toList=(0,false)):=zGC _ (fun j hj=>HK.out j (by omega))
   go_wp2
   go_ret2
   rw[HE.out];exact⟨rfl,rfl⟩
theorem zJu {fn:Func} {R:Ending→World→Prop} {a:Act} {w:World} {p u:Tmp} (g:Nat) (o:P.Opd) (uv:Value) (hres:fn.results=#[.cell p 94,.tmp u])
  (hp:a.tmps.getD p undef=.pointer (some ⟨g,0,none⟩)) (hu:a.tmps.getD u undef=uv) (h:w.heap[g]?=some (.cells #[.bool o.reg,.int .i64 o.n] 94 (0,0))) (hd:a.defers=[]) (hR:R (.returned (.tuple #[.agg #[.bool o.reg,.int .i64 o.n],uv])) w):bodyPost Tryz.prog fn R .ret a w:=by
 refine bodyPost_ret (v:=.tuple #[.agg #[.bool o.reg,.int .i64 o.n],uv]) ?_ hd hR
 rw[results_cell_tmp hres,hp,hu]
 have:(asAddr (.pointer (some ⟨g,0,none⟩))).run Tryz.prog w=.ok ⟨g,0,none⟩ w:=rfl
 rw[this,Result.andThen_ok,zBc w g _ _ _ h _ Tryz.underlying94 rfl (by kernel_rfl),Result.andThen_ok]
theorem zEG {w:World} {g:Nat} {a b:Value} {t:TypeId} (h:w.heap[g]?=some (.cells #[a,b] t (0,0))):g<w.heap.size∧w.cell? ⟨g,0,none⟩=some a∧w.cell? ⟨g,1,none⟩=some b∧w.frozen? ⟨g,0,none⟩=false∧w.frozen? ⟨g,1,none⟩=false:=by
 refine⟨(Array.getElem?_eq_some_iff.1 h).1,?_,?_,?_,?_⟩<;>simp[World.cell?,World.frozen?,h]
theorem zEH (s:ByteArray) (w:World) :
  Calls Tryz.prog 211 #[.string s] w fun e w'=>e=.returned (.tuple #[.agg #[.bool (P.zOs s.toList).1.reg,.int .i64 (P.zOs s.toList).1.n],.bool (P.zOs s.toList).2])∧Below w.heap.size w w':=by
 go_enter Tryz.func211,Tryz.ntmps211
 go_wp2
 go_loopw [4] (fun i wr=>∃ k:Nat,k≤4∧i=.int .i64 k∧Hid (∀ j:Nat,j<k→(s.toList==P.dec (j:Int))=false)∧Hid (wr.heap[w.heap.size]?=some (.cells #[.bool false,.int .i64 0] 94 (0,0)))∧Below w.heap.size w wr) (fun i _=>4-(intOf i).toNat)
 case atStart=>exact⟨0,by omega,rfl,fun j hj=>by omega,heap_alloc_new w _,(Below.refl _ _).alloc (Nat.le_refl _) _⟩
 case round =>
  obtain⟨k,hk,rfl,HK,HB0,hbel⟩:=hrel
  obtain⟨z0,z1,z2,z3,z4⟩:=zEG HB0.out
  have hws:=hbel.size
  by_cases hlt:k<4
  ·have hin:(k:Int)<4:=by omega
   cases hb:(s.toList==P.dec (k:Int))
   ·have HK2:Hid (∀ j:Nat,j<k+1→(s.toList==P.dec (j:Int))=false):=fun j hj=>by
     by_cases e:j=k
     ·rw[e];exact hb
     ·exact HK.out j (by omega)
    have HB:=zAa hb
    clear hb
    go_wp2_with (first | (go_at_call 137;refine (zEh ⟨false,(k:Int)⟩ _ (by simp) (by simp;omega)).mono ?_;rintro e w1 ⟨t,rfl,ht,hb1⟩;have hq:(s.toList==t.toList)=false:=(by rw[ht.1];exact HB.out)))
    go_roundw
    case rel=>exact⟨k+1,by omega,by go_num,HK2,by unfold Hid;rw[hb1.block _ (by simp;omega),Below.heap_alloc _ _ _ z0];exact HB0.out,(hbel.alloc hws _).trans (hb1.mono (by simp;omega))⟩
    case measure=>simp[intOf];omega
   ·have HE:=zAa (zIu s.toList k hlt HK.out hb)
    have HB:=zAa hb
    clear hb
    go_wp2_with (first | (go_at_call 137;refine (zEh ⟨false,(k:Int)⟩ _ (by simp) (by simp;omega)).mono ?_;rintro e w1 ⟨t,rfl,ht,hb1⟩;have hq:(s.toList==t.toList)=true:=(by rw[ht.1];exact HB.out);have hn1:w1.heap[wr.heap.size]?=some (.cells #[.bool false,.int .i64 (k:Int)] 94 (0,0)):=(hb1.block _ (by simp)).trans (heap_alloc_new wr _);have hr1:w1.heap[w.heap.size]?=some (.cells #[.bool false,.int .i64 0] 94 (0,0)):=(hb1.block _ (by simp;omega)).trans ((Below.heap_alloc _ _ _ z0).trans HB0.out);obtain⟨y0,y1,y2,y3,y4⟩:=zEG hn1;obtain⟨v0,v1,v2,v3,v4⟩:=zEG hr1;have HR1:=zAa hr1;have hBB:=zAa ((hbel.alloc hws _).trans (hb1.mono (by simp;omega)));clear hn1 hr1))
    rw[HE.out]
    refine zJu (p:=2) (u:=3) w.heap.size ⟨false,(k:Int)⟩ _ (by kernel_rfl) rfl rfl ?_ rfl ⟨rfl,?_⟩
    ·rw[zAe (zAe HR1.out _ _)];rfl
    ·exact (hBB.out.setCell (Nat.le_refl _) _).setCell (Nat.le_refl _) _
  ·have HE:Hid (P.zOs s.toList=(⟨true,(P.zOz s.toList).1⟩,(P.zOz s.toList).2)):=zGD _ (fun j hj=>HK.out j (by omega))
   go_wp2_with (first | (go_at_call 209;refine (zEF s _).mono ?_;rintro e w' ⟨rfl,rfl⟩))
   rw[HE.out]
   refine zJu (p:=2) (u:=3) w.heap.size ⟨true,(P.zOz s.toList).1⟩ _ (by kernel_rfl) rfl rfl ?_ rfl ⟨rfl,?_⟩
   ·rw[zAe (zAe HB0.out _ _)];rfl
   ·exact (hbel.setCell (Nat.le_refl _) _).setCell (Nat.le_refl _) _
theorem zIv (kind:Int) (l:List UInt8) (f o sc:Nat) (hs:sc<2):P.ordGo kind l (f+1) (2*o+sc)=if P.zQe kind (o:Int)&&l==P.sufO (o:Int) (sc:Int) then some ((o:Int),(sc:Int)) else P.ordGo kind l f (2*o+sc+1):=by
 rw[P.ordGo]
 have h1:(2*o+sc) / 2=o:=by omega
 have h2:(2*o+sc) % 2=sc:=by omega
 rw[h1,h2]
theorem zEI (g:Nat) (st:P.Stm) (s:ByteArray) (w:World) (h:zAv w g st) :
  Calls Tryz.prog 166 #[.pointer (some ⟨g,0,none⟩),.string s] w fun e w'=>e=.returned (.bool (P.zOt st s.toList).2)∧zAv w' g (P.zOt st s.toList).1∧w.grownBy w' (some g):=by
 obtain⟨glt,gfr,g0,g1,g2,g3,g4,g5,g6,g7,g8,g9,g10⟩:=h.facts
 have HA:=zAa h
 clear h
 cases ho:P.isOrd st.kind
 ·have HE:Hid (P.zOt st s.toList=(st,s.toList==[])):=by unfold Hid P.zOt;rw[ho];rfl
  cases hs:s.toList.isEmpty
  all_goals
   have hs2:(s.toList==[])=s.toList.isEmpty:=by cases s.toList<;>rfl
   go_enter Tryz.func166,Tryz.ntmps166
   go_wp2_with (first | (go_at_call 86;refine (zEp _ _).mono ?_;rintro e w' ⟨rfl,rfl⟩;rw[ho]))
   go_ret
   rw[HE.out,hs2,hs];exact⟨rfl,HA.out,zAC _ _⟩
 ·have HE:Hid (P.zOt st s.toList=match P.ordGo st.kind s.toList 12 0 with | some (o,sc)=>({ st with order:=o,scope:=sc },true) | none=>(st,false)):=by unfold Hid P.zOt;rw[ho];rfl
  go_enter Tryz.func166,Tryz.ntmps166
  go_wp2_with (first | (go_at_call 86;refine (zEp _ _).mono ?_;rintro e w' ⟨rfl,rfl⟩;rw[ho]))
  go_loop [5] (fun i=>∃ o:Nat,o≤6∧i=.int .i64 o∧Hid (P.ordGo st.kind s.toList 12 0=P.ordGo st.kind s.toList (12-2*o) (2*o))) (fun i=>6-(intOf i).toNat)
  case atStart=>exact⟨0,by omega,rfl,rfl⟩
  case round =>
   obtain⟨o,hoo,rfl,HO⟩:=hrel
   by_cases hlt:o<6
   ·have hin:(o:Int)≤5:=by omega
    go_wp2
    go_loop [6] (fun i=>∃ sc:Nat,sc≤2∧i=.int .i64 sc∧Hid (P.ordGo st.kind s.toList 12 0=P.ordGo st.kind s.toList (12-2*o-sc) (2*o+sc))) (fun i=>2-(intOf i).toNat)
    case atStart=>exact⟨0,by omega,rfl,HO⟩
    case round =>
     obtain⟨sc,hsc,rfl,HS⟩:=hrel
     by_cases hls:sc<2
     ·have his:(sc:Int)≤1:=by omega
      have HST:Hid (P.ordGo st.kind s.toList 12 0=if P.zQe st.kind (o:Int)&&s.toList==P.sufO (o:Int) (sc:Int) then some ((o:Int),(sc:Int)) else P.ordGo st.kind s.toList (12-2*o-(sc+1)) (2*o+(sc+1))):=by
       unfold Hid;rw[HS.out,show 12-2*o-sc=(12-2*o-(sc+1))+1 by omega,zIv _ _ _ _ _ hls];rfl
      cases ha:P.zQe st.kind (o:Int)
      ·have HN:Hid (P.ordGo st.kind s.toList 12 0=P.ordGo st.kind s.toList (12-2*o-(sc+1)) (2*o+(sc+1))):=by unfold Hid;rw[HST.out,ha];rfl
       clear HST HS
       go_wp2_with (first | (go_at_call 188;refine (zBy _ _ _).mono ?_;rintro e w' ⟨rfl,rfl⟩;rw[ha]))
       go_round
       case rel=>exact⟨sc+1,by omega,by go_num,HN⟩
       case measure=>simp[intOf];omega
      ·cases hb:(s.toList==P.sufO (o:Int) (sc:Int))
       ·have HN:Hid (P.ordGo st.kind s.toList 12 0=P.ordGo st.kind s.toList (12-2*o-(sc+1)) (2*o+(sc+1))):=by unfold Hid;rw[HST.out,ha,hb];rfl
        have HB:=zAa hb
        clear HST HS hb
        go_wp2_with (first | (go_at_call 188;refine (zBy _ _ _).mono ?_;rintro e w' ⟨rfl,rfl⟩;rw[ha]) | (go_at_call 87;refine (zFs _ _ _).mono ?_;rintro e w' ⟨t,rfl,ht,rfl⟩;have hq:(s.toList==t.toList)=false:=(by rw[ht.1];exact HB.out)))
        go_round
        case rel=>exact⟨sc+1,by omega,by go_num,HN⟩
        case measure=>simp[intOf];omega
       ·have HN:Hid (P.zOt st s.toList=({ st with order:=(o:Int),scope:=(sc:Int) },true)):=by unfold Hid;rw[HE.out,HST.out,ha,hb];rfl
        have HB:=zAa hb
        have HF:=zAa ((HA.out.setOrder (o:Int)).setScope (sc:Int))
        clear HST HS hb
        go_wp2_with (first | (go_at_call 188;refine (zBy _ _ _).mono ?_;rintro e w' ⟨rfl,rfl⟩;rw[ha]) | (go_at_call 87;refine (zFs _ _ _).mono ?_;rintro e w' ⟨t,rfl,ht,rfl⟩;have hq:(s.toList==t.toList)=true:=(by rw[ht.1];exact HB.out)))
        go_ret
        rw[HN.out];exact⟨rfl,HF.out,zAl (zAl (zAC _ _) _ _) _ _⟩
     ·have hs2:sc=2:=by omega
      have HN:Hid (P.ordGo st.kind s.toList 12 0=P.ordGo st.kind s.toList (12-2*(o+1)) (2*(o+1))):=by
       unfold Hid;rw[HS.out,hs2,show 12-2*o-2=12-2*(o+1) by omega,show 2*o+2=2*(o+1) by omega]
      clear HS
      go_wp2
      go_round
      case rel=>exact⟨o+1,by omega,by go_num,HN⟩
      case measure=>simp[intOf];omega
   ·have ho6:o=6:=by omega
    have HN:Hid (P.zOt st s.toList=(st,false)):=by unfold Hid;rw[HE.out,HO.out,ho6];rfl
    go_wp2
    go_ret
    rw[HN.out];exact⟨rfl,HA.out,zAC _ _⟩
theorem zDV (g:Nat) (st:P.Stm) (c:UInt8) (s:ByteArray) (w:World) (h:zAv w g st) (hl0:0≤st.label) (hl1:st.label<100) :
  Calls Tryz.prog 189 #[.pointer (some ⟨g,0,none⟩),.int .u8 (c.toNat:Int),.string s] w fun e w'=>e=.returned (.bool (P.partR st c s.toList).2)∧zAv w' g (P.partR st c s.toList).1∧w.grownBy w' (some g):=by
 obtain⟨glt,gfr,g0,g1,g2,g3,g4,g5,g6,g7,g8,g9,g10⟩:=h.facts
 have HA:=zAa h
 clear h
 cases h1:((c.toNat:Int)==100)
 rotate_left
 ·have hc:c=100:=(zCM c 100 (by omega)).1 h1
  have HE:Hid (P.partR st c s.toList=({ st with dest:=(P.zOz s.toList).1 },(P.zOz s.toList).2)):=by unfold Hid P.partR;rw[if_pos hc]
  have HF:Hid (zAv (w.setCell ⟨g,2,none⟩ (.int .i64 (P.zOz s.toList).1)) g { st with dest:=(P.zOz s.toList).1 }):=HA.out.set _ 2 _ rfl
  clear hc
  go_enter Tryz.func189,Tryz.ntmps189
  go_wp2_with (first | (go_at_call 209;refine (zEF s _).mono ?_;rintro e w' ⟨rfl,rfl⟩))
  go_ret
  rw[HE.out];exact⟨rfl,HF.out,zAl (zAC _ _) _ _⟩
 have n1:¬ c=100:=fun e=>by subst e;simp at h1
 cases h2:((c.toNat:Int)==118)
 rotate_left
 ·have hc:c=118:=(zCM c 118 (by omega)).1 h2
  have HE:Hid (P.partR st c s.toList=({ st with var:=(P.zOR s.toList).1 },(P.zOR s.toList).2)):=by unfold Hid P.partR;rw[if_neg n1,if_pos hc]
  have HF:=zAa (HA.out.setVar (P.zOR s.toList).1)
  clear hc n1
  go_enter Tryz.func189,Tryz.ntmps189
  go_wp2_with (first | (go_at_call 210;refine (zHh s _).mono ?_;rintro e w' ⟨rfl,rfl⟩))
  go_ret
  rw[HE.out];exact⟨rfl,HF.out,zAl (zAC _ _) _ _⟩
 have n2:¬ c=118:=fun e=>by subst e;simp at h2
 cases h3:((c.toNat:Int)==97)
 rotate_left
 ·have hc:c=97:=(zCM c 97 (by omega)).1 h3
  have HE:Hid (P.partR st c s.toList=({ st with a:=(P.zOs s.toList).1 },(P.zOs s.toList).2)):=by unfold Hid P.partR;rw[if_neg n1,if_neg n2,if_pos hc]
  clear hc n1 n2
  go_enter Tryz.func189,Tryz.ntmps189
  go_wp2_with (first | (go_at_call 211;refine (zEH s _).mono ?_;rintro e w1 ⟨rfl,hb1⟩;have HA1:=zAa (HA.out.below hb1);have HF:=zAa ((HA1.out.setA (P.zOs s.toList).1).alloc (.cells #[.bool (P.zOs s.toList).1.reg,.int .i64 (P.zOs s.toList).1.n] 94));obtain⟨glt,gfr,g0,g1,g2,g3,g4,g5,g6,g7,g8,g9,g10⟩:=HA1.out.facts))
  go_ret
  rw[HE.out];exact⟨rfl,HF.out,zBo (zAl (zAl (zAX hb1 _) _ _) _ _) _⟩
 have n3:¬ c=97:=fun e=>by subst e;simp at h3
 cases h4:((c.toNat:Int)==98)
 rotate_left
 ·have hc:c=98:=(zCM c 98 (by omega)).1 h4
  have HE:Hid (P.partR st c s.toList=({ st with b:=(P.zOs s.toList).1 },(P.zOs s.toList).2)):=by unfold Hid P.partR;rw[if_neg n1,if_neg n2,if_neg n3,if_pos hc]
  clear hc n1 n2 n3
  go_enter Tryz.func189,Tryz.ntmps189
  go_wp2_with (first | (go_at_call 211;refine (zEH s _).mono ?_;rintro e w1 ⟨rfl,hb1⟩;have HA1:=zAa (HA.out.below hb1);have HF:=zAa ((HA1.out.setB (P.zOs s.toList).1).alloc (.cells #[.bool (P.zOs s.toList).1.reg,.int .i64 (P.zOs s.toList).1.n] 94));obtain⟨glt,gfr,g0,g1,g2,g3,g4,g5,g6,g7,g8,g9,g10⟩:=HA1.out.facts))
  go_ret
  rw[HE.out];exact⟨rfl,HF.out,zBo (zAl (zAl (zAX hb1 _) _ _) _ _) _⟩
 have n4:¬ c=98:=fun e=>by subst e;simp at h4
 have HE:Hid (P.partR st c s.toList=(st,s.toList==P.labT st.label)):=by unfold Hid P.partR;rw[if_neg n1,if_neg n2,if_neg n3,if_neg n4]
 clear n1 n2 n3 n4
 cases hb:(s.toList==P.labT st.label)
 all_goals
  have HB:=zAa hb
  clear hb
  go_enter Tryz.func189,Tryz.ntmps189
  go_wp2_with (first | (go_at_call 84;refine (zCN _ _ hl0 hl1).mono ?_;rintro e w' ⟨t,rfl,ht,rfl⟩;have hq:=(show (s.toList==t.toList)=(s.toList==P.labT st.label) by rw[ht.1]).trans HB.out))
  go_ret
  rw[HE.out,HB.out];exact⟨rfl,HA.out,zAC _ _⟩
end Go.Proofs.YtgceflcbckjjiaaGreatDoor
