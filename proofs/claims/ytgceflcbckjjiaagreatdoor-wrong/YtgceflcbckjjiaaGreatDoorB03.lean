import Derived.Deep.AppendLies
import Derived.Test.YtgceflcbckjjiaaGreatDoorB02
set_option linter.unusedVariables false
set_option linter.unusedSimpArgs false
namespace Go.Proofs.YtgceflcbckjjiaaGreatDoor
namespace P
def splitAt (c:UInt8):List UInt8→List (List UInt8)
 | []=>[[]]
 | x::r=>if x=c then []::splitAt c r else match splitAt c r with
  | h::t=>(x::h)::t
  | []=>[[x]]
theorem splitAt_ne (c:UInt8) (l:List UInt8):splitAt c l≠[]:=by
 cases l with
 | nil=>simp[splitAt]
 | cons x r =>
  unfold splitAt
  split
  ·simp
  ·split<;>simp
theorem splitAt_cons_eq (c:UInt8) (r:List UInt8):splitAt c (c::r)=[]::splitAt c r:=by simp[splitAt]
theorem splitAt_cons_ne (c x:UInt8) (r:List UInt8) (h:x≠c) (a:List UInt8) (b:List (List UInt8)) (e:splitAt c r=a::b):splitAt c (x::r)=(x::a)::b:=by simp[splitAt,h,e]
theorem splitAt_snoc (c x:UInt8) (l:List UInt8):∀ (a:List (List UInt8)) (b:List UInt8),splitAt c l=a++[b]→splitAt c (l++[x])=if x=c then a++[b,[]] else a++[b++[x]]:=by
 induction l with
 | nil =>
  intro a b h
  simp[splitAt] at h
  have:a=[]∧b=[]:=by
   cases a with
   | nil=>simpa using h
   | cons p q=>simp at h
  obtain⟨rfl,rfl⟩:=this
  by_cases hx:x=c<;>simp[splitAt,hx]
 | cons y r ih =>
  intro a b h
  by_cases hy:y=c
  ·subst hy
   rw[splitAt_cons_eq] at h
   cases a with
   | nil =>
    simp at h
    exact absurd h.2 (splitAt_ne _ _)
   | cons p q =>
    simp at h
    obtain⟨rfl,h⟩:=h
    have:=ih q b h
    rw[List.cons_append,splitAt_cons_eq,this]
    split<;>simp
  ·cases hs:splitAt c r with
   | nil=>exact absurd hs (splitAt_ne _ _)
   | cons p q =>
    rw[splitAt_cons_ne c y r hy p q hs] at h
    rw[List.cons_append]
    cases a with
    | nil =>
     simp at h
     obtain⟨rfl,rfl⟩:=h
     have:=ih [] p (by simpa using hs)
     by_cases hx:x=c
     ·rw[if_pos hx] at this ⊢
      rw[splitAt_cons_ne c y _ hy p [[]] (by simpa using this)];simp
     ·rw[if_neg hx] at this ⊢
      rw[splitAt_cons_ne c y _ hy (p++[x]) [] (by simpa using this)];simp
    | cons p' q' =>
     simp at h
     obtain⟨rfl,rfl⟩:=h
     have:=ih (p::q') b (by simpa using hs)
     by_cases hx:x=c
     ·rw[if_pos hx] at this ⊢
      rw[splitAt_cons_ne c y _ hy p (q'++[b,[]]) (by simpa using this)];simp
     ·rw[if_neg hx] at this ⊢
      rw[splitAt_cons_ne c y _ hy p (q'++[b++[x]]) (by simpa using this)];simp
end P
end Go.Proofs.YtgceflcbckjjiaaGreatDoor
namespace Go.Proofs.YtgceflcbckjjiaaGreatDoor
open Go Go.RowKit
set_option maxRecDepth 100000
theorem extract_toList (s:ByteArray) (m k:Nat):(s.extract m k).toList=(s.toList.take k).drop m:=by
 rw[toList_data,toList_data,List.drop_take]
 simp
theorem take_snoc (s:ByteArray) (k:Nat) (h:k<s.size):s.toList.take (k+1)=s.toList.take k++[s[k]]:=by
 rw[toList_data,List.take_succ_eq_append_getElem (by simpa using h)];rfl
theorem Tryz.infoStr:(Tryz.prog.info? 9).map (fun i=>(i.zero,i.size,i.bytes))=some (some (.string ByteArray.empty),1,16):=by kernel_rfl
theorem split_step (c:UInt8) (s:ByteArray) (k m:Nat) (bs:List ByteArray) (hk:k<s.size) (h:P.splitAt c (s.toList.take k)=bs.map ByteArray.toList++[(s.toList.take k).drop m]) (hc:s[k]=c) :
  P.splitAt c (s.toList.take (k+1))=(bs++[s.extract m k]).map ByteArray.toList++[(s.toList.take (k+1)).drop (k+1)]:=by
 rw[take_snoc s k hk,P.splitAt_snoc _ _ _ _ _ h,if_pos hc]
 simp[extract_toList]
 omega
theorem split_stay (c:UInt8) (s:ByteArray) (k m:Nat) (bs:List ByteArray) (hk:k<s.size) (hm:m≤k) (h:P.splitAt c (s.toList.take k)=bs.map ByteArray.toList++[(s.toList.take k).drop m]) (hc:¬ s[k]=c) :
  P.splitAt c (s.toList.take (k+1))=bs.map ByteArray.toList++[(s.toList.take (k+1)).drop m]:=by
 rw[take_snoc s k hk,P.splitAt_snoc _ _ _ _ _ h,if_neg hc]
 have:m≤(s.toList.take k).length:=by rw[List.length_take,size_toList];omega
 rw[List.drop_append_of_le_length this]
theorem byte_eq (a:UInt8) (n:Nat) (hn:n<256):(((a.toNat:Int)==(n:Int))=true) ↔ a=UInt8.ofNat n:=by
 rw[u8_eq a n hn];simp
theorem one_eq (s:ByteArray) (c:UInt8) (k:Nat) (h:k<s.size):((s.extract k (k+1)).toList==(⟨#[c]⟩:ByteArray).toList)=decide (s[k]=c):=by
 have e:(s.extract k (k+1)).toList=[s[k]]:=by
  rw[extract_toList,take_snoc s k h,List.drop_append_of_le_length (by rw[List.length_take,size_toList];omega),List.drop_of_length_le (by rw[List.length_take];omega)]
  rfl
 have e2:(⟨#[c]⟩:ByteArray).toList=[c]:=by rw[toList_data]
 rw[e,e2]
 by_cases hc:s[k]=c<;>simp[hc]
set_option maxHeartbeats 1600000 in
theorem split_any (c:UInt8) (s:ByteArray) (w:World) (hs:s.size≤8192) :
  Calls Tryz.prog 52 #[.string s,.string ⟨#[c]⟩] w fun e w'=>∃ g cap,∃ ws:List ByteArray,e=.returned (.slice (some ⟨g,0,none⟩) ws.length cap)∧ws.map ByteArray.toList=P.splitAt c s.toList ∧
   w'.ownsRow w.heap.size 9 1 (.slice (some ⟨g,0,none⟩) ws.length cap) ws.length (ws.map Value.string)∧Below w.heap.size w w':=by
 obtain⟨i0,hi,hz0,hz1,hz2⟩:=info_parts Tryz.infoStr
 have hone:(⟨#[c]⟩:ByteArray).size=1:=rfl
 generalize hbet:(⟨#[c]⟩:ByteArray)=bet at *
 go_enter Tryz.func52,Tryz.ntmps52
 go_wp2
 go_loopw [5,6,7] (fun v f i wr=>∃ k m:Nat,∃ bs:List ByteArray,k≤s.size∧m≤k∧i=.int .i64 k∧f=.int .i64 m∧bs.length≤k∧Hid (P.splitAt c (s.toList.take k)=bs.map ByteArray.toList++[(s.toList.take k).drop m]) ∧
   wr.ownsRow w.heap.size 9 1 v bs.length (bs.map Value.string)∧Below w.heap.size w wr) (fun _ _ i _=>s.size-(intOf i).toNat)
 case atStart=>exact⟨0,0,[],Nat.zero_le _,Nat.le_refl _,rfl,rfl,Nat.le_refl _,by unfold Hid;simp[P.splitAt],World.ownsRow_nil _ _ _ _,Below.refl _ _⟩
 case round =>
  obtain⟨k,m,bs,hk,hm,rfl,rfl,hbl,HS,hown,hbel⟩:=hrel
  have hmk:(m:Int)≤(k:Int):=by omega
  by_cases hlt:k<s.size
  ·have hlt':(k:Int)+1≤(s.size:Int):=by omega
   have hex:∀ wx,(Instr.slice 9 (.string s) (some (.int .i64 (k:Int))) (some (.int .i64 ((k:Int)+1))) none).run Tryz.prog wx=.ok (.string (s.extract k (k+1))) wx:=fun wx=>by
    rw[run_slice_string wx 9 s .i64 .i64 _ _ Tryz.underlying9 (by omega) (by omega) (by omega),show ((k:Int)).toNat=k by omega,show ((k:Int)+1).toNat=k+1 by omega]
   by_cases hc:s[k]=c
   ·have hq:((s.extract k (k+1)).toList==bet.toList)=true:=by rw[← hbet,one_eq s c k hlt];simpa using hc
    have HC:=hide hc
    clear hc
    go_wp2_with (first
     | (at_builtin;refine wpList_append_lies _ rfl (.tmp 38) (.tmp 43) 37 rfl w.heap.size 9 i0 (.string ByteArray.empty) 1 16 Tryz.underlying37 hi hz0 hz1 hz2 rfl (by decide) _ _ _ rfl (hown.alloc _) ⟨wr.heap.size,0,none⟩ 1 1 [.string (s.extract m k)] rfl rfl ?c1 ?c2 (by decide) ?c3 ?c4 ?c5 _ rfl ?_))
    case c1 =>
     intro j u hj
     match j,hj with
     | 0,hj=>simp at hj;subst hj;simp[Addr.add]
    case c2=>intro u hu;simp at hu;subst hu;rfl
    case c3=>unfold maxLen;omega
    case c4=>omega
    case c5=>have:=hbel.size;simp;omega
    intro g cap w1 hown' hgrow hat hglt
    have R:=split_step c s k m bs hlt HS.out HC.out
    have HR:=hide R
    have hb1:Below w.heap.size w w1:=(hbel.alloc hbel.size _).grown hgrow (by have:=hbel.size;simp;omega) (fun j hj=>(hown.lt j hj).1)
    clear R hown hgrow hat HS
    go_wp2
    go_roundw
    case rel=>exact⟨k+1,k+1,bs++[s.extract m k],by omega,Nat.le_refl _,by go_num,by go_num,by simp;omega,HR,by simpa using hown',hb1⟩
    case measure=>simp[intOf];omega
   ·have hq:((s.extract k (k+1)).toList==bet.toList)=false:=by rw[← hbet,one_eq s c k hlt];simpa using hc
    have HR:=hide (split_stay c s k m bs hlt hm HS.out hc)
    clear HS hc
    go_wp2
    go_roundw
    case rel=>exact⟨k+1,m,bs,by omega,by omega,by go_num,rfl,by omega,HR,hown,hbel⟩
    case measure=>simp[intOf];omega
  ·have hlt':¬ ((k:Int)+1≤(s.size:Int)):=by omega
   have HS2:Hid ((bs++[s.extract m s.size]).map ByteArray.toList=P.splitAt c s.toList):=by
    have hks:k=s.size:=by omega
    subst hks
    unfold Hid
    have:=HS.out
    rw[List.take_of_length_le (by rw[size_toList];exact Nat.le_refl _)] at this
    rw[this];simp[extract_toList,List.take_of_length_le,size_toList]
   clear HS
   go_wp2_with (first
     | (at_builtin;refine wpList_append_lies _ rfl (.tmp 49) (.tmp 53) 37 rfl w.heap.size 9 i0 (.string ByteArray.empty) 1 16 Tryz.underlying37 hi hz0 hz1 hz2 rfl (by decide) _ _ _ rfl (hown.alloc _) ⟨wr.heap.size,0,none⟩ 1 1 [.string (s.extract m s.size)] rfl rfl ?d1 ?d2 (by decide) ?d3 ?d4 ?d5 _ rfl ?_))
   case d2=>first | rfl | (intro u hu;simp at hu;subst hu;rfl)
   case d3=>unfold maxLen;omega
   case d4=>omega
   case d5=>have:=hbel.size;simp;omega
   intro g cap w1 hown' hgrow hat hglt
   have hb1:Below w.heap.size w w1:=(hbel.alloc hbel.size _).grown hgrow (by have:=hbel.size;simp;omega) (fun j hj=>(hown.lt j hj).1)
   clear hown hgrow hat
   go_wp2
   go_ret
   exact⟨g,cap,bs++[s.extract m s.size],by simp,HS2.out,by simpa using hown',hb1⟩
theorem own_words {w:World} {B g cap:Nat} {ws:List ByteArray} (h:w.ownsRow B 9 1 (.slice (some ⟨g,0,none⟩) ws.length cap) ws.length (ws.map Value.string)):WordsAt w g 0 ws∧ws.length≤cap∧g<w.heap.size:=by
 refine⟨fun i s hs=>?_,?_,(h.lt g rfl).2⟩
 ·have hi:=(List.getElem?_eq_some_iff.1 hs).1
  rw[Nat.zero_add,h.cellAt i (by omega)]
  simp[hs]
 ·rcases h.2 with ⟨h',_⟩ | ⟨g',cap',cur,h',hb,hg,hnc,_⟩
  ·simp at h'
  ·simp only[Value.slice.injEq] at h';omega
end Go.Proofs.YtgceflcbckjjiaaGreatDoor
