import Derived.Deep.AppendLies
import Derived.WalkSpells
import Derived.Deep.MidRow
import Derived.Test.YtgceflcbckjjiaaGreatDoorD01
set_option linter.unusedVariables false
set_option linter.unusedSimpArgs false
set_option maxHeartbeats 12800000
namespace Go.Proofs.YtgceflcbckjjiaaGreatDoor
open Go Go.RowKit
set_option maxRecDepth 100000
theorem zBu (s:ByteArray) (m k:Nat):(s.extract m k).toList=(s.toList.take k).drop m:=by
 rw[zAR,zAR,List.drop_take]
 simp
theorem zCB (s:ByteArray) (k:Nat) (h:k<s.size):s.toList.take (k+1)=s.toList.take k++[s[k]]:=by
 rw[zAR,List.take_succ_eq_append_getElem (by simpa using h)];rfl
theorem Tryz.infoStr:(Tryz.prog.info? 9).map (fun i=>(i.zero,i.size,i.bytes))=some (some (.string ByteArray.empty),1,16):=by kernel_rfl
theorem zEg (c:UInt8) (s:ByteArray) (k m:Nat) (bs:List ByteArray) (hk:k<s.size) (h:P.zJZ c (s.toList.take k)=bs.map ByteArray.toList++[(s.toList.take k).drop m]) (hc:s[k]=c) :
  P.zJZ c (s.toList.take (k+1))=(bs++[s.extract m k]).map ByteArray.toList++[(s.toList.take (k+1)).drop (k+1)]:=by
 rw[zCB s k hk,P.zLt _ _ _ _ _ h,if_pos hc]
 simp[zBu]
 omega
theorem zEh (c:UInt8) (s:ByteArray) (k m:Nat) (bs:List ByteArray) (hk:k<s.size) (hm:m≤k) (h:P.zJZ c (s.toList.take k)=bs.map ByteArray.toList++[(s.toList.take k).drop m]) (hc:¬ s[k]=c) :
  P.zJZ c (s.toList.take (k+1))=bs.map ByteArray.toList++[(s.toList.take (k+1)).drop m]:=by
 rw[zCB s k hk,P.zLt _ _ _ _ _ h,if_neg hc]
 have:m≤(s.toList.take k).length:=by rw[List.length_take,zAu];omega
 rw[List.drop_append_of_le_length this]
theorem zEt (a:UInt8) (n:Nat) (hn:n<256):(((a.toNat:Int)==(n:Int))=true) ↔ a=UInt8.ofNat n:=by
 rw[zIV a n hn];simp
theorem zIt (s:ByteArray) (c:UInt8) (k:Nat) (h:k<s.size):((s.extract k (k+1)).toList==(⟨#[c]⟩:ByteArray).toList)=decide (s[k]=c):=by
 have e:(s.extract k (k+1)).toList=[s[k]]:=by
  rw[zBu,zCB s k h,List.drop_append_of_le_length (by rw[List.length_take,zAu];omega),List.drop_of_length_le (by rw[List.length_take];omega)]
  rfl
 have e2:(⟨#[c]⟩:ByteArray).toList=[c]:=by rw[zAR]
 rw[e,e2]
 by_cases hc:s[k]=c<;>simp[hc]
theorem zEH (c:UInt8) (s:ByteArray) (w:World) (hs:s.size≤8192) :
  Calls Tryz.prog 52 #[.string s,.string ⟨#[c]⟩] w fun e w'=>∃ g cap,∃ ws:List ByteArray,e=.returned (.slice (some ⟨g,0,none⟩) ws.length cap)∧ws.map ByteArray.toList=P.zJZ c s.toList ∧
   w'.ownsRow w.heap.size 9 1 (.slice (some ⟨g,0,none⟩) ws.length cap) ws.length (ws.map Value.string)∧Below w.heap.size w w':=by
 obtain⟨i0,hi,hz0,hz1,hz2⟩:=info_parts Tryz.infoStr
 have hone:(⟨#[c]⟩:ByteArray).size=1:=rfl
 generalize hbet:(⟨#[c]⟩:ByteArray)=bet at *
 go_enter Tryz.func52,Tryz.ntmps52
 go_wp2
 go_loopw [5,6,7] (fun v f i wr=>∃ k m:Nat,∃ bs:List ByteArray,k≤s.size∧m≤k∧i=.int .i64 k∧f=.int .i64 m∧bs.length≤k∧Hid (P.zJZ c (s.toList.take k)=bs.map ByteArray.toList++[(s.toList.take k).drop m]) ∧
   wr.ownsRow w.heap.size 9 1 v bs.length (bs.map Value.string)∧Below w.heap.size w wr) (fun _ _ i _=>s.size-(intOf i).toNat)
 case atStart=>exact⟨0,0,[],Nat.zero_le _,Nat.le_refl _,rfl,rfl,Nat.le_refl _,by unfold Hid;simp[P.zJZ],World.ownsRow_nil _ _ _ _,Below.refl _ _⟩
 case round =>
  obtain⟨k,m,bs,hk,hm,rfl,rfl,hbl,HS,hown,hbel⟩:=hrel
  have hmk:(m:Int)≤(k:Int):=by omega
  by_cases hlt:k<s.size
  ·have hlt':(k:Int)+1≤(s.size:Int):=by omega
   have hex:∀ wx,(Instr.slice 9 (.string s) (some (.int .i64 (k:Int))) (some (.int .i64 ((k:Int)+1))) none).run Tryz.prog wx=.ok (.string (s.extract k (k+1))) wx:=fun wx=>by
    rw[run_slice_string wx 9 s .i64 .i64 _ _ Tryz.underlying9 (by omega) (by omega) (by omega),show ((k:Int)).toNat=k by omega,show ((k:Int)+1).toNat=k+1 by omega]
   by_cases hc:s[k]=c
   ·have hq:((s.extract k (k+1)).toList==bet.toList)=true:=by rw[← hbet,zIt s c k hlt];simpa using hc
    have HC:=zAa hc
    clear hc
    go_wp2_with (first
     | (at_builtin;refine wpList_append_lies _ rfl (.tmp 38) (.tmp 43) 37 rfl w.heap.size 9 i0 (.string ByteArray.empty) 1 16 Tryz.underlying37 hi hz0 hz1 hz2 rfl (by decide) _ _ _ rfl (hown.alloc _) ⟨wr.heap.size,0,none⟩ 1 1 [.string (s.extract m k)] rfl rfl ?c1 ?c2 (by decide) ?c3 ?c4 ?c5 _ rfl ?_))
    case c1 =>
     intro j u hj
     match j,hj with
     | 0,hj=>simp at hj;subst hj;simp[Addr.add]
    case c2=>intro u hu;simp at hu;subst hu;rfl
    case c3=>unfold maxLen;omega
    case c4=>omega
    case c5=>have:=hbel.size;simp;omega
    intro g cap w1 hown' hgrow hat hglt
    have R:=zEg c s k m bs hlt HS.out HC.out
    have HR:=zAa R
    have hb1:Below w.heap.size w w1:=(hbel.alloc hbel.size _).grown hgrow (by have:=hbel.size;simp;omega) (fun j hj=>(hown.lt j hj).1)
    clear R hown hgrow hat HS
    go_wp2
    go_roundw
    case rel=>exact⟨k+1,k+1,bs++[s.extract m k],by omega,Nat.le_refl _,by go_num,by go_num,by simp;omega,HR,by simpa using hown',hb1⟩
    case measure=>simp[intOf];omega
   ·have hq:((s.extract k (k+1)).toList==bet.toList)=false:=by rw[← hbet,zIt s c k hlt];simpa using hc
    have HR:=zAa (zEh c s k m bs hlt hm HS.out hc)
    clear HS hc
    go_wp2
    go_roundw
    case rel=>exact⟨k+1,m,bs,by omega,by omega,by go_num,rfl,by omega,HR,hown,hbel⟩
    case measure=>simp[intOf];omega
  ·have hlt':¬ ((k:Int)+1≤(s.size:Int)):=by omega
   have HS2:Hid ((bs++[s.extract m s.size]).map ByteArray.toList=P.zJZ c s.toList):=by
    have hks:k=s.size:=by omega
    subst hks
    unfold Hid
    have:=HS.out
    rw[List.take_of_length_le (by rw[zAu];exact Nat.le_refl _)] at this
    rw[this];simp[zBu,List.take_of_length_le,zAu]
   clear HS
   go_wp2_with (first
     | (at_builtin;refine wpList_append_lies _ rfl (.tmp 49) (.tmp 53) 37 rfl w.heap.size 9 i0 (.string ByteArray.empty) 1 16 Tryz.underlying37 hi hz0 hz1 hz2 rfl (by decide) _ _ _ rfl (hown.alloc _) ⟨wr.heap.size,0,none⟩ 1 1 [.string (s.extract m s.size)] rfl rfl ?d1 ?d2 (by decide) ?d3 ?d4 ?d5 _ rfl ?_))
   case d2=>first | rfl | (intro u hu;simp at hu;subst hu;rfl)
   case d3=>unfold maxLen;omega
   case d4=>omega
   case d5=>have:=hbel.size;simp;omega
   intro g cap w1 hown' hgrow hat hglt
   have hb1:Below w.heap.size w w1:=(hbel.alloc hbel.size _).grown hgrow (by have:=hbel.size;simp;omega) (fun j hj=>(hown.lt j hj).1)
   clear hown hgrow hat
   go_wp2
   go_ret
   exact⟨g,cap,bs++[s.extract m s.size],by simp,HS2.out,by simpa using hown',hb1⟩
theorem zEI {w:World} {B g cap:Nat} {ws:List ByteArray} (h:w.ownsRow B 9 1 (.slice (some ⟨g,0,none⟩) ws.length cap) ws.length (ws.map Value.string)):zAz w g 0 ws∧ws.length≤cap∧g<w.heap.size:=by
 refine⟨fun i s hs=>?_,?_,(h.lt g rfl).2⟩
 ·have hi:=(List.getElem?_eq_some_iff.1 hs).1
  rw[Nat.zero_add,h.cellAt i (by omega)]
  simp[hs]
 ·rcases h.2 with ⟨h',_⟩ | ⟨g',cap',cur,h',hb,hg,hnc,_⟩
  ·simp at h'
  ·simp only[Value.slice.injEq] at h';omega
theorem zHK (x:ByteArray) (l:List UInt8) (h:x.data.toList=l):x=⟨l.toArray⟩:=by
 subst h
 cases x
 simp
theorem zAj (l:List UInt8):(⟨l.toArray⟩:ByteArray).toList=l:=by rw[zAR]
theorem zAq (a b:ByteArray):(a++b).toList=a.toList++b.toList:=by
 rw[zAR,zAR,zAR];simp
theorem zAc (l:Array UInt8):(⟨l⟩:ByteArray).toList=l.toList:=by rw[zAR]
theorem zAF (l:Array UInt8):(⟨l⟩:ByteArray).size=l.size:=rfl
def Txt (k:Nat) (s:ByteArray) (l:List UInt8):Prop:=s.toList=l∧s.size≤k
theorem Txt.size {k:Nat} {s:ByteArray} {l:List UInt8} (h:Txt k s l):s.size≤k:=h.2
theorem zBg (s:ByteArray) (w:World) (hs:s.size≤10000000) :
  Calls Tryz.prog 16 #[.string s] w fun e w'=>∃ v,∃ ws:List ByteArray,e=.returned v∧ws.map ByteArray.toList=(P.zJZ 10 s.toList).dropLast∧(∀ x∈ws,x.size≤s.size)∧w'.ownsRow w.heap.size 9 1 v ws.length (ws.map Value.string)∧Below w.heap.size w w':=by
 obtain⟨i0,hi,hz0,hz1,hz2⟩:=info_parts Tryz.infoStr
 go_enter Tryz.func16,Tryz.ntmps16
 go_wp2
 go_loopw [3,4,5] (fun v f i wr=>∃ k m:Nat,∃ bs:List ByteArray,∃ v',v=v'∧k≤s.size∧m≤k∧i=.int .i64 k∧f=.int .i64 m∧bs.length≤k∧Hid (P.zJZ 10 (s.toList.take k)=bs.map ByteArray.toList++[(s.toList.take k).drop m]) ∧
   Hid (∀ x∈bs,x.size≤s.size)∧Hid (wr.ownsRow w.heap.size 9 1 v' bs.length (bs.map Value.string))∧Hid (Below w.heap.size w wr)) (fun _ _ i _=>s.size-(intOf i).toNat)
 case atStart=>exact⟨0,0,[],_,rfl,Nat.zero_le _,Nat.le_refl _,rfl,rfl,Nat.le_refl _,by unfold Hid;simp[P.zJZ],fun x hx=>by simp at hx,World.ownsRow_nil _ _ _ _,Below.refl _ _⟩
 case round =>
  obtain⟨k,m,bs,v',hv,hk,hm,rfl,rfl,hbl,HS,HXS,HO,HB⟩:=hrel
  have hv:=hv.symm
  subst hv
  have hmk:(m:Int)≤(k:Int):=by omega
  by_cases hlt:k<s.size
  ·have hlt':(k:Int)<(s.size:Int):=by omega
   have hk0:(0:Int)≤(k:Int):=by omega
   have hle':(k:Int)≤(s.size:Int):=by omega
   have hm0:(0:Int)≤(m:Int):=by omega
   by_cases hc:s[k]=10
   ·have hq:((s[k].toNat:Int)==10)=true:=by rw[hc];rfl
    have HC:=zAa hc
    clear hc
    have hsl:=HB.out.size
    have hex:∀ wx,(Instr.slice 9 (.string s) (some (.int .i64 (m:Int))) (some (.int .i64 (k:Int))) none).run Tryz.prog wx=.ok (.string (s.extract m k)) wx:=fun wx=>by
     rw[run_slice_string wx 9 s .i64 .i64 _ _ Tryz.underlying9 (by omega) (by omega) (by omega),show ((k:Int)).toNat=k by omega,show ((m:Int)).toNat=m by omega]
    have HO2:Hid ((wr.alloc (.cells #[.string (s.extract m k)] 9)).ownsRow w.heap.size 9 1 v' bs.length (bs.map Value.string)):=HO.out.alloc _
    have HN2:Hid (∀ j u,[Value.string (s.extract m k)][j]?=some u→(wr.alloc (.cells #[.string (s.extract m k)] 9)).cell? ((⟨wr.heap.size,0,none⟩:Addr).add j)=some u):=World.news_of_block (cs:=#[.string (s.extract m k)]) (t:=9) (fr:=(0,0)) (heap_alloc_new wr _)
    go_wp2_with (first
     | (at_builtin;refine wpList_append_lies _ rfl (.tmp 16) (.tmp 21) 37 rfl w.heap.size 9 i0 (.string ByteArray.empty) 1 16 Tryz.underlying37 hi hz0 hz1 hz2 rfl (by decide) _ bs.length (bs.map Value.string) rfl (by exact HO2.out) ⟨wr.heap.size,0,none⟩ 1 1 [.string (s.extract m k)] rfl rfl (by exact HN2.out) (by simp[Value.oneCell']) (by decide) (by unfold maxLen;omega) (by omega) (by simp;omega) _ rfl ?_;intro g cap w1 hown' hgrow hat hglt))
    have HR:=zAa (zEg 10 s k m bs hlt HS.out HC.out)
    have hb1:Hid (Below w.heap.size w w1):=(HB.out.alloc HB.out.size _).grown hgrow (by have:=HB.out.size;simp;omega) (fun j hj=>(HO.out.lt j hj).1)
    have HO3:Hid (w1.ownsRow w.heap.size 9 1 (.slice (some ⟨g,0,none⟩) (bs.length+1) cap) (bs++[s.extract m k]).length ((bs++[s.extract m k]).map Value.string)):=by unfold Hid;simpa using hown'
    have HXS2:Hid (∀ x∈bs++[s.extract m k],x.size≤s.size):=fun x hx=>by
     rcases List.mem_append.1 hx with hx | hx
     ·exact HXS.out x hx
     ·simp at hx
      subst hx
      rw[ByteArray.size_extract];omega
    clear hown' hgrow hat HS
    (try go_wp2)
    go_roundw
    case rel=>exact⟨k+1,k+1,bs++[s.extract m k],_,rfl,by omega,Nat.le_refl _,by go_num,by go_num,by simp;omega,HR,HXS2,HO3,hb1⟩
    case measure=>simp[intOf];omega
   ·have hq:((s[k].toNat:Int)==10)=false:=by
     rw[beq_eq_false_iff_ne]
     intro e
     apply hc
     apply UInt8.toNat_inj.1
     have:s[k].toNat=10:=by omega
     rw[this];rfl
    have HR:=zAa (zEh 10 s k m bs hlt hm HS.out hc)
    clear HS hc
    go_wp2
    go_roundw
    case rel=>exact⟨k+1,m,bs,_,rfl,by omega,by omega,by go_num,rfl,by omega,HR,HXS,HO,HB⟩
    case measure=>simp[intOf];omega
  ·have hnlt:decide ((k:Int)<(s.size:Int))=false:=decide_eq_false (by omega)
   have HS2:Hid (bs.map ByteArray.toList=(P.zJZ 10 s.toList).dropLast):=by
    have hks:k=s.size:=by omega
    subst hks
    unfold Hid
    have:=HS.out
    rw[List.take_of_length_le (by rw[zAu];exact Nat.le_refl _)] at this
    rw[this];simp
   clear HS
   go_wp2
   go_ret
   exact⟨_,rfl,bs,HS2.out,HXS.out,HO.out,HB.out⟩
namespace P
def zKQ (a t:List UInt8):Bool:=decide (t.length≤a.length)&&(a.take t.length==t)
end P
theorem zDG (s t:ByteArray) (w:World) :
  Calls Tryz.prog 18 #[.string s,.string t] w fun e w'=>e=.returned (.bool (P.zKQ s.toList t.toList))∧w'=w:=by
 have HB:Hid (P.zKQ s.toList t.toList=(decide (t.size≤s.size)&&((s.extract 0 t.size).toList==t.toList))):=by
  unfold Hid P.zKQ
  rw[zAu,zAu,zBu,List.drop_zero]
 by_cases h:t.size≤s.size
 ·have h':(t.size:Int)≤(s.size:Int):=by omega
  have hb2:P.zKQ s.toList t.toList=((s.extract 0 t.size).toList==t.toList):=by rw[HB.out,decide_eq_true h,Bool.true_and]
  have HB2:=zAa hb2
  clear hb2
  go_enter Tryz.func18,Tryz.ntmps18
  go_wp2
  go_ret
  rw[HB2.out];exact⟨rfl,rfl⟩
 ·have h':decide ((t.size:Int)≤(s.size:Int))=false:=decide_eq_false (by omega)
  have hb2:P.zKQ s.toList t.toList=false:=by rw[HB.out,decide_eq_false h,Bool.false_and]
  have HB2:=zAa hb2
  clear hb2
  go_enter Tryz.func18,Tryz.ntmps18
  go_wp2
  go_ret
  rw[HB2.out];exact⟨rfl,rfl⟩
theorem zGW (c:Int) (w:World) (h0:-9223372036854775808≤c) (h1:c<9223372036854775808) :
  Calls Tryz.prog 9 #[.int .i64 c,.int .i64 4] w fun e w'=>∃ i:Nat,i<4∧e=.returned (.int .i64 (i:Int))∧w'=w:=by
 by_cases hc:c<0
 ·have hw1:IntKind.i64.wrap (c+1)=c+1:=by simp[IntKind.wrap,IntKind.signed,IntKind.bits];omega
  have hw2:IntKind.i64.wrap (-(c+1))=-(c+1):=by simp[IntKind.wrap,IntKind.signed,IntKind.bits];omega
  have hr:-((c+1).tmod 4)=(-(c+1)) % 4:=by rw[← Int.neg_tmod,Int.tmod_eq_emod_of_nonneg (by omega)]
  have HR:Hid (-((c+1).tmod 4)=(((-(c+1)) % 4).toNat:Int)):=by unfold Hid;rw[hr];omega
  clear hr
  go_enter Tryz.func9,Tryz.ntmps9
  go_wp2
  go_ret
  refine⟨((-(c+1)) % 4).toNat,by omega,?_,rfl⟩
  rw[← HR.out];rfl
 ·have HR:Hid (c % 4=((c % 4).toNat:Int)):=by unfold Hid;omega
  go_enter Tryz.func9,Tryz.ntmps9
  go_wp2
  go_ret
  refine⟨(c % 4).toNat,by omega,?_,rfl⟩
  rw[← HR.out];rfl
theorem zGv (c:Int) (w:World) (h0:-9223372036854775808≤c) (h1:c<9223372036854775808) :
  Calls Tryz.prog 9 #[.int .i64 c,.int .i64 29] w fun e w'=>∃ i:Nat,i<29∧e=.returned (.int .i64 (i:Int))∧w'=w:=by
 by_cases hc:c<0
 ·have hw1:IntKind.i64.wrap (c+1)=c+1:=by simp[IntKind.wrap,IntKind.signed,IntKind.bits];omega
  have hw2:IntKind.i64.wrap (-(c+1))=-(c+1):=by simp[IntKind.wrap,IntKind.signed,IntKind.bits];omega
  have hr:-((c+1).tmod 29)=(-(c+1)) % 29:=by rw[← Int.neg_tmod,Int.tmod_eq_emod_of_nonneg (by omega)]
  have HR:Hid (-((c+1).tmod 29)=(((-(c+1)) % 29).toNat:Int)):=by unfold Hid;rw[hr];omega
  clear hr
  go_enter Tryz.func9,Tryz.ntmps9
  go_wp2
  go_ret
  refine⟨((-(c+1)) % 29).toNat,by omega,?_,rfl⟩
  rw[← HR.out];rfl
 ·have HR:Hid (c % 29=((c % 29).toNat:Int)):=by unfold Hid;omega
  go_enter Tryz.func9,Tryz.ntmps9
  go_wp2
  go_ret
  refine⟨(c % 29).toNat,by omega,?_,rfl⟩
  rw[← HR.out];rfl
namespace P
def zMx (x one y two:List UInt8):List UInt8:=[116,104,114,101,97,100,32,48,10,115,116,111,114,101,32,120,32,49,32]++x++one++[115,116,111,114,101,32,121,32,49,32]++y++[116,104,114,101,97,100,32,49,10,114,48,32,61,32,108,111,97,100,32,121,32]++y++two++[114,49,32,61,32,108,111,97,100,32,120,32]++x
def zMs (b sc:List UInt8):List UInt8:=[116,104,114,101,97,100,32,48,10,115,116,111,114,101,32,120,32,49]++([32,114,101,108,97,120,101,100,32]++sc++[10])++b++[114,48,32,61,32,108,111,97,100,32,121]++([32,114,101,108,97,120,101,100,32]++sc++[10])++[116,104,114,101,97,100,32,49,10,115,116,111,114,101,32,121,32,49]++([32,114,101,108,97,120,101,100,32]++sc++[10])++b++[114,48,32,61,32,108,111,97,100,32,120]++([32,114,101,108,97,120,101,100,32]++sc++[10])
end P
theorem zFr (x one y two:ByteArray) (w:World) (h1:x.size≤1000) (h2:one.size≤1000) (h3:y.size≤1000) (h4:two.size≤1000) :
  Calls Tryz.prog 21 #[.string x,.string one,.string y,.string two] w fun e w'=>∃ t,e=.returned (.string t)∧t.toList=P.zMx x.toList one.toList y.toList two.toList∧w'=w:=by
 go_enter Tryz.func21,Tryz.ntmps21
 go_wp2
 go_ret
 refine⟨_,rfl,?_,rfl⟩
 simp only[P.zMx,zAq,zAc]
theorem zEJ (b sc:ByteArray) (w:World) (h1:b.size≤1000) (h2:sc.size≤1000) :
  Calls Tryz.prog 22 #[.string b,.string sc] w fun e w'=>∃ t,e=.returned (.string t)∧t.toList=P.zMs b.toList sc.toList∧w'=w:=by
 go_enter Tryz.func22,Tryz.ntmps22
 go_wp2
 go_ret
 refine⟨_,rfl,?_,rfl⟩
 simp only[P.zMs,zAq,zAc]
def zCa (cur:Array Value) (o:Nat):List Value→Array Value
 | []=>cur
 | v::r=>zCa (cur.setIfInBounds o v) (o+1) r
theorem zBv {g:Nat} {e:TypeId} {fr:Nat × Nat}:∀ (vs:List Value) (o:Nat) (w:World) (cur:Array Value),w.heap[g]?=some (.cells cur e fr)→(w.setCells g o vs).heap[g]?=some (.cells (zCa cur o vs) e fr)
 | [],_,_,_,h=>h
 | v::r,o,w,cur,h=>by
  rw[World.setCells]
  exact zBv r (o+1) _ _ (zAf h o v)
theorem zCf {g:Nat}:∀ (vs:List Value) (o:Nat) (w:World),w.grownBy (w.setCells g o vs) (some g)
 | [],_,w=>zAE w _
 | v::r,o,w=>by
  rw[World.setCells]
  exact zAT (zAk (zAE _ _) _ _) (zCf r (o+1) _)
theorem zEu (vs:List Value):∀ (o:Nat) (cur:Array Value),(zCa cur o vs).size=cur.size:=by
 induction vs with
 | nil=>intro o cur;rfl
 | cons v r ih=>intro o cur;rw[zCa,ih];simp
theorem zDn (vs:List Value):∀ (o:Nat) (cur:Array Value) (j:Nat),o+vs.length≤cur.size→(zCa cur o vs)[j]?=if o≤j∧j<o+vs.length then vs[j-o]? else cur[j]?:=by
 induction vs with
 | nil=>intro o cur j _;simp[zCa];omega
 | cons v r ih =>
  intro o cur j h
  simp at h
  rw[zCa,ih _ _ _ (by simp;omega)]
  by_cases h1:o=j
  ·subst h1
   rw[if_neg (by omega),if_pos (by simp)]
   simp[Array.getElem?_setIfInBounds];omega
  ·by_cases h2:o+1≤j∧j<o+1+r.length
   ·rw[if_pos h2,if_pos (by simp;omega)]
    rw[show j-o=(j-(o+1))+1 by omega];simp
   ·rw[if_neg h2,if_neg (by simp;omega)]
    simp[h1]
theorem zDo (cur new:Array Value) (h:cur.size=new.size):zCa cur 0 new.toList=new:=by
 apply Array.ext_getElem?
 intro j
 rw[zDn _ _ _ _ (by simp;omega)]
 by_cases h1:j<new.size
 ·rw[if_pos (by simp;omega)];simp
 ·rw[if_neg (by simp;omega),Array.getElem?_eq_none (by omega),Array.getElem?_eq_none (by omega)]
theorem zCg {w:World} {g:Nat} {cs:Array Value} {e:TypeId} (hg:w.heap[g]?=some (.cells cs e (0,0))):w.rangeAt g 0 cs.toList:=by
 intro j v hv
 simp[World.cell?,hg]
 simpa using hv
theorem zCJ {w:World} {g:Nat} {cs:Array Value} {e:TypeId} (hg:w.heap[g]?=some (.cells cs e (0,0))) (n:Nat) (hn:n≤cs.size):w.there g 0 n:=by
 intro j hj
 simp[World.cell?,World.frozen?,hg]
 omega
variable {Pg:Program}
theorem zBh (w:World) (g:Nat) (ty:TypeId) (cs:Array Value) (e:TypeId) (hg:w.heap[g]?=some (.cells cs e (0,0))) (d:TypeDesc) (hu:Pg.underlying ty=some d) (hd:d.isRow=true) (hi:(Pg.info? ty).map (·.size)=some cs.size) :
  (loadVar ty ⟨g,0,none⟩).run Pg w=.ok (.agg cs) w:=by
 have:=run_loadVar_mid (P:=Pg) w g 0 ty cs.toList d (zCg hg) hu hd (by simpa using hi)
 simpa using this
theorem zBD {ops:Array Oper} {rest:List Oper} {op:Oper} {a:Act} {w:World} {Q:Exit→Act→World→Prop} (hgd:op.guard=none) (ty:TypeId) (x:Operand) (ho:op.op=.load ty x)
  (g:Nat) (hx:a.eval x=.pointer (some ⟨g,0,none⟩)) (cs:Array Value) (e:TypeId) (hg:w.heap[g]?=some (.cells cs e (0,0))) (d:TypeDesc)
  (hu:Pg.underlying ty=some d) (hd:d.isRow=true) (hi:(Pg.info? ty).map (·.size)=some cs.size)
  (h:wpList Pg ops Q rest (a.put op.dst (.agg cs)) w):wpList Pg ops Q (op::rest) a w :=
 wpList_load_mid hgd ty x ho g 0 hx cs.toList d (zCg hg) hu hd (by simpa using hi) (by simpa using h)
theorem zCA {ops:Array Oper} {rest:List Oper} {op:Oper} {a:Act} {w:World} {Q:Exit→Act→World→Prop} (hgd:op.guard=none) (ty:TypeId) (x y:Operand) (ho:op.op=.store ty x y)
  (g:Nat) (cells cs:Array Value) (e:TypeId) (hx:a.eval x=.pointer (some ⟨g,0,none⟩)) (hy:a.eval y=.agg cells) (hg:w.heap[g]?=some (.cells cs e (0,0))) (hsz:cs.size=cells.size)
  (hi:(Pg.info? ty).map (·.size)=some cells.size) (h1:cells.all (·.oneCell')=true)
  (h:∀ w',w'.heap[g]?=some (.cells cells e (0,0))→w.grownBy w' (some g)→wpList Pg ops Q rest (a.put op.dst undef) w'):wpList Pg ops Q (op::rest) a w:=by
 refine wpList_store_mid hgd ty x y ho g 0 cells hx hy (zCJ hg _ (by omega)) hi h1 ?_
 have hb:=zBv cells.toList 0 w cs hg
 rw[zDo cs cells hsz] at hb
 exact h _ hb (zCf _ _ _)
theorem zAp {ops:Array Oper} {rest:List Oper} {op:Oper} {a:Act} {w:World} {Q:Exit→Act→World→Prop} (x:Operand) (hgd:op.guard=none) (ho:op.op=.load 96 x)
  (g:Nat) (st:P.Stm) (hx:a.eval x=.pointer (some ⟨g,0,none⟩)) (hg:zAw w g st)
  (h:wpList Tryz.prog ops Q rest (a.put op.dst (.agg (zAb st))) w):wpList Tryz.prog ops Q (op::rest) a w :=
 zBD hgd _ x ho g hx _ _ hg _ Tryz.underlying96 rfl (by kernel_rfl) h
theorem zAm {ops:Array Oper} {rest:List Oper} {op:Oper} {a:Act} {w:World} {Q:Exit→Act→World→Prop} (x y:Operand) (hgd:op.guard=none) (ho:op.op=.store 96 x y)
  (g:Nat) (st t:P.Stm) (hx:a.eval x=.pointer (some ⟨g,0,none⟩)) (hy:a.eval y=.agg (zAb t)) (hg:zAw w g st)
  (h:∀ w',zAw w' g t→w.grownBy w' (some g)→wpList Tryz.prog ops Q rest (a.put op.dst undef) w'):wpList Tryz.prog ops Q (op::rest) a w :=
 zCA hgd _ x y ho g (zAb t) (zAb st) _ hx hy hg rfl (by kernel_rfl) (by simp[zAb,Value.oneCell']) h
theorem zHL {w:World} {g:Nat} {st:P.Stm} (h:zAw w g st):(loadVar 96 ⟨g,0,none⟩).run Tryz.prog w=.ok (.agg (zAb st)) w :=
 zBh w g _ _ _ h _ Tryz.underlying96 rfl (by kernel_rfl)
def zCl (r:P.Stm × Bool):Value:=.tuple #[.agg (zAb r.1),.bool r.2]
theorem zAX {fn:Func} {R:Ending→World→Prop} {a:Act} {w:World} {p u:Tmp} (g:Nat) (st:P.Stm) (ok:Bool) (hres:fn.results=#[.cell p 96,.tmp u])
  (hp:a.tmps.getD p undef=.pointer (some ⟨g,0,none⟩)) (hu:a.tmps.getD u undef=.bool ok) (h:zAw w g st) (hd:a.defers=[]) (hR:R (.returned (zCl (st,ok))) w):bodyPost Tryz.prog fn R .ret a w:=by
 refine bodyPost_ret (v:=zCl (st,ok)) ?_ hd hR
 rw[results_cell_tmp hres,hp,hu]
 have:(asAddr (.pointer (some ⟨g,0,none⟩))).run Tryz.prog w=.ok ⟨g,0,none⟩ w:=rfl
 rw[this,Result.andThen_ok,zHL h,Result.andThen_ok]
 rfl
end Go.Proofs.YtgceflcbckjjiaaGreatDoor
