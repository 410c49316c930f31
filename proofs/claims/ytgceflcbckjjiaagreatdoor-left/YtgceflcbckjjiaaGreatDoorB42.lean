import Derived.Test.YtgceflcbckjjiaaGreatDoorB10
set_option linter.unusedVariables false
set_option linter.unusedSimpArgs false
namespace Go.Proofs.YtgceflcbckjjiaaGreatDoor
namespace P
def splitW (a b:UInt8):List UInt8→List (List UInt8)
 | []=>[[]]
 | [x]=>[[x]]
 | x::y::r=>if x=a∧y=b then []::splitW a b r else match splitW a b (y::r) with
  | h::t=>(x::h)::t
  | []=>[[x]]
def preH (c:List UInt8):List (List UInt8)→List (List UInt8)
 | h::t=>(c++h)::t
 | []=>[c]
theorem splitW_ne (a b:UInt8):∀ l:List UInt8,splitW a b l≠[]
 | []=>by simp[splitW]
 | [x]=>by simp[splitW]
 | x::y::r=>by
  unfold splitW
  split
  ·simp
  ·split<;>simp
theorem splitW_hit (a b:UInt8) (r:List UInt8):splitW a b (a::b::r)=[]::splitW a b r:=by simp[splitW]
theorem splitW_miss (a b x:UInt8) (q:List UInt8) (h:¬ (x=a∧q.head?=some b)):splitW a b (x::q)=preH [x] (splitW a b q):=by
 cases q with
 | nil=>simp[splitW,preH]
 | cons y r =>
  have h':¬ (x=a∧y=b):=fun e=>h ⟨e.1,by simp[e.2]⟩
  rw[splitW,if_neg h']
  cases hs:splitW a b (y::r) with
  | nil=>exact absurd hs (splitW_ne _ _ _)
  | cons p t=>rfl
theorem preH_preH (c d:List UInt8) (l:List (List UInt8)) (h:l≠[]):preH c (preH d l)=preH (c++d) l:=by
 cases l with
 | nil=>exact absurd rfl h
 | cons p t=>simp[preH]
theorem preH_nil (l:List (List UInt8)) (h:l≠[]):preH [] l=l:=by
 cases l with
 | nil=>exact absurd rfl h
 | cons p t=>simp[preH]
theorem splitW_short (a b:UInt8) (l:List UInt8) (h:l.length≤1):splitW a b l=[l]:=by
 match l,h with
 | [],_=>rfl
 | [x],_=>rfl
theorem splitW_le (a b:UInt8):∀ (l:List UInt8),(splitW a b l).length≤l.length+1
 | []=>by simp[splitW]
 | [x]=>by simp[splitW]
 | x::y::r=>by
  unfold splitW
  have h1:=splitW_le a b r
  have h2:=splitW_le a b (y::r)
  split
  ·simp;omega
  ·split
   ·rename_i e;rw[e] at h2;simp at h2 ⊢;omega
   ·simp
def cutA (l:List UInt8):List UInt8 × List (List UInt8) :=
 (l.takeWhile (fun c=>c != 32),if l.any (fun c=>c==32) then splitW 44 32 ((l.dropWhile (fun c=>c != 32)).drop 1) else [])
def readReg (w:List UInt8):Int × Bool:=if w=regT 0 then (0,true) else if w=regT 1 then (1,true) else if w=regT 2 then (2,true) else if w=regT 3 then (3,true) else (0,false)
def readVar (w:List UInt8):Int × Bool:=if w=celT 0 then (0,true) else if w=celT 1 then (1,true) else if w=celT 2 then (2,true) else (0,false)
def readOpd (w:List UInt8):Opd × Bool :=
 if w=dec 0 then (⟨false,0⟩,true) else if w=dec 1 then (⟨false,1⟩,true) else if w=dec 2 then (⟨false,2⟩,true) else if w=dec 3 then (⟨false,3⟩,true) else (⟨true,(readReg w).1⟩,(readReg w).2)
def ordGo (kind:Int) (w:List UInt8):Nat→Nat→Option (Int × Int)
 | 0,_=>none
 | f+1,k=>if allows kind ((k / 2:Nat):Int)&&w==sufO ((k / 2:Nat):Int) ((k % 2:Nat):Int) then some (((k / 2:Nat):Int),((k % 2:Nat):Int)) else ordGo kind w f (k+1)
def readOrd (st:Stm) (w:List UInt8):Stm × Bool :=
 if isOrd st.kind then match ordGo st.kind w 12 0 with
  | some (o,s)=>({ st with order:=o,scope:=s },true)
  | none=>(st,false)
 else (st,w==[])
def partR (st:Stm) (c:UInt8) (w:List UInt8):Stm × Bool :=
 if c=100 then ({ st with dest:=(readReg w).1 },(readReg w).2)
 else if c=118 then ({ st with var:=(readVar w).1 },(readVar w).2)
 else if c=97 then ({ st with a:=(readOpd w).1 },(readOpd w).2)
 else if c=98 then ({ st with b:=(readOpd w).1 },(readOpd w).2)
 else (st,w==labT st.label)
def partsR (st:Stm):List UInt8→List (List UInt8)→Stm × Bool
 | c::cs,w::ws=>if (partR st c w).2 then partsR (partR st c w).1 cs ws else (Stm.zero,false)
 | _,_=>(st,true)
def operandsR (st:Stm) (cs:List UInt8) (ws:List (List UInt8)):Stm × Bool :=
 if cs.length != ws.length then (Stm.zero,false) else partsR st cs ws
def stmGo (first:List UInt8) (ops:List (List UInt8)) (next:Int):Nat→Int→Stm × Bool
 | 0,_=>(Stm.zero,false)
 | f+1,k =>
  if (layT k).1.isPrefixOf first then
   let st:Stm:=if k==10 then { Stm.zero with kind:=k,label:=next } else { Stm.zero with kind:=k }
   if (readOrd st (first.drop (layT k).1.length)).2 then operandsR (readOrd st (first.drop (layT k).1.length)).1 (layT k).2 ops
   else stmGo first ops next f (k+1)
  else stmGo first ops next f (k+1)
def stmA (l:List UInt8) (next:Int):Stm × Bool:=stmGo (cutA l).1 (cutA l).2 next 11 0
def thrT (b:Int):List UInt8:=[46,116,104,114,101,97,100,32]++dec b
def openL (r:Rd):Int:=r.opn.getLast?.getD 0
def takeA (r:Rd) (l:List UInt8):Rd × Bool :=
 if l=thrT 0 then beginD r 0 r.line else if l=thrT 1 then beginD r 1 r.line
 else if openL r != 0&&l==labT (openL r)++[58] then putD r { Stm.zero with kind:=11,line:=r.line }
 else if !(stmA l (r.ifs+1)).2||((stmA l (r.ifs+1)).1.kind==5&&openL r != 0) then (r,false)
 else putD r { (stmA l (r.ifs+1)).1 with line:=r.line }
def runA (r:Rd):List (List UInt8)→Rd × Bool
 | []=>(r,true)
 | x::xs=>if (takeA { r with line:=r.line+1 } x).2 then runA (takeA { r with line:=r.line+1 } x).1 xs else ((takeA { r with line:=r.line+1 } x).1,false)
def Rd.zeroA:Rd:=⟨[],0,0,0,[],40⟩
def linesA (l:List UInt8):List Thr × Int :=
 let q:=runA Rd.zeroA (splitAt 10 l).dropLast
 if q.2 then
  if (splitAt 10 l).getLast?≠some []∨q.1.opn≠[]∨q.1.threads=[] then ([],q.1.line+1) else (q.1.threads,0)
 else ([],q.1.line)
theorem takeA_keep (r:Rd) (l:List UInt8):(takeA r l).1.line=r.line∧(takeA r l).1.most=r.most:=by
 unfold takeA
 split
 ·exact beginD_keep _ _ _
 split
 ·exact beginD_keep _ _ _
 split
 ·exact putD_keep _ _
 split
 ·exact⟨rfl,rfl⟩
 ·exact putD_keep _ _
theorem runA_snoc (xs:List (List UInt8)):∀ (r r':Rd) (x:List UInt8),runA r xs=(r',true)→runA r (xs++[x])=takeA { r' with line:=r'.line+1 } x:=by
 induction xs with
 | nil =>
  intro r r' x h
  simp[runA] at h
  subst h
  simp only[List.nil_append,runA]
  cases ht:(takeA { r with line:=r.line+1 } x).2
  ·simp[← ht]
  ·simp[← ht]
 | cons y ys ih =>
  intro r r' x h
  simp only[runA] at h
  simp only[List.cons_append,runA]
  cases ht:(takeA { r with line:=r.line+1 } y).2
  ·simp[ht] at h
  ·simp only[ht,if_true] at h ⊢
   exact ih _ _ _ h
theorem runA_more (xs:List (List UInt8)):∀ (r:Rd) (ys:List (List UInt8)),(runA r xs).2=false→runA r (xs++ys)=runA r xs:=by
 induction xs with
 | nil=>intro r ys h;simp[runA] at h
 | cons y zs ih =>
  intro r ys h
  simp only[List.cons_append,runA] at h ⊢
  cases ht:(takeA { r with line:=r.line+1 } y).2
  ·simp
  ·simp only[ht,if_true] at h ⊢
   exact ih _ _ h
end P
end Go.Proofs.YtgceflcbckjjiaaGreatDoor
namespace Go.Proofs.YtgceflcbckjjiaaGreatDoor
open Go Go.RowKit
set_option maxRecDepth 100000
theorem two_eq (s:ByteArray) (a b:UInt8) (k:Nat) (h:k+2≤s.size):((s.extract k (k+2)).toList==(⟨#[a,b]⟩:ByteArray).toList)=decide (s.toList.drop k=a::b::s.toList.drop (k+2)):=by
 have hl:s.toList.length=s.size:=size_toList s
 have e:(s.extract k (k+2)).toList=(s.toList.drop k).take 2:=by
  rw[extract_toList,List.take_drop]
 have e2:(⟨#[a,b]⟩:ByteArray).toList=[a,b]:=by rw[toList_data]
 have e3:s.toList.drop k=(s.toList.drop k).take 2++s.toList.drop (k+2):=by
  have:=(List.take_append_drop 2 (s.toList.drop k)).symm
  rwa [List.drop_drop] at this
 rw[e,e2]
 by_cases hc:(s.toList.drop k).take 2=[a,b]
 ·rw[hc] at e3 ⊢
  have:s.toList.drop k=a::b::s.toList.drop (k+2):=by rw[e3];rfl
  simp[this]
 ·have h2:¬ s.toList.drop k=a::b::s.toList.drop (k+2):=fun e4=>hc (by rw[e4];rfl)
  rw[decide_eq_false h2]
  simpa using hc
def CutW (a b:UInt8) (s:List UInt8) (m j:Nat) (bs:List (List UInt8)):Prop:=bs++P.preH ((s.take j).drop m) (P.splitW a b (s.drop j))=P.splitW a b s
theorem cutW_start (a b:UInt8) (s:List UInt8):CutW a b s 0 0 []:=by unfold CutW;simp[P.preH_nil _ (P.splitW_ne a b s)]
theorem cutW_hit {a b:UInt8} {s:List UInt8} {m j:Nat} {bs:List (List UInt8)} (h:CutW a b s m j bs) (hd:s.drop j=a::b::s.drop (j+2)):CutW a b s (j+2) (j+2) (bs++[(s.take j).drop m]):=by
 unfold CutW at *
 rw[hd,P.splitW_hit] at h
 rw[← h]
 have e:(s.take (j+2)).drop (j+2)=[]:=List.drop_of_length_le (by rw[List.length_take];omega)
 rw[e,P.preH_nil _ (P.splitW_ne _ _ _)]
 simp[P.preH]
theorem cutW_miss {a b:UInt8} {s:List UInt8} {m j:Nat} {bs:List (List UInt8)} (h:CutW a b s m j bs) (hm:m≤j) (hj:j<s.length) (hd:¬ s.drop j=a::b::s.drop (j+2)):CutW a b s m (j+1) bs:=by
 unfold CutW at *
 have e1:s.drop j=s[j]::s.drop (j+1):=List.drop_eq_getElem_cons hj
 have hne:¬ (s[j]=a∧(s.drop (j+1)).head?=some b):=by
  rintro ⟨h1,h2⟩
  apply hd
  rw[e1,h1]
  congr 1
  cases hx:s.drop (j+1) with
  | nil=>rw[hx] at h2;simp at h2
  | cons y q =>
   rw[hx] at h2;simp at h2
   have:s.drop (j+2)=q:=by rw[show j+2=(j+1)+1 by omega,← List.drop_drop,hx];rfl
   rw[this,h2]
 rw[e1,P.splitW_miss a b _ _ hne,P.preH_preH _ _ _ (P.splitW_ne _ _ _)] at h
 rw[← h,List.take_succ_eq_append_getElem hj,List.drop_append_of_le_length (by rw[List.length_take];omega)]
theorem cutW_end {a b:UInt8} {s:List UInt8} {m j:Nat} {bs:List (List UInt8)} (h:CutW a b s m j bs) (hm:m≤j) (hj:s.length≤j+1):bs++[s.drop m]=P.splitW a b s:=by
 unfold CutW at h
 rw[P.splitW_short a b (s.drop j) (by simp;omega)] at h
 rw[← h]
 simp only[P.preH]
 by_cases hl:j≤s.length
 ·rw[← List.drop_append_of_le_length (by rw[List.length_take];omega),List.take_append_drop]
 ·rw[List.take_of_length_le (by omega),List.drop_of_length_le (l:=s) (i:=j) (by omega),List.append_nil]
set_option maxHeartbeats 1600000 in
theorem splitW_any (a b:UInt8) (s:ByteArray) (w:World) (hs:s.size≤8192) :
  Calls Tryz.prog 52 #[.string s,.string ⟨#[a,b]⟩] w fun e w'=>∃ g cap,∃ ws:List ByteArray,e=.returned (.slice (some ⟨g,0,none⟩) ws.length cap)∧ws.map ByteArray.toList=P.splitW a b s.toList ∧
   w'.ownsRow w.heap.size 9 1 (.slice (some ⟨g,0,none⟩) ws.length cap) ws.length (ws.map Value.string)∧Below w.heap.size w w':=by
 obtain⟨i0,hi,hz0,hz1,hz2⟩:=info_parts Tryz.infoStr
 have htwo:(⟨#[a,b]⟩:ByteArray).size=2:=rfl
 generalize hbet:(⟨#[a,b]⟩:ByteArray)=bet at *
 go_enter Tryz.func52,Tryz.ntmps52
 go_wp2
 go_loopw [5,6,7] (fun v f i wr=>∃ k m:Nat,∃ bs:List ByteArray,k≤s.size∧m≤k+1∧m≤s.size∧i=.int .i64 k∧f=.int .i64 m∧bs.length≤k∧Hid (CutW a b s.toList m (max k m) (bs.map ByteArray.toList)) ∧
   wr.ownsRow w.heap.size 9 1 v bs.length (bs.map Value.string)∧Below w.heap.size w wr) (fun _ _ i _=>s.size-(intOf i).toNat)
 case atStart=>exact⟨0,0,[],Nat.zero_le _,Nat.zero_le _,Nat.zero_le _,rfl,rfl,Nat.le_refl _,cutW_start _ _ _,World.ownsRow_nil _ _ _ _,Below.refl _ _⟩
 case round =>
  obtain⟨k,m,bs,hk,hm,hms,rfl,rfl,hbl,HS,hown,hbel⟩:=hrel
  by_cases hlt:k+2≤s.size
  ·have hlt':(k:Int)+2≤(s.size:Int):=by omega
   have hex:∀ wx,(Instr.slice 9 (.string s) (some (.int .i64 (k:Int))) (some (.int .i64 ((k:Int)+2))) none).run Tryz.prog wx=.ok (.string (s.extract k (k+2))) wx:=fun wx=>by
    rw[run_slice_string wx 9 s .i64 .i64 _ _ Tryz.underlying9 (by omega) (by omega) (by omega),show ((k:Int)).toNat=k by omega,show ((k:Int)+2).toNat=k+2 by omega]
   by_cases hmk:m≤k
   ·have hmi:(m:Int)≤(k:Int):=by omega
    have hmx:max k m=k:=by omega
    by_cases hc:s.toList.drop k=a::b::s.toList.drop (k+2)
    ·have hq:((s.extract k (k+2)).toList==bet.toList)=true:=by rw[← hbet,two_eq s a b k hlt];simpa using hc
     have HR:Hid (CutW a b s.toList (k+2) (k+2) ((bs++[s.extract m k]).map ByteArray.toList)):=by
      have h1:=HS.out
      rw[hmx] at h1
      have h2:=cutW_hit h1 hc
      rw[List.map_append,List.map_cons,List.map_nil,extract_toList];exact h2
     clear hc HS
     go_wp2_with (first
      | (at_builtin;refine wpList_append_lies _ rfl (.tmp 38) (.tmp 43) 37 rfl w.heap.size 9 i0 (.string ByteArray.empty) 1 16 Tryz.underlying37 hi hz0 hz1 hz2 rfl (by decide) _ _ _ rfl (hown.alloc _) ⟨wr.heap.size,0,none⟩ 1 1 [.string (s.extract m k)] rfl rfl ?c1 ?c2 (by decide) ?c3 ?c4 ?c5 _ rfl ?_))
     case c1 =>
      intro j u hj
      match j,hj with
      | 0,hj=>simp at hj;subst hj;simp[Addr.add]
     case c2=>intro u hu;simp at hu;subst hu;rfl
     case c3=>unfold maxLen;omega
     case c4=>omega
     case c5=>have:=hbel.size;simp;omega
     intro g cap w1 hown' hgrow hat hglt
     have hb1:Below w.heap.size w w1:=(hbel.alloc hbel.size _).grown hgrow (by have:=hbel.size;simp;omega) (fun j hj=>(hown.lt j hj).1)
     clear hown hgrow hat
     go_wp2
     go_roundw
     case rel=>exact⟨k+1,k+2,bs++[s.extract m k],by omega,by omega,by omega,by go_num,by go_num,by simp;omega,by rw[show max (k+1) (k+2)=k+2 by omega];exact HR,by simpa using hown',hb1⟩
     case measure=>simp[intOf];omega
    ·have hq:((s.extract k (k+2)).toList==bet.toList)=false:=by rw[← hbet,two_eq s a b k hlt];simpa using hc
     have HR:Hid (CutW a b s.toList m (max (k+1) m) (bs.map ByteArray.toList)):=by
      have h1:=HS.out
      rw[hmx] at h1
      unfold Hid;rw[show max (k+1) m=k+1 by omega]
      exact cutW_miss h1 hmk (by rw[size_toList];omega) hc
     clear HS hc
     go_wp2
     go_roundw
     case rel=>exact⟨k+1,m,bs,by omega,by omega,by omega,by go_num,rfl,by omega,HR,hown,hbel⟩
     case measure=>simp[intOf];omega
   ·have hmi:¬ (m:Int)≤(k:Int):=by omega
    have hmd:decide ((m:Int)≤(k:Int))=false:=decide_eq_false hmi
    have HR:Hid (CutW a b s.toList m (max (k+1) m) (bs.map ByteArray.toList)):=by
     have h1:=HS.out
     unfold Hid;rw[show max (k+1) m=max k m by omega];exact h1
    clear HS
    go_wp2
    go_roundw
    case rel=>exact⟨k+1,m,bs,by omega,by omega,by omega,by go_num,rfl,by omega,HR,hown,hbel⟩
    case measure=>simp[intOf];omega
  ·have hlt':¬ ((k:Int)+2≤(s.size:Int)):=by omega
   have hsz:(m:Int)≤(s.size:Int):=by omega
   have HS2:Hid ((bs++[s.extract m s.size]).map ByteArray.toList=P.splitW a b s.toList):=by
    unfold Hid
    rw[List.map_append,List.map_cons,List.map_nil,extract_toList,List.take_of_length_le (by rw[size_toList];exact Nat.le_refl _)]
    exact cutW_end HS.out (by omega) (by rw[size_toList];omega)
   clear HS
   go_wp2_with (first
     | (at_builtin;refine wpList_append_lies _ rfl (.tmp 49) (.tmp 53) 37 rfl w.heap.size 9 i0 (.string ByteArray.empty) 1 16 Tryz.underlying37 hi hz0 hz1 hz2 rfl (by decide) _ _ _ rfl (hown.alloc _) ⟨wr.heap.size,0,none⟩ 1 1 [.string (s.extract m s.size)] rfl rfl ?d1 ?d2 (by decide) ?d3 ?d4 ?d5 _ rfl ?_))
   case d2=>first | rfl | (intro u hu;simp at hu;subst hu;rfl)
   case d3=>unfold maxLen;omega
   case d4=>omega
   case d5=>have:=hbel.size;simp;omega
   intro g cap w1 hown' hgrow hat hglt
   have hb1:Below w.heap.size w w1:=(hbel.alloc hbel.size _).grown hgrow (by have:=hbel.size;simp;omega) (fun j hj=>(hown.lt j hj).1)
   clear hown hgrow hat
   go_wp2
   go_ret
   exact⟨g,cap,bs++[s.extract m s.size],by simp,HS2.out,by simpa using hown',hb1⟩
theorem toList_get (s:ByteArray) (k:Nat) (h:k<s.size):s.toList[k]'(by rw[size_toList];exact h)=s[k]:=by
 have e:s.toList=s.data.toList:=toList_data s
 simp only[e]
 rfl
theorem cutA_at (l:List UInt8) (k:Nat) (hk:k<l.length) (hn:∀ c∈l.take k,c≠32) (hc:l[k]=32):P.cutA l=(l.take k,P.splitW 44 32 (l.drop (k+1))):=by
 have e:l=l.take k++32::l.drop (k+1):=by
  conv=>lhs;rw[← List.take_append_drop k l]
  rw[List.drop_eq_getElem_cons hk,hc]
 have h1:∀ (p q:List UInt8),(∀ c∈p,c≠32)→(p++32::q).takeWhile (fun c=>c != 32)=p∧(p++32::q).dropWhile (fun c=>c != 32)=32::q∧(p++32::q).any (fun c=>c==32)=true:=by
  intro p q
  induction p with
  | nil=>intro _;simp
  | cons x r ih =>
   intro h
   have hx:x≠32:=h x (by simp)
   obtain⟨a,b,c⟩:=ih (fun c hc=>h c (by simp[hc]))
   simp[hx,a,b]
 obtain⟨a,b,c⟩:=h1 (l.take k) (l.drop (k+1)) hn
 unfold P.cutA
 rw[← e] at a b c
 rw[a,b,c]
 simp
theorem cutA_none (l:List UInt8) (hn:∀ c∈l,c≠32):P.cutA l=(l,[]):=by
 unfold P.cutA
 have h1:l.takeWhile (fun c=>c != 32)=l:=by
  induction l with
  | nil=>rfl
  | cons x r ih=>have hx:x≠32:=hn x (by simp);simp[hx,ih (fun c hc=>hn c (by simp[hc]))]
 have h2:l.any (fun c=>c==32)=false:=by
  rw[List.any_eq_false];intro c hc;simpa using hn c hc
 rw[h1,h2];rfl
def OpsAt (w:World) (v:Value) (ws:List ByteArray):Prop:=∃ a cap,v=.slice a ws.length cap∧ws.length≤cap∧(ws≠[]→∃ g,a=some ⟨g,0,none⟩∧WordsAt w g 0 ws∧g<w.heap.size)
def CutOut (s:ByteArray) (w w':World) (e:Ending):Prop:=∃ (f:ByteArray) (v:Value) (ws:List ByteArray),e=.returned (.tuple #[.string f,v])∧f.toList=(P.cutA s.toList).1∧ws.map ByteArray.toList=(P.cutA s.toList).2∧OpsAt w' v ws∧f.size≤s.size∧ws.length≤8193∧Below w.heap.size w w'
set_option maxHeartbeats 1600000 in
theorem cut_any (s:ByteArray) (w:World) (hs:s.size≤8192) :
  Calls Tryz.prog 165 #[.string s] w fun e w'=>CutOut s w w' e:=by
 go_enter Tryz.func165,Tryz.ntmps165
 go_wp2
 go_loop [4] (fun i=>∃ k:Nat,k≤s.size∧i=.int .i64 k∧Hid (∀ c∈s.toList.take k,c≠32)) (fun i=>s.size-(intOf i).toNat)
 case atStart=>exact⟨0,Nat.zero_le _,rfl,by unfold Hid;simp⟩
 case round =>
  obtain⟨k,hk,rfl,HK⟩:=hrel
  by_cases hlt:k<s.size
  ·by_cases hc:s[k]=32
   ·have hc':((s[k].toNat:Int)==32)=true:=by simp[hc]
    have HE:Hid (P.cutA s.toList=(s.toList.take k,P.splitW 44 32 (s.toList.drop (k+1)))):=cutA_at _ k (by rw[size_toList];exact hlt) HK.out (by rw[toList_get s k hlt];exact hc)
    have hsz:=extract_size s (k+1) s.size
    have hk1:(k:Int)+1≤(s.size:Int):=by omega
    have hki:(k:Int)≤(s.size:Int):=by omega
    have hkl:(k:Int)<(s.size:Int):=by omega
    have htn:((k:Int)+1).toNat=k+1:=by omega
    have hk0:(0:Int)≤(k:Int):=by omega
    have hk01:(0:Int)≤(k:Int)+1:=by omega
    have HX:Hid ((s.extract 0 k).toList=s.toList.take k∧(s.extract (k+1) s.size).toList=s.toList.drop (k+1)):=by
     unfold Hid;rw[extract_toList,extract_toList,List.take_of_length_le (i:=s.size) (by rw[size_toList];exact Nat.le_refl _)];simp
    have hz0:=extract_size s 0 k
    have hwp:IntKind.i64.wrap ((k:Int)+1)=(k:Int)+1:=by simp[IntKind.wrap,IntKind.signed,IntKind.bits];omega
    have hs1:∀ wx,(Instr.slice 9 (.string s) (some (.int .i64 ((k:Int)+1))) none none).run Tryz.prog wx=.ok (.string (s.extract (k+1) s.size)) wx:=fun wx=>by
     rw[run_slice_string_from_if _ _ _ _ _ Tryz.underlying9,if_pos (by omega),htn]
    have hs2:∀ wx,(Instr.slice 9 (.string s) none (some (.int .i64 (k:Int))) none).run Tryz.prog wx=.ok (.string (s.extract 0 k)) wx:=fun wx=>by
     rw[run_slice_string_to_if _ _ _ _ _ Tryz.underlying9,if_pos (by omega)];rfl
    clear hc
    go_wp2
    go_region_with (go_at_call 52;refine (splitW_any 44 32 (s.extract (k+1) s.size) _ (by omega)).mono ?_;rintro e w1 ⟨g,cap,ws,rfl,hws,hown,hb1⟩;have HW:=hide hws;have HO:=hide hown;clear hws hown)
    all_goals
     go_wp2
     go_ret2
     obtain⟨o1,o2,o3⟩:=own_words HO.out
     refine⟨_,_,ws,rfl,?_,?_,⟨_,cap,rfl,o2,fun _=>⟨g,rfl,o1,o3⟩⟩,?_,?_,?_⟩
     ·rw[HE.out];exact HX.out.1
     ·rw[HE.out,HW.out,HX.out.2]
     ·exact hz0
     ·have:=P.splitW_le 44 32 (s.extract (k+1) s.size).toList
      rw[← HW.out,List.length_map,size_toList] at this;omega
     ·exact ((Below.refl w.heap.size w).drew).trans (hb1.mono (by simp))
   ·have hc':((s[k].toNat:Int)==32)=false:=by
     cases hx:((s[k].toNat:Int)==32)
     ·rfl
     ·exact absurd ((byte_eq _ 32 (by omega)).1 hx) hc
    have HK2:Hid (∀ c∈s.toList.take (k+1),c≠32):=by
     intro c hcm
     rw[take_snoc s k hlt] at hcm
     rcases List.mem_append.1 hcm with h | h
     ·exact HK.out c h
     ·simp at h;rw[h];exact hc
    clear hc
    go_wp2
    go_round
    case rel=>exact⟨k+1,by omega,by go_num,HK2⟩
    case measure=>simp[intOf];omega
  ·have HE:Hid (P.cutA s.toList=(s.toList,[])):=cutA_none _ (by have h1:=HK.out;rw[List.take_of_length_le (by rw[size_toList];omega)] at h1;exact h1)
   go_wp2
   go_ret2
   refine⟨s,.slice none 0 0,[],rfl,by rw[HE.out],by rw[HE.out];rfl,⟨none,0,rfl,Nat.le_refl _,fun h=>absurd rfl h⟩,Nat.le_refl _,by simp,Below.refl _ _⟩
theorem readReg_at (l:List UInt8) (k:Nat) (hk:k<4) (hn:∀ j:Nat,j<k→(l==P.regT (j:Int))=false) (h:(l==P.regT (k:Int))=true):P.readReg l=((k:Int),true):=by
 have h':l=P.regT (k:Int):=by simpa using h
 have hn':∀ j:Nat,j<k→¬ l=P.regT (j:Int):=fun j hj=>by simpa using hn j hj
 have:k=0∨k=1∨k=2∨k=3:=by omega
 unfold P.readReg
 rcases this with rfl | rfl | rfl | rfl
 ·rw[if_pos (show l=P.regT 0 from h')];rfl
 ·rw[if_neg (show ¬ l=P.regT 0 from hn' 0 (by omega)),if_pos (show l=P.regT 1 from h')];rfl
 ·rw[if_neg (show ¬ l=P.regT 0 from hn' 0 (by omega)),if_neg (show ¬ l=P.regT 1 from hn' 1 (by omega)),if_pos (show l=P.regT 2 from h')];rfl
 ·rw[if_neg (show ¬ l=P.regT 0 from hn' 0 (by omega)),if_neg (show ¬ l=P.regT 1 from hn' 1 (by omega)),if_neg (show ¬ l=P.regT 2 from hn' 2 (by omega)),if_pos (show l=P.regT 3 from h')];rfl
theorem readReg_none (l:List UInt8) (hn:∀ j:Nat,j<4→(l==P.regT (j:Int))=false):P.readReg l=(0,false):=by
 have hn':∀ j:Nat,j<4→¬ l=P.regT (j:Int):=fun j hj=>by simpa using hn j hj
 unfold P.readReg
 rw[if_neg (show ¬ l=P.regT 0 from hn' 0 (by omega)),if_neg (show ¬ l=P.regT 1 from hn' 1 (by omega)),if_neg (show ¬ l=P.regT 2 from hn' 2 (by omega)),if_neg (show ¬ l=P.regT 3 from hn' 3 (by omega))]
theorem readVar_at (l:List UInt8) (k:Nat) (hk:k<3) (hn:∀ j:Nat,j<k→(l==P.celT (j:Int))=false) (h:(l==P.celT (k:Int))=true):P.readVar l=((k:Int),true):=by
 have h':l=P.celT (k:Int):=by simpa using h
 have hn':∀ j:Nat,j<k→¬ l=P.celT (j:Int):=fun j hj=>by simpa using hn j hj
 have:k=0∨k=1∨k=2:=by omega
 unfold P.readVar
 rcases this with rfl | rfl | rfl
 ·rw[if_pos (show l=P.celT 0 from h')];rfl
 ·rw[if_neg (show ¬ l=P.celT 0 from hn' 0 (by omega)),if_pos (show l=P.celT 1 from h')];rfl
 ·rw[if_neg (show ¬ l=P.celT 0 from hn' 0 (by omega)),if_neg (show ¬ l=P.celT 1 from hn' 1 (by omega)),if_pos (show l=P.celT 2 from h')];rfl
theorem readVar_none (l:List UInt8) (hn:∀ j:Nat,j<3→(l==P.celT (j:Int))=false):P.readVar l=(0,false):=by
 have hn':∀ j:Nat,j<3→¬ l=P.celT (j:Int):=fun j hj=>by simpa using hn j hj
 unfold P.readVar
 rw[if_neg (show ¬ l=P.celT 0 from hn' 0 (by omega)),if_neg (show ¬ l=P.celT 1 from hn' 1 (by omega)),if_neg (show ¬ l=P.celT 2 from hn' 2 (by omega))]
theorem readOpd_at (l:List UInt8) (k:Nat) (hk:k<4) (hn:∀ j:Nat,j<k→(l==P.dec (j:Int))=false) (h:(l==P.dec (k:Int))=true):P.readOpd l=(⟨false,(k:Int)⟩,true):=by
 have h':l=P.dec (k:Int):=by simpa using h
 have hn':∀ j:Nat,j<k→¬ l=P.dec (j:Int):=fun j hj=>by simpa using hn j hj
 have:k=0∨k=1∨k=2∨k=3:=by omega
 unfold P.readOpd
 rcases this with rfl | rfl | rfl | rfl
 ·rw[if_pos (show l=P.dec 0 from h')];rfl
 ·rw[if_neg (show ¬ l=P.dec 0 from hn' 0 (by omega)),if_pos (show l=P.dec 1 from h')];rfl
 ·rw[if_neg (show ¬ l=P.dec 0 from hn' 0 (by omega)),if_neg (show ¬ l=P.dec 1 from hn' 1 (by omega)),if_pos (show l=P.dec 2 from h')];rfl
 ·rw[if_neg (show ¬ l=P.dec 0 from hn' 0 (by omega)),if_neg (show ¬ l=P.dec 1 from hn' 1 (by omega)),if_neg (show ¬ l=P.dec 2 from hn' 2 (by omega)),if_pos (show l=P.dec 3 from h')];rfl
theorem readOpd_none (l:List UInt8) (hn:∀ j:Nat,j<4→(l==P.dec (j:Int))=false):P.readOpd l=(⟨true,(P.readReg l).1⟩,(P.readReg l).2):=by
 have hn':∀ j:Nat,j<4→¬ l=P.dec (j:Int):=fun j hj=>by simpa using hn j hj
 unfold P.readOpd
 rw[if_neg (show ¬ l=P.dec 0 from hn' 0 (by omega)),if_neg (show ¬ l=P.dec 1 from hn' 1 (by omega)),if_neg (show ¬ l=P.dec 2 from hn' 2 (by omega)),if_neg (show ¬ l=P.dec 3 from hn' 3 (by omega))]
set_option maxHeartbeats 800000 in
theorem readReg_any (s:ByteArray) (w:World) :
  Calls Tryz.prog 209 #[.string s] w fun e w'=>e=.returned (.tuple #[.int .i64 (P.readReg s.toList).1,.bool (P.readReg s.toList).2])∧w'=w:=by
 go_enter Tryz.func209,Tryz.ntmps209
 go_wp2
 go_loop [4] (fun i=>∃ k:Nat,k≤4∧i=.int .i64 k∧Hid (∀ j:Nat,j<k→(s.toList==P.regT (j:Int))=false)) (fun i=>4-(intOf i).toNat)
 case atStart=>exact⟨0,by omega,rfl,fun j hj=>by omega⟩
 case round =>
  obtain⟨k,hk,rfl,HK⟩:=hrel
  by_cases hlt:k<4
  ·have hin:(k:Int)<4:=by omega
   cases hb:(s.toList==P.regT (k:Int))
   ·have HK2:Hid (∀ j:Nat,j<k+1→(s.toList==P.regT (j:Int))=false):=fun j hj=>by
     by_cases e:j=k
     ·rw[e];exact hb
     ·exact HK.out j (by omega)
    have HB:=hide hb
    clear hb
    go_wp2_with (first | (go_at_call 135;refine (regA_any _ _ (by omega) (by omega)).mono ?_;rintro e w' ⟨t,rfl,ht,rfl⟩;have hq:(s.toList==t.toList)=false:=(by rw[ht.1];exact HB.out)))
    go_round
    case rel=>exact⟨k+1,by omega,by go_num,HK2⟩
    case measure=>simp[intOf];omega
   ·have HE:=hide (readReg_at s.toList k hlt HK.out hb)
    have HB:=hide hb
    clear hb
    go_wp2_with (first | (go_at_call 135;refine (regA_any _ _ (by omega) (by omega)).mono ?_;rintro e w' ⟨t,rfl,ht,rfl⟩;have hq:(s.toList==t.toList)=true:=(by rw[ht.1];exact HB.out)))
    go_ret2
    rw[HE.out];exact⟨rfl,rfl⟩
  ·have HE:Hid (P.readReg s.toList=(0,false)):=readReg_none _ (fun j hj=>HK.out j (by omega))
   go_wp2
   go_ret2
   rw[HE.out];exact⟨rfl,rfl⟩
set_option maxHeartbeats 800000 in
theorem readVar_any (s:ByteArray) (w:World) :
  Calls Tryz.prog 210 #[.string s] w fun e w'=>e=.returned (.tuple #[.int .i64 (P.readVar s.toList).1,.bool (P.readVar s.toList).2])∧w'=w:=by
 go_enter Tryz.func210,Tryz.ntmps210
 go_wp2
 go_loop [4] (fun i=>∃ k:Nat,k≤3∧i=.int .i64 k∧Hid (∀ j:Nat,j<k→(s.toList==P.celT (j:Int))=false)) (fun i=>3-(intOf i).toNat)
 case atStart=>exact⟨0,by omega,rfl,fun j hj=>by omega⟩
 case round =>
  obtain⟨k,hk,rfl,HK⟩:=hrel
  by_cases hlt:k<3
  ·have hin:(k:Int)<3:=by omega
   cases hb:(s.toList==P.celT (k:Int))
   ·have HK2:Hid (∀ j:Nat,j<k+1→(s.toList==P.celT (j:Int))=false):=fun j hj=>by
     by_cases e:j=k
     ·rw[e];exact hb
     ·exact HK.out j (by omega)
    have HB:=hide hb
    clear hb
    go_wp2_with (first | (go_at_call 136;refine (varA_any _ _).mono ?_;rintro e w' ⟨t,rfl,ht,rfl⟩;have hq:(s.toList==t.toList)=false:=(by rw[ht.1];exact HB.out)))
    go_round
    case rel=>exact⟨k+1,by omega,by go_num,HK2⟩
    case measure=>simp[intOf];omega
   ·have HE:=hide (readVar_at s.toList k hlt HK.out hb)
    have HB:=hide hb
    clear hb
    go_wp2_with (first | (go_at_call 136;refine (varA_any _ _).mono ?_;rintro e w' ⟨t,rfl,ht,rfl⟩;have hq:(s.toList==t.toList)=true:=(by rw[ht.1];exact HB.out)))
    go_ret2
    rw[HE.out];exact⟨rfl,rfl⟩
  ·have HE:Hid (P.readVar s.toList=(0,false)):=readVar_none _ (fun j hj=>HK.out j (by omega))
   go_wp2
   go_ret2
   rw[HE.out];exact⟨rfl,rfl⟩
theorem ret_opd {fn:Func} {R:Ending→World→Prop} {a:Act} {w:World} {p u:Tmp} (g:Nat) (o:P.Opd) (uv:Value) (hres:fn.results=#[.cell p 94,.tmp u])
  (hp:a.tmps.getD p undef=.pointer (some ⟨g,0,none⟩)) (hu:a.tmps.getD u undef=uv) (h:w.heap[g]?=some (.cells #[.bool o.reg,.int .i64 o.n] 94 (0,0))) (hd:a.defers=[]) (hR:R (.returned (.tuple #[.agg #[.bool o.reg,.int .i64 o.n],uv])) w):bodyPost Tryz.prog fn R .ret a w:=by
 refine bodyPost_ret (v:=.tuple #[.agg #[.bool o.reg,.int .i64 o.n],uv]) ?_ hd hR
 rw[results_cell_tmp hres,hp,hu]
 have:(asAddr (.pointer (some ⟨g,0,none⟩))).run Tryz.prog w=.ok ⟨g,0,none⟩ w:=rfl
 rw[this,Result.andThen_ok,run_loadVar_row w g _ _ _ h _ Tryz.underlying94 rfl (by kernel_rfl),Result.andThen_ok]
theorem opd_cells {w:World} {g:Nat} {a b:Value} {t:TypeId} (h:w.heap[g]?=some (.cells #[a,b] t (0,0))):g<w.heap.size∧w.cell? ⟨g,0,none⟩=some a∧w.cell? ⟨g,1,none⟩=some b∧w.frozen? ⟨g,0,none⟩=false∧w.frozen? ⟨g,1,none⟩=false:=by
 refine⟨(Array.getElem?_eq_some_iff.1 h).1,?_,?_,?_,?_⟩<;>simp[World.cell?,World.frozen?,h]
set_option maxHeartbeats 1600000 in
theorem readOpd_any (s:ByteArray) (w:World) :
  Calls Tryz.prog 211 #[.string s] w fun e w'=>e=.returned (.tuple #[.agg #[.bool (P.readOpd s.toList).1.reg,.int .i64 (P.readOpd s.toList).1.n],.bool (P.readOpd s.toList).2])∧Below w.heap.size w w':=by
 go_enter Tryz.func211,Tryz.ntmps211
 go_wp2
 go_loopw [4] (fun i wr=>∃ k:Nat,k≤4∧i=.int .i64 k∧Hid (∀ j:Nat,j<k→(s.toList==P.dec (j:Int))=false)∧Hid (wr.heap[w.heap.size]?=some (.cells #[.bool false,.int .i64 0] 94 (0,0)))∧Below w.heap.size w wr) (fun i _=>4-(intOf i).toNat)
 case atStart=>exact⟨0,by omega,rfl,fun j hj=>by omega,heap_alloc_new w _,(Below.refl _ _).alloc (Nat.le_refl _) _⟩
 case round =>
  obtain⟨k,hk,rfl,HK,HB0,hbel⟩:=hrel
  obtain⟨z0,z1,z2,z3,z4⟩:=opd_cells HB0.out
  have hws:=hbel.size
  by_cases hlt:k<4
  ·have hin:(k:Int)<4:=by omega
   cases hb:(s.toList==P.dec (k:Int))
   ·have HK2:Hid (∀ j:Nat,j<k+1→(s.toList==P.dec (j:Int))=false):=fun j hj=>by
     by_cases e:j=k
     ·rw[e];exact hb
     ·exact HK.out j (by omega)
    have HB:=hide hb
    clear hb
    go_wp2_with (first | (go_at_call 137;refine (opdA_any ⟨false,(k:Int)⟩ _ (by simp) (by simp;omega)).mono ?_;rintro e w1 ⟨t,rfl,ht,hb1⟩;have hq:(s.toList==t.toList)=false:=(by rw[ht.1];exact HB.out)))
    go_roundw
    case rel=>exact⟨k+1,by omega,by go_num,HK2,by unfold Hid;rw[hb1.block _ (by simp;omega),Below.heap_alloc _ _ _ z0];exact HB0.out,(hbel.alloc hws _).trans (hb1.mono (by simp;omega))⟩
    case measure=>simp[intOf];omega
   ·have HE:=hide (readOpd_at s.toList k hlt HK.out hb)
    have HB:=hide hb
    clear hb
    go_wp2_with (first | (go_at_call 137;refine (opdA_any ⟨false,(k:Int)⟩ _ (by simp) (by simp;omega)).mono ?_;rintro e w1 ⟨t,rfl,ht,hb1⟩;have hq:(s.toList==t.toList)=true:=(by rw[ht.1];exact HB.out);have hn1:w1.heap[wr.heap.size]?=some (.cells #[.bool false,.int .i64 (k:Int)] 94 (0,0)):=(hb1.block _ (by simp)).trans (heap_alloc_new wr _);have hr1:w1.heap[w.heap.size]?=some (.cells #[.bool false,.int .i64 0] 94 (0,0)):=(hb1.block _ (by simp;omega)).trans ((Below.heap_alloc _ _ _ z0).trans HB0.out);obtain⟨y0,y1,y2,y3,y4⟩:=opd_cells hn1;obtain⟨v0,v1,v2,v3,v4⟩:=opd_cells hr1;have HR1:=hide hr1;have hBB:=hide ((hbel.alloc hws _).trans (hb1.mono (by simp;omega)));clear hn1 hr1))
    rw[HE.out]
    refine ret_opd (p:=2) (u:=3) w.heap.size ⟨false,(k:Int)⟩ _ (by kernel_rfl) rfl rfl ?_ rfl ⟨rfl,?_⟩
    ·rw[setCell_block (setCell_block HR1.out _ _)];rfl
    ·exact (hBB.out.setCell (Nat.le_refl _) _).setCell (Nat.le_refl _) _
  ·have HE:Hid (P.readOpd s.toList=(⟨true,(P.readReg s.toList).1⟩,(P.readReg s.toList).2)):=readOpd_none _ (fun j hj=>HK.out j (by omega))
   go_wp2_with (first | (go_at_call 209;refine (readReg_any s _).mono ?_;rintro e w' ⟨rfl,rfl⟩))
   rw[HE.out]
   refine ret_opd (p:=2) (u:=3) w.heap.size ⟨true,(P.readReg s.toList).1⟩ _ (by kernel_rfl) rfl rfl ?_ rfl ⟨rfl,?_⟩
   ·rw[setCell_block (setCell_block HB0.out _ _)];rfl
   ·exact (hbel.setCell (Nat.le_refl _) _).setCell (Nat.le_refl _) _
end Go.Proofs.YtgceflcbckjjiaaGreatDoor
