import Derived.Test.YtgceflcbckjjiaaGreatDoorB23
set_option linter.unusedVariables false
set_option linter.unusedSimpArgs false
namespace Go.Proofs.YtgceflcbckjjiaaGreatDoor
namespace P
def splitW (a b:UInt8):List UInt8→List (List UInt8)
 | []=>[[]]
 | [x]=>[[x]]
 | x::y::r=>if x=a∧y=b then []::splitW a b r else match splitW a b (y::r) with
  | h::t=>(x::h)::t
  | []=>[[x]]
def preH (c:List UInt8):List (List UInt8)→List (List UInt8)
 | h::t=>(c++h)::t
 | []=>[c]
theorem splitW_ne (a b:UInt8):∀ l:List UInt8,splitW a b l≠[]
 | []=>by simp[splitW]
 | [x]=>by simp[splitW]
 | x::y::r=>by
  unfold splitW
  split
  ·simp
  ·split<;>simp
theorem splitW_hit (a b:UInt8) (r:List UInt8):splitW a b (a::b::r)=[]::splitW a b r:=by simp[splitW]
theorem splitW_miss (a b x:UInt8) (q:List UInt8) (h:¬ (x=a∧q.head?=some b)):splitW a b (x::q)=preH [x] (splitW a b q):=by
 cases q with
 | nil=>simp[splitW,preH]
 | cons y r =>
  have h':¬ (x=a∧y=b):=fun e=>h ⟨e.1,by simp[e.2]⟩
  rw[splitW,if_neg h']
  cases hs:splitW a b (y::r) with
  | nil=>exact absurd hs (splitW_ne _ _ _)
  | cons p t=>rfl
theorem preH_preH (c d:List UInt8) (l:List (List UInt8)) (h:l≠[]):preH c (preH d l)=preH (c++d) l:=by
 cases l with
 | nil=>exact absurd rfl h
 | cons p t=>simp[preH]
theorem preH_nil (l:List (List UInt8)) (h:l≠[]):preH [] l=l:=by
 cases l with
 | nil=>exact absurd rfl h
 | cons p t=>simp[preH]
theorem splitW_short (a b:UInt8) (l:List UInt8) (h:l.length≤1):splitW a b l=[l]:=by
 match l,h with
 | [],_=>rfl
 | [x],_=>rfl
theorem splitW_le (a b:UInt8):∀ (l:List UInt8),(splitW a b l).length≤l.length+1
 | []=>by simp[splitW]
 | [x]=>by simp[splitW]
 | x::y::r=>by
  unfold splitW
  have h1:=splitW_le a b r
  have h2:=splitW_le a b (y::r)
  split
  ·simp;omega
  ·split
   ·rename_i e;rw[e] at h2;simp at h2 ⊢;omega
   ·simp
def cutA (l:List UInt8):List UInt8 × List (List UInt8) :=
 (l.takeWhile (fun c=>c != 32),if l.any (fun c=>c==32) then splitW 44 32 ((l.dropWhile (fun c=>c != 32)).drop 1) else [])
def readReg (w:List UInt8):Int × Bool:=if w=regT 0 then (0,true) else if w=regT 1 then (1,true) else if w=regT 2 then (2,true) else if w=regT 3 then (3,true) else (0,false)
def readVar (w:List UInt8):Int × Bool:=if w=celT 0 then (0,true) else if w=celT 1 then (1,true) else if w=celT 2 then (2,true) else (0,false)
def readOpd (w:List UInt8):Opd × Bool :=
 if w=dec 0 then (⟨false,0⟩,true) else if w=dec 1 then (⟨false,1⟩,true) else if w=dec 2 then (⟨false,2⟩,true) else if w=dec 3 then (⟨false,3⟩,true) else (⟨true,(readReg w).1⟩,(readReg w).2)
def ordGo (kind:Int) (w:List UInt8):Nat→Nat→Option (Int × Int)
 | 0,_=>none
 | f+1,k=>if allows kind ((k / 2:Nat):Int)&&w==sufO ((k / 2:Nat):Int) ((k % 2:Nat):Int) then some (((k / 2:Nat):Int),((k % 2:Nat):Int)) else ordGo kind w f (k+1)
def readOrd (st:Stm) (w:List UInt8):Stm × Bool :=
 if isOrd st.kind then match ordGo st.kind w 12 0 with
  | some (o,s)=>({ st with order:=o,scope:=s },true)
  | none=>(st,false)
 else (st,w==[])
def partR (st:Stm) (c:UInt8) (w:List UInt8):Stm × Bool :=
 if c=100 then ({ st with dest:=(readReg w).1 },(readReg w).2)
 else if c=118 then ({ st with var:=(readVar w).1 },(readVar w).2)
 else if c=97 then ({ st with a:=(readOpd w).1 },(readOpd w).2)
 else if c=98 then ({ st with b:=(readOpd w).1 },(readOpd w).2)
 else (st,w==labT st.label)
def partsR (st:Stm):List UInt8→List (List UInt8)→Stm × Bool
 | c::cs,w::ws=>if (partR st c w).2 then partsR (partR st c w).1 cs ws else (Stm.zero,false)
 | _,_=>(st,true)
def operandsR (st:Stm) (cs:List UInt8) (ws:List (List UInt8)):Stm × Bool :=
 if cs.length != ws.length then (Stm.zero,false) else partsR st cs ws
def stmGo (first:List UInt8) (ops:List (List UInt8)) (next:Int):Nat→Int→Stm × Bool
 | 0,_=>(Stm.zero,false)
 | f+1,k =>
  if (layT k).1.isPrefixOf first then
   let st:Stm:=if k==10 then { Stm.zero with kind:=k,label:=next } else { Stm.zero with kind:=k }
   if (readOrd st (first.drop (layT k).1.length)).2 then operandsR (readOrd st (first.drop (layT k).1.length)).1 (layT k).2 ops
   else stmGo first ops next f (k+1)
  else stmGo first ops next f (k+1)
def stmA (l:List UInt8) (next:Int):Stm × Bool:=stmGo (cutA l).1 (cutA l).2 next 11 0
def thrT (b:Int):List UInt8:=[46,116,104,114,101,97,100,32]++dec b
def openL (r:Rd):Int:=r.opn.getLast?.getD 0
def takeA (r:Rd) (l:List UInt8):Rd × Bool :=
 if l=thrT 0 then beginD r 0 r.line else if l=thrT 1 then beginD r 1 r.line
 else if openL r != 0&&l==labT (openL r)++[58] then putD r { Stm.zero with kind:=11,line:=r.line }
 else if !(stmA l (r.ifs+1)).2||((stmA l (r.ifs+1)).1.kind==5&&openL r != 0) then (r,false)
 else putD r { (stmA l (r.ifs+1)).1 with line:=r.line }
def runA (r:Rd):List (List UInt8)→Rd × Bool
 | []=>(r,true)
 | x::xs=>if (takeA { r with line:=r.line+1 } x).2 then runA (takeA { r with line:=r.line+1 } x).1 xs else ((takeA { r with line:=r.line+1 } x).1,false)
def Rd.zeroA:Rd:=⟨[],0,0,0,[],40⟩
def linesA (l:List UInt8):List Thr × Int :=
 let q:=runA Rd.zeroA (splitAt 10 l).dropLast
 if q.2 then
  if (splitAt 10 l).getLast?≠some []∨q.1.opn≠[]∨q.1.threads=[] then ([],q.1.line+1) else (q.1.threads,0)
 else ([],q.1.line)
theorem takeA_keep (r:Rd) (l:List UInt8):(takeA r l).1.line=r.line∧(takeA r l).1.most=r.most:=by
 unfold takeA
 split
 ·exact beginD_keep _ _ _
 split
 ·exact beginD_keep _ _ _
 split
 ·exact putD_keep _ _
 split
 ·exact⟨rfl,rfl⟩
 ·exact putD_keep _ _
theorem runA_snoc (xs:List (List UInt8)):∀ (r r':Rd) (x:List UInt8),runA r xs=(r',true)→runA r (xs++[x])=takeA { r' with line:=r'.line+1 } x:=by
 induction xs with
 | nil =>
  intro r r' x h
  simp[runA] at h
  subst h
  simp only[List.nil_append,runA]
  cases ht:(takeA { r with line:=r.line+1 } x).2
  ·simp[← ht]
  ·simp[← ht]
 | cons y ys ih =>
  intro r r' x h
  simp only[runA] at h
  simp only[List.cons_append,runA]
  cases ht:(takeA { r with line:=r.line+1 } y).2
  ·simp[ht] at h
  ·simp only[ht,if_true] at h ⊢
   exact ih _ _ _ h
theorem runA_more (xs:List (List UInt8)):∀ (r:Rd) (ys:List (List UInt8)),(runA r xs).2=false→runA r (xs++ys)=runA r xs:=by
 induction xs with
 | nil=>intro r ys h;simp[runA] at h
 | cons y zs ih =>
  intro r ys h
  simp only[List.cons_append,runA] at h ⊢
  cases ht:(takeA { r with line:=r.line+1 } y).2
  ·simp
  ·simp only[ht,if_true] at h ⊢
   exact ih _ _ h
end P
end Go.Proofs.YtgceflcbckjjiaaGreatDoor
