import Derived.Lib.Strings
import Derived.Test.YtgceflcbckjjiaaGreatDoorB01
set_option linter.unusedVariables false
set_option linter.unusedSimpArgs false
namespace Go.Proofs.YtgceflcbckjjiaaGreatDoor
open Go Go.RowKit
set_option maxRecDepth 100000
theorem toList_data (s:ByteArray):s.toList=s.data.toList:=ByteArray.toList_eq s
theorem size_toList (s:ByteArray):s.toList.length=s.size:=by rw[toList_data];rfl
theorem toList_one (s:ByteArray) (h:s.size=1):s.toList=[s[0]]:=by
 rw[toList_data]
 rcases s with ⟨⟨l⟩⟩
 match l,h with
 | [a],_=>rfl
theorem toList_two (s:ByteArray) (h:s.size=2):s.toList=[s[0],s[1]]:=by
 rw[toList_data]
 rcases s with ⟨⟨l⟩⟩
 match l,h with
 | [a,b],_=>rfl
theorem u8_eq (a:UInt8) (n:Nat) (hn:n<256):((a.toNat:Int)==(n:Int))=(a==UInt8.ofNat n):=by
 rw[Bool.eq_iff_iff];simp[← UInt8.toNat_inj];omega
theorem register_two (s:ByteArray) (h:s.size=2):P.register s.toList=if ((s[0].toNat:Int) != 114)=true then (0,false) else P.digit s[1] 4:=by
 rw[toList_two s h]
 have e:((s[0].toNat:Int) != 114)=(s[0] != 114):=by
  have:=u8_eq s[0] 114 (by omega)
  simp only[bne];exact congrArg (!·) this
 rw[e]
 by_cases h1:s[0]=114<;>simp[P.register,h1]
theorem register_no (s:ByteArray) (h:¬ s.size=2):P.register s.toList=(0,false):=by
 have:=size_toList s
 unfold P.register
 split
 ·simp_all
 ·rfl
set_option maxHeartbeats 400000 in
theorem register_any (s:ByteArray) (w:World) :
  Calls Tryz.prog 171 #[.string s] w fun e w'=>e=.returned (.tuple #[.int .i64 (P.register s.toList).1,.bool (P.register s.toList).2])∧w'=w:=by
 by_cases h2:s.size=2
 ·have H:=register_two s h2
  have hb:s[1].toNat<256:=UInt8.toNat_lt _
  go_enter Tryz.func171,Tryz.ntmps171
  go_wp2_with (go_at_call 146;refine (digit_any _ _ _ (by omega) (by omega)).mono ?_;rintro e w' ⟨rfl,rfl⟩)
  all_goals go_ret2
  all_goals simp[P.digit, *]
 ·have H:=register_no s h2
  go_enter Tryz.func171,Tryz.ntmps171
  go_wp2
  go_ret2
  simp[*]
theorem operand_one (s:ByteArray) (h:s.size=1):P.operand s.toList=(⟨false,(P.digit s[0] 4).1⟩,(P.digit s[0] 4).2):=by
 rw[toList_one s h];rfl
theorem operand_no (s:ByteArray) (h:¬ s.size=1):P.operand s.toList=(⟨true,(P.register s.toList).1⟩,(P.register s.toList).2):=by
 have:=size_toList s
 unfold P.operand
 split
 ·simp_all
 ·rfl
set_option maxHeartbeats 400000 in
theorem operand_any (s:ByteArray) (w:World) :
  Calls Tryz.prog 170 #[.string s] w fun e w'=>e=.returned (.tuple #[.agg #[.bool (P.operand s.toList).1.reg,.int .i64 (P.operand s.toList).1.n],.bool (P.operand s.toList).2])∧Below w.heap.size w w':=by
 by_cases h2:s.size=1
 ·have H:=operand_one s h2
  have hb:s[0].toNat<256:=UInt8.toNat_lt _
  go_enter Tryz.func170,Tryz.ntmps170
  go_wp2_with (go_at_call 146;refine (digit_any _ _ _ (by omega) (by omega)).mono ?_;rintro e w' ⟨rfl,rfl⟩)
  go_returns
  exact⟨by simp[H,P.digit],by go_grown⟩
 ·have H:=operand_no s h2
  go_enter Tryz.func170,Tryz.ntmps170
  go_wp2_with (go_at_call 171;refine (register_any _ _).mono ?_;rintro e w' ⟨rfl,rfl⟩)
  go_returns
  exact⟨by simp[H],by go_grown⟩
theorem hide {p:Prop} (h:p):Hid p:=h
theorem unhide {p:Prop} (h:Hid p):p:=h
theorem grown_refl (w:World) (r:Option Nat):w.grownBy w r:=⟨rfl,rfl,rfl,Nat.le_refl _,fun _ _ _=>rfl⟩
theorem grown_trans {a b c:World} {r:Option Nat} (h:a.grownBy b r) (k:b.grownBy c r):a.grownBy c r :=
 ⟨k.os.trans h.os,k.tape.trans h.tape,k.output.trans h.output,Nat.le_trans h.size k.size,fun i hi hr=>(k.block i (Nat.lt_of_lt_of_le hi h.size) hr).trans (h.block i hi hr)⟩
theorem grown_alloc {a w:World} {r:Option Nat} (h:a.grownBy w r) (o:Obj):a.grownBy (w.alloc o) r:=grown_trans h (World.grownBy_alloc _ _ _)
theorem grown_drew {a w:World} {r:Option Nat} (h:a.grownBy w r):a.grownBy w.drew r:=⟨h.os,h.tape,h.output,h.size,h.block⟩
theorem undrew {w w':World} {r:Option Nat} (h:w.drew.grownBy w' r):w.grownBy w' r:=⟨h.os,h.tape,h.output,h.size,h.block⟩
theorem grown_setCell {a w:World} {g:Nat} (h:a.grownBy w (some g)) (i:Nat) (u:Value):a.grownBy (w.setCell ⟨g,i,none⟩ u) (some g) :=
 grown_trans h ⟨rfl,rfl,rfl,by simp[World.setCell],fun k _ hr=>Below.heap_setCell _ _ _ _ (fun e=>hr (by rw[e]))⟩
theorem grown_of_below {w w':World} (h:Below w.heap.size w w') (r:Option Nat):w.grownBy w' r:=⟨h.os,h.tape,h.output,h.size,fun k hk _=>h.block k hk⟩
theorem below_of_new {w w1 w':World} {g:Nat} (h:Below w.heap.size w w1) (k:w1.grownBy w' (some g)) (hg:w.heap.size≤g):Below w.heap.size w w' :=
 h.trans ⟨k.os,k.tape,k.output,k.size,fun i hi=>k.block i (Nat.lt_of_lt_of_le hi h.size) (by simp;omega)⟩
theorem setCell_block {w:World} {g:Nat} {cur:Array Value} {e:TypeId} {fr:Nat × Nat} (h:w.heap[g]?=some (.cells cur e fr)) (i:Nat) (u:Value) :
  (w.setCell ⟨g,i,none⟩ u).heap[g]?=some (.cells (cur.setIfInBounds i u) e fr):=by
 simp only[World.setCell,Array.getElem?_modify]
 simp[h]
theorem cell_set_ne {w:World} {g i b o:Nat} {u:Value} (h:b≠g):(w.setCell ⟨g,i,none⟩ u).cell? ⟨b,o,none⟩=w.cell? ⟨b,o,none⟩ :=
 World.cell?_of_block (w:=w) (a:=⟨b,o,none⟩) (Below.heap_setCell _ _ _ _ h)
def stmCells (st:P.Stm):Array Value:=#[.int .i64 st.kind,.int .i64 st.line,.int .i64 st.dest,.int .i64 st.var,.bool st.a.reg,.int .i64 st.a.n,.bool st.b.reg,.int .i64 st.b.n,.int .i64 st.order,.int .i64 st.scope,.int .i64 st.label]
def StmAt (w:World) (g:Nat) (st:P.Stm):Prop:=w.heap[g]?=some (.cells (stmCells st) 96 (0,0))
theorem StmAt.lt {w:World} {g:Nat} {st:P.Stm} (h:StmAt w g st):g<w.heap.size:=(Array.getElem?_eq_some_iff.1 h).1
theorem StmAt.cell {w:World} {g:Nat} {st:P.Stm} (h:StmAt w g st) (i:Nat):w.cell? ⟨g,i,none⟩=(stmCells st)[i]?:=by
 unfold StmAt at h
 simp[World.cell?,h]
theorem StmAt.free {w:World} {g:Nat} {st:P.Stm} (h:StmAt w g st) (i:Nat):w.frozen? ⟨g,i,none⟩=false:=by
 unfold StmAt at h
 simp[World.frozen?,h]
theorem StmAt.facts {w:World} {g:Nat} {st:P.Stm} (h:StmAt w g st):g<w.heap.size∧(∀ i,w.frozen? ⟨g,i,none⟩=false) ∧
  w.cell? ⟨g,0,none⟩=some (.int .i64 st.kind)∧w.cell? ⟨g,1,none⟩=some (.int .i64 st.line)∧w.cell? ⟨g,2,none⟩=some (.int .i64 st.dest)∧w.cell? ⟨g,3,none⟩=some (.int .i64 st.var) ∧
  w.cell? ⟨g,4,none⟩=some (.bool st.a.reg)∧w.cell? ⟨g,5,none⟩=some (.int .i64 st.a.n)∧w.cell? ⟨g,6,none⟩=some (.bool st.b.reg)∧w.cell? ⟨g,7,none⟩=some (.int .i64 st.b.n) ∧
  w.cell? ⟨g,8,none⟩=some (.int .i64 st.order)∧w.cell? ⟨g,9,none⟩=some (.int .i64 st.scope)∧w.cell? ⟨g,10,none⟩=some (.int .i64 st.label) :=
 ⟨h.lt,h.free,h.cell 0,h.cell 1,h.cell 2,h.cell 3,h.cell 4,h.cell 5,h.cell 6,h.cell 7,h.cell 8,h.cell 9,h.cell 10⟩
theorem StmAt.there {w:World} {g:Nat} {st:P.Stm} (h:StmAt w g st):g<w.heap.size∧(∀ i,w.frozen? ⟨g,i,none⟩=false) ∧
  w.cell? ⟨g,0,none⟩=some (.int .i64 st.kind)∧w.cell? ⟨g,1,none⟩=some (.int .i64 st.line)∧w.cell? ⟨g,2,none⟩=some (.int .i64 st.dest)∧w.cell? ⟨g,3,none⟩=some (.int .i64 st.var) ∧
  w.cell? ⟨g,4,none⟩=some (.bool st.a.reg)∧w.cell? ⟨g,5,none⟩=some (.int .i64 st.a.n)∧w.cell? ⟨g,6,none⟩=some (.bool st.b.reg)∧w.cell? ⟨g,7,none⟩=some (.int .i64 st.b.n) ∧
  w.cell? ⟨g,8,none⟩=some (.int .i64 st.order)∧w.cell? ⟨g,9,none⟩=some (.int .i64 st.scope)∧w.cell? ⟨g,10,none⟩=some (.int .i64 st.label):=h.facts
theorem StmAt.of_block {w w':World} {g:Nat} {st:P.Stm} (h:StmAt w g st) (e:w'.heap[g]?=w.heap[g]?):StmAt w' g st:=by
 unfold StmAt at *;rw[e];exact h
theorem StmAt.below {w w':World} {g:Nat} {st:P.Stm} (h:StmAt w g st) (hb:Below w.heap.size w w'):StmAt w' g st:=h.of_block (hb.block g h.lt)
theorem StmAt.alloc {w:World} {g:Nat} {st:P.Stm} (h:StmAt w g st) (o:Obj):StmAt (w.alloc o) g st:=h.of_block (Below.heap_alloc _ _ _ h.lt)
theorem StmAt.drew {w:World} {g:Nat} {st:P.Stm} (h:StmAt w g st):StmAt w.drew g st:=h
theorem StmAt.set {w:World} {g:Nat} {st:P.Stm} (st':P.Stm) (h:StmAt w g st) (i:Nat) (u:Value) (e:(stmCells st).setIfInBounds i u=stmCells st'):StmAt (w.setCell ⟨g,i,none⟩ u) g st':=by
 unfold StmAt at *
 rw[setCell_block h,e]
theorem StmAt.new (w:World) (st:P.Stm):StmAt (w.alloc (.cells (stmCells st) 96)) w.heap.size st:=by
 unfold StmAt;exact heap_alloc_new w _
theorem StmAt.setKind {w:World} {g:Nat} {st:P.Stm} (h:StmAt w g st) (x:Int):StmAt (w.setCell ⟨g,0,none⟩ (.int .i64 x)) g { st with kind:=x }:=h.set _ 0 _ rfl
theorem StmAt.setVar {w:World} {g:Nat} {st:P.Stm} (h:StmAt w g st) (x:Int):StmAt (w.setCell ⟨g,3,none⟩ (.int .i64 x)) g { st with var:=x }:=h.set _ 3 _ rfl
theorem StmAt.setA {w:World} {g:Nat} {st:P.Stm} (h:StmAt w g st) (x:P.Opd):StmAt ((w.setCell ⟨g,4,none⟩ (.bool x.reg)).setCell ⟨g,5,none⟩ (.int .i64 x.n)) g { st with a:=x } :=
 (h.set { st with a:=⟨x.reg,st.a.n⟩ } 4 _ rfl).set _ 5 _ rfl
theorem StmAt.setB {w:World} {g:Nat} {st:P.Stm} (h:StmAt w g st) (x:P.Opd):StmAt ((w.setCell ⟨g,6,none⟩ (.bool x.reg)).setCell ⟨g,7,none⟩ (.int .i64 x.n)) g { st with b:=x } :=
 (h.set { st with b:=⟨x.reg,st.b.n⟩ } 6 _ rfl).set _ 7 _ rfl
theorem StmAt.setOrder {w:World} {g:Nat} {st:P.Stm} (h:StmAt w g st) (x:Int):StmAt (w.setCell ⟨g,8,none⟩ (.int .i64 x)) g { st with order:=x }:=h.set _ 8 _ rfl
theorem StmAt.setScope {w:World} {g:Nat} {st:P.Stm} (h:StmAt w g st) (x:Int):StmAt (w.setCell ⟨g,9,none⟩ (.int .i64 x)) g { st with scope:=x }:=h.set _ 9 _ rfl
def WordsAt (w:World) (b off:Nat) (ws:List ByteArray):Prop:=∀ i s,ws[i]?=some s→w.cell? ⟨b,off+i,none⟩=some (.string s)
theorem WordsAt.head {w:World} {b off:Nat} {s:ByteArray} {r:List ByteArray} (h:WordsAt w b off (s::r)):w.cell? ⟨b,off,none⟩=some (.string s)∧b<w.heap.size∧WordsAt w b (off+1) r:=by
 have h0:=h 0 s rfl
 refine⟨h0,World.block_lt_of_cell? w _ h0,fun i t ht=>?_⟩
 have:=h (i+1) t (by simpa using ht)
 rw[show off+1+i=off+(i+1) by omega];exact this
theorem WordsAt.kept {w w':World} {b off:Nat} {ws:List ByteArray} (h:WordsAt w b off ws) (e:b<w.heap.size→w'.heap[b]?=w.heap[b]?):WordsAt w' b off ws:=by
 intro i s hs
 have h1:=h i s hs
 rw[World.cell?_of_block (w:=w) (e (World.block_lt_of_cell? w _ h1))];exact h1
theorem WordsAt.below {w w':World} {b off:Nat} {ws:List ByteArray} (h:WordsAt w b off ws) (hb:Below w.heap.size w w'):WordsAt w' b off ws:=h.kept (fun e=>hb.block b e)
theorem WordsAt.grown {w w':World} {b off g:Nat} {ws:List ByteArray} (h:WordsAt w b off ws) (hb:w.grownBy w' (some g)) (hne:b≠g):WordsAt w' b off ws:=h.kept (fun e=>hb.block b e (by simpa using hne))
theorem WordsAt.set {w:World} {b off g:Nat} {ws:List ByteArray} (h:WordsAt w b off ws) (hne:b≠g) (i:Nat) (u:Value):WordsAt (w.setCell ⟨g,i,none⟩ u) b off ws:=h.kept (fun _=>Below.heap_setCell _ _ _ _ hne)
theorem WordsAt.alloc {w:World} {b off:Nat} {ws:List ByteArray} (h:WordsAt w b off ws) (o:Obj):WordsAt (w.alloc o) b off ws:=h.kept (fun e=>Below.heap_alloc _ _ _ e)
theorem WordsAt.drew {w:World} {b off:Nat} {ws:List ByteArray} (h:WordsAt w b off ws):WordsAt w.drew b off ws:=h.kept (fun _=>rfl)
theorem WordsAt.nil (w:World) (b off:Nat):WordsAt w b off []:=fun _ _ h=>by simp at h
end Go.Proofs.YtgceflcbckjjiaaGreatDoor
