import Derived.Test.YtgceflcbckjjiaaGreatDoorB14
set_option linter.unusedVariables false
set_option linter.unusedSimpArgs false
namespace Go.Proofs.YtgceflcbckjjiaaGreatDoor
open Go Go.RowKit
set_option maxRecDepth 100000
def ThreadsAt (w:World) (B:Nat) (tv:Value) (ts:List P.Thr):Prop:=∃ vs,w.ownsRow B 88 3 tv ts.length (thrCells ts vs)∧StmtsAt w B ts vs
theorem ThreadsAt.keep {w w':World} {B:Nat} {tv:Value} {ts:List P.Thr} (h:ThreadsAt w B tv ts) (hb:∀ k,k<w.heap.size→w'.heap[k]?=w.heap[k]?):ThreadsAt w' B tv ts:=by
 obtain⟨vs,h1,h2⟩:=h
 exact⟨vs,ownsRow_keep h1 (fun k e=>hb k (h1.lt k e).2),h2.keep (fun v hv k e=>by obtain⟨n,xs,ho⟩:=h2.mem v hv;exact hb k (ho.lt k e).2)⟩
theorem ThreadsAt.nil (w:World) (B:Nat):ThreadsAt w B (.slice none 0 0) []:=⟨[],World.ownsRow_nil _ _ _ _,trivial⟩
theorem P.splitAt_le (c:UInt8) (l:List UInt8):∀ x∈P.splitAt c l,x.length≤l.length:=by
 induction l with
 | nil=>intro x hx;simp[P.splitAt] at hx;simp[hx]
 | cons y r ih =>
  intro x hx
  by_cases hy:y=c
  ·subst hy
   rw[P.splitAt_cons_eq] at hx
   rcases List.mem_cons.1 hx with rfl | hx
   ·simp
   ·have:=ih x hx;simp;omega
  ·cases hs:P.splitAt c r with
   | nil=>exact absurd hs (P.splitAt_ne _ _)
   | cons a b =>
    rw[P.splitAt_cons_ne c y r hy a b hs] at hx
    rcases List.mem_cons.1 hx with rfl | hx
    ·have:=ih a (by rw[hs];simp);simp;omega
    ·have:=ih x (by rw[hs];simp[hx]);simp;omega
theorem P.takes_count (r:P.Rd) (ws:List (List UInt8)) (h0:0≤r.count):(P.takes r ws).1.count≤r.count+1:=by
 unfold P.takes
 split
 ·unfold P.begins
  split
  ·(simp<;>omega)
  ·split
   ·split
    ·(simp<;>omega)
    ·(simp<;>omega)
   ·(simp<;>omega)
 ·split
  ·(simp<;>omega)
  ·simp only[]
   split
   ·split
    ·unfold P.ends
     split
     ·(simp<;>omega)
     ·(simp[P.put]<;>omega)
    ·split
     ·(simp<;>omega)
     ·split
      ·split
       ·(simp<;>omega)
       ·unfold P.branch
        split
        ·(simp<;>omega)
        ·(simp[P.put]<;>omega)
      ·(simp[P.put]<;>omega)
   ·(simp<;>omega)
structure LoopAt (rows:List ByteArray) (k:Nat) (r:P.Rd):Prop where
 run:P.runLines P.Rd.zero ((rows.take k).map ByteArray.toList)=(r,true)
 good:P.Good k r
 lin:r.line=k
 most:r.most=8
 cn:r.count≤k
theorem take_map_snoc (rows:List ByteArray) (k:Nat) (hk:k<rows.length):(rows.take (k+1)).map ByteArray.toList=(rows.take k).map ByteArray.toList++[rows[k].toList]:=by
 rw[List.take_succ_eq_append_getElem hk,List.map_append,List.map_cons,List.map_nil]
theorem loop_start (rows:List ByteArray):LoopAt rows 0 P.Rd.zero:=⟨by simp[P.runLines],P.good_zero,rfl,rfl,by simp[P.Rd.zero]⟩
theorem loop_step {rows:List ByteArray} {k:Nat} {r:P.Rd} (h:LoopAt rows k r) (hk:k<rows.length) (ht:(P.takes { r with line:=r.line+1 } (P.splitAt 32 rows[k].toList)).2=true) :
  LoopAt rows (k+1) (P.takes { r with line:=r.line+1 } (P.splitAt 32 rows[k].toList)).1:=by
 have hkp:=P.takes_keep { r with line:=r.line+1 } (P.splitAt 32 rows[k].toList) h.most
 refine⟨?_,P.good_takes _ h.good (by have:=h.lin;omega),?_,hkp.2,?_⟩
 ·rw[take_map_snoc rows k hk,P.runLines_snoc _ _ _ _ h.run,← ht]
 ·rw[hkp.1];have:=h.lin;simp;omega
 ·have:=P.takes_count { r with line:=r.line+1 } (P.splitAt 32 rows[k].toList) h.good.cnt
  have h2:=h.cn
  simp at this ⊢;omega
theorem loop_fail {s:ByteArray} {rows:List ByteArray} {last:ByteArray} {k:Nat} {r:P.Rd} (hc:rows.map ByteArray.toList++[last.toList]=P.splitAt 10 s.toList) (h:LoopAt rows k r) (hk:k<rows.length) (ht:(P.takes { r with line:=r.line+1 } (P.splitAt 32 rows[k].toList)).2=false) :
  P.lines s.toList=([],(k:Int)+1):=by
 have hkp:=P.takes_keep { r with line:=r.line+1 } (P.splitAt 32 rows[k].toList) h.most
 have hrun:P.runLines P.Rd.zero ((rows.take (k+1)).map ByteArray.toList)=P.takes { r with line:=r.line+1 } (P.splitAt 32 rows[k].toList):=by
  rw[take_map_snoc rows k hk,P.runLines_snoc _ _ _ _ h.run]
 have hd:(P.splitAt 10 s.toList).dropLast=(rows.take (k+1)).map ByteArray.toList++(rows.drop (k+1)).map ByteArray.toList:=by
  rw[← hc,List.dropLast_concat,← List.map_append,List.take_append_drop]
 have:=P.runLines_more _ P.Rd.zero ((rows.drop (k+1)).map ByteArray.toList) (by rw[hrun];exact ht)
 unfold P.lines
 simp only[hd,this,hrun,ht]
 simp only[Bool.false_eq_true,if_false]
 rw[hkp.1,h.lin]
theorem loop_end {s:ByteArray} {rows:List ByteArray} {last:ByteArray} {r:P.Rd} (hc:rows.map ByteArray.toList++[last.toList]=P.splitAt 10 s.toList) (h:LoopAt rows rows.length r) :
  P.lines s.toList=if last.toList.isEmpty=false∨r.threads.length=0∨0<r.opn.length then ([],(rows.length:Int)+1) else (r.threads,0):=by
 have hrun:=h.run
 rw[List.take_length] at hrun
 have e1:last.toList=[] ↔ last.toList.isEmpty=true:=by rw[List.isEmpty_iff]
 unfold P.lines
 simp only[← hc,List.dropLast_concat,hrun,List.getLast?_concat,if_true,h.lin]
 congr 1
 simp only[ne_eq,Option.some.injEq,e1,eq_iff_iff]
 simp[List.length_pos_iff,or_comm]
end Go.Proofs.YtgceflcbckjjiaaGreatDoor
