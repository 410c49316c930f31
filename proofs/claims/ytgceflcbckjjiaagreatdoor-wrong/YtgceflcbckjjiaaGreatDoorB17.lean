import Derived.Test.YtgceflcbckjjiaaGreatDoorB16
set_option linter.unusedVariables false
set_option linter.unusedSimpArgs false
namespace Go.Proofs.YtgceflcbckjjiaaGreatDoor
open Go Go.RowKit
set_option maxRecDepth 100000
namespace P
def bars:List Stm→Int
 | []=>0
 | s::r=>(if s.kind==5 then 1 else 0)+bars r
theorem bars_append (a b:List Stm):bars (a++b)=bars a+bars b:=by
 induction a with
 | nil=>simp[bars]
 | cons s r ih=>simp[bars,ih];omega
theorem bars_bd (l:List Stm):0≤bars l∧bars l≤l.length:=by
 induction l with
 | nil=>simp[bars]
 | cons s r ih=>simp only[bars,List.length_cons];split<;>omega
theorem bars_snoc (l:List Stm) (k:Nat) (h:k<l.length):bars (l.take (k+1))=bars (l.take k)+if l[k].kind==5 then 1 else 0:=by
 rw[List.take_succ_eq_append_getElem h,bars_append];simp[bars]
end P
theorem flatStm_get (l:List P.Stm):∀ (k:Nat) (h:k<l.length) (i:Nat),i<11→(flatStm l)[k*11+i]?=(stmCells l[k]).toList[i]?:=by
 induction l with
 | nil=>intro k h;simp at h
 | cons a r ih =>
  intro k h i hi
  have e:flatStm (a::r)=(stmCells a).toList++flatStm r:=by simp[flatStm]
  have hl:(stmCells a).toList.length=11:=rfl
  rw[e]
  cases k with
  | zero =>
   rw[List.getElem?_append_left (by omega)];simp
  | succ k =>
   rw[List.getElem?_append_right (by omega),hl,show (k+1)*11+i-11=k*11+i by omega,ih k (by simpa using h) i hi]
   simp
theorem range_stm {w:World} {B b n cap:Nat} {l:List P.Stm} (h:w.ownsRow B 96 11 (.slice (some ⟨b,0,none⟩) n cap) n (flatStm l)) (hn:n=l.length) (k:Nat) (hk:k<l.length):w.rangeAt b (k*11) (stmCells l[k]).toList:=by
 intro j v hv
 have hj:j<11:=(List.getElem?_eq_some_iff.1 hv).1
 rw[h.cellAt _ (by omega),flatStm_get l k hk j hj];exact hv
theorem rangeAt_keep {w w':World} {b o:Nat} {cs:List Value} (h:w.rangeAt b o cs) (e:w'.heap[b]?=w.heap[b]?):w'.rangeAt b o cs:=fun j v hv=>by
 rw[World.cell?_of_block (w:=w) (a:=⟨b,o+j,none⟩) e];exact h j v hv
theorem wpList_load_at {ops:Array Oper} {rest:List Oper} {op:Oper} {a:Act} {w:World} {Q:Exit→Act→World→Prop} (x:Operand) (hgd:op.guard=none) (ho:op.op=.load 96 x)
  (b o:Nat) (st:P.Stm) (hx:a.eval x=.pointer (some ⟨b,o,none⟩)) (hr:w.rangeAt b o (stmCells st).toList)
  (h:wpList Tryz.prog ops Q rest (a.put op.dst (.agg #[.int .i64 st.kind,.int .i64 st.line,.int .i64 st.dest,.int .i64 st.var,.bool st.a.reg,.int .i64 st.a.n,.bool st.b.reg,.int .i64 st.b.n,.int .i64 st.order,.int .i64 st.scope,.int .i64 st.label])) w):wpList Tryz.prog ops Q (op::rest) a w :=
 wpList_load_mid hgd _ x ho b o hx (stmCells st).toList _ hr Tryz.underlying96 rfl (by kernel_rfl) h
set_option maxHeartbeats 1600000 in
theorem barriers_any (B n:Nat) (bl ln:Int) (sv:Value) (l:List P.Stm) (w:World) (hown:w.ownsRow B 96 11 sv n (flatStm l)) (hn:n=l.length) (hnb:n<10000) :
  Calls Tryz.prog 56 #[.agg #[.int .i64 bl,.int .i64 ln,sv]] w fun e w'=>e=.returned (.int .i64 (P.bars l))∧Below w.heap.size w w':=by
 have hsv:∃ a c,sv=.slice a n c∧(0<n→∃ b,a=some ⟨b,0,none⟩∧b<w.heap.size):=by
  rcases hown.2 with ⟨e,h0⟩ | ⟨k,c,cur,e,_⟩
  ·exact⟨none,0,by rw[e,h0],fun h=>by omega⟩
  ·exact⟨_,c,e,fun _=>⟨k,rfl,(hown.lt k (by rw[e];rfl)).2⟩⟩
 obtain⟨sa,sc,rfl,hsa⟩:=hsv
 have HO:=hide hown
 have HN:=hide hn
 clear hown hn
 go_enter Tryz.func56,Tryz.ntmps56
 go_wp2
 go_loopw [3,9] (fun c i wr=>∃ k:Nat,k≤n∧i=.int .i64 k∧c=.int .i64 (P.bars (l.take k))∧Below w.heap.size w wr) (fun _ i _=>n-(intOf i).toNat)
 case atStart=>exact⟨0,Nat.zero_le _,rfl,by simp[P.bars],(Below.refl _ _).alloc (Nat.le_refl _) _⟩
 case round =>
  obtain⟨k,hk,rfl,rfl,hbel⟩:=hrel
  have hbd:=P.bars_bd (l.take k)
  have hbl:(l.take k).length≤k:=List.length_take_le _ _
  by_cases hlt:k<n
  ·obtain⟨b,rfl,hblt⟩:=hsa (by omega)
   have hkl:k<l.length:=by rw[← HN.out];exact hlt
   have hr:=hide (rangeAt_keep (range_stm HO.out HN.out k hkl) (hbel.block b hblt))
   have hsn:=hide (P.bars_snoc l k hkl)
   generalize hst:l[k]=st at hr hsn
   clear hst
   cases h5:(st.kind==5)
   ·go_wp2_with (first | (refine wpList_load_at (.tmp 11) rfl rfl b (k*11) st rfl hr.out ?_))
    go_roundw
    case rel=>exact⟨k+1,by omega,by go_num,by rw[hsn.out,h5];simp,hbel.alloc (by have:=hbel.size;omega) _⟩
    case measure=>simp[intOf];omega
   ·go_wp2_with (first | (refine wpList_load_at (.tmp 11) rfl rfl b (k*11) st rfl hr.out ?_))
    go_roundw
    case rel=>exact⟨k+1,by omega,by go_num,by rw[hsn.out,h5];simp,hbel.alloc (by have:=hbel.size;omega) _⟩
    case measure=>simp[intOf];omega
  ·have hkn:k=n:=by omega
   subst hkn
   have HT:Hid (l.take k=l):=List.take_of_length_le (by have:=HN.out;omega)
   go_wp2
   go_ret
   rw[HT.out]
   exact⟨rfl,hbel⟩
end Go.Proofs.YtgceflcbckjjiaaGreatDoor
