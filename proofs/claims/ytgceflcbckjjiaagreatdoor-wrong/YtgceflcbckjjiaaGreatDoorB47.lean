import Derived.WalkSpells
import Derived.Test.YtgceflcbckjjiaaGreatDoorB46
set_option linter.unusedVariables false
set_option linter.unusedSimpArgs false
namespace Go.Proofs.YtgceflcbckjjiaaGreatDoor
open Go Go.RowKit
set_option maxRecDepth 100000
theorem pick_any (c:Int) (w:World) (h0:-9223372036854775808≤c) (h1:c<9223372036854775808) :
  Calls Tryz.prog 9 #[.int .i64 c,.int .i64 24] w fun e w'=>∃ i:Nat,i<24∧e=.returned (.int .i64 (i:Int))∧w'=w:=by
 by_cases hc:c<0
 ·have hw1:IntKind.i64.wrap (c+1)=c+1:=by simp[IntKind.wrap,IntKind.signed,IntKind.bits];omega
  have hw2:IntKind.i64.wrap (-(c+1))=-(c+1):=by simp[IntKind.wrap,IntKind.signed,IntKind.bits];omega
  have hr:-((c+1).tmod 24)=(-(c+1)) % 24:=by rw[← Int.neg_tmod,Int.tmod_eq_emod_of_nonneg (by omega)]
  have HR:Hid (-((c+1).tmod 24)=(((-(c+1)) % 24).toNat:Int)):=by unfold Hid;rw[hr];omega
  clear hr
  go_enter Tryz.func9,Tryz.ntmps9
  go_wp2
  go_ret
  refine⟨((-(c+1)) % 24).toNat,by omega,?_,rfl⟩
  rw[← HR.out];rfl
 ·have HR:Hid (c % 24=((c % 24).toNat:Int)):=by unfold Hid;omega
  go_enter Tryz.func9,Tryz.ntmps9
  go_wp2
  go_ret
  refine⟨(c % 24).toNat,by omega,?_,rfl⟩
  rw[← HR.out];rfl
def P.wrongA:Array Value:=(P.wrongs.flatMap fun x=>[.string ⟨x.1.toArray⟩,.int .i64 x.2.1,.int .i64 x.2.2]).toArray
theorem wrong_row:∀ i,i<24→∃ (s:ByteArray) (e l:Int),P.wrongA[i*3]?=some (.string s)∧P.wrongA[i*3+1]?=some (.int .i64 e)∧P.wrongA[i*3+2]?=some (.int .i64 l)∧(s.toList,e,l)∈P.wrongs:=by
 intro i hi
 have hm:∀ j (hj:j<24),∃ (s:ByteArray) (e l:Int),P.wrongA[j*3]?=some (.string s)∧P.wrongA[j*3+1]?=some (.int .i64 e)∧P.wrongA[j*3+2]?=some (.int .i64 l)∧P.wrongs[j]?=some (s.toList,e,l):=by
  intro j hj
  match j,hj with
  | 0,_=>exact⟨_,_,_,rfl,rfl,rfl,by rw[lit_toList];rfl⟩
  | 1,_=>exact⟨_,_,_,rfl,rfl,rfl,by rw[lit_toList];rfl⟩
  | 2,_=>exact⟨_,_,_,rfl,rfl,rfl,by rw[lit_toList];rfl⟩
  | 3,_=>exact⟨_,_,_,rfl,rfl,rfl,by rw[lit_toList];rfl⟩
  | 4,_=>exact⟨_,_,_,rfl,rfl,rfl,by rw[lit_toList];rfl⟩
  | 5,_=>exact⟨_,_,_,rfl,rfl,rfl,by rw[lit_toList];rfl⟩
  | 6,_=>exact⟨_,_,_,rfl,rfl,rfl,by rw[lit_toList];rfl⟩
  | 7,_=>exact⟨_,_,_,rfl,rfl,rfl,by rw[lit_toList];rfl⟩
  | 8,_=>exact⟨_,_,_,rfl,rfl,rfl,by rw[lit_toList];rfl⟩
  | 9,_=>exact⟨_,_,_,rfl,rfl,rfl,by rw[lit_toList];rfl⟩
  | 10,_=>exact⟨_,_,_,rfl,rfl,rfl,by rw[lit_toList];rfl⟩
  | 11,_=>exact⟨_,_,_,rfl,rfl,rfl,by rw[lit_toList];rfl⟩
  | 12,_=>exact⟨_,_,_,rfl,rfl,rfl,by rw[lit_toList];rfl⟩
  | 13,_=>exact⟨_,_,_,rfl,rfl,rfl,by rw[lit_toList];rfl⟩
  | 14,_=>exact⟨_,_,_,rfl,rfl,rfl,by rw[lit_toList];rfl⟩
  | 15,_=>exact⟨_,_,_,rfl,rfl,rfl,by rw[lit_toList];rfl⟩
  | 16,_=>exact⟨_,_,_,rfl,rfl,rfl,by rw[lit_toList];rfl⟩
  | 17,_=>exact⟨_,_,_,rfl,rfl,rfl,by rw[lit_toList];rfl⟩
  | 18,_=>exact⟨_,_,_,rfl,rfl,rfl,by rw[lit_toList];rfl⟩
  | 19,_=>exact⟨_,_,_,rfl,rfl,rfl,by rw[lit_toList];rfl⟩
  | 20,_=>exact⟨_,_,_,rfl,rfl,rfl,by rw[lit_toList];rfl⟩
  | 21,_=>exact⟨_,_,_,rfl,rfl,rfl,by rw[lit_toList];rfl⟩
  | 22,_=>exact⟨_,_,_,rfl,rfl,rfl,by rw[lit_toList];rfl⟩
  | 23,_=>exact⟨_,_,_,rfl,rfl,rfl,by rw[lit_toList];rfl⟩
  | n+24,h=>exact absurd h (by omega)
 obtain⟨s,e,l,a,b,c,d⟩:=hm i hi
 exact⟨s,e,l,a,b,c,List.mem_of_getElem? d⟩
theorem wrong_cells (w w1:World) (h:w1=w.alloc (.cells P.wrongA 42)) (i:Nat) (hi:i<24):∃ (s:ByteArray) (e l:Int),w1.cell? ⟨w.heap.size,i*3,none⟩=some (.string s)∧w1.cell? ⟨w.heap.size,i*3+1,none⟩=some (.int .i64 e)∧w1.cell? ⟨w.heap.size,i*3+2,none⟩=some (.int .i64 l)∧P.wrongOk (s.toList,e,l)=true:=by
 obtain⟨s,e,l,a,b,c,d⟩:=wrong_row i hi
 have hb:w1.heap[w.heap.size]?=some (.cells P.wrongA 42 (0,0)):=by rw[h];exact heap_alloc_new w _
 refine⟨s,e,l,?_,?_,?_,List.all_eq_true.1 P.wrongs_ok _ d⟩
 ·simp only[World.cell?,hb];simpa using a
 ·simp only[World.cell?,hb];simpa using b
 ·simp only[World.cell?,hb];simpa using c
theorem wrong_new (w w1:World) (h:w1=w.alloc (.cells P.wrongA 42)):w1.heap.size=w.heap.size+1∧Below w.heap.size w w1:=by
 rw[h];exact⟨by simp,(Below.refl _ _).alloc (Nat.le_refl _) _⟩
theorem wrong_frozen (w w1:World) (h:w1=w.alloc (.cells P.wrongA 42)):∀ j,w1.frozen? ⟨w.heap.size,j,none⟩=false:=by
 have hb:w1.heap[w.heap.size]?=some (.cells P.wrongA 42 (0,0)):=by rw[h];exact heap_alloc_new w _
 intro j;simp[World.frozen?,hb]
theorem three_cells {w:World} {g:Nat} {u v x:Value} {t:TypeId} (h:w.heap[g]?=some (.cells #[u,v,x] t (0,0))):w.cell? ⟨g,0,none⟩=some u∧w.cell? ⟨g,1,none⟩=some v∧w.cell? ⟨g,2,none⟩=some x∧(∀ j,w.frozen? ⟨g,j,none⟩=false)∧g<w.heap.size:=by
 refine⟨?_,?_,?_,?_,(Array.getElem?_eq_some_iff.1 h).1⟩
 ·simp[World.cell?,h]
 ·simp[World.cell?,h]
 ·simp[World.cell?,h]
 ·intro j;simp[World.frozen?,h]
theorem ok_all {s:ByteArray} {e l:Int} (h:P.wrongOk (s.toList,e,l)=true):(P.kernel s.toList).2=(e,l)∧(e != 0)=true∧(P.linesA s.toList).2=1∧s.size≤2000∧(P.splitAt 10 s.toList).length≤99:=by
 unfold P.wrongOk at h
 simp only[Bool.and_eq_true,decide_eq_true_eq,beq_iff_eq] at h
 obtain⟨⟨⟨⟨a,b⟩,c⟩,d⟩,f⟩:=h
 exact⟨a,b,c,by rw[← size_toList];exact d,f⟩
theorem ok_1 {s:ByteArray} {e l:Int} (h:P.wrongOk (s.toList,e,l)=true):(P.kernel s.toList).2.1=e:=by rw[(ok_all h).1]
theorem ok_2 {s:ByteArray} {e l:Int} (h:P.wrongOk (s.toList,e,l)=true):(P.kernel s.toList).2.2=l:=by rw[(ok_all h).1]
theorem ok_n {s:ByteArray} {e l:Int} (h:P.wrongOk (s.toList,e,l)=true):((P.kernel s.toList).2.1 != 0)=true:=by rw[ok_1 h];exact (ok_all h).2.1
theorem ok_l {s:ByteArray} {e l:Int} (h:P.wrongOk (s.toList,e,l)=true):(P.linesA s.toList).2=1:=(ok_all h).2.2.1
theorem ok_ln {s:ByteArray} {e l:Int} (h:P.wrongOk (s.toList,e,l)=true):((P.linesA s.toList).2 != 0)=true:=by rw[ok_l h];rfl
theorem ok_z {s:ByteArray} {e l:Int} (h:P.wrongOk (s.toList,e,l)=true):s.size≤2000:=(ok_all h).2.2.2.1
theorem ok_s {s:ByteArray} {e l:Int} (h:P.wrongOk (s.toList,e,l)=true):(P.splitAt 10 s.toList).length≤99:=(ok_all h).2.2.2.2
theorem ok_c0 {s:ByteArray} {e l:Int} (h:P.wrongOk (s.toList,e,l)=true):P.compileW s.toList 0=([],e,l):=by
 unfold P.compileW
 rw[if_neg (by omega),if_pos (ok_n h),ok_1 h,ok_2 h]
theorem ok_c4 (s:ByteArray):P.compileW s.toList 4=([],5,0):=by
 unfold P.compileW
 rw[if_pos (by omega)]
set_option maxHeartbeats 6400000 in
theorem wrong_any (c:Int) (w:World) (h0:-9223372036854775808≤c) (h1:c<9223372036854775808) :
  Calls Tryz.prog 11 #[.int .i64 c] w fun e w'=>e=.returned (.bool true)∧Below w.heap.size w w':=by
 have hnil:∀ wx,(binOp .eql 28 (.slice none 0 0) (.slice none 0 0)).run Tryz.prog wx=.ok (.bool true) wx:=fun wx=>run_eql_nil_slice wx _ 32 none 0 0 0 0 (by kernel_rfl)
 go_enter Tryz.func11,Tryz.ntmps11
 go_wp2_with (first | (go_at_call 9;refine (pick_any c _ h0 h1).mono ?_;rintro e' w1 ⟨i,hi,rfl,hw1⟩;obtain⟨s,e,l,c0,c1,c2,hok⟩:=wrong_cells w w1 hw1 i hi;obtain⟨hsz0,hB1⟩:=wrong_new w w1 hw1;have hsz:w.heap.size<w1.heap.size:=(by omega);clear hsz0;have HK1:=hide (ok_1 hok);have HK2:=hide (ok_2 hok);have HKN:=hide (ok_n hok);have HL1:=hide (ok_l hok);have HLN:=hide (ok_ln hok);have hz:=ok_z hok;have HSP:=hide (ok_s hok);have HC0:=hide (ok_c0 hok);have HC4:=hide (ok_c4 s);have hfz:∀ j,w1.frozen? ⟨w.heap.size,j,none⟩=false:=wrong_frozen w w1 hw1;have HX:Hid ((w1.alloc (.cells #[.string s,.int .i64 e,.int .i64 l] 42)).heap[w1.heap.size]?=some (.cells #[.string s,.int .i64 e,.int .i64 l] 42 (0,0))):=heap_alloc_new w1 _;have HB:Hid (Below w.heap.size w (w1.alloc (.cells #[.string s,.int .i64 e,.int .i64 l] 42))):=hB1.alloc (by omega) _;have HG:Hid (w1.heap.size<(w1.alloc (.cells #[.string s,.int .i64 e,.int .i64 l] 42)).heap.size):=(by unfold Hid;simp);have HS:Hid (w.heap.size≤(w1.alloc (.cells #[.string s,.int .i64 e,.int .i64 l] 42)).heap.size):=(by unfold Hid;simp;omega);clear hw1 hok) | (go_at_call 14;refine (source_fault s _ (by omega) HKN.out).mono ?_;rintro e' w2 ⟨he,hb⟩;rw[HK1.out,HK2.out] at he;subst he;have HX:=hide ((hb.block w1.heap.size HG.out).trans HX.out);have HB:=hide (HB.out.trans (hb.mono HS.out));have HG:Hid (w1.heap.size<w2.heap.size):=Nat.lt_of_lt_of_le HG.out hb.size;have HS:Hid (w.heap.size≤w2.heap.size):=Nat.le_trans HS.out hb.size;obtain⟨x0,x1,x2,x3,x4⟩:=three_cells HX.out;clear hb) | (go_at_call 15;refine (compileW_any s _ _ (by omega)).mono ?_;rintro e' w2 ⟨t,he,ht,hb⟩;(first | rw[HC0.out] at he ht | rw[HC4.out] at he ht);subst he;have htl:t.toList=[]:=ht.1;have hte:t.toList.isEmpty=true:=(by rw[htl];rfl);clear htl ht;have HX:=hide ((hb.block w1.heap.size HG.out).trans HX.out);have HB:=hide (HB.out.trans (hb.mono HS.out));have HG:Hid (w1.heap.size<w2.heap.size):=Nat.lt_of_lt_of_le HG.out hb.size;have HS:Hid (w.heap.size≤w2.heap.size):=Nat.le_trans HS.out hb.size;obtain⟨x0,x1,x2,x3,x4⟩:=three_cells HX.out;clear hb) | (go_at_call 20;refine (target_line s _ hz HSP.out HLN.out).mono ?_;rintro e' w2 ⟨he,hb⟩;rw[HL1.out] at he;subst he;have HX:=hide ((hb.block w1.heap.size HG.out).trans HX.out);have HB:=hide (HB.out.trans (hb.mono HS.out));have HG:Hid (w1.heap.size<w2.heap.size):=Nat.lt_of_lt_of_le HG.out hb.size;have HS:Hid (w.heap.size≤w2.heap.size):=Nat.le_trans HS.out hb.size;obtain⟨x0,x1,x2,x3,x4⟩:=three_cells HX.out;clear hb))
 go_ret
 exact⟨rfl,HB.out⟩
theorem wrongT_any (c:Int) (w:World) (h0:-9223372036854775808≤c) (h1:c<9223372036854775808) :
  Calls Tryz.prog 5 #[.int .i64 c] w fun e w'=>e=.returned (.bool true)∧Below w.heap.size w w':=by
 go_enter Tryz.func5,Tryz.ntmps5
 go_wp2_with (first | (go_at_call 11;refine (wrong_any c _ h0 h1).mono ?_;rintro e w1 ⟨rfl,hb⟩))
 go_ret
 exact⟨rfl,hb⟩
end Go.Proofs.YtgceflcbckjjiaaGreatDoor
