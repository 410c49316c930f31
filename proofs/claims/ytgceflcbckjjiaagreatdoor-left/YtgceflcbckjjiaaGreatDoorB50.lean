import Derived.Test.YtgceflcbckjjiaaGreatDoorB44
import Derived.Test.YtgceflcbckjjiaaGreatDoorB49
import Derived.Test.YtgceflcbckjjiaaGreatDoorB41
set_option linter.unusedVariables false
set_option linter.unusedSimpArgs false
namespace Go.Proofs.YtgceflcbckjjiaaGreatDoor
open Go Go.RowKit
set_option maxRecDepth 100000
set_option maxHeartbeats 3200000 in
theorem readA_line (s:ByteArray) (w:World) (h:s.size≤2000) (hfew:(P.splitAt 10 s.toList).length≤99) (hl:((P.linesA s.toList).2 != 0)=true) :
  Calls Tryz.prog 28 #[.string s] w fun e w'=>e=.returned (.tuple #[.agg #[.slice none 0 0],.int .i64 2,.int .i64 (P.linesA s.toList).2])∧Below w.heap.size w w':=by
 have h':¬ (2000:Int)<(s.size:Int):=by omega
 have hs:s.size≤8192:=by omega
 go_enter Tryz.func28,Tryz.ntmps28
 go_wp2_with (first | (go_at_call 46;refine (linesA_any s _ hs hfew).mono ?_;rintro e w1 ⟨tv,rfl,hth,hb1⟩;obtain⟨ta,tc,rfl,hta⟩:=hth.form;have hsz1:w.heap.size+1≤w1.heap.size:=(by have:=hb1.size;simp at this;omega);have hres:w1.heap[w.heap.size]?=some (.cells #[.slice none 0 0] 48 (0,0)):=(by rw[hb1.block _ (by simp)];exact heap_alloc_new w _);obtain⟨z0,z1,z2⟩:=one_cell hres;have HRES:=hide hres;have HTH:=hide hth;have HB1:Hid (Below w.heap.size w w1):=((Below.refl _ _).alloc (Nat.le_refl _) _).trans (hb1.mono (by simp));clear hres hth hb1))
 refine ret_prog3 (p:=2) (u:=3) (v:=4) w.heap.size (.slice none 0 0) _ _ (by kernel_rfl) rfl rfl rfl ?_ rfl ⟨rfl,?_⟩
 ·rw[Below.heap_alloc _ _ _ (by simp;omega)]
  exact setCell_block HRES.out 0 _
 ·exact (HB1.out.setCell (Nat.le_refl _) _).alloc (by simp;omega) _
theorem results_tmp4 {fn:Func} {p q u v:Tmp} (h:fn.results=#[.tmp p,.tmp q,.tmp u,.tmp v]) (tmps:Array Value) (Pg:Program) (w:World) :
  (results fn tmps).run Pg w=.ok (.tuple #[tmps.getD p undef,tmps.getD q undef,tmps.getD u undef,tmps.getD v undef]) w:=by
 simp only[results,h]
 simp[Sem.run_bind,Result.andThen]
namespace P
theorem goodA_run (xs:List (List UInt8)):∀ (k:Nat) (r:Rd),GoodA k r→r.line=k→GoodA (k+xs.length) (runA r xs).1∧r.line≤(runA r xs).1.line∧((runA r xs).2=false→r.line<(runA r xs).1.line):=by
 induction xs with
 | nil=>intro k r h _;exact⟨h,by simp[runA],by simp[runA]⟩
 | cons x r ih =>
  intro k q h hq
  have h1:=goodA_take x h hq
  have hl:(takeA { q with line:=q.line+1 } x).1.line=q.line+1:=(takeA_keep { q with line:=q.line+1 } x).1
  simp only[runA]
  cases ht:(takeA { q with line:=q.line+1 } x).2
  ·refine⟨?_,?_,?_⟩
   ·have g:=h1.good
    refine⟨⟨g.few,fun t ht=>?_,g.opn,g.ifs0,?_,g.cnt,g.lin0,?_⟩,h1.opn,?_⟩
    ·have:=g.stm t ht;simp;omega
    ·have:=g.ifs1;simp at *;omega
    ·have:=g.lin1;simp at *;omega
    ·have:=h1.cn;simp at *;omega
   ·simp[hl];omega
   ·simp[hl];omega
  ·obtain⟨a1,a2,a3⟩:=ih (k+1) _ h1 (by rw[hl,hq];simp)
   simp only[if_true]
   refine⟨?_,?_,?_⟩
   ·rw[show k+(x::r).length=k+1+r.length by simp;omega];exact a1
   ·rw[hl] at a2;omega
   ·intro hf
    have:=a3 hf
    rw[hl] at this;omega
theorem linesA_ok (l:List UInt8) (h:(linesA l).2=0):(linesA l).1≠[]∧(linesA l).1.length≤4∧∀ t∈(linesA l).1,t.stmts.length≤l.length:=by
 have hl:=splitAt_length 10 l
 obtain⟨g1,g2,g3⟩:=goodA_run (splitAt 10 l).dropLast 0 Rd.zeroA goodA_zero rfl
 have hd:(splitAt 10 l).dropLast.length≤l.length:=by rw[List.length_dropLast];omega
 unfold linesA at h ⊢
 simp only[] at h ⊢
 cases hq:(runA Rd.zeroA (splitAt 10 l).dropLast).2
 ·have:=g3 hq
  have z:Rd.zeroA.line=0:=rfl
  simp[hq] at h
  omega
 ·simp only[hq,if_true] at h ⊢
  split at h
  ·have z:Rd.zeroA.line=0:=rfl
   simp at h;omega
  ·rename_i hno
   rw[if_neg hno]
   refine⟨fun e=>hno (Or.inr (Or.inr e)),g1.good.few,fun t ht=>?_⟩
   have:=g1.good.stm t ht
   omega
def readA (l:List UInt8):List Thr × Int × Int :=
 if 2000<l.length then ([],1,0)
 else if (linesA l).2 != 0 then ([],2,(linesA l).2)
 else if unevenIn (linesA l).1 (linesA l).1 != 0 then ([],3,unevenIn (linesA l).1 (linesA l).1)
 else if over (linesA l).1||decide (50<evT (linesA l).1) then ([],4,0)
 else ((linesA l).1,0,0)
end P
set_option maxHeartbeats 1600000 in
theorem readA_long (s:ByteArray) (w:World) (h:2000<s.size) :
  Calls Tryz.prog 28 #[.string s] w fun e w'=>e=.returned (.tuple #[.agg #[.slice none 0 0],.int .i64 1,.int .i64 0])∧Below w.heap.size w w':=by
 have h':(2000:Int)<(s.size:Int):=by omega
 go_enter Tryz.func28,Tryz.ntmps28
 go_wp2
 refine ret_prog3 (p:=2) (u:=3) (v:=4) w.heap.size (.slice none 0 0) _ _ (by kernel_rfl) rfl rfl rfl (by exact heap_alloc_new w _) rfl ⟨rfl,?_⟩
 exact (Below.refl _ _).alloc (Nat.le_refl _) _
set_option maxHeartbeats 3200000 in
theorem readA_uneven (s:ByteArray) (w:World) (h:s.size≤2000) (hfew:(P.splitAt 10 s.toList).length≤99) (hl:((P.linesA s.toList).2 != 0)=false) (hu:(P.unevenIn (P.linesA s.toList).1 (P.linesA s.toList).1 != 0)=true) :
  Calls Tryz.prog 28 #[.string s] w fun e w'=>e=.returned (.tuple #[.agg #[.slice none 0 0],.int .i64 3,.int .i64 (P.unevenIn (P.linesA s.toList).1 (P.linesA s.toList).1)])∧Below w.heap.size w w':=by
 have h':¬ (2000:Int)<(s.size:Int):=by omega
 have hs:s.size≤8192:=by omega
 have hl0:(P.linesA s.toList).2=0:=by simpa using hl
 obtain⟨hne,h4,hst'⟩:=P.linesA_ok s.toList hl0
 have hst:∀ t∈(P.linesA s.toList).1,t.stmts.length<10000:=fun t ht=>by have:=hst' t ht;rw[size_toList] at this;omega
 clear hl0 hst'
 go_enter Tryz.func28,Tryz.ntmps28
 go_wp2_with (first | (go_at_call 46;refine (linesA_any s _ hs hfew).mono ?_;rintro e w1 ⟨tv,rfl,hth,hb1⟩;obtain⟨ta,tc,rfl,hta⟩:=hth.form;have hsz1:w.heap.size+1≤w1.heap.size:=(by have:=hb1.size;simp at this;omega);have hres:w1.heap[w.heap.size]?=some (.cells #[.slice none 0 0] 48 (0,0)):=(by rw[hb1.block _ (by simp)];exact heap_alloc_new w _);obtain⟨z0,z1,z2⟩:=one_cell hres;have HRES:=hide hres;have HTH:=hide hth;have HB1:Hid (Below w.heap.size w w1):=((Below.refl _ _).alloc (Nat.le_refl _) _).trans (hb1.mono (by simp));obtain⟨bt,rfl⟩:=hta hne;have TK:Hid (∀ w':World,Below (w1.alloc (.cells #[(.slice (some ⟨bt,0,none⟩) (P.linesA s.toList).1.length tc)] 48)).heap.size (w1.alloc (.cells #[(.slice (some ⟨bt,0,none⟩) (P.linesA s.toList).1.length tc)] 48)) w'→ThreadsAt w' (w.heap.size+1) (.slice (some ⟨bt,0,none⟩) (P.linesA s.toList).1.length tc) (P.linesA s.toList).1∧Below w.heap.size w w'∧w'.heap[w.heap.size]?=some (.cells #[.slice none 0 0] 48 (0,0))∧w'.heap[w1.heap.size]?=some (.cells #[(.slice (some ⟨bt,0,none⟩) (P.linesA s.toList).1.length tc)] 48 (0,0))∧w1.heap.size<w'.heap.size):=(fun w' hb'=>after_lines HTH.out HB1.out HRES.out hb');clear hres hth hb1) | (go_at_call 32;refine (uneven_any (w.heap.size+1) bt _ tc (P.linesA s.toList).1 _ (by exact (TK.out _ (Below.refl _ _)).1) rfl (by omega) hst).mono ?_;rintro e w2 ⟨rfl,hb2⟩;obtain⟨t2,v2,r2,q2,l2⟩:=TK.out w2 hb2;obtain⟨y0,y1,y2⟩:=one_cell r2;obtain⟨x0,x1,x2⟩:=one_cell q2;have T2:=hide t2;have R2:=hide r2;clear t2 r2 q2))
 refine ret_prog3 (p:=2) (u:=3) (v:=4) w.heap.size (.slice none 0 0) _ _ (by kernel_rfl) rfl rfl rfl (by exact setCell_block R2.out 0 _) rfl ⟨rfl,v2.setCell (Nat.le_refl _) _⟩
set_option maxHeartbeats 3200000 in
theorem readA_over (s:ByteArray) (w:World) (h:s.size≤2000) (hfew:(P.splitAt 10 s.toList).length≤99) (hl:((P.linesA s.toList).2 != 0)=false) (hu:(P.unevenIn (P.linesA s.toList).1 (P.linesA s.toList).1 != 0)=false) (ho:P.over (P.linesA s.toList).1=true) :
  Calls Tryz.prog 28 #[.string s] w fun e w'=>e=.returned (.tuple #[.agg #[.slice none 0 0],.int .i64 4,.int .i64 0])∧Below w.heap.size w w':=by
 have h':¬ (2000:Int)<(s.size:Int):=by omega
 have hs:s.size≤8192:=by omega
 have hl0:(P.linesA s.toList).2=0:=by simpa using hl
 obtain⟨hne,h4,hst'⟩:=P.linesA_ok s.toList hl0
 have hst:∀ t∈(P.linesA s.toList).1,t.stmts.length<10000:=fun t ht=>by have:=hst' t ht;rw[size_toList] at this;omega
 clear hl0 hst'
 go_enter Tryz.func28,Tryz.ntmps28
 go_wp2_with (first | (go_at_call 46;refine (linesA_any s _ hs hfew).mono ?_;rintro e w1 ⟨tv,rfl,hth,hb1⟩;obtain⟨ta,tc,rfl,hta⟩:=hth.form;have hsz1:w.heap.size+1≤w1.heap.size:=(by have:=hb1.size;simp at this;omega);have hres:w1.heap[w.heap.size]?=some (.cells #[.slice none 0 0] 48 (0,0)):=(by rw[hb1.block _ (by simp)];exact heap_alloc_new w _);obtain⟨z0,z1,z2⟩:=one_cell hres;have HRES:=hide hres;have HTH:=hide hth;have HB1:Hid (Below w.heap.size w w1):=((Below.refl _ _).alloc (Nat.le_refl _) _).trans (hb1.mono (by simp));obtain⟨bt,rfl⟩:=hta hne;have TK:Hid (∀ w':World,Below (w1.alloc (.cells #[(.slice (some ⟨bt,0,none⟩) (P.linesA s.toList).1.length tc)] 48)).heap.size (w1.alloc (.cells #[(.slice (some ⟨bt,0,none⟩) (P.linesA s.toList).1.length tc)] 48)) w'→ThreadsAt w' (w.heap.size+1) (.slice (some ⟨bt,0,none⟩) (P.linesA s.toList).1.length tc) (P.linesA s.toList).1∧Below w.heap.size w w'∧w'.heap[w.heap.size]?=some (.cells #[.slice none 0 0] 48 (0,0))∧w'.heap[w1.heap.size]?=some (.cells #[(.slice (some ⟨bt,0,none⟩) (P.linesA s.toList).1.length tc)] 48 (0,0))∧w1.heap.size<w'.heap.size):=(fun w' hb'=>after_lines HTH.out HB1.out HRES.out hb');clear hres hth hb1) | (go_at_call 32;refine (uneven_any (w.heap.size+1) bt _ tc (P.linesA s.toList).1 _ (by exact (TK.out _ (Below.refl _ _)).1) rfl (by omega) hst).mono ?_;rintro e w2 ⟨rfl,hb2⟩;obtain⟨t2,v2,r2,q2,l2⟩:=TK.out w2 hb2;obtain⟨y0,y1,y2⟩:=one_cell r2;obtain⟨x0,x1,x2⟩:=one_cell q2;have T2:=hide t2;have R2:=hide r2;clear t2 r2 q2) | (go_at_call 33;refine (over_any (w.heap.size+1) bt _ tc (P.linesA s.toList).1 _ (by exact T2.out) rfl (by omega) hst).mono ?_;rintro e w3 ⟨rfl,hb3⟩;(try rw[ho]);obtain⟨t3,v3,r3,q3,l3⟩:=TK.out w3 (hb2.trans (hb3.mono hb2.size));obtain⟨y0,y1,y2⟩:=one_cell r3;obtain⟨x0,x1,x2⟩:=one_cell q3;have T3:=hide t3;have R3:=hide r3;clear t3 r3 q3))
 refine ret_prog3 (p:=2) (u:=3) (v:=4) w.heap.size (.slice none 0 0) _ _ (by kernel_rfl) rfl rfl rfl (by exact setCell_block R3.out 0 _) rfl ⟨rfl,v3.setCell (Nat.le_refl _) _⟩
set_option maxHeartbeats 3200000 in
theorem readA_events (s:ByteArray) (w:World) (h:s.size≤2000) (hfew:(P.splitAt 10 s.toList).length≤99) (hl:((P.linesA s.toList).2 != 0)=false) (hu:(P.unevenIn (P.linesA s.toList).1 (P.linesA s.toList).1 != 0)=false) (ho:P.over (P.linesA s.toList).1=false) (hev:decide (50<P.evT (P.linesA s.toList).1)=true) :
  Calls Tryz.prog 28 #[.string s] w fun e w'=>e=.returned (.tuple #[.agg #[.slice none 0 0],.int .i64 4,.int .i64 0])∧Below w.heap.size w w':=by
 have h':¬ (2000:Int)<(s.size:Int):=by omega
 have hs:s.size≤8192:=by omega
 have hl0:(P.linesA s.toList).2=0:=by simpa using hl
 obtain⟨hne,h4,hst'⟩:=P.linesA_ok s.toList hl0
 have hst:∀ t∈(P.linesA s.toList).1,t.stmts.length<10000:=fun t ht=>by have:=hst' t ht;rw[size_toList] at this;omega
 clear hl0 hst'
 go_enter Tryz.func28,Tryz.ntmps28
 go_wp2_with (first | (go_at_call 46;refine (linesA_any s _ hs hfew).mono ?_;rintro e w1 ⟨tv,rfl,hth,hb1⟩;obtain⟨ta,tc,rfl,hta⟩:=hth.form;have hsz1:w.heap.size+1≤w1.heap.size:=(by have:=hb1.size;simp at this;omega);have hres:w1.heap[w.heap.size]?=some (.cells #[.slice none 0 0] 48 (0,0)):=(by rw[hb1.block _ (by simp)];exact heap_alloc_new w _);obtain⟨z0,z1,z2⟩:=one_cell hres;have HRES:=hide hres;have HTH:=hide hth;have HB1:Hid (Below w.heap.size w w1):=((Below.refl _ _).alloc (Nat.le_refl _) _).trans (hb1.mono (by simp));obtain⟨bt,rfl⟩:=hta hne;have TK:Hid (∀ w':World,Below (w1.alloc (.cells #[(.slice (some ⟨bt,0,none⟩) (P.linesA s.toList).1.length tc)] 48)).heap.size (w1.alloc (.cells #[(.slice (some ⟨bt,0,none⟩) (P.linesA s.toList).1.length tc)] 48)) w'→ThreadsAt w' (w.heap.size+1) (.slice (some ⟨bt,0,none⟩) (P.linesA s.toList).1.length tc) (P.linesA s.toList).1∧Below w.heap.size w w'∧w'.heap[w.heap.size]?=some (.cells #[.slice none 0 0] 48 (0,0))∧w'.heap[w1.heap.size]?=some (.cells #[(.slice (some ⟨bt,0,none⟩) (P.linesA s.toList).1.length tc)] 48 (0,0))∧w1.heap.size<w'.heap.size):=(fun w' hb'=>after_lines HTH.out HB1.out HRES.out hb');clear hres hth hb1) | (go_at_call 32;refine (uneven_any (w.heap.size+1) bt _ tc (P.linesA s.toList).1 _ (by exact (TK.out _ (Below.refl _ _)).1) rfl (by omega) hst).mono ?_;rintro e w2 ⟨rfl,hb2⟩;obtain⟨t2,v2,r2,q2,l2⟩:=TK.out w2 hb2;obtain⟨y0,y1,y2⟩:=one_cell r2;obtain⟨x0,x1,x2⟩:=one_cell q2;have T2:=hide t2;have R2:=hide r2;clear t2 r2 q2) | (go_at_call 33;refine (over_any (w.heap.size+1) bt _ tc (P.linesA s.toList).1 _ (by exact T2.out) rfl (by omega) hst).mono ?_;rintro e w3 ⟨rfl,hb3⟩;(try rw[ho]);obtain⟨t3,v3,r3,q3,l3⟩:=TK.out w3 (hb2.trans (hb3.mono hb2.size));obtain⟨y0,y1,y2⟩:=one_cell r3;obtain⟨x0,x1,x2⟩:=one_cell q3;have T3:=hide t3;have R3:=hide r3;clear t3 r3 q3) | (go_at_call 47;refine (events_any (w.heap.size+1) bt _ tc (P.linesA s.toList).1 _ (by exact T3.out) rfl (by omega) hst).mono ?_;rintro e w4 ⟨rfl,hb4⟩;(try rw[hev]);obtain⟨t4,v4,r4,q4,l4⟩:=TK.out w4 ((hb2.trans (hb3.mono hb2.size)).trans (hb4.mono (hb2.trans (hb3.mono hb2.size)).size));obtain⟨y0,y1,y2⟩:=one_cell r4;obtain⟨x0,x1,x2⟩:=one_cell q4;have T4:=hide t4;have R4:=hide r4;clear t4 r4 q4))
 refine ret_prog3 (p:=2) (u:=3) (v:=4) w.heap.size (.slice none 0 0) _ _ (by kernel_rfl) rfl rfl rfl (by exact setCell_block R4.out 0 _) rfl ⟨rfl,v4.setCell (Nat.le_refl _) _⟩
set_option maxHeartbeats 3200000 in
theorem readA_ok (s:ByteArray) (w:World) (h:s.size≤2000) (hfew:(P.splitAt 10 s.toList).length≤99) (hl:((P.linesA s.toList).2 != 0)=false) (hu:(P.unevenIn (P.linesA s.toList).1 (P.linesA s.toList).1 != 0)=false) (ho:P.over (P.linesA s.toList).1=false) (hev:decide (50<P.evT (P.linesA s.toList).1)=false) :
  Calls Tryz.prog 28 #[.string s] w fun e w'=>∃ bt tc,e=.returned (.tuple #[.agg #[(.slice (some ⟨bt,0,none⟩) (P.linesA s.toList).1.length tc)],.int .i64 0,.int .i64 0])∧ThreadsAt w' w.heap.size (.slice (some ⟨bt,0,none⟩) (P.linesA s.toList).1.length tc) (P.linesA s.toList).1∧Below w.heap.size w w':=by
 have h':¬ (2000:Int)<(s.size:Int):=by omega
 have hs:s.size≤8192:=by omega
 have hl0:(P.linesA s.toList).2=0:=by simpa using hl
 obtain⟨hne,h4,hst'⟩:=P.linesA_ok s.toList hl0
 have hst:∀ t∈(P.linesA s.toList).1,t.stmts.length<10000:=fun t ht=>by have:=hst' t ht;rw[size_toList] at this;omega
 clear hl0 hst'
 go_enter Tryz.func28,Tryz.ntmps28
 go_wp2_with (first | (go_at_call 46;refine (linesA_any s _ hs hfew).mono ?_;rintro e w1 ⟨tv,rfl,hth,hb1⟩;obtain⟨ta,tc,rfl,hta⟩:=hth.form;have hsz1:w.heap.size+1≤w1.heap.size:=(by have:=hb1.size;simp at this;omega);have hres:w1.heap[w.heap.size]?=some (.cells #[.slice none 0 0] 48 (0,0)):=(by rw[hb1.block _ (by simp)];exact heap_alloc_new w _);obtain⟨z0,z1,z2⟩:=one_cell hres;have HRES:=hide hres;have HTH:=hide hth;have HB1:Hid (Below w.heap.size w w1):=((Below.refl _ _).alloc (Nat.le_refl _) _).trans (hb1.mono (by simp));obtain⟨bt,rfl⟩:=hta hne;have TK:Hid (∀ w':World,Below (w1.alloc (.cells #[(.slice (some ⟨bt,0,none⟩) (P.linesA s.toList).1.length tc)] 48)).heap.size (w1.alloc (.cells #[(.slice (some ⟨bt,0,none⟩) (P.linesA s.toList).1.length tc)] 48)) w'→ThreadsAt w' (w.heap.size+1) (.slice (some ⟨bt,0,none⟩) (P.linesA s.toList).1.length tc) (P.linesA s.toList).1∧Below w.heap.size w w'∧w'.heap[w.heap.size]?=some (.cells #[.slice none 0 0] 48 (0,0))∧w'.heap[w1.heap.size]?=some (.cells #[(.slice (some ⟨bt,0,none⟩) (P.linesA s.toList).1.length tc)] 48 (0,0))∧w1.heap.size<w'.heap.size):=(fun w' hb'=>after_lines HTH.out HB1.out HRES.out hb');clear hres hth hb1) | (go_at_call 32;refine (uneven_any (w.heap.size+1) bt _ tc (P.linesA s.toList).1 _ (by exact (TK.out _ (Below.refl _ _)).1) rfl (by omega) hst).mono ?_;rintro e w2 ⟨rfl,hb2⟩;obtain⟨t2,v2,r2,q2,l2⟩:=TK.out w2 hb2;obtain⟨y0,y1,y2⟩:=one_cell r2;obtain⟨x0,x1,x2⟩:=one_cell q2;have T2:=hide t2;have R2:=hide r2;clear t2 r2 q2) | (go_at_call 33;refine (over_any (w.heap.size+1) bt _ tc (P.linesA s.toList).1 _ (by exact T2.out) rfl (by omega) hst).mono ?_;rintro e w3 ⟨rfl,hb3⟩;(try rw[ho]);obtain⟨t3,v3,r3,q3,l3⟩:=TK.out w3 (hb2.trans (hb3.mono hb2.size));obtain⟨y0,y1,y2⟩:=one_cell r3;obtain⟨x0,x1,x2⟩:=one_cell q3;have T3:=hide t3;have R3:=hide r3;clear t3 r3 q3) | (go_at_call 47;refine (events_any (w.heap.size+1) bt _ tc (P.linesA s.toList).1 _ (by exact T3.out) rfl (by omega) hst).mono ?_;rintro e w4 ⟨rfl,hb4⟩;(try rw[hev]);obtain⟨t4,v4,r4,q4,l4⟩:=TK.out w4 ((hb2.trans (hb3.mono hb2.size)).trans (hb4.mono (hb2.trans (hb3.mono hb2.size)).size));obtain⟨y0,y1,y2⟩:=one_cell r4;obtain⟨x0,x1,x2⟩:=one_cell q4;have T4:=hide t4;have R4:=hide r4;clear t4 r4 q4))
 refine ret_prog3 (p:=2) (u:=3) (v:=4) w.heap.size _ _ _ (by kernel_rfl) rfl rfl rfl (by exact setCell_block R4.out 0 _) rfl ⟨_,_,rfl,T4.out.set _,v4.setCell (Nat.le_refl _) _⟩
theorem readA_any (s:ByteArray) (w:World) (hfew:(P.splitAt 10 s.toList).length≤99) :
  Calls Tryz.prog 28 #[.string s] w fun e w'=>∃ tv,e=.returned (.tuple #[.agg #[tv],.int .i64 (P.readA s.toList).2.1,.int .i64 (P.readA s.toList).2.2])∧(∃ a m c,tv=.slice a m c) ∧
   ((P.readA s.toList).2.1=0→∃ bt tc,tv=.slice (some ⟨bt,0,none⟩) (P.readA s.toList).1.length tc∧ThreadsAt w' w.heap.size tv (P.readA s.toList).1)∧Below w.heap.size w w':=by
 unfold P.readA
 rw[size_toList]
 by_cases h1:2000<s.size
 ·rw[if_pos h1]
  refine (readA_long s w h1).mono ?_
  rintro e w' ⟨rfl,hb⟩
  exact⟨_,rfl,⟨_,_,_,rfl⟩,fun h=>by simp at h,hb⟩
 rw[if_neg h1]
 cases h2:((P.linesA s.toList).2 != 0)
 rotate_left
 ·refine (readA_line s w (by omega) hfew h2).mono ?_
  rintro e w' ⟨rfl,hb⟩
  exact⟨_,rfl,⟨_,_,_,rfl⟩,fun h=>by simp at h,hb⟩
 simp only[Bool.false_eq_true,if_false]
 cases h4:(P.unevenIn (P.linesA s.toList).1 (P.linesA s.toList).1 != 0)
 rotate_left
 ·refine (readA_uneven s w (by omega) hfew h2 h4).mono ?_
  rintro e w' ⟨rfl,hb⟩
  exact⟨_,rfl,⟨_,_,_,rfl⟩,fun h=>by simp at h,hb⟩
 simp only[Bool.false_eq_true,if_false]
 cases h5:P.over (P.linesA s.toList).1
 rotate_left
 ·refine (readA_over s w (by omega) hfew h2 h4 h5).mono ?_
  rintro e w' ⟨rfl,hb⟩
  exact⟨_,rfl,⟨_,_,_,rfl⟩,fun h=>by simp at h,hb⟩
 cases h6:decide (50<P.evT (P.linesA s.toList).1)
 rotate_left
 ·refine (readA_events s w (by omega) hfew h2 h4 h5 h6).mono ?_
  rintro e w' ⟨rfl,hb⟩
  exact⟨_,rfl,⟨_,_,_,rfl⟩,fun h=>by simp at h,hb⟩
 refine (readA_ok s w (by omega) hfew h2 h4 h5 h6).mono ?_
 rintro e w' ⟨bt,tc,rfl,hth,hb⟩
 exact⟨_,rfl,⟨_,_,_,rfl⟩,fun _=>⟨bt,tc,rfl,hth⟩,hb⟩
namespace Q
def opB (a:P.Opd):Bool:=decide (0≤a.n)&&decide (a.n<4)
def thrB (t:P.Thr):Bool:=t.stmts.all (fun s=>opB s.a&&opB s.b)&&decide (t.stmts.length<900)&&decide (codes t.stmts<100000)
def runB (r:Run):Bool:=decide (r.regs.length=4)&&r.events.all fun e=>decide (e.hangs<M64)
def wdB (wd:Wd):Bool:=decide (0<wd.events.length)&&decide (wd.events.length≤64)&&wd.events.all (fun e=>decide (e.hangs<M64)&&(decide (0≤e.value)&&decide (e.value<4)))&&decide (wd.regs.length<100)&&wd.regs.all (fun x=>decide (0≤x)&&decide (x<4))&&decide ((digitRows (ordBases wd.events (fenceRows wd.events))).length<100000000)
def kerB (ts:List P.Thr):Bool:=decide (ts.length<20)&&ts.all thrB&&(runs ts).all (fun rs=>decide (rs.length<100000000)&&rs.all runB)&&(digitRows (lensR (runs ts))).all fun d=>wdB (worldAt (runs ts) d)
structure KerOk (ts:List P.Thr):Prop where
 few:ts.length<20
 thr:∀ t∈ts,(∀ s∈t.stmts,StOk s)∧t.stmts.length<900∧codes t.stmts<100000
 rb:∀ r∈runs ts,r.length<100000000
 rn:∀ rs∈runs ts,∀ r∈rs,r.regs.length=4∧∀ e∈r.events,e.hangs<M64
 wd:∀ d,DigOk (lensR (runs ts)) d→WdOk (worldAt (runs ts) d)
theorem wdB_ok {wd:Wd} (h:wdB wd=true):WdOk wd:=by
 unfold wdB at h
 simp only[Bool.and_eq_true,decide_eq_true_eq,List.all_eq_true] at h
 obtain⟨⟨⟨⟨⟨h1,h2⟩,h3⟩,h4⟩,h5⟩,h6⟩:=h
 exact⟨h1,h2,fun e he=>(h3 e he).1,h4,h5,fun e he=>(h3 e he).2,h6⟩
theorem kerB_ok {ts:List P.Thr} (h:kerB ts=true):KerOk ts:=by
 unfold kerB at h
 simp only[Bool.and_eq_true,decide_eq_true_eq,List.all_eq_true] at h
 obtain⟨⟨⟨h1,h2⟩,h3⟩,h4⟩:=h
 refine⟨h1,fun t ht=>?_,fun r hr=>(h3 r hr).1,fun rs hrs r hr=>?_,fun d hd=>wdB_ok (h4 d (digOk_mem hd))⟩
 ·have:=h2 t ht
  unfold thrB at this
  simp only[Bool.and_eq_true,decide_eq_true_eq,List.all_eq_true,opB] at this
  exact⟨fun s hs=>this.1.1 s hs,this.1.2,this.2⟩
 ·have:=(h3 rs hrs).2 r hr
  unfold runB at this
  simp only[Bool.and_eq_true,decide_eq_true_eq,List.all_eq_true] at this
  exact this
end Q
set_option maxHeartbeats 3200000 in
theorem target_ok (s:ByteArray) (w:World) (hfew:(P.splitAt 10 s.toList).length≤99) (h0:(P.readA s.toList).2.1=0) (hl0:(P.readA s.toList).2.2=0) (hk:Q.KerOk (P.readA s.toList).1) (hfin:(Q.target (P.readA s.toList).1).rows.length<100000000) :
  Calls Tryz.prog 20 #[.string s] w fun e w'=>∃ ov vs,e=.returned (.tuple #[ov,.bool (Q.target (P.readA s.toList).1).clash,.int .i64 0,.int .i64 0])∧RowsI w' 0 ov (Q.target (P.readA s.toList).1).rows vs∧Below w.heap.size w w':=by
 have HRD:=hide (readA_any s w hfew)
 unfold Hid at HRD
 rw[h0,hl0] at HRD
 have HRD2:=hide HRD
 clear HRD h0 hl0
 generalize (P.readA s.toList).1=ts at *
 have HK:=hide hk
 have HFIN:=hide hfin
 clear hk hfin hfew
 generalize hq:(Q.target ts).clash=qc
 have HQ:=hide hq
 clear hq
 go_enter Tryz.func20,Tryz.ntmps20
 go_wp2_with (first
  | (go_at_call 28;refine HRD2.out.mono ?_;rintro e w1 ⟨tv,rfl,_,hth,hb1⟩;obtain⟨bt,tc,rfl,hth⟩:=hth rfl;have HTH:=hide (hth.keep (w':=w1.alloc (.cells #[.slice (some ⟨bt,0,none⟩) ts.length tc] 48)) (fun k hk=>Below.heap_alloc _ _ _ hk));have B1:=hide (hb1.alloc hb1.size (.cells #[.slice (some ⟨bt,0,none⟩) ts.length tc] 48));clear hth hb1)
  | (go_at_call 29;refine (tgtOutcomes_any _ bt tc ts _ HTH.out HK.out.few HK.out.thr HK.out.rb HK.out.rn HK.out.wd HFIN.out).mono ?_;rw[HQ.out];rintro e w2 ⟨ov,vs,rfl,hri,hb2⟩;have RI2:=hide hri;have B2:=hide (bstep B1.out (Nat.le_refl _) hb2);clear hri hb2))
 refine bodyPost_ret (results_tmp4 rfl _ _ _) rfl ⟨ov,vs,rfl,RI2.out,B2.out⟩
namespace P
def rlxL:List UInt8:=[114,101,108,97,120,101,100,32,100,101,118,105,99,101,10]
def fAL:List UInt8:=[102,101,110,99,101,32,97,99,113,114,101,108,32,100,101,118,105,99,101,10]
def fSL:List UInt8:=[102,101,110,99,101,32,115,99,32,100,101,118,105,99,101,10]
def devL:List UInt8:=[100,101,118,105,99,101]
def fenceL:List UInt8:=[102,101,110,99,101]
def lk0:List UInt8:=passing rlxL fAL rlxL fAL
def lk1:List UInt8:=crossing fSL devL
def lk2:List UInt8:=[116,104,114,101,97,100,32,48,10,115,116,111,114,101,32,120,32,49,32]++rlxL++[115,116,111,114,101,32,121,32,49,32,114,101,108,101,97,115,101,32,100,101,118,105,99,101,10,116,104,114,101,97,100,32,49,10,114,48,32,61,32,108,111,97,100,32,121,32,97,99,113,117,105,114,101,32,100,101,118,105,99,101,10,114,49,32,61,32,108,111,97,100,32,120,32]++rlxL
def staleW:List Int:=[1,0,1,1,1,0]
def bothW:List Int:=[0,0,0,1,0,0]
def dropS (d:Nat) (p:Nat × List UInt8) (r:List UInt8):Nat × List UInt8:=if beginsB r fenceL then (if p.1==d then (p.1+1,p.2) else (p.1+1,p.2++r++[10])) else (p.1,p.2++r++[10])
def dropped (a:List UInt8) (d:Nat):Nat × List UInt8:=((splitAt 10 a).dropLast).foldl (dropS d) (0,[])
def tgtOk (l:List UInt8):Bool:=decide ((splitAt 10 l).length≤99)&&((readA l).2.1==0&&(readA l).2.2==0)&&Q.kerB (readA l).1
def wantB (rows:List (List Int)) (want:List Int):Bool:=decide (want.length<100)&&decide (want.length=3*(want.length / 3))&&decide (rows.length<100000000)&&rows.all fun r=>decide (r.length<1000)&&(List.range (want.length / 3)).all fun k=>decide (0≤want.getD (3*k) 0)&&decide (want.getD (3*k) 0<100)&&decide (0≤want.getD (3*k+1) 0)&&decide (want.getD (3*k+1) 0<100)&&decide (4*want.getD (3*k) 0+want.getD (3*k+1) 0<r.length)
theorem wantB_ok {rows:List (List Int)} {want:List Int} (h:wantB rows want=true):wantOk rows want∧rows.length<100000000:=by
 unfold wantB at h
 simp only[Bool.and_eq_true,decide_eq_true_eq,List.all_eq_true,List.mem_range] at h
 obtain⟨⟨⟨h1,h2⟩,h3⟩,h4⟩:=h
 refine⟨⟨h1,⟨_,h2⟩,fun r hr=>⟨(h4 r hr).1,fun k hk=>?_⟩⟩,h3⟩
 obtain⟨⟨⟨⟨a,b⟩,c⟩,d⟩,e⟩:=(h4 r hr).2 k (by omega)
 exact⟨a,b,c,d,e⟩
def cameB (rows:List (List Int)) (want:List Int) (may:Bool):Bool:=wantB rows want&&(comesB rows want==may)
def tgtB (l:List UInt8) (want:List Int) (may:Bool):Bool:=tgtOk l&&cameB (Q.target (readA l).1).rows want may
def fullB (s:List UInt8) (want:List Int):Bool:=((compileW s 1).2.1==0)&&decide ((compileW s 1).1.length≤5000)&&tgtB (compileW s 1).1 want false
def dropB (s:List UInt8) (want:List Int) (d:Nat):Bool:=decide ((dropped (compileW s 1).1 d).1=2)&&decide ((dropped (compileW s 1).1 d).2.length≤5000)&&tgtB (dropped (compileW s 1).1 d).2 want true
end P
end Go.Proofs.YtgceflcbckjjiaaGreatDoor
namespace Go.Proofs.YtgceflcbckjjiaaGreatDoor
set_option maxRecDepth 1000000
theorem left_Lv0f:P.fullB P.lk0 P.staleW=true:=by decide +kernel
theorem left_Lv00:P.dropB P.lk0 P.staleW 0=true:=by decide +kernel
theorem left_Lv01:P.dropB P.lk0 P.staleW 1=true:=by decide +kernel
theorem left_Lv1f:P.fullB P.lk1 P.bothW=true:=by decide +kernel
theorem left_Lv10:P.dropB P.lk1 P.bothW 0=true:=by decide +kernel
theorem left_Lv11:P.dropB P.lk1 P.bothW 1=true:=by decide +kernel
theorem left_Lv2f:P.fullB P.lk2 P.staleW=true:=by decide +kernel
theorem left_Lv20:P.dropB P.lk2 P.staleW 0=true:=by decide +kernel
theorem left_Lv21:P.dropB P.lk2 P.staleW 1=true:=by decide +kernel
end Go.Proofs.YtgceflcbckjjiaaGreatDoor
