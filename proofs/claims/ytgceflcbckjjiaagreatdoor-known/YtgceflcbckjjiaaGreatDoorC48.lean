import Derived.Test.YtgceflcbckjjiaaGreatDoorC47
set_option linter.unusedVariables false
set_option linter.unusedSimpArgs false
set_option maxHeartbeats 12800000
namespace Go.Proofs.YtgceflcbckjjiaaGreatDoor
open Go Go.RowKit
set_option maxRecDepth 100000
theorem zIE (s:ByteArray) (w:World) (h:s.size≤2000) (hfew:(P.zOd 10 s.toList).length≤99) (hl:((P.zNZ s.toList).2 != 0)=true) :
  Calls Tryz.prog 28 #[.string s] w fun e w'=>e=.returned (.tuple #[.agg #[.slice none 0 0],.int .i64 2,.int .i64 (P.zNZ s.toList).2])∧Below w.heap.size w w':=by
 have h':¬ (2000:Int)<(s.size:Int):=by omega
 have hs:s.size≤8192:=by omega
 go_enter Tryz.func28,Tryz.ntmps28
 go_wp2_with (first | (go_at_call 46;refine (zCJ s _ hs hfew).mono ?_;rintro e w1 ⟨tv,rfl,hth,hb1⟩;obtain⟨ta,tc,rfl,hta⟩:=hth.form;have hsz1:w.heap.size+1≤w1.heap.size:=(by have:=hb1.size;simp at this;omega);have hres:w1.heap[w.heap.size]?=some (.cells #[.slice none 0 0] 48 (0,0)):=(by rw[hb1.block _ (by simp)];exact heap_alloc_new w _);obtain⟨z0,z1,z2⟩:=zAz hres;have HRES:=zAa hres;have HTH:=zAa hth;have HB1:Hid (Below w.heap.size w w1):=((Below.refl _ _).alloc (Nat.le_refl _) _).trans (hb1.mono (by simp));clear hres hth hb1))
 refine zBq (p:=2) (u:=3) (v:=4) w.heap.size (.slice none 0 0) _ _ (by kernel_rfl) rfl rfl rfl ?_ rfl ⟨rfl,?_⟩
 ·rw[Below.heap_alloc _ _ _ (by simp;omega)]
  exact zAe HRES.out 0 _
 ·exact (HB1.out.setCell (Nat.le_refl _) _).alloc (by simp;omega) _
theorem zDX {fn:Func} {p q u v:Tmp} (h:fn.results=#[.tmp p,.tmp q,.tmp u,.tmp v]) (tmps:Array Value) (Pg:Program) (w:World) :
  (results fn tmps).run Pg w=.ok (.tuple #[tmps.getD p undef,tmps.getD q undef,tmps.getD u undef,tmps.getD v undef]) w:=by
 simp only[results,h]
 simp[Sem.run_bind,Result.andThen]
namespace P
theorem goodA_run (xs:List (List UInt8)):∀ (k:Nat) (r:Rd),GoodA k r→r.line=k→GoodA (k+xs.length) (runA r xs).1∧r.line≤(runA r xs).1.line∧((runA r xs).2=false→r.line<(runA r xs).1.line):=by
 induction xs with
 | nil=>intro k r h _;exact⟨h,by simp[runA],by simp[runA]⟩
 | cons x r ih =>
  intro k q h hq
  have h1:=goodA_take x h hq
  have hl:(takeA { q with line:=q.line+1 } x).1.line=q.line+1:=(zQm { q with line:=q.line+1 } x).1
  simp only[runA]
  cases ht:(takeA { q with line:=q.line+1 } x).2
  ·refine⟨?_,?_,?_⟩
   ·have g:=h1.good
    refine⟨⟨g.few,fun t ht=>?_,g.opn,g.ifs0,?_,g.cnt,g.lin0,?_⟩,h1.opn,?_⟩
    ·have:=g.stm t ht;simp;omega
    ·have:=g.ifs1;simp at *;omega
    ·have:=g.lin1;simp at *;omega
    ·have:=h1.cn;simp at *;omega
   ·simp[hl];omega
   ·simp[hl];omega
  ·obtain⟨a1,a2,a3⟩:=ih (k+1) _ h1 (by rw[hl,hq];simp)
   simp only[if_true]
   refine⟨?_,?_,?_⟩
   ·rw[show k+(x::r).length=k+1+r.length by simp;omega];exact a1
   ·rw[hl] at a2;omega
   ·intro hf
    have:=a3 hf
    rw[hl] at this;omega
theorem zPG (l:List UInt8) (h:(zNZ l).2=0):(zNZ l).1≠[]∧(zNZ l).1.length≤4∧∀ t∈(zNZ l).1,t.stmts.length≤l.length:=by
 have hl:=zPr 10 l
 obtain⟨g1,g2,g3⟩:=goodA_run (zOd 10 l).dropLast 0 Rd.zeroA goodA_zero rfl
 have hd:(zOd 10 l).dropLast.length≤l.length:=by rw[List.length_dropLast];omega
 unfold zNZ at h ⊢
 simp only[] at h ⊢
 cases hq:(runA Rd.zeroA (zOd 10 l).dropLast).2
 ·have:=g3 hq
  have z:Rd.zeroA.line=0:=rfl
  simp[hq] at h
  omega
 ·simp only[hq,if_true] at h ⊢
  split at h
  ·have z:Rd.zeroA.line=0:=rfl
   simp at h;omega
  ·rename_i hno
   rw[if_neg hno]
   refine⟨fun e=>hno (Or.inr (Or.inr e)),g1.good.few,fun t ht=>?_⟩
   have:=g1.good.stm t ht
   omega
def readA (l:List UInt8):List Thr × Int × Int :=
 if 2000<l.length then ([],1,0)
 else if (zNZ l).2 != 0 then ([],2,(zNZ l).2)
 else if zOm (zNZ l).1 (zNZ l).1 != 0 then ([],3,zOm (zNZ l).1 (zNZ l).1)
 else if over (zNZ l).1||decide (50<evT (zNZ l).1) then ([],4,0)
 else ((zNZ l).1,0,0)
end P
theorem zIF (s:ByteArray) (w:World) (h:2000<s.size) :
  Calls Tryz.prog 28 #[.string s] w fun e w'=>e=.returned (.tuple #[.agg #[.slice none 0 0],.int .i64 1,.int .i64 0])∧Below w.heap.size w w':=by
 have h':(2000:Int)<(s.size:Int):=by omega
 go_enter Tryz.func28,Tryz.ntmps28
 go_wp2
 refine zBq (p:=2) (u:=3) (v:=4) w.heap.size (.slice none 0 0) _ _ (by kernel_rfl) rfl rfl rfl (by exact heap_alloc_new w _) rfl ⟨rfl,?_⟩
 exact (Below.refl _ _).alloc (Nat.le_refl _) _
theorem zGH (s:ByteArray) (w:World) (h:s.size≤2000) (hfew:(P.zOd 10 s.toList).length≤99) (hl:((P.zNZ s.toList).2 != 0)=false) (hu:(P.zOm (P.zNZ s.toList).1 (P.zNZ s.toList).1 != 0)=true) :
  Calls Tryz.prog 28 #[.string s] w fun e w'=>e=.returned (.tuple #[.agg #[.slice none 0 0],.int .i64 3,.int .i64 (P.zOm (P.zNZ s.toList).1 (P.zNZ s.toList).1)])∧Below w.heap.size w w':=by
 have h':¬ (2000:Int)<(s.size:Int):=by omega
 have hs:s.size≤8192:=by omega
 have hl0:(P.zNZ s.toList).2=0:=by simpa using hl
 obtain⟨hne,h4,hst'⟩:=P.zPG s.toList hl0
 have hst:∀ t∈(P.zNZ s.toList).1,t.stmts.length<10000:=fun t ht=>by have:=hst' t ht;rw[zAr] at this;omega
 clear hl0 hst'
 go_enter Tryz.func28,Tryz.ntmps28
 go_wp2_with (first | (go_at_call 46;refine (zCJ s _ hs hfew).mono ?_;rintro e w1 ⟨tv,rfl,hth,hb1⟩;obtain⟨ta,tc,rfl,hta⟩:=hth.form;have hsz1:w.heap.size+1≤w1.heap.size:=(by have:=hb1.size;simp at this;omega);have hres:w1.heap[w.heap.size]?=some (.cells #[.slice none 0 0] 48 (0,0)):=(by rw[hb1.block _ (by simp)];exact heap_alloc_new w _);obtain⟨z0,z1,z2⟩:=zAz hres;have HRES:=zAa hres;have HTH:=zAa hth;have HB1:Hid (Below w.heap.size w w1):=((Below.refl _ _).alloc (Nat.le_refl _) _).trans (hb1.mono (by simp));obtain⟨bt,rfl⟩:=hta hne;have TK:Hid (∀ w':World,Below (w1.alloc (.cells #[(.slice (some ⟨bt,0,none⟩) (P.zNZ s.toList).1.length tc)] 48)).heap.size (w1.alloc (.cells #[(.slice (some ⟨bt,0,none⟩) (P.zNZ s.toList).1.length tc)] 48)) w'→zAn w' (w.heap.size+1) (.slice (some ⟨bt,0,none⟩) (P.zNZ s.toList).1.length tc) (P.zNZ s.toList).1∧Below w.heap.size w w'∧w'.heap[w.heap.size]?=some (.cells #[.slice none 0 0] 48 (0,0))∧w'.heap[w1.heap.size]?=some (.cells #[(.slice (some ⟨bt,0,none⟩) (P.zNZ s.toList).1.length tc)] 48 (0,0))∧w1.heap.size<w'.heap.size):=(fun w' hb'=>zBu HTH.out HB1.out HRES.out hb');clear hres hth hb1) | (go_at_call 32;refine (zBR (w.heap.size+1) bt _ tc (P.zNZ s.toList).1 _ (by exact (TK.out _ (Below.refl _ _)).1) rfl (by omega) hst).mono ?_;rintro e w2 ⟨rfl,hb2⟩;obtain⟨t2,v2,r2,q2,l2⟩:=TK.out w2 hb2;obtain⟨y0,y1,y2⟩:=zAz r2;obtain⟨x0,x1,x2⟩:=zAz q2;have T2:=zAa t2;have R2:=zAa r2;clear t2 r2 q2))
 refine zBq (p:=2) (u:=3) (v:=4) w.heap.size (.slice none 0 0) _ _ (by kernel_rfl) rfl rfl rfl (by exact zAe R2.out 0 _) rfl ⟨rfl,v2.setCell (Nat.le_refl _) _⟩
theorem zIG (s:ByteArray) (w:World) (h:s.size≤2000) (hfew:(P.zOd 10 s.toList).length≤99) (hl:((P.zNZ s.toList).2 != 0)=false) (hu:(P.zOm (P.zNZ s.toList).1 (P.zNZ s.toList).1 != 0)=false) (ho:P.over (P.zNZ s.toList).1=true) :
  Calls Tryz.prog 28 #[.string s] w fun e w'=>e=.returned (.tuple #[.agg #[.slice none 0 0],.int .i64 4,.int .i64 0])∧Below w.heap.size w w':=by
 have h':¬ (2000:Int)<(s.size:Int):=by omega
 have hs:s.size≤8192:=by omega
 have hl0:(P.zNZ s.toList).2=0:=by simpa using hl
 obtain⟨hne,h4,hst'⟩:=P.zPG s.toList hl0
 have hst:∀ t∈(P.zNZ s.toList).1,t.stmts.length<10000:=fun t ht=>by have:=hst' t ht;rw[zAr] at this;omega
 clear hl0 hst'
 go_enter Tryz.func28,Tryz.ntmps28
 go_wp2_with (first | (go_at_call 46;refine (zCJ s _ hs hfew).mono ?_;rintro e w1 ⟨tv,rfl,hth,hb1⟩;obtain⟨ta,tc,rfl,hta⟩:=hth.form;have hsz1:w.heap.size+1≤w1.heap.size:=(by have:=hb1.size;simp at this;omega);have hres:w1.heap[w.heap.size]?=some (.cells #[.slice none 0 0] 48 (0,0)):=(by rw[hb1.block _ (by simp)];exact heap_alloc_new w _);obtain⟨z0,z1,z2⟩:=zAz hres;have HRES:=zAa hres;have HTH:=zAa hth;have HB1:Hid (Below w.heap.size w w1):=((Below.refl _ _).alloc (Nat.le_refl _) _).trans (hb1.mono (by simp));obtain⟨bt,rfl⟩:=hta hne;have TK:Hid (∀ w':World,Below (w1.alloc (.cells #[(.slice (some ⟨bt,0,none⟩) (P.zNZ s.toList).1.length tc)] 48)).heap.size (w1.alloc (.cells #[(.slice (some ⟨bt,0,none⟩) (P.zNZ s.toList).1.length tc)] 48)) w'→zAn w' (w.heap.size+1) (.slice (some ⟨bt,0,none⟩) (P.zNZ s.toList).1.length tc) (P.zNZ s.toList).1∧Below w.heap.size w w'∧w'.heap[w.heap.size]?=some (.cells #[.slice none 0 0] 48 (0,0))∧w'.heap[w1.heap.size]?=some (.cells #[(.slice (some ⟨bt,0,none⟩) (P.zNZ s.toList).1.length tc)] 48 (0,0))∧w1.heap.size<w'.heap.size):=(fun w' hb'=>zBu HTH.out HB1.out HRES.out hb');clear hres hth hb1) | (go_at_call 32;refine (zBR (w.heap.size+1) bt _ tc (P.zNZ s.toList).1 _ (by exact (TK.out _ (Below.refl _ _)).1) rfl (by omega) hst).mono ?_;rintro e w2 ⟨rfl,hb2⟩;obtain⟨t2,v2,r2,q2,l2⟩:=TK.out w2 hb2;obtain⟨y0,y1,y2⟩:=zAz r2;obtain⟨x0,x1,x2⟩:=zAz q2;have T2:=zAa t2;have R2:=zAa r2;clear t2 r2 q2) | (go_at_call 33;refine (zDq (w.heap.size+1) bt _ tc (P.zNZ s.toList).1 _ (by exact T2.out) rfl (by omega) hst).mono ?_;rintro e w3 ⟨rfl,hb3⟩;(try rw[ho]);obtain⟨t3,v3,r3,q3,l3⟩:=TK.out w3 (hb2.trans (hb3.mono hb2.size));obtain⟨y0,y1,y2⟩:=zAz r3;obtain⟨x0,x1,x2⟩:=zAz q3;have T3:=zAa t3;have R3:=zAa r3;clear t3 r3 q3))
 refine zBq (p:=2) (u:=3) (v:=4) w.heap.size (.slice none 0 0) _ _ (by kernel_rfl) rfl rfl rfl (by exact zAe R3.out 0 _) rfl ⟨rfl,v3.setCell (Nat.le_refl _) _⟩
theorem zGI (s:ByteArray) (w:World) (h:s.size≤2000) (hfew:(P.zOd 10 s.toList).length≤99) (hl:((P.zNZ s.toList).2 != 0)=false) (hu:(P.zOm (P.zNZ s.toList).1 (P.zNZ s.toList).1 != 0)=false) (ho:P.over (P.zNZ s.toList).1=false) (hev:decide (50<P.evT (P.zNZ s.toList).1)=true) :
  Calls Tryz.prog 28 #[.string s] w fun e w'=>e=.returned (.tuple #[.agg #[.slice none 0 0],.int .i64 4,.int .i64 0])∧Below w.heap.size w w':=by
 have h':¬ (2000:Int)<(s.size:Int):=by omega
 have hs:s.size≤8192:=by omega
 have hl0:(P.zNZ s.toList).2=0:=by simpa using hl
 obtain⟨hne,h4,hst'⟩:=P.zPG s.toList hl0
 have hst:∀ t∈(P.zNZ s.toList).1,t.stmts.length<10000:=fun t ht=>by have:=hst' t ht;rw[zAr] at this;omega
 clear hl0 hst'
 go_enter Tryz.func28,Tryz.ntmps28
 go_wp2_with (first | (go_at_call 46;refine (zCJ s _ hs hfew).mono ?_;rintro e w1 ⟨tv,rfl,hth,hb1⟩;obtain⟨ta,tc,rfl,hta⟩:=hth.form;have hsz1:w.heap.size+1≤w1.heap.size:=(by have:=hb1.size;simp at this;omega);have hres:w1.heap[w.heap.size]?=some (.cells #[.slice none 0 0] 48 (0,0)):=(by rw[hb1.block _ (by simp)];exact heap_alloc_new w _);obtain⟨z0,z1,z2⟩:=zAz hres;have HRES:=zAa hres;have HTH:=zAa hth;have HB1:Hid (Below w.heap.size w w1):=((Below.refl _ _).alloc (Nat.le_refl _) _).trans (hb1.mono (by simp));obtain⟨bt,rfl⟩:=hta hne;have TK:Hid (∀ w':World,Below (w1.alloc (.cells #[(.slice (some ⟨bt,0,none⟩) (P.zNZ s.toList).1.length tc)] 48)).heap.size (w1.alloc (.cells #[(.slice (some ⟨bt,0,none⟩) (P.zNZ s.toList).1.length tc)] 48)) w'→zAn w' (w.heap.size+1) (.slice (some ⟨bt,0,none⟩) (P.zNZ s.toList).1.length tc) (P.zNZ s.toList).1∧Below w.heap.size w w'∧w'.heap[w.heap.size]?=some (.cells #[.slice none 0 0] 48 (0,0))∧w'.heap[w1.heap.size]?=some (.cells #[(.slice (some ⟨bt,0,none⟩) (P.zNZ s.toList).1.length tc)] 48 (0,0))∧w1.heap.size<w'.heap.size):=(fun w' hb'=>zBu HTH.out HB1.out HRES.out hb');clear hres hth hb1) | (go_at_call 32;refine (zBR (w.heap.size+1) bt _ tc (P.zNZ s.toList).1 _ (by exact (TK.out _ (Below.refl _ _)).1) rfl (by omega) hst).mono ?_;rintro e w2 ⟨rfl,hb2⟩;obtain⟨t2,v2,r2,q2,l2⟩:=TK.out w2 hb2;obtain⟨y0,y1,y2⟩:=zAz r2;obtain⟨x0,x1,x2⟩:=zAz q2;have T2:=zAa t2;have R2:=zAa r2;clear t2 r2 q2) | (go_at_call 33;refine (zDq (w.heap.size+1) bt _ tc (P.zNZ s.toList).1 _ (by exact T2.out) rfl (by omega) hst).mono ?_;rintro e w3 ⟨rfl,hb3⟩;(try rw[ho]);obtain⟨t3,v3,r3,q3,l3⟩:=TK.out w3 (hb2.trans (hb3.mono hb2.size));obtain⟨y0,y1,y2⟩:=zAz r3;obtain⟨x0,x1,x2⟩:=zAz q3;have T3:=zAa t3;have R3:=zAa r3;clear t3 r3 q3) | (go_at_call 47;refine (zFg (w.heap.size+1) bt _ tc (P.zNZ s.toList).1 _ (by exact T3.out) rfl (by omega) hst).mono ?_;rintro e w4 ⟨rfl,hb4⟩;(try rw[hev]);obtain⟨t4,v4,r4,q4,l4⟩:=TK.out w4 ((hb2.trans (hb3.mono hb2.size)).trans (hb4.mono (hb2.trans (hb3.mono hb2.size)).size));obtain⟨y0,y1,y2⟩:=zAz r4;obtain⟨x0,x1,x2⟩:=zAz q4;have T4:=zAa t4;have R4:=zAa r4;clear t4 r4 q4))
 refine zBq (p:=2) (u:=3) (v:=4) w.heap.size (.slice none 0 0) _ _ (by kernel_rfl) rfl rfl rfl (by exact zAe R4.out 0 _) rfl ⟨rfl,v4.setCell (Nat.le_refl _) _⟩
theorem zKt (s:ByteArray) (w:World) (h:s.size≤2000) (hfew:(P.zOd 10 s.toList).length≤99) (hl:((P.zNZ s.toList).2 != 0)=false) (hu:(P.zOm (P.zNZ s.toList).1 (P.zNZ s.toList).1 != 0)=false) (ho:P.over (P.zNZ s.toList).1=false) (hev:decide (50<P.evT (P.zNZ s.toList).1)=false) :
  Calls Tryz.prog 28 #[.string s] w fun e w'=>∃ bt tc,e=.returned (.tuple #[.agg #[(.slice (some ⟨bt,0,none⟩) (P.zNZ s.toList).1.length tc)],.int .i64 0,.int .i64 0])∧zAn w' w.heap.size (.slice (some ⟨bt,0,none⟩) (P.zNZ s.toList).1.length tc) (P.zNZ s.toList).1∧Below w.heap.size w w':=by
 have h':¬ (2000:Int)<(s.size:Int):=by omega
 have hs:s.size≤8192:=by omega
 have hl0:(P.zNZ s.toList).2=0:=by simpa using hl
 obtain⟨hne,h4,hst'⟩:=P.zPG s.toList hl0
 have hst:∀ t∈(P.zNZ s.toList).1,t.stmts.length<10000:=fun t ht=>by have:=hst' t ht;rw[zAr] at this;omega
 clear hl0 hst'
 go_enter Tryz.func28,Tryz.ntmps28
 go_wp2_with (first | (go_at_call 46;refine (zCJ s _ hs hfew).mono ?_;rintro e w1 ⟨tv,rfl,hth,hb1⟩;obtain⟨ta,tc,rfl,hta⟩:=hth.form;have hsz1:w.heap.size+1≤w1.heap.size:=(by have:=hb1.size;simp at this;omega);have hres:w1.heap[w.heap.size]?=some (.cells #[.slice none 0 0] 48 (0,0)):=(by rw[hb1.block _ (by simp)];exact heap_alloc_new w _);obtain⟨z0,z1,z2⟩:=zAz hres;have HRES:=zAa hres;have HTH:=zAa hth;have HB1:Hid (Below w.heap.size w w1):=((Below.refl _ _).alloc (Nat.le_refl _) _).trans (hb1.mono (by simp));obtain⟨bt,rfl⟩:=hta hne;have TK:Hid (∀ w':World,Below (w1.alloc (.cells #[(.slice (some ⟨bt,0,none⟩) (P.zNZ s.toList).1.length tc)] 48)).heap.size (w1.alloc (.cells #[(.slice (some ⟨bt,0,none⟩) (P.zNZ s.toList).1.length tc)] 48)) w'→zAn w' (w.heap.size+1) (.slice (some ⟨bt,0,none⟩) (P.zNZ s.toList).1.length tc) (P.zNZ s.toList).1∧Below w.heap.size w w'∧w'.heap[w.heap.size]?=some (.cells #[.slice none 0 0] 48 (0,0))∧w'.heap[w1.heap.size]?=some (.cells #[(.slice (some ⟨bt,0,none⟩) (P.zNZ s.toList).1.length tc)] 48 (0,0))∧w1.heap.size<w'.heap.size):=(fun w' hb'=>zBu HTH.out HB1.out HRES.out hb');clear hres hth hb1) | (go_at_call 32;refine (zBR (w.heap.size+1) bt _ tc (P.zNZ s.toList).1 _ (by exact (TK.out _ (Below.refl _ _)).1) rfl (by omega) hst).mono ?_;rintro e w2 ⟨rfl,hb2⟩;obtain⟨t2,v2,r2,q2,l2⟩:=TK.out w2 hb2;obtain⟨y0,y1,y2⟩:=zAz r2;obtain⟨x0,x1,x2⟩:=zAz q2;have T2:=zAa t2;have R2:=zAa r2;clear t2 r2 q2) | (go_at_call 33;refine (zDq (w.heap.size+1) bt _ tc (P.zNZ s.toList).1 _ (by exact T2.out) rfl (by omega) hst).mono ?_;rintro e w3 ⟨rfl,hb3⟩;(try rw[ho]);obtain⟨t3,v3,r3,q3,l3⟩:=TK.out w3 (hb2.trans (hb3.mono hb2.size));obtain⟨y0,y1,y2⟩:=zAz r3;obtain⟨x0,x1,x2⟩:=zAz q3;have T3:=zAa t3;have R3:=zAa r3;clear t3 r3 q3) | (go_at_call 47;refine (zFg (w.heap.size+1) bt _ tc (P.zNZ s.toList).1 _ (by exact T3.out) rfl (by omega) hst).mono ?_;rintro e w4 ⟨rfl,hb4⟩;(try rw[hev]);obtain⟨t4,v4,r4,q4,l4⟩:=TK.out w4 ((hb2.trans (hb3.mono hb2.size)).trans (hb4.mono (hb2.trans (hb3.mono hb2.size)).size));obtain⟨y0,y1,y2⟩:=zAz r4;obtain⟨x0,x1,x2⟩:=zAz q4;have T4:=zAa t4;have R4:=zAa r4;clear t4 r4 q4))
 refine zBq (p:=2) (u:=3) (v:=4) w.heap.size _ _ _ (by kernel_rfl) rfl rfl rfl (by exact zAe R4.out 0 _) rfl ⟨_,_,rfl,T4.out.set _,v4.setCell (Nat.le_refl _) _⟩
theorem zJF (s:ByteArray) (w:World) (hfew:(P.zOd 10 s.toList).length≤99) :
  Calls Tryz.prog 28 #[.string s] w fun e w'=>∃ tv,e=.returned (.tuple #[.agg #[tv],.int .i64 (P.readA s.toList).2.1,.int .i64 (P.readA s.toList).2.2])∧(∃ a m c,tv=.slice a m c) ∧
   ((P.readA s.toList).2.1=0→∃ bt tc,tv=.slice (some ⟨bt,0,none⟩) (P.readA s.toList).1.length tc∧zAn w' w.heap.size tv (P.readA s.toList).1)∧Below w.heap.size w w':=by
 unfold P.readA
 rw[zAr]
 by_cases h1:2000<s.size
 ·rw[if_pos h1]
  refine (zIF s w h1).mono ?_
  rintro e w' ⟨rfl,hb⟩
  exact⟨_,rfl,⟨_,_,_,rfl⟩,fun h=>by simp at h,hb⟩
 rw[if_neg h1]
 cases h2:((P.zNZ s.toList).2 != 0)
 rotate_left
 ·refine (zIE s w (by omega) hfew h2).mono ?_
  rintro e w' ⟨rfl,hb⟩
  exact⟨_,rfl,⟨_,_,_,rfl⟩,fun h=>by simp at h,hb⟩
 simp only[Bool.false_eq_true,if_false]
 cases h4:(P.zOm (P.zNZ s.toList).1 (P.zNZ s.toList).1 != 0)
 rotate_left
 ·refine (zGH s w (by omega) hfew h2 h4).mono ?_
  rintro e w' ⟨rfl,hb⟩
  exact⟨_,rfl,⟨_,_,_,rfl⟩,fun h=>by simp at h,hb⟩
 simp only[Bool.false_eq_true,if_false]
 cases h5:P.over (P.zNZ s.toList).1
 rotate_left
 ·refine (zIG s w (by omega) hfew h2 h4 h5).mono ?_
  rintro e w' ⟨rfl,hb⟩
  exact⟨_,rfl,⟨_,_,_,rfl⟩,fun h=>by simp at h,hb⟩
 cases h6:decide (50<P.evT (P.zNZ s.toList).1)
 rotate_left
 ·refine (zGI s w (by omega) hfew h2 h4 h5 h6).mono ?_
  rintro e w' ⟨rfl,hb⟩
  exact⟨_,rfl,⟨_,_,_,rfl⟩,fun h=>by simp at h,hb⟩
 refine (zKt s w (by omega) hfew h2 h4 h5 h6).mono ?_
 rintro e w' ⟨bt,tc,rfl,hth,hb⟩
 exact⟨_,rfl,⟨_,_,_,rfl⟩,fun _=>⟨bt,tc,rfl,hth⟩,hb⟩
namespace Q
def opB (a:P.Opd):Bool:=decide (0≤a.n)&&decide (a.n<4)
def thrB (t:P.Thr):Bool:=t.stmts.all (fun s=>opB s.a&&opB s.b)&&decide (t.stmts.length<900)&&decide (codes t.stmts<100000)
def runB (r:Run):Bool:=decide (r.regs.length=4)&&r.events.all fun e=>decide (e.hangs<M64)
def wdB (wd:Wd):Bool:=decide (0<wd.events.length)&&decide (wd.events.length≤64)&&wd.events.all (fun e=>decide (e.hangs<M64)&&(decide (0≤e.value)&&decide (e.value<4)))&&decide (wd.regs.length<100)&&wd.regs.all (fun x=>decide (0≤x)&&decide (x<4))&&decide ((zOi (zNU wd.events (zNV wd.events))).length<100000000)
def kerB (ts:List P.Thr):Bool:=decide (ts.length<20)&&ts.all thrB&&(runs ts).all (fun rs=>decide (rs.length<100000000)&&rs.all runB)&&(zOi (zBO (runs ts))).all fun d=>wdB (zNX (runs ts) d)
structure KerOk (ts:List P.Thr):Prop where
 few:ts.length<20
 thr:∀ t∈ts,(∀ s∈t.stmts,StOk s)∧t.stmts.length<900∧codes t.stmts<100000
 rb:∀ r∈runs ts,r.length<100000000
 rn:∀ rs∈runs ts,∀ r∈rs,r.regs.length=4∧∀ e∈r.events,e.hangs<M64
 wd:∀ d,DigOk (zBO (runs ts)) d→WdOk (zNX (runs ts) d)
theorem wdB_ok {wd:Wd} (h:wdB wd=true):WdOk wd:=by
 unfold wdB at h
 simp only[Bool.and_eq_true,decide_eq_true_eq,List.all_eq_true] at h
 obtain⟨⟨⟨⟨⟨h1,h2⟩,h3⟩,h4⟩,h5⟩,h6⟩:=h
 exact⟨h1,h2,fun e he=>(h3 e he).1,h4,h5,fun e he=>(h3 e he).2,h6⟩
theorem zQt {ts:List P.Thr} (h:kerB ts=true):KerOk ts:=by
 unfold kerB at h
 simp only[Bool.and_eq_true,decide_eq_true_eq,List.all_eq_true] at h
 obtain⟨⟨⟨h1,h2⟩,h3⟩,h4⟩:=h
 refine⟨h1,fun t ht=>?_,fun r hr=>(h3 r hr).1,fun rs hrs r hr=>?_,fun d hd=>wdB_ok (h4 d (digOk_mem hd))⟩
 ·have:=h2 t ht
  unfold thrB at this
  simp only[Bool.and_eq_true,decide_eq_true_eq,List.all_eq_true,opB] at this
  exact⟨fun s hs=>this.1.1 s hs,this.1.2,this.2⟩
 ·have:=(h3 rs hrs).2 r hr
  unfold runB at this
  simp only[Bool.and_eq_true,decide_eq_true_eq,List.all_eq_true] at this
  exact this
end Q
theorem zJG (s:ByteArray) (w:World) (hfew:(P.zOd 10 s.toList).length≤99) (h0:(P.readA s.toList).2.1=0) (hl0:(P.readA s.toList).2.2=0) (hk:Q.KerOk (P.readA s.toList).1) (hfin:(Q.target (P.readA s.toList).1).rows.length<100000000) :
  Calls Tryz.prog 20 #[.string s] w fun e w'=>∃ ov vs,e=.returned (.tuple #[ov,.bool (Q.target (P.readA s.toList).1).clash,.int .i64 0,.int .i64 0])∧RowsI w' 0 ov (Q.target (P.readA s.toList).1).rows vs∧Below w.heap.size w w':=by
 have HRD:=zAa (zJF s w hfew)
 unfold Hid at HRD
 rw[h0,hl0] at HRD
 have HRD2:=zAa HRD
 clear HRD h0 hl0
 generalize (P.readA s.toList).1=ts at *
 have HK:=zAa hk
 have HFIN:=zAa hfin
 clear hk hfin hfew
 generalize hq:(Q.target ts).clash=qc
 have HQ:=zAa hq
 clear hq
 go_enter Tryz.func20,Tryz.ntmps20
 go_wp2_with (first
  | (go_at_call 28;refine HRD2.out.mono ?_;rintro e w1 ⟨tv,rfl,_,hth,hb1⟩;obtain⟨bt,tc,rfl,hth⟩:=hth rfl;have HTH:=zAa (hth.keep (w':=w1.alloc (.cells #[.slice (some ⟨bt,0,none⟩) ts.length tc] 48)) (fun k hk=>Below.heap_alloc _ _ _ hk));have B1:=zAa (hb1.alloc hb1.size (.cells #[.slice (some ⟨bt,0,none⟩) ts.length tc] 48));clear hth hb1)
  | (go_at_call 29;refine (zEE _ bt tc ts _ HTH.out HK.out.few HK.out.thr HK.out.rb HK.out.rn HK.out.wd HFIN.out).mono ?_;rw[HQ.out];rintro e w2 ⟨ov,vs,rfl,hri,hb2⟩;have RI2:=zAa hri;have B2:=zAa (zAm B1.out (Nat.le_refl _) hb2);clear hri hb2))
 refine bodyPost_ret (zDX rfl _ _ _) rfl ⟨ov,vs,rfl,RI2.out,B2.out⟩
theorem zJH (s:ByteArray) (w:World) (hs:s.size≤8192) (h0:(P.kernel s.toList).2.1=0) (hl0:(P.kernel s.toList).2.2=0) (hk:Q.KerOk (P.kernel s.toList).1) (hfin:(Q.zOS (P.kernel s.toList).1).rows.length<100000000) :
  Calls Tryz.prog 14 #[.string s] w fun e w'=>∃ ov vs,e=.returned (.tuple #[ov,.bool (Q.zOS (P.kernel s.toList).1).clash,.int .i64 0,.int .i64 0])∧RowsI w' 0 ov (Q.zOS (P.kernel s.toList).1).rows vs∧Below w.heap.size w w':=by
 have HRD:=zAa (zCd s w hs)
 unfold Hid at HRD
 rw[h0,hl0] at HRD
 have HRD2:=zAa HRD
 clear HRD h0 hl0
 generalize (P.kernel s.toList).1=ts at *
 have HK:=zAa hk
 have HFIN:=zAa hfin
 clear hk hfin hs
 generalize hq:(Q.zOS ts).clash=qc
 have HQ:=zAa hq
 clear hq
 go_enter Tryz.func14,Tryz.ntmps14
 go_wp2_with (first
  | (go_at_call 23;refine HRD2.out.mono ?_;rintro e w1 ⟨tv,rfl,_,hth,hb1⟩;obtain⟨bt,tc,rfl,hth,_⟩:=hth rfl;have HTH:=zAa (hth.keep (w':=w1.alloc (.cells #[.slice (some ⟨bt,0,none⟩) ts.length tc] 48)) (fun k hk=>Below.heap_alloc _ _ _ hk));have B1:=zAa (hb1.alloc hb1.size (.cells #[.slice (some ⟨bt,0,none⟩) ts.length tc] 48));clear hth hb1)
  | (go_at_call 24;refine (zEC _ bt tc ts _ HTH.out HK.out.few HK.out.thr HK.out.rb HK.out.rn HK.out.wd HFIN.out).mono ?_;rw[HQ.out];rintro e w2 ⟨ov,vs,rfl,hri,hb2⟩;have RI2:=zAa hri;have B2:=zAa (zAm B1.out (Nat.le_refl _) hb2);clear hri hb2))
 refine bodyPost_ret (zDX rfl _ _ _) rfl ⟨ov,vs,rfl,RI2.out,B2.out⟩
namespace P
def tgtOk (l:List UInt8):Bool:=decide ((zOd 10 l).length≤99)&&((readA l).2.1==0&&(readA l).2.2==0)&&Q.kerB (readA l).1
def wantB (rows:List (List Int)) (want:List Int):Bool:=decide (want.length<100)&&decide (want.length=3*(want.length / 3))&&decide (rows.length<100000000)&&rows.all fun r=>decide (r.length<1000)&&(List.range (want.length / 3)).all fun k=>decide (0≤want.getD (3*k) 0)&&decide (want.getD (3*k) 0<100)&&decide (0≤want.getD (3*k+1) 0)&&decide (want.getD (3*k+1) 0<100)&&decide (4*want.getD (3*k) 0+want.getD (3*k+1) 0<r.length)
theorem wantB_ok {rows:List (List Int)} {want:List Int} (h:wantB rows want=true):zQU rows want∧rows.length<100000000:=by
 unfold wantB at h
 simp only[Bool.and_eq_true,decide_eq_true_eq,List.all_eq_true,List.mem_range] at h
 obtain⟨⟨⟨h1,h2⟩,h3⟩,h4⟩:=h
 refine⟨⟨h1,⟨_,h2⟩,fun r hr=>⟨(h4 r hr).1,fun k hk=>?_⟩⟩,h3⟩
 obtain⟨⟨⟨⟨a,b⟩,c⟩,d⟩,e⟩:=(h4 r hr).2 k (by omega)
 exact⟨a,b,c,d,e⟩
def cameB (rows:List (List Int)) (want:List Int) (may:Bool):Bool:=wantB rows want&&(zPP rows want==may)
end P
end Go.Proofs.YtgceflcbckjjiaaGreatDoor
