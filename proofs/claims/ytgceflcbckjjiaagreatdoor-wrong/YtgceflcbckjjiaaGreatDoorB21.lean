import Derived.Test.YtgceflcbckjjiaaGreatDoorB20
set_option linter.unusedVariables false
set_option linter.unusedSimpArgs false
namespace Go.Proofs.YtgceflcbckjjiaaGreatDoor
open Go Go.RowKit
set_option maxRecDepth 100000
namespace P
theorem good_run (xs:List (List UInt8)):∀ (k:Nat) (r:Rd),Good k r→Good (k+xs.length) (runLines r xs).1∧r.line≤(runLines r xs).1.line∧((runLines r xs).2=false→r.line<(runLines r xs).1.line):=by
 induction xs with
 | nil=>intro k r h;exact⟨h,by simp[runLines],by simp[runLines]⟩
 | cons x r ih =>
  intro k q h
  have h1:=good_takes (splitAt 32 x) h (by have:=h.lin1;omega)
  have hl:(takes { q with line:=q.line+1 } (splitAt 32 x)).1.line=q.line+1:=by
   unfold takes
   split
   ·unfold begins
    split
    ·rfl
    ·split
     ·split<;>rfl
     ·rfl
   ·split
    ·rfl
    ·simp only[]
     split
     ·split
      ·unfold ends;split<;>rfl
      ·split
       ·rfl
       ·split
        ·split
         ·rfl
         ·unfold branch;split<;>rfl
        ·rfl
     ·rfl
  simp only[runLines]
  cases ht:(takes { q with line:=q.line+1 } (splitAt 32 x)).2
  ·refine⟨?_,?_,?_⟩
   ·have:=h1
    refine⟨this.few,fun t ht=>?_,this.opn,this.ifs0,?_,this.cnt,this.lin0,?_⟩
    ·have:=this.stm t ht;simp;omega
    ·have:=this.ifs1;simp at *;omega
    ·have:=this.lin1;simp at *;omega
   ·simp[hl];omega
   ·simp[hl];omega
  ·obtain⟨a1,a2,a3⟩:=ih (k+1) _ h1
   simp only[if_true]
   refine⟨?_,?_,?_⟩
   ·rw[show k+(x::r).length=k+1+r.length by simp;omega];exact a1
   ·rw[hl] at a2;omega
   ·intro hf
    have:=a3 hf
    rw[hl] at this;omega
theorem lines_ok (l:List UInt8) (h:(lines l).2=0):(lines l).1≠[]∧(lines l).1.length≤4∧∀ t∈(lines l).1,t.stmts.length≤l.length:=by
 have hl:=splitAt_length 10 l
 obtain⟨g1,g2,g3⟩:=good_run (splitAt 10 l).dropLast 0 Rd.zero good_zero
 have hd:(splitAt 10 l).dropLast.length≤l.length:=by rw[List.length_dropLast];omega
 unfold lines at h ⊢
 simp only[] at h ⊢
 cases hq:(runLines Rd.zero (splitAt 10 l).dropLast).2
 ·have:=g3 hq
  have z:Rd.zero.line=0:=rfl
  simp[hq] at h
  omega
 ·simp only[hq,if_true] at h ⊢
  split at h
  ·have z:Rd.zero.line=0:=rfl
   simp at h;omega
  ·rename_i hno
   rw[if_neg hno]
   refine⟨fun e=>hno (Or.inr (Or.inr e)),g1.few,fun t ht=>?_⟩
   have:=g1.stm t ht
   omega
def kernel (l:List UInt8):List Thr × Int × Int :=
 if 2000<l.length then ([],1,0)
 else if (lines l).2 != 0 then ([],2,(lines l).2)
 else if innerB (lines l).1 != 0 then ([],3,innerB (lines l).1)
 else if unevenIn (lines l).1 (lines l).1 != 0 then ([],3,unevenIn (lines l).1 (lines l).1)
 else if over (lines l).1 then ([],4,0)
 else ((lines l).1,0,0)
end P
theorem results_cell_tmp2 {fn:Func} {p u v:Tmp} {ty:TypeId} (h:fn.results=#[.cell p ty,.tmp u,.tmp v]) (tmps:Array Value) (Pg:Program) (w:World) :
  (results fn tmps).run Pg w=((asAddr (tmps.getD p undef)).run Pg w).andThen fun a w₁=>((loadVar ty a).run Pg w₁).andThen fun x w₂=>.ok (.tuple #[x,tmps.getD u undef,tmps.getD v undef]) w₂:=by
 simp only[results,h]
 simp[Sem.run_bind,Result.andThen]
theorem ret_prog3 {fn:Func} {R:Ending→World→Prop} {a:Act} {w:World} {p u v:Tmp} (g:Nat) (tv uv vv:Value) (hres:fn.results=#[.cell p 48,.tmp u,.tmp v])
  (hp:a.tmps.getD p undef=.pointer (some ⟨g,0,none⟩)) (hu:a.tmps.getD u undef=uv) (hv:a.tmps.getD v undef=vv) (h:w.heap[g]?=some (.cells #[tv] 48 (0,0))) (hd:a.defers=[]) (hR:R (.returned (.tuple #[.agg #[tv],uv,vv])) w):bodyPost Tryz.prog fn R .ret a w:=by
 refine bodyPost_ret (v:=.tuple #[.agg #[tv],uv,vv]) ?_ hd hR
 rw[results_cell_tmp2 hres,hp,hu,hv]
 have:(asAddr (.pointer (some ⟨g,0,none⟩))).run Tryz.prog w=.ok ⟨g,0,none⟩ w:=rfl
 rw[this,Result.andThen_ok,run_loadVar_row w g _ _ _ h _ Tryz.underlying48 rfl (by kernel_rfl),Result.andThen_ok]
theorem ThreadsAt.base {w:World} {B B':Nat} {tv:Value} {ts:List P.Thr} (h:ThreadsAt w B tv ts) (hb:B'≤B):ThreadsAt w B' tv ts:=by
 obtain⟨vs,h1,h2⟩:=h
 exact⟨vs,own_base h1 hb,h2.base hb⟩
set_option maxHeartbeats 1600000 in
theorem kernel_long (s:ByteArray) (w:World) (hs:s.size≤8192) (h:2000<s.size) :
  Calls Tryz.prog 23 #[.string s] w fun e w'=>e=.returned (.tuple #[.agg #[.slice none 0 0],.int .i64 1,.int .i64 0])∧Below w.heap.size w w':=by
 have h':(2000:Int)<(s.size:Int):=by omega
 go_enter Tryz.func23,Tryz.ntmps23
 go_wp2
 refine ret_prog3 (p:=2) (u:=3) (v:=4) w.heap.size (.slice none 0 0) _ _ (by kernel_rfl) rfl rfl rfl (by exact heap_alloc_new w _) rfl ⟨rfl,?_⟩
 exact (Below.refl _ _).alloc (Nat.le_refl _) _
theorem ThreadsAt.form {w:World} {B:Nat} {tv:Value} {ts:List P.Thr} (h:ThreadsAt w B tv ts):∃ a c,tv=.slice a ts.length c∧(ts≠[]→∃ bt,a=some ⟨bt,0,none⟩):=by
 obtain⟨vs,h1,h2⟩:=h
 rcases h1.2 with ⟨e,h0⟩ | ⟨k,c,cur,e,_⟩
 ·exact⟨none,0,by rw[e,h0],fun hne=>absurd (List.eq_nil_of_length_eq_zero h0) hne⟩
 ·exact⟨_,c,e,fun _=>⟨k,rfl⟩⟩
set_option maxHeartbeats 3200000 in
theorem kernel_line2 (s:ByteArray) (w:World) (hs:s.size≤8192) (h:s.size≤2000) (hl:((P.lines s.toList).2 != 0)=true) :
  Calls Tryz.prog 23 #[.string s] w fun e w'=>e=.returned (.tuple #[.agg #[.slice none 0 0],.int .i64 2,.int .i64 (P.lines s.toList).2])∧Below w.heap.size w w':=by
 have h':¬ (2000:Int)<(s.size:Int):=by omega
 go_enter Tryz.func23,Tryz.ntmps23
 go_wp2_with (first | (go_at_call 30;refine (lines_any s _ hs).mono ?_;rintro e w1 ⟨tv,rfl,hth,hb1⟩;obtain⟨ta,tc,rfl,hta⟩:=hth.form;have hsz1:w.heap.size+1≤w1.heap.size:=(by have:=hb1.size;simp at this;omega);have hres:w1.heap[w.heap.size]?=some (.cells #[.slice none 0 0] 48 (0,0)):=(by rw[hb1.block _ (by simp)];exact heap_alloc_new w _);obtain⟨z0,z1,z2⟩:=one_cell hres;have HRES:=hide hres;have HTH:=hide hth;have HB1:Hid (Below w.heap.size w w1):=((Below.refl _ _).alloc (Nat.le_refl _) _).trans (hb1.mono (by simp));clear hres hth hb1))
 refine ret_prog3 (p:=2) (u:=3) (v:=4) w.heap.size (.slice none 0 0) _ _ (by kernel_rfl) rfl rfl rfl ?_ rfl ⟨rfl,?_⟩
 ·rw[Below.heap_alloc _ _ _ (by simp;omega)]
  exact setCell_block HRES.out 0 _
 ·exact (HB1.out.setCell (Nat.le_refl _) _).alloc (by simp;omega) _
theorem ThreadsAt.set {w:World} {B:Nat} {tv:Value} {ts:List P.Thr} (h:ThreadsAt w (B+1) tv ts) (u:Value):ThreadsAt (w.setCell ⟨B,0,none⟩ u) B tv ts:=by
 obtain⟨vs,h1,h2⟩:=h
 refine⟨vs,own_base (ownsRow_keep h1 (fun k hk=>?_)) (by omega),(h2.keep (fun v hv k hk=>?_)).base (by omega)⟩
 ·have:=(h1.lt k hk).1
  exact Below.heap_setCell _ _ _ _ (by simp;omega)
 ·obtain⟨n,xs,ho⟩:=h2.mem v hv
  have:=(ho.lt k hk).1
  exact Below.heap_setCell _ _ _ _ (by simp;omega)
theorem after_lines {w w1 w':World} {B:Nat} {tv:Value} {ts:List P.Thr} (hth:ThreadsAt w1 B tv ts) (hb1:Below w.heap.size w w1) (hres:w1.heap[w.heap.size]?=some (.cells #[.slice none 0 0] 48 (0,0)))
  (hb:Below (w1.alloc (.cells #[tv] 48)).heap.size (w1.alloc (.cells #[tv] 48)) w') (hB:w.heap.size+1≤B:=by simp) :
  ThreadsAt w' (w.heap.size+1) tv ts∧Below w.heap.size w w'∧w'.heap[w.heap.size]?=some (.cells #[.slice none 0 0] 48 (0,0))∧w'.heap[w1.heap.size]?=some (.cells #[tv] 48 (0,0))∧w1.heap.size<w'.heap.size:=by
 have hlt:w.heap.size<w1.heap.size:=(Array.getElem?_eq_some_iff.1 hres).1
 refine⟨(hth.keep (fun k hk=>?_)).base hB,?_,?_,?_,?_⟩
 ·rw[hb.block k (by simp;omega)];exact Below.heap_alloc _ _ _ hk
 ·exact (hb1.alloc hb1.size _).trans (hb.mono (by simp;omega))
 ·rw[hb.block _ (by simp;omega),Below.heap_alloc _ _ _ hlt];exact hres
 ·rw[hb.block _ (by simp)];exact heap_alloc_new w1 _
 ·have:=hb.size;simp at this;omega
set_option maxHeartbeats 3200000 in
theorem kernel_inner (s:ByteArray) (w:World) (hs:s.size≤8192) (h:s.size≤2000) (hl:((P.lines s.toList).2 != 0)=false) (hi:(P.innerB (P.lines s.toList).1 != 0)=true) :
  Calls Tryz.prog 23 #[.string s] w fun e w'=>e=.returned (.tuple #[.agg #[.slice none 0 0],.int .i64 3,.int .i64 (P.innerB (P.lines s.toList).1)])∧Below w.heap.size w w':=by
 have h':¬ (2000:Int)<(s.size:Int):=by omega
 have hl0:(P.lines s.toList).2=0:=by simpa using hl
 obtain⟨hne,h4,hst'⟩:=P.lines_ok s.toList hl0
 have hst:∀ t∈(P.lines s.toList).1,t.stmts.length<10000:=fun t ht=>by have:=hst' t ht;rw[size_toList] at this;omega
 clear hl0 hst'
 go_enter Tryz.func23,Tryz.ntmps23
 go_wp2_with (first | (go_at_call 30;refine (lines_any s _ hs).mono ?_;rintro e w1 ⟨tv,rfl,hth,hb1⟩;obtain⟨ta,tc,rfl,hta⟩:=hth.form;have hsz1:w.heap.size+1≤w1.heap.size:=(by have:=hb1.size;simp at this;omega);have hres:w1.heap[w.heap.size]?=some (.cells #[.slice none 0 0] 48 (0,0)):=(by rw[hb1.block _ (by simp)];exact heap_alloc_new w _);obtain⟨z0,z1,z2⟩:=one_cell hres;have HRES:=hide hres;have HTH:=hide hth;have HB1:Hid (Below w.heap.size w w1):=((Below.refl _ _).alloc (Nat.le_refl _) _).trans (hb1.mono (by simp));obtain⟨bt,rfl⟩:=hta hne;have TK:Hid (∀ w':World,Below (w1.alloc (.cells #[(.slice (some ⟨bt,0,none⟩) (P.lines s.toList).1.length tc)] 48)).heap.size (w1.alloc (.cells #[(.slice (some ⟨bt,0,none⟩) (P.lines s.toList).1.length tc)] 48)) w'→ThreadsAt w' (w.heap.size+1) (.slice (some ⟨bt,0,none⟩) (P.lines s.toList).1.length tc) (P.lines s.toList).1∧Below w.heap.size w w'∧w'.heap[w.heap.size]?=some (.cells #[.slice none 0 0] 48 (0,0))∧w'.heap[w1.heap.size]?=some (.cells #[(.slice (some ⟨bt,0,none⟩) (P.lines s.toList).1.length tc)] 48 (0,0))∧w1.heap.size<w'.heap.size):=(fun w' hb'=>after_lines HTH.out HB1.out HRES.out hb');clear hres hth hb1) | (go_at_call 31;refine (inner_any (w.heap.size+1) bt _ tc (P.lines s.toList).1 _ (by exact (TK.out _ (Below.refl _ _)).1) rfl (by omega) hst).mono ?_;rintro e w2 ⟨rfl,hb2⟩;obtain⟨t2,v2,r2,q2,l2⟩:=TK.out w2 hb2;obtain⟨y0,y1,y2⟩:=one_cell r2;obtain⟨x0,x1,x2⟩:=one_cell q2;have T2:=hide t2;have R2:=hide r2;have Q2:=hide q2;clear t2 r2 q2))
 refine ret_prog3 (p:=2) (u:=3) (v:=4) w.heap.size (.slice none 0 0) _ _ (by kernel_rfl) rfl rfl rfl (by exact setCell_block R2.out 0 _) rfl ⟨rfl,v2.setCell (Nat.le_refl _) _⟩
set_option maxHeartbeats 3200000 in
theorem kernel_uneven (s:ByteArray) (w:World) (hs:s.size≤8192) (h:s.size≤2000) (hl:((P.lines s.toList).2 != 0)=false) (hi:(P.innerB (P.lines s.toList).1 != 0)=false) (hu:(P.unevenIn (P.lines s.toList).1 (P.lines s.toList).1 != 0)=true) :
  Calls Tryz.prog 23 #[.string s] w fun e w'=>e=.returned (.tuple #[.agg #[.slice none 0 0],.int .i64 3,.int .i64 (P.unevenIn (P.lines s.toList).1 (P.lines s.toList).1)])∧Below w.heap.size w w':=by
 have h':¬ (2000:Int)<(s.size:Int):=by omega
 have hl0:(P.lines s.toList).2=0:=by simpa using hl
 obtain⟨hne,h4,hst'⟩:=P.lines_ok s.toList hl0
 have hst:∀ t∈(P.lines s.toList).1,t.stmts.length<10000:=fun t ht=>by have:=hst' t ht;rw[size_toList] at this;omega
 clear hl0 hst'
 go_enter Tryz.func23,Tryz.ntmps23
 go_wp2_with (first | (go_at_call 30;refine (lines_any s _ hs).mono ?_;rintro e w1 ⟨tv,rfl,hth,hb1⟩;obtain⟨ta,tc,rfl,hta⟩:=hth.form;have hsz1:w.heap.size+1≤w1.heap.size:=(by have:=hb1.size;simp at this;omega);have hres:w1.heap[w.heap.size]?=some (.cells #[.slice none 0 0] 48 (0,0)):=(by rw[hb1.block _ (by simp)];exact heap_alloc_new w _);obtain⟨z0,z1,z2⟩:=one_cell hres;have HRES:=hide hres;have HTH:=hide hth;have HB1:Hid (Below w.heap.size w w1):=((Below.refl _ _).alloc (Nat.le_refl _) _).trans (hb1.mono (by simp));obtain⟨bt,rfl⟩:=hta hne;have TK:Hid (∀ w':World,Below (w1.alloc (.cells #[(.slice (some ⟨bt,0,none⟩) (P.lines s.toList).1.length tc)] 48)).heap.size (w1.alloc (.cells #[(.slice (some ⟨bt,0,none⟩) (P.lines s.toList).1.length tc)] 48)) w'→ThreadsAt w' (w.heap.size+1) (.slice (some ⟨bt,0,none⟩) (P.lines s.toList).1.length tc) (P.lines s.toList).1∧Below w.heap.size w w'∧w'.heap[w.heap.size]?=some (.cells #[.slice none 0 0] 48 (0,0))∧w'.heap[w1.heap.size]?=some (.cells #[(.slice (some ⟨bt,0,none⟩) (P.lines s.toList).1.length tc)] 48 (0,0))∧w1.heap.size<w'.heap.size):=(fun w' hb'=>after_lines HTH.out HB1.out HRES.out hb');clear hres hth hb1) | (go_at_call 31;refine (inner_any (w.heap.size+1) bt _ tc (P.lines s.toList).1 _ (by exact (TK.out _ (Below.refl _ _)).1) rfl (by omega) hst).mono ?_;rintro e w2 ⟨rfl,hb2⟩;obtain⟨t2,v2,r2,q2,l2⟩:=TK.out w2 hb2;obtain⟨y0,y1,y2⟩:=one_cell r2;obtain⟨x0,x1,x2⟩:=one_cell q2;have T2:=hide t2;have R2:=hide r2;have Q2:=hide q2;clear t2 r2 q2) | (go_at_call 32;refine (uneven_any (w.heap.size+1) bt _ tc (P.lines s.toList).1 _ (by exact T2.out) rfl (by omega) hst).mono ?_;rintro e w3 ⟨rfl,hb3⟩;obtain⟨t3,v3,r3,q3,l3⟩:=TK.out w3 (hb2.trans (hb3.mono hb2.size));obtain⟨y0,y1,y2⟩:=one_cell r3;obtain⟨x0,x1,x2⟩:=one_cell q3;have T3:=hide t3;have R3:=hide r3;clear t3 r3 q3))
 refine ret_prog3 (p:=2) (u:=3) (v:=4) w.heap.size (.slice none 0 0) _ _ (by kernel_rfl) rfl rfl rfl (by exact setCell_block R3.out 0 _) rfl ⟨rfl,v3.setCell (Nat.le_refl _) _⟩
set_option maxHeartbeats 3200000 in
theorem kernel_over (s:ByteArray) (w:World) (hs:s.size≤8192) (h:s.size≤2000) (hl:((P.lines s.toList).2 != 0)=false) (hi:(P.innerB (P.lines s.toList).1 != 0)=false) (hu:(P.unevenIn (P.lines s.toList).1 (P.lines s.toList).1 != 0)=false) (ho:P.over (P.lines s.toList).1=true) :
  Calls Tryz.prog 23 #[.string s] w fun e w'=>e=.returned (.tuple #[.agg #[.slice none 0 0],.int .i64 4,.int .i64 0])∧Below w.heap.size w w':=by
 have h':¬ (2000:Int)<(s.size:Int):=by omega
 have hl0:(P.lines s.toList).2=0:=by simpa using hl
 obtain⟨hne,h4,hst'⟩:=P.lines_ok s.toList hl0
 have hst:∀ t∈(P.lines s.toList).1,t.stmts.length<10000:=fun t ht=>by have:=hst' t ht;rw[size_toList] at this;omega
 clear hl0 hst'
 go_enter Tryz.func23,Tryz.ntmps23
 go_wp2_with (first | (go_at_call 30;refine (lines_any s _ hs).mono ?_;rintro e w1 ⟨tv,rfl,hth,hb1⟩;obtain⟨ta,tc,rfl,hta⟩:=hth.form;have hsz1:w.heap.size+1≤w1.heap.size:=(by have:=hb1.size;simp at this;omega);have hres:w1.heap[w.heap.size]?=some (.cells #[.slice none 0 0] 48 (0,0)):=(by rw[hb1.block _ (by simp)];exact heap_alloc_new w _);obtain⟨z0,z1,z2⟩:=one_cell hres;have HRES:=hide hres;have HTH:=hide hth;have HB1:Hid (Below w.heap.size w w1):=((Below.refl _ _).alloc (Nat.le_refl _) _).trans (hb1.mono (by simp));obtain⟨bt,rfl⟩:=hta hne;have TK:Hid (∀ w':World,Below (w1.alloc (.cells #[(.slice (some ⟨bt,0,none⟩) (P.lines s.toList).1.length tc)] 48)).heap.size (w1.alloc (.cells #[(.slice (some ⟨bt,0,none⟩) (P.lines s.toList).1.length tc)] 48)) w'→ThreadsAt w' (w.heap.size+1) (.slice (some ⟨bt,0,none⟩) (P.lines s.toList).1.length tc) (P.lines s.toList).1∧Below w.heap.size w w'∧w'.heap[w.heap.size]?=some (.cells #[.slice none 0 0] 48 (0,0))∧w'.heap[w1.heap.size]?=some (.cells #[(.slice (some ⟨bt,0,none⟩) (P.lines s.toList).1.length tc)] 48 (0,0))∧w1.heap.size<w'.heap.size):=(fun w' hb'=>after_lines HTH.out HB1.out HRES.out hb');clear hres hth hb1) | (go_at_call 31;refine (inner_any (w.heap.size+1) bt _ tc (P.lines s.toList).1 _ (by exact (TK.out _ (Below.refl _ _)).1) rfl (by omega) hst).mono ?_;rintro e w2 ⟨rfl,hb2⟩;obtain⟨t2,v2,r2,q2,l2⟩:=TK.out w2 hb2;obtain⟨y0,y1,y2⟩:=one_cell r2;obtain⟨x0,x1,x2⟩:=one_cell q2;have T2:=hide t2;have R2:=hide r2;have Q2:=hide q2;clear t2 r2 q2) | (go_at_call 32;refine (uneven_any (w.heap.size+1) bt _ tc (P.lines s.toList).1 _ (by exact T2.out) rfl (by omega) hst).mono ?_;rintro e w3 ⟨rfl,hb3⟩;obtain⟨t3,v3,r3,q3,l3⟩:=TK.out w3 (hb2.trans (hb3.mono hb2.size));obtain⟨y0,y1,y2⟩:=one_cell r3;obtain⟨x0,x1,x2⟩:=one_cell q3;have T3:=hide t3;have R3:=hide r3;clear t3 r3 q3) | (go_at_call 33;refine (over_any (w.heap.size+1) bt _ tc (P.lines s.toList).1 _ (by exact T3.out) rfl (by omega) hst).mono ?_;rintro e w4 ⟨rfl,hb4⟩;obtain⟨t4,v4,r4,q4,l4⟩:=TK.out w4 ((hb2.trans (hb3.mono hb2.size)).trans (hb4.mono (hb2.trans (hb3.mono hb2.size)).size));obtain⟨y0,y1,y2⟩:=one_cell r4;obtain⟨x0,x1,x2⟩:=one_cell q4;have T4:=hide t4;have R4:=hide r4;clear t4 r4 q4))
 refine ret_prog3 (p:=2) (u:=3) (v:=4) w.heap.size (.slice none 0 0) _ _ (by kernel_rfl) rfl rfl rfl (by exact setCell_block R4.out 0 _) rfl ⟨rfl,v4.setCell (Nat.le_refl _) _⟩
set_option maxHeartbeats 3200000 in
theorem kernel_ok (s:ByteArray) (w:World) (hs:s.size≤8192) (h:s.size≤2000) (hl:((P.lines s.toList).2 != 0)=false) (hi:(P.innerB (P.lines s.toList).1 != 0)=false) (hu:(P.unevenIn (P.lines s.toList).1 (P.lines s.toList).1 != 0)=false) (ho:P.over (P.lines s.toList).1=false) :
  Calls Tryz.prog 23 #[.string s] w fun e w'=>∃ bt tc,e=.returned (.tuple #[.agg #[(.slice (some ⟨bt,0,none⟩) (P.lines s.toList).1.length tc)],.int .i64 0,.int .i64 0])∧ThreadsAt w' w.heap.size (.slice (some ⟨bt,0,none⟩) (P.lines s.toList).1.length tc) (P.lines s.toList).1∧Below w.heap.size w w':=by
 have h':¬ (2000:Int)<(s.size:Int):=by omega
 have hl0:(P.lines s.toList).2=0:=by simpa using hl
 obtain⟨hne,h4,hst'⟩:=P.lines_ok s.toList hl0
 have hst:∀ t∈(P.lines s.toList).1,t.stmts.length<10000:=fun t ht=>by have:=hst' t ht;rw[size_toList] at this;omega
 clear hl0 hst'
 go_enter Tryz.func23,Tryz.ntmps23
 go_wp2_with (first | (go_at_call 30;refine (lines_any s _ hs).mono ?_;rintro e w1 ⟨tv,rfl,hth,hb1⟩;obtain⟨ta,tc,rfl,hta⟩:=hth.form;have hsz1:w.heap.size+1≤w1.heap.size:=(by have:=hb1.size;simp at this;omega);have hres:w1.heap[w.heap.size]?=some (.cells #[.slice none 0 0] 48 (0,0)):=(by rw[hb1.block _ (by simp)];exact heap_alloc_new w _);obtain⟨z0,z1,z2⟩:=one_cell hres;have HRES:=hide hres;have HTH:=hide hth;have HB1:Hid (Below w.heap.size w w1):=((Below.refl _ _).alloc (Nat.le_refl _) _).trans (hb1.mono (by simp));obtain⟨bt,rfl⟩:=hta hne;have TK:Hid (∀ w':World,Below (w1.alloc (.cells #[(.slice (some ⟨bt,0,none⟩) (P.lines s.toList).1.length tc)] 48)).heap.size (w1.alloc (.cells #[(.slice (some ⟨bt,0,none⟩) (P.lines s.toList).1.length tc)] 48)) w'→ThreadsAt w' (w.heap.size+1) (.slice (some ⟨bt,0,none⟩) (P.lines s.toList).1.length tc) (P.lines s.toList).1∧Below w.heap.size w w'∧w'.heap[w.heap.size]?=some (.cells #[.slice none 0 0] 48 (0,0))∧w'.heap[w1.heap.size]?=some (.cells #[(.slice (some ⟨bt,0,none⟩) (P.lines s.toList).1.length tc)] 48 (0,0))∧w1.heap.size<w'.heap.size):=(fun w' hb'=>after_lines HTH.out HB1.out HRES.out hb');clear hres hth hb1) | (go_at_call 31;refine (inner_any (w.heap.size+1) bt _ tc (P.lines s.toList).1 _ (by exact (TK.out _ (Below.refl _ _)).1) rfl (by omega) hst).mono ?_;rintro e w2 ⟨rfl,hb2⟩;obtain⟨t2,v2,r2,q2,l2⟩:=TK.out w2 hb2;obtain⟨y0,y1,y2⟩:=one_cell r2;obtain⟨x0,x1,x2⟩:=one_cell q2;have T2:=hide t2;have R2:=hide r2;have Q2:=hide q2;clear t2 r2 q2) | (go_at_call 32;refine (uneven_any (w.heap.size+1) bt _ tc (P.lines s.toList).1 _ (by exact T2.out) rfl (by omega) hst).mono ?_;rintro e w3 ⟨rfl,hb3⟩;obtain⟨t3,v3,r3,q3,l3⟩:=TK.out w3 (hb2.trans (hb3.mono hb2.size));obtain⟨y0,y1,y2⟩:=one_cell r3;obtain⟨x0,x1,x2⟩:=one_cell q3;have T3:=hide t3;have R3:=hide r3;clear t3 r3 q3) | (go_at_call 33;refine (over_any (w.heap.size+1) bt _ tc (P.lines s.toList).1 _ (by exact T3.out) rfl (by omega) hst).mono ?_;rintro e w4 ⟨rfl,hb4⟩;obtain⟨t4,v4,r4,q4,l4⟩:=TK.out w4 ((hb2.trans (hb3.mono hb2.size)).trans (hb4.mono (hb2.trans (hb3.mono hb2.size)).size));obtain⟨y0,y1,y2⟩:=one_cell r4;obtain⟨x0,x1,x2⟩:=one_cell q4;have T4:=hide t4;have R4:=hide r4;clear t4 r4 q4))
 refine ret_prog3 (p:=2) (u:=3) (v:=4) w.heap.size _ _ _ (by kernel_rfl) rfl rfl rfl (by exact setCell_block R4.out 0 _) rfl ⟨_,_,rfl,T4.out.set _,v4.setCell (Nat.le_refl _) _⟩
end Go.Proofs.YtgceflcbckjjiaaGreatDoor
