import Derived.Lib.ItoaWalk
import Derived.Test.YtgceflcbckjjiaaGreatDoorC07
set_option linter.unusedVariables false
set_option linter.unusedSimpArgs false
set_option maxHeartbeats 12800000
namespace Go.Proofs.YtgceflcbckjjiaaGreatDoor
open Go Go.RowKit
set_option maxRecDepth 100000
namespace P
theorem good_run (xs:List (List UInt8)):∀ (k:Nat) (r:Rd),Good k r→Good (k+xs.length) (zQn r xs).1∧r.line≤(zQn r xs).1.line∧((zQn r xs).2=false→r.line<(zQn r xs).1.line):=by
 induction xs with
 | nil=>intro k r h;exact⟨h,by simp[zQn],by simp[zQn]⟩
 | cons x r ih =>
  intro k q h
  have h1:=good_takes (zOd 32 x) h (by have:=h.lin1;omega)
  have hl:(takes { q with line:=q.line+1 } (zOd 32 x)).1.line=q.line+1:=by
   unfold takes
   split
   ·unfold zPc
    split
    ·rfl
    ·split
     ·split<;>rfl
     ·rfl
   ·split
    ·rfl
    ·simp only[]
     split
     ·split
      ·unfold ends;split<;>rfl
      ·split
       ·rfl
       ·split
        ·split
         ·rfl
         ·unfold zQf;split<;>rfl
        ·rfl
     ·rfl
  simp only[zQn]
  cases ht:(takes { q with line:=q.line+1 } (zOd 32 x)).2
  ·refine⟨?_,?_,?_⟩
   ·have:=h1
    refine⟨this.few,fun t ht=>?_,this.opn,this.ifs0,?_,this.cnt,this.lin0,?_⟩
    ·have:=this.stm t ht;simp;omega
    ·have:=this.ifs1;simp at *;omega
    ·have:=this.lin1;simp at *;omega
   ·simp[hl];omega
   ·simp[hl];omega
  ·obtain⟨a1,a2,a3⟩:=ih (k+1) _ h1
   simp only[if_true]
   refine⟨?_,?_,?_⟩
   ·rw[show k+(x::r).length=k+1+r.length by simp;omega];exact a1
   ·rw[hl] at a2;omega
   ·intro hf
    have:=a3 hf
    rw[hl] at this;omega
theorem zPo (l:List UInt8) (h:(lines l).2=0):(lines l).1≠[]∧(lines l).1.length≤4∧∀ t∈(lines l).1,t.stmts.length≤l.length:=by
 have hl:=zPr 10 l
 obtain⟨g1,g2,g3⟩:=good_run (zOd 10 l).dropLast 0 Rd.zero good_zero
 have hd:(zOd 10 l).dropLast.length≤l.length:=by rw[List.length_dropLast];omega
 unfold lines at h ⊢
 simp only[] at h ⊢
 cases hq:(zQn Rd.zero (zOd 10 l).dropLast).2
 ·have:=g3 hq
  have z:Rd.zero.line=0:=rfl
  simp[hq] at h
  omega
 ·simp only[hq,if_true] at h ⊢
  split at h
  ·have z:Rd.zero.line=0:=rfl
   simp at h;omega
  ·rename_i hno
   rw[if_neg hno]
   refine⟨fun e=>hno (Or.inr (Or.inr e)),g1.few,fun t ht=>?_⟩
   have:=g1.stm t ht
   omega
def kernel (l:List UInt8):List Thr × Int × Int :=
 if 2000<l.length then ([],1,0)
 else if (lines l).2 != 0 then ([],2,(lines l).2)
 else if zOK (lines l).1 != 0 then ([],3,zOK (lines l).1)
 else if zOm (lines l).1 (lines l).1 != 0 then ([],3,zOm (lines l).1 (lines l).1)
 else if over (lines l).1 then ([],4,0)
 else ((lines l).1,0,0)
end P
theorem zDH {fn:Func} {p u v:Tmp} {ty:TypeId} (h:fn.results=#[.cell p ty,.tmp u,.tmp v]) (tmps:Array Value) (Pg:Program) (w:World) :
  (results fn tmps).run Pg w=((asAddr (tmps.getD p undef)).run Pg w).andThen fun a w₁=>((loadVar ty a).run Pg w₁).andThen fun x w₂=>.ok (.tuple #[x,tmps.getD u undef,tmps.getD v undef]) w₂:=by
 simp only[results,h]
 simp[Sem.run_bind,Result.andThen]
theorem zBq {fn:Func} {R:Ending→World→Prop} {a:Act} {w:World} {p u v:Tmp} (g:Nat) (tv uv vv:Value) (hres:fn.results=#[.cell p 48,.tmp u,.tmp v])
  (hp:a.tmps.getD p undef=.pointer (some ⟨g,0,none⟩)) (hu:a.tmps.getD u undef=uv) (hv:a.tmps.getD v undef=vv) (h:w.heap[g]?=some (.cells #[tv] 48 (0,0))) (hd:a.defers=[]) (hR:R (.returned (.tuple #[.agg #[tv],uv,vv])) w):bodyPost Tryz.prog fn R .ret a w:=by
 refine bodyPost_ret (v:=.tuple #[.agg #[tv],uv,vv]) ?_ hd hR
 rw[zDH hres,hp,hu,hv]
 have:(asAddr (.pointer (some ⟨g,0,none⟩))).run Tryz.prog w=.ok ⟨g,0,none⟩ w:=rfl
 rw[this,Result.andThen_ok,zBc w g _ _ _ h _ Tryz.underlying48 rfl (by kernel_rfl),Result.andThen_ok]
theorem zAn.base {w:World} {B B':Nat} {tv:Value} {ts:List P.Thr} (h:zAn w B tv ts) (hb:B'≤B):zAn w B' tv ts:=by
 obtain⟨vs,h1,h2⟩:=h
 exact⟨vs,zBV h1 hb,h2.base hb⟩
theorem zGU (s:ByteArray) (w:World) (hs:s.size≤8192) (h:2000<s.size) :
  Calls Tryz.prog 23 #[.string s] w fun e w'=>e=.returned (.tuple #[.agg #[.slice none 0 0],.int .i64 1,.int .i64 0])∧Below w.heap.size w w':=by
 have h':(2000:Int)<(s.size:Int):=by omega
 go_enter Tryz.func23,Tryz.ntmps23
 go_wp2
 refine zBq (p:=2) (u:=3) (v:=4) w.heap.size (.slice none 0 0) _ _ (by kernel_rfl) rfl rfl rfl (by exact heap_alloc_new w _) rfl ⟨rfl,?_⟩
 exact (Below.refl _ _).alloc (Nat.le_refl _) _
theorem zAn.form {w:World} {B:Nat} {tv:Value} {ts:List P.Thr} (h:zAn w B tv ts):∃ a c,tv=.slice a ts.length c∧(ts≠[]→∃ bt,a=some ⟨bt,0,none⟩):=by
 obtain⟨vs,h1,h2⟩:=h
 rcases h1.2 with ⟨e,h0⟩ | ⟨k,c,cur,e,_⟩
 ·exact⟨none,0,by rw[e,h0],fun hne=>absurd (List.eq_nil_of_length_eq_zero h0) hne⟩
 ·exact⟨_,c,e,fun _=>⟨k,rfl⟩⟩
theorem zGg (s:ByteArray) (w:World) (hs:s.size≤8192) (h:s.size≤2000) (hl:((P.lines s.toList).2 != 0)=true) :
  Calls Tryz.prog 23 #[.string s] w fun e w'=>e=.returned (.tuple #[.agg #[.slice none 0 0],.int .i64 2,.int .i64 (P.lines s.toList).2])∧Below w.heap.size w w':=by
 have h':¬ (2000:Int)<(s.size:Int):=by omega
 go_enter Tryz.func23,Tryz.ntmps23
 go_wp2_with (first | (go_at_call 30;refine (zCT s _ hs).mono ?_;rintro e w1 ⟨tv,rfl,hth,hb1⟩;obtain⟨ta,tc,rfl,hta⟩:=hth.form;have hsz1:w.heap.size+1≤w1.heap.size:=(by have:=hb1.size;simp at this;omega);have hres:w1.heap[w.heap.size]?=some (.cells #[.slice none 0 0] 48 (0,0)):=(by rw[hb1.block _ (by simp)];exact heap_alloc_new w _);obtain⟨z0,z1,z2⟩:=zAz hres;have HRES:=zAa hres;have HTH:=zAa hth;have HB1:Hid (Below w.heap.size w w1):=((Below.refl _ _).alloc (Nat.le_refl _) _).trans (hb1.mono (by simp));clear hres hth hb1))
 refine zBq (p:=2) (u:=3) (v:=4) w.heap.size (.slice none 0 0) _ _ (by kernel_rfl) rfl rfl rfl ?_ rfl ⟨rfl,?_⟩
 ·rw[Below.heap_alloc _ _ _ (by simp;omega)]
  exact zAe HRES.out 0 _
 ·exact (HB1.out.setCell (Nat.le_refl _) _).alloc (by simp;omega) _
theorem zAn.set {w:World} {B:Nat} {tv:Value} {ts:List P.Thr} (h:zAn w (B+1) tv ts) (u:Value):zAn (w.setCell ⟨B,0,none⟩ u) B tv ts:=by
 obtain⟨vs,h1,h2⟩:=h
 refine⟨vs,zBV (zAc h1 (fun k hk=>?_)) (by omega),(h2.keep (fun v hv k hk=>?_)).base (by omega)⟩
 ·have:=(h1.lt k hk).1
  exact Below.heap_setCell _ _ _ _ (by simp;omega)
 ·obtain⟨n,xs,ho⟩:=h2.mem v hv
  have:=(ho.lt k hk).1
  exact Below.heap_setCell _ _ _ _ (by simp;omega)
theorem zBu {w w1 w':World} {B:Nat} {tv:Value} {ts:List P.Thr} (hth:zAn w1 B tv ts) (hb1:Below w.heap.size w w1) (hres:w1.heap[w.heap.size]?=some (.cells #[.slice none 0 0] 48 (0,0)))
  (hb:Below (w1.alloc (.cells #[tv] 48)).heap.size (w1.alloc (.cells #[tv] 48)) w') (hB:w.heap.size+1≤B:=by simp) :
  zAn w' (w.heap.size+1) tv ts∧Below w.heap.size w w'∧w'.heap[w.heap.size]?=some (.cells #[.slice none 0 0] 48 (0,0))∧w'.heap[w1.heap.size]?=some (.cells #[tv] 48 (0,0))∧w1.heap.size<w'.heap.size:=by
 have hlt:w.heap.size<w1.heap.size:=(Array.getElem?_eq_some_iff.1 hres).1
 refine⟨(hth.keep (fun k hk=>?_)).base hB,?_,?_,?_,?_⟩
 ·rw[hb.block k (by simp;omega)];exact Below.heap_alloc _ _ _ hk
 ·exact (hb1.alloc hb1.size _).trans (hb.mono (by simp;omega))
 ·rw[hb.block _ (by simp;omega),Below.heap_alloc _ _ _ hlt];exact hres
 ·rw[hb.block _ (by simp)];exact heap_alloc_new w1 _
 ·have:=hb.size;simp at this;omega
theorem zGh (s:ByteArray) (w:World) (hs:s.size≤8192) (h:s.size≤2000) (hl:((P.lines s.toList).2 != 0)=false) (hi:(P.zOK (P.lines s.toList).1 != 0)=true) :
  Calls Tryz.prog 23 #[.string s] w fun e w'=>e=.returned (.tuple #[.agg #[.slice none 0 0],.int .i64 3,.int .i64 (P.zOK (P.lines s.toList).1)])∧Below w.heap.size w w':=by
 have h':¬ (2000:Int)<(s.size:Int):=by omega
 have hl0:(P.lines s.toList).2=0:=by simpa using hl
 obtain⟨hne,h4,hst'⟩:=P.zPo s.toList hl0
 have hst:∀ t∈(P.lines s.toList).1,t.stmts.length<10000:=fun t ht=>by have:=hst' t ht;rw[zAr] at this;omega
 clear hl0 hst'
 go_enter Tryz.func23,Tryz.ntmps23
 go_wp2_with (first | (go_at_call 30;refine (zCT s _ hs).mono ?_;rintro e w1 ⟨tv,rfl,hth,hb1⟩;obtain⟨ta,tc,rfl,hta⟩:=hth.form;have hsz1:w.heap.size+1≤w1.heap.size:=(by have:=hb1.size;simp at this;omega);have hres:w1.heap[w.heap.size]?=some (.cells #[.slice none 0 0] 48 (0,0)):=(by rw[hb1.block _ (by simp)];exact heap_alloc_new w _);obtain⟨z0,z1,z2⟩:=zAz hres;have HRES:=zAa hres;have HTH:=zAa hth;have HB1:Hid (Below w.heap.size w w1):=((Below.refl _ _).alloc (Nat.le_refl _) _).trans (hb1.mono (by simp));obtain⟨bt,rfl⟩:=hta hne;have TK:Hid (∀ w':World,Below (w1.alloc (.cells #[(.slice (some ⟨bt,0,none⟩) (P.lines s.toList).1.length tc)] 48)).heap.size (w1.alloc (.cells #[(.slice (some ⟨bt,0,none⟩) (P.lines s.toList).1.length tc)] 48)) w'→zAn w' (w.heap.size+1) (.slice (some ⟨bt,0,none⟩) (P.lines s.toList).1.length tc) (P.lines s.toList).1∧Below w.heap.size w w'∧w'.heap[w.heap.size]?=some (.cells #[.slice none 0 0] 48 (0,0))∧w'.heap[w1.heap.size]?=some (.cells #[(.slice (some ⟨bt,0,none⟩) (P.lines s.toList).1.length tc)] 48 (0,0))∧w1.heap.size<w'.heap.size):=(fun w' hb'=>zBu HTH.out HB1.out HRES.out hb');clear hres hth hb1) | (go_at_call 31;refine (zDp (w.heap.size+1) bt _ tc (P.lines s.toList).1 _ (by exact (TK.out _ (Below.refl _ _)).1) rfl (by omega) hst).mono ?_;rintro e w2 ⟨rfl,hb2⟩;obtain⟨t2,v2,r2,q2,l2⟩:=TK.out w2 hb2;obtain⟨y0,y1,y2⟩:=zAz r2;obtain⟨x0,x1,x2⟩:=zAz q2;have T2:=zAa t2;have R2:=zAa r2;have Q2:=zAa q2;clear t2 r2 q2))
 refine zBq (p:=2) (u:=3) (v:=4) w.heap.size (.slice none 0 0) _ _ (by kernel_rfl) rfl rfl rfl (by exact zAe R2.out 0 _) rfl ⟨rfl,v2.setCell (Nat.le_refl _) _⟩
theorem zFp (s:ByteArray) (w:World) (hs:s.size≤8192) (h:s.size≤2000) (hl:((P.lines s.toList).2 != 0)=false) (hi:(P.zOK (P.lines s.toList).1 != 0)=false) (hu:(P.zOm (P.lines s.toList).1 (P.lines s.toList).1 != 0)=true) :
  Calls Tryz.prog 23 #[.string s] w fun e w'=>e=.returned (.tuple #[.agg #[.slice none 0 0],.int .i64 3,.int .i64 (P.zOm (P.lines s.toList).1 (P.lines s.toList).1)])∧Below w.heap.size w w':=by
 have h':¬ (2000:Int)<(s.size:Int):=by omega
 have hl0:(P.lines s.toList).2=0:=by simpa using hl
 obtain⟨hne,h4,hst'⟩:=P.zPo s.toList hl0
 have hst:∀ t∈(P.lines s.toList).1,t.stmts.length<10000:=fun t ht=>by have:=hst' t ht;rw[zAr] at this;omega
 clear hl0 hst'
 go_enter Tryz.func23,Tryz.ntmps23
 go_wp2_with (first | (go_at_call 30;refine (zCT s _ hs).mono ?_;rintro e w1 ⟨tv,rfl,hth,hb1⟩;obtain⟨ta,tc,rfl,hta⟩:=hth.form;have hsz1:w.heap.size+1≤w1.heap.size:=(by have:=hb1.size;simp at this;omega);have hres:w1.heap[w.heap.size]?=some (.cells #[.slice none 0 0] 48 (0,0)):=(by rw[hb1.block _ (by simp)];exact heap_alloc_new w _);obtain⟨z0,z1,z2⟩:=zAz hres;have HRES:=zAa hres;have HTH:=zAa hth;have HB1:Hid (Below w.heap.size w w1):=((Below.refl _ _).alloc (Nat.le_refl _) _).trans (hb1.mono (by simp));obtain⟨bt,rfl⟩:=hta hne;have TK:Hid (∀ w':World,Below (w1.alloc (.cells #[(.slice (some ⟨bt,0,none⟩) (P.lines s.toList).1.length tc)] 48)).heap.size (w1.alloc (.cells #[(.slice (some ⟨bt,0,none⟩) (P.lines s.toList).1.length tc)] 48)) w'→zAn w' (w.heap.size+1) (.slice (some ⟨bt,0,none⟩) (P.lines s.toList).1.length tc) (P.lines s.toList).1∧Below w.heap.size w w'∧w'.heap[w.heap.size]?=some (.cells #[.slice none 0 0] 48 (0,0))∧w'.heap[w1.heap.size]?=some (.cells #[(.slice (some ⟨bt,0,none⟩) (P.lines s.toList).1.length tc)] 48 (0,0))∧w1.heap.size<w'.heap.size):=(fun w' hb'=>zBu HTH.out HB1.out HRES.out hb');clear hres hth hb1) | (go_at_call 31;refine (zDp (w.heap.size+1) bt _ tc (P.lines s.toList).1 _ (by exact (TK.out _ (Below.refl _ _)).1) rfl (by omega) hst).mono ?_;rintro e w2 ⟨rfl,hb2⟩;obtain⟨t2,v2,r2,q2,l2⟩:=TK.out w2 hb2;obtain⟨y0,y1,y2⟩:=zAz r2;obtain⟨x0,x1,x2⟩:=zAz q2;have T2:=zAa t2;have R2:=zAa r2;have Q2:=zAa q2;clear t2 r2 q2) | (go_at_call 32;refine (zBR (w.heap.size+1) bt _ tc (P.lines s.toList).1 _ (by exact T2.out) rfl (by omega) hst).mono ?_;rintro e w3 ⟨rfl,hb3⟩;obtain⟨t3,v3,r3,q3,l3⟩:=TK.out w3 (hb2.trans (hb3.mono hb2.size));obtain⟨y0,y1,y2⟩:=zAz r3;obtain⟨x0,x1,x2⟩:=zAz q3;have T3:=zAa t3;have R3:=zAa r3;clear t3 r3 q3))
 refine zBq (p:=2) (u:=3) (v:=4) w.heap.size (.slice none 0 0) _ _ (by kernel_rfl) rfl rfl rfl (by exact zAe R3.out 0 _) rfl ⟨rfl,v3.setCell (Nat.le_refl _) _⟩
theorem zGV (s:ByteArray) (w:World) (hs:s.size≤8192) (h:s.size≤2000) (hl:((P.lines s.toList).2 != 0)=false) (hi:(P.zOK (P.lines s.toList).1 != 0)=false) (hu:(P.zOm (P.lines s.toList).1 (P.lines s.toList).1 != 0)=false) (ho:P.over (P.lines s.toList).1=true) :
  Calls Tryz.prog 23 #[.string s] w fun e w'=>e=.returned (.tuple #[.agg #[.slice none 0 0],.int .i64 4,.int .i64 0])∧Below w.heap.size w w':=by
 have h':¬ (2000:Int)<(s.size:Int):=by omega
 have hl0:(P.lines s.toList).2=0:=by simpa using hl
 obtain⟨hne,h4,hst'⟩:=P.zPo s.toList hl0
 have hst:∀ t∈(P.lines s.toList).1,t.stmts.length<10000:=fun t ht=>by have:=hst' t ht;rw[zAr] at this;omega
 clear hl0 hst'
 go_enter Tryz.func23,Tryz.ntmps23
 go_wp2_with (first | (go_at_call 30;refine (zCT s _ hs).mono ?_;rintro e w1 ⟨tv,rfl,hth,hb1⟩;obtain⟨ta,tc,rfl,hta⟩:=hth.form;have hsz1:w.heap.size+1≤w1.heap.size:=(by have:=hb1.size;simp at this;omega);have hres:w1.heap[w.heap.size]?=some (.cells #[.slice none 0 0] 48 (0,0)):=(by rw[hb1.block _ (by simp)];exact heap_alloc_new w _);obtain⟨z0,z1,z2⟩:=zAz hres;have HRES:=zAa hres;have HTH:=zAa hth;have HB1:Hid (Below w.heap.size w w1):=((Below.refl _ _).alloc (Nat.le_refl _) _).trans (hb1.mono (by simp));obtain⟨bt,rfl⟩:=hta hne;have TK:Hid (∀ w':World,Below (w1.alloc (.cells #[(.slice (some ⟨bt,0,none⟩) (P.lines s.toList).1.length tc)] 48)).heap.size (w1.alloc (.cells #[(.slice (some ⟨bt,0,none⟩) (P.lines s.toList).1.length tc)] 48)) w'→zAn w' (w.heap.size+1) (.slice (some ⟨bt,0,none⟩) (P.lines s.toList).1.length tc) (P.lines s.toList).1∧Below w.heap.size w w'∧w'.heap[w.heap.size]?=some (.cells #[.slice none 0 0] 48 (0,0))∧w'.heap[w1.heap.size]?=some (.cells #[(.slice (some ⟨bt,0,none⟩) (P.lines s.toList).1.length tc)] 48 (0,0))∧w1.heap.size<w'.heap.size):=(fun w' hb'=>zBu HTH.out HB1.out HRES.out hb');clear hres hth hb1) | (go_at_call 31;refine (zDp (w.heap.size+1) bt _ tc (P.lines s.toList).1 _ (by exact (TK.out _ (Below.refl _ _)).1) rfl (by omega) hst).mono ?_;rintro e w2 ⟨rfl,hb2⟩;obtain⟨t2,v2,r2,q2,l2⟩:=TK.out w2 hb2;obtain⟨y0,y1,y2⟩:=zAz r2;obtain⟨x0,x1,x2⟩:=zAz q2;have T2:=zAa t2;have R2:=zAa r2;have Q2:=zAa q2;clear t2 r2 q2) | (go_at_call 32;refine (zBR (w.heap.size+1) bt _ tc (P.lines s.toList).1 _ (by exact T2.out) rfl (by omega) hst).mono ?_;rintro e w3 ⟨rfl,hb3⟩;obtain⟨t3,v3,r3,q3,l3⟩:=TK.out w3 (hb2.trans (hb3.mono hb2.size));obtain⟨y0,y1,y2⟩:=zAz r3;obtain⟨x0,x1,x2⟩:=zAz q3;have T3:=zAa t3;have R3:=zAa r3;clear t3 r3 q3) | (go_at_call 33;refine (zDq (w.heap.size+1) bt _ tc (P.lines s.toList).1 _ (by exact T3.out) rfl (by omega) hst).mono ?_;rintro e w4 ⟨rfl,hb4⟩;obtain⟨t4,v4,r4,q4,l4⟩:=TK.out w4 ((hb2.trans (hb3.mono hb2.size)).trans (hb4.mono (hb2.trans (hb3.mono hb2.size)).size));obtain⟨y0,y1,y2⟩:=zAz r4;obtain⟨x0,x1,x2⟩:=zAz q4;have T4:=zAa t4;have R4:=zAa r4;clear t4 r4 q4))
 refine zBq (p:=2) (u:=3) (v:=4) w.heap.size (.slice none 0 0) _ _ (by kernel_rfl) rfl rfl rfl (by exact zAe R4.out 0 _) rfl ⟨rfl,v4.setCell (Nat.le_refl _) _⟩
theorem zIX (s:ByteArray) (w:World) (hs:s.size≤8192) (h:s.size≤2000) (hl:((P.lines s.toList).2 != 0)=false) (hi:(P.zOK (P.lines s.toList).1 != 0)=false) (hu:(P.zOm (P.lines s.toList).1 (P.lines s.toList).1 != 0)=false) (ho:P.over (P.lines s.toList).1=false) :
  Calls Tryz.prog 23 #[.string s] w fun e w'=>∃ bt tc,e=.returned (.tuple #[.agg #[(.slice (some ⟨bt,0,none⟩) (P.lines s.toList).1.length tc)],.int .i64 0,.int .i64 0])∧zAn w' w.heap.size (.slice (some ⟨bt,0,none⟩) (P.lines s.toList).1.length tc) (P.lines s.toList).1∧Below w.heap.size w w':=by
 have h':¬ (2000:Int)<(s.size:Int):=by omega
 have hl0:(P.lines s.toList).2=0:=by simpa using hl
 obtain⟨hne,h4,hst'⟩:=P.zPo s.toList hl0
 have hst:∀ t∈(P.lines s.toList).1,t.stmts.length<10000:=fun t ht=>by have:=hst' t ht;rw[zAr] at this;omega
 clear hl0 hst'
 go_enter Tryz.func23,Tryz.ntmps23
 go_wp2_with (first | (go_at_call 30;refine (zCT s _ hs).mono ?_;rintro e w1 ⟨tv,rfl,hth,hb1⟩;obtain⟨ta,tc,rfl,hta⟩:=hth.form;have hsz1:w.heap.size+1≤w1.heap.size:=(by have:=hb1.size;simp at this;omega);have hres:w1.heap[w.heap.size]?=some (.cells #[.slice none 0 0] 48 (0,0)):=(by rw[hb1.block _ (by simp)];exact heap_alloc_new w _);obtain⟨z0,z1,z2⟩:=zAz hres;have HRES:=zAa hres;have HTH:=zAa hth;have HB1:Hid (Below w.heap.size w w1):=((Below.refl _ _).alloc (Nat.le_refl _) _).trans (hb1.mono (by simp));obtain⟨bt,rfl⟩:=hta hne;have TK:Hid (∀ w':World,Below (w1.alloc (.cells #[(.slice (some ⟨bt,0,none⟩) (P.lines s.toList).1.length tc)] 48)).heap.size (w1.alloc (.cells #[(.slice (some ⟨bt,0,none⟩) (P.lines s.toList).1.length tc)] 48)) w'→zAn w' (w.heap.size+1) (.slice (some ⟨bt,0,none⟩) (P.lines s.toList).1.length tc) (P.lines s.toList).1∧Below w.heap.size w w'∧w'.heap[w.heap.size]?=some (.cells #[.slice none 0 0] 48 (0,0))∧w'.heap[w1.heap.size]?=some (.cells #[(.slice (some ⟨bt,0,none⟩) (P.lines s.toList).1.length tc)] 48 (0,0))∧w1.heap.size<w'.heap.size):=(fun w' hb'=>zBu HTH.out HB1.out HRES.out hb');clear hres hth hb1) | (go_at_call 31;refine (zDp (w.heap.size+1) bt _ tc (P.lines s.toList).1 _ (by exact (TK.out _ (Below.refl _ _)).1) rfl (by omega) hst).mono ?_;rintro e w2 ⟨rfl,hb2⟩;obtain⟨t2,v2,r2,q2,l2⟩:=TK.out w2 hb2;obtain⟨y0,y1,y2⟩:=zAz r2;obtain⟨x0,x1,x2⟩:=zAz q2;have T2:=zAa t2;have R2:=zAa r2;have Q2:=zAa q2;clear t2 r2 q2) | (go_at_call 32;refine (zBR (w.heap.size+1) bt _ tc (P.lines s.toList).1 _ (by exact T2.out) rfl (by omega) hst).mono ?_;rintro e w3 ⟨rfl,hb3⟩;obtain⟨t3,v3,r3,q3,l3⟩:=TK.out w3 (hb2.trans (hb3.mono hb2.size));obtain⟨y0,y1,y2⟩:=zAz r3;obtain⟨x0,x1,x2⟩:=zAz q3;have T3:=zAa t3;have R3:=zAa r3;clear t3 r3 q3) | (go_at_call 33;refine (zDq (w.heap.size+1) bt _ tc (P.lines s.toList).1 _ (by exact T3.out) rfl (by omega) hst).mono ?_;rintro e w4 ⟨rfl,hb4⟩;obtain⟨t4,v4,r4,q4,l4⟩:=TK.out w4 ((hb2.trans (hb3.mono hb2.size)).trans (hb4.mono (hb2.trans (hb3.mono hb2.size)).size));obtain⟨y0,y1,y2⟩:=zAz r4;obtain⟨x0,x1,x2⟩:=zAz q4;have T4:=zAa t4;have R4:=zAa r4;clear t4 r4 q4))
 refine zBq (p:=2) (u:=3) (v:=4) w.heap.size _ _ _ (by kernel_rfl) rfl rfl rfl (by exact zAe R4.out 0 _) rfl ⟨_,_,rfl,T4.out.set _,v4.setCell (Nat.le_refl _) _⟩
theorem zIY (i:Nat) (w:World) (h:i<100) :
  Calls Tryz.prog 184 #[.int .i64 (i:Int)] w fun e w'=>e=.returned (.string ⟨(Lib.decDigits i).toArray⟩)∧w'=w:=by
 go_enter Tryz.func184,Tryz.ntmps184
 go_name_bytes_deep 45 SM hSM
 have eSM:SM=Lib.smalls:=by rw[← hSM];decide +kernel
 subst eSM
 clear hSM
 go_name_bytes_deep 30 DG hDG
 have eDG:DG=Lib.digits36:=by rw[← hDG];decide +kernel
 subst eDG
 clear hDG
 by_cases h10:i<10
 ·have hsl:∀ w,(Instr.slice 9 (.string Lib.digits36) (some (.int .i64 (i:Int))) (some (.int .i64 ((i:Int)+1))) none).run Tryz.prog w=.ok (.string (Lib.digits36.extract i (i+1))) w:=fun w=>by
   rw[run_slice_string w 9 Lib.digits36 .i64 .i64 _ _ Tryz.underlying9 (by omega) (by omega) (by rw[Lib.digits36_size];omega),show ((i:Int)).toNat=i by omega,show ((i:Int)+1).toNat=i+1 by omega]
  go_wp2
  go_ret
  refine⟨?_,rfl⟩
  show Ending.returned (Value.string (Lib.digits36.extract i (i+1)))=_
  rw[zJO (Lib.digits36.extract i (i+1)) (Lib.decDigits i) (by rw[Lib.extract_data];exact Lib.digits36_piece h10)]
 ·have hsl:∀ w,(Instr.slice 9 (.string Lib.smalls) (some (.int .i64 ((i:Int)*2))) (some (.int .i64 ((i:Int)*2+2))) none).run Tryz.prog w=.ok (.string (Lib.smalls.extract (i*2) (i*2+2))) w:=fun w=>by
   rw[run_slice_string w 9 Lib.smalls .i64 .i64 _ _ Tryz.underlying9 (by omega) (by omega) (by rw[Lib.smalls_size];omega),show ((i:Int)*2).toNat=i*2 by omega,show ((i:Int)*2+2).toNat=i*2+2 by omega]
  go_wp2
  go_ret
  refine⟨?_,rfl⟩
  show Ending.returned (Value.string (Lib.smalls.extract (i*2) (i*2+2)))=_
  rw[zJO (Lib.smalls.extract (i*2) (i*2+2)) (Lib.decDigits i) (by rw[Lib.extract_data];exact Lib.smalls_piece h10 h)]
theorem zHX (i:Nat) (w:World) (h:i<100) :
  Calls Tryz.prog 164 #[.int .i64 (i:Int),.int .i64 10] w fun e w'=>e=.returned (.string ⟨(Lib.decDigits i).toArray⟩)∧w'=w:=by
 have h1:(0:Int)≤(i:Int):=by omega
 have h2:(i:Int)<100:=by omega
 go_enter Tryz.func164,Tryz.ntmps164
 go_wp2_with (first | (go_at_call 184;refine (zIY i _ h).mono ?_;rintro e w' ⟨rfl,rfl⟩))
 go_ret
 exact⟨rfl,rfl⟩
theorem zJY (n:Int) (w:World) (h0:0≤n) (h:n<100) :
  Calls Tryz.prog 83 #[.int .i64 n] w fun e w'=>e=.returned (.string ⟨(Lib.decDigits n.toNat).toArray⟩)∧w'=w:=by
 obtain⟨i,rfl⟩:=Int.eq_ofNat_of_zero_le h0
 rw[Int.toNat_natCast]
 go_enter Tryz.func83,Tryz.ntmps83
 go_wp2_with (first | (go_at_call 164;refine (zHX i _ (by omega)).mono ?_;rintro e w' ⟨rfl,rfl⟩) | go_in)
 go_ret
 exact⟨rfl,rfl⟩
theorem zEf (n:Int) (w:World) (h0:0≤n) (h:n<100) :
  Calls Tryz.prog 83 #[.int .i64 n] w fun e w'=>∃ s,e=.returned (.string s)∧Txt 2 s (P.dec n)∧w'=w:=by
 refine (zJY n w h0 h).mono ?_
 rintro e w' ⟨rfl,rfl⟩
 refine⟨_,rfl,⟨zAq _,?_⟩,rfl⟩
 have:=P.dec_len n h
 rw[← zAr,zAq];exact this
theorem zEg (n:Int) (w:World) (h0:0≤n) (h:n<100) :
  Calls Tryz.prog 135 #[.int .i64 n] w fun e w'=>∃ s,e=.returned (.string s)∧Txt 4 s (P.regT n)∧w'=w:=by
 go_enter Tryz.func135,Tryz.ntmps135
 go_wp2_with (first | (go_at_call 83;refine (zEf n _ h0 h).mono ?_;rintro e w' ⟨s,rfl,hs,rfl⟩;have hsz:=hs.size))
 go_ret
 refine⟨_,rfl,⟨?_,?_⟩,rfl⟩
 ·simp[zAt,zAf,hs.1,P.regT]
 ·simp[zAR];omega
theorem zFq (n:Int) (w:World) :
  Calls Tryz.prog 136 #[.int .i64 n] w fun e w'=>∃ s,e=.returned (.string s)∧Txt 3 s (P.celT n)∧w'=w:=by
 go_enter Tryz.func136,Tryz.ntmps136
 go_wp2
 all_goals go_ret
 all_goals refine⟨_,rfl,⟨?_,by simp[zAR]⟩,rfl⟩
 all_goals simp[P.celT,P.varT,zAf, *]
theorem zJZ (n:Int) (w:World) :
  Calls Tryz.prog 134 #[.int .i64 n] w fun e w'=>∃ s,e=.returned (.string s)∧Txt 8 s ([46]++P.ordT n)∧w'=w:=by
 go_enter Tryz.func134,Tryz.ntmps134
 go_wp2
 all_goals go_ret
 all_goals refine⟨_,rfl,⟨?_,by simp[zAR]⟩,rfl⟩
 all_goals simp[P.ordT,zAf, *]
theorem zCN (n:Int) (w:World) (h0:0≤n) (h:n<100) :
  Calls Tryz.prog 84 #[.int .i64 n] w fun e w'=>∃ s,e=.returned (.string s)∧Txt 3 s (P.labT n)∧w'=w:=by
 go_enter Tryz.func84,Tryz.ntmps84
 go_wp2_with (first | (go_at_call 83;refine (zEf n _ h0 h).mono ?_;rintro e w' ⟨s,rfl,hs,rfl⟩;have hsz:=hs.size))
 go_ret
 refine⟨_,rfl,⟨?_,?_⟩,rfl⟩
 ·simp[zAt,zAf,hs.1,P.labT]
 ·simp[zAR];omega
theorem zFr (n:Int) (w:World) (h0:0≤n) (h:n<100) :
  Calls Tryz.prog 44 #[.int .i64 n] w fun e w'=>∃ s,e=.returned (.string s)∧Txt 10 s ([46,116,104,114,101,97,100,32]++P.dec n)∧w'=w:=by
 go_enter Tryz.func44,Tryz.ntmps44
 go_wp2_with (first | (go_at_call 83;refine (zEf n _ h0 h).mono ?_;rintro e w' ⟨s,rfl,hs,rfl⟩;have hsz:=hs.size))
 go_ret
 refine⟨_,rfl,⟨?_,?_⟩,rfl⟩
 ·simp[zAt,zAf,hs.1]
 ·simp[zAR];omega
theorem zEh (o:P.Opd) (w:World) (h0:0≤o.n) (h:o.n<100) :
  Calls Tryz.prog 137 #[.agg #[.bool o.reg,.int .i64 o.n]] w fun e w'=>∃ s,e=.returned (.string s)∧Txt 4 s (P.opdT o)∧Below w.heap.size w w':=by
 cases hr:o.reg
 ·go_enter Tryz.func137,Tryz.ntmps137
  go_wp2_with (first | (go_at_call 83;refine (zEf o.n _ h0 h).mono ?_;rintro e w' ⟨s,rfl,hs,rfl⟩;have hsz:=hs.size))
  go_ret
  refine⟨_,rfl,⟨?_,by omega⟩,(Below.refl _ _).alloc (Nat.le_refl _) _⟩
  rw[hs.1];simp[P.opdT,hr]
 ·go_enter Tryz.func137,Tryz.ntmps137
  go_wp2_with (first | (go_at_call 135;refine (zEg o.n _ h0 h).mono ?_;rintro e w' ⟨s,rfl,hs,rfl⟩;have hsz:=hs.size))
  go_ret
  refine⟨_,rfl,⟨?_,by omega⟩,(Below.refl _ _).alloc (Nat.le_refl _) _⟩
  rw[hs.1];simp[P.opdT,hr]
namespace P
def sufO (o sc:Int):List UInt8:=if o==0 then [46,119,101,97,107] else [46]++ordT o++(if sc==0 then [46,99,116,97] else [46,103,112,117])
theorem sufO_eq (st:Stm):sufO st.order st.scope=sufT st:=rfl
end P
theorem zFs (o sc:Int) (w:World) :
  Calls Tryz.prog 87 #[.int .i64 o,.int .i64 sc] w fun e w'=>∃ s,e=.returned (.string s)∧Txt 20 s (P.sufO o sc)∧w'=w:=by
 cases h0:(o==0)
 ·cases h1:(sc==0)
  all_goals
   go_enter Tryz.func87,Tryz.ntmps87
   go_wp2_with (first | (go_at_call 134;refine (zJZ o _).mono ?_;rintro e w' ⟨s,rfl,hs,rfl⟩;have hsz:=hs.size))
   go_ret
   refine⟨_,rfl,⟨?_,?_⟩,rfl⟩
   ·simp[zAt,zAf,hs.1,P.sufO,h0,h1]
   ·simp[zAR];omega
 ·go_enter Tryz.func87,Tryz.ntmps87
  go_wp2
  go_ret
  refine⟨_,rfl,⟨?_,by simp[zAR]⟩,rfl⟩
  simp[zAf,P.sufO,h0]
namespace P
def layT (k:Int):List UInt8 × List UInt8 :=
 if k==0 then ([108,100],[100,118])
 else if k==1 then ([115,116],[118,97])
 else if k==2 then ([97,116,111,109,46,97,100,100],[100,118,97])
 else if k==3 then ([97,116,111,109,46,101,120,99,104],[100,118,97])
 else if k==4 then ([102,101,110,99,101],[])
 else if k==5 then ([98,97,114,46,115,121,110,99],[])
 else if k==6 then ([109,111,118],[100,97])
 else if k==7 then ([97,100,100],[100,97,98])
 else if k==8 then ([115,117,98],[100,97,98])
 else if k==9 then ([115,101,116,101,113],[100,97,98])
 else ([98,122],[97,108])
def isOrd (k:Int):Bool:=(k==0||k==1||k==2||k==3)||k==4
def partT (st:Stm) (c:UInt8):List UInt8 :=
 if c=100 then regT st.dest else if c=118 then celT st.var else if c=97 then opdT st.a else if c=98 then opdT st.b else labT st.label
def joinT (st:Stm):List UInt8→List UInt8
 | []=>[]
 | c::r=>[32]++partT st c++r.flatMap (fun c=>[44,32]++partT st c)
def betT (l:List UInt8):List UInt8:=if l.isEmpty then [32] else [44,32]
theorem zQh (st:Stm) (l:List UInt8) (c:UInt8):joinT st (l++[c])=joinT st l++(betT l++partT st c):=by
 cases l with
 | nil=>simp[joinT,betT]
 | cons a r=>simp[joinT,betT]
theorem instr_end (st:Stm) (h:(st.kind==11)=true):instr st=labT st.label++[58]:=by
 have h':st.kind=11:=by simpa using h
 simp[instr,h']
theorem instr_lay (st:Stm) (h:(st.kind==11)=false):instr st=(layT st.kind).1++(if isOrd st.kind then sufO st.order st.scope else [])++joinT st (layT st.kind).2:=by
 have h':¬ st.kind=11:=by simpa using h
 rw[sufO_eq]
 by_cases hk:st.kind=0∨st.kind=1∨st.kind=2∨st.kind=3∨st.kind=4∨st.kind=5∨st.kind=6∨st.kind=7∨st.kind=8∨st.kind=9
 ·rcases hk with e | e | e | e | e | e | e | e | e | e<;>simp[instr,e,layT,isOrd,joinT,partT]
 ·have h0:¬ st.kind=0:=by omega
  have h1:¬ st.kind=1:=by omega
  have h2:¬ st.kind=2:=by omega
  have h3:¬ st.kind=3:=by omega
  have h4:¬ st.kind=4:=by omega
  have h5:¬ st.kind=5:=by omega
  have h6:¬ st.kind=6:=by omega
  have h7:¬ st.kind=7:=by omega
  have h8:¬ st.kind=8:=by omega
  have h9:¬ st.kind=9:=by omega
  simp[instr,h',h0,h1,h2,h3,h4,h5,h6,h7,h8,h9,layT,isOrd,joinT,partT]
end P
theorem zDr (k:Int) (w:World) :
  Calls Tryz.prog 85 #[.int .i64 k] w fun e w'=>∃ s t,e=.returned (.tuple #[.string s,.string t])∧Txt 9 s (P.layT k).1∧Txt 3 t (P.layT k).2∧w'=w:=by
 go_enter Tryz.func85,Tryz.ntmps85
 go_wp2
 all_goals go_ret2
 all_goals refine⟨_,_,rfl,⟨?_,by simp[zAR]⟩,⟨?_,by simp[zAR]⟩,rfl⟩
 all_goals simp[P.layT,zAf, *]
end Go.Proofs.YtgceflcbckjjiaaGreatDoor
