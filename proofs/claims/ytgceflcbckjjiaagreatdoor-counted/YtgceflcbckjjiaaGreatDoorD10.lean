import Derived.Lib.ItoaWalk
import Derived.Test.YtgceflcbckjjiaaGreatDoorD09
set_option linter.unusedVariables false
set_option linter.unusedSimpArgs false
set_option maxHeartbeats 12800000
namespace Go.Proofs.YtgceflcbckjjiaaGreatDoor
open Go Go.RowKit
set_option maxRecDepth 100000
namespace P
theorem good_run (xs:List (List UInt8)):∀ (k:Nat) (r:Rd),Good k r→Good (k+xs.length) (zLY r xs).1∧r.line≤(zLY r xs).1.line∧((zLY r xs).2=false→r.line<(zLY r xs).1.line):=by
 induction xs with
 | nil=>intro k r h;exact⟨h,by simp[zLY],by simp[zLY]⟩
 | cons x r ih =>
  intro k q h
  have h1:=good_takes (zJZ 32 x) h (by have:=h.lin1;omega)
  have hl:(takes { q with line:=q.line+1 } (zJZ 32 x)).1.line=q.line+1:=by
   unfold takes
   split
   ·unfold zKX
    split
    ·rfl
    ·split
     ·split<;>rfl
     ·rfl
   ·split
    ·rfl
    ·simp only[]
     split
     ·split
      ·unfold ends;split<;>rfl
      ·split
       ·rfl
       ·split
        ·split
         ·rfl
         ·unfold zLQ;split<;>rfl
        ·rfl
     ·rfl
  simp only[zLY]
  cases ht:(takes { q with line:=q.line+1 } (zJZ 32 x)).2
  ·refine⟨?_,?_,?_⟩
   ·have:=h1
    refine⟨this.few,fun t ht=>?_,this.opn,this.ifs0,?_,this.cnt,this.lin0,?_⟩
    ·have:=this.stm t ht;simp;omega
    ·have:=this.ifs1;simp at *;omega
    ·have:=this.lin1;simp at *;omega
   ·simp[hl];omega
   ·simp[hl];omega
  ·obtain⟨a1,a2,a3⟩:=ih (k+1) _ h1
   simp only[if_true]
   refine⟨?_,?_,?_⟩
   ·rw[show k+(x::r).length=k+1+r.length by simp;omega];exact a1
   ·rw[hl] at a2;omega
   ·intro hf
    have:=a3 hf
    rw[hl] at this;omega
theorem zLe (l:List UInt8) (h:(lines l).2=0):(lines l).1≠[]∧(lines l).1.length≤4∧∀ t∈(lines l).1,t.stmts.length≤l.length:=by
 have hl:=zKB 10 l
 obtain⟨g1,g2,g3⟩:=good_run (zJZ 10 l).dropLast 0 Rd.zero good_zero
 have hd:(zJZ 10 l).dropLast.length≤l.length:=by rw[List.length_dropLast];omega
 unfold lines at h ⊢
 simp only[] at h ⊢
 cases hq:(zLY Rd.zero (zJZ 10 l).dropLast).2
 ·have:=g3 hq
  have z:Rd.zero.line=0:=rfl
  simp[hq] at h
  omega
 ·simp only[hq,if_true] at h ⊢
  split at h
  ·have z:Rd.zero.line=0:=rfl
   simp at h;omega
  ·rename_i hno
   rw[if_neg hno]
   refine⟨fun e=>hno (Or.inr (Or.inr e)),g1.few,fun t ht=>?_⟩
   have:=g1.stm t ht
   omega
def kernel (l:List UInt8):List Thr × Int × Int :=
 if 2000<l.length then ([],1,0)
 else if (lines l).2 != 0 then ([],2,(lines l).2)
 else if zKI (lines l).1 != 0 then ([],3,zKI (lines l).1)
 else if zKs (lines l).1 (lines l).1 != 0 then ([],3,zKs (lines l).1 (lines l).1)
 else if over (lines l).1 then ([],4,0)
 else ((lines l).1,0,0)
end P
theorem zDf {fn:Func} {p u v:Tmp} {ty:TypeId} (h:fn.results=#[.cell p ty,.tmp u,.tmp v]) (tmps:Array Value) (Pg:Program) (w:World) :
  (results fn tmps).run Pg w=((asAddr (tmps.getD p undef)).run Pg w).andThen fun a w₁=>((loadVar ty a).run Pg w₁).andThen fun x w₂=>.ok (.tuple #[x,tmps.getD u undef,tmps.getD v undef]) w₂:=by
 simp only[results,h]
 simp[Sem.run_bind,Result.andThen]
theorem zCo {fn:Func} {R:Ending→World→Prop} {a:Act} {w:World} {p u v:Tmp} (g:Nat) (tv uv vv:Value) (hres:fn.results=#[.cell p 48,.tmp u,.tmp v])
  (hp:a.tmps.getD p undef=.pointer (some ⟨g,0,none⟩)) (hu:a.tmps.getD u undef=uv) (hv:a.tmps.getD v undef=vv) (h:w.heap[g]?=some (.cells #[tv] 48 (0,0))) (hd:a.defers=[]) (hR:R (.returned (.tuple #[.agg #[tv],uv,vv])) w):bodyPost Tryz.prog fn R .ret a w:=by
 refine bodyPost_ret (v:=.tuple #[.agg #[tv],uv,vv]) ?_ hd hR
 rw[zDf hres,hp,hu,hv]
 have:(asAddr (.pointer (some ⟨g,0,none⟩))).run Tryz.prog w=.ok ⟨g,0,none⟩ w:=rfl
 rw[this,Result.andThen_ok,zBh w g _ _ _ h _ Tryz.underlying48 rfl (by kernel_rfl),Result.andThen_ok]
theorem zAl.base {w:World} {B B':Nat} {tv:Value} {ts:List P.Thr} (h:zAl w B tv ts) (hb:B'≤B):zAl w B' tv ts:=by
 obtain⟨vs,h1,h2⟩:=h
 exact⟨vs,zBM h1 hb,h2.base hb⟩
theorem zFA (s:ByteArray) (w:World) (hs:s.size≤8192) (h:2000<s.size) :
  Calls Tryz.prog 23 #[.string s] w fun e w'=>e=.returned (.tuple #[.agg #[.slice none 0 0],.int .i64 1,.int .i64 0])∧Below w.heap.size w w':=by
 have h':(2000:Int)<(s.size:Int):=by omega
 go_enter Tryz.func23,Tryz.ntmps23
 go_wp2
 refine zCo (p:=2) (u:=3) (v:=4) w.heap.size (.slice none 0 0) _ _ (by kernel_rfl) rfl rfl rfl (by exact heap_alloc_new w _) rfl ⟨rfl,?_⟩
 exact (Below.refl _ _).alloc (Nat.le_refl _) _
theorem zAl.form {w:World} {B:Nat} {tv:Value} {ts:List P.Thr} (h:zAl w B tv ts):∃ a c,tv=.slice a ts.length c∧(ts≠[]→∃ bt,a=some ⟨bt,0,none⟩):=by
 obtain⟨vs,h1,h2⟩:=h
 rcases h1.2 with ⟨e,h0⟩ | ⟨k,c,cur,e,_⟩
 ·exact⟨none,0,by rw[e,h0],fun hne=>absurd (List.eq_nil_of_length_eq_zero h0) hne⟩
 ·exact⟨_,c,e,fun _=>⟨k,rfl⟩⟩
theorem zEQ (s:ByteArray) (w:World) (hs:s.size≤8192) (h:s.size≤2000) (hl:((P.lines s.toList).2 != 0)=true) :
  Calls Tryz.prog 23 #[.string s] w fun e w'=>e=.returned (.tuple #[.agg #[.slice none 0 0],.int .i64 2,.int .i64 (P.lines s.toList).2])∧Below w.heap.size w w':=by
 have h':¬ (2000:Int)<(s.size:Int):=by omega
 go_enter Tryz.func23,Tryz.ntmps23
 go_wp2_with (first | (go_at_call 30;refine (zCC s _ hs).mono ?_;rintro e w1 ⟨tv,rfl,hth,hb1⟩;obtain⟨ta,tc,rfl,hta⟩:=hth.form;have hsz1:w.heap.size+1≤w1.heap.size:=(by have:=hb1.size;simp at this;omega);have hres:w1.heap[w.heap.size]?=some (.cells #[.slice none 0 0] 48 (0,0)):=(by rw[hb1.block _ (by simp)];exact heap_alloc_new w _);obtain⟨z0,z1,z2⟩:=zAK hres;have HRES:=zAa hres;have HTH:=zAa hth;have HB1:Hid (Below w.heap.size w w1):=((Below.refl _ _).alloc (Nat.le_refl _) _).trans (hb1.mono (by simp));clear hres hth hb1))
 refine zCo (p:=2) (u:=3) (v:=4) w.heap.size (.slice none 0 0) _ _ (by kernel_rfl) rfl rfl rfl ?_ rfl ⟨rfl,?_⟩
 ·rw[Below.heap_alloc _ _ _ (by simp;omega)]
  exact zAf HRES.out 0 _
 ·exact (HB1.out.setCell (Nat.le_refl _) _).alloc (by simp;omega) _
theorem zAl.set {w:World} {B:Nat} {tv:Value} {ts:List P.Thr} (h:zAl w (B+1) tv ts) (u:Value):zAl (w.setCell ⟨B,0,none⟩ u) B tv ts:=by
 obtain⟨vs,h1,h2⟩:=h
 refine⟨vs,zBM (zAd h1 (fun k hk=>?_)) (by omega),(h2.keep (fun v hv k hk=>?_)).base (by omega)⟩
 ·have:=(h1.lt k hk).1
  exact Below.heap_setCell _ _ _ _ (by simp;omega)
 ·obtain⟨n,xs,ho⟩:=h2.mem v hv
  have:=(ho.lt k hk).1
  exact Below.heap_setCell _ _ _ _ (by simp;omega)
theorem zCw {w w1 w':World} {B:Nat} {tv:Value} {ts:List P.Thr} (hth:zAl w1 B tv ts) (hb1:Below w.heap.size w w1) (hres:w1.heap[w.heap.size]?=some (.cells #[.slice none 0 0] 48 (0,0)))
  (hb:Below (w1.alloc (.cells #[tv] 48)).heap.size (w1.alloc (.cells #[tv] 48)) w') (hB:w.heap.size+1≤B:=by simp) :
  zAl w' (w.heap.size+1) tv ts∧Below w.heap.size w w'∧w'.heap[w.heap.size]?=some (.cells #[.slice none 0 0] 48 (0,0))∧w'.heap[w1.heap.size]?=some (.cells #[tv] 48 (0,0))∧w1.heap.size<w'.heap.size:=by
 have hlt:w.heap.size<w1.heap.size:=(Array.getElem?_eq_some_iff.1 hres).1
 refine⟨(hth.keep (fun k hk=>?_)).base hB,?_,?_,?_,?_⟩
 ·rw[hb.block k (by simp;omega)];exact Below.heap_alloc _ _ _ hk
 ·exact (hb1.alloc hb1.size _).trans (hb.mono (by simp;omega))
 ·rw[hb.block _ (by simp;omega),Below.heap_alloc _ _ _ hlt];exact hres
 ·rw[hb.block _ (by simp)];exact heap_alloc_new w1 _
 ·have:=hb.size;simp at this;omega
theorem zER (s:ByteArray) (w:World) (hs:s.size≤8192) (h:s.size≤2000) (hl:((P.lines s.toList).2 != 0)=false) (hi:(P.zKI (P.lines s.toList).1 != 0)=true) :
  Calls Tryz.prog 23 #[.string s] w fun e w'=>e=.returned (.tuple #[.agg #[.slice none 0 0],.int .i64 3,.int .i64 (P.zKI (P.lines s.toList).1)])∧Below w.heap.size w w':=by
 have h':¬ (2000:Int)<(s.size:Int):=by omega
 have hl0:(P.lines s.toList).2=0:=by simpa using hl
 obtain⟨hne,h4,hst'⟩:=P.zLe s.toList hl0
 have hst:∀ t∈(P.lines s.toList).1,t.stmts.length<10000:=fun t ht=>by have:=hst' t ht;rw[zAu] at this;omega
 clear hl0 hst'
 go_enter Tryz.func23,Tryz.ntmps23
 go_wp2_with (first | (go_at_call 30;refine (zCC s _ hs).mono ?_;rintro e w1 ⟨tv,rfl,hth,hb1⟩;obtain⟨ta,tc,rfl,hta⟩:=hth.form;have hsz1:w.heap.size+1≤w1.heap.size:=(by have:=hb1.size;simp at this;omega);have hres:w1.heap[w.heap.size]?=some (.cells #[.slice none 0 0] 48 (0,0)):=(by rw[hb1.block _ (by simp)];exact heap_alloc_new w _);obtain⟨z0,z1,z2⟩:=zAK hres;have HRES:=zAa hres;have HTH:=zAa hth;have HB1:Hid (Below w.heap.size w w1):=((Below.refl _ _).alloc (Nat.le_refl _) _).trans (hb1.mono (by simp));obtain⟨bt,rfl⟩:=hta hne;have TK:Hid (∀ w':World,Below (w1.alloc (.cells #[(.slice (some ⟨bt,0,none⟩) (P.lines s.toList).1.length tc)] 48)).heap.size (w1.alloc (.cells #[(.slice (some ⟨bt,0,none⟩) (P.lines s.toList).1.length tc)] 48)) w'→zAl w' (w.heap.size+1) (.slice (some ⟨bt,0,none⟩) (P.lines s.toList).1.length tc) (P.lines s.toList).1∧Below w.heap.size w w'∧w'.heap[w.heap.size]?=some (.cells #[.slice none 0 0] 48 (0,0))∧w'.heap[w1.heap.size]?=some (.cells #[(.slice (some ⟨bt,0,none⟩) (P.lines s.toList).1.length tc)] 48 (0,0))∧w1.heap.size<w'.heap.size):=(fun w' hb'=>zCw HTH.out HB1.out HRES.out hb');clear hres hth hb1) | (go_at_call 31;refine (zCP (w.heap.size+1) bt _ tc (P.lines s.toList).1 _ (by exact (TK.out _ (Below.refl _ _)).1) rfl (by omega) hst).mono ?_;rintro e w2 ⟨rfl,hb2⟩;obtain⟨t2,v2,r2,q2,l2⟩:=TK.out w2 hb2;obtain⟨y0,y1,y2⟩:=zAK r2;obtain⟨x0,x1,x2⟩:=zAK q2;have T2:=zAa t2;have R2:=zAa r2;have Q2:=zAa q2;clear t2 r2 q2))
 refine zCo (p:=2) (u:=3) (v:=4) w.heap.size (.slice none 0 0) _ _ (by kernel_rfl) rfl rfl rfl (by exact zAf R2.out 0 _) rfl ⟨rfl,v2.setCell (Nat.le_refl _) _⟩
theorem zEy (s:ByteArray) (w:World) (hs:s.size≤8192) (h:s.size≤2000) (hl:((P.lines s.toList).2 != 0)=false) (hi:(P.zKI (P.lines s.toList).1 != 0)=false) (hu:(P.zKs (P.lines s.toList).1 (P.lines s.toList).1 != 0)=true) :
  Calls Tryz.prog 23 #[.string s] w fun e w'=>e=.returned (.tuple #[.agg #[.slice none 0 0],.int .i64 3,.int .i64 (P.zKs (P.lines s.toList).1 (P.lines s.toList).1)])∧Below w.heap.size w w':=by
 have h':¬ (2000:Int)<(s.size:Int):=by omega
 have hl0:(P.lines s.toList).2=0:=by simpa using hl
 obtain⟨hne,h4,hst'⟩:=P.zLe s.toList hl0
 have hst:∀ t∈(P.lines s.toList).1,t.stmts.length<10000:=fun t ht=>by have:=hst' t ht;rw[zAu] at this;omega
 clear hl0 hst'
 go_enter Tryz.func23,Tryz.ntmps23
 go_wp2_with (first | (go_at_call 30;refine (zCC s _ hs).mono ?_;rintro e w1 ⟨tv,rfl,hth,hb1⟩;obtain⟨ta,tc,rfl,hta⟩:=hth.form;have hsz1:w.heap.size+1≤w1.heap.size:=(by have:=hb1.size;simp at this;omega);have hres:w1.heap[w.heap.size]?=some (.cells #[.slice none 0 0] 48 (0,0)):=(by rw[hb1.block _ (by simp)];exact heap_alloc_new w _);obtain⟨z0,z1,z2⟩:=zAK hres;have HRES:=zAa hres;have HTH:=zAa hth;have HB1:Hid (Below w.heap.size w w1):=((Below.refl _ _).alloc (Nat.le_refl _) _).trans (hb1.mono (by simp));obtain⟨bt,rfl⟩:=hta hne;have TK:Hid (∀ w':World,Below (w1.alloc (.cells #[(.slice (some ⟨bt,0,none⟩) (P.lines s.toList).1.length tc)] 48)).heap.size (w1.alloc (.cells #[(.slice (some ⟨bt,0,none⟩) (P.lines s.toList).1.length tc)] 48)) w'→zAl w' (w.heap.size+1) (.slice (some ⟨bt,0,none⟩) (P.lines s.toList).1.length tc) (P.lines s.toList).1∧Below w.heap.size w w'∧w'.heap[w.heap.size]?=some (.cells #[.slice none 0 0] 48 (0,0))∧w'.heap[w1.heap.size]?=some (.cells #[(.slice (some ⟨bt,0,none⟩) (P.lines s.toList).1.length tc)] 48 (0,0))∧w1.heap.size<w'.heap.size):=(fun w' hb'=>zCw HTH.out HB1.out HRES.out hb');clear hres hth hb1) | (go_at_call 31;refine (zCP (w.heap.size+1) bt _ tc (P.lines s.toList).1 _ (by exact (TK.out _ (Below.refl _ _)).1) rfl (by omega) hst).mono ?_;rintro e w2 ⟨rfl,hb2⟩;obtain⟨t2,v2,r2,q2,l2⟩:=TK.out w2 hb2;obtain⟨y0,y1,y2⟩:=zAK r2;obtain⟨x0,x1,x2⟩:=zAK q2;have T2:=zAa t2;have R2:=zAa r2;have Q2:=zAa q2;clear t2 r2 q2) | (go_at_call 32;refine (zDe (w.heap.size+1) bt _ tc (P.lines s.toList).1 _ (by exact T2.out) rfl (by omega) hst).mono ?_;rintro e w3 ⟨rfl,hb3⟩;obtain⟨t3,v3,r3,q3,l3⟩:=TK.out w3 (hb2.trans (hb3.mono hb2.size));obtain⟨y0,y1,y2⟩:=zAK r3;obtain⟨x0,x1,x2⟩:=zAK q3;have T3:=zAa t3;have R3:=zAa r3;clear t3 r3 q3))
 refine zCo (p:=2) (u:=3) (v:=4) w.heap.size (.slice none 0 0) _ _ (by kernel_rfl) rfl rfl rfl (by exact zAf R3.out 0 _) rfl ⟨rfl,v3.setCell (Nat.le_refl _) _⟩
theorem zFB (s:ByteArray) (w:World) (hs:s.size≤8192) (h:s.size≤2000) (hl:((P.lines s.toList).2 != 0)=false) (hi:(P.zKI (P.lines s.toList).1 != 0)=false) (hu:(P.zKs (P.lines s.toList).1 (P.lines s.toList).1 != 0)=false) (ho:P.over (P.lines s.toList).1=true) :
  Calls Tryz.prog 23 #[.string s] w fun e w'=>e=.returned (.tuple #[.agg #[.slice none 0 0],.int .i64 4,.int .i64 0])∧Below w.heap.size w w':=by
 have h':¬ (2000:Int)<(s.size:Int):=by omega
 have hl0:(P.lines s.toList).2=0:=by simpa using hl
 obtain⟨hne,h4,hst'⟩:=P.zLe s.toList hl0
 have hst:∀ t∈(P.lines s.toList).1,t.stmts.length<10000:=fun t ht=>by have:=hst' t ht;rw[zAu] at this;omega
 clear hl0 hst'
 go_enter Tryz.func23,Tryz.ntmps23
 go_wp2_with (first | (go_at_call 30;refine (zCC s _ hs).mono ?_;rintro e w1 ⟨tv,rfl,hth,hb1⟩;obtain⟨ta,tc,rfl,hta⟩:=hth.form;have hsz1:w.heap.size+1≤w1.heap.size:=(by have:=hb1.size;simp at this;omega);have hres:w1.heap[w.heap.size]?=some (.cells #[.slice none 0 0] 48 (0,0)):=(by rw[hb1.block _ (by simp)];exact heap_alloc_new w _);obtain⟨z0,z1,z2⟩:=zAK hres;have HRES:=zAa hres;have HTH:=zAa hth;have HB1:Hid (Below w.heap.size w w1):=((Below.refl _ _).alloc (Nat.le_refl _) _).trans (hb1.mono (by simp));obtain⟨bt,rfl⟩:=hta hne;have TK:Hid (∀ w':World,Below (w1.alloc (.cells #[(.slice (some ⟨bt,0,none⟩) (P.lines s.toList).1.length tc)] 48)).heap.size (w1.alloc (.cells #[(.slice (some ⟨bt,0,none⟩) (P.lines s.toList).1.length tc)] 48)) w'→zAl w' (w.heap.size+1) (.slice (some ⟨bt,0,none⟩) (P.lines s.toList).1.length tc) (P.lines s.toList).1∧Below w.heap.size w w'∧w'.heap[w.heap.size]?=some (.cells #[.slice none 0 0] 48 (0,0))∧w'.heap[w1.heap.size]?=some (.cells #[(.slice (some ⟨bt,0,none⟩) (P.lines s.toList).1.length tc)] 48 (0,0))∧w1.heap.size<w'.heap.size):=(fun w' hb'=>zCw HTH.out HB1.out HRES.out hb');clear hres hth hb1) | (go_at_call 31;refine (zCP (w.heap.size+1) bt _ tc (P.lines s.toList).1 _ (by exact (TK.out _ (Below.refl _ _)).1) rfl (by omega) hst).mono ?_;rintro e w2 ⟨rfl,hb2⟩;obtain⟨t2,v2,r2,q2,l2⟩:=TK.out w2 hb2;obtain⟨y0,y1,y2⟩:=zAK r2;obtain⟨x0,x1,x2⟩:=zAK q2;have T2:=zAa t2;have R2:=zAa r2;have Q2:=zAa q2;clear t2 r2 q2) | (go_at_call 32;refine (zDe (w.heap.size+1) bt _ tc (P.lines s.toList).1 _ (by exact T2.out) rfl (by omega) hst).mono ?_;rintro e w3 ⟨rfl,hb3⟩;obtain⟨t3,v3,r3,q3,l3⟩:=TK.out w3 (hb2.trans (hb3.mono hb2.size));obtain⟨y0,y1,y2⟩:=zAK r3;obtain⟨x0,x1,x2⟩:=zAK q3;have T3:=zAa t3;have R3:=zAa r3;clear t3 r3 q3) | (go_at_call 33;refine (zGd (w.heap.size+1) bt _ tc (P.lines s.toList).1 _ (by exact T3.out) rfl (by omega) hst).mono ?_;rintro e w4 ⟨rfl,hb4⟩;obtain⟨t4,v4,r4,q4,l4⟩:=TK.out w4 ((hb2.trans (hb3.mono hb2.size)).trans (hb4.mono (hb2.trans (hb3.mono hb2.size)).size));obtain⟨y0,y1,y2⟩:=zAK r4;obtain⟨x0,x1,x2⟩:=zAK q4;have T4:=zAa t4;have R4:=zAa r4;clear t4 r4 q4))
 refine zCo (p:=2) (u:=3) (v:=4) w.heap.size (.slice none 0 0) _ _ (by kernel_rfl) rfl rfl rfl (by exact zAf R4.out 0 _) rfl ⟨rfl,v4.setCell (Nat.le_refl _) _⟩
theorem zHj (s:ByteArray) (w:World) (hs:s.size≤8192) (h:s.size≤2000) (hl:((P.lines s.toList).2 != 0)=false) (hi:(P.zKI (P.lines s.toList).1 != 0)=false) (hu:(P.zKs (P.lines s.toList).1 (P.lines s.toList).1 != 0)=false) (ho:P.over (P.lines s.toList).1=false) :
  Calls Tryz.prog 23 #[.string s] w fun e w'=>∃ bt tc,e=.returned (.tuple #[.agg #[(.slice (some ⟨bt,0,none⟩) (P.lines s.toList).1.length tc)],.int .i64 0,.int .i64 0])∧zAl w' w.heap.size (.slice (some ⟨bt,0,none⟩) (P.lines s.toList).1.length tc) (P.lines s.toList).1∧Below w.heap.size w w':=by
 have h':¬ (2000:Int)<(s.size:Int):=by omega
 have hl0:(P.lines s.toList).2=0:=by simpa using hl
 obtain⟨hne,h4,hst'⟩:=P.zLe s.toList hl0
 have hst:∀ t∈(P.lines s.toList).1,t.stmts.length<10000:=fun t ht=>by have:=hst' t ht;rw[zAu] at this;omega
 clear hl0 hst'
 go_enter Tryz.func23,Tryz.ntmps23
 go_wp2_with (first | (go_at_call 30;refine (zCC s _ hs).mono ?_;rintro e w1 ⟨tv,rfl,hth,hb1⟩;obtain⟨ta,tc,rfl,hta⟩:=hth.form;have hsz1:w.heap.size+1≤w1.heap.size:=(by have:=hb1.size;simp at this;omega);have hres:w1.heap[w.heap.size]?=some (.cells #[.slice none 0 0] 48 (0,0)):=(by rw[hb1.block _ (by simp)];exact heap_alloc_new w _);obtain⟨z0,z1,z2⟩:=zAK hres;have HRES:=zAa hres;have HTH:=zAa hth;have HB1:Hid (Below w.heap.size w w1):=((Below.refl _ _).alloc (Nat.le_refl _) _).trans (hb1.mono (by simp));obtain⟨bt,rfl⟩:=hta hne;have TK:Hid (∀ w':World,Below (w1.alloc (.cells #[(.slice (some ⟨bt,0,none⟩) (P.lines s.toList).1.length tc)] 48)).heap.size (w1.alloc (.cells #[(.slice (some ⟨bt,0,none⟩) (P.lines s.toList).1.length tc)] 48)) w'→zAl w' (w.heap.size+1) (.slice (some ⟨bt,0,none⟩) (P.lines s.toList).1.length tc) (P.lines s.toList).1∧Below w.heap.size w w'∧w'.heap[w.heap.size]?=some (.cells #[.slice none 0 0] 48 (0,0))∧w'.heap[w1.heap.size]?=some (.cells #[(.slice (some ⟨bt,0,none⟩) (P.lines s.toList).1.length tc)] 48 (0,0))∧w1.heap.size<w'.heap.size):=(fun w' hb'=>zCw HTH.out HB1.out HRES.out hb');clear hres hth hb1) | (go_at_call 31;refine (zCP (w.heap.size+1) bt _ tc (P.lines s.toList).1 _ (by exact (TK.out _ (Below.refl _ _)).1) rfl (by omega) hst).mono ?_;rintro e w2 ⟨rfl,hb2⟩;obtain⟨t2,v2,r2,q2,l2⟩:=TK.out w2 hb2;obtain⟨y0,y1,y2⟩:=zAK r2;obtain⟨x0,x1,x2⟩:=zAK q2;have T2:=zAa t2;have R2:=zAa r2;have Q2:=zAa q2;clear t2 r2 q2) | (go_at_call 32;refine (zDe (w.heap.size+1) bt _ tc (P.lines s.toList).1 _ (by exact T2.out) rfl (by omega) hst).mono ?_;rintro e w3 ⟨rfl,hb3⟩;obtain⟨t3,v3,r3,q3,l3⟩:=TK.out w3 (hb2.trans (hb3.mono hb2.size));obtain⟨y0,y1,y2⟩:=zAK r3;obtain⟨x0,x1,x2⟩:=zAK q3;have T3:=zAa t3;have R3:=zAa r3;clear t3 r3 q3) | (go_at_call 33;refine (zGd (w.heap.size+1) bt _ tc (P.lines s.toList).1 _ (by exact T3.out) rfl (by omega) hst).mono ?_;rintro e w4 ⟨rfl,hb4⟩;obtain⟨t4,v4,r4,q4,l4⟩:=TK.out w4 ((hb2.trans (hb3.mono hb2.size)).trans (hb4.mono (hb2.trans (hb3.mono hb2.size)).size));obtain⟨y0,y1,y2⟩:=zAK r4;obtain⟨x0,x1,x2⟩:=zAK q4;have T4:=zAa t4;have R4:=zAa r4;clear t4 r4 q4))
 refine zCo (p:=2) (u:=3) (v:=4) w.heap.size _ _ _ (by kernel_rfl) rfl rfl rfl (by exact zAf R4.out 0 _) rfl ⟨_,_,rfl,T4.out.set _,v4.setCell (Nat.le_refl _) _⟩
theorem zHk (i:Nat) (w:World) (h:i<100) :
  Calls Tryz.prog 184 #[.int .i64 (i:Int)] w fun e w'=>e=.returned (.string ⟨(Lib.decDigits i).toArray⟩)∧w'=w:=by
 go_enter Tryz.func184,Tryz.ntmps184
 go_name_bytes_deep 45 SM hSM
 have eSM:SM=Lib.smalls:=by rw[← hSM];decide +kernel
 subst eSM
 clear hSM
 go_name_bytes_deep 30 DG hDG
 have eDG:DG=Lib.digits36:=by rw[← hDG];decide +kernel
 subst eDG
 clear hDG
 by_cases h10:i<10
 ·have hsl:∀ w,(Instr.slice 9 (.string Lib.digits36) (some (.int .i64 (i:Int))) (some (.int .i64 ((i:Int)+1))) none).run Tryz.prog w=.ok (.string (Lib.digits36.extract i (i+1))) w:=fun w=>by
   rw[run_slice_string w 9 Lib.digits36 .i64 .i64 _ _ Tryz.underlying9 (by omega) (by omega) (by rw[Lib.digits36_size];omega),show ((i:Int)).toNat=i by omega,show ((i:Int)+1).toNat=i+1 by omega]
  go_wp2
  go_ret
  refine⟨?_,rfl⟩
  show Ending.returned (Value.string (Lib.digits36.extract i (i+1)))=_
  rw[zHK (Lib.digits36.extract i (i+1)) (Lib.decDigits i) (by rw[Lib.extract_data];exact Lib.digits36_piece h10)]
 ·have hsl:∀ w,(Instr.slice 9 (.string Lib.smalls) (some (.int .i64 ((i:Int)*2))) (some (.int .i64 ((i:Int)*2+2))) none).run Tryz.prog w=.ok (.string (Lib.smalls.extract (i*2) (i*2+2))) w:=fun w=>by
   rw[run_slice_string w 9 Lib.smalls .i64 .i64 _ _ Tryz.underlying9 (by omega) (by omega) (by rw[Lib.smalls_size];omega),show ((i:Int)*2).toNat=i*2 by omega,show ((i:Int)*2+2).toNat=i*2+2 by omega]
  go_wp2
  go_ret
  refine⟨?_,rfl⟩
  show Ending.returned (Value.string (Lib.smalls.extract (i*2) (i*2+2)))=_
  rw[zHK (Lib.smalls.extract (i*2) (i*2+2)) (Lib.decDigits i) (by rw[Lib.extract_data];exact Lib.smalls_piece h10 h)]
theorem zGC (i:Nat) (w:World) (h:i<100) :
  Calls Tryz.prog 164 #[.int .i64 (i:Int),.int .i64 10] w fun e w'=>e=.returned (.string ⟨(Lib.decDigits i).toArray⟩)∧w'=w:=by
 have h1:(0:Int)≤(i:Int):=by omega
 have h2:(i:Int)<100:=by omega
 go_enter Tryz.func164,Tryz.ntmps164
 go_wp2_with (first | (go_at_call 184;refine (zHk i _ h).mono ?_;rintro e w' ⟨rfl,rfl⟩))
 go_ret
 exact⟨rfl,rfl⟩
theorem zHV (n:Int) (w:World) (h0:0≤n) (h:n<100) :
  Calls Tryz.prog 83 #[.int .i64 n] w fun e w'=>e=.returned (.string ⟨(Lib.decDigits n.toNat).toArray⟩)∧w'=w:=by
 obtain⟨i,rfl⟩:=Int.eq_ofNat_of_zero_le h0
 rw[Int.toNat_natCast]
 go_enter Tryz.func83,Tryz.ntmps83
 go_wp2_with (first | (go_at_call 164;refine (zGC i _ (by omega)).mono ?_;rintro e w' ⟨rfl,rfl⟩) | go_in)
 go_ret
 exact⟨rfl,rfl⟩
end Go.Proofs.YtgceflcbckjjiaaGreatDoor
