import Derived.Lib.ItoaWalk
import Derived.Test.YtkmebkbpfmoeaaaGreatH07
set_option linter.unusedVariables false
set_option linter.unusedSimpArgs false
set_option maxHeartbeats 12800000
namespace Go.Proofs.YtkmebkbpfmoeaaaGreat
open Go Go.RowKit
set_option maxRecDepth 100000
namespace P
theorem good_run (xs:List (List UInt8)):∀ (k:Nat) (r:Rd),Good k r→Good (k+xs.length) (zJZ r xs).1∧r.line≤(zJZ r xs).1.line∧((zJZ r xs).2=false→r.line<(zJZ r xs).1.line):=by
 induction xs with
 | nil=>intro k r h;exact⟨h,by simp[zJZ],by simp[zJZ]⟩
 | cons x r ih =>
  intro k q h
  have h1:=good_takes (zIr 32 x) h (by have:=h.lin1;omega)
  have hl:(takes { q with line:=q.line+1 } (zIr 32 x)).1.line=q.line+1:=by
   unfold takes
   split
   ·unfold zIX
    split
    ·rfl
    ·split
     ·split<;>rfl
     ·rfl
   ·split
    ·rfl
    ·simp only[]
     split
     ·split
      ·unfold ends;split<;>rfl
      ·split
       ·rfl
       ·split
        ·split
         ·rfl
         ·unfold branch;split<;>rfl
        ·rfl
     ·rfl
  simp only[zJZ]
  cases ht:(takes { q with line:=q.line+1 } (zIr 32 x)).2
  ·refine⟨?_,?_,?_⟩
   ·have:=h1
    refine⟨this.few,fun t ht=>?_,this.opn,this.ifs0,?_,this.cnt,this.lin0,?_⟩
    ·have:=this.stm t ht;simp;omega
    ·have:=this.ifs1;simp at *;omega
    ·have:=this.lin1;simp at *;omega
   ·simp[hl];omega
   ·simp[hl];omega
  ·obtain⟨a1,a2,a3⟩:=ih (k+1) _ h1
   simp only[if_true]
   refine⟨?_,?_,?_⟩
   ·rw[show k+(x::r).length=k+1+r.length by simp;omega];exact a1
   ·rw[hl] at a2;omega
   ·intro hf
    have:=a3 hf
    rw[hl] at this;omega
theorem zJo (l:List UInt8) (h:(lines l).2=0):(lines l).1≠[]∧(lines l).1.length≤4∧∀ t∈(lines l).1,t.stmts.length≤l.length:=by
 have hl:=zIO 10 l
 obtain⟨g1,g2,g3⟩:=good_run (zIr 10 l).dropLast 0 Rd.zero good_zero
 have hd:(zIr 10 l).dropLast.length≤l.length:=by rw[List.length_dropLast];omega
 unfold lines at h ⊢
 simp only[] at h ⊢
 cases hq:(zJZ Rd.zero (zIr 10 l).dropLast).2
 ·have:=g3 hq
  have z:Rd.zero.line=0:=rfl
  simp[hq] at h
  omega
 ·simp only[hq,if_true] at h ⊢
  split at h
  ·have z:Rd.zero.line=0:=rfl
   simp at h;omega
  ·rename_i hno
   rw[if_neg hno]
   refine⟨fun e=>hno (Or.inr (Or.inr e)),g1.few,fun t ht=>?_⟩
   have:=g1.stm t ht
   omega
def kernel (l:List UInt8):List Thr × Int × Int :=
 if 2000<l.length then ([],1,0)
 else if (lines l).2 != 0 then ([],2,(lines l).2)
 else if zIM (lines l).1 != 0 then ([],3,zIM (lines l).1)
 else if zIw (lines l).1 (lines l).1 != 0 then ([],3,zIw (lines l).1 (lines l).1)
 else if over (lines l).1 then ([],4,0)
 else ((lines l).1,0,0)
end P
theorem zCL {fn:Func} {p u v:Tmp} {ty:TypeId} (h:fn.results=#[.cell p ty,.tmp u,.tmp v]) (tmps:Array Value) (Pg:Program) (w:World) :
  (results fn tmps).run Pg w=((asAddr (tmps.getD p undef)).run Pg w).andThen fun a w₁=>((loadVar ty a).run Pg w₁).andThen fun x w₂=>.ok (.tuple #[x,tmps.getD u undef,tmps.getD v undef]) w₂:=by
 simp only[results,h]
 simp[Sem.run_bind,Result.andThen]
theorem zBW {fn:Func} {R:Ending→World→Prop} {a:Act} {w:World} {p u v:Tmp} (g:Nat) (tv uv vv:Value) (hres:fn.results=#[.cell p 45,.tmp u,.tmp v])
  (hp:a.tmps.getD p undef=.pointer (some ⟨g,0,none⟩)) (hu:a.tmps.getD u undef=uv) (hv:a.tmps.getD v undef=vv) (h:w.heap[g]?=some (.cells #[tv] 45 (0,0))) (hd:a.defers=[]) (hR:R (.returned (.tuple #[.agg #[tv],uv,vv])) w):bodyPost Tryz.prog fn R .ret a w:=by
 refine bodyPost_ret (v:=.tuple #[.agg #[tv],uv,vv]) ?_ hd hR
 rw[zCL hres,hp,hu,hv]
 have:(asAddr (.pointer (some ⟨g,0,none⟩))).run Tryz.prog w=.ok ⟨g,0,none⟩ w:=rfl
 rw[this,Result.andThen_ok,zBi w g _ _ _ h _ Tryz.underlying45 rfl (by kernel_rfl),Result.andThen_ok]
theorem zAv.base {w:World} {B B':Nat} {tv:Value} {ts:List P.Thr} (h:zAv w B tv ts) (hb:B'≤B):zAv w B' tv ts:=by
 obtain⟨vs,h1,h2⟩:=h
 exact⟨vs,zCy h1 hb,h2.base hb⟩
theorem zET (s:ByteArray) (w:World) (hs:s.size≤8192) (h:2000<s.size) :
  Calls Tryz.prog 24 #[.string s] w fun e w'=>e=.returned (.tuple #[.agg #[.slice none 0 0],.int .i64 1,.int .i64 0])∧Below w.heap.size w w':=by
 have h':(2000:Int)<(s.size:Int):=by omega
 go_enter Tryz.func24,Tryz.ntmps24
 go_wp2
 refine zBW (p:=2) (u:=3) (v:=4) w.heap.size (.slice none 0 0) _ _ (by kernel_rfl) rfl rfl rfl (by exact heap_alloc_new w _) rfl ⟨rfl,?_⟩
 exact (Below.refl _ _).alloc (Nat.le_refl _) _
theorem zAv.form {w:World} {B:Nat} {tv:Value} {ts:List P.Thr} (h:zAv w B tv ts):∃ a c,tv=.slice a ts.length c∧(ts≠[]→∃ bt,a=some ⟨bt,0,none⟩):=by
 obtain⟨vs,h1,h2⟩:=h
 rcases h1.2 with ⟨e,h0⟩ | ⟨k,c,cur,e,_⟩
 ·exact⟨none,0,by rw[e,h0],fun hne=>absurd (List.eq_nil_of_length_eq_zero h0) hne⟩
 ·exact⟨_,c,e,fun _=>⟨k,rfl⟩⟩
theorem zEp (s:ByteArray) (w:World) (hs:s.size≤8192) (h:s.size≤2000) (hl:((P.lines s.toList).2 != 0)=true) :
  Calls Tryz.prog 24 #[.string s] w fun e w'=>e=.returned (.tuple #[.agg #[.slice none 0 0],.int .i64 2,.int .i64 (P.lines s.toList).2])∧Below w.heap.size w w':=by
 have h':¬ (2000:Int)<(s.size:Int):=by omega
 go_enter Tryz.func24,Tryz.ntmps24
 go_wp2_with (first | (go_at_call 27;refine (zCi s _ hs).mono ?_;rintro e w1 ⟨tv,rfl,hth,hb1⟩;obtain⟨ta,tc,rfl,hta⟩:=hth.form;have hsz1:w.heap.size+1≤w1.heap.size:=(by have:=hb1.size;simp at this;omega);have hres:w1.heap[w.heap.size]?=some (.cells #[.slice none 0 0] 45 (0,0)):=(by rw[hb1.block _ (by simp)];exact heap_alloc_new w _);obtain⟨z0,z1,z2⟩:=zAI hres;have HRES:=zAa hres;have HTH:=zAa hth;have HB1:Hid (Below w.heap.size w w1):=((Below.refl _ _).alloc (Nat.le_refl _) _).trans (hb1.mono (by simp));clear hres hth hb1))
 refine zBW (p:=2) (u:=3) (v:=4) w.heap.size (.slice none 0 0) _ _ (by kernel_rfl) rfl rfl rfl ?_ rfl ⟨rfl,?_⟩
 ·rw[Below.heap_alloc _ _ _ (by simp;omega)]
  exact zAf HRES.out 0 _
 ·exact (HB1.out.setCell (Nat.le_refl _) _).alloc (by simp;omega) _
theorem zAv.set {w:World} {B:Nat} {tv:Value} {ts:List P.Thr} (h:zAv w (B+1) tv ts) (u:Value):zAv (w.setCell ⟨B,0,none⟩ u) B tv ts:=by
 obtain⟨vs,h1,h2⟩:=h
 refine⟨vs,zCy (zAc h1 (fun k hk=>?_)) (by omega),(h2.keep (fun v hv k hk=>?_)).base (by omega)⟩
 ·have:=(h1.lt k hk).1
  exact Below.heap_setCell _ _ _ _ (by simp;omega)
 ·obtain⟨n,xs,ho⟩:=h2.mem v hv
  have:=(ho.lt k hk).1
  exact Below.heap_setCell _ _ _ _ (by simp;omega)
theorem zCc {w w1 w':World} {B:Nat} {tv:Value} {ts:List P.Thr} (hth:zAv w1 B tv ts) (hb1:Below w.heap.size w w1) (hres:w1.heap[w.heap.size]?=some (.cells #[.slice none 0 0] 45 (0,0)))
  (hb:Below (w1.alloc (.cells #[tv] 45)).heap.size (w1.alloc (.cells #[tv] 45)) w') (hB:w.heap.size+1≤B:=by simp) :
  zAv w' (w.heap.size+1) tv ts∧Below w.heap.size w w'∧w'.heap[w.heap.size]?=some (.cells #[.slice none 0 0] 45 (0,0))∧w'.heap[w1.heap.size]?=some (.cells #[tv] 45 (0,0))∧w1.heap.size<w'.heap.size:=by
 have hlt:w.heap.size<w1.heap.size:=(Array.getElem?_eq_some_iff.1 hres).1
 refine⟨(hth.keep (fun k hk=>?_)).base hB,?_,?_,?_,?_⟩
 ·rw[hb.block k (by simp;omega)];exact Below.heap_alloc _ _ _ hk
 ·exact (hb1.alloc hb1.size _).trans (hb.mono (by simp;omega))
 ·rw[hb.block _ (by simp;omega),Below.heap_alloc _ _ _ hlt];exact hres
 ·rw[hb.block _ (by simp)];exact heap_alloc_new w1 _
 ·have:=hb.size;simp at this;omega
theorem zEq (s:ByteArray) (w:World) (hs:s.size≤8192) (h:s.size≤2000) (hl:((P.lines s.toList).2 != 0)=false) (hi:(P.zIM (P.lines s.toList).1 != 0)=true) :
  Calls Tryz.prog 24 #[.string s] w fun e w'=>e=.returned (.tuple #[.agg #[.slice none 0 0],.int .i64 3,.int .i64 (P.zIM (P.lines s.toList).1)])∧Below w.heap.size w w':=by
 have h':¬ (2000:Int)<(s.size:Int):=by omega
 have hl0:(P.lines s.toList).2=0:=by simpa using hl
 obtain⟨hne,h4,hst'⟩:=P.zJo s.toList hl0
 have hst:∀ t∈(P.lines s.toList).1,t.stmts.length<10000:=fun t ht=>by have:=hst' t ht;rw[zAB] at this;omega
 clear hl0 hst'
 go_enter Tryz.func24,Tryz.ntmps24
 go_wp2_with (first | (go_at_call 27;refine (zCi s _ hs).mono ?_;rintro e w1 ⟨tv,rfl,hth,hb1⟩;obtain⟨ta,tc,rfl,hta⟩:=hth.form;have hsz1:w.heap.size+1≤w1.heap.size:=(by have:=hb1.size;simp at this;omega);have hres:w1.heap[w.heap.size]?=some (.cells #[.slice none 0 0] 45 (0,0)):=(by rw[hb1.block _ (by simp)];exact heap_alloc_new w _);obtain⟨z0,z1,z2⟩:=zAI hres;have HRES:=zAa hres;have HTH:=zAa hth;have HB1:Hid (Below w.heap.size w w1):=((Below.refl _ _).alloc (Nat.le_refl _) _).trans (hb1.mono (by simp));obtain⟨bt,rfl⟩:=hta hne;have TK:Hid (∀ w':World,Below (w1.alloc (.cells #[(.slice (some ⟨bt,0,none⟩) (P.lines s.toList).1.length tc)] 45)).heap.size (w1.alloc (.cells #[(.slice (some ⟨bt,0,none⟩) (P.lines s.toList).1.length tc)] 45)) w'→zAv w' (w.heap.size+1) (.slice (some ⟨bt,0,none⟩) (P.lines s.toList).1.length tc) (P.lines s.toList).1∧Below w.heap.size w w'∧w'.heap[w.heap.size]?=some (.cells #[.slice none 0 0] 45 (0,0))∧w'.heap[w1.heap.size]?=some (.cells #[(.slice (some ⟨bt,0,none⟩) (P.lines s.toList).1.length tc)] 45 (0,0))∧w1.heap.size<w'.heap.size):=(fun w' hb'=>zCc HTH.out HB1.out HRES.out hb');clear hres hth hb1) | (go_at_call 28;refine (zCz (w.heap.size+1) bt _ tc (P.lines s.toList).1 _ (by exact (TK.out _ (Below.refl _ _)).1) rfl (by omega) hst).mono ?_;rintro e w2 ⟨rfl,hb2⟩;obtain⟨t2,v2,r2,q2,l2⟩:=TK.out w2 hb2;obtain⟨y0,y1,y2⟩:=zAI r2;obtain⟨x0,x1,x2⟩:=zAI q2;have T2:=zAa t2;have R2:=zAa r2;have Q2:=zAa q2;clear t2 r2 q2))
 refine zBW (p:=2) (u:=3) (v:=4) w.heap.size (.slice none 0 0) _ _ (by kernel_rfl) rfl rfl rfl (by exact zAf R2.out 0 _) rfl ⟨rfl,v2.setCell (Nat.le_refl _) _⟩
theorem zDZ (s:ByteArray) (w:World) (hs:s.size≤8192) (h:s.size≤2000) (hl:((P.lines s.toList).2 != 0)=false) (hi:(P.zIM (P.lines s.toList).1 != 0)=false) (hu:(P.zIw (P.lines s.toList).1 (P.lines s.toList).1 != 0)=true) :
  Calls Tryz.prog 24 #[.string s] w fun e w'=>e=.returned (.tuple #[.agg #[.slice none 0 0],.int .i64 3,.int .i64 (P.zIw (P.lines s.toList).1 (P.lines s.toList).1)])∧Below w.heap.size w w':=by
 have h':¬ (2000:Int)<(s.size:Int):=by omega
 have hl0:(P.lines s.toList).2=0:=by simpa using hl
 obtain⟨hne,h4,hst'⟩:=P.zJo s.toList hl0
 have hst:∀ t∈(P.lines s.toList).1,t.stmts.length<10000:=fun t ht=>by have:=hst' t ht;rw[zAB] at this;omega
 clear hl0 hst'
 go_enter Tryz.func24,Tryz.ntmps24
 go_wp2_with (first | (go_at_call 27;refine (zCi s _ hs).mono ?_;rintro e w1 ⟨tv,rfl,hth,hb1⟩;obtain⟨ta,tc,rfl,hta⟩:=hth.form;have hsz1:w.heap.size+1≤w1.heap.size:=(by have:=hb1.size;simp at this;omega);have hres:w1.heap[w.heap.size]?=some (.cells #[.slice none 0 0] 45 (0,0)):=(by rw[hb1.block _ (by simp)];exact heap_alloc_new w _);obtain⟨z0,z1,z2⟩:=zAI hres;have HRES:=zAa hres;have HTH:=zAa hth;have HB1:Hid (Below w.heap.size w w1):=((Below.refl _ _).alloc (Nat.le_refl _) _).trans (hb1.mono (by simp));obtain⟨bt,rfl⟩:=hta hne;have TK:Hid (∀ w':World,Below (w1.alloc (.cells #[(.slice (some ⟨bt,0,none⟩) (P.lines s.toList).1.length tc)] 45)).heap.size (w1.alloc (.cells #[(.slice (some ⟨bt,0,none⟩) (P.lines s.toList).1.length tc)] 45)) w'→zAv w' (w.heap.size+1) (.slice (some ⟨bt,0,none⟩) (P.lines s.toList).1.length tc) (P.lines s.toList).1∧Below w.heap.size w w'∧w'.heap[w.heap.size]?=some (.cells #[.slice none 0 0] 45 (0,0))∧w'.heap[w1.heap.size]?=some (.cells #[(.slice (some ⟨bt,0,none⟩) (P.lines s.toList).1.length tc)] 45 (0,0))∧w1.heap.size<w'.heap.size):=(fun w' hb'=>zCc HTH.out HB1.out HRES.out hb');clear hres hth hb1) | (go_at_call 28;refine (zCz (w.heap.size+1) bt _ tc (P.lines s.toList).1 _ (by exact (TK.out _ (Below.refl _ _)).1) rfl (by omega) hst).mono ?_;rintro e w2 ⟨rfl,hb2⟩;obtain⟨t2,v2,r2,q2,l2⟩:=TK.out w2 hb2;obtain⟨y0,y1,y2⟩:=zAI r2;obtain⟨x0,x1,x2⟩:=zAI q2;have T2:=zAa t2;have R2:=zAa r2;have Q2:=zAa q2;clear t2 r2 q2) | (go_at_call 29;refine (zCK (w.heap.size+1) bt _ tc (P.lines s.toList).1 _ (by exact T2.out) rfl (by omega) hst).mono ?_;rintro e w3 ⟨rfl,hb3⟩;obtain⟨t3,v3,r3,q3,l3⟩:=TK.out w3 (hb2.trans (hb3.mono hb2.size));obtain⟨y0,y1,y2⟩:=zAI r3;obtain⟨x0,x1,x2⟩:=zAI q3;have T3:=zAa t3;have R3:=zAa r3;clear t3 r3 q3))
 refine zBW (p:=2) (u:=3) (v:=4) w.heap.size (.slice none 0 0) _ _ (by kernel_rfl) rfl rfl rfl (by exact zAf R3.out 0 _) rfl ⟨rfl,v3.setCell (Nat.le_refl _) _⟩
theorem zEU (s:ByteArray) (w:World) (hs:s.size≤8192) (h:s.size≤2000) (hl:((P.lines s.toList).2 != 0)=false) (hi:(P.zIM (P.lines s.toList).1 != 0)=false) (hu:(P.zIw (P.lines s.toList).1 (P.lines s.toList).1 != 0)=false) (ho:P.over (P.lines s.toList).1=true) :
  Calls Tryz.prog 24 #[.string s] w fun e w'=>e=.returned (.tuple #[.agg #[.slice none 0 0],.int .i64 4,.int .i64 0])∧Below w.heap.size w w':=by
 have h':¬ (2000:Int)<(s.size:Int):=by omega
 have hl0:(P.lines s.toList).2=0:=by simpa using hl
 obtain⟨hne,h4,hst'⟩:=P.zJo s.toList hl0
 have hst:∀ t∈(P.lines s.toList).1,t.stmts.length<10000:=fun t ht=>by have:=hst' t ht;rw[zAB] at this;omega
 clear hl0 hst'
 go_enter Tryz.func24,Tryz.ntmps24
 go_wp2_with (first | (go_at_call 27;refine (zCi s _ hs).mono ?_;rintro e w1 ⟨tv,rfl,hth,hb1⟩;obtain⟨ta,tc,rfl,hta⟩:=hth.form;have hsz1:w.heap.size+1≤w1.heap.size:=(by have:=hb1.size;simp at this;omega);have hres:w1.heap[w.heap.size]?=some (.cells #[.slice none 0 0] 45 (0,0)):=(by rw[hb1.block _ (by simp)];exact heap_alloc_new w _);obtain⟨z0,z1,z2⟩:=zAI hres;have HRES:=zAa hres;have HTH:=zAa hth;have HB1:Hid (Below w.heap.size w w1):=((Below.refl _ _).alloc (Nat.le_refl _) _).trans (hb1.mono (by simp));obtain⟨bt,rfl⟩:=hta hne;have TK:Hid (∀ w':World,Below (w1.alloc (.cells #[(.slice (some ⟨bt,0,none⟩) (P.lines s.toList).1.length tc)] 45)).heap.size (w1.alloc (.cells #[(.slice (some ⟨bt,0,none⟩) (P.lines s.toList).1.length tc)] 45)) w'→zAv w' (w.heap.size+1) (.slice (some ⟨bt,0,none⟩) (P.lines s.toList).1.length tc) (P.lines s.toList).1∧Below w.heap.size w w'∧w'.heap[w.heap.size]?=some (.cells #[.slice none 0 0] 45 (0,0))∧w'.heap[w1.heap.size]?=some (.cells #[(.slice (some ⟨bt,0,none⟩) (P.lines s.toList).1.length tc)] 45 (0,0))∧w1.heap.size<w'.heap.size):=(fun w' hb'=>zCc HTH.out HB1.out HRES.out hb');clear hres hth hb1) | (go_at_call 28;refine (zCz (w.heap.size+1) bt _ tc (P.lines s.toList).1 _ (by exact (TK.out _ (Below.refl _ _)).1) rfl (by omega) hst).mono ?_;rintro e w2 ⟨rfl,hb2⟩;obtain⟨t2,v2,r2,q2,l2⟩:=TK.out w2 hb2;obtain⟨y0,y1,y2⟩:=zAI r2;obtain⟨x0,x1,x2⟩:=zAI q2;have T2:=zAa t2;have R2:=zAa r2;have Q2:=zAa q2;clear t2 r2 q2) | (go_at_call 29;refine (zCK (w.heap.size+1) bt _ tc (P.lines s.toList).1 _ (by exact T2.out) rfl (by omega) hst).mono ?_;rintro e w3 ⟨rfl,hb3⟩;obtain⟨t3,v3,r3,q3,l3⟩:=TK.out w3 (hb2.trans (hb3.mono hb2.size));obtain⟨y0,y1,y2⟩:=zAI r3;obtain⟨x0,x1,x2⟩:=zAI q3;have T3:=zAa t3;have R3:=zAa r3;clear t3 r3 q3) | (go_at_call 30;refine (zFu (w.heap.size+1) bt _ tc (P.lines s.toList).1 _ (by exact T3.out) rfl (by omega) hst).mono ?_;rintro e w4 ⟨rfl,hb4⟩;obtain⟨t4,v4,r4,q4,l4⟩:=TK.out w4 ((hb2.trans (hb3.mono hb2.size)).trans (hb4.mono (hb2.trans (hb3.mono hb2.size)).size));obtain⟨y0,y1,y2⟩:=zAI r4;obtain⟨x0,x1,x2⟩:=zAI q4;have T4:=zAa t4;have R4:=zAa r4;clear t4 r4 q4))
 refine zBW (p:=2) (u:=3) (v:=4) w.heap.size (.slice none 0 0) _ _ (by kernel_rfl) rfl rfl rfl (by exact zAf R4.out 0 _) rfl ⟨rfl,v4.setCell (Nat.le_refl _) _⟩
theorem zGx (s:ByteArray) (w:World) (hs:s.size≤8192) (h:s.size≤2000) (hl:((P.lines s.toList).2 != 0)=false) (hi:(P.zIM (P.lines s.toList).1 != 0)=false) (hu:(P.zIw (P.lines s.toList).1 (P.lines s.toList).1 != 0)=false) (ho:P.over (P.lines s.toList).1=false) :
  Calls Tryz.prog 24 #[.string s] w fun e w'=>∃ bt tc,e=.returned (.tuple #[.agg #[(.slice (some ⟨bt,0,none⟩) (P.lines s.toList).1.length tc)],.int .i64 0,.int .i64 0])∧zAv w' w.heap.size (.slice (some ⟨bt,0,none⟩) (P.lines s.toList).1.length tc) (P.lines s.toList).1∧Below w.heap.size w w':=by
 have h':¬ (2000:Int)<(s.size:Int):=by omega
 have hl0:(P.lines s.toList).2=0:=by simpa using hl
 obtain⟨hne,h4,hst'⟩:=P.zJo s.toList hl0
 have hst:∀ t∈(P.lines s.toList).1,t.stmts.length<10000:=fun t ht=>by have:=hst' t ht;rw[zAB] at this;omega
 clear hl0 hst'
 go_enter Tryz.func24,Tryz.ntmps24
 go_wp2_with (first | (go_at_call 27;refine (zCi s _ hs).mono ?_;rintro e w1 ⟨tv,rfl,hth,hb1⟩;obtain⟨ta,tc,rfl,hta⟩:=hth.form;have hsz1:w.heap.size+1≤w1.heap.size:=(by have:=hb1.size;simp at this;omega);have hres:w1.heap[w.heap.size]?=some (.cells #[.slice none 0 0] 45 (0,0)):=(by rw[hb1.block _ (by simp)];exact heap_alloc_new w _);obtain⟨z0,z1,z2⟩:=zAI hres;have HRES:=zAa hres;have HTH:=zAa hth;have HB1:Hid (Below w.heap.size w w1):=((Below.refl _ _).alloc (Nat.le_refl _) _).trans (hb1.mono (by simp));obtain⟨bt,rfl⟩:=hta hne;have TK:Hid (∀ w':World,Below (w1.alloc (.cells #[(.slice (some ⟨bt,0,none⟩) (P.lines s.toList).1.length tc)] 45)).heap.size (w1.alloc (.cells #[(.slice (some ⟨bt,0,none⟩) (P.lines s.toList).1.length tc)] 45)) w'→zAv w' (w.heap.size+1) (.slice (some ⟨bt,0,none⟩) (P.lines s.toList).1.length tc) (P.lines s.toList).1∧Below w.heap.size w w'∧w'.heap[w.heap.size]?=some (.cells #[.slice none 0 0] 45 (0,0))∧w'.heap[w1.heap.size]?=some (.cells #[(.slice (some ⟨bt,0,none⟩) (P.lines s.toList).1.length tc)] 45 (0,0))∧w1.heap.size<w'.heap.size):=(fun w' hb'=>zCc HTH.out HB1.out HRES.out hb');clear hres hth hb1) | (go_at_call 28;refine (zCz (w.heap.size+1) bt _ tc (P.lines s.toList).1 _ (by exact (TK.out _ (Below.refl _ _)).1) rfl (by omega) hst).mono ?_;rintro e w2 ⟨rfl,hb2⟩;obtain⟨t2,v2,r2,q2,l2⟩:=TK.out w2 hb2;obtain⟨y0,y1,y2⟩:=zAI r2;obtain⟨x0,x1,x2⟩:=zAI q2;have T2:=zAa t2;have R2:=zAa r2;have Q2:=zAa q2;clear t2 r2 q2) | (go_at_call 29;refine (zCK (w.heap.size+1) bt _ tc (P.lines s.toList).1 _ (by exact T2.out) rfl (by omega) hst).mono ?_;rintro e w3 ⟨rfl,hb3⟩;obtain⟨t3,v3,r3,q3,l3⟩:=TK.out w3 (hb2.trans (hb3.mono hb2.size));obtain⟨y0,y1,y2⟩:=zAI r3;obtain⟨x0,x1,x2⟩:=zAI q3;have T3:=zAa t3;have R3:=zAa r3;clear t3 r3 q3) | (go_at_call 30;refine (zFu (w.heap.size+1) bt _ tc (P.lines s.toList).1 _ (by exact T3.out) rfl (by omega) hst).mono ?_;rintro e w4 ⟨rfl,hb4⟩;obtain⟨t4,v4,r4,q4,l4⟩:=TK.out w4 ((hb2.trans (hb3.mono hb2.size)).trans (hb4.mono (hb2.trans (hb3.mono hb2.size)).size));obtain⟨y0,y1,y2⟩:=zAI r4;obtain⟨x0,x1,x2⟩:=zAI q4;have T4:=zAa t4;have R4:=zAa r4;clear t4 r4 q4))
 refine zBW (p:=2) (u:=3) (v:=4) w.heap.size _ _ _ (by kernel_rfl) rfl rfl rfl (by exact zAf R4.out 0 _) rfl ⟨_,_,rfl,T4.out.set _,v4.setCell (Nat.le_refl _) _⟩
theorem zHU (x:ByteArray) (l:List UInt8) (h:x.data.toList=l):x=⟨l.toArray⟩:=by
 subst h
 cases x
 simp
theorem zAi (l:List UInt8):(⟨l.toArray⟩:ByteArray).toList=l:=by rw[zAN]
theorem zAq (a b:ByteArray):(a++b).toList=a.toList++b.toList:=by
 rw[zAN,zAN,zAN];simp
theorem zAe (l:Array UInt8):(⟨l⟩:ByteArray).toList=l.toList:=by rw[zAN]
theorem zCo (l:Array UInt8):(⟨l⟩:ByteArray).size=l.size:=rfl
def Txt (k:Nat) (s:ByteArray) (l:List UInt8):Prop:=s.toList=l∧s.size≤k
theorem Txt.size {k:Nat} {s:ByteArray} {l:List UInt8} (h:Txt k s l):s.size≤k:=h.2

namespace P
end P
namespace P
end P

namespace P
end P
end Go.Proofs.YtkmebkbpfmoeaaaGreat
namespace Go.Proofs.YtkmebkbpfmoeaaaGreat
open Go
namespace P
def reachS (v:Int) (st:Stm):Bool:=isAcc st.kind&&st.var==v
def blockReaches (ts:List Thr) (b v:Int):Bool:=ts.any fun t=>t.block==b&&t.stmts.any (reachS v)
def bothReach (ts:List Thr) (v:Int):Bool:=blockReaches ts 0 v&&blockReaches ts 1 v
def needs (st:Stm) (shared:Bool):Bool:=st.order==0||(shared&&(st.scope==0||st.order==4))
def isPure (ts:List Thr) (v:Int):Bool:=ts.all fun t=>t.stmts.all fun st=>!(reachS v st&&needs st (bothReach ts v))
def acq (o:Int):Bool:=o==2||o==4
def rel (o:Int):Bool:=o==3||o==4
def fenceS (st:Stm):Stm:=⟨4,st.line,0,0,Opd.zero,Opd.zero,4,st.scope,0⟩
def zKA (pr:Int→Bool) (st:Stm):List Stm :=
 if isAcc st.kind&&pr st.var then (if rel st.order then [fenceS st] else [])++[{ st with order:=1 }]++(if acq st.order then [fenceS st] else []) else [st]
def zKm (pr:Int→Bool):List Stm→List Stm
 | []=>[]
 | s::r=>zKA pr s++zKm pr r
def fencedT (ts:List Thr) (t:Thr):Thr:={ t with stmts:=zKm (isPure ts) t.stmts }
def fenced (ts:List Thr):List Thr:=ts.map (fencedT ts)
end P
end Go.Proofs.YtkmebkbpfmoeaaaGreat
namespace Go.Proofs.YtkmebkbpfmoeaaaGreat
open Go Go.RowKit
set_option maxRecDepth 100000
theorem zHG (k:Int) (w:World) :
  Calls Tryz.prog 145 #[.int .i64 k] w fun e w'=>e=.returned (.bool (P.acq k))∧w'=w:=by
 go_enter Tryz.func145,Tryz.ntmps145
 go_wp2
 all_goals go_ret
 all_goals simp[P.acq, *]
theorem zHH (k:Int) (w:World) :
  Calls Tryz.prog 144 #[.int .i64 k] w fun e w'=>e=.returned (.bool (P.rel k))∧w'=w:=by
 go_enter Tryz.func144,Tryz.ntmps144
 go_wp2
 all_goals go_ret
 all_goals simp[P.rel, *]
def zAQ (w:World) (g:Nat) (e:Q.Ev):Prop:=w.heap[g]?=some (.cells (zAb e) 129 (0,0))
theorem zAQ.lt {w:World} {g:Nat} {e:Q.Ev} (h:zAQ w g e):g<w.heap.size:=(Array.getElem?_eq_some_iff.1 h).1
theorem zAQ.below {w w':World} {g:Nat} {e:Q.Ev} (h:zAQ w g e) (hb:Below w.heap.size w w'):zAQ w' g e:=by unfold zAQ at *;rw[hb.block g (Array.getElem?_eq_some_iff.1 h).1];exact h
theorem zAQ.alloc {w:World} {g:Nat} {e:Q.Ev} (h:zAQ w g e) (o:Obj):zAQ (w.alloc o) g e:=h.below ((Below.refl _ _).alloc (Nat.le_refl _) _)
theorem zAQ.new (w:World) (e:Q.Ev):zAQ (w.alloc (.cells (zAb e) 129)) w.heap.size e:=heap_alloc_new w _
theorem zAQ.facts {w:World} {g:Nat} {e:Q.Ev} (h:zAQ w g e):w.cell? ⟨g,0,none⟩=some (.int .i64 e.kind)∧w.cell? ⟨g,1,none⟩=some (.int .i64 e.thread)∧w.cell? ⟨g,2,none⟩=some (.int .i64 e.block)∧w.cell? ⟨g,3,none⟩=some (.int .i64 e.var)∧w.cell? ⟨g,4,none⟩=some (.int .i64 e.value)∧w.cell? ⟨g,5,none⟩=some (.int .i64 e.order)∧w.cell? ⟨g,6,none⟩=some (.int .i64 e.scope)∧w.cell? ⟨g,7,none⟩=some (.int .i64 e.bars)∧w.cell? ⟨g,8,none⟩=some (.bool e.step)∧w.cell? ⟨g,9,none⟩=some (.int .u64 (e.hangs:Nat))∧(∀ j,w.frozen? ⟨g,j,none⟩=false)∧g<w.heap.size:=by
 unfold zAQ at h
 refine⟨?_,?_,?_,?_,?_,?_,?_,?_,?_,?_,?_,(Array.getElem?_eq_some_iff.1 h).1⟩
 all_goals first | (intro j;simp[World.frozen?,h]) | simp[World.cell?,h,zAb]
theorem zFS (a b:Q.Ev) (w:World) :
  Calls Tryz.prog 124 #[.agg (zAb a),.agg (zAb b)] w fun x w'=>x=.returned (.bool (Q.strong a b))∧Below w.heap.size w w':=by
 have HB:Hid (Below w.heap.size w ((w.alloc (.cells (zAb a) 129)).alloc (.cells (zAb b) 129))):=((Below.refl _ _).alloc (Nat.le_refl _) _).alloc (by simp) _
 have EA:Hid (zAQ ((w.alloc (.cells (zAb a) 129)).alloc (.cells (zAb b) 129)) w.heap.size a):=(zAQ.new w a).alloc _
 have EB:Hid (zAQ ((w.alloc (.cells (zAb a) 129)).alloc (.cells (zAb b) 129)) (w.heap.size+1) b):=by
  have:=zAQ.new (w.alloc (.cells (zAb a) 129)) b
  simpa [Hid] using this
 cases h0:(a.thread == -1||b.thread == -1)
 rotate_left
 ·have HE:=zAa (zGn h0)
  cases h1:(a.thread == -1)
  ·have h2:(b.thread == -1)=true:=by rw[h1] at h0;exact h0
   simp only[zAb]
   go_enter Tryz.func124,Tryz.ntmps124
   go_wp2
   go_ret
   rw[HE.out];exact⟨rfl,HB.out⟩
  ·simp only[zAb]
   go_enter Tryz.func124,Tryz.ntmps124
   go_wp2
   go_ret
   rw[HE.out];exact⟨rfl,HB.out⟩
 have h1:(a.thread == -1)=false:=(Bool.or_eq_false_iff.1 h0).1
 have h2:(b.thread == -1)=false:=(Bool.or_eq_false_iff.1 h0).2
 cases h3:(a.thread==b.thread)
 rotate_left
 ·have HE:=zAa (zEM h0 h3)
  clear h0
  simp only[zAb]
  go_enter Tryz.func124,Tryz.ntmps124
  go_wp2
  go_ret
  rw[HE.out];exact⟨rfl,HB.out⟩
 cases ha:Q.isOrdE a
 ·have HE:=zAa (zDn h0 h3 (by rw[ha];rfl))
  clear h0
  simp only[zAb]
  go_enter Tryz.func124,Tryz.ntmps124
  go_wp2_with (first | (go_at_call_of 143 (Value.agg #[.int .i64 a.kind,.int .i64 a.thread,.int .i64 a.block,.int .i64 a.var,.int .i64 a.value,.int .i64 a.order,.int .i64 a.scope,.int .i64 a.bars,.bool a.step,.int .u64 (a.hangs:Nat)]);refine (zBV a _).mono ?_;rintro x w1 ⟨rfl,hb1⟩;rw[ha];have EA1:=zAa (EA.out.below hb1);have EB1:=zAa (EB.out.below hb1);have B1:=zAa (HB.out.trans (hb1.mono (by simp;omega)));obtain⟨p0,p1,p2,p3,p4,p5,p6,p7,p8,p9,pf,pl⟩:=EA1.out.facts;obtain⟨q0,q1,q2,q3,q4,q5,q6,q7,q8,q9,qf,ql⟩:=EB1.out.facts))
  go_ret
  rw[HE.out];exact⟨rfl,B1.out⟩
 cases hb:Q.isOrdE b
 ·have HE:=zAa (zDn h0 h3 (by rw[ha,hb];rfl))
  clear h0
  simp only[zAb]
  go_enter Tryz.func124,Tryz.ntmps124
  go_wp2_with (first | (go_at_call_of 143 (Value.agg #[.int .i64 a.kind,.int .i64 a.thread,.int .i64 a.block,.int .i64 a.var,.int .i64 a.value,.int .i64 a.order,.int .i64 a.scope,.int .i64 a.bars,.bool a.step,.int .u64 (a.hangs:Nat)]);refine (zBV a _).mono ?_;rintro x w1 ⟨rfl,hb1⟩;rw[ha];have EA1:=zAa (EA.out.below hb1);have EB1:=zAa (EB.out.below hb1);have B1:=zAa (HB.out.trans (hb1.mono (by simp;omega)));obtain⟨p0,p1,p2,p3,p4,p5,p6,p7,p8,p9,pf,pl⟩:=EA1.out.facts;obtain⟨q0,q1,q2,q3,q4,q5,q6,q7,q8,q9,qf,ql⟩:=EB1.out.facts) | (go_at_call_of 143 (Value.agg #[.int .i64 b.kind,.int .i64 b.thread,.int .i64 b.block,.int .i64 b.var,.int .i64 b.value,.int .i64 b.order,.int .i64 b.scope,.int .i64 b.bars,.bool b.step,.int .u64 (b.hangs:Nat)]);refine (zBV b _).mono ?_;rintro x w2 ⟨rfl,hb2⟩;rw[hb];have EA2:=zAa (EA1.out.below hb2);have EB2:=zAa (EB1.out.below hb2);have B2:=zAa (B1.out.trans (hb2.mono (by have:=B1.out.size;omega)));obtain⟨p0,p1,p2,p3,p4,p5,p6,p7,p8,p9,pf,pl⟩:=EA2.out.facts;obtain⟨q0,q1,q2,q3,q4,q5,q6,q7,q8,q9,qf,ql⟩:=EB2.out.facts))
  go_ret
  rw[HE.out];exact⟨rfl,B2.out⟩
 have HE:=zAa (zEN h0 h3 (by rw[ha,hb];rfl))
 clear h0
 cases h4:(a.block==b.block)<;>cases h5:(a.scope==1)<;>cases h6:(b.scope==1)
 all_goals
  simp only[zAb]
  go_enter Tryz.func124,Tryz.ntmps124
  go_wp2_with (first | (go_at_call_of 143 (Value.agg #[.int .i64 a.kind,.int .i64 a.thread,.int .i64 a.block,.int .i64 a.var,.int .i64 a.value,.int .i64 a.order,.int .i64 a.scope,.int .i64 a.bars,.bool a.step,.int .u64 (a.hangs:Nat)]);refine (zBV a _).mono ?_;rintro x w1 ⟨rfl,hb1⟩;rw[ha];have EA1:=zAa (EA.out.below hb1);have EB1:=zAa (EB.out.below hb1);have B1:=zAa (HB.out.trans (hb1.mono (by simp;omega)));obtain⟨p0,p1,p2,p3,p4,p5,p6,p7,p8,p9,pf,pl⟩:=EA1.out.facts;obtain⟨q0,q1,q2,q3,q4,q5,q6,q7,q8,q9,qf,ql⟩:=EB1.out.facts) | (go_at_call_of 143 (Value.agg #[.int .i64 b.kind,.int .i64 b.thread,.int .i64 b.block,.int .i64 b.var,.int .i64 b.value,.int .i64 b.order,.int .i64 b.scope,.int .i64 b.bars,.bool b.step,.int .u64 (b.hangs:Nat)]);refine (zBV b _).mono ?_;rintro x w2 ⟨rfl,hb2⟩;rw[hb];have EA2:=zAa (EA1.out.below hb2);have EB2:=zAa (EB1.out.below hb2);have B2:=zAa (B1.out.trans (hb2.mono (by have:=B1.out.size;omega)));obtain⟨p0,p1,p2,p3,p4,p5,p6,p7,p8,p9,pf,pl⟩:=EA2.out.facts;obtain⟨q0,q1,q2,q3,q4,q5,q6,q7,q8,q9,qf,ql⟩:=EB2.out.facts))
  go_ret
  rw[HE.out,h4,h5,h6];exact⟨rfl,B2.out⟩
theorem zEr (e:Q.Ev) (w:World) :
  Calls Tryz.prog 127 #[.agg (zAb e)] w fun x w'=>x=.returned (.bool (e.kind==1&&P.rel e.order))∧Below w.heap.size w w':=by
 cases h0:(e.kind==1)
 all_goals
  simp only[zAb]
  go_enter Tryz.func127,Tryz.ntmps127
  go_wp2_with (first | (go_at_call 144;refine (zHH _ _).mono ?_;rintro x w' ⟨rfl,hw'⟩;have hw':=hw'.symm;subst hw'))
  go_ret
  exact⟨rfl,(Below.refl _ _).alloc (Nat.le_refl _) _⟩
theorem zEs (e:Q.Ev) (w:World) :
  Calls Tryz.prog 128 #[.agg (zAb e)] w fun x w'=>x=.returned (.bool (e.kind==0&&P.acq e.order))∧Below w.heap.size w w':=by
 cases h0:(e.kind==0)
 all_goals
  simp only[zAb]
  go_enter Tryz.func128,Tryz.ntmps128
  go_wp2_with (first | (go_at_call 145;refine (zHG _ _).mono ?_;rintro x w' ⟨rfl,hw'⟩;have hw':=hw'.symm;subst hw'))
  go_ret
  exact⟨rfl,(Below.refl _ _).alloc (Nat.le_refl _) _⟩
end Go.Proofs.YtkmebkbpfmoeaaaGreat
