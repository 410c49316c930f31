import Derived.Deep.Draws
import Derived.Laws.AppendOwnNone
import Derived.Test.YtkmebkbpfmoeaaaGreatH14
import Derived.Test.YtkmebkbpfmoeaaaGreatH12
set_option linter.unusedVariables false
set_option linter.unusedSimpArgs false
set_option maxHeartbeats 12800000
namespace Go.Proofs.YtkmebkbpfmoeaaaGreat
open Go Go.RowKit
set_option maxRecDepth 100000

end Go.Proofs.YtkmebkbpfmoeaaaGreat
namespace Go.Proofs.YtkmebkbpfmoeaaaGreat
open Go Go.RowKit

end Go.Proofs.YtkmebkbpfmoeaaaGreat
namespace Go.Proofs.YtkmebkbpfmoeaaaGreat
open Go Go.RowKit
set_option maxRecDepth 100000

namespace P
end P

theorem zEZ (pr:Int→Bool) (l:List P.Stm):(P.zKm pr l).length≤3*l.length:=by
 induction l with
 | nil=>simp[P.zKm]
 | cons s r ih =>
  simp only[P.zKm,List.length_append,List.length_cons]
  have:(P.zKA pr s).length≤3:=by
   unfold P.zKA
   split
   ·cases P.rel s.order<;>cases P.acq s.order<;>simp
   ·simp
  omega
structure FI (w W:World) (o:Value) (acc:List P.Stm) (st f:P.Stm) (gs gf:Nat) (bx:Array Value):Prop where
 own:W.ownsRow w.heap.size 97 11 o acc.length (zBa acc)
 bel:Below w.heap.size w W
 s:zAu W gs st
 f:zAu W gf f
 ns:o.ownBlock≠some gs
 nf:o.ownBlock≠some gf
 hs:w.heap.size≤gs
 hf:w.heap.size≤gf
 ne:gf≠gs
 box:W.heap[w.heap.size]?=some (.cells bx 45 (0,0))
theorem FI.start {w wr w3:World} {o:Value} {acc:List P.Stm} {st f:P.Stm} {bx:Array Value} (hb:Below w.heap.size w wr) (hown:wr.ownsRow w.heap.size 97 11 o acc.length (zBa acc)) (hbox:wr.heap[w.heap.size]?=some (.cells bx 45 (0,0))) (hb3:Below (wr.alloc (.cells (zAd st) 97)).heap.size (wr.alloc (.cells (zAd st) 97)) w3) :
  FI w (w3.alloc (.cells (zAd f) 97)) o acc st f wr.heap.size w3.heap.size bx:=by
 have hW:Below wr.heap.size wr w3:=((Below.refl wr.heap.size wr).alloc (Nat.le_refl _) _).trans (hb3.mono (by simp))
 have h1:=hb.size
 have h2:=hW.size
 have hlt:w.heap.size<wr.heap.size:=(Array.getElem?_eq_some_iff.1 hbox).1
 have h3:wr.heap.size<w3.heap.size:=by have:=hb3.size;simp at this;omega
 refine⟨(zAc hown (fun j hj=>hW.block j (hown.lt j hj).2)).alloc _,(hb.trans (hW.mono h1)).alloc (by omega) _,((zAu.new wr st).below hb3).alloc _,zAu.new w3 f,fun e=>?_,fun e=>?_,h1,by omega,by omega,?_⟩
 ·have:=(hown.lt _ e).2;omega
 ·have:=(hown.lt _ e).2;omega
 ·rw[Below.heap_alloc _ _ _ (by omega),hW.block _ hlt];exact hbox
theorem FI.app {w W w1:World} {o:Value} {acc:List P.Stm} {st f:P.Stm} {gs gf g1 cap1:Nat} {bx:Array Value} (h:FI w W o acc st f gs gf bx) (x:P.Stm) (na:Nat) (hna:acc.length=na) (hgrow:(W.alloc (.cells (zAd x) 97)).grownBy w1 o.ownBlock) (hown1:w1.ownsRow w.heap.size 97 11 (.slice (some ⟨g1,0,none⟩) (na+1) cap1) (na+1) (zBa acc++(zAd x).toList)) (hat:o.ownBlock=some g1∨g1=W.heap.size+1) :
  FI w w1 (.slice (some ⟨g1,0,none⟩) (na+1) cap1) (acc++[x]) st f gs gf bx:=by
 subst hna
 have hlt:w.heap.size<W.heap.size:=(Array.getElem?_eq_some_iff.1 h.box).1
 have keep:∀ j,j<W.heap.size→o.ownBlock≠some j→w1.heap[j]?=W.heap[j]?:=fun j hj hn=>by
  rw[hgrow.block j (by simp;omega) (Ne.symm hn)];exact Below.heap_alloc _ _ _ hj
 have hsl:=h.s.lt
 have hfl:=h.f.lt
 have hnb:∀ g,g<W.heap.size→o.ownBlock≠some g→(Value.slice (some ⟨g1,0,none⟩) (acc.length+1) cap1).ownBlock≠some g:=fun g hg hn e=>by
  simp[Value.ownBlock] at e
  subst e
  rcases hat with ha | ha
  ·exact hn ha
  ·omega
 refine⟨by rw[zCX];simpa using hown1,(h.bel.alloc h.bel.size _).grown hgrow (by have:=h.bel.size;simp;omega) (fun j hj=>(h.own.lt j hj).1),h.s.of_block (keep gs hsl h.ns),h.f.of_block (keep gf hfl h.nf),hnb gs hsl h.ns,hnb gf hfl h.nf,h.hs,h.hf,h.ne,?_⟩
 rw[keep _ hlt (zBl h.own h.box (by decide))];exact h.box






end Go.Proofs.YtkmebkbpfmoeaaaGreat
namespace Go.Proofs.YtkmebkbpfmoeaaaGreat
namespace P
structure Nums (st:Stm):Prop where
 d0:0≤st.dest
 d1:st.dest<4
 a0:0≤st.a.n
 a1:st.a.n<4
 b0:0≤st.b.n
 b1:st.b.n<4
 l0:st.label=0
theorem nums_zero:Nums Stm.zero:=⟨by decide,by decide,by decide,by decide,by decide,by decide,rfl⟩
theorem digit_ok (c:UInt8) (n:Int) (h:(digit c n).2=true):0≤(digit c n).1∧(digit c n).1<n:=by
 simp[digit] at h ⊢
 omega
theorem register_ok (l:List UInt8) (h:(zIn l).2=true):0≤(zIn l).1∧(zIn l).1<4:=by
 unfold zIn at h ⊢
 split at h
 ·split at h
  ·rename_i h1;simp only[if_pos h1];exact digit_ok _ _ h
  ·simp at h
 ·simp at h
theorem operand_ok (l:List UInt8) (h:(zIz l).2=true):0≤(zIz l).1.n∧(zIz l).1.n<4:=by
 unfold zIz at h ⊢
 split at h
 ·exact digit_ok _ _ h
 ·exact register_ok _ h
theorem nums_ordering {st:Stm} (hs:Nums st) (ws:List (List UInt8)):Nums (zJd st ws).1:=by
 have h1:∀ o,Nums { st with order:=o }:=fun o=>⟨hs.d0,hs.d1,hs.a0,hs.a1,hs.b0,hs.b1,hs.l0⟩
 have h2:∀ o s,Nums { st with order:=o,scope:=s }:=fun o s=>⟨hs.d0,hs.d1,hs.a0,hs.a1,hs.b0,hs.b1,hs.l0⟩
 unfold zJd
 split
 ·exact hs
 ·split
  ·split
   ·exact h1 _
   ·split
    ·exact h2 _ _
    ·exact h1 _
  ·exact hs
theorem nums_target {st:Stm} (hs:Nums st) (p v:List UInt8) (h:(target st p v).2=true):Nums (target st p v).1:=by
 unfold target at h ⊢
 split at h
 ·rename_i h1
  simp only[h1,if_true]
  have:=operand_ok v h
  exact⟨hs.d0,hs.d1,this.1,this.2,hs.b0,hs.b1,hs.l0⟩
 ·simp at h
theorem nums_kind {st:Stm} (hs:Nums st) (k:Int):Nums { st with kind:=k }:=⟨hs.d0,hs.d1,hs.a0,hs.a1,hs.b0,hs.b1,hs.l0⟩
theorem nums_load {st:Stm} (hs:Nums st) (ws:List (List UInt8)):Nums (load st ws).1:=by
 unfold load
 split
 ·exact hs
 ·split
  ·refine nums_ordering (st:={ st with kind:=0,var:=_ }) ?_ _
   exact⟨hs.d0,hs.d1,hs.a0,hs.a1,hs.b0,hs.b1,hs.l0⟩
  ·exact hs
theorem nums_step {st:Stm} (hs:Nums st) (k:Int) (ws:List (List UInt8)) (h:(step st k ws).2=true):Nums (step st k ws).1:=by
 match ws,h with
 | [],h=>simp[step] at h
 | [_],h=>simp[step] at h
 | p::v::r,h =>
  cases ht:(target { st with kind:=k } p v).2
  ·rw[step_no st k p v r ht] at h;simp at h
  ·rw[step_yes st k p v r ht]
   exact nums_ordering (nums_target (nums_kind hs k) p v ht) r
theorem nums_sum {st:Stm} (hs:Nums st) (ws:List (List UInt8)) (h:(sum st ws).2=true):Nums (sum st ws).1:=by
 match ws,h with
 | [],h=>simp[sum] at h
 | [a],h =>
  cases ha:(zIz a).2
  ·simp[sum,ha] at h
  ·rw[sum_one st a ha]
   have:=operand_ok a ha
   exact⟨hs.d0,hs.d1,this.1,this.2,hs.b0,hs.b1,hs.l0⟩
 | [_,_],h=>simp[sum] at h
 | [a,s,b],h =>
  cases ha:(zIz a).2
  ·simp[sum,ha] at h
  ·cases hg:(sign s).2
   ·simp[sum,ha,hg] at h
   ·rw[sum_all st a s b ha hg] at h ⊢
    have h1:=operand_ok a ha
    have h2:=operand_ok b h
    exact⟨hs.d0,hs.d1,h1.1,h1.2,h2.1,h2.2,hs.l0⟩
 | _::_::_::_::_,h=>simp[sum] at h
theorem nums_assignment (ws:List (List UInt8)) (h:(zIt ws).2=true):Nums (zIt ws).1:=by
 match ws,h with
 | [],h=>simp[zIt] at h
 | [_],h=>simp[zIt] at h
 | [_,_],h=>simp[zIt] at h
 | d::e::c::r,h =>
  unfold zIt at h ⊢
  simp only at h ⊢
  by_cases he:(e==[61])=true
  ·by_cases hr:(zIn d).2=true
   ·rw[if_pos he,if_pos hr] at h ⊢
    have hd:=register_ok d hr
    have hz:Nums { Stm.zero with dest:=(zIn d).1 }:=⟨hd.1,hd.2,nums_zero.a0,nums_zero.a1,nums_zero.b0,nums_zero.b1,rfl⟩
    split at h
    ·rename_i h1;rw[if_pos h1];exact nums_load hz r
    ·rename_i h1
     rw[if_neg h1]
     split at h
     ·rename_i h2;rw[if_pos h2];exact nums_step hz 2 r h
     ·rename_i h2
      rw[if_neg h2]
      split at h
      ·rename_i h3;rw[if_pos h3];exact nums_step hz 3 r h
      ·rename_i h3;rw[if_neg h3];exact nums_sum hz (c::r) h
   ·rw[if_pos he,if_neg hr] at h;simp at h
  ·rw[if_neg he] at h;simp at h
theorem nums_statement (ws:List (List UInt8)) (h:(zIu ws).2=true):Nums (zIu ws).1:=by
 match ws,h with
 | [],h=>simp[zIu] at h
 | c::r,h =>
  unfold zIu at h ⊢
  simp only at h ⊢
  split at h
  ·rename_i h1
   rw[if_pos h1]
   match r,h with
   | [],h=>simp[store] at h
   | [_],h=>simp[store] at h
   | p::v::q,h =>
    unfold store at h ⊢
    simp only at h ⊢
    cases ht:(target { Stm.zero with kind:=1 } p v).2
    ·simp[ht] at h
    ·simp only[if_true]
     exact nums_ordering (nums_target (nums_kind nums_zero 1) p v ht) q
  ·rename_i h1
   rw[if_neg h1]
   split at h
   ·rename_i h2
    rw[if_pos h2]
    exact nums_ordering (nums_kind nums_zero 4) r
   ·rename_i h2
    rw[if_neg h2]
    split at h
    ·rename_i h3;rw[if_pos h3];exact nums_kind nums_zero 5
    ·rename_i h3
     rw[if_neg h3]
     split at h
     ·rename_i h4
      rw[if_pos h4]
      match r,h with
      | [],h=>simp[zJF] at h
      | [a],h =>
       have:=operand_ok a h
       exact⟨nums_zero.d0,nums_zero.d1,this.1,this.2,nums_zero.b0,nums_zero.b1,rfl⟩
      | _::_::_,h=>simp[zJF] at h
     ·rename_i h4
      rw[if_neg h4]
      split at h
      ·rename_i h5;rw[if_pos h5];exact nums_kind nums_zero 11
      ·rename_i h5;rw[if_neg h5];exact nums_assignment (c::r) h
end P
namespace P
structure Tidy (r:Rd):Prop where
 few:r.threads.length≤4
 c0:0≤r.count
 c8:r.count≤8
 none:r.threads=[]→r.count=0
 i0:0≤r.ifs
 i1:r.ifs≤8*((r.threads.length-1:Nat):Int)+r.count
 opn:∀ o∈r.opn,0≤o∧o<100
 thr:∀ t∈r.threads,0≤t.block∧t.block<100∧∀ s∈t.stmts,Small s
theorem tidy_zero:Tidy Rd.zero:=⟨by simp[Rd.zero],by simp[Rd.zero],by simp[Rd.zero],by simp[Rd.zero],by simp[Rd.zero],by simp[Rd.zero],by simp[Rd.zero],by simp[Rd.zero]⟩
theorem small_of {st:Stm} (h:Nums st) (ln lb:Int) (h0:0≤lb) (h1:lb<100):Small { st with line:=ln,label:=lb } :=
 ⟨h.d0,by have:=h.d1;show st.dest<100;omega,h.a0,by have:=h.a1;show st.a.n<100;omega,h.b0,by have:=h.b1;show st.b.n<100;omega,h0,h1⟩
theorem putLast_thr (ts:List Thr) (s:Stm) (hs:Small s) (h:∀ t∈ts,0≤t.block∧t.block<100∧∀ s∈t.stmts,Small s):∀ t∈putLast ts s,0≤t.block∧t.block<100∧∀ s∈t.stmts,Small s:=by
 match ts,h with
 | [],h=>intro t ht;simp[putLast] at ht
 | [a],h =>
  intro t ht
  simp[putLast] at ht
  subst ht
  have:=h a (by simp)
  refine⟨this.1,this.2.1,fun x hx=>?_⟩
  simp at hx
  rcases hx with hx | rfl
  ·exact this.2.2 x hx
  ·exact hs
 | a::b::r,h =>
  intro t ht
  simp only[putLast,List.mem_cons] at ht
  rcases ht with rfl | ht
  ·exact h t (by simp)
  ·exact putLast_thr (b::r) s hs (fun t ht=>h t (by simp at ht ⊢;right;exact ht)) t ht
theorem tidy_put {r:Rd} (s:Stm) (h:Tidy r) (hs:Small s):Tidy (put r s):=by
 have hl:(put r s).threads.length=r.threads.length:=putLast_length _ _
 refine⟨by rw[hl];exact h.few,h.c0,h.c8,fun e=>h.none (by have:=congrArg List.length e;rw[hl] at this;exact List.eq_nil_of_length_eq_zero (by simpa using this)),h.i0,by rw[hl];exact h.i1,h.opn,putLast_thr _ _ hs h.thr⟩
theorem tidy_takes {r:Rd} (ws:List (List UInt8)) (h:Tidy r):Tidy (takes { r with line:=r.line+1 } ws).1:=by
 have h0:Tidy { r with line:=r.line+1 }:=⟨h.few,h.c0,h.c8,h.none,h.i0,h.i1,h.opn,h.thr⟩
 unfold takes
 split
 ·unfold zIX
  by_cases hf:4≤r.threads.length∨0<r.opn.length
  ·rw[if_pos (by exact hf)];exact h0
  ·rw[if_neg (by exact hf)]
   split
   ·rename_i a c _
    by_cases hd:(digit c 2).2=true
    ·rw[if_pos hd]
     have hb:=digit_ok c 2 hd
     refine⟨by simp;omega,by simp,by simp,by simp,h.i0,?_,h.opn,?_⟩
     ·have:=h.i1
      have hn:=h.none
      have h8:=h.c8
      cases ht:r.threads with
      | nil=>rw[ht] at this;rw[hn ht] at this;simp at this ⊢;omega
      | cons t q=>rw[ht] at this;simp at this ⊢;omega
     ·intro t ht
      simp at ht
      rcases ht with ht | rfl
      ·exact h.thr t ht
      ·exact⟨hb.1,by show (digit c 2).1<100;omega,by simp⟩
    ·rw[if_neg hd];exact h0
   ·exact h0
 ·split
  ·exact h0
  ·rename_i _ hne
   simp only[]
   split
   ·rename_i hs
    have hn:=nums_statement ws hs
    split
    ·unfold ends
     split
     ·exact h0
     ·rename_i l hl
      have hm:l∈r.opn:=List.mem_of_getLast? hl
      have hlb:=h.opn l hm
      refine tidy_put _ ⟨h.few,h.c0,h.c8,h.none,h.i0,h.i1,fun o ho=>h.opn o (List.dropLast_subset _ ho),h.thr⟩ ?_
      exact small_of hn _ _ hlb.1 hlb.2
    ·split
     ·exact h0
     ·rename_i h8
      have h8':r.count<8:=by simpa using h8
      have hne':r.threads≠[]:=by simpa using hne
      have h1:Tidy { r with line:=r.line+1,count:=r.count+1 }:=⟨h.few,by have:=h.c0;show 0≤r.count+1;omega,by show r.count+1≤8;omega,fun e=>absurd e hne',h.i0,by have:=h.i1;show r.ifs≤8*((r.threads.length-1:Nat):Int)+(r.count+1);omega,h.opn,h.thr⟩
      split
      ·split
       ·exact h1
       ·rename_i ho
        unfold branch
        rw[if_neg ho]
        have hi:=h.i1
        have hf:=h.few
        have hi0:=h.i0
        have hb:r.ifs+1<100:=by omega
        refine tidy_put _ ⟨h1.few,h1.c0,h1.c8,h1.none,by show 0≤r.ifs+1;omega,by show r.ifs+1≤8*((r.threads.length-1:Nat):Int)+(r.count+1);omega,?_,h1.thr⟩ (small_of hn _ _ (by show 0≤r.ifs+1;omega) hb)
        intro o ho'
        simp at ho'
        rcases ho' with ho' | rfl
        ·exact h.opn o ho'
        ·exact⟨by omega,hb⟩
      ·refine tidy_put _ h1 ?_
       have:=small_of hn (r.line+1) 0 (by omega) (by omega)
       have e:({ (zIu ws).1 with line:=r.line+1 }:Stm)={ (zIu ws).1 with line:=r.line+1,label:=0 }:=by
        have:=hn.l0
        rw[← this]
       rw[e];exact this
   ·exact h0
theorem tidy_run (xs:List (List UInt8)):∀ r:Rd,Tidy r→Tidy (zJZ r xs).1:=by
 induction xs with
 | nil=>intro r h;exact h
 | cons x q ih =>
  intro r h
  simp only[zJZ]
  split
  ·exact ih _ (tidy_takes _ h)
  ·exact tidy_takes _ h
theorem lines_small (l:List UInt8):∀ t∈(lines l).1,0≤t.block∧t.block<100∧∀ s∈t.stmts,Small s:=by
 have h:=tidy_run (zIr 10 l).dropLast Rd.zero tidy_zero
 unfold lines
 simp only[]
 split
 ·split
  ·intro t ht;simp at ht
  ·exact h.thr
 ·intro t ht;simp at ht
end P
end Go.Proofs.YtkmebkbpfmoeaaaGreat
namespace Go.Proofs.YtkmebkbpfmoeaaaGreat
open Go Go.RowKit
set_option maxRecDepth 100000
namespace P
end P
theorem zDQ (s:ByteArray) (w:World) (hs:s.size≤8192) :
  Calls Tryz.prog 24 #[.string s] w fun e w'=>∃ tv,e=.returned (.tuple #[.agg #[tv],.int .i64 (P.kernel s.toList).2.1,.int .i64 (P.kernel s.toList).2.2])∧(∃ a m c,tv=.slice a m c) ∧
   ((P.kernel s.toList).2.1=0→∃ bt tc,tv=.slice (some ⟨bt,0,none⟩) (P.kernel s.toList).1.length tc∧zAv w' w.heap.size tv (P.kernel s.toList).1∧(P.kernel s.toList).1.length≤4∧(∀ t∈(P.kernel s.toList).1,t.stmts.length<3000)∧∀ t∈(P.kernel s.toList).1,0≤t.block∧t.block<100∧∀ x∈t.stmts,P.Small x)∧Below w.heap.size w w':=by
 unfold P.kernel
 rw[zAB]
 by_cases h1:2000<s.size
 ·rw[if_pos h1]
  refine (zET s w hs h1).mono ?_
  rintro e w' ⟨rfl,hb⟩
  exact⟨_,rfl,⟨_,_,_,rfl⟩,fun h=>by simp at h,hb⟩
 rw[if_neg h1]
 cases h2:((P.lines s.toList).2 != 0)
 rotate_left
 ·refine (zEp s w hs (by omega) h2).mono ?_
  rintro e w' ⟨rfl,hb⟩
  exact⟨_,rfl,⟨_,_,_,rfl⟩,fun h=>by simp at h,hb⟩
 simp only[Bool.false_eq_true,if_false]
 cases h3:(P.zIM (P.lines s.toList).1 != 0)
 rotate_left
 ·refine (zEq s w hs (by omega) h2 h3).mono ?_
  rintro e w' ⟨rfl,hb⟩
  exact⟨_,rfl,⟨_,_,_,rfl⟩,fun h=>by simp at h,hb⟩
 simp only[Bool.false_eq_true,if_false]
 cases h4:(P.zIw (P.lines s.toList).1 (P.lines s.toList).1 != 0)
 rotate_left
 ·refine (zDZ s w hs (by omega) h2 h3 h4).mono ?_
  rintro e w' ⟨rfl,hb⟩
  exact⟨_,rfl,⟨_,_,_,rfl⟩,fun h=>by simp at h,hb⟩
 simp only[Bool.false_eq_true,if_false]
 cases h5:P.over (P.lines s.toList).1
 rotate_left
 ·refine (zEU s w hs (by omega) h2 h3 h4 h5).mono ?_
  rintro e w' ⟨rfl,hb⟩
  exact⟨_,rfl,⟨_,_,_,rfl⟩,fun h=>by simp at h,hb⟩
 ·refine (zGx s w hs (by omega) h2 h3 h4 h5).mono ?_
  rintro e w' ⟨bt,tc,rfl,hth,hb⟩
  obtain⟨_,k2,k3⟩:=P.zJo s.toList (by simpa using h2)
  exact⟨_,rfl,⟨_,_,_,rfl⟩,fun _=>⟨bt,tc,rfl,hth,k2,fun t ht=>by have:=k3 t ht;rw[zAB] at this;omega,P.lines_small s.toList⟩,hb⟩
namespace P
structure OkT (n:Nat) (ts:List Thr):Prop where
 len:∀ t∈ts,t.stmts.length<n
 sm:∀ t∈ts,0≤t.block∧t.block<100∧∀ x∈t.stmts,Small x
theorem small_os {st:Stm} (h:Small st) (o s:Int):Small { st with order:=o,scope:=s }:=⟨h.d0,h.d1,h.a0,h.a1,h.b0,h.b1,h.l0,h.l1⟩
theorem small_fence (st:Stm):Small (fenceS st):=⟨by simp[fenceS],by simp[fenceS],by simp[fenceS,Opd.zero],by simp[fenceS,Opd.zero],by simp[fenceS,Opd.zero],by simp[fenceS,Opd.zero],by simp[fenceS],by simp[fenceS]⟩
theorem OkT.fence {n:Nat} {ts:List Thr} (h:OkT n ts):OkT (3*n) (fenced ts):=by
 refine⟨fun t ht=>?_,fun t ht=>?_⟩
 ·obtain⟨u,hu,rfl⟩:=List.mem_map.1 ht
  have h1:=h.len u hu
  have h2:=zEZ (isPure ts) u.stmts
  simp only[fencedT];omega
 ·obtain⟨u,hu,rfl⟩:=List.mem_map.1 ht
  obtain⟨h1,h2,h3⟩:=h.sm u hu
  refine⟨h1,h2,?_⟩
  simp only[fencedT]
  generalize isPure ts=pr
  generalize u.stmts=l at h3
  induction l with
  | nil=>intro x hx;simp[zKm] at hx
  | cons s r ih =>
   intro x hx
   simp only[zKm,List.mem_append] at hx
   rcases hx with hx | hx
   ·have hs:=h3 s (by simp)
    unfold zKA at hx
    split at hx
    ·simp only[List.mem_append] at hx
     rcases hx with (hx | hx) | hx
     ·split at hx
      ·simp at hx;rw[hx];exact small_fence s
      ·simp at hx
     ·simp at hx;rw[hx];exact small_os hs 1 s.scope
     ·split at hx
      ·simp at hx;rw[hx];exact small_fence s
      ·simp at hx
    ·simp at hx;rw[hx];exact hs
   ·exact ih (fun y hy=>h3 y (by simp[hy])) x hx
end P
namespace P
end P
end Go.Proofs.YtkmebkbpfmoeaaaGreat
namespace Go.Proofs.YtkmebkbpfmoeaaaGreat
namespace P
end P
end Go.Proofs.YtkmebkbpfmoeaaaGreat
namespace Go.Proofs.YtkmebkbpfmoeaaaGreat
open Go Go.RowKit
set_option maxRecDepth 100000
def zCC (m:Q.Mach) (ev:Value):Array Value:=#[.int .i64 m.thread,.int .i64 m.block,.int .i64 (m.unread:Nat),.int .i64 (m.regs.getD 0 0),.int .i64 (m.regs.getD 1 0),.int .i64 (m.regs.getD 2 0),.int .i64 (m.regs.getD 3 0),
 .int .u64 (m.made.getD 0 0:Nat),.int .u64 (m.made.getD 1 0:Nat),.int .u64 (m.made.getD 2 0:Nat),.int .u64 (m.made.getD 3 0:Nat),.int .u64 (m.asked:Nat),.int .i64 (m.bars:Nat),ev]
structure MachIn (w:World) (B g:Nat) (m:Q.Mach) (ev:Value):Prop where
 box:w.heap[g]?=some (.cells (zCC m ev) 147 (0,0))
 evs:w.ownsRow B 129 10 ev m.events.length (zAL m.events)
 ge:B≤g
 lr:m.regs.length=4
 lm:m.made.length=4
theorem MachIn.lt {w:World} {B g:Nat} {m:Q.Mach} {ev:Value} (h:MachIn w B g m ev):g<w.heap.size:=(Array.getElem?_eq_some_iff.1 h.box).1
theorem MachIn.facts {w:World} {B g:Nat} {m:Q.Mach} {ev:Value} (h:MachIn w B g m ev):w.cell? ⟨g,0,none⟩=some (.int .i64 m.thread)∧w.cell? ⟨g,1,none⟩=some (.int .i64 m.block)∧w.cell? ⟨g,2,none⟩=some (.int .i64 (m.unread:Nat))∧w.cell? ⟨g,3,none⟩=some (.int .i64 (m.regs.getD 0 0))∧w.cell? ⟨g,4,none⟩=some (.int .i64 (m.regs.getD 1 0))∧w.cell? ⟨g,5,none⟩=some (.int .i64 (m.regs.getD 2 0))∧w.cell? ⟨g,6,none⟩=some (.int .i64 (m.regs.getD 3 0)) ∧
  w.cell? ⟨g,7,none⟩=some (.int .u64 (m.made.getD 0 0:Nat))∧w.cell? ⟨g,8,none⟩=some (.int .u64 (m.made.getD 1 0:Nat))∧w.cell? ⟨g,9,none⟩=some (.int .u64 (m.made.getD 2 0:Nat))∧w.cell? ⟨g,10,none⟩=some (.int .u64 (m.made.getD 3 0:Nat))∧w.cell? ⟨g,11,none⟩=some (.int .u64 (m.asked:Nat))∧w.cell? ⟨g,12,none⟩=some (.int .i64 (m.bars:Nat))∧w.cell? ⟨g,13,none⟩=some ev∧(∀ j,w.frozen? ⟨g,j,none⟩=false):=by
 have hb:=h.box
 refine⟨?_,?_,?_,?_,?_,?_,?_,?_,?_,?_,?_,?_,?_,?_,fun j=>?_⟩<;>simp[World.cell?,World.frozen?,hb,zCC]
theorem MachIn.form {w:World} {B g:Nat} {m:Q.Mach} {ev:Value} (h:MachIn w B g m ev):∃ a c,ev=.slice a m.events.length c∧(0<m.events.length→∃ b,a=some ⟨b,0,none⟩∧b<w.heap.size):=by
 rcases h.evs.2 with ⟨e,h0⟩ | ⟨k,c,cur,e,_⟩
 ·exact⟨none,0,by rw[e,h0],fun h=>by omega⟩
 ·exact⟨_,c,e,fun _=>⟨k,rfl,(h.evs.lt k (by rw[e];rfl)).2⟩⟩
theorem MachIn.below {w w':World} {B g:Nat} {m:Q.Mach} {ev:Value} (h:MachIn w B g m ev) (hb:Below w.heap.size w w'):MachIn w' B g m ev :=
 ⟨(hb.block g h.lt).trans h.box,zAc h.evs (fun k e=>hb.block k (h.evs.lt k e).2),h.ge,h.lr,h.lm⟩
structure MFrame (w w':World) (g:Nat) (ev ev':Value):Prop where
 os:w'.os=w.os
 tape:w'.tape=w.tape
 output:w'.output=w.output
 size:w.heap.size≤w'.heap.size
 block:∀ k,k<w.heap.size→k≠g→ev.ownBlock≠some k→w'.heap[k]?=w.heap[k]?
 own:ev'.ownBlock=ev.ownBlock∨∃ b,ev'.ownBlock=some b∧w.heap.size≤b
theorem MFrame.of {w w':World} (hb:Below w.heap.size w w') (g:Nat) (ev:Value):MFrame w w' g ev ev:=⟨hb.os,hb.tape,hb.output,hb.size,fun k hk _ _=>hb.block k hk,Or.inl rfl⟩
theorem MFrame.trans {w w1 w2:World} {g:Nat} {a b c:Value} (h:MFrame w w1 g a b) (k:MFrame w1 w2 g b c):MFrame w w2 g a c:=by
 refine⟨k.os.trans h.os,k.tape.trans h.tape,k.output.trans h.output,Nat.le_trans h.size k.size,fun i hi hg ha=>?_,?_⟩
 ·refine (k.block i (by have:=h.size;omega) hg ?_).trans (h.block i hi hg ha)
  rcases h.own with e | ⟨q,e,hq⟩
  ·rw[e];exact ha
  ·rw[e];intro e2;simp at e2;omega
 ·rcases k.own with e | ⟨q,e,hq⟩
  ·rcases h.own with e2 | ⟨q2,e2,hq2⟩
   ·exact Or.inl (e.trans e2)
   ·exact Or.inr ⟨q2,e.trans e2,hq2⟩
  ·exact Or.inr ⟨q,e,by have:=h.size;omega⟩
theorem MFrame.below {w w':World} {B g:Nat} {m:Q.Mach} {ev ev':Value} (h:MFrame w w' g ev ev') (hm:MachIn w B g m ev) (hB:B≤w.heap.size):Below B w w' :=
 ⟨h.os,h.tape,h.output,h.size,fun k hk=>h.block k (by omega) (by have:=hm.ge;omega) (fun e=>by have:=(hm.evs.lt k e).1;omega)⟩
theorem MFrame.stm {w w':World} {B g:Nat} {m:Q.Mach} {ev ev':Value} (h:MFrame w w' g ev ev') (hm:MachIn w B g m ev) {b:Nat} {st:P.Stm} (hs:zAu w b st):zAu w' b st:=by
 refine hs.of_block (h.block b hs.lt ?_ ?_)
 ·intro e;have h1:=hm.box;unfold zAu at hs;rw[← e,hs] at h1;simp at h1
 ·intro e
  rcases hm.evs.2 with ⟨e1,_⟩ | ⟨g',cap,cur,e1,_,hh,_⟩
  ·rw[e1] at e;simp[Value.ownBlock] at e
  ·rw[e1] at e;simp[Value.ownBlock] at e
   subst e
   unfold zAu at hs;rw[hs] at hh;simp at hh
theorem zBY (B g:Nat) (m:Q.Mach) (ev:Value) (rg:Bool) (nn:Int) (w:World) (h:MachIn w B g m ev) :
  Calls Tryz.prog 120 #[.pointer (some ⟨g,0,none⟩),.agg #[.bool rg,.int .i64 nn]] w fun e w'=>e=.returned (.int .i64 (m.value ⟨rg,nn⟩))∧Below w.heap.size w w':=by
 have hg:=h.lt
 obtain⟨c0,c1,c2,c3,c4,c5,c6,c7,c8,c9,c10,c11,c12,c13,cf⟩:=h.facts
 clear c0 c1 c2 c7 c8 c9 c10 c11 c12 c13 h
 have HV:Hid (m.value ⟨rg,nn⟩=if rg then (if nn<0∨4≤nn then 0 else m.regs.getD nn.toNat 0) else nn):=rfl
 have HB:Hid (∀ o,Below w.heap.size w (w.alloc o)):=fun o=>(Below.refl _ _).alloc (Nat.le_refl _) _
 have HB2:Hid (∀ o,Below w.heap.size w (w.alloc o).drew):=fun o=>((Below.refl _ _).alloc (Nat.le_refl _) _).drew
 cases rg
 ·have HE:Hid (m.value ⟨false,nn⟩=nn):=by unfold Hid;rw[HV.out];rfl
  go_enter Tryz.func120,Tryz.ntmps120
  go_wp2
  go_ret
  rw[HE.out];exact⟨rfl,HB.out _⟩
 by_cases h0:nn<0
 ·have HE:Hid (m.value ⟨true,nn⟩=0):=by unfold Hid;rw[HV.out];simp[h0]
  go_enter Tryz.func120,Tryz.ntmps120
  go_wp2
  go_ret
  rw[HE.out];exact⟨rfl,HB.out _⟩
 have hd0:decide (nn<0)=false:=decide_eq_false h0
 by_cases h4:4≤nn
 ·have HE:Hid (m.value ⟨true,nn⟩=0):=by unfold Hid;rw[HV.out];simp[h4]
  go_enter Tryz.func120,Tryz.ntmps120
  go_wp2
  go_ret
  rw[HE.out];exact⟨rfl,HB.out _⟩
 have hd4:decide (4≤nn)=false:=decide_eq_false h4
 have hcs:nn=0∨nn=1∨nn=2∨nn=3:=by omega
 generalize hr0:m.regs.getD 0 0=r0 at *
 have E0:=zAa hr0
 clear hr0
 generalize hr1:m.regs.getD 1 0=r1 at *
 have E1:=zAa hr1
 clear hr1
 generalize hr2:m.regs.getD 2 0=r2 at *
 have E2:=zAa hr2
 clear hr2
 generalize hr3:m.regs.getD 3 0=r3 at *
 have E3:=zAa hr3
 clear hr3
 rcases hcs with rfl | rfl | rfl | rfl
 ·have HE:Hid (m.value ⟨true,0⟩=r0):=E0.out
  clear HV h0 h4 hd0 hd4 E0 E1 E2 E3
  go_enter Tryz.func120,Tryz.ntmps120
  go_wp2
  go_quiet (fail)
  all_goals
   go_wp2
   go_ret
   rw[HE.out]
   exact⟨rfl,((Below.refl _ _).alloc (Nat.le_refl _) _).trans (zAD _ _ _)⟩
 ·have HE:Hid (m.value ⟨true,1⟩=r1):=E1.out
  clear HV h0 h4 hd0 hd4 E0 E1 E2 E3
  go_enter Tryz.func120,Tryz.ntmps120
  go_wp2
  go_quiet (fail)
  all_goals
   go_wp2
   go_ret
   rw[HE.out]
   exact⟨rfl,((Below.refl _ _).alloc (Nat.le_refl _) _).trans (zAD _ _ _)⟩
 ·have HE:Hid (m.value ⟨true,2⟩=r2):=E2.out
  clear HV h0 h4 hd0 hd4 E0 E1 E2 E3
  go_enter Tryz.func120,Tryz.ntmps120
  go_wp2
  go_quiet (fail)
  all_goals
   go_wp2
   go_ret
   rw[HE.out]
   exact⟨rfl,((Below.refl _ _).alloc (Nat.le_refl _) _).trans (zAD _ _ _)⟩
 ·have HE:Hid (m.value ⟨true,3⟩=r3):=E3.out
  clear HV h0 h4 hd0 hd4 E0 E1 E2 E3
  go_enter Tryz.func120,Tryz.ntmps120
  go_wp2
  go_quiet (fail)
  all_goals
   go_wp2
   go_ret
   rw[HE.out]
   exact⟨rfl,((Below.refl _ _).alloc (Nat.le_refl _) _).trans (zAD _ _ _)⟩
theorem zBc (B g:Nat) (m:Q.Mach) (ev:Value) (rg:Bool) (nn:Int) (w:World) (h:MachIn w B g m ev) :
  Calls Tryz.prog 119 #[.pointer (some ⟨g,0,none⟩),.agg #[.bool rg,.int .i64 nn]] w fun e w'=>e=.returned (.int .u64 (m.madeOf ⟨rg,nn⟩:Nat))∧Below w.heap.size w w':=by
 have hg:=h.lt
 obtain⟨c0,c1,c2,c3,c4,c5,c6,c7,c8,c9,c10,c11,c12,c13,cf⟩:=h.facts
 clear c0 c1 c2 c3 c4 c5 c6 c11 c12 c13 h
 have HV:Hid (m.madeOf ⟨rg,nn⟩=if rg then (if nn<0∨4≤nn then 0 else m.made.getD nn.toNat 0) else 0):=rfl
 have HB:Hid (∀ o,Below w.heap.size w (w.alloc o)):=fun o=>(Below.refl _ _).alloc (Nat.le_refl _) _
 have HB2:Hid (∀ o,Below w.heap.size w (w.alloc o).drew):=fun o=>((Below.refl _ _).alloc (Nat.le_refl _) _).drew
 cases rg
 ·have HE:Hid (m.madeOf ⟨false,nn⟩=0):=by unfold Hid;rw[HV.out];rfl
  go_enter Tryz.func119,Tryz.ntmps119
  go_wp2
  go_ret
  rw[HE.out];exact⟨rfl,HB.out _⟩
 by_cases h0:nn<0
 ·have HE:Hid (m.madeOf ⟨true,nn⟩=0):=by unfold Hid;rw[HV.out];simp[h0]
  go_enter Tryz.func119,Tryz.ntmps119
  go_wp2
  go_ret
  rw[HE.out];exact⟨rfl,HB.out _⟩
 have hd0:decide (nn<0)=false:=decide_eq_false h0
 by_cases h4:4≤nn
 ·have HE:Hid (m.madeOf ⟨true,nn⟩=0):=by unfold Hid;rw[HV.out];simp[h4]
  go_enter Tryz.func119,Tryz.ntmps119
  go_wp2
  go_ret
  rw[HE.out];exact⟨rfl,HB.out _⟩
 have hd4:decide (4≤nn)=false:=decide_eq_false h4
 have hcs:nn=0∨nn=1∨nn=2∨nn=3:=by omega
 generalize hr0:m.made.getD 0 0=r0 at *
 have E0:=zAa hr0
 clear hr0
 generalize hr1:m.made.getD 1 0=r1 at *
 have E1:=zAa hr1
 clear hr1
 generalize hr2:m.made.getD 2 0=r2 at *
 have E2:=zAa hr2
 clear hr2
 generalize hr3:m.made.getD 3 0=r3 at *
 have E3:=zAa hr3
 clear hr3
 rcases hcs with rfl | rfl | rfl | rfl
 ·have HE:Hid (m.madeOf ⟨true,0⟩=r0):=E0.out
  clear HV h0 h4 hd0 hd4 E0 E1 E2 E3
  go_enter Tryz.func119,Tryz.ntmps119
  go_wp2
  go_quiet (fail)
  all_goals
   go_wp2
   go_ret
   rw[HE.out]
   exact⟨rfl,((Below.refl _ _).alloc (Nat.le_refl _) _).trans (zAD _ _ _)⟩
 ·have HE:Hid (m.madeOf ⟨true,1⟩=r1):=E1.out
  clear HV h0 h4 hd0 hd4 E0 E1 E2 E3
  go_enter Tryz.func119,Tryz.ntmps119
  go_wp2
  go_quiet (fail)
  all_goals
   go_wp2
   go_ret
   rw[HE.out]
   exact⟨rfl,((Below.refl _ _).alloc (Nat.le_refl _) _).trans (zAD _ _ _)⟩
 ·have HE:Hid (m.madeOf ⟨true,2⟩=r2):=E2.out
  clear HV h0 h4 hd0 hd4 E0 E1 E2 E3
  go_enter Tryz.func119,Tryz.ntmps119
  go_wp2
  go_quiet (fail)
  all_goals
   go_wp2
   go_ret
   rw[HE.out]
   exact⟨rfl,((Below.refl _ _).alloc (Nat.le_refl _) _).trans (zAD _ _ _)⟩
 ·have HE:Hid (m.madeOf ⟨true,3⟩=r3):=E3.out
  clear HV h0 h4 hd0 hd4 E0 E1 E2 E3
  go_enter Tryz.func119,Tryz.ntmps119
  go_wp2
  go_quiet (fail)
  all_goals
   go_wp2
   go_ret
   rw[HE.out]
   exact⟨rfl,((Below.refl _ _).alloc (Nat.le_refl _) _).trans (zAD _ _ _)⟩
theorem zDt (B g:Nat) (m:Q.Mach) (ev:Value) (i:Nat) (w:World) (h:MachIn w B g m ev) (hi:i<m.events.length) (hn:m.events.length<10000) :
  Calls Tryz.prog 146 #[.pointer (some ⟨g,0,none⟩),.int .i64 (i:Int)] w fun e w'=>e=.returned (.int .i64 (m.valueOf i))∧w'=w:=by
 have hg:=h.lt
 obtain⟨a,c,rfl,ha⟩:=h.form
 obtain⟨b,rfl,hb⟩:=ha (by omega)
 obtain⟨c0,c1,c2,c3,c4,c5,c6,c7,c8,c9,c10,c11,c12,c13,cf⟩:=h.facts
 have hr:w.rangeAt b (i*10) (zAb (Q.ev m.events i)).toList:=by
  rw[zDO m.events i hi]
  intro j v hv
  have hj:j<10:=(List.getElem?_eq_some_iff.1 hv).1
  rw[h.evs.cellAt _ (by omega),zDN m.events i hi j hj];exact hv
 have cv:=hr 4 (.int .i64 (Q.ev m.events i).value) rfl
 have HE:Hid (m.valueOf i=(Q.ev m.events i).value):=rfl
 generalize (Q.ev m.events i).value=x at *
 have hil:(i:Int)<(m.events.length:Int):=by omega
 clear c0 c1 c2 c3 c4 c5 c6 c7 c8 c9 c10 c11 c12 h hr ha
 go_enter Tryz.func146,Tryz.ntmps146
 go_wp2
 go_ret
 rw[HE.out];exact⟨rfl,rfl⟩
theorem MachIn.set {w w':World} {B g:Nat} {m m':Q.Mach} {ev:Value} (h:MachIn w B g m ev) (hb:w'.heap[g]?=some (.cells (zCC m' ev) 147 (0,0))) (hk:∀ k,k≠g→w'.heap[k]?=w.heap[k]?) (he:m'.events=m.events) (hr:m'.regs.length=4) (hm:m'.made.length=4):MachIn w' B g m' ev:=by
 refine⟨hb,?_,h.ge,hr,hm⟩
 rw[he]
 refine zAc h.evs (fun k e=>hk k ?_)
 intro ek
 subst ek
 rcases h.evs.2 with ⟨e1,_⟩ | ⟨g',cap,cur,e1,_,hh,_⟩
 ·rw[e1] at e;simp[Value.ownBlock] at e
 ·rw[e1] at e;simp[Value.ownBlock] at e
  subst e
  rw[h.box] at hh;simp at hh
theorem MFrame.set {w:World} {g:Nat} (ev:Value) (l:List (Nat × Value)):MFrame w (l.foldl (fun w p=>w.setCell ⟨g,p.1,none⟩ p.2) w) g ev ev:=by
 induction l generalizing w with
 | nil=>exact MFrame.of (Below.refl _ _) g ev
 | cons p q ih =>
  refine MFrame.trans (w1:=w.setCell ⟨g,p.1,none⟩ p.2) ⟨rfl,rfl,rfl,by simp,fun k _ hk _=>Below.heap_setCell _ _ _ _ hk,Or.inl rfl⟩ ih
theorem zCD (B g:Nat) (m:Q.Mach) (ev:Value) (d v:Int) (s:Nat) (w:World) (h:MachIn w B g m ev) :
  Calls Tryz.prog 142 #[.pointer (some ⟨g,0,none⟩),.int .i64 d,.int .i64 v,.int .u64 (s:Nat)] w fun e w'=>e=.returned (.tuple #[])∧MachIn w' B g (m.give d v s) ev∧MFrame w w' g ev ev:=by
 have hg:=h.lt
 have H:=zAa h
 obtain⟨c0,c1,c2,c3,c4,c5,c6,c7,c8,c9,c10,c11,c12,c13,cf⟩:=h.facts
 by_cases h0:d<0
 ·have HE:Hid (m.give d v s=m):=by unfold Hid Q.Mach.give;rw[if_pos (Or.inl h0)]
  clear c0 c1 c2 c3 c4 c5 c6 c7 c8 c9 c10 c11 c12 c13 h
  go_enter Tryz.func142,Tryz.ntmps142
  go_wp2
  (try simp only[Exit.inBlock,Exit.then]);refine bodyPost_ret (results_none rfl _ _ _) rfl ?_
  rw[HE.out];exact⟨rfl,H.out,MFrame.of (Below.refl _ _) g ev⟩
 have hd0:decide (d<0)=false:=decide_eq_false h0
 by_cases h4:4≤d
 ·have HE:Hid (m.give d v s=m):=by unfold Hid Q.Mach.give;rw[if_pos (Or.inr h4)]
  clear c0 c1 c2 c3 c4 c5 c6 c7 c8 c9 c10 c11 c12 c13 h
  go_enter Tryz.func142,Tryz.ntmps142
  go_wp2
  (try simp only[Exit.inBlock,Exit.then]);refine bodyPost_ret (results_none rfl _ _ _) rfl ?_
  rw[HE.out];exact⟨rfl,H.out,MFrame.of (Below.refl _ _) g ev⟩
 have hd4:decide (4≤d)=false:=decide_eq_false h4
 have hcs:d=0∨d=1∨d=2∨d=3:=by omega
 obtain⟨th,bl,un,rs,md,ak,br,es⟩:=m
 have h1:=h.lr
 have h2:=h.lm
 obtain⟨r0,r1,r2,r3,rfl⟩:∃ a b c d,rs=[a,b,c,d]:=by
  match rs,h1 with
  | [a,b,c,d],_=>exact⟨a,b,c,d,rfl⟩
 obtain⟨m0,m1,m2,m3,rfl⟩:∃ a b c d,md=[a,b,c,d]:=by
  match md,h2 with
  | [a,b,c,d],_=>exact⟨a,b,c,d,rfl⟩
 have hbx:=h.box
 have HBX:=zAa hbx
 simp only[List.getD_cons_zero,List.getD_cons_succ] at c0 c1 c2 c3 c4 c5 c6 c7 c8 c9 c10 c11 c12 c13
 clear h h1 h2 hbx
 rcases hcs with rfl | rfl | rfl | rfl
 ·clear h0 h4 hd0 hd4
  go_enter Tryz.func142,Tryz.ntmps142
  go_wp2
  go_end0
  have FR:=MFrame.set (w:=w) (g:=g) ev [(3,.int .i64 v),(7,.int .u64 (s:Nat))]
  simp only[List.foldl_cons,List.foldl_nil] at FR
  refine⟨rfl,H.out.set ?_ (fun k hk=>by rw[Below.heap_setCell _ _ _ _ hk,Below.heap_setCell _ _ _ _ hk]) rfl rfl rfl,FR⟩
  rw[zAf (zAf HBX.out _ _)];rfl
 ·clear h0 h4 hd0 hd4
  go_enter Tryz.func142,Tryz.ntmps142
  go_wp2
  go_end0
  have FR:=MFrame.set (w:=w) (g:=g) ev [(4,.int .i64 v),(8,.int .u64 (s:Nat))]
  simp only[List.foldl_cons,List.foldl_nil] at FR
  refine⟨rfl,H.out.set ?_ (fun k hk=>by rw[Below.heap_setCell _ _ _ _ hk,Below.heap_setCell _ _ _ _ hk]) rfl rfl rfl,FR⟩
  rw[zAf (zAf HBX.out _ _)];rfl
 ·clear h0 h4 hd0 hd4
  go_enter Tryz.func142,Tryz.ntmps142
  go_wp2
  go_end0
  have FR:=MFrame.set (w:=w) (g:=g) ev [(5,.int .i64 v),(9,.int .u64 (s:Nat))]
  simp only[List.foldl_cons,List.foldl_nil] at FR
  refine⟨rfl,H.out.set ?_ (fun k hk=>by rw[Below.heap_setCell _ _ _ _ hk,Below.heap_setCell _ _ _ _ hk]) rfl rfl rfl,FR⟩
  rw[zAf (zAf HBX.out _ _)];rfl
 ·clear h0 h4 hd0 hd4
  go_enter Tryz.func142,Tryz.ntmps142
  go_wp2
  go_end0
  have FR:=MFrame.set (w:=w) (g:=g) ev [(6,.int .i64 v),(10,.int .u64 (s:Nat))]
  simp only[List.foldl_cons,List.foldl_nil] at FR
  refine⟨rfl,H.out.set ?_ (fun k hk=>by rw[Below.heap_setCell _ _ _ _ hk,Below.heap_setCell _ _ _ _ hk]) rfl rfl rfl,FR⟩
  rw[zAf (zAf HBX.out _ _)];rfl
theorem zCk (B g:Nat) (m:Q.Mach) (ev:Value) (d:Int) (r:Nat) (w:World) (h:MachIn w B g m ev) (hr:r<m.events.length) (hn:m.events.length<10000) :
  Calls Tryz.prog 135 #[.pointer (some ⟨g,0,none⟩),.int .i64 d,.int .i64 (r:Int)] w fun e w'=>e=.returned (.tuple #[])∧MachIn w' B g (m.giveRead d r) ev∧MFrame w w' g ev ev:=by
 have H:=zAa h
 clear h
 go_enter Tryz.func135,Tryz.ntmps135
 go_wp2_with (first
  | (go_at_call 146;refine (zDt B g m ev r _ H.out hr hn).mono ?_;rintro e w' ⟨rfl,hw'⟩;have hw':=hw'.symm;subst hw')
  | (go_at_call 107;refine (zDV _ _).mono ?_;rintro e w' ⟨rfl,hw'⟩;have hw':=hw'.symm;subst hw')
  | (go_at_call 142;refine (zCD B g m ev d _ _ _ H.out).mono ?_;rintro e w1 ⟨rfl,hm,hfr⟩))
 go_end0
 exact⟨rfl,hm,hfr⟩
end Go.Proofs.YtkmebkbpfmoeaaaGreat
