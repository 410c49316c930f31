import Derived.Test.YtgceflcbckjjiaaGreatDoorB22
set_option linter.unusedVariables false
set_option linter.unusedSimpArgs false
namespace Go.Proofs.YtgceflcbckjjiaaGreatDoor
namespace P
structure Nums (st:Stm):Prop where
 d0:0≤st.dest
 d1:st.dest<4
 a0:0≤st.a.n
 a1:st.a.n<4
 b0:0≤st.b.n
 b1:st.b.n<4
 l0:st.label=0
theorem nums_zero:Nums Stm.zero:=⟨by decide,by decide,by decide,by decide,by decide,by decide,rfl⟩
theorem digit_ok (c:UInt8) (n:Int) (h:(digit c n).2=true):0≤(digit c n).1∧(digit c n).1<n:=by
 simp[digit] at h ⊢
 omega
theorem register_ok (l:List UInt8) (h:(register l).2=true):0≤(register l).1∧(register l).1<4:=by
 unfold register at h ⊢
 split at h
 ·split at h
  ·rename_i h1;simp only[if_pos h1];exact digit_ok _ _ h
  ·simp at h
 ·simp at h
theorem operand_ok (l:List UInt8) (h:(operand l).2=true):0≤(operand l).1.n∧(operand l).1.n<4:=by
 unfold operand at h ⊢
 split at h
 ·exact digit_ok _ _ h
 ·exact register_ok _ h
theorem nums_ordering {st:Stm} (hs:Nums st) (ws:List (List UInt8)):Nums (ordering st ws).1:=by
 have h1:∀ o,Nums { st with order:=o }:=fun o=>⟨hs.d0,hs.d1,hs.a0,hs.a1,hs.b0,hs.b1,hs.l0⟩
 have h2:∀ o s,Nums { st with order:=o,scope:=s }:=fun o s=>⟨hs.d0,hs.d1,hs.a0,hs.a1,hs.b0,hs.b1,hs.l0⟩
 unfold ordering
 split
 ·exact hs
 ·split
  ·split
   ·exact h1 _
   ·split
    ·exact h2 _ _
    ·exact h1 _
  ·exact hs
theorem nums_target {st:Stm} (hs:Nums st) (p v:List UInt8) (h:(target st p v).2=true):Nums (target st p v).1:=by
 unfold target at h ⊢
 split at h
 ·rename_i h1
  simp only[h1,if_true]
  have:=operand_ok v h
  exact⟨hs.d0,hs.d1,this.1,this.2,hs.b0,hs.b1,hs.l0⟩
 ·simp at h
theorem nums_kind {st:Stm} (hs:Nums st) (k:Int):Nums { st with kind:=k }:=⟨hs.d0,hs.d1,hs.a0,hs.a1,hs.b0,hs.b1,hs.l0⟩
theorem nums_load {st:Stm} (hs:Nums st) (ws:List (List UInt8)):Nums (load st ws).1:=by
 unfold load
 split
 ·exact hs
 ·split
  ·refine nums_ordering (st:={ st with kind:=0,var:=_ }) ?_ _
   exact⟨hs.d0,hs.d1,hs.a0,hs.a1,hs.b0,hs.b1,hs.l0⟩
  ·exact hs
theorem nums_step {st:Stm} (hs:Nums st) (k:Int) (ws:List (List UInt8)) (h:(step st k ws).2=true):Nums (step st k ws).1:=by
 match ws,h with
 | [],h=>simp[step] at h
 | [_],h=>simp[step] at h
 | p::v::r,h =>
  cases ht:(target { st with kind:=k } p v).2
  ·rw[step_no st k p v r ht] at h;simp at h
  ·rw[step_yes st k p v r ht]
   exact nums_ordering (nums_target (nums_kind hs k) p v ht) r
theorem nums_sum {st:Stm} (hs:Nums st) (ws:List (List UInt8)) (h:(sum st ws).2=true):Nums (sum st ws).1:=by
 match ws,h with
 | [],h=>simp[sum] at h
 | [a],h =>
  cases ha:(operand a).2
  ·simp[sum,ha] at h
  ·rw[sum_one st a ha]
   have:=operand_ok a ha
   exact⟨hs.d0,hs.d1,this.1,this.2,hs.b0,hs.b1,hs.l0⟩
 | [_,_],h=>simp[sum] at h
 | [a,s,b],h =>
  cases ha:(operand a).2
  ·simp[sum,ha] at h
  ·cases hg:(sign s).2
   ·simp[sum,ha,hg] at h
   ·rw[sum_all st a s b ha hg] at h ⊢
    have h1:=operand_ok a ha
    have h2:=operand_ok b h
    exact⟨hs.d0,hs.d1,h1.1,h1.2,h2.1,h2.2,hs.l0⟩
 | _::_::_::_::_,h=>simp[sum] at h
theorem nums_assignment (ws:List (List UInt8)) (h:(assignment ws).2=true):Nums (assignment ws).1:=by
 match ws,h with
 | [],h=>simp[assignment] at h
 | [_],h=>simp[assignment] at h
 | [_,_],h=>simp[assignment] at h
 | d::e::c::r,h =>
  unfold assignment at h ⊢
  simp only at h ⊢
  by_cases he:(e==[61])=true
  ·by_cases hr:(register d).2=true
   ·rw[if_pos he,if_pos hr] at h ⊢
    have hd:=register_ok d hr
    have hz:Nums { Stm.zero with dest:=(register d).1 }:=⟨hd.1,hd.2,nums_zero.a0,nums_zero.a1,nums_zero.b0,nums_zero.b1,rfl⟩
    split at h
    ·rename_i h1;rw[if_pos h1];exact nums_load hz r
    ·rename_i h1
     rw[if_neg h1]
     split at h
     ·rename_i h2;rw[if_pos h2];exact nums_step hz 2 r h
     ·rename_i h2
      rw[if_neg h2]
      split at h
      ·rename_i h3;rw[if_pos h3];exact nums_step hz 3 r h
      ·rename_i h3;rw[if_neg h3];exact nums_sum hz (c::r) h
   ·rw[if_pos he,if_neg hr] at h;simp at h
  ·rw[if_neg he] at h;simp at h
theorem nums_statement (ws:List (List UInt8)) (h:(statement ws).2=true):Nums (statement ws).1:=by
 match ws,h with
 | [],h=>simp[statement] at h
 | c::r,h =>
  unfold statement at h ⊢
  simp only at h ⊢
  split at h
  ·rename_i h1
   rw[if_pos h1]
   match r,h with
   | [],h=>simp[store] at h
   | [_],h=>simp[store] at h
   | p::v::q,h =>
    unfold store at h ⊢
    simp only at h ⊢
    cases ht:(target { Stm.zero with kind:=1 } p v).2
    ·simp[ht] at h
    ·simp only[if_true]
     exact nums_ordering (nums_target (nums_kind nums_zero 1) p v ht) q
  ·rename_i h1
   rw[if_neg h1]
   split at h
   ·rename_i h2
    rw[if_pos h2]
    exact nums_ordering (nums_kind nums_zero 4) r
   ·rename_i h2
    rw[if_neg h2]
    split at h
    ·rename_i h3;rw[if_pos h3];exact nums_kind nums_zero 5
    ·rename_i h3
     rw[if_neg h3]
     split at h
     ·rename_i h4
      rw[if_pos h4]
      match r,h with
      | [],h=>simp[condition] at h
      | [a],h =>
       have:=operand_ok a h
       exact⟨nums_zero.d0,nums_zero.d1,this.1,this.2,nums_zero.b0,nums_zero.b1,rfl⟩
      | _::_::_,h=>simp[condition] at h
     ·rename_i h4
      rw[if_neg h4]
      split at h
      ·rename_i h5;rw[if_pos h5];exact nums_kind nums_zero 11
      ·rename_i h5;rw[if_neg h5];exact nums_assignment (c::r) h
end P
namespace P
structure Tidy (r:Rd):Prop where
 few:r.threads.length≤4
 c0:0≤r.count
 c8:r.count≤8
 none:r.threads=[]→r.count=0
 i0:0≤r.ifs
 i1:r.ifs≤8*((r.threads.length-1:Nat):Int)+r.count
 opn:∀ o∈r.opn,0≤o∧o<100
 thr:∀ t∈r.threads,0≤t.block∧t.block<100∧∀ s∈t.stmts,Small s
theorem tidy_zero:Tidy Rd.zero:=⟨by simp[Rd.zero],by simp[Rd.zero],by simp[Rd.zero],by simp[Rd.zero],by simp[Rd.zero],by simp[Rd.zero],by simp[Rd.zero],by simp[Rd.zero]⟩
theorem small_of {st:Stm} (h:Nums st) (ln lb:Int) (h0:0≤lb) (h1:lb<100):Small { st with line:=ln,label:=lb } :=
 ⟨h.d0,by have:=h.d1;show st.dest<100;omega,h.a0,by have:=h.a1;show st.a.n<100;omega,h.b0,by have:=h.b1;show st.b.n<100;omega,h0,h1⟩
theorem putLast_thr (ts:List Thr) (s:Stm) (hs:Small s) (h:∀ t∈ts,0≤t.block∧t.block<100∧∀ s∈t.stmts,Small s):∀ t∈putLast ts s,0≤t.block∧t.block<100∧∀ s∈t.stmts,Small s:=by
 match ts,h with
 | [],h=>intro t ht;simp[putLast] at ht
 | [a],h =>
  intro t ht
  simp[putLast] at ht
  subst ht
  have:=h a (by simp)
  refine⟨this.1,this.2.1,fun x hx=>?_⟩
  simp at hx
  rcases hx with hx | rfl
  ·exact this.2.2 x hx
  ·exact hs
 | a::b::r,h =>
  intro t ht
  simp only[putLast,List.mem_cons] at ht
  rcases ht with rfl | ht
  ·exact h t (by simp)
  ·exact putLast_thr (b::r) s hs (fun t ht=>h t (by simp at ht ⊢;right;exact ht)) t ht
theorem tidy_put {r:Rd} (s:Stm) (h:Tidy r) (hs:Small s):Tidy (put r s):=by
 have hl:(put r s).threads.length=r.threads.length:=putLast_length _ _
 refine⟨by rw[hl];exact h.few,h.c0,h.c8,fun e=>h.none (by have:=congrArg List.length e;rw[hl] at this;exact List.eq_nil_of_length_eq_zero (by simpa using this)),h.i0,by rw[hl];exact h.i1,h.opn,putLast_thr _ _ hs h.thr⟩
theorem tidy_takes {r:Rd} (ws:List (List UInt8)) (h:Tidy r):Tidy (takes { r with line:=r.line+1 } ws).1:=by
 have h0:Tidy { r with line:=r.line+1 }:=⟨h.few,h.c0,h.c8,h.none,h.i0,h.i1,h.opn,h.thr⟩
 unfold takes
 split
 ·unfold begins
  by_cases hf:4≤r.threads.length∨0<r.opn.length
  ·rw[if_pos (by exact hf)];exact h0
  ·rw[if_neg (by exact hf)]
   split
   ·rename_i a c _
    by_cases hd:(digit c 2).2=true
    ·rw[if_pos hd]
     have hb:=digit_ok c 2 hd
     refine⟨by simp;omega,by simp,by simp,by simp,h.i0,?_,h.opn,?_⟩
     ·have:=h.i1
      have hn:=h.none
      have h8:=h.c8
      cases ht:r.threads with
      | nil=>rw[ht] at this;rw[hn ht] at this;simp at this ⊢;omega
      | cons t q=>rw[ht] at this;simp at this ⊢;omega
     ·intro t ht
      simp at ht
      rcases ht with ht | rfl
      ·exact h.thr t ht
      ·exact⟨hb.1,by show (digit c 2).1<100;omega,by simp⟩
    ·rw[if_neg hd];exact h0
   ·exact h0
 ·split
  ·exact h0
  ·rename_i _ hne
   simp only[]
   split
   ·rename_i hs
    have hn:=nums_statement ws hs
    split
    ·unfold ends
     split
     ·exact h0
     ·rename_i l hl
      have hm:l∈r.opn:=List.mem_of_getLast? hl
      have hlb:=h.opn l hm
      refine tidy_put _ ⟨h.few,h.c0,h.c8,h.none,h.i0,h.i1,fun o ho=>h.opn o (List.dropLast_subset _ ho),h.thr⟩ ?_
      exact small_of hn _ _ hlb.1 hlb.2
    ·split
     ·exact h0
     ·rename_i h8
      have h8':r.count<8:=by simpa using h8
      have hne':r.threads≠[]:=by simpa using hne
      have h1:Tidy { r with line:=r.line+1,count:=r.count+1 }:=⟨h.few,by have:=h.c0;show 0≤r.count+1;omega,by show r.count+1≤8;omega,fun e=>absurd e hne',h.i0,by have:=h.i1;show r.ifs≤8*((r.threads.length-1:Nat):Int)+(r.count+1);omega,h.opn,h.thr⟩
      split
      ·split
       ·exact h1
       ·rename_i ho
        unfold branch
        rw[if_neg ho]
        have hi:=h.i1
        have hf:=h.few
        have hi0:=h.i0
        have hb:r.ifs+1<100:=by omega
        refine tidy_put _ ⟨h1.few,h1.c0,h1.c8,h1.none,by show 0≤r.ifs+1;omega,by show r.ifs+1≤8*((r.threads.length-1:Nat):Int)+(r.count+1);omega,?_,h1.thr⟩ (small_of hn _ _ (by show 0≤r.ifs+1;omega) hb)
        intro o ho'
        simp at ho'
        rcases ho' with ho' | rfl
        ·exact h.opn o ho'
        ·exact⟨by omega,hb⟩
      ·refine tidy_put _ h1 ?_
       have:=small_of hn (r.line+1) 0 (by omega) (by omega)
       have e:({ (statement ws).1 with line:=r.line+1 }:Stm)={ (statement ws).1 with line:=r.line+1,label:=0 }:=by
        have:=hn.l0
        rw[← this]
       rw[e];exact this
   ·exact h0
theorem tidy_run (xs:List (List UInt8)):∀ r:Rd,Tidy r→Tidy (runLines r xs).1:=by
 induction xs with
 | nil=>intro r h;exact h
 | cons x q ih =>
  intro r h
  simp only[runLines]
  split
  ·exact ih _ (tidy_takes _ h)
  ·exact tidy_takes _ h
theorem lines_small (l:List UInt8):∀ t∈(lines l).1,0≤t.block∧t.block<100∧∀ s∈t.stmts,Small s:=by
 have h:=tidy_run (splitAt 10 l).dropLast Rd.zero tidy_zero
 unfold lines
 simp only[]
 split
 ·split
  ·intro t ht;simp at ht
  ·exact h.thr
 ·intro t ht;simp at ht
end P
end Go.Proofs.YtgceflcbckjjiaaGreatDoor
