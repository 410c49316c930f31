import Derived.Test.YtgceflcbckjjiaaGreatDoorD44
set_option linter.unusedVariables false
set_option linter.unusedSimpArgs false
set_option maxHeartbeats 12800000
namespace Go.Proofs.YtgceflcbckjjiaaGreatDoor
namespace P
structure Nums (st:Stm):Prop where
 d0:0≤st.dest
 d1:st.dest<4
 a0:0≤st.a.n
 a1:st.a.n<4
 b0:0≤st.b.n
 b1:st.b.n<4
 l0:st.label=0
theorem nums_zero:Nums Stm.zero:=⟨by decide,by decide,by decide,by decide,by decide,by decide,rfl⟩
theorem digit_ok (c:UInt8) (n:Int) (h:(digit c n).2=true):0≤(digit c n).1∧(digit c n).1<n:=by
 simp[digit] at h ⊢
 omega
theorem register_ok (l:List UInt8) (h:(zKc l).2=true):0≤(zKc l).1∧(zKc l).1<4:=by
 unfold zKc at h ⊢
 split at h
 ·split at h
  ·rename_i h1;simp only[if_pos h1];exact digit_ok _ _ h
  ·simp at h
 ·simp at h
theorem operand_ok (l:List UInt8) (h:(zKv l).2=true):0≤(zKv l).1.n∧(zKv l).1.n<4:=by
 unfold zKv at h ⊢
 split at h
 ·exact digit_ok _ _ h
 ·exact register_ok _ h
theorem nums_ordering {st:Stm} (hs:Nums st) (ws:List (List UInt8)):Nums (zLd st ws).1:=by
 have h1:∀ o,Nums { st with order:=o }:=fun o=>⟨hs.d0,hs.d1,hs.a0,hs.a1,hs.b0,hs.b1,hs.l0⟩
 have h2:∀ o s,Nums { st with order:=o,scope:=s }:=fun o s=>⟨hs.d0,hs.d1,hs.a0,hs.a1,hs.b0,hs.b1,hs.l0⟩
 unfold zLd
 split
 ·exact hs
 ·split
  ·split
   ·exact h1 _
   ·split
    ·exact h2 _ _
    ·exact h1 _
  ·exact hs
theorem nums_target {st:Stm} (hs:Nums st) (p v:List UInt8) (h:(target st p v).2=true):Nums (target st p v).1:=by
 unfold target at h ⊢
 split at h
 ·rename_i h1
  simp only[h1,if_true]
  have:=operand_ok v h
  exact⟨hs.d0,hs.d1,this.1,this.2,hs.b0,hs.b1,hs.l0⟩
 ·simp at h
theorem nums_kind {st:Stm} (hs:Nums st) (k:Int):Nums { st with kind:=k }:=⟨hs.d0,hs.d1,hs.a0,hs.a1,hs.b0,hs.b1,hs.l0⟩
theorem nums_load {st:Stm} (hs:Nums st) (ws:List (List UInt8)):Nums (load st ws).1:=by
 unfold load
 split
 ·exact hs
 ·split
  ·refine nums_ordering (st:={ st with kind:=0,var:=_ }) ?_ _
   exact⟨hs.d0,hs.d1,hs.a0,hs.a1,hs.b0,hs.b1,hs.l0⟩
  ·exact hs
theorem nums_step {st:Stm} (hs:Nums st) (k:Int) (ws:List (List UInt8)) (h:(step st k ws).2=true):Nums (step st k ws).1:=by
 match ws,h with
 | [],h=>simp[step] at h
 | [_],h=>simp[step] at h
 | p::v::r,h =>
  cases ht:(target { st with kind:=k } p v).2
  ·rw[step_no st k p v r ht] at h;simp at h
  ·rw[step_yes st k p v r ht]
   exact nums_ordering (nums_target (nums_kind hs k) p v ht) r
theorem nums_sum {st:Stm} (hs:Nums st) (ws:List (List UInt8)) (h:(sum st ws).2=true):Nums (sum st ws).1:=by
 match ws,h with
 | [],h=>simp[sum] at h
 | [a],h =>
  cases ha:(zKv a).2
  ·simp[sum,ha] at h
  ·rw[sum_one st a ha]
   have:=operand_ok a ha
   exact⟨hs.d0,hs.d1,this.1,this.2,hs.b0,hs.b1,hs.l0⟩
 | [_,_],h=>simp[sum] at h
 | [a,s,b],h =>
  cases ha:(zKv a).2
  ·simp[sum,ha] at h
  ·cases hg:(sign s).2
   ·simp[sum,ha,hg] at h
   ·rw[sum_all st a s b ha hg] at h ⊢
    have h1:=operand_ok a ha
    have h2:=operand_ok b h
    exact⟨hs.d0,hs.d1,h1.1,h1.2,h2.1,h2.2,hs.l0⟩
 | _::_::_::_::_,h=>simp[sum] at h
theorem nums_assignment (ws:List (List UInt8)) (h:(zKl ws).2=true):Nums (zKl ws).1:=by
 match ws,h with
 | [],h=>simp[zKl] at h
 | [_],h=>simp[zKl] at h
 | [_,_],h=>simp[zKl] at h
 | d::e::c::r,h =>
  unfold zKl at h ⊢
  simp only at h ⊢
  by_cases he:(e==[61])=true
  ·by_cases hr:(zKc d).2=true
   ·rw[if_pos he,if_pos hr] at h ⊢
    have hd:=register_ok d hr
    have hz:Nums { Stm.zero with dest:=(zKc d).1 }:=⟨hd.1,hd.2,nums_zero.a0,nums_zero.a1,nums_zero.b0,nums_zero.b1,rfl⟩
    split at h
    ·rename_i h1;rw[if_pos h1];exact nums_load hz r
    ·rename_i h1
     rw[if_neg h1]
     split at h
     ·rename_i h2;rw[if_pos h2];exact nums_step hz 2 r h
     ·rename_i h2
      rw[if_neg h2]
      split at h
      ·rename_i h3;rw[if_pos h3];exact nums_step hz 3 r h
      ·rename_i h3;rw[if_neg h3];exact nums_sum hz (c::r) h
   ·rw[if_pos he,if_neg hr] at h;simp at h
  ·rw[if_neg he] at h;simp at h
theorem nums_statement (ws:List (List UInt8)) (h:(zKm ws).2=true):Nums (zKm ws).1:=by
 match ws,h with
 | [],h=>simp[zKm] at h
 | c::r,h =>
  unfold zKm at h ⊢
  simp only at h ⊢
  split at h
  ·rename_i h1
   rw[if_pos h1]
   match r,h with
   | [],h=>simp[store] at h
   | [_],h=>simp[store] at h
   | p::v::q,h =>
    unfold store at h ⊢
    simp only at h ⊢
    cases ht:(target { Stm.zero with kind:=1 } p v).2
    ·simp[ht] at h
    ·simp only[if_true]
     exact nums_ordering (nums_target (nums_kind nums_zero 1) p v ht) q
  ·rename_i h1
   rw[if_neg h1]
   split at h
   ·rename_i h2
    rw[if_pos h2]
    exact nums_ordering (nums_kind nums_zero 4) r
   ·rename_i h2
    rw[if_neg h2]
    split at h
    ·rename_i h3;rw[if_pos h3];exact nums_kind nums_zero 5
    ·rename_i h3
     rw[if_neg h3]
     split at h
     ·rename_i h4
      rw[if_pos h4]
      match r,h with
      | [],h=>simp[zLE] at h
      | [a],h =>
       have:=operand_ok a h
       exact⟨nums_zero.d0,nums_zero.d1,this.1,this.2,nums_zero.b0,nums_zero.b1,rfl⟩
      | _::_::_,h=>simp[zLE] at h
     ·rename_i h4
      rw[if_neg h4]
      split at h
      ·rename_i h5;rw[if_pos h5];exact nums_kind nums_zero 11
      ·rename_i h5;rw[if_neg h5];exact nums_assignment (c::r) h
end P
namespace P
structure Tidy (r:Rd):Prop where
 few:r.threads.length≤4
 c0:0≤r.count
 c8:r.count≤8
 none:r.threads=[]→r.count=0
 i0:0≤r.ifs
 i1:r.ifs≤8*((r.threads.length-1:Nat):Int)+r.count
 opn:∀ o∈r.opn,0≤o∧o<100
 thr:∀ t∈r.threads,0≤t.block∧t.block<100∧∀ s∈t.stmts,Small s
theorem tidy_zero:Tidy Rd.zero:=⟨by simp[Rd.zero],by simp[Rd.zero],by simp[Rd.zero],by simp[Rd.zero],by simp[Rd.zero],by simp[Rd.zero],by simp[Rd.zero],by simp[Rd.zero]⟩
theorem small_of {st:Stm} (h:Nums st) (ln lb:Int) (h0:0≤lb) (h1:lb<100):Small { st with line:=ln,label:=lb } :=
 ⟨h.d0,by have:=h.d1;show st.dest<100;omega,h.a0,by have:=h.a1;show st.a.n<100;omega,h.b0,by have:=h.b1;show st.b.n<100;omega,h0,h1⟩
theorem putLast_thr (ts:List Thr) (s:Stm) (hs:Small s) (h:∀ t∈ts,0≤t.block∧t.block<100∧∀ s∈t.stmts,Small s):∀ t∈putLast ts s,0≤t.block∧t.block<100∧∀ s∈t.stmts,Small s:=by
 match ts,h with
 | [],h=>intro t ht;simp[putLast] at ht
 | [a],h =>
  intro t ht
  simp[putLast] at ht
  subst ht
  have:=h a (by simp)
  refine⟨this.1,this.2.1,fun x hx=>?_⟩
  simp at hx
  rcases hx with hx | rfl
  ·exact this.2.2 x hx
  ·exact hs
 | a::b::r,h =>
  intro t ht
  simp only[putLast,List.mem_cons] at ht
  rcases ht with rfl | ht
  ·exact h t (by simp)
  ·exact putLast_thr (b::r) s hs (fun t ht=>h t (by simp at ht ⊢;right;exact ht)) t ht
theorem tidy_put {r:Rd} (s:Stm) (h:Tidy r) (hs:Small s):Tidy (put r s):=by
 have hl:(put r s).threads.length=r.threads.length:=putLast_length _ _
 refine⟨by rw[hl];exact h.few,h.c0,h.c8,fun e=>h.none (by have:=congrArg List.length e;rw[hl] at this;exact List.eq_nil_of_length_eq_zero (by simpa using this)),h.i0,by rw[hl];exact h.i1,h.opn,putLast_thr _ _ hs h.thr⟩
theorem tidy_takes {r:Rd} (ws:List (List UInt8)) (h:Tidy r):Tidy (takes { r with line:=r.line+1 } ws).1:=by
 have h0:Tidy { r with line:=r.line+1 }:=⟨h.few,h.c0,h.c8,h.none,h.i0,h.i1,h.opn,h.thr⟩
 unfold takes
 split
 ·unfold zKX
  by_cases hf:4≤r.threads.length∨0<r.opn.length
  ·rw[if_pos (by exact hf)];exact h0
  ·rw[if_neg (by exact hf)]
   split
   ·rename_i a c _
    by_cases hd:(digit c 2).2=true
    ·rw[if_pos hd]
     have hb:=digit_ok c 2 hd
     refine⟨by simp;omega,by simp,by simp,by simp,h.i0,?_,h.opn,?_⟩
     ·have:=h.i1
      have hn:=h.none
      have h8:=h.c8
      cases ht:r.threads with
      | nil=>rw[ht] at this;rw[hn ht] at this;simp at this ⊢;omega
      | cons t q=>rw[ht] at this;simp at this ⊢;omega
     ·intro t ht
      simp at ht
      rcases ht with ht | rfl
      ·exact h.thr t ht
      ·exact⟨hb.1,by show (digit c 2).1<100;omega,by simp⟩
    ·rw[if_neg hd];exact h0
   ·exact h0
 ·split
  ·exact h0
  ·rename_i _ hne
   simp only[]
   split
   ·rename_i hs
    have hn:=nums_statement ws hs
    split
    ·unfold ends
     split
     ·exact h0
     ·rename_i l hl
      have hm:l∈r.opn:=List.mem_of_getLast? hl
      have hlb:=h.opn l hm
      refine tidy_put _ ⟨h.few,h.c0,h.c8,h.none,h.i0,h.i1,fun o ho=>h.opn o (List.dropLast_subset _ ho),h.thr⟩ ?_
      exact small_of hn _ _ hlb.1 hlb.2
    ·split
     ·exact h0
     ·rename_i h8
      have h8':r.count<8:=by simpa using h8
      have hne':r.threads≠[]:=by simpa using hne
      have h1:Tidy { r with line:=r.line+1,count:=r.count+1 }:=⟨h.few,by have:=h.c0;show 0≤r.count+1;omega,by show r.count+1≤8;omega,fun e=>absurd e hne',h.i0,by have:=h.i1;show r.ifs≤8*((r.threads.length-1:Nat):Int)+(r.count+1);omega,h.opn,h.thr⟩
      split
      ·split
       ·exact h1
       ·rename_i ho
        unfold zLQ
        rw[if_neg ho]
        have hi:=h.i1
        have hf:=h.few
        have hi0:=h.i0
        have hb:r.ifs+1<100:=by omega
        refine tidy_put _ ⟨h1.few,h1.c0,h1.c8,h1.none,by show 0≤r.ifs+1;omega,by show r.ifs+1≤8*((r.threads.length-1:Nat):Int)+(r.count+1);omega,?_,h1.thr⟩ (small_of hn _ _ (by show 0≤r.ifs+1;omega) hb)
        intro o ho'
        simp at ho'
        rcases ho' with ho' | rfl
        ·exact h.opn o ho'
        ·exact⟨by omega,hb⟩
      ·refine tidy_put _ h1 ?_
       have:=small_of hn (r.line+1) 0 (by omega) (by omega)
       have e:({ (zKm ws).1 with line:=r.line+1 }:Stm)={ (zKm ws).1 with line:=r.line+1,label:=0 }:=by
        have:=hn.l0
        rw[← this]
       rw[e];exact this
   ·exact h0
theorem tidy_run (xs:List (List UInt8)):∀ r:Rd,Tidy r→Tidy (zLY r xs).1:=by
 induction xs with
 | nil=>intro r h;exact h
 | cons x q ih =>
  intro r h
  simp only[zLY]
  split
  ·exact ih _ (tidy_takes _ h)
  ·exact tidy_takes _ h
theorem lines_small (l:List UInt8):∀ t∈(lines l).1,0≤t.block∧t.block<100∧∀ s∈t.stmts,Small s:=by
 have h:=tidy_run (zJZ 10 l).dropLast Rd.zero tidy_zero
 unfold lines
 simp only[]
 split
 ·split
  ·intro t ht;simp at ht
  ·exact h.thr
 ·intro t ht;simp at ht
end P
end Go.Proofs.YtgceflcbckjjiaaGreatDoor
namespace Go.Proofs.YtgceflcbckjjiaaGreatDoor
open Go Go.RowKit
set_option maxRecDepth 100000
namespace P
end P
theorem zBW (s:ByteArray) (w:World) (hs:s.size≤8192) :
  Calls Tryz.prog 23 #[.string s] w fun e w'=>∃ tv,e=.returned (.tuple #[.agg #[tv],.int .i64 (P.kernel s.toList).2.1,.int .i64 (P.kernel s.toList).2.2])∧(∃ a m c,tv=.slice a m c) ∧
   ((P.kernel s.toList).2.1=0→∃ bt tc,tv=.slice (some ⟨bt,0,none⟩) (P.kernel s.toList).1.length tc∧zAl w' w.heap.size tv (P.kernel s.toList).1∧(P.kernel s.toList).1.length≤4∧(∀ t∈(P.kernel s.toList).1,t.stmts.length<3000)∧∀ t∈(P.kernel s.toList).1,0≤t.block∧t.block<100∧∀ x∈t.stmts,P.Small x)∧Below w.heap.size w w':=by
 unfold P.kernel
 rw[zAu]
 by_cases h1:2000<s.size
 ·rw[if_pos h1]
  refine (zFA s w hs h1).mono ?_
  rintro e w' ⟨rfl,hb⟩
  exact⟨_,rfl,⟨_,_,_,rfl⟩,fun h=>by simp at h,hb⟩
 rw[if_neg h1]
 cases h2:((P.lines s.toList).2 != 0)
 rotate_left
 ·refine (zEQ s w hs (by omega) h2).mono ?_
  rintro e w' ⟨rfl,hb⟩
  exact⟨_,rfl,⟨_,_,_,rfl⟩,fun h=>by simp at h,hb⟩
 simp only[Bool.false_eq_true,if_false]
 cases h3:(P.zKI (P.lines s.toList).1 != 0)
 rotate_left
 ·refine (zER s w hs (by omega) h2 h3).mono ?_
  rintro e w' ⟨rfl,hb⟩
  exact⟨_,rfl,⟨_,_,_,rfl⟩,fun h=>by simp at h,hb⟩
 simp only[Bool.false_eq_true,if_false]
 cases h4:(P.zKs (P.lines s.toList).1 (P.lines s.toList).1 != 0)
 rotate_left
 ·refine (zEy s w hs (by omega) h2 h3 h4).mono ?_
  rintro e w' ⟨rfl,hb⟩
  exact⟨_,rfl,⟨_,_,_,rfl⟩,fun h=>by simp at h,hb⟩
 simp only[Bool.false_eq_true,if_false]
 cases h5:P.over (P.lines s.toList).1
 rotate_left
 ·refine (zFB s w hs (by omega) h2 h3 h4 h5).mono ?_
  rintro e w' ⟨rfl,hb⟩
  exact⟨_,rfl,⟨_,_,_,rfl⟩,fun h=>by simp at h,hb⟩
 ·refine (zHj s w hs (by omega) h2 h3 h4 h5).mono ?_
  rintro e w' ⟨bt,tc,rfl,hth,hb⟩
  obtain⟨_,k2,k3⟩:=P.zLe s.toList (by simpa using h2)
  exact⟨_,rfl,⟨_,_,_,rfl⟩,fun _=>⟨bt,tc,rfl,hth,k2,fun t ht=>by have:=k3 t ht;rw[zAu] at this;omega,P.lines_small s.toList⟩,hb⟩
namespace P
def isOpt (way:Int):Bool:=way==2||way==3
def isFen (way:Int):Bool:=way==1||way==3
def zKq (l:List UInt8) (way:Int):List UInt8 × Int × Int :=
 if way<0∨4≤way then ([],5,0) else if (kernel l).2.1 != 0 then ([],(kernel l).2.1,(kernel l).2.2) else (write (ways (kernel l).1 (isOpt way) (isFen way)),0,0)
structure OkT (n:Nat) (ts:List Thr):Prop where
 len:∀ t∈ts,t.stmts.length<n
 sm:∀ t∈ts,0≤t.block∧t.block<100∧∀ x∈t.stmts,Small x
theorem small_os {st:Stm} (h:Small st) (o s:Int):Small { st with order:=o,scope:=s }:=⟨h.d0,h.d1,h.a0,h.a1,h.b0,h.b1,h.l0,h.l1⟩
theorem small_narrow {st:Stm} (h:Small st) (ts:List Thr):Small (zLI ts st):=by
 unfold zLI;split
 ·exact small_os h st.order 0
 ·exact h
theorem small_fence (st:Stm):Small (zKk st):=⟨by simp[zKk],by simp[zKk],by simp[zKk,Opd.zero],by simp[zKk,Opd.zero],by simp[zKk,Opd.zero],by simp[zKk,Opd.zero],by simp[zKk],by simp[zKk]⟩
theorem drop_sub (l:List Stm):∀ c,∀ x∈zKn c l,x∈l:=by
 induction l with
 | nil=>intro c x h;simp[zKn] at h
 | cons s r ih =>
  intro c x h
  simp only[zKn] at h
  split at h
  ·split at h
   ·exact List.mem_cons_of_mem _ (ih _ x h)
   ·rcases List.mem_cons.1 h with h | h
    ·simp[h]
    ·exact List.mem_cons_of_mem _ (ih _ x h)
  ·rcases List.mem_cons.1 h with h | h
   ·simp[h]
   ·exact List.mem_cons_of_mem _ (ih _ x h)
theorem thin_sub (l:List Stm):∀ p,∀ x∈zKj p l,x∈l:=by
 induction l with
 | nil=>intro c x h;simp[zKj] at h
 | cons s r ih =>
  intro c x h
  simp only[zKj] at h
  split at h
  ·exact List.mem_cons_of_mem _ (ih _ x h)
  ·rcases List.mem_cons.1 h with h | h
   ·simp[h]
   ·exact List.mem_cons_of_mem _ (ih _ x h)
theorem OkT.trim {n:Nat} {ts:List Thr} (h:OkT n ts):OkT n (zKM ts):=by
 refine⟨fun t ht=>?_,fun t ht=>?_⟩
 ·obtain⟨u,hu,rfl⟩:=List.mem_map.1 ht
  have h1:=h.len u hu
  have h2:=zIr (zMn ts u.block (zKu ts u.stmts)) none
  have h3:(zMn ts u.block (zKu ts u.stmts)).length≤u.stmts.length:=by
   unfold zMn
   have e:(zKu ts u.stmts).length=u.stmts.length:=by simp[zKu]
   split
   ·have:=zGr (zKu ts u.stmts) 0;omega
   ·omega
  simp only[trimT];omega
 ·obtain⟨u,hu,rfl⟩:=List.mem_map.1 ht
  obtain⟨h1,h2,h3⟩:=h.sm u hu
  refine⟨h1,h2,fun x hx=>?_⟩
  have hx:=thin_sub _ _ x hx
  have hy:x∈zKu ts u.stmts:=by
   unfold zMn at hx
   split at hx
   ·exact drop_sub _ _ x hx
   ·exact hx
  obtain⟨y,hy2,rfl⟩:=List.mem_map.1 hy
  exact small_narrow (h3 y hy2) ts
theorem OkT.fence {n:Nat} {ts:List Thr} (h:OkT n ts):OkT (3*n) (zLv ts):=by
 refine⟨fun t ht=>?_,fun t ht=>?_⟩
 ·obtain⟨u,hu,rfl⟩:=List.mem_map.1 ht
  have h1:=h.len u hu
  have h2:=zFR (zLp ts) u.stmts
  simp only[zKZ];omega
 ·obtain⟨u,hu,rfl⟩:=List.mem_map.1 ht
  obtain⟨h1,h2,h3⟩:=h.sm u hu
  refine⟨h1,h2,?_⟩
  simp only[zKZ]
  generalize zLp ts=pr
  generalize u.stmts=l at h3
  induction l with
  | nil=>intro x hx;simp[zKo] at hx
  | cons s r ih =>
   intro x hx
   simp only[zKo,List.mem_append] at hx
   rcases hx with hx | hx
   ·have hs:=h3 s (by simp)
    unfold zKN at hx
    split at hx
    ·simp only[List.mem_append] at hx
     rcases hx with (hx | hx) | hx
     ·split at hx
      ·simp at hx;rw[hx];exact small_fence s
      ·simp at hx
     ·simp at hx;rw[hx];exact small_os hs 1 s.scope
     ·split at hx
      ·simp at hx;rw[hx];exact small_fence s
      ·simp at hx
    ·simp at hx;rw[hx];exact hs
   ·exact ih (fun y hy=>h3 y (by simp[hy])) x hx
end P
theorem zHG (l:List UInt8) (h:(P.kernel l).2.1=0):0<(P.kernel l).1.length:=by
 unfold P.kernel at h ⊢
 split at h
 ·simp at h
 ·rename_i h1
  rw[if_neg h1]
  split at h
  ·simp at h
  ·rename_i h2
   rw[if_neg h2]
   split at h
   ·simp at h
   ·rename_i h3
    rw[if_neg h3]
    split at h
    ·simp at h
    ·rename_i h4
     rw[if_neg h4]
     split at h
     ·simp at h
     ·rename_i h5
      rw[if_neg h5]
      have:=(P.zLe l (by simpa using h2)).1
      exact List.length_pos_iff.2 this
theorem zBy {ops:Array Oper} {rest:List Oper} {op:Oper} {a:Act} {w:World} {Q:Exit→Act→World→Prop} (x:Operand) (hgd:op.guard=none) (ho:op.op=.load 48 x)
  (g:Nat) (v:Value) (hx:a.eval x=.pointer (some ⟨g,0,none⟩)) (hg:w.heap[g]?=some (.cells #[v] 48 (0,0)))
  (h:wpList Tryz.prog ops Q rest (a.put op.dst (.agg #[v])) w):wpList Tryz.prog ops Q (op::rest) a w :=
 zBD hgd _ x ho g hx _ _ hg _ Tryz.underlying48 rfl (by kernel_rfl) h
theorem zJg {w:World} {g:Nat} {v:Value} (h:w.heap[g]?=some (.cells #[v] 48 (0,0))):g<w.heap.size∧w.cell? ⟨g,0,none⟩=some v∧w.frozen? ⟨g,0,none⟩=false:=by
 refine⟨(Array.getElem?_eq_some_iff.1 h).1,?_,?_⟩<;>simp[World.cell?,World.frozen?,h]
theorem zIs {w W w2:World} {g bt n cap:Nat} {v:Value} {ts:List P.Thr} (hbw:Below w.heap.size w W) (hg:W.heap[g]?=some (.cells #[v] 48 (0,0))) (hwg:w.heap.size≤g) (hth:zAl w2 W.heap.size (.slice (some ⟨bt,0,none⟩) n cap) ts) (hb:Below W.heap.size W w2) :
  zAl (w2.setCell ⟨g,0,none⟩ (.slice (some ⟨bt,0,none⟩) n cap)) g (.slice (some ⟨bt,0,none⟩) n cap) ts∧Below w.heap.size w (w2.setCell ⟨g,0,none⟩ (.slice (some ⟨bt,0,none⟩) n cap))∧(w2.setCell ⟨g,0,none⟩ (.slice (some ⟨bt,0,none⟩) n cap)).heap[g]?=some (.cells #[.slice (some ⟨bt,0,none⟩) n cap] 48 (0,0))∧w2.cell? ⟨g,0,none⟩=some v∧w2.frozen? ⟨g,0,none⟩=false∧g<w2.heap.size:=by
 have hlt:g<W.heap.size:=(Array.getElem?_eq_some_iff.1 hg).1
 have h2:=(hb.block g hlt).trans hg
 obtain⟨p1,p2,p3⟩:=zJg h2
 refine⟨(hth.base (by omega)).set _,(hbw.trans (hb.mono hbw.size)).setCell (p:=⟨g,0,none⟩) hwg _,?_,p2,p3,p1⟩
 rw[zAf h2];rfl
theorem zFl (s:ByteArray) (way:Int) (w:World) (hs:s.size≤8192) :
  Calls Tryz.prog 15 #[.string s,.int .i64 way] w fun e w'=>∃ t,e=.returned (.tuple #[.string t,.int .i64 (P.zKq s.toList way).2.1,.int .i64 (P.zKq s.toList way).2.2])∧Txt 10000000 t (P.zKq s.toList way).1∧Below w.heap.size w w':=by
 by_cases h1:way<0
 ·have HE:Hid (P.zKq s.toList way=([],5,0)):=by unfold Hid P.zKq;rw[if_pos (Or.inl h1)]
  have hd:decide (way<0)=true:=by simpa using h1
  go_enter Tryz.func15,Tryz.ntmps15
  go_wp2
  go_ret3
  rw[HE.out]
  exact⟨_,rfl,⟨by rw[zAc],by simp[zAF]⟩,Below.refl _ _⟩
 by_cases h2:4≤way
 ·have HE:Hid (P.zKq s.toList way=([],5,0)):=by unfold Hid P.zKq;rw[if_pos (Or.inr h2)]
  have hd:decide (way<0)=false:=by simpa using h1
  have hd2:decide (4≤way)=true:=by simpa using h2
  go_enter Tryz.func15,Tryz.ntmps15
  go_wp2
  go_ret3
  rw[HE.out]
  exact⟨_,rfl,⟨by rw[zAc],by simp[zAF]⟩,Below.refl _ _⟩
 have h3:¬ (way<0∨4≤way):=by omega
 cases hf:((P.kernel s.toList).2.1 != 0)
 rotate_left
 ·have HE:Hid (P.zKq s.toList way=([],(P.kernel s.toList).2.1,(P.kernel s.toList).2.2)):=by unfold Hid P.zKq;rw[if_neg h3,hf];rfl
  have hd:decide (way<0)=false:=by simpa using h1
  have hd2:decide (4≤way)=false:=by simpa using h2
  go_enter Tryz.func15,Tryz.ntmps15
  go_wp2_with (first
   | (go_at_call 23;refine (zBW s _ hs).mono ?_;rintro e w1 ⟨tv,rfl,⟨ta,tm,tc,rfl⟩,h2,hb⟩;clear h2))
  go_ret3
  rw[HE.out]
  exact⟨_,rfl,⟨by rw[zAc],by simp[zAF]⟩,hb.alloc hb.size _⟩
 have hf0:(P.kernel s.toList).2.1=0:=by simpa using hf
 have HE:Hid (P.zKq s.toList way=(P.write (P.ways (P.kernel s.toList).1 (P.isOpt way) (P.isFen way)),0,0)):=by unfold Hid P.zKq;rw[if_neg h3,hf];rfl
 have hw4:way=0∨way=1∨way=2∨way=3:=by omega
 clear h1 h2 h3
 have HNE:Hid (0<(P.kernel s.toList).1.length):=zHG s.toList hf0
 rcases hw4 with rfl | rfl | rfl | rfl
 ·go_enter Tryz.func15,Tryz.ntmps15
  go_wp2_with (first
   | (go_at_call 23;refine (zBW s _ hs).mono ?_;rintro e w1 ⟨tv,rfl,h1,h2,hb⟩;obtain⟨bt,tc,rfl,hth,k1,k2,k3⟩:=h2 hf0;have HT:=zAa hth;have OK0:Hid (P.OkT 3000 (P.kernel s.toList).1):=⟨k2,k3⟩;have hn0:0<(P.kernel s.toList).1.length:=HNE.out;have hB0:Below w.heap.size w (w1.alloc (.cells #[.slice (some ⟨bt,0,none⟩) (P.kernel s.toList).1.length tc] 48)):=hb.alloc hb.size _;have BX0:(w1.alloc (.cells #[.slice (some ⟨bt,0,none⟩) (P.kernel s.toList).1.length tc] 48)).heap[w1.heap.size]?=some (.cells #[.slice (some ⟨bt,0,none⟩) (P.kernel s.toList).1.length tc] 48 (0,0)):=heap_alloc_new w1 _;have TH0:Hid (zAl (w1.alloc (.cells #[.slice (some ⟨bt,0,none⟩) (P.kernel s.toList).1.length tc] 48)) w.heap.size (.slice (some ⟨bt,0,none⟩) (P.kernel s.toList).1.length tc) (P.kernel s.toList).1):=HT.out.keep (fun k hk=>Below.heap_alloc _ _ _ hk);have hw1:=hb.size;have HBX0:=zAa BX0;have HB0:=zAa hB0;clear hth k2 k3 h2 BX0 hB0 HT h1)
   | (go_at_call 27;refine (zCQ w.heap.size bt _ tc (P.kernel s.toList).1 _ (by exact TH0.out) rfl (by omega) (fun t ht=>by have:=OK0.out.len t ht;omega) OK0.out.sm).mono ?_;rintro e wz ⟨t,rfl,ht,hbz⟩))
  go_ret3
  rw[HE.out]
  exact⟨t,rfl,ht,HB0.out.trans (hbz.mono HB0.out.size)⟩
 ·go_enter Tryz.func15,Tryz.ntmps15
  go_wp2_with (first
   | (go_at_call 23;refine (zBW s _ hs).mono ?_;rintro e w1 ⟨tv,rfl,h1,h2,hb⟩;obtain⟨bt,tc,rfl,hth,k1,k2,k3⟩:=h2 hf0;have HT:=zAa hth;have OK0:Hid (P.OkT 3000 (P.kernel s.toList).1):=⟨k2,k3⟩;have hn0:0<(P.kernel s.toList).1.length:=HNE.out;have hB0:Below w.heap.size w (w1.alloc (.cells #[.slice (some ⟨bt,0,none⟩) (P.kernel s.toList).1.length tc] 48)):=hb.alloc hb.size _;have BX0:(w1.alloc (.cells #[.slice (some ⟨bt,0,none⟩) (P.kernel s.toList).1.length tc] 48)).heap[w1.heap.size]?=some (.cells #[.slice (some ⟨bt,0,none⟩) (P.kernel s.toList).1.length tc] 48 (0,0)):=heap_alloc_new w1 _;have TH0:Hid (zAl (w1.alloc (.cells #[.slice (some ⟨bt,0,none⟩) (P.kernel s.toList).1.length tc] 48)) w.heap.size (.slice (some ⟨bt,0,none⟩) (P.kernel s.toList).1.length tc) (P.kernel s.toList).1):=HT.out.keep (fun k hk=>Below.heap_alloc _ _ _ hk);have hw1:=hb.size;have HBX0:=zAa BX0;have HB0:=zAa hB0;clear hth k2 k3 h2 BX0 hB0 HT h1)
   | (go_at_call 26;refine (zEs w.heap.size bt _ tc (P.kernel s.toList).1 _ (by exact TH0.out) rfl (by omega) hn0 (fun t ht=>by have:=OK0.out.len t ht;omega)).mono ?_;rintro e w2 ⟨bt2,tc2,rfl,hth2,hb2⟩;obtain⟨g1,g2,g3,g4,g5,g6⟩:=zIs HB0.out HBX0.out hw1 hth2 hb2;have TH2:=zAa g1;have HB2:=zAa g2;have BX2:=zAa g3;clear g1 g2 g3 hth2)
   | (generalize w2.setCell ⟨w1.heap.size,0,none⟩ (.slice (some ⟨bt2,0,none⟩) (P.kernel s.toList).1.length tc2)=W2 at *;refine zBy (.tmp 7) rfl rfl w1.heap.size _ rfl (by exact BX2.out) ?_)
   | (go_at_call 27;refine (zCQ w1.heap.size bt2 _ tc2 (P.zLv (P.kernel s.toList).1) _ (by exact TH2.out) (by simp[P.zLv]) (by omega) (fun t ht=>by have:=OK0.out.fence.len t ht;omega) OK0.out.fence.sm).mono ?_;rintro e wz ⟨t,rfl,ht,hbz⟩))
  go_ret3
  rw[HE.out]
  exact⟨t,rfl,ht,HB2.out.trans (hbz.mono HB2.out.size)⟩
 ·go_enter Tryz.func15,Tryz.ntmps15
  go_wp2_with (first
   | (go_at_call 23;refine (zBW s _ hs).mono ?_;rintro e w1 ⟨tv,rfl,h1,h2,hb⟩;obtain⟨bt,tc,rfl,hth,k1,k2,k3⟩:=h2 hf0;have HT:=zAa hth;have OK0:Hid (P.OkT 3000 (P.kernel s.toList).1):=⟨k2,k3⟩;have hn0:0<(P.kernel s.toList).1.length:=HNE.out;have hB0:Below w.heap.size w (w1.alloc (.cells #[.slice (some ⟨bt,0,none⟩) (P.kernel s.toList).1.length tc] 48)):=hb.alloc hb.size _;have BX0:(w1.alloc (.cells #[.slice (some ⟨bt,0,none⟩) (P.kernel s.toList).1.length tc] 48)).heap[w1.heap.size]?=some (.cells #[.slice (some ⟨bt,0,none⟩) (P.kernel s.toList).1.length tc] 48 (0,0)):=heap_alloc_new w1 _;have TH0:Hid (zAl (w1.alloc (.cells #[.slice (some ⟨bt,0,none⟩) (P.kernel s.toList).1.length tc] 48)) w.heap.size (.slice (some ⟨bt,0,none⟩) (P.kernel s.toList).1.length tc) (P.kernel s.toList).1):=HT.out.keep (fun k hk=>Below.heap_alloc _ _ _ hk);have hw1:=hb.size;have HBX0:=zAa BX0;have HB0:=zAa hB0;clear hth k2 k3 h2 BX0 hB0 HT h1)
   | (go_at_call 25;refine (zDZ w.heap.size bt _ tc (P.kernel s.toList).1 _ (by exact TH0.out) rfl (by omega) hn0 (fun t ht=>by have:=OK0.out.len t ht;omega)).mono ?_;rintro e w2 ⟨bt2,tc2,rfl,hth2,hb2⟩;obtain⟨g1,g2,g3,g4,g5,g6⟩:=zIs HB0.out HBX0.out hw1 hth2 hb2;have TH2:=zAa g1;have HB2:=zAa g2;have BX2:=zAa g3;clear g1 g2 g3 hth2)
   | (generalize w2.setCell ⟨w1.heap.size,0,none⟩ (.slice (some ⟨bt2,0,none⟩) (P.kernel s.toList).1.length tc2)=W2 at *;refine zBy (.tmp 7) rfl rfl w1.heap.size _ rfl (by exact BX2.out) ?_)
   | (go_at_call 27;refine (zCQ w1.heap.size bt2 _ tc2 (P.zKM (P.kernel s.toList).1) _ (by exact TH2.out) (by simp[P.zKM]) (by omega) (fun t ht=>by have:=OK0.out.trim.len t ht;omega) OK0.out.trim.sm).mono ?_;rintro e wz ⟨t,rfl,ht,hbz⟩))
  go_ret3
  rw[HE.out]
  exact⟨t,rfl,ht,HB2.out.trans (hbz.mono HB2.out.size)⟩
 ·go_enter Tryz.func15,Tryz.ntmps15
  go_wp2_with (first
   | (go_at_call 23;refine (zBW s _ hs).mono ?_;rintro e w1 ⟨tv,rfl,h1,h2,hb⟩;obtain⟨bt,tc,rfl,hth,k1,k2,k3⟩:=h2 hf0;have HT:=zAa hth;have OK0:Hid (P.OkT 3000 (P.kernel s.toList).1):=⟨k2,k3⟩;have hn0:0<(P.kernel s.toList).1.length:=HNE.out;have hB0:Below w.heap.size w (w1.alloc (.cells #[.slice (some ⟨bt,0,none⟩) (P.kernel s.toList).1.length tc] 48)):=hb.alloc hb.size _;have BX0:(w1.alloc (.cells #[.slice (some ⟨bt,0,none⟩) (P.kernel s.toList).1.length tc] 48)).heap[w1.heap.size]?=some (.cells #[.slice (some ⟨bt,0,none⟩) (P.kernel s.toList).1.length tc] 48 (0,0)):=heap_alloc_new w1 _;have TH0:Hid (zAl (w1.alloc (.cells #[.slice (some ⟨bt,0,none⟩) (P.kernel s.toList).1.length tc] 48)) w.heap.size (.slice (some ⟨bt,0,none⟩) (P.kernel s.toList).1.length tc) (P.kernel s.toList).1):=HT.out.keep (fun k hk=>Below.heap_alloc _ _ _ hk);have hw1:=hb.size;have HBX0:=zAa BX0;have HB0:=zAa hB0;clear hth k2 k3 h2 BX0 hB0 HT h1)
   | (go_at_call 25;refine (zDZ w.heap.size bt _ tc (P.kernel s.toList).1 _ (by exact TH0.out) rfl (by omega) hn0 (fun t ht=>by have:=OK0.out.len t ht;omega)).mono ?_;rintro e w2 ⟨bt2,tc2,rfl,hth2,hb2⟩;obtain⟨g1,g2,g3,g4,g5,g6⟩:=zIs HB0.out HBX0.out hw1 hth2 hb2;have TH2:=zAa g1;have HB2:=zAa g2;have BX2:=zAa g3;clear g1 g2 g3 hth2)
   | (generalize w2.setCell ⟨w1.heap.size,0,none⟩ (.slice (some ⟨bt2,0,none⟩) (P.kernel s.toList).1.length tc2)=W2 at *;refine zBy (.tmp 7) rfl rfl w1.heap.size _ rfl (by exact BX2.out) ?_)
   | (go_at_call 26;refine (zEs w1.heap.size bt2 _ tc2 (P.zKM (P.kernel s.toList).1) _ (by exact TH2.out) (by simp[P.zKM]) (by omega) hn0 (fun t ht=>by have:=OK0.out.trim.len t ht;omega)).mono ?_;rintro e w3 ⟨bt3,tc3,rfl,hth3,hb3⟩;obtain⟨g1,g2,g3,g7,g8,g9⟩:=zIs HB2.out BX2.out hw1 hth3 hb3;have TH3:=zAa g1;have HB3:=zAa g2;have BX3:=zAa g3;clear g1 g2 g3 hth3)
   | (generalize w3.setCell ⟨w1.heap.size,0,none⟩ (.slice (some ⟨bt3,0,none⟩) (P.kernel s.toList).1.length tc3)=W3 at *;refine zBy (.tmp 7) rfl rfl w1.heap.size _ rfl (by exact BX3.out) ?_)
   | (go_at_call 27;refine (zCQ w1.heap.size bt3 _ tc3 (P.zLv (P.zKM (P.kernel s.toList).1)) _ (by exact TH3.out) (by simp[P.zKM,P.zLv]) (by omega) (fun t ht=>by have:=OK0.out.trim.fence.len t ht;omega) OK0.out.trim.fence.sm).mono ?_;rintro e wz ⟨t,rfl,ht,hbz⟩))
  go_ret3
  rw[HE.out]
  exact⟨t,rfl,ht,HB3.out.trans (hbz.mono HB3.out.size)⟩
end Go.Proofs.YtgceflcbckjjiaaGreatDoor
