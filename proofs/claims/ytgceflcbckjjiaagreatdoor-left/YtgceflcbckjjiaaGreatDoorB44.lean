import Derived.Test.YtgceflcbckjjiaaGreatDoorB43
set_option linter.unusedVariables false
set_option linter.unusedSimpArgs false
namespace Go.Proofs.YtgceflcbckjjiaaGreatDoor
open Go Go.RowKit
set_option maxRecDepth 100000
theorem openL_any (B g:Nat) (r:P.Rd) (w:World) (h:RdAt w B g r) (ho:r.opn.length<10) :
  Calls Tryz.prog 139 #[.pointer (some ⟨g,0,none⟩)] w fun e w'=>e=.returned (.int .i64 (P.openL r))∧w'=w:=by
 obtain⟨tv,ov,vs,h⟩:=h
 by_cases he:r.opn=[]
 ·have hov:ov=.slice none 0 0∨∃ k c,ov=.slice (some ⟨k,0,none⟩) 0 c:=by
   have:=h.opn
   rw[he] at this
   rcases this.2 with ⟨e,_⟩ | ⟨k,c,cur,e,_⟩
   ·exact .inl e
   ·exact .inr ⟨k,c,e⟩
  obtain⟨glt,gfr,g0,g1,g2,g3,g4⟩:=h.facts
  have HE:Hid (P.openL r=0):=by unfold Hid;simp[P.openL,he]
  clear h
  rcases hov with rfl | ⟨k,c,rfl⟩
  all_goals
   go_enter Tryz.func139,Tryz.ntmps139
   go_wp2
   go_ret
   rw[unhide HE]
   exact⟨rfl,rfl⟩
 ·obtain⟨os,o,hos⟩:=snoc_of r.opn he
  have hown:=h.opn
  rw[hos] at hown
  simp only[List.length_append,List.length_cons,List.length_nil,Nat.zero_add,List.map_append,List.map_cons,List.map_nil] at hown
  obtain⟨k,cap,rfl,hBk,hklt⟩:=hown.form (by omega)
  have hc:w.cell? ⟨k,os.length,none⟩=some (.int .i64 o):=by
   rw[hown.cellAt _ (by omega),List.getElem?_append_right (by simp)];simp
  obtain⟨glt,gfr,g0,g1,g2,g3,g4⟩:=h.facts
  have hol:os.length<10:=by rw[hos] at ho;simp at ho;omega
  have HE:Hid (P.openL r=o):=by unfold Hid;simp[P.openL,hos]
  clear h hown hos he ho
  go_enter Tryz.func139,Tryz.ntmps139
  go_wp2
  go_ret
  rw[unhide HE]
  exact⟨rfl,rfl⟩
theorem nextL_any (B g:Nat) (r:P.Rd) (w:World) (h:RdAt w B g r) (h0:0≤r.ifs) (h1:r.ifs<10000) :
  Calls Tryz.prog 140 #[.pointer (some ⟨g,0,none⟩)] w fun e w'=>e=.returned (.int .i64 (r.ifs+1))∧w'=w:=by
 obtain⟨tv,ov,vs,h⟩:=h
 obtain⟨glt,gfr,g0,g1,g2,g3,g4⟩:=h.facts
 clear h
 go_enter Tryz.func140,Tryz.ntmps140
 go_wp2
 go_ret
 first | exact⟨rfl,rfl⟩ | exact⟨by go_num,rfl⟩
theorem takeA_thr (r:P.Rd) (l:List UInt8) (k:Nat) (h:k<2) (hn:∀ j,j<k→(l==P.thrT (j:Int))=false) (ht:(l==P.thrT (k:Int))=true):P.takeA r l=P.beginD r (k:Int) r.line:=by
 have e:l=P.thrT (k:Int):=by simpa using ht
 unfold P.takeA
 match k,h with
 | 0,_ =>
  have e0:l=P.thrT 0:=e
  rw[if_pos e0];rfl
 | 1,_ =>
  have h0:¬ l=P.thrT 0:=by have:=hn 0 (by omega);simpa using this
  have e1:l=P.thrT 1:=e
  rw[if_neg h0,if_pos e1];rfl
theorem takeA_rest (r:P.Rd) (l:List UInt8) (hn:∀ j,j<2→(l==P.thrT ((j:Nat):Int))=false):P.takeA r l=if P.openL r != 0&&l==P.labT (P.openL r)++[58] then P.putD r { P.Stm.zero with kind:=11,line:=r.line }
 else if !(P.stmA l (r.ifs+1)).2||((P.stmA l (r.ifs+1)).1.kind==5&&P.openL r != 0) then (r,false)
 else P.putD r { (P.stmA l (r.ifs+1)).1 with line:=r.line }:=by
 have h0:¬ l=P.thrT 0:=by have:=hn 0 (by omega);simpa using this
 have h1:¬ l=P.thrT 1:=by have:=hn 1 (by omega);simpa using this
 conv=>lhs;unfold P.takeA
 rw[if_neg h0,if_neg h1]
set_option maxHeartbeats 6400000 in
theorem takeA_any (B g N:Nat) (r:P.Rd) (s:ByteArray) (w:World) (h:RdAt w B g r) (hs:s.size≤8192)
  (hF:Few N r) (hN:N<10000) (hB:B≤w.heap.size) (ho9:r.opn.length<10) (hi0:0≤r.ifs) (hi1:r.ifs<99) (hc0:0≤r.count) (hc1:r.count<10000) (hL0:0≤P.openL r) (hL1:P.openL r<100) :
  Calls Tryz.prog 89 #[.pointer (some ⟨g,0,none⟩),.string s,.int .i64 r.line] w fun e w'=>e=.returned (.bool (P.takeA r s.toList).2)∧RdAt w' B g (P.takeA r s.toList).1∧BelowX B g w w':=by
 have hA:=hide h
 clear h
 go_enter Tryz.func89,Tryz.ntmps89
 go_wp2
 go_loop [7] (fun i=>∃ k:Nat,k≤2∧i=.int .i64 k∧Hid (∀ j:Nat,j<k→(s.toList==P.thrT (j:Int))=false)) (fun i=>2-(intOf i).toNat)
 case atStart=>exact⟨0,by omega,rfl,fun j hj=>absurd hj (by omega)⟩
 case round =>
  obtain⟨k,hk,rfl,HK⟩:=hrel
  by_cases hlt:k<2
  ·have hin:(k:Int)<2:=by omega
   cases ht:(s.toList==P.thrT (k:Int))
   ·have HN:Hid (∀ j:Nat,j<k+1→(s.toList==P.thrT (j:Int))=false):=fun j hj=>by
     rcases Nat.lt_succ_iff_lt_or_eq.1 hj with h | h
     ·exact HK.out j h
     ·rw[h];exact ht
    have HT:=hide ht
    clear ht
    go_wp2_with (first | (go_at_call 44;refine (thrA_any _ _ (by omega) (by omega)).mono ?_;rintro e w' ⟨t,rfl,ht,hw'⟩;have hw':=hw'.symm;subst hw';have hq:(s.toList==t.toList)=false:=(by rw[ht.1];exact HT.out)))
    go_round
    case rel=>exact⟨k+1,by omega,by go_num,HN⟩
    case measure=>simp[intOf];omega
   ·have HE:=hide (takeA_thr r s.toList k hlt HK.out ht)
    have HT:=hide ht
    clear ht
    go_wp2_with (first | (go_at_call 44;refine (thrA_any _ _ (by omega) (by omega)).mono ?_;rintro e w' ⟨t,rfl,ht,hw'⟩;have hw':=hw'.symm;subst hw';have hq:(s.toList==t.toList)=true:=(by rw[ht.1];exact HT.out)) | (go_at_call 138;refine (beginD_any B g r (k:Int) r.line _ hA.out hB (by have:=hF.1;omega) ho9).mono ?_;rintro e w2 ⟨rfl,hr1,hb1⟩))
    go_ret
    rw[HE.out];exact⟨rfl,hr1,hb1⟩
  ·have hk2:k=2:=by omega
   have hin:¬ (k:Int)<2:=by omega
   have HT:=hide (takeA_rest r s.toList (fun j hj=>HK.out j (by omega)))
   clear HK
   cases ho:(P.openL r != 0)
   ·have HT2:Hid (P.takeA r s.toList=if !(P.stmA s.toList (r.ifs+1)).2||((P.stmA s.toList (r.ifs+1)).1.kind==5&&P.openL r != 0) then (r,false) else P.putD r { (P.stmA s.toList (r.ifs+1)).1 with line:=r.line }):=by unfold Hid;rw[HT.out,ho];rfl
    clear HT
    cases hok:(P.stmA s.toList (r.ifs+1)).2
    ·have HE:Hid (P.takeA r s.toList=(r,false)):=by unfold Hid;rw[HT2.out,hok];rfl
     go_wp2_with (first | (go_at_call 139;refine (openL_any B g r _ hA.out ho9).mono ?_;rintro e w' ⟨rfl,hw'⟩;have hw':=hw'.symm;subst hw') | (go_at_call 140;refine (nextL_any B g r _ hA.out hi0 (by omega)).mono ?_;rintro e w' ⟨rfl,hw'⟩;have hw':=hw'.symm;subst hw') | (go_at_call 141;refine (stmA_any s (r.ifs+1) _ hs (by omega) (by omega)).mono ?_;rintro e w1 ⟨he,hb⟩;simp only[stmVal,stmCells] at he;subst he))
     go_ret
     rw[HE.out];exact⟨rfl,(hA.out.below hb).alloc _,BelowX.of ((hb.mono hB).alloc (by have:=hb.size;omega) _)⟩
    cases h5:((P.stmA s.toList (r.ifs+1)).1.kind==5)
    rotate_left
    ·have HE:Hid (P.takeA r s.toList=P.putD r { (P.stmA s.toList (r.ifs+1)).1 with line:=r.line }):=by unfold Hid;rw[HT2.out,hok,h5,ho];rfl
     go_wp2_with (first | (go_at_call 139;refine (openL_any B g r _ hA.out ho9).mono ?_;rintro e w' ⟨rfl,hw'⟩;have hw':=hw'.symm;subst hw') | (go_at_call 140;refine (nextL_any B g r _ hA.out hi0 (by omega)).mono ?_;rintro e w' ⟨rfl,hw'⟩;have hw':=hw'.symm;subst hw') | (go_at_call 141;refine (stmA_any s (r.ifs+1) _ hs (by omega) (by omega)).mono ?_;rintro e w1 ⟨he,hb⟩;simp only[stmVal,stmCells] at he;subst he) | (go_at_call 101;refine (putD_any B g N r { (P.stmA s.toList (r.ifs+1)).1 with line:=r.line } _ (by exact (hA.out.below hb).alloc (.cells (stmCells { (P.stmA s.toList (r.ifs+1)).1 with line:=r.line }) 96)) hF hN (by have:=hb.size;simp;omega) ho9 hi0 (by omega) hc0 hc1).mono ?_;rintro e w2 ⟨rfl,hr1,hb1⟩))
     go_ret
     rw[HE.out];exact⟨rfl,hr1,(BelowX.of ((hb.mono hB).alloc (by have:=hb.size;omega) _)).trans hb1⟩
    ·have HE:Hid (P.takeA r s.toList=P.putD r { (P.stmA s.toList (r.ifs+1)).1 with line:=r.line }):=by unfold Hid;rw[HT2.out,hok,h5];rfl
     go_wp2_with (first | (go_at_call 139;refine (openL_any B g r _ hA.out ho9).mono ?_;rintro e w' ⟨rfl,hw'⟩;have hw':=hw'.symm;subst hw') | (go_at_call 140;refine (nextL_any B g r _ hA.out hi0 (by omega)).mono ?_;rintro e w' ⟨rfl,hw'⟩;have hw':=hw'.symm;subst hw') | (go_at_call 141;refine (stmA_any s (r.ifs+1) _ hs (by omega) (by omega)).mono ?_;rintro e w1 ⟨he,hb⟩;simp only[stmVal,stmCells] at he;subst he) | (go_at_call 101;refine (putD_any B g N r { (P.stmA s.toList (r.ifs+1)).1 with line:=r.line } _ (by exact (hA.out.below hb).alloc (.cells (stmCells { (P.stmA s.toList (r.ifs+1)).1 with line:=r.line }) 96)) hF hN (by have:=hb.size;simp;omega) ho9 hi0 (by omega) hc0 hc1).mono ?_;rintro e w2 ⟨rfl,hr1,hb1⟩))
     go_ret
     rw[HE.out];exact⟨rfl,hr1,(BelowX.of ((hb.mono hB).alloc (by have:=hb.size;omega) _)).trans hb1⟩
   ·cases hl:(s.toList==P.labT (P.openL r)++[58])
    ·have HT2:Hid (P.takeA r s.toList=if !(P.stmA s.toList (r.ifs+1)).2||((P.stmA s.toList (r.ifs+1)).1.kind==5&&P.openL r != 0) then (r,false) else P.putD r { (P.stmA s.toList (r.ifs+1)).1 with line:=r.line }):=by unfold Hid;rw[HT.out,ho,hl];rfl
     have HL:=hide hl
     clear HT hl
     cases hok:(P.stmA s.toList (r.ifs+1)).2
     ·have HE:Hid (P.takeA r s.toList=(r,false)):=by unfold Hid;rw[HT2.out,hok];rfl
      go_wp2_with (first | (go_at_call 139;refine (openL_any B g r _ hA.out ho9).mono ?_;rintro e w' ⟨rfl,hw'⟩;have hw':=hw'.symm;subst hw') | (go_at_call 84;refine (labA_any _ _ hL0 hL1).mono ?_;rintro e w' ⟨t,rfl,ht,hw'⟩;have hw':=hw'.symm;subst hw';have htz:=ht.size;have hq:(s.toList==(t++⟨#[58]⟩).toList)=false:=(by rw[app_toList,ht.1,show (⟨#[58]⟩:ByteArray).toList=[58] from lit_toList #[58]];exact HL.out)) | (go_at_call 140;refine (nextL_any B g r _ hA.out hi0 (by omega)).mono ?_;rintro e w' ⟨rfl,hw'⟩;have hw':=hw'.symm;subst hw') | (go_at_call 141;refine (stmA_any s (r.ifs+1) _ hs (by omega) (by omega)).mono ?_;rintro e w1 ⟨he,hb⟩;simp only[stmVal,stmCells] at he;subst he))
      go_ret
      rw[HE.out];exact⟨rfl,(hA.out.below hb).alloc _,BelowX.of ((hb.mono hB).alloc (by have:=hb.size;omega) _)⟩
     cases h5:((P.stmA s.toList (r.ifs+1)).1.kind==5)
     rotate_left
     ·have HE:Hid (P.takeA r s.toList=(r,false)):=by unfold Hid;rw[HT2.out,hok,h5,ho];rfl
      go_wp2_with (first | (go_at_call 139;refine (openL_any B g r _ hA.out ho9).mono ?_;rintro e w' ⟨rfl,hw'⟩;have hw':=hw'.symm;subst hw') | (go_at_call 84;refine (labA_any _ _ hL0 hL1).mono ?_;rintro e w' ⟨t,rfl,ht,hw'⟩;have hw':=hw'.symm;subst hw';have htz:=ht.size;have hq:(s.toList==(t++⟨#[58]⟩).toList)=false:=(by rw[app_toList,ht.1,show (⟨#[58]⟩:ByteArray).toList=[58] from lit_toList #[58]];exact HL.out)) | (go_at_call 140;refine (nextL_any B g r _ hA.out hi0 (by omega)).mono ?_;rintro e w' ⟨rfl,hw'⟩;have hw':=hw'.symm;subst hw') | (go_at_call 141;refine (stmA_any s (r.ifs+1) _ hs (by omega) (by omega)).mono ?_;rintro e w1 ⟨he,hb⟩;simp only[stmVal,stmCells] at he;subst he))
      go_ret
      rw[HE.out];exact⟨rfl,(hA.out.below hb).alloc _,BelowX.of ((hb.mono hB).alloc (by have:=hb.size;omega) _)⟩
     ·have HE:Hid (P.takeA r s.toList=P.putD r { (P.stmA s.toList (r.ifs+1)).1 with line:=r.line }):=by unfold Hid;rw[HT2.out,hok,h5];rfl
      go_wp2_with (first | (go_at_call 139;refine (openL_any B g r _ hA.out ho9).mono ?_;rintro e w' ⟨rfl,hw'⟩;have hw':=hw'.symm;subst hw') | (go_at_call 84;refine (labA_any _ _ hL0 hL1).mono ?_;rintro e w' ⟨t,rfl,ht,hw'⟩;have hw':=hw'.symm;subst hw';have htz:=ht.size;have hq:(s.toList==(t++⟨#[58]⟩).toList)=false:=(by rw[app_toList,ht.1,show (⟨#[58]⟩:ByteArray).toList=[58] from lit_toList #[58]];exact HL.out)) | (go_at_call 140;refine (nextL_any B g r _ hA.out hi0 (by omega)).mono ?_;rintro e w' ⟨rfl,hw'⟩;have hw':=hw'.symm;subst hw') | (go_at_call 141;refine (stmA_any s (r.ifs+1) _ hs (by omega) (by omega)).mono ?_;rintro e w1 ⟨he,hb⟩;simp only[stmVal,stmCells] at he;subst he) | (go_at_call 101;refine (putD_any B g N r { (P.stmA s.toList (r.ifs+1)).1 with line:=r.line } _ (by exact (hA.out.below hb).alloc (.cells (stmCells { (P.stmA s.toList (r.ifs+1)).1 with line:=r.line }) 96)) hF hN (by have:=hb.size;simp;omega) ho9 hi0 (by omega) hc0 hc1).mono ?_;rintro e w2 ⟨rfl,hr1,hb1⟩))
      go_ret
      rw[HE.out];exact⟨rfl,hr1,(BelowX.of ((hb.mono hB).alloc (by have:=hb.size;omega) _)).trans hb1⟩
    ·have HE:Hid (P.takeA r s.toList=P.putD r { P.Stm.zero with kind:=11,line:=r.line }):=by unfold Hid;rw[HT.out,ho,hl];rfl
     have HL:=hide hl
     clear HT hl
     go_wp2_with (first | (go_at_call 139;refine (openL_any B g r _ hA.out ho9).mono ?_;rintro e w' ⟨rfl,hw'⟩;have hw':=hw'.symm;subst hw') | (go_at_call 84;refine (labA_any _ _ hL0 hL1).mono ?_;rintro e w' ⟨t,rfl,ht,hw'⟩;have hw':=hw'.symm;subst hw';have htz:=ht.size;have hq:(s.toList==(t++⟨#[58]⟩).toList)=true:=(by rw[app_toList,ht.1,show (⟨#[58]⟩:ByteArray).toList=[58] from lit_toList #[58]];exact HL.out)) | (go_at_call 101;refine (putD_any B g N r { P.Stm.zero with kind:=11,line:=r.line } _ (by exact hA.out) hF hN (by omega) ho9 hi0 (by omega) hc0 hc1).mono ?_;rintro e w2 ⟨rfl,hr1,hb1⟩))
     go_ret
     rw[HE.out];exact⟨rfl,hr1,hb1⟩
end Go.Proofs.YtgceflcbckjjiaaGreatDoor
namespace Go.Proofs.YtgceflcbckjjiaaGreatDoor
namespace P
def Opn (r:Rd):Prop:=∀ x∈r.opn,0≤x∧x≤r.ifs
theorem opn_label {r:Rd} (h:Opn r) (h0:0≤r.ifs):0≤openL r∧openL r≤r.ifs:=by
 unfold openL
 cases hl:r.opn.getLast? with
 | none=>exact⟨Int.le_refl _,h0⟩
 | some x=>exact h x (List.mem_of_getLast? hl)
structure GoodA (k:Nat) (r:Rd):Prop where
 good:Good k r
 opn:Opn r
 cn:r.count≤k
theorem goodA_begin {k:Nat} {r:Rd} (b l:Int) (h:GoodA (k+1) r):GoodA (k+1) (beginD r b l).1:=by
 unfold beginD
 split
 ·exact h
 ·rename_i hf
  have h0:=h.good
  refine⟨⟨by simp;omega,?_,h0.opn,h0.ifs0,h0.ifs1,by simp,h0.lin0,h0.lin1⟩,h.opn,by simp;omega⟩
  intro t ht
  simp at ht
  rcases ht with ht | rfl
  ·exact h0.stm t ht
  ·simp
theorem goodA_line {k:Nat} {r:Rd} (m:Int) (h:GoodA k r) (hm0:0≤m) (hm1:m≤k+1):GoodA (k+1) { r with line:=m }:=by
 have h0:=h.good
 exact⟨⟨h0.few,fun t ht=>by have:=h0.stm t ht;omega,h0.opn,h0.ifs0,by have:=h0.ifs1;simp;omega,h0.cnt,hm0,by simpa using hm1⟩,h.opn,by have:=h.cn;simp;omega⟩
theorem goodA_put {k:Nat} {r:Rd} (m:Int) (st:Stm) (h:GoodA k r) (hm0:0≤m) (hm1:m≤k+1):GoodA (k+1) (putD { r with line:=m } st).1:=by
 have h0:=h.good
 have hm:=goodA_line m h hm0 hm1
 have hp:∀ (o:List Int) (i c:Int) (s:Stm),o.length≤2→0≤i→i≤k+1→0≤c→Good (k+1) (put { r with line:=m,opn:=o,ifs:=i,count:=c } s):=fun o i c s h1 h2 h3 h4 =>
  ⟨by simp only[put,putLast_length];exact h0.few,putLast_mem _ _ _ h0.stm,h1,h2,by simpa [put] using h3,h4,hm0,by simpa [put] using hm1⟩
 have i1:=h0.ifs1
 have i0:=h0.ifs0
 have c0:=h0.cnt
 have c1:=h.cn
 have o1:=h0.opn
 unfold putD
 split
 ·exact hm
 split
 ·unfold ends
  split
  ·exact hm
  ·refine⟨hp _ r.ifs r.count _ (by simp;omega) i0 (by omega) c0,?_,by simp[put];omega⟩
   intro x hx
   exact h.opn x (List.dropLast_subset _ hx)
 split
 ·exact hm
 split
 ·split
  ·exact⟨⟨hm.good.few,hm.good.stm,hm.good.opn,hm.good.ifs0,hm.good.ifs1,by simp;omega,hm.good.lin0,hm.good.lin1⟩,hm.opn,by simp;omega⟩
  ·rename_i ho
   unfold branch
   rw[if_neg ho]
   refine⟨hp (r.opn++[r.ifs+1]) (r.ifs+1) (r.count+1) _ (by simp at ho ⊢;omega) (by omega) (by omega) (by omega),?_,by simp[put];omega⟩
   intro x hx
   simp[put] at hx ⊢
   rcases hx with hx | rfl
   ·have:=h.opn x hx;omega
   ·omega
 ·refine⟨hp r.opn r.ifs (r.count+1) _ o1 i0 (by omega) (by omega),h.opn,by simp[put];omega⟩
theorem goodA_take {k:Nat} {r:Rd} (l:List UInt8) (h:GoodA k r) (hl:r.line=k):GoodA (k+1) (takeA { r with line:=r.line+1 } l).1:=by
 have hm:=goodA_line (r.line+1) h (by omega) (by omega)
 unfold takeA
 split
 ·exact goodA_begin _ _ hm
 split
 ·exact goodA_begin _ _ hm
 split
 ·exact goodA_put _ _ h (by omega) (by omega)
 split
 ·exact hm
 ·exact goodA_put _ _ h (by omega) (by omega)
theorem goodA_zero:GoodA 0 Rd.zeroA:=⟨⟨by simp[Rd.zeroA],by simp[Rd.zeroA],by simp[Rd.zeroA],by simp[Rd.zeroA],by simp[Rd.zeroA],by simp[Rd.zeroA],by simp[Rd.zeroA],by simp[Rd.zeroA]⟩,by simp[Opn,Rd.zeroA],by simp[Rd.zeroA]⟩
end P
structure LoopA (rows:List ByteArray) (k:Nat) (r:P.Rd):Prop where
 run:P.runA P.Rd.zeroA ((rows.take k).map ByteArray.toList)=(r,true)
 good:P.GoodA k r
 lin:r.line=k
theorem loopA_start (rows:List ByteArray):LoopA rows 0 P.Rd.zeroA:=⟨by simp[P.runA],P.goodA_zero,rfl⟩
theorem loopA_step {rows:List ByteArray} {k:Nat} {r:P.Rd} (h:LoopA rows k r) (hk:k<rows.length) (ht:(P.takeA { r with line:=r.line+1 } rows[k].toList).2=true) :
  LoopA rows (k+1) (P.takeA { r with line:=r.line+1 } rows[k].toList).1:=by
 have hkp:=P.takeA_keep { r with line:=r.line+1 } rows[k].toList
 refine⟨?_,P.goodA_take _ h.good h.lin,?_⟩
 ·rw[take_map_snoc rows k hk,P.runA_snoc _ _ _ _ h.run,← ht]
 ·rw[hkp.1];have:=h.lin;simp;omega
theorem loopA_fail {s:ByteArray} {rows:List ByteArray} {last:ByteArray} {k:Nat} {r:P.Rd} (hc:rows.map ByteArray.toList++[last.toList]=P.splitAt 10 s.toList) (h:LoopA rows k r) (hk:k<rows.length) (ht:(P.takeA { r with line:=r.line+1 } rows[k].toList).2=false) :
  P.linesA s.toList=([],(k:Int)+1):=by
 have hkp:=P.takeA_keep { r with line:=r.line+1 } rows[k].toList
 have hrun:P.runA P.Rd.zeroA ((rows.take (k+1)).map ByteArray.toList)=P.takeA { r with line:=r.line+1 } rows[k].toList:=by
  rw[take_map_snoc rows k hk,P.runA_snoc _ _ _ _ h.run]
 have hd:(P.splitAt 10 s.toList).dropLast=(rows.take (k+1)).map ByteArray.toList++(rows.drop (k+1)).map ByteArray.toList:=by
  rw[← hc,List.dropLast_concat,← List.map_append,List.take_append_drop]
 have:=P.runA_more _ P.Rd.zeroA ((rows.drop (k+1)).map ByteArray.toList) (by rw[hrun];exact ht)
 unfold P.linesA
 simp only[hd,this,hrun,ht]
 simp only[Bool.false_eq_true,if_false]
 rw[hkp.1,h.lin]
theorem loopA_end {s:ByteArray} {rows:List ByteArray} {last:ByteArray} {r:P.Rd} (hc:rows.map ByteArray.toList++[last.toList]=P.splitAt 10 s.toList) (h:LoopA rows rows.length r) :
  P.linesA s.toList=if last.toList.isEmpty=false∨r.threads.length=0∨0<r.opn.length then ([],(rows.length:Int)+1) else (r.threads,0):=by
 have hrun:=h.run
 rw[List.take_length] at hrun
 have e1:last.toList=[] ↔ last.toList.isEmpty=true:=by rw[List.isEmpty_iff]
 unfold P.linesA
 simp only[← hc,List.dropLast_concat,hrun,List.getLast?_concat,if_true,h.lin]
 congr 1
 simp only[ne_eq,Option.some.injEq,e1,eq_iff_iff]
 simp[List.length_pos_iff,or_comm]
end Go.Proofs.YtgceflcbckjjiaaGreatDoor
namespace Go.Proofs.YtgceflcbckjjiaaGreatDoor
open Go Go.RowKit
set_option maxRecDepth 100000
theorem rd_newA (B:Nat) (w:World):RdAt (w.alloc (.cells #[.slice none 0 0,.int .i64 40,.int .i64 0,.int .i64 0,.slice none 0 0] 106)) B w.heap.size P.Rd.zeroA:=by
 refine⟨.slice none 0 0,.slice none 0 0,[],?_,World.ownsRow_nil _ _ _ _,World.ownsRow_nil _ _ _ _,trivial⟩
 have:=heap_alloc_new w (.cells #[.slice none 0 0,.int .i64 40,.int .i64 0,.int .i64 0,.slice none 0 0] 106)
 simpa [P.Rd.zeroA] using this
set_option maxHeartbeats 3200000 in
theorem linesA_any (s:ByteArray) (w:World) (hs:s.size≤8192) (hfew:(P.splitAt 10 s.toList).length≤99) :
  Calls Tryz.prog 46 #[.string s] w fun e w'=>∃ tv,e=.returned (.tuple #[.agg #[tv],.int .i64 (P.linesA s.toList).2])∧ThreadsAt w' w.heap.size tv (P.linesA s.toList).1∧Below w.heap.size w w':=by
 go_enter Tryz.func46,Tryz.ntmps46
 go_wp2_with fail
 refine (draft_any 40 _).mono ?_
 rintro e w0 ⟨rfl,hb0⟩
 have hB0:w.heap.size+1≤w0.heap.size:=by have:=hb0.size;simpa using this
 have hblk:w0.heap[w.heap.size]?=some (.cells #[.slice none 0 0] 48 (0,0)):=by
  rw[hb0.block _ (by simp)]
  exact heap_alloc_new w _
 obtain⟨z0,z1,z2⟩:=one_cell hblk
 have HB0:=hide hblk
 have HBel0:Hid (Below w.heap.size w w0):=((Below.refl _ _).alloc (Nat.le_refl _) _).trans (hb0.mono (by simp))
 clear hblk hb0
 go_wp2_with fail
 refine (textLines_any s _ hs).mono ?_
 rintro e w1 ⟨gl,cl,rows,last,rfl,HW,hrw,hrl,hrc,hgl,hgl0,hrz,hb1⟩
 have hd1:=hide ((rd_newA w1.heap.size w0).below hb1)
 have hblk1:w1.heap[w.heap.size]?=some (.cells #[.slice none 0 0] 48 (0,0)):=by
  rw[hb1.block _ (by simp;omega),Below.heap_alloc _ _ _ (by omega)]
  exact HB0.out
 have HB1:=hide hblk1
 have HBel1:Hid (Below w.heap.size w w1):=(HBel0.out.alloc (by omega) _).trans (hb1.mono (by simp;omega))
 have hB1:w0.heap.size+1≤w1.heap.size:=by have:=hb1.size;simpa using this
 have HRW:=hide hrw
 have HRZ:=hide hrz
 have hr99:rows.length<99:=by
  have:=hfew
  rw[← HW.out] at this
  simp at this;omega
 clear hblk1 hb1 z0 z1 z2 hrw hrz hfew
 go_wp2
 go_loopw [18] (fun i wr=>∃ k:Nat,∃ r:P.Rd,k≤rows.length∧i=.int .i64 k∧Hid (LoopA rows k r)∧Hid (RdAt wr w1.heap.size w0.heap.size r)∧Hid (WordsAt wr gl 0 rows) ∧
   Hid (wr.heap[w.heap.size]?=some (.cells #[.slice none 0 0] 48 (0,0)))∧w1.heap.size≤wr.heap.size∧Below w.heap.size w wr) (fun i _=>rows.length-(intOf i).toNat)
 case atStart=>exact⟨0,P.Rd.zeroA,Nat.zero_le _,rfl,loopA_start _,hd1,HRW,HB1,Nat.le_refl _,HBel1.out⟩
 case round =>
  obtain⟨k,r,hk,rfl,HL,HR,HWW,HB,hwl,hbel⟩:=hrel
  have hgd:=HL.out.good.good
  have hop:=HL.out.good.opn
  have hlin:=HL.out.lin
  have hcn:=HL.out.good.cn
  have hop0:=(P.opn_label hop hgd.ifs0).1
  have hop1:=(P.opn_label hop hgd.ifs0).2
  have hif:=hgd.ifs1
  have HOP:=hide hop
  clear hop
  by_cases hlt:k<rows.length
  ·have hrk:rows[k]?=some rows[k]:=List.getElem?_eq_getElem hlt
   have hck:=HWW.out k rows[k] hrk
   simp only[Nat.zero_add] at hck
   have hzk:=HRZ.out rows[k] (List.getElem_mem hlt)
   have hgr:gl<wr.heap.size:=by omega
   have hkl:(k:Int)<(rows.length:Int):=by omega
   have HSt:=hide (fun h=>loopA_step HL.out hlt h)
   have HFl:=hide (fun h=>loopA_fail HW.out HL.out hlt h)
   generalize rows[k]=row at *
   have HLin:=hide hlin
   clear hrk hlin
   cases ht:(P.takeA { r with line:=r.line+1 } row.toList).2
   all_goals
    have hr2:=hide (HR.out.lined ((k:Int)+1))
    go_wp2_with fail
    refine (takeA_any w1.heap.size w0.heap.size k { r with line:=(k:Int)+1 } row _ hr2.out hzk ⟨hgd.few,hgd.stm⟩ (by omega) hwl (by have:=hgd.opn;simp;omega) hgd.ifs0 (by simp;omega) hgd.cnt (by simp;omega) hop0 (by have h9:P.openL { r with line:=(k:Int)+1 }=P.openL r:=rfl;omega)).mono ?_
    rintro e w3 ⟨he,hr3,hb3⟩
    have eL:({ r with line:=(k:Int)+1 }:P.Rd)={ r with line:=r.line+1 }:=by rw[HLin.out]
    rw[eL] at he hr3
    rw[ht] at he
    subst he
    have hblk3:w3.heap[w.heap.size]?=some (.cells #[.slice none 0 0] 48 (0,0)):=(hb3.block _ (by omega) (by omega)).trans HB.out
    obtain⟨z0,z1,z2⟩:=one_cell hblk3
    have HB3:=hide hblk3
    have HBel3:Hid (Below w.heap.size w w3):=hbel.trans (hb3.below (by omega) (by omega))
    have HW3:Hid (WordsAt w3 gl 0 rows):=HWW.out.kept (fun _=>hb3.block gl hgl (by simp at hgl0;omega))
    have hs3:=hb3.size
    have HR3:=hide hr3
    clear hblk3 hb3 hr3 eL
    go_wp2
   ·rw[HFl.out ht]
    refine ret_prog (p:=2) (u:=3) w.heap.size (.slice none 0 0) _ (by kernel_rfl) rfl rfl (by exact setCell_block HB3.out 0 _) rfl ⟨_,rfl,ThreadsAt.nil _ _,?_⟩
    exact (HBel3.out).setCell (Nat.le_refl _) _
   ·go_roundw
    case rel=>exact⟨k+1,_,by omega,by go_num,HSt.out ht,HR3,HW3,HB3,by omega,HBel3.out⟩
    case measure=>simp[intOf];omega
  ·have hkn:k=rows.length:=by omega
   subst hkn
   have HE:=hide (loopA_end HW.out HL.out)
   have ht5:r.threads.length<6:=by have:=hgd.few;omega
   have ho9:r.opn.length<10:=by have:=hgd.opn;omega
   obtain⟨z0,z1,z2⟩:=one_cell HB.out
   have hll:¬ ((rows.length:Int)<(rows.length:Int)):=by omega
   clear hlin hgd
   cases he:last.toList.isEmpty
   ·go_wp2
    rw[unhide HE,if_pos (Or.inl he)]
    refine ret_prog (p:=2) (u:=3) w.heap.size (.slice none 0 0) _ (by kernel_rfl) rfl rfl (by exact setCell_block HB.out 0 _) rfl ⟨_,rfl,ThreadsAt.nil _ _,?_⟩
    exact hbel.setCell (Nat.le_refl _) _
   cases hw:(decide (0<r.threads.length)&&decide (r.opn.length=0))
   ·have hor:last.toList.isEmpty=false∨r.threads.length=0∨0<r.opn.length:=by
     have hw':=hw
     rw[Bool.and_eq_false_iff,decide_eq_false_iff_not,decide_eq_false_iff_not] at hw'
     omega
    have HOR:=hide hor
    clear hor
    go_wp2_with (first | (go_at_call 54;refine (whole_any _ _ r _ HR.out ht5 ho9).mono ?_;rintro e w' ⟨rfl,rfl⟩;rw[hw]))
    rw[unhide HE,if_pos HOR.out]
    refine ret_prog (p:=2) (u:=3) w.heap.size (.slice none 0 0) _ (by kernel_rfl) rfl rfl (by exact setCell_block HB.out 0 _) rfl ⟨_,rfl,ThreadsAt.nil _ _,?_⟩
    exact hbel.setCell (Nat.le_refl _) _
   ·have hno:¬ (last.toList.isEmpty=false∨r.threads.length=0∨0<r.opn.length):=by
     have hw':=hw
     rw[Bool.and_eq_true,decide_eq_true_eq,decide_eq_true_eq] at hw'
     rintro (h | h | h)
     ·rw[he] at h;cases h
     ·omega
     ·omega
    have HNO:=hide hno
    clear hno
    obtain⟨tv,ov,vs,hri⟩:=HR.out
    obtain⟨ta,tc,oa,oc,rfl,rfl⟩:=hri.forms
    have HRI:=hide hri
    clear hri
    go_wp2_with (first | (go_at_call 54;refine (whole_any _ _ r _ HR.out ht5 ho9).mono ?_;rintro e w' ⟨rfl,rfl⟩;rw[hw]) | (go_at_call 55;refine (program_any _ _ r _ _ vs _ HRI.out).mono ?_;rintro e w4 ⟨rfl,hb4⟩;have hblk4:=(hb4.block _ (by omega)).trans HB.out;obtain⟨y0,y1,y2⟩:=one_cell hblk4;have HB4:=hide hblk4;clear hblk4))
    rw[unhide HE,if_neg HNO.out]
    refine ret_prog (p:=2) (u:=3) w.heap.size _ _ (by kernel_rfl) rfl rfl (by exact setCell_block HB4.out 0 _) rfl ⟨_,rfl,threads_of HRI.out hb4 (by omega) _,(hbel.trans (hb4.mono (by omega))).setCell (Nat.le_refl _) _⟩
end Go.Proofs.YtgceflcbckjjiaaGreatDoor
