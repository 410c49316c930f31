import Derived.Test.YtgceflcbckjjiaaGreatDoorB31
set_option linter.unusedVariables false
set_option linter.unusedSimpArgs false
namespace Go.Proofs.YtgceflcbckjjiaaGreatDoor
open Go Go.RowKit
set_option maxRecDepth 100000
theorem openL_any (B g:Nat) (r:P.Rd) (w:World) (h:RdAt w B g r) (ho:r.opn.length<10) :
  Calls Tryz.prog 139 #[.pointer (some ⟨g,0,none⟩)] w fun e w'=>e=.returned (.int .i64 (P.openL r))∧w'=w:=by
 obtain⟨tv,ov,vs,h⟩:=h
 by_cases he:r.opn=[]
 ·have hov:ov=.slice none 0 0∨∃ k c,ov=.slice (some ⟨k,0,none⟩) 0 c:=by
   have:=h.opn
   rw[he] at this
   rcases this.2 with ⟨e,_⟩ | ⟨k,c,cur,e,_⟩
   ·exact .inl e
   ·exact .inr ⟨k,c,e⟩
  obtain⟨glt,gfr,g0,g1,g2,g3,g4⟩:=h.facts
  have HE:Hid (P.openL r=0):=by unfold Hid;simp[P.openL,he]
  clear h
  rcases hov with rfl | ⟨k,c,rfl⟩
  all_goals
   go_enter Tryz.func139,Tryz.ntmps139
   go_wp2
   go_ret
   rw[unhide HE]
   exact⟨rfl,rfl⟩
 ·obtain⟨os,o,hos⟩:=snoc_of r.opn he
  have hown:=h.opn
  rw[hos] at hown
  simp only[List.length_append,List.length_cons,List.length_nil,Nat.zero_add,List.map_append,List.map_cons,List.map_nil] at hown
  obtain⟨k,cap,rfl,hBk,hklt⟩:=hown.form (by omega)
  have hc:w.cell? ⟨k,os.length,none⟩=some (.int .i64 o):=by
   rw[hown.cellAt _ (by omega),List.getElem?_append_right (by simp)];simp
  obtain⟨glt,gfr,g0,g1,g2,g3,g4⟩:=h.facts
  have hol:os.length<10:=by rw[hos] at ho;simp at ho;omega
  have HE:Hid (P.openL r=o):=by unfold Hid;simp[P.openL,hos]
  clear h hown hos he ho
  go_enter Tryz.func139,Tryz.ntmps139
  go_wp2
  go_ret
  rw[unhide HE]
  exact⟨rfl,rfl⟩
theorem nextL_any (B g:Nat) (r:P.Rd) (w:World) (h:RdAt w B g r) (h0:0≤r.ifs) (h1:r.ifs<10000) :
  Calls Tryz.prog 140 #[.pointer (some ⟨g,0,none⟩)] w fun e w'=>e=.returned (.int .i64 (r.ifs+1))∧w'=w:=by
 obtain⟨tv,ov,vs,h⟩:=h
 obtain⟨glt,gfr,g0,g1,g2,g3,g4⟩:=h.facts
 clear h
 go_enter Tryz.func140,Tryz.ntmps140
 go_wp2
 go_ret
 first | exact⟨rfl,rfl⟩ | exact⟨by go_num,rfl⟩
theorem takeA_thr (r:P.Rd) (l:List UInt8) (k:Nat) (h:k<2) (hn:∀ j,j<k→(l==P.thrT (j:Int))=false) (ht:(l==P.thrT (k:Int))=true):P.takeA r l=P.beginD r (k:Int) r.line:=by
 have e:l=P.thrT (k:Int):=by simpa using ht
 unfold P.takeA
 match k,h with
 | 0,_ =>
  have e0:l=P.thrT 0:=e
  rw[if_pos e0];rfl
 | 1,_ =>
  have h0:¬ l=P.thrT 0:=by have:=hn 0 (by omega);simpa using this
  have e1:l=P.thrT 1:=e
  rw[if_neg h0,if_pos e1];rfl
theorem takeA_rest (r:P.Rd) (l:List UInt8) (hn:∀ j,j<2→(l==P.thrT ((j:Nat):Int))=false):P.takeA r l=if P.openL r != 0&&l==P.labT (P.openL r)++[58] then P.putD r { P.Stm.zero with kind:=11,line:=r.line }
 else if !(P.stmA l (r.ifs+1)).2||((P.stmA l (r.ifs+1)).1.kind==5&&P.openL r != 0) then (r,false)
 else P.putD r { (P.stmA l (r.ifs+1)).1 with line:=r.line }:=by
 have h0:¬ l=P.thrT 0:=by have:=hn 0 (by omega);simpa using this
 have h1:¬ l=P.thrT 1:=by have:=hn 1 (by omega);simpa using this
 conv=>lhs;unfold P.takeA
 rw[if_neg h0,if_neg h1]
set_option maxHeartbeats 6400000 in
theorem takeA_any (B g N:Nat) (r:P.Rd) (s:ByteArray) (w:World) (h:RdAt w B g r) (hs:s.size≤8192)
  (hF:Few N r) (hN:N<10000) (hB:B≤w.heap.size) (ho9:r.opn.length<10) (hi0:0≤r.ifs) (hi1:r.ifs<99) (hc0:0≤r.count) (hc1:r.count<10000) (hL0:0≤P.openL r) (hL1:P.openL r<100) :
  Calls Tryz.prog 89 #[.pointer (some ⟨g,0,none⟩),.string s,.int .i64 r.line] w fun e w'=>e=.returned (.bool (P.takeA r s.toList).2)∧RdAt w' B g (P.takeA r s.toList).1∧BelowX B g w w':=by
 have hA:=hide h
 clear h
 go_enter Tryz.func89,Tryz.ntmps89
 go_wp2
 go_loop [7] (fun i=>∃ k:Nat,k≤2∧i=.int .i64 k∧Hid (∀ j:Nat,j<k→(s.toList==P.thrT (j:Int))=false)) (fun i=>2-(intOf i).toNat)
 case atStart=>exact⟨0,by omega,rfl,fun j hj=>absurd hj (by omega)⟩
 case round =>
  obtain⟨k,hk,rfl,HK⟩:=hrel
  by_cases hlt:k<2
  ·have hin:(k:Int)<2:=by omega
   cases ht:(s.toList==P.thrT (k:Int))
   ·have HN:Hid (∀ j:Nat,j<k+1→(s.toList==P.thrT (j:Int))=false):=fun j hj=>by
     rcases Nat.lt_succ_iff_lt_or_eq.1 hj with h | h
     ·exact HK.out j h
     ·rw[h];exact ht
    have HT:=hide ht
    clear ht
    go_wp2_with (first | (go_at_call 44;refine (thrA_any _ _ (by omega) (by omega)).mono ?_;rintro e w' ⟨t,rfl,ht,hw'⟩;have hw':=hw'.symm;subst hw';have hq:(s.toList==t.toList)=false:=(by rw[ht.1];exact HT.out)))
    go_round
    case rel=>exact⟨k+1,by omega,by go_num,HN⟩
    case measure=>simp[intOf];omega
   ·have HE:=hide (takeA_thr r s.toList k hlt HK.out ht)
    have HT:=hide ht
    clear ht
    go_wp2_with (first | (go_at_call 44;refine (thrA_any _ _ (by omega) (by omega)).mono ?_;rintro e w' ⟨t,rfl,ht,hw'⟩;have hw':=hw'.symm;subst hw';have hq:(s.toList==t.toList)=true:=(by rw[ht.1];exact HT.out)) | (go_at_call 138;refine (beginD_any B g r (k:Int) r.line _ hA.out hB (by have:=hF.1;omega) ho9).mono ?_;rintro e w2 ⟨rfl,hr1,hb1⟩))
    go_ret
    rw[HE.out];exact⟨rfl,hr1,hb1⟩
  ·have hk2:k=2:=by omega
   have hin:¬ (k:Int)<2:=by omega
   have HT:=hide (takeA_rest r s.toList (fun j hj=>HK.out j (by omega)))
   clear HK
   cases ho:(P.openL r != 0)
   ·have HT2:Hid (P.takeA r s.toList=if !(P.stmA s.toList (r.ifs+1)).2||((P.stmA s.toList (r.ifs+1)).1.kind==5&&P.openL r != 0) then (r,false) else P.putD r { (P.stmA s.toList (r.ifs+1)).1 with line:=r.line }):=by unfold Hid;rw[HT.out,ho];rfl
    clear HT
    cases hok:(P.stmA s.toList (r.ifs+1)).2
    ·have HE:Hid (P.takeA r s.toList=(r,false)):=by unfold Hid;rw[HT2.out,hok];rfl
     go_wp2_with (first | (go_at_call 139;refine (openL_any B g r _ hA.out ho9).mono ?_;rintro e w' ⟨rfl,hw'⟩;have hw':=hw'.symm;subst hw') | (go_at_call 140;refine (nextL_any B g r _ hA.out hi0 (by omega)).mono ?_;rintro e w' ⟨rfl,hw'⟩;have hw':=hw'.symm;subst hw') | (go_at_call 141;refine (stmA_any s (r.ifs+1) _ hs (by omega) (by omega)).mono ?_;rintro e w1 ⟨he,hb⟩;simp only[stmVal,stmCells] at he;subst he))
     go_ret
     rw[HE.out];exact⟨rfl,(hA.out.below hb).alloc _,BelowX.of ((hb.mono hB).alloc (by have:=hb.size;omega) _)⟩
    cases h5:((P.stmA s.toList (r.ifs+1)).1.kind==5)
    rotate_left
    ·have HE:Hid (P.takeA r s.toList=P.putD r { (P.stmA s.toList (r.ifs+1)).1 with line:=r.line }):=by unfold Hid;rw[HT2.out,hok,h5,ho];rfl
     go_wp2_with (first | (go_at_call 139;refine (openL_any B g r _ hA.out ho9).mono ?_;rintro e w' ⟨rfl,hw'⟩;have hw':=hw'.symm;subst hw') | (go_at_call 140;refine (nextL_any B g r _ hA.out hi0 (by omega)).mono ?_;rintro e w' ⟨rfl,hw'⟩;have hw':=hw'.symm;subst hw') | (go_at_call 141;refine (stmA_any s (r.ifs+1) _ hs (by omega) (by omega)).mono ?_;rintro e w1 ⟨he,hb⟩;simp only[stmVal,stmCells] at he;subst he) | (go_at_call 101;refine (putD_any B g N r { (P.stmA s.toList (r.ifs+1)).1 with line:=r.line } _ (by exact (hA.out.below hb).alloc (.cells (stmCells { (P.stmA s.toList (r.ifs+1)).1 with line:=r.line }) 96)) hF hN (by have:=hb.size;simp;omega) ho9 hi0 (by omega) hc0 hc1).mono ?_;rintro e w2 ⟨rfl,hr1,hb1⟩))
     go_ret
     rw[HE.out];exact⟨rfl,hr1,(BelowX.of ((hb.mono hB).alloc (by have:=hb.size;omega) _)).trans hb1⟩
    ·have HE:Hid (P.takeA r s.toList=P.putD r { (P.stmA s.toList (r.ifs+1)).1 with line:=r.line }):=by unfold Hid;rw[HT2.out,hok,h5];rfl
     go_wp2_with (first | (go_at_call 139;refine (openL_any B g r _ hA.out ho9).mono ?_;rintro e w' ⟨rfl,hw'⟩;have hw':=hw'.symm;subst hw') | (go_at_call 140;refine (nextL_any B g r _ hA.out hi0 (by omega)).mono ?_;rintro e w' ⟨rfl,hw'⟩;have hw':=hw'.symm;subst hw') | (go_at_call 141;refine (stmA_any s (r.ifs+1) _ hs (by omega) (by omega)).mono ?_;rintro e w1 ⟨he,hb⟩;simp only[stmVal,stmCells] at he;subst he) | (go_at_call 101;refine (putD_any B g N r { (P.stmA s.toList (r.ifs+1)).1 with line:=r.line } _ (by exact (hA.out.below hb).alloc (.cells (stmCells { (P.stmA s.toList (r.ifs+1)).1 with line:=r.line }) 96)) hF hN (by have:=hb.size;simp;omega) ho9 hi0 (by omega) hc0 hc1).mono ?_;rintro e w2 ⟨rfl,hr1,hb1⟩))
     go_ret
     rw[HE.out];exact⟨rfl,hr1,(BelowX.of ((hb.mono hB).alloc (by have:=hb.size;omega) _)).trans hb1⟩
   ·cases hl:(s.toList==P.labT (P.openL r)++[58])
    ·have HT2:Hid (P.takeA r s.toList=if !(P.stmA s.toList (r.ifs+1)).2||((P.stmA s.toList (r.ifs+1)).1.kind==5&&P.openL r != 0) then (r,false) else P.putD r { (P.stmA s.toList (r.ifs+1)).1 with line:=r.line }):=by unfold Hid;rw[HT.out,ho,hl];rfl
     have HL:=hide hl
     clear HT hl
     cases hok:(P.stmA s.toList (r.ifs+1)).2
     ·have HE:Hid (P.takeA r s.toList=(r,false)):=by unfold Hid;rw[HT2.out,hok];rfl
      go_wp2_with (first | (go_at_call 139;refine (openL_any B g r _ hA.out ho9).mono ?_;rintro e w' ⟨rfl,hw'⟩;have hw':=hw'.symm;subst hw') | (go_at_call 84;refine (labA_any _ _ hL0 hL1).mono ?_;rintro e w' ⟨t,rfl,ht,hw'⟩;have hw':=hw'.symm;subst hw';have htz:=ht.size;have hq:(s.toList==(t++⟨#[58]⟩).toList)=false:=(by rw[app_toList,ht.1,show (⟨#[58]⟩:ByteArray).toList=[58] from lit_toList #[58]];exact HL.out)) | (go_at_call 140;refine (nextL_any B g r _ hA.out hi0 (by omega)).mono ?_;rintro e w' ⟨rfl,hw'⟩;have hw':=hw'.symm;subst hw') | (go_at_call 141;refine (stmA_any s (r.ifs+1) _ hs (by omega) (by omega)).mono ?_;rintro e w1 ⟨he,hb⟩;simp only[stmVal,stmCells] at he;subst he))
      go_ret
      rw[HE.out];exact⟨rfl,(hA.out.below hb).alloc _,BelowX.of ((hb.mono hB).alloc (by have:=hb.size;omega) _)⟩
     cases h5:((P.stmA s.toList (r.ifs+1)).1.kind==5)
     rotate_left
     ·have HE:Hid (P.takeA r s.toList=(r,false)):=by unfold Hid;rw[HT2.out,hok,h5,ho];rfl
      go_wp2_with (first | (go_at_call 139;refine (openL_any B g r _ hA.out ho9).mono ?_;rintro e w' ⟨rfl,hw'⟩;have hw':=hw'.symm;subst hw') | (go_at_call 84;refine (labA_any _ _ hL0 hL1).mono ?_;rintro e w' ⟨t,rfl,ht,hw'⟩;have hw':=hw'.symm;subst hw';have htz:=ht.size;have hq:(s.toList==(t++⟨#[58]⟩).toList)=false:=(by rw[app_toList,ht.1,show (⟨#[58]⟩:ByteArray).toList=[58] from lit_toList #[58]];exact HL.out)) | (go_at_call 140;refine (nextL_any B g r _ hA.out hi0 (by omega)).mono ?_;rintro e w' ⟨rfl,hw'⟩;have hw':=hw'.symm;subst hw') | (go_at_call 141;refine (stmA_any s (r.ifs+1) _ hs (by omega) (by omega)).mono ?_;rintro e w1 ⟨he,hb⟩;simp only[stmVal,stmCells] at he;subst he))
      go_ret
      rw[HE.out];exact⟨rfl,(hA.out.below hb).alloc _,BelowX.of ((hb.mono hB).alloc (by have:=hb.size;omega) _)⟩
     ·have HE:Hid (P.takeA r s.toList=P.putD r { (P.stmA s.toList (r.ifs+1)).1 with line:=r.line }):=by unfold Hid;rw[HT2.out,hok,h5];rfl
      go_wp2_with (first | (go_at_call 139;refine (openL_any B g r _ hA.out ho9).mono ?_;rintro e w' ⟨rfl,hw'⟩;have hw':=hw'.symm;subst hw') | (go_at_call 84;refine (labA_any _ _ hL0 hL1).mono ?_;rintro e w' ⟨t,rfl,ht,hw'⟩;have hw':=hw'.symm;subst hw';have htz:=ht.size;have hq:(s.toList==(t++⟨#[58]⟩).toList)=false:=(by rw[app_toList,ht.1,show (⟨#[58]⟩:ByteArray).toList=[58] from lit_toList #[58]];exact HL.out)) | (go_at_call 140;refine (nextL_any B g r _ hA.out hi0 (by omega)).mono ?_;rintro e w' ⟨rfl,hw'⟩;have hw':=hw'.symm;subst hw') | (go_at_call 141;refine (stmA_any s (r.ifs+1) _ hs (by omega) (by omega)).mono ?_;rintro e w1 ⟨he,hb⟩;simp only[stmVal,stmCells] at he;subst he) | (go_at_call 101;refine (putD_any B g N r { (P.stmA s.toList (r.ifs+1)).1 with line:=r.line } _ (by exact (hA.out.below hb).alloc (.cells (stmCells { (P.stmA s.toList (r.ifs+1)).1 with line:=r.line }) 96)) hF hN (by have:=hb.size;simp;omega) ho9 hi0 (by omega) hc0 hc1).mono ?_;rintro e w2 ⟨rfl,hr1,hb1⟩))
      go_ret
      rw[HE.out];exact⟨rfl,hr1,(BelowX.of ((hb.mono hB).alloc (by have:=hb.size;omega) _)).trans hb1⟩
    ·have HE:Hid (P.takeA r s.toList=P.putD r { P.Stm.zero with kind:=11,line:=r.line }):=by unfold Hid;rw[HT.out,ho,hl];rfl
     have HL:=hide hl
     clear HT hl
     go_wp2_with (first | (go_at_call 139;refine (openL_any B g r _ hA.out ho9).mono ?_;rintro e w' ⟨rfl,hw'⟩;have hw':=hw'.symm;subst hw') | (go_at_call 84;refine (labA_any _ _ hL0 hL1).mono ?_;rintro e w' ⟨t,rfl,ht,hw'⟩;have hw':=hw'.symm;subst hw';have htz:=ht.size;have hq:(s.toList==(t++⟨#[58]⟩).toList)=true:=(by rw[app_toList,ht.1,show (⟨#[58]⟩:ByteArray).toList=[58] from lit_toList #[58]];exact HL.out)) | (go_at_call 101;refine (putD_any B g N r { P.Stm.zero with kind:=11,line:=r.line } _ (by exact hA.out) hF hN (by omega) ho9 hi0 (by omega) hc0 hc1).mono ?_;rintro e w2 ⟨rfl,hr1,hb1⟩))
     go_ret
     rw[HE.out];exact⟨rfl,hr1,hb1⟩
end Go.Proofs.YtgceflcbckjjiaaGreatDoor
