import Derived.Test.YtgceflcbckjjiaaGreatDoorB27
set_option linter.unusedVariables false
set_option linter.unusedSimpArgs false
namespace Go.Proofs.YtgceflcbckjjiaaGreatDoor
open Go Go.RowKit
set_option maxRecDepth 100000
theorem readReg_at (l:List UInt8) (k:Nat) (hk:k<4) (hn:∀ j:Nat,j<k→(l==P.regT (j:Int))=false) (h:(l==P.regT (k:Int))=true):P.readReg l=((k:Int),true):=by
 have h':l=P.regT (k:Int):=by simpa using h
 have hn':∀ j:Nat,j<k→¬ l=P.regT (j:Int):=fun j hj=>by simpa using hn j hj
 have:k=0∨k=1∨k=2∨k=3:=by omega
 unfold P.readReg
 rcases this with rfl | rfl | rfl | rfl
 ·rw[if_pos (show l=P.regT 0 from h')];rfl
 ·rw[if_neg (show ¬ l=P.regT 0 from hn' 0 (by omega)),if_pos (show l=P.regT 1 from h')];rfl
 ·rw[if_neg (show ¬ l=P.regT 0 from hn' 0 (by omega)),if_neg (show ¬ l=P.regT 1 from hn' 1 (by omega)),if_pos (show l=P.regT 2 from h')];rfl
 ·rw[if_neg (show ¬ l=P.regT 0 from hn' 0 (by omega)),if_neg (show ¬ l=P.regT 1 from hn' 1 (by omega)),if_neg (show ¬ l=P.regT 2 from hn' 2 (by omega)),if_pos (show l=P.regT 3 from h')];rfl
theorem readReg_none (l:List UInt8) (hn:∀ j:Nat,j<4→(l==P.regT (j:Int))=false):P.readReg l=(0,false):=by
 have hn':∀ j:Nat,j<4→¬ l=P.regT (j:Int):=fun j hj=>by simpa using hn j hj
 unfold P.readReg
 rw[if_neg (show ¬ l=P.regT 0 from hn' 0 (by omega)),if_neg (show ¬ l=P.regT 1 from hn' 1 (by omega)),if_neg (show ¬ l=P.regT 2 from hn' 2 (by omega)),if_neg (show ¬ l=P.regT 3 from hn' 3 (by omega))]
theorem readVar_at (l:List UInt8) (k:Nat) (hk:k<3) (hn:∀ j:Nat,j<k→(l==P.celT (j:Int))=false) (h:(l==P.celT (k:Int))=true):P.readVar l=((k:Int),true):=by
 have h':l=P.celT (k:Int):=by simpa using h
 have hn':∀ j:Nat,j<k→¬ l=P.celT (j:Int):=fun j hj=>by simpa using hn j hj
 have:k=0∨k=1∨k=2:=by omega
 unfold P.readVar
 rcases this with rfl | rfl | rfl
 ·rw[if_pos (show l=P.celT 0 from h')];rfl
 ·rw[if_neg (show ¬ l=P.celT 0 from hn' 0 (by omega)),if_pos (show l=P.celT 1 from h')];rfl
 ·rw[if_neg (show ¬ l=P.celT 0 from hn' 0 (by omega)),if_neg (show ¬ l=P.celT 1 from hn' 1 (by omega)),if_pos (show l=P.celT 2 from h')];rfl
theorem readVar_none (l:List UInt8) (hn:∀ j:Nat,j<3→(l==P.celT (j:Int))=false):P.readVar l=(0,false):=by
 have hn':∀ j:Nat,j<3→¬ l=P.celT (j:Int):=fun j hj=>by simpa using hn j hj
 unfold P.readVar
 rw[if_neg (show ¬ l=P.celT 0 from hn' 0 (by omega)),if_neg (show ¬ l=P.celT 1 from hn' 1 (by omega)),if_neg (show ¬ l=P.celT 2 from hn' 2 (by omega))]
theorem readOpd_at (l:List UInt8) (k:Nat) (hk:k<4) (hn:∀ j:Nat,j<k→(l==P.dec (j:Int))=false) (h:(l==P.dec (k:Int))=true):P.readOpd l=(⟨false,(k:Int)⟩,true):=by
 have h':l=P.dec (k:Int):=by simpa using h
 have hn':∀ j:Nat,j<k→¬ l=P.dec (j:Int):=fun j hj=>by simpa using hn j hj
 have:k=0∨k=1∨k=2∨k=3:=by omega
 unfold P.readOpd
 rcases this with rfl | rfl | rfl | rfl
 ·rw[if_pos (show l=P.dec 0 from h')];rfl
 ·rw[if_neg (show ¬ l=P.dec 0 from hn' 0 (by omega)),if_pos (show l=P.dec 1 from h')];rfl
 ·rw[if_neg (show ¬ l=P.dec 0 from hn' 0 (by omega)),if_neg (show ¬ l=P.dec 1 from hn' 1 (by omega)),if_pos (show l=P.dec 2 from h')];rfl
 ·rw[if_neg (show ¬ l=P.dec 0 from hn' 0 (by omega)),if_neg (show ¬ l=P.dec 1 from hn' 1 (by omega)),if_neg (show ¬ l=P.dec 2 from hn' 2 (by omega)),if_pos (show l=P.dec 3 from h')];rfl
theorem readOpd_none (l:List UInt8) (hn:∀ j:Nat,j<4→(l==P.dec (j:Int))=false):P.readOpd l=(⟨true,(P.readReg l).1⟩,(P.readReg l).2):=by
 have hn':∀ j:Nat,j<4→¬ l=P.dec (j:Int):=fun j hj=>by simpa using hn j hj
 unfold P.readOpd
 rw[if_neg (show ¬ l=P.dec 0 from hn' 0 (by omega)),if_neg (show ¬ l=P.dec 1 from hn' 1 (by omega)),if_neg (show ¬ l=P.dec 2 from hn' 2 (by omega)),if_neg (show ¬ l=P.dec 3 from hn' 3 (by omega))]
set_option maxHeartbeats 800000 in
theorem readReg_any (s:ByteArray) (w:World) :
  Calls Tryz.prog 209 #[.string s] w fun e w'=>e=.returned (.tuple #[.int .i64 (P.readReg s.toList).1,.bool (P.readReg s.toList).2])∧w'=w:=by
 go_enter Tryz.func209,Tryz.ntmps209
 go_wp2
 go_loop [4] (fun i=>∃ k:Nat,k≤4∧i=.int .i64 k∧Hid (∀ j:Nat,j<k→(s.toList==P.regT (j:Int))=false)) (fun i=>4-(intOf i).toNat)
 case atStart=>exact⟨0,by omega,rfl,fun j hj=>by omega⟩
 case round =>
  obtain⟨k,hk,rfl,HK⟩:=hrel
  by_cases hlt:k<4
  ·have hin:(k:Int)<4:=by omega
   cases hb:(s.toList==P.regT (k:Int))
   ·have HK2:Hid (∀ j:Nat,j<k+1→(s.toList==P.regT (j:Int))=false):=fun j hj=>by
     by_cases e:j=k
     ·rw[e];exact hb
     ·exact HK.out j (by omega)
    have HB:=hide hb
    clear hb
    go_wp2_with (first | (go_at_call 135;refine (regA_any _ _ (by omega) (by omega)).mono ?_;rintro e w' ⟨t,rfl,ht,rfl⟩;have hq:(s.toList==t.toList)=false:=(by rw[ht.1];exact HB.out)))
    go_round
    case rel=>exact⟨k+1,by omega,by go_num,HK2⟩
    case measure=>simp[intOf];omega
   ·have HE:=hide (readReg_at s.toList k hlt HK.out hb)
    have HB:=hide hb
    clear hb
    go_wp2_with (first | (go_at_call 135;refine (regA_any _ _ (by omega) (by omega)).mono ?_;rintro e w' ⟨t,rfl,ht,rfl⟩;have hq:(s.toList==t.toList)=true:=(by rw[ht.1];exact HB.out)))
    go_ret2
    rw[HE.out];exact⟨rfl,rfl⟩
  ·have HE:Hid (P.readReg s.toList=(0,false)):=readReg_none _ (fun j hj=>HK.out j (by omega))
   go_wp2
   go_ret2
   rw[HE.out];exact⟨rfl,rfl⟩
set_option maxHeartbeats 800000 in
theorem readVar_any (s:ByteArray) (w:World) :
  Calls Tryz.prog 210 #[.string s] w fun e w'=>e=.returned (.tuple #[.int .i64 (P.readVar s.toList).1,.bool (P.readVar s.toList).2])∧w'=w:=by
 go_enter Tryz.func210,Tryz.ntmps210
 go_wp2
 go_loop [4] (fun i=>∃ k:Nat,k≤3∧i=.int .i64 k∧Hid (∀ j:Nat,j<k→(s.toList==P.celT (j:Int))=false)) (fun i=>3-(intOf i).toNat)
 case atStart=>exact⟨0,by omega,rfl,fun j hj=>by omega⟩
 case round =>
  obtain⟨k,hk,rfl,HK⟩:=hrel
  by_cases hlt:k<3
  ·have hin:(k:Int)<3:=by omega
   cases hb:(s.toList==P.celT (k:Int))
   ·have HK2:Hid (∀ j:Nat,j<k+1→(s.toList==P.celT (j:Int))=false):=fun j hj=>by
     by_cases e:j=k
     ·rw[e];exact hb
     ·exact HK.out j (by omega)
    have HB:=hide hb
    clear hb
    go_wp2_with (first | (go_at_call 136;refine (varA_any _ _).mono ?_;rintro e w' ⟨t,rfl,ht,rfl⟩;have hq:(s.toList==t.toList)=false:=(by rw[ht.1];exact HB.out)))
    go_round
    case rel=>exact⟨k+1,by omega,by go_num,HK2⟩
    case measure=>simp[intOf];omega
   ·have HE:=hide (readVar_at s.toList k hlt HK.out hb)
    have HB:=hide hb
    clear hb
    go_wp2_with (first | (go_at_call 136;refine (varA_any _ _).mono ?_;rintro e w' ⟨t,rfl,ht,rfl⟩;have hq:(s.toList==t.toList)=true:=(by rw[ht.1];exact HB.out)))
    go_ret2
    rw[HE.out];exact⟨rfl,rfl⟩
  ·have HE:Hid (P.readVar s.toList=(0,false)):=readVar_none _ (fun j hj=>HK.out j (by omega))
   go_wp2
   go_ret2
   rw[HE.out];exact⟨rfl,rfl⟩
theorem ret_opd {fn:Func} {R:Ending→World→Prop} {a:Act} {w:World} {p u:Tmp} (g:Nat) (o:P.Opd) (uv:Value) (hres:fn.results=#[.cell p 94,.tmp u])
  (hp:a.tmps.getD p undef=.pointer (some ⟨g,0,none⟩)) (hu:a.tmps.getD u undef=uv) (h:w.heap[g]?=some (.cells #[.bool o.reg,.int .i64 o.n] 94 (0,0))) (hd:a.defers=[]) (hR:R (.returned (.tuple #[.agg #[.bool o.reg,.int .i64 o.n],uv])) w):bodyPost Tryz.prog fn R .ret a w:=by
 refine bodyPost_ret (v:=.tuple #[.agg #[.bool o.reg,.int .i64 o.n],uv]) ?_ hd hR
 rw[results_cell_tmp hres,hp,hu]
 have:(asAddr (.pointer (some ⟨g,0,none⟩))).run Tryz.prog w=.ok ⟨g,0,none⟩ w:=rfl
 rw[this,Result.andThen_ok,run_loadVar_row w g _ _ _ h _ Tryz.underlying94 rfl (by kernel_rfl),Result.andThen_ok]
theorem opd_cells {w:World} {g:Nat} {a b:Value} {t:TypeId} (h:w.heap[g]?=some (.cells #[a,b] t (0,0))):g<w.heap.size∧w.cell? ⟨g,0,none⟩=some a∧w.cell? ⟨g,1,none⟩=some b∧w.frozen? ⟨g,0,none⟩=false∧w.frozen? ⟨g,1,none⟩=false:=by
 refine⟨(Array.getElem?_eq_some_iff.1 h).1,?_,?_,?_,?_⟩<;>simp[World.cell?,World.frozen?,h]
set_option maxHeartbeats 1600000 in
theorem readOpd_any (s:ByteArray) (w:World) :
  Calls Tryz.prog 211 #[.string s] w fun e w'=>e=.returned (.tuple #[.agg #[.bool (P.readOpd s.toList).1.reg,.int .i64 (P.readOpd s.toList).1.n],.bool (P.readOpd s.toList).2])∧Below w.heap.size w w':=by
 go_enter Tryz.func211,Tryz.ntmps211
 go_wp2
 go_loopw [4] (fun i wr=>∃ k:Nat,k≤4∧i=.int .i64 k∧Hid (∀ j:Nat,j<k→(s.toList==P.dec (j:Int))=false)∧Hid (wr.heap[w.heap.size]?=some (.cells #[.bool false,.int .i64 0] 94 (0,0)))∧Below w.heap.size w wr) (fun i _=>4-(intOf i).toNat)
 case atStart=>exact⟨0,by omega,rfl,fun j hj=>by omega,heap_alloc_new w _,(Below.refl _ _).alloc (Nat.le_refl _) _⟩
 case round =>
  obtain⟨k,hk,rfl,HK,HB0,hbel⟩:=hrel
  obtain⟨z0,z1,z2,z3,z4⟩:=opd_cells HB0.out
  have hws:=hbel.size
  by_cases hlt:k<4
  ·have hin:(k:Int)<4:=by omega
   cases hb:(s.toList==P.dec (k:Int))
   ·have HK2:Hid (∀ j:Nat,j<k+1→(s.toList==P.dec (j:Int))=false):=fun j hj=>by
     by_cases e:j=k
     ·rw[e];exact hb
     ·exact HK.out j (by omega)
    have HB:=hide hb
    clear hb
    go_wp2_with (first | (go_at_call 137;refine (opdA_any ⟨false,(k:Int)⟩ _ (by simp) (by simp;omega)).mono ?_;rintro e w1 ⟨t,rfl,ht,hb1⟩;have hq:(s.toList==t.toList)=false:=(by rw[ht.1];exact HB.out)))
    go_roundw
    case rel=>exact⟨k+1,by omega,by go_num,HK2,by unfold Hid;rw[hb1.block _ (by simp;omega),Below.heap_alloc _ _ _ z0];exact HB0.out,(hbel.alloc hws _).trans (hb1.mono (by simp;omega))⟩
    case measure=>simp[intOf];omega
   ·have HE:=hide (readOpd_at s.toList k hlt HK.out hb)
    have HB:=hide hb
    clear hb
    go_wp2_with (first | (go_at_call 137;refine (opdA_any ⟨false,(k:Int)⟩ _ (by simp) (by simp;omega)).mono ?_;rintro e w1 ⟨t,rfl,ht,hb1⟩;have hq:(s.toList==t.toList)=true:=(by rw[ht.1];exact HB.out);have hn1:w1.heap[wr.heap.size]?=some (.cells #[.bool false,.int .i64 (k:Int)] 94 (0,0)):=(hb1.block _ (by simp)).trans (heap_alloc_new wr _);have hr1:w1.heap[w.heap.size]?=some (.cells #[.bool false,.int .i64 0] 94 (0,0)):=(hb1.block _ (by simp;omega)).trans ((Below.heap_alloc _ _ _ z0).trans HB0.out);obtain⟨y0,y1,y2,y3,y4⟩:=opd_cells hn1;obtain⟨v0,v1,v2,v3,v4⟩:=opd_cells hr1;have HR1:=hide hr1;have hBB:=hide ((hbel.alloc hws _).trans (hb1.mono (by simp;omega)));clear hn1 hr1))
    rw[HE.out]
    refine ret_opd (p:=2) (u:=3) w.heap.size ⟨false,(k:Int)⟩ _ (by kernel_rfl) rfl rfl ?_ rfl ⟨rfl,?_⟩
    ·rw[setCell_block (setCell_block HR1.out _ _)];rfl
    ·exact (hBB.out.setCell (Nat.le_refl _) _).setCell (Nat.le_refl _) _
  ·have HE:Hid (P.readOpd s.toList=(⟨true,(P.readReg s.toList).1⟩,(P.readReg s.toList).2)):=readOpd_none _ (fun j hj=>HK.out j (by omega))
   go_wp2_with (first | (go_at_call 209;refine (readReg_any s _).mono ?_;rintro e w' ⟨rfl,rfl⟩))
   rw[HE.out]
   refine ret_opd (p:=2) (u:=3) w.heap.size ⟨true,(P.readReg s.toList).1⟩ _ (by kernel_rfl) rfl rfl ?_ rfl ⟨rfl,?_⟩
   ·rw[setCell_block (setCell_block HB0.out _ _)];rfl
   ·exact (hbel.setCell (Nat.le_refl _) _).setCell (Nat.le_refl _) _
end Go.Proofs.YtgceflcbckjjiaaGreatDoor
