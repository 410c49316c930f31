import Derived.Deep.CutRange
import Derived.Test.YtpkjmdcabdplfaaGreatDoorB35
set_option linter.unusedVariables false
set_option linter.unusedSimpArgs false
namespace Go.Proofs.YtpkjmdcabdplfaaGreatDoor
open Go Go.RowKit
set_option maxRecDepth 100000
theorem there_snoc (ts:List R.Th) (b:Int) (k:Nat) (h:k<ts.length):R.there (ts.take (k+1)) b=(R.there (ts.take k) b||ts[k].block==b):=by
 unfold R.there;rw[List.take_succ_eq_append_getElem h,List.any_append];simp
theorem Tri.set0 {w:World} {g:Nat} {o0 o1 o2:Bool} (h:Tri w g o0 o1 o2) (b:Bool):Tri (w.setCell ⟨g,0,none⟩ (.bool b)) g b o1 o2:=by unfold Tri at *;rw[setCell_block h];rfl
theorem Tri.set1 {w:World} {g:Nat} {o0 o1 o2:Bool} (h:Tri w g o0 o1 o2) (b:Bool):Tri (w.setCell ⟨g,1,none⟩ (.bool b)) g o0 b o2:=by unfold Tri at *;rw[setCell_block h];rfl
theorem Tri.set2 {w:World} {g:Nat} {o0 o1 o2:Bool} (h:Tri w g o0 o1 o2) (b:Bool):Tri (w.setCell ⟨g,2,none⟩ (.bool b)) g o0 o1 b:=by unfold Tri at *;rw[setCell_block h];rfl
theorem Tri.facts {w:World} {g:Nat} {o0 o1 o2:Bool} (h:Tri w g o0 o1 o2):w.cell? ⟨g,0,none⟩=some (.bool o0)∧w.cell? ⟨g,1,none⟩=some (.bool o1)∧w.cell? ⟨g,2,none⟩=some (.bool o2)∧w.frozen? ⟨g,0,none⟩=false∧w.frozen? ⟨g,1,none⟩=false∧w.frozen? ⟨g,2,none⟩=false:=by
 unfold Tri at h
 refine⟨?_,?_,?_,?_,?_,?_⟩<;>simp[World.cell?,World.frozen?,h]
theorem narX_eq (ts:List R.Th) (bo:Bool) (x:R.Lh) (h:x.var<3):R.narX (one3 (R.onev ts 0) (R.onev ts 1) (R.onev ts 2)) bo x=R.narX (R.onev ts) bo x:=by
 unfold R.narX
 by_cases hv:0≤x.var
 ·have e:one3 (R.onev ts 0) (R.onev ts 1) (R.onev ts 2) x.var=R.onev ts x.var:=by
   have:x.var=0∨x.var=1∨x.var=2:=by omega
   rcases this with e | e | e<;>simp[one3,e]
  rw[e]
 ·have:decide (0≤x.var)=false:=by simpa using hv
  rw[this];simp
theorem narL_eq (ts:List R.Th) (bo:Bool) (l:List R.Tree):R.okL l→R.narL (R.narX (one3 (R.onev ts 0) (R.onev ts 1) (R.onev ts 2)) bo) l=R.narL (R.narX (R.onev ts) bo) l:=by
 induction l using R.flatL.induct with
 | case1=>intro _;simp[R.narL]
 | case2 x b r h1 h2 =>
  intro h
  simp only[R.okL_cons,R.okT] at h
  simp only[R.narL,narX_eq ts bo x h.1.1.ok.v1,h1 h.1.2,h2 h.2]
theorem wpList_load_th {ops:Array Oper} {rest:List Oper} {op:Oper} {a:Act} {w:World} {Q:Exit→Act→World→Prop} (x:Operand) (hgd:op.guard=none) (ho:op.op=.load 46 x)
  (g:Nat) (b l:Int) (v:Value) (hx:a.eval x=.pointer (some ⟨g,0,none⟩)) (hg:w.heap[g]?=some (.cells #[.int .i64 b,v,.int .i64 l] 46 (0,0)))
  (h:wpList Tryz.prog ops Q rest (a.put op.dst (.agg #[.int .i64 b,v,.int .i64 l])) w):wpList Tryz.prog ops Q (op::rest) a w :=
 wpList_load_row hgd _ x ho g hx _ _ hg _ Tryz.underlying46 rfl (by kernel_rfl) h
theorem thB_facts {w:World} {g:Nat} {b l:Int} {v:Value} (h:w.heap[g]?=some (.cells #[.int .i64 b,v,.int .i64 l] 46 (0,0))):g<w.heap.size∧w.cell? ⟨g,0,none⟩=some (.int .i64 b)∧w.cell? ⟨g,1,none⟩=some v∧w.cell? ⟨g,2,none⟩=some (.int .i64 l)∧w.frozen? ⟨g,0,none⟩=false∧w.frozen? ⟨g,1,none⟩=false∧w.frozen? ⟨g,2,none⟩=false:=by
 refine⟨(Array.getElem?_eq_some_iff.1 h).1,?_,?_,?_,?_,?_,?_⟩<;>simp[World.cell?,World.frozen?,h]
theorem thB_set {w:World} {g:Nat} {b l:Int} {v:Value} (h:w.heap[g]?=some (.cells #[.int .i64 b,v,.int .i64 l] 46 (0,0))) (u:Value):(w.setCell ⟨g,1,none⟩ u).heap[g]?=some (.cells #[.int .i64 b,u,.int .i64 l] 46 (0,0)):=by
 rw[setCell_block h];rfl
theorem nar_snoc (f:R.Th→R.Th) (ts:List R.Th) (k:Nat) (h:k<ts.length):(ts.take (k+1)).map f=(ts.take k).map f++[f ts[k]]:=by
 rw[List.take_succ_eq_append_getElem h,List.map_append];rfl
def upto (q:Nat) (ts:List R.Th):List R.Th:=if q=0 then R.step1 ts else if q=1 then R.step2 0 (R.step1 ts) else R.step2 1 (R.step2 0 (R.step1 ts))
def idl (b:Int) (t:R.Th):Bool:=t.block != b||R.strGo 0 t.body==0
theorem idl_snoc (b:Int) (ts:List R.Th) (k:Nat) (h:k<ts.length):(ts.take (k+1)).all (idl b)=((ts.take k).all (idl b)&&idl b ts[k]):=by
 rw[List.take_succ_eq_append_getElem h,List.all_append];simp
theorem ThsAt.at {w:World} {B bt n cap:Nat} {ts:List R.Th} {vs:List Value} {Fs:List (List Nat)} (h:ThsAt w B (.slice (some ⟨bt,0,none⟩) n cap) ts vs Fs) (hn:ts.length=n) (k:Nat) (hk:k<ts.length) :
  bt<w.heap.size∧∃ a c F,w.cell? ⟨bt,k*3,none⟩=some (.int .i64 ts[k].block)∧w.cell? ⟨bt,k*3+1,none⟩=some (.slice a ts[k].body.length c)∧LinesAt w B (.slice a ts[k].body.length c) ts[k].body F:=by
 obtain⟨h1,u,F,c0,c1,L⟩:=h.getL2 hn.symm k hk
 obtain⟨xs,hx⟩:=L.own0
 obtain⟨a,c,rfl⟩:=own_formS hx
 exact⟨h1,a,c,F,c0,c1,L⟩
theorem dz_len (f:R.Th→R.Th) (Y:List R.Th) (m:Nat) (h:m≤Y.length):((Y.take m).map f++Y.drop m).length=Y.length:=by simp;omega
theorem dz_get (f:R.Th→R.Th) (Y:List R.Th) (m:Nat) (h:m<Y.length):((Y.take m).map f++Y.drop m)[m]?=some Y[m]:=by
 rw[List.getElem?_append_right (by simp;omega)]
 simp[h,Nat.min_eq_left (Nat.le_of_lt h)]
theorem dz_next (f:R.Th→R.Th) (Y:List R.Th) (m:Nat) (h:m<Y.length):(Y.take (m+1)).map f++Y.drop (m+1)=((Y.take m).map f++Y.drop m).set m (f Y[m]):=by
 have h1:=P.drop_cons Y m h
 rw[h1,List.set_append_right _ _ (by simp;omega),List.take_succ_eq_append_getElem h]
 have e:m-((Y.take m).map f).length=0:=by simp;omega
 rw[e]
 simp only[List.map_append,List.map_cons,List.map_nil,List.append_assoc,List.cons_append,List.nil_append,List.set_cons_zero]
theorem set_same {l:List R.Th} {k:Nat} {x:R.Th} (h:l[k]?=some x):l.set k x=l:=by
 obtain⟨hk,e⟩:=List.getElem?_eq_some_iff.1 h
 rw[← e];exact List.set_getElem_self hk
theorem own_free {w:World} {B:Nat} {e:TypeId} {sz n g cap:Nat} {xs:List Value} (h:w.ownsRow B e sz (.slice (some ⟨g,0,none⟩) n cap) n xs) (i:Nat):w.frozen? ⟨g,i,none⟩=false:=by
 obtain⟨cur,hc⟩:=own_type h (k:=g) rfl
 simp[World.frozen?,hc]
set_option maxHeartbeats 12800000 in
theorem better_any (B bt n cap:Nat) (ts:List R.Th) (vs:List Value) (Fs:List (List Nat)) (w:World) (h:ThsAt w B (.slice (some ⟨bt,0,none⟩) n cap) ts vs Fs) (hn:n=ts.length) (h0:0<n) (hm:R.Sm ts) (hok:∀ t∈ts,R.okL t.body) :
  Calls Tryz.prog 19 #[.slice (some ⟨bt,0,none⟩) n cap] w fun e w'=>∃ bt' cap' vs' Fs',e=.returned (.slice (some ⟨bt',0,none⟩) n cap')∧ThsAt w' w.heap.size (.slice (some ⟨bt',0,none⟩) n cap') (R.better ts) vs' Fs'∧Below w.heap.size w w':=by
 have hnb:n≤4:=by rw[hn];exact hm.nth
 have HA:=hide h
 have HN:=hide hn
 have HM:=hide hm
 have HOK:=hide hok
 clear h hn hm hok
 have hmk2:∀ w,(Instr.makeSlice 60 (.int .i64 2) (.int .i64 2)).run Tryz.prog w=.ok (.slice (some ⟨w.heap.size,0,none⟩) 2 2) (w.alloc (.cells #[.bool false,.bool false] 4)):=fun _=>by kernel_rfl
 have hmk3:∀ w,(Instr.makeSlice 60 (.int .i64 3) (.int .i64 3)).run Tryz.prog w=.ok (.slice (some ⟨w.heap.size,0,none⟩) 3 3) (w.alloc (.cells #[.bool false,.bool false,.bool false] 4)):=fun _=>by kernel_rfl
 go_enter Tryz.func19,Tryz.ntmps19
 go_wp2
 go_loopw [5] (fun i wr=>∃ (k:Nat) (b0 b1:Bool),k≤n∧i=.int .i64 k∧Hid (b0=R.there (ts.take k) 0∧b1=R.there (ts.take k) 1)∧wr.heap[w.heap.size]?=some (.cells #[.bool b0,.bool b1] 4 (0,0))∧Tri wr (w.heap.size+1) false false false∧Below w.heap.size w wr) (fun i _=>n-(intOf i).toNat)
 case atStart =>
  refine⟨0,false,false,Nat.zero_le _,rfl,by unfold Hid;simp[R.there],?_,?_,((Below.refl _ _).alloc (Nat.le_refl _) _).alloc (by simp) _⟩
  ·rw[Below.heap_alloc _ _ _ (by simp)];exact heap_alloc_new w _
  ·have:=heap_alloc_new (w.alloc (.cells #[.bool false,.bool false] 4)) (.cells #[.bool false,.bool false,.bool false] 4);unfold Tri;simpa using this
 case round =>
  obtain⟨k,b0,b1,hk,rfl,HT,hcur,htri,hbel⟩:=hrel
  by_cases hlt:k<n
  ·have hkl:k<ts.length:=by rw[← HN.out];exact hlt
   have hin:(k:Int)<(n:Int):=by omega
   obtain⟨hbt,uv,F,c0,c1,L⟩:=HA.out.getL2 HN.out k hkl
   have hblk:=HM.out.blk ts[k] (List.getElem_mem hkl)
   have d0:=(hbel.cell (p:=⟨bt,k*3,none⟩) hbt).trans c0
   obtain⟨p1,p2,p3,p4⟩:=pairB_facts hcur
   have HS0:=hide (there_snoc ts 0 k hkl)
   have HS1:=hide (there_snoc ts 1 k hkl)
   generalize ts[k]=t at *
   clear c0 c1 L
   rcases hblk with hbk | hbk
   ·rw[hbk] at d0
    have fin:Hid (∃ b0' b1':Bool,(b0'=R.there (ts.take (k+1)) 0∧b1'=R.there (ts.take (k+1)) 1)∧(wr.setCell ⟨w.heap.size,0,none⟩ (.bool true)).heap[w.heap.size]?=some (.cells #[.bool b0',.bool b1'] 4 (0,0))∧Tri (wr.setCell ⟨w.heap.size,0,none⟩ (.bool true)) (w.heap.size+1) false false false∧Below w.heap.size w (wr.setCell ⟨w.heap.size,0,none⟩ (.bool true))) :=
     ⟨true,b1,⟨by rw[HS0.out,hbk];simp,by rw[HS1.out,hbk,← HT.out.2];simp⟩,by rw[setCell_block hcur];rfl,htri.keep (Below.heap_setCell _ _ _ _ (by simp)),hbel.setCell (p:=⟨w.heap.size,0,none⟩) (Nat.le_refl _) _⟩
    go_wp2
    go_roundw
    case rel=>obtain⟨b0',b1',e1,e2,e3,e4⟩:=fin.out;exact⟨k+1,b0',b1',by omega,by go_num,e1,e2,e3,e4⟩
    case measure=>simp[intOf];omega
   ·rw[hbk] at d0
    have fin:Hid (∃ b0' b1':Bool,(b0'=R.there (ts.take (k+1)) 0∧b1'=R.there (ts.take (k+1)) 1)∧(wr.setCell ⟨w.heap.size,1,none⟩ (.bool true)).heap[w.heap.size]?=some (.cells #[.bool b0',.bool b1'] 4 (0,0))∧Tri (wr.setCell ⟨w.heap.size,1,none⟩ (.bool true)) (w.heap.size+1) false false false∧Below w.heap.size w (wr.setCell ⟨w.heap.size,1,none⟩ (.bool true))) :=
     ⟨b0,true,⟨by rw[HS0.out,hbk,← HT.out.1];simp,by rw[HS1.out,hbk];simp⟩,by rw[setCell_block hcur];rfl,htri.keep (Below.heap_setCell _ _ _ _ (by simp)),hbel.setCell (p:=⟨w.heap.size,1,none⟩) (Nat.le_refl _) _⟩
    go_wp2
    go_roundw
    case rel=>obtain⟨b0',b1',e1,e2,e3,e4⟩:=fin.out;exact⟨k+1,b0',b1',by omega,by go_num,e1,e2,e3,e4⟩
    case measure=>simp[intOf];omega
  ·have HT2:Hid (b0=R.there ts 0∧b1=R.there ts 1):=by
    have h1:=HT.out
    rw[List.take_of_length_le (by have:=HN.out;omega)] at h1
    exact h1
   clear HT
   go_wp2
   go_loopw [6] (fun i wr=>∃ (k:Nat),k≤3∧i=.int .i64 k∧Hid (Tri wr (w.heap.size+1) (decide (0<k)&&R.onev ts 0) (decide (1<k)&&R.onev ts 1) (decide (2<k)&&R.onev ts 2))∧wr.heap[w.heap.size]?=some (.cells #[.bool b0,.bool b1] 4 (0,0))∧Below w.heap.size w wr) (fun i _=>3-(intOf i).toNat)
   case atStart=>exact⟨0,by omega,rfl,by unfold Hid;simpa using htri,hcur,hbel⟩
   case round =>
    clear htri hcur hbel
    obtain⟨k2,hk2,rfl,HTRI,hcur,hbel⟩:=hrel
    have HT:Hid (ThsAt wr B (.slice (some ⟨bt,0,none⟩) n cap) ts vs Fs):=HA.out.keep (fun j hj=>hbel.block j hj)
    have hk3:k2=0∨k2=1∨k2=2∨k2=3:=by omega
    by_cases hlt2:k2<3
    ·have hin2:(k2:Int)<3:=by omega
     have hwlt:w.heap.size<wr.heap.size:=(Array.getElem?_eq_some_iff.1 hcur).1
     have hglt:=HTRI.out.lt
     go_upto_region 11 with (first | (go_at_call 20;refine (touched2_any B bt n cap (k2:Int) ts vs Fs _ HT.out HN.out (by omega) HM.out.all HM.out.blk).mono ?_;rintro e w1 ⟨rfl,hpair,hb1⟩))
     obtain⟨p1,p2,p3,p4⟩:=pairB_facts hpair
     have htri1:=HTRI.out.keep (hb1.block _ hglt)
     have hcur1:=(hb1.block _ hwlt).trans hcur
     have hbw:Below w.heap.size w w1:=hbel.trans (hb1.mono hbel.size)
     have hw1:=hb1.size
     have hplt:wr.heap.size<w1.heap.size:=(Array.getElem?_eq_some_iff.1 hpair).1
     generalize hx0:R.anyB (R.hasV (k2:Int)) 0 ts=x0 at *
     generalize hx1:R.anyB (R.hasV (k2:Int)) 1 ts=x1 at *
     obtain⟨z0,z1,z2,y0,y1,y2⟩:=htri1.facts
     have HLT2:=hide hlt2
     clear hbel hcur hb1 hpair HTRI hlt2 hin2
     rcases hk3 with rfl | rfl | rfl | rfl
     ·have TS:=fun bb:Bool=>htri1.set0 bb
      have FT:∀ bb:Bool,bb=R.onev ts 0→Hid (Tri (w1.setCell ⟨w.heap.size+1,0,none⟩ (.bool bb)) (w.heap.size+1) (decide (0<0+1)&&R.onev ts 0) (decide (1<0+1)&&R.onev ts 1) (decide (2<0+1)&&R.onev ts 2)):=fun bb e=>by unfold Hid;have h:=TS bb;simp[← e];simpa [← e] using h
      have FP:∀ bb:Bool,Hid ((w1.setCell ⟨w.heap.size+1,0,none⟩ (.bool bb)).heap[w.heap.size]?=some (.cells #[.bool b0,.bool b1] 4 (0,0))):=fun bb=>(Below.heap_setCell _ _ _ _ (by simp)).trans hcur1
      have FB:∀ bb:Bool,Hid (Below w.heap.size w (w1.setCell ⟨w.heap.size+1,0,none⟩ (.bool bb))):=fun bb=>hbw.setCell (p:=⟨w.heap.size+1,0,none⟩) (by simp) _
      have HON:Hid (R.onev ts 0=(!x0||!x1)):=by unfold Hid;rw[← hx0,← hx1];rfl
      have HFT:=hide FT
      have HFP:=hide FP
      have HFB:=hide FB
      clear FT FP FB
      clear TS htri1 hcur1 hbw
      cases x0<;>cases x1
      all_goals
       go_wp2
       go_roundw
       case rel=>exact⟨0+1,by omega,by go_num,HFT.out _ HON.out.symm,(HFP.out _).out,(HFB.out _).out⟩
       case measure=>simp[intOf]
     ·have TS:=fun bb:Bool=>htri1.set1 bb
      have FT:∀ bb:Bool,bb=R.onev ts 1→Hid (Tri (w1.setCell ⟨w.heap.size+1,1,none⟩ (.bool bb)) (w.heap.size+1) (decide (0<1+1)&&R.onev ts 0) (decide (1<1+1)&&R.onev ts 1) (decide (2<1+1)&&R.onev ts 2)):=fun bb e=>by unfold Hid;have h:=TS bb;simp[← e];simpa [← e] using h
      have FP:∀ bb:Bool,Hid ((w1.setCell ⟨w.heap.size+1,1,none⟩ (.bool bb)).heap[w.heap.size]?=some (.cells #[.bool b0,.bool b1] 4 (0,0))):=fun bb=>(Below.heap_setCell _ _ _ _ (by simp)).trans hcur1
      have FB:∀ bb:Bool,Hid (Below w.heap.size w (w1.setCell ⟨w.heap.size+1,1,none⟩ (.bool bb))):=fun bb=>hbw.setCell (p:=⟨w.heap.size+1,1,none⟩) (by simp) _
      have HON:Hid (R.onev ts 1=(!x0||!x1)):=by unfold Hid;rw[← hx0,← hx1];rfl
      have HFT:=hide FT
      have HFP:=hide FP
      have HFB:=hide FB
      clear FT FP FB
      clear TS htri1 hcur1 hbw
      cases x0<;>cases x1
      all_goals
       go_wp2
       go_roundw
       case rel=>exact⟨1+1,by omega,by go_num,HFT.out _ HON.out.symm,(HFP.out _).out,(HFB.out _).out⟩
       case measure=>simp[intOf]
     ·have TS:=fun bb:Bool=>htri1.set2 bb
      have FT:∀ bb:Bool,bb=R.onev ts 2→Hid (Tri (w1.setCell ⟨w.heap.size+1,2,none⟩ (.bool bb)) (w.heap.size+1) (decide (0<2+1)&&R.onev ts 0) (decide (1<2+1)&&R.onev ts 1) (decide (2<2+1)&&R.onev ts 2)):=fun bb e=>by unfold Hid;have h:=TS bb;simp[← e];simpa [← e] using h
      have FP:∀ bb:Bool,Hid ((w1.setCell ⟨w.heap.size+1,2,none⟩ (.bool bb)).heap[w.heap.size]?=some (.cells #[.bool b0,.bool b1] 4 (0,0))):=fun bb=>(Below.heap_setCell _ _ _ _ (by simp)).trans hcur1
      have FB:∀ bb:Bool,Hid (Below w.heap.size w (w1.setCell ⟨w.heap.size+1,2,none⟩ (.bool bb))):=fun bb=>hbw.setCell (p:=⟨w.heap.size+1,2,none⟩) (by simp) _
      have HON:Hid (R.onev ts 2=(!x0||!x1)):=by unfold Hid;rw[← hx0,← hx1];rfl
      have HFT:=hide FT
      have HFP:=hide FP
      have HFB:=hide FB
      clear FT FP FB
      clear TS htri1 hcur1 hbw
      cases x0<;>cases x1
      all_goals
       go_wp2
       go_roundw
       case rel=>exact⟨2+1,by omega,by go_num,HFT.out _ HON.out.symm,(HFP.out _).out,(HFB.out _).out⟩
       case measure=>simp[intOf]
     ·exact absurd HLT2.out (by decide)
    ·have hk4:k2=3:=by omega
     subst hk4
     have HTRI3:Hid (Tri wr (w.heap.size+1) (R.onev ts 0) (R.onev ts 1) (R.onev ts 2)):=by
      have h1:=HTRI.out
      simpa [Hid] using h1
     have HBO:Hid (R.both ts=(b0&&b1)):=by unfold Hid R.both;rw[← HT2.out.1,← HT2.out.2]
     obtain⟨p1,p2,p3,p4⟩:=pairB_facts hcur
     have hwlt:w.heap.size<wr.heap.size:=(Array.getElem?_eq_some_iff.1 hcur).1
     have hglt:=HTRI3.out.lt
     go_upto_region 12 with fail
     go_cut [10] from 61 to 68 (fun s wx=>s=.bool (b0&&b1)∧wx=wr)
     case first =>
      cases b0
      all_goals
       go_wp2
       go_meet
       case rel=>exact⟨rfl,rfl⟩
     case rest =>
      obtain⟨rfl,hww⟩:=hcut
      subst hww
      have HBO2:Hid (R.both ts=(b0&&b1)):=HBO
      generalize (b0&&b1)=bo at *
      obtain⟨i0,hi,hz0,hz1,hz2⟩:=info_parts Tryz.infoTh
      have HBZ:=hide hbel
      clear hbel p1 p2 p3 p4 HT hk3 hlt2 hcur HTRI
      go_wp2
      go_loopw [11,12] (fun o i wx=>∃ (k:Nat) (vs':List Value) (Fs':List (List Nat)),k≤n∧i=.int .i64 k∧Hid (ThsAt wx w.heap.size o ((ts.take k).map (R.narT (R.onev ts) bo)) vs' Fs')∧Hid (Tri wx (w.heap.size+1) (R.onev ts 0) (R.onev ts 1) (R.onev ts 2))∧Below w.heap.size w wx) (fun _ i _=>n-(intOf i).toNat)
      case atStart=>exact⟨0,[],[],Nat.zero_le _,rfl,by unfold Hid;exact⟨by simpa [thCells] using World.ownsRow_nil _ _ _ _,by simp,by simp,fun i t u F h=>by simp at h⟩,HTRI3,HBZ.out⟩
      case round =>
       clear HTRI3 HBZ hglt hwlt
       obtain⟨k,vs',Fs',hk,rfl,HTH,HTRI3,hbel⟩:=hrel
       have hws:=hbel.size
       by_cases hlt:k<n
       ·have hkl:k<ts.length:=by rw[← HN.out];exact hlt
        have hin:(k:Int)<(n:Int):=by omega
        have hv:k<vs.length:=by rw[HA.out.lv];exact hkl
        have hF:k<Fs.length:=by rw[HA.out.lF];exact hkl
        have ho:=HA.out.own
        rw[← HN.out] at ho
        obtain⟨c0,c1,c2⟩:=thCells_at ts vs HA.out.lv k ts[k] vs[k] (by simp[hkl]) (by simp[hv])
        have hbt:=(ho.lt bt rfl).2
        have d0:wr.cell? ⟨bt,k*3,none⟩=some (.int .i64 ts[k].block):=(hbel.cell (p:=⟨bt,k*3,none⟩) hbt).trans ((ho.cellAt _ (by omega)).trans c0)
        have d1:wr.cell? ⟨bt,k*3+1,none⟩=some vs[k]:=(hbel.cell (p:=⟨bt,k*3+1,none⟩) hbt).trans ((ho.cellAt _ (by omega)).trans c1)
        have d2:wr.cell? ⟨bt,k*3+2,none⟩=some (.int .i64 ts[k].row):=(hbel.cell (p:=⟨bt,k*3+2,none⟩) hbt).trans ((ho.cellAt _ (by omega)).trans c2)
        have L:=HA.out.kid k ts[k] vs[k] Fs[k] (by simp[hkl]) (by simp[hv]) (by simp[hF])
        have hsz:=HM.out.all ts[k] (List.getElem_mem hkl)
        have hok:=HOK.out ts[k] (List.getElem_mem hkl)
        have HC:Hid (∀ w2:World,Below w.heap.size w w2→Tri w2 (w.heap.size+1) (R.onev ts 0) (R.onev ts 1) (R.onev ts 2)→Calls Tryz.prog 36 #[vs[k],.slice (some ⟨w.heap.size+1,0,none⟩) 3 3,.bool bo] w2 fun e w'=>∃ a3 m3 c3 F3,e=.returned (.slice a3 m3 c3)∧LinesAt w' w2.heap.size (.slice a3 m3 c3) (R.narL (R.narX (R.onev ts) bo) ts[k].body) F3∧Below w2.heap.size w2 w'):=fun w2 hb ht=>by
         refine (narrow_any L (by omega) hok w2 _ _ _ _ bo (fun j hj=>hb.block j (L.bound j hj).2) ht).mono ?_
         rintro e w' ⟨v',F3,rfl,h2,h3⟩
         rw[narL_eq ts bo _ hok] at h2
         obtain⟨xs3,hx3⟩:=h2.own0
         obtain⟨a3,c3,rfl⟩:=own_formS hx3
         exact⟨a3,_,c3,F3,rfl,h2,h3⟩
        obtain⟨xsu,hxu⟩:=L.own0
        obtain⟨ua,uc,hu⟩:=own_formS hxu
        have HSN:=hide (nar_snoc (R.narT (R.onev ts) bo) ts k hkl)
        have HLT:Hid (((ts.take k).map (R.narT (R.onev ts) bo)).length=k):=by unfold Hid;simp;omega
        have hown:=HTH.out.own
        rw[HLT.out] at hown
        have HROW:=hide hown
        have HBL:=hide hbel
        have hglt:=HTRI3.out.lt
        generalize ts[k]=t at *
        generalize vs[k]=u at *
        subst hu
        have HNT:Hid (R.narT (R.onev ts) bo t={ t with body:=R.narL (R.narX (R.onev ts) bo) t.body }):=rfl
        generalize R.narL (R.narX (R.onev ts) bo) t.body=nb at *
        clear hbel hown L hxu c0 c1 c2 ho hok
        go_wp2_with (first
         | (go_at_call 36;refine (HC.out _ (HBL.out.alloc hws _) (HTRI3.out.keep (Below.heap_alloc _ _ _ hglt))).mono ?_;rintro e w3 ⟨a3,m3,c3,F3,rfl,hl3,hb3⟩;have hW3:Below wr.heap.size wr w3:=((Below.refl wr.heap.size wr).alloc (Nat.le_refl _) _).trans (hb3.mono (by simp));have TB3:w3.heap[wr.heap.size]?=some (.cells #[.int .i64 t.block,(.slice ua t.body.length uc),.int .i64 t.row] 46 (0,0)):=(hb3.block _ (by simp)).trans (heap_alloc_new wr _);obtain⟨q1,q2,q3,q4,q5,q6,q7⟩:=thB_facts TB3;have TS:=hide (thB_set TB3 (.slice a3 m3 c3));have WS:=hide (hW3.setCell (p:=⟨wr.heap.size,1,none⟩) (Nat.le_refl _) (.slice a3 m3 c3));have CS:Hid (LinesAt (w3.setCell ⟨wr.heap.size,1,none⟩ (.slice a3 m3 c3)) (wr.heap.size+1) (.slice a3 m3 c3) nb F3):=((hl3.base (by simp)).keep (fun j hj=>Below.heap_setCell _ _ _ _ (fun ej=>by have h1:=(hl3.bound j hj).1;have h2:j=wr.heap.size:=ej;simp at h1;omega)));have hws6:=WS.out.size;clear hl3)
         | (generalize w3.setCell ⟨wr.heap.size,1,none⟩ (.slice a3 m3 c3)=W at *;refine wpList_load_th (.tmp 13) rfl rfl wr.heap.size t.block t.row (.slice a3 m3 c3) rfl (by exact TS.out) ?_)
         | (at_builtin;refine wpList_append_lies _ rfl (.tmp 85) (.tmp 87) 29 rfl w.heap.size 46 i0 (.agg #[.int .i64 0,.slice none 0 0,.int .i64 0]) 3 40 Tryz.underlying29 hi hz0 hz1 hz2 rfl (by decide) _ _ _ rfl ((ownsRow_keep HROW.out (fun j hj=>WS.out.block j (HROW.out.lt j hj).2)).alloc _) ⟨W.heap.size,0,none⟩ 1 1 [Value.int .i64 t.block,(.slice a3 m3 c3),.int .i64 t.row] rfl rfl ?c1 ?c2 (by decide) ?c3 ?c4 ?c5 _ rfl ?_))
        case c1=>exact World.news_of_block (t:=46) (fr:=(0,0)) (heap_alloc_new W _)
        case c2=>simp[Value.oneCell']
        case c3=>unfold maxLen;omega
        case c4=>omega
        case c5=>simp;omega
        intro g1 cap1 w1 hown1 hgrow hat hlt1
        have hW':Below wr.heap.size wr (W.alloc (.cells #[.int .i64 t.block,(.slice a3 m3 c3),.int .i64 t.row] 46)):=WS.out.alloc (by omega) _
        have FIN:=hide (grown_row HBL.out hW' HROW.out hgrow)
        have FTR:Hid (Tri w1 (w.heap.size+1) (R.onev ts 0) (R.onev ts 1) (R.onev ts 2)):=grown_other hW' HROW.out hgrow HTRI3.out (by decide)
        have CA:LinesAt (W.alloc (.cells #[.int .i64 t.block,(.slice a3 m3 c3),.int .i64 t.row] 46)) (wr.heap.size+1) (.slice a3 m3 c3) nb F3:=CS.out.keep (fun j hj=>Below.heap_alloc _ _ _ (CS.out.bound j hj).2)
        have FTH:=hide (ThsAt.app (t:=R.narT (R.onev ts) bo t) HTH.out HLT.out hws hW' (Nat.le_succ _) (by rw[HNT.out];exact CA) hgrow (by rw[HNT.out];(try rw[← List.map_take] at hown1);exact hown1))
        rw[← HSN.out] at FTH
        clear hown1 hgrow hat HROW HBL hW' TS WS CS CA HTH HTRI3
        go_wp2
        go_roundw
        case rel=>exact⟨_,_,_,_,_,_,_,_,_,_,_,_,_,_,_,_,_,_,_,_,_,_,_,_,_,⟨k+1,_,_,by omega,by go_num,FTH,FTR,FIN.out⟩,rfl⟩
        case measure=>simp[intOf];omega
       ·have hkn:k=n:=by omega
        subst hkn
        have HT1:Hid (ThsAt wr w.heap.size u11 (R.step1 ts) vs' Fs'):=by
         have h1:=HTH.out
         rw[List.take_of_length_le (by have:=HN.out;omega)] at h1
         unfold Hid R.step1;rw[HBO2.out];exact h1
        obtain⟨g1,cap1,rfl,hg1,hg2⟩:=(show wr.ownsRow w.heap.size 46 3 u11 k (thCells (R.step1 ts) vs') by have h1:=HT1.out.own;rw[show (R.step1 ts).length=k by unfold R.step1;rw[List.length_map,← HN.out]] at h1;exact h1).form h0
        have HG1:Hid (GT k (R.step1 ts)):=(GT.start HN.out HM.out HOK.out).step1
        clear HTH HTRI3 hlt hws hg1 hg2 hi hz0 hz1 hz2 HA
        go_wp2
        go_loopw [15] (fun b wx=>∃ (q:Nat) (Y:List R.Th) (vy:List Value) (Fy:List (List Nat)),q≤2∧b=.int .i64 q∧Hid (Y=upto q ts)∧Hid (GT k Y)∧Hid (ThsAt wx w.heap.size (.slice (some ⟨g1,0,none⟩) k cap1) Y vy Fy)∧Below w.heap.size w wx) (fun b _=>2-(intOf b).toNat)
        case atStart=>exact⟨0,_,_,_,by omega,rfl,rfl,HG1,HT1,hbel⟩
        case round =>
         clear HT1 HG1 hbel
         obtain⟨q,Y,vy,Fy,hq,rfl,HY,HG,HTY,hbel⟩:=hrel
         by_cases hq2:q<2
         ·have hqi:(q:Int)<2:=by omega
          generalize wr=w5 at *
          go_wp2
          go_loopw [16] (fun kk wx=>(kk=.int .i64 2∧wx=w5)∨(kk=.int .i64 1∧∃ (vz:List Value) (Fz:List (List Nat)),Hid (ThsAt wx w.heap.size (.slice (some ⟨g1,0,none⟩) k cap1) (R.step2 q Y) vz Fz)∧Below w.heap.size w wx)) (fun kk _=>(intOf kk).toNat)
          case atStart=>exact Or.inl ⟨rfl,rfl⟩
          case round =>
           rcases hrel with ⟨rfl,rfl⟩ | ⟨rfl,vz,Fz,HTZ,hbz⟩
           ·generalize wr=w6 at *
            go_wp2
            go_loopw [17,18] (fun id t wx=>∃ (m:Nat),m≤k∧t=.int .i64 m∧id=.bool ((Y.take m).all (idl q))∧Below w6.heap.size w6 wx) (fun _ t _=>k-(intOf t).toNat)
            case atStart=>exact⟨0,Nat.zero_le _,rfl,by simp,Below.refl _ _⟩
            case round =>
             obtain⟨m,hm,rfl,rfl,hb6⟩:=hrel
             by_cases hml:m<k
             ·have hmy:m<Y.length:=by rw[HG.out.len];exact hml
              have hmi:(m:Int)<(k:Int):=by omega
              obtain⟨hgt,a,c,F,c0,c1,L⟩:=HTY.out.at HG.out.len m hmy
              have d0:=(hb6.cell (p:=⟨g1,m*3,none⟩) hgt).trans c0
              have d1:=(hb6.cell (p:=⟨g1,m*3+1,none⟩) hgt).trans c1
              have hsz:=HG.out.sz Y[m] (List.getElem_mem hmy)
              have HIS:=hide (idl_snoc q Y m hmy)
              have HC:Hid (∀ w2:World,Below w6.heap.size w6 w2→Calls Tryz.prog 37 #[.slice a Y[m].body.length c,.int .i64 2] w2 fun e w'=>e=.returned (.int .i64 (R.strGo 0 Y[m].body))∧Below w2.heap.size w2 w'):=fun w2 hb=>stretch_any (L.keep (fun j hj=>hb.block j (L.bound j hj).2)) (by omega)
              generalize Y[m]=t at *
              generalize (Y.take m).all (idl q)=A at *
              clear L c0 c1
              go_upto_region 32 with (first | (go_at_call 37;refine (HC.out _ hb6).mono ?_;rintro e w7 ⟨rfl,hb7⟩;have d2:=(hb7.cell (p:=⟨g1,m*3,none⟩) (by have:=hb6.size;simp at hgt ⊢;omega)).trans d0))
              have FB:=hide (hb6.trans (hb7.mono hb6.size))
              cases A
              ·skip
               go_wp2
               go_roundw
               case rel=>exact⟨_,_,_,_,_,_,_,_,_,_,_,_,_,_,_,_,_,_,_,_,_,_,_,_,_,_,_,_,_,_,⟨m+1,by omega,by go_num,by rw[HIS.out];simp,FB.out⟩,rfl⟩
               case measure=>simp[intOf];omega
              ·by_cases hbq:t.block=q
               ·have nb:(t.block != (q:Int))=false:=by simp[hbq]
                clear hbq
                cases hs0:(R.strGo 0 t.body==0)
                ·skip
                 go_wp2
                 go_roundw
                 case rel=>exact⟨_,_,_,_,_,_,_,_,_,_,_,_,_,_,_,_,_,_,_,_,_,_,_,_,_,_,_,_,_,_,⟨m+1,by omega,by go_num,by rw[HIS.out];simp[idl,nb,hs0],FB.out⟩,rfl⟩
                 case measure=>simp[intOf];omega
                ·skip
                 go_wp2
                 go_roundw
                 case rel=>exact⟨_,_,_,_,_,_,_,_,_,_,_,_,_,_,_,_,_,_,_,_,_,_,_,_,_,_,_,_,_,_,⟨m+1,by omega,by go_num,by rw[HIS.out];simp[idl,nb,hs0],FB.out⟩,rfl⟩
                 case measure=>simp[intOf];omega
               ·have nb:(t.block != (q:Int))=true:=by simp[hbq]
                clear hbq
                go_wp2
                go_roundw
                case rel=>exact⟨_,_,_,_,_,_,_,_,_,_,_,_,_,_,_,_,_,_,_,_,_,_,_,_,_,_,_,_,_,_,⟨m+1,by omega,by go_num,by rw[HIS.out];simp[idl,nb],FB.out⟩,rfl⟩
                case measure=>simp[intOf];omega
             ·have hmk:m=k:=by omega
              have HID:Hid ((Y.take m).all (idl q)=R.idle Y q):=by
               unfold Hid;rw[List.take_of_length_le (by rw[HG.out.len];omega)];rfl
              rw[HID.out]
              have HT6:Hid (ThsAt wr w.heap.size (.slice (some ⟨g1,0,none⟩) k cap1) Y vy Fy):=HTY.out.keep (fun j hj=>hb6.block j hj)
              have hbw:Hid (Below w.heap.size w wr):=hbel.trans (hb6.mono hbel.size)
              have HST:Hid (R.step2 q Y=if R.idle Y q then Y.map (R.dropT q) else Y):=rfl
              generalize R.idle Y q=A at *
              clear HID hb6
              go_wp2
              clear hmk hml hm
              go_loopw [20] (fun t wx=>∃ (m2:Nat) (vz:List Value) (Fz:List (List Nat)),m2≤k∧t=.int .i64 m2∧(A=false→m2=0)∧Hid (ThsAt wx w.heap.size (.slice (some ⟨g1,0,none⟩) k cap1) ((Y.take m2).map (R.dropT q)++Y.drop m2) vz Fz)∧Below w.heap.size w wx) (fun t _=>k-(intOf t).toNat)
              case atStart=>exact⟨0,vy,Fy,Nat.zero_le _,rfl,fun _=>rfl,by unfold Hid;simpa using HT6.out,hbw.out⟩
              case round =>
               obtain⟨m2,vz,Fz,hm2,rfl,hA0,HTZ,hbz⟩:=hrel
               have hwz:=hbz.size
               cases A
               ·have e0:=hA0 rfl
                subst e0
                have HTN:Hid (ThsAt wr w.heap.size (.slice (some ⟨g1,0,none⟩) k cap1) (R.step2 q Y) vz Fz):=by
                 unfold Hid;rw[HST.out];simpa using HTZ.out
                have hk0:(0:Int)<(k:Int):=by omega
                clear HTZ
                go_wp2
                go_roundw
                case rel=>exact Or.inr ⟨rfl,vz,Fz,HTN,hbz⟩
                case measure=>simp[intOf]
               ·by_cases hmk2:m2<k
                ·have hmy:m2<Y.length:=by rw[HG.out.len];exact hmk2
                 have hmi:(m2:Int)<(k:Int):=by omega
                 have HZL:=dz_len (R.dropT q) Y m2 (by omega)
                 have HZG:=dz_get (R.dropT q) Y m2 hmy
                 have HNX:=hide (dz_next (R.dropT q) Y m2 hmy)
                 rw[HG.out.len] at HZL
                 have hsz:=HG.out.sz Y[m2] (List.getElem_mem hmy)
                 obtain⟨hgt,a,c,F,c0,c1,L⟩:=HTZ.out.at HZL m2 (by omega)
                 have ez:=(List.getElem?_eq_some_iff.1 HZG).2
                 rw[ez] at c0 c1 L
                 have hlen:=R.size_len Y[m2].body
                 have HC:=hide (drop_any 2 L (by omega) hwz (by omega))
                 have HZG2:=hide HZG
                 generalize Y[m2]=t at *
                 clear ez HZG L
                 by_cases hbq:t.block=q
                 ·have nb:(t.block==(q:Int))=true:=by simp[hbq]
                  have HDT:Hid (R.dropT q t={ t with body:=R.dropL 2 t.body }):=by unfold Hid R.dropT;rw[nb];rfl
                  clear hbq
                  go_wp2_with (first | (go_at_call 38;refine HC.out.mono ?_;rintro e w7 ⟨v7,F7,rfl,hl7,hb7⟩;obtain⟨xs7,hx7⟩:=hl7.own0;obtain⟨a7,c7,rfl⟩:=own_formS hx7;have HT7:Hid (ThsAt w7 w.heap.size (.slice (some ⟨g1,0,none⟩) k cap1) ((Y.take m2).map (R.dropT q)++Y.drop m2) vz Fz):=HTZ.out.keep (fun j hj=>hb7.block j hj);have hb8:Hid (Below w.heap.size w w7):=hbz.trans (hb7.mono hwz);have HL7:=hide hl7;have e1:=(hb7.cell (p:=⟨g1,m2*3+1,none⟩) hgt).trans c1;have f1:=own_free (show w7.ownsRow w.heap.size 46 3 (.slice (some ⟨g1,0,none⟩) k cap1) k _ by have h9:=HT7.out.own;rw[HZL] at h9;exact h9) (m2*3+1);have hg7:g1<w7.heap.size:=Nat.lt_of_lt_of_le hgt hb7.size;clear hl7 hx7))
                  have HTN:=hide (HT7.out.setBody HZL.symm m2 t HZG2.out (R.dropL 2 t.body) _ F7 HL7.out)
                  have FB:=hide (hb8.out.setCell (p:=⟨g1,m2*3+1,none⟩) (by have h9:=HTZ.out.own;rw[HZL] at h9;exact (h9.lt g1 rfl).1) (.slice a7 (R.dropL 2 t.body).length c7))
                  rw[← HDT.out,← HNX.out] at HTN
                  go_roundw
                  case rel=>exact⟨_,_,_,_,_,_,_,_,_,_,_,_,_,_,_,_,_,_,_,_,_,_,_,_,_,_,_,_,⟨m2+1,_,_,by omega,by go_num,fun h=>by simp at h,HTN,FB.out⟩,rfl⟩
                  case measure=>simp[intOf];omega
                 ·have nb:(t.block==(q:Int))=false:=by simp[hbq]
                  have HDT:Hid (R.dropT q t=t):=by unfold Hid R.dropT;rw[nb];rfl
                  have HTN:Hid (ThsAt wr w.heap.size (.slice (some ⟨g1,0,none⟩) k cap1) ((Y.take (m2+1)).map (R.dropT q)++Y.drop (m2+1)) vz Fz):=by
                   unfold Hid;rw[HNX.out,HDT.out,set_same HZG2.out];exact HTZ.out
                  clear hbq
                  go_wp2
                  go_roundw
                  case rel=>exact⟨m2+1,vz,Fz,by omega,by go_num,fun h=>by simp at h,HTN,hbz⟩
                  case measure=>simp[intOf];omega
                ·have hm3:m2=k:=by omega
                 have HTN:Hid (ThsAt wr w.heap.size (.slice (some ⟨g1,0,none⟩) k cap1) (R.step2 q Y) vz Fz):=by
                  have h1:=HTZ.out
                  rw[List.take_of_length_le (by rw[HG.out.len];omega),List.drop_eq_nil_of_le (by rw[HG.out.len];omega),List.append_nil] at h1
                  unfold Hid;rw[HST.out];exact h1
                 clear HTZ
                 go_wp2
                 go_roundw
                 case rel=>exact Or.inr ⟨rfl,vz,Fz,HTN,hbz⟩
                 case measure=>simp[intOf]
           ·have HY2:Hid (R.step2 q Y=upto (q+1) ts):=by
             unfold Hid;rw[HY.out]
             have:q=0∨q=1:=by omega
             rcases this with rfl | rfl<;>rfl
            have HG2:=hide (HG.out.step2 (q:Int))
            go_wp2
            go_roundw
            case rel=>exact⟨q+1,_,vz,Fz,by omega,by go_num,HY2,HG2,HTZ,hbz⟩
            case measure=>simp[intOf];omega
         ·have hq3:q=2:=by omega
          have HB2:Hid (R.better ts=Y.map R.thinT):=by unfold Hid;rw[HY.out,hq3];rfl
          have hqi:¬ ((q:Int)<2):=by omega
          clear hq3 hq2
          go_wp2
          go_loopw [21] (fun t wx=>∃ (m2:Nat) (vz:List Value) (Fz:List (List Nat)),m2≤k∧t=.int .i64 m2∧Hid (ThsAt wx w.heap.size (.slice (some ⟨g1,0,none⟩) k cap1) ((Y.take m2).map R.thinT++Y.drop m2) vz Fz)∧Below w.heap.size w wx) (fun t _=>k-(intOf t).toNat)
          case atStart=>exact⟨0,vy,Fy,Nat.zero_le _,rfl,by unfold Hid;simpa using HTY.out,hbel⟩
          case round =>
           clear hbel HTY
           obtain⟨m2,vz,Fz,hm2,rfl,HTZ,hbz⟩:=hrel
           have hwz:=hbz.size
           by_cases hmk2:m2<k
           ·have hmy:m2<Y.length:=by rw[HG.out.len];exact hmk2
            have hmi:(m2:Int)<(k:Int):=by omega
            have HZL:=dz_len R.thinT Y m2 (by omega)
            have HZG:=dz_get R.thinT Y m2 hmy
            have HNX:=hide (dz_next R.thinT Y m2 hmy)
            rw[HG.out.len] at HZL
            have hsz:=HG.out.sz Y[m2] (List.getElem_mem hmy)
            have hok:=HG.out.ok Y[m2] (List.getElem_mem hmy)
            obtain⟨hgt,a,c,F,c0,c1,L⟩:=HTZ.out.at HZL m2 (by omega)
            have ez:=(List.getElem?_eq_some_iff.1 HZG).2
            rw[ez] at c0 c1 L
            have HC:=hide (thinner_any L (by omega) hok wr (fun _ _=>rfl))
            have HZG2:=hide HZG
            generalize Y[m2]=t at *
            have HDT:Hid (R.thinT t={ t with body:=R.thinL none t.body }):=rfl
            clear ez HZG L hok
            go_wp2_with (first | (go_at_call 39;refine HC.out.mono ?_;rintro e w7 ⟨v7,F7,rfl,hl7,hb7⟩;obtain⟨xs7,hx7⟩:=hl7.own0;obtain⟨a7,c7,rfl⟩:=own_formS hx7;have HT7:Hid (ThsAt w7 w.heap.size (.slice (some ⟨g1,0,none⟩) k cap1) ((Y.take m2).map R.thinT++Y.drop m2) vz Fz):=HTZ.out.keep (fun j hj=>hb7.block j hj);have hb8:Hid (Below w.heap.size w w7):=hbz.trans (hb7.mono hwz);have HL7:=hide (hl7.base hwz);have e1:=(hb7.cell (p:=⟨g1,m2*3+1,none⟩) hgt).trans c1;have f1:=own_free (show w7.ownsRow w.heap.size 46 3 (.slice (some ⟨g1,0,none⟩) k cap1) k _ by have h9:=HT7.out.own;rw[HZL] at h9;exact h9) (m2*3+1);have hg7:g1<w7.heap.size:=Nat.lt_of_lt_of_le hgt hb7.size;clear hl7 hx7))
            have HTN:=hide (HT7.out.setBody HZL.symm m2 t HZG2.out (R.thinL none t.body) _ F7 HL7.out)
            have FB:=hide (hb8.out.setCell (p:=⟨g1,m2*3+1,none⟩) (by have h9:=HTZ.out.own;rw[HZL] at h9;exact (h9.lt g1 rfl).1) (.slice a7 (R.thinL none t.body).length c7))
            rw[← HDT.out,← HNX.out] at HTN
            go_roundw
            case rel=>exact⟨m2+1,_,_,by omega,by go_num,HTN,FB.out⟩
            case measure=>simp[intOf];omega
           ·have HTN:Hid (ThsAt wr w.heap.size (.slice (some ⟨g1,0,none⟩) k cap1) (R.better ts) vz Fz):=by
             have h1:=HTZ.out
             rw[List.take_of_length_le (by rw[HG.out.len];omega),List.drop_eq_nil_of_le (by rw[HG.out.len];omega),List.append_nil] at h1
             unfold Hid;rw[HB2.out];exact h1
            clear HTZ
            go_wp2
            go_ret
            exact⟨g1,cap1,vz,Fz,rfl,HTN.out,hbz⟩
end Go.Proofs.YtpkjmdcabdplfaaGreatDoor
