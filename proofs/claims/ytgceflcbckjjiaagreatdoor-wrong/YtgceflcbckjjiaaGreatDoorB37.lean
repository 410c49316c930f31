import Derived.Laws.AppendOwnNone
import Derived.Test.YtgceflcbckjjiaaGreatDoorB36
set_option linter.unusedVariables false
set_option linter.unusedSimpArgs false
namespace Go.Proofs.YtgceflcbckjjiaaGreatDoor
open Go Go.RowKit
set_option maxRecDepth 100000
theorem grown_row {w wr W w1:World} {o:Value} {n:Nat} {xs:List Value} {e:TypeId} {sz:Nat} (hb:Below w.heap.size w wr) (hW:Below wr.heap.size wr W) (hown:wr.ownsRow w.heap.size e sz o n xs) (hgrow:W.grownBy w1 o.ownBlock):Below w.heap.size w w1 :=
 (hb.trans (hW.mono hb.size)).grown hgrow (Nat.le_trans hb.size hW.size) (fun j hj=>(hown.lt j hj).1)
theorem grown_other {w wr W w1:World} {o:Value} {n g:Nat} {xs:List Value} {e e':TypeId} {sz:Nat} {c:Array Value} {fr:Nat × Nat} (hW:Below wr.heap.size wr W) (hown:wr.ownsRow w.heap.size e sz o n xs) (hgrow:W.grownBy w1 o.ownBlock) (hg:wr.heap[g]?=some (.cells c e' fr)) (hne:e'≠e):w1.heap[g]?=some (.cells c e' fr):=by
 have hlt:g<wr.heap.size:=(Array.getElem?_eq_some_iff.1 hg).1
 rw[hgrow.block g (Nat.lt_of_lt_of_le hlt hW.size) (Ne.symm (own_ne_blk hown hg (Ne.symm hne))),hW.block g hlt,hg]
theorem news2 (w:World) (c:Array Value) (o:Obj) (T:TypeId):∀ (j:Nat) (u:Value),c.toList[j]?=some u→((w.alloc o).alloc (.cells c T (0,0))).cell? ((⟨w.heap.size+1,0,none⟩:Addr).add j)=some u :=
 World.news_of_block (t:=T) (fr:=(0,0)) (by have:=heap_alloc_new (w.alloc o) (.cells c T (0,0));simpa using this)
theorem narrowed_snoc (ts:List P.Thr) (l:List P.Stm) (k:Nat) (h:k<l.length):P.narrowed ts (l.take (k+1))=P.narrowed ts (l.take k)++[P.narrowS ts l[k]]:=by
 rw[List.take_succ_eq_append_getElem h];simp only[P.narrowed,List.map_append,List.map_cons,List.map_nil]
set_option maxHeartbeats 6400000 in
theorem narrowed_any (B bt n cap B2 m sc:Nat) (sa:Option Addr) (ts:List P.Thr) (l:List P.Stm) (w:World) (h:ThreadsAt w B (.slice (some ⟨bt,0,none⟩) n cap) ts) (hn:n=ts.length) (hnb:n<10) (h0:0<n) (hst:∀ t∈ts,t.stmts.length<10000)
  (hown:w.ownsRow B2 96 11 (.slice sa m sc) m (flatStm l)) (hm:m=l.length) (hmb:m<10000) :
  Calls Tryz.prog 39 #[.agg #[.slice (some ⟨bt,0,none⟩) n cap],.slice sa m sc] w fun e w'=>∃ v,e=.returned v∧w'.ownsRow w.heap.size 96 11 v m (flatStm (P.narrowed ts l))∧Below w.heap.size w w':=by
 obtain⟨i0,hi,hz0,hz1,hz2⟩:=info_parts Tryz.infoStm
 have HC:Hid (∀ (w2:World) (st:P.Stm),Below w.heap.size w w2→Calls Tryz.prog 76 #[.agg #[.slice (some ⟨bt,0,none⟩) n cap],.agg (stmCells st)] w2 fun e w'=>e=.returned (.bool (P.stays ts st))∧Below w2.heap.size w2 w'):=fun w2 st hb=>stays_any B bt n cap ts st w2 (h.keep (fun k hk=>hb.block k hk)) hn hnb h0 hst
 have HO:=hide hown
 have HN:=hide hm
 clear h hn hst hown hm
 go_enter Tryz.func39,Tryz.ntmps39
 go_wp2
 go_loopw [5,10] (fun o i wr=>∃ k:Nat,k≤m∧i=.int .i64 k∧wr.ownsRow w.heap.size 96 11 o k (flatStm (P.narrowed ts (l.take k)))∧Below w.heap.size w wr∧wr.heap[w.heap.size]?=some (.cells #[.slice (some ⟨bt,0,none⟩) n cap] 48 (0,0))) (fun _ i _=>m-(intOf i).toNat)
 case atStart=>exact⟨0,Nat.zero_le _,rfl,by simpa [P.narrowed,flatStm] using World.ownsRow_nil _ _ _ _,(Below.refl _ _).alloc (Nat.le_refl _) _,heap_alloc_new w _⟩
 case round =>
  obtain⟨k,hk,rfl,hrow,hbel,hbox⟩:=hrel
  have e0:wr.cell? ⟨w.heap.size,0,none⟩=some (.slice (some ⟨bt,0,none⟩) n cap):=by simp[World.cell?,hbox]
  have hwlt:w.heap.size<wr.heap.size:=(Array.getElem?_eq_some_iff.1 hbox).1
  by_cases hlt:k<m
  ·obtain⟨b,rfl,hblt⟩:=own_slice HO.out (by omega)
   have hkl:k<l.length:=by rw[← HN.out];exact hlt
   have hr:=hide (rangeAt_keep (range_stm HO.out HN.out k hkl) (hbel.block b hblt))
   have HS:=hide (narrowed_snoc ts l k hkl)
   have HOW:=hide hrow
   have HBL:=hide hbel
   generalize hst:l[k]=st at *
   clear hst hrow hbel
   cases hsy:P.stays ts st
   ·have HE:Hid (P.narrowS ts st=st):=by unfold Hid;simp[P.narrowS,hsy]
    go_wp2_with (first
     | (refine wpList_load_at (.tmp 12) rfl rfl b (k*11) st rfl hr.out ?_)
     | (go_at_call 76;refine (HC.out _ st (HBL.out.alloc (by omega) _)).mono ?_;rintro e w3 ⟨rfl,hb3⟩;rw[hsy];have hW:Below wr.heap.size wr w3:=((Below.refl wr.heap.size wr).alloc (Nat.le_refl _) _).trans (hb3.mono (by simp));have GS:=(StmAt.new wr st).below hb3;obtain⟨f1,f2,s0,s1,s2,s3,s4,s5,s6,s7,s8,s9,s10⟩:=GS.facts;have hw3:=hW.size)
     | (at_builtin;refine wpList_append_lies _ rfl (.tmp 18) (.tmp 20) 86 rfl w.heap.size 96 i0 (.agg (stmCells P.Stm.zero)) 11 88 Tryz.underlying86 hi hz0 hz1 hz2 rfl (by decide) _ _ _ rfl ((ownsRow_keep HOW.out (fun j hj=>hW.block j (HOW.out.lt j hj).2)).alloc _) ⟨w3.heap.size,0,none⟩ 1 1 (stmCells st).toList rfl rfl ?c1 ?c2 (by decide) ?c3 ?c4 ?c5 _ rfl ?_))
    case c1=>exact World.news_of_block (t:=96) (fr:=(0,0)) (heap_alloc_new w3 _)
    case c2=>simp[stmCells,Value.oneCell']
    case c3=>unfold maxLen;omega
    case c4=>omega
    case c5=>simp;omega
    intro g1 cap1 w1 hown1 hgrow hat hlt1
    have hW':Below wr.heap.size wr (w3.alloc (.cells (stmCells st) 96)):=hW.alloc hw3 _
    have FIN:=hide (grown_row HBL.out hW' HOW.out hgrow)
    have FBX:=hide (grown_other hW' HOW.out hgrow hbox (by decide))
    have FOW:Hid (w1.ownsRow w.heap.size 96 11 (.slice (some ⟨g1,0,none⟩) (k+1) cap1) (k+1) (flatStm (P.narrowed ts (l.take (k+1))))):=by
     unfold Hid;rw[HS.out,HE.out,flatStm_snoc];exact hown1
    clear hown1 hgrow hat HOW HBL hW hW' GS
    go_wp2
    go_roundw
    case rel=>exact⟨k+1,by omega,by go_num,FOW.out,FIN.out,FBX.out⟩
    case measure=>simp[intOf];omega
   ·have HE:Hid (P.narrowS ts st={ st with scope:=0 }):=by unfold Hid;simp[P.narrowS,hsy]
    go_wp2_with (first
     | (refine wpList_load_at (.tmp 12) rfl rfl b (k*11) st rfl hr.out ?_)
     | (go_at_call 76;refine (HC.out _ st (HBL.out.alloc (by omega) _)).mono ?_;rintro e w3 ⟨rfl,hb3⟩;rw[hsy];have hW:Below wr.heap.size wr w3:=((Below.refl wr.heap.size wr).alloc (Nat.le_refl _) _).trans (hb3.mono (by simp));have GS:=(StmAt.new wr st).below hb3;obtain⟨f1,f2,s0,s1,s2,s3,s4,s5,s6,s7,s8,s9,s10⟩:=GS.facts;have hw3:=hW.size;have GS2:=hide (GS.setScope 0);have hW2:=hide (hW.setCell (p:=⟨wr.heap.size,9,none⟩) (Nat.le_refl _) (.int .i64 0));have hsz2:=hW2.out.size)
     | (generalize w3.setCell ⟨wr.heap.size,9,none⟩ (.int .i64 0)=W at *;refine wpList_load_stm (.tmp 7) rfl rfl wr.heap.size { st with scope:=0 } rfl (by exact GS2.out) ?_;simp only[stmCells])
     | (at_builtin;refine wpList_append_lies _ rfl (.tmp 18) (.tmp 20) 86 rfl w.heap.size 96 i0 (.agg (stmCells P.Stm.zero)) 11 88 Tryz.underlying86 hi hz0 hz1 hz2 rfl (by decide) _ _ _ rfl ((ownsRow_keep HOW.out (fun j hj=>hW2.out.block j (HOW.out.lt j hj).2)).alloc _) ⟨W.heap.size,0,none⟩ 1 1 (stmCells { st with scope:=0 }).toList rfl rfl ?c1 ?c2 (by decide) ?c3 ?c4 ?c5 _ rfl ?_))
    case c1=>exact World.news_of_block (t:=96) (fr:=(0,0)) (heap_alloc_new W _)
    case c2=>simp[stmCells,Value.oneCell']
    case c3=>unfold maxLen;omega
    case c4=>omega
    case c5=>simp;omega
    intro g1 cap1 w1 hown1 hgrow hat hlt1
    have hW':Below wr.heap.size wr (W.alloc (.cells (stmCells { st with scope:=0 }) 96)):=hW2.out.alloc hsz2 _
    have FIN:=hide (grown_row HBL.out hW' HOW.out hgrow)
    have FBX:=hide (grown_other hW' HOW.out hgrow hbox (by decide))
    have FOW:Hid (w1.ownsRow w.heap.size 96 11 (.slice (some ⟨g1,0,none⟩) (k+1) cap1) (k+1) (flatStm (P.narrowed ts (l.take (k+1))))):=by
     unfold Hid;rw[HS.out,HE.out,flatStm_snoc];exact hown1
    clear hown1 hgrow hat HOW HBL hW hW' GS hW2 GS2
    go_wp2
    go_roundw
    case rel=>exact⟨k+1,by omega,by go_num,FOW.out,FIN.out,FBX.out⟩
    case measure=>simp[intOf];omega
  ·have hkn:k=m:=by omega
   subst hkn
   have HT:Hid (l.take k=l):=List.take_of_length_le (by have:=HN.out;omega)
   go_wp2
   go_ret
   exact⟨_,rfl,by rw[HT.out] at hrow;exact hrow,hbel⟩
end Go.Proofs.YtgceflcbckjjiaaGreatDoor
