import Derived.Test.YtgceflcbckjjiaaGreatDoorB35
set_option linter.unusedVariables false
set_option linter.unusedSimpArgs false
namespace Go.Proofs.YtgceflcbckjjiaaGreatDoor
open Go Go.RowKit
set_option maxRecDepth 100000
theorem box_cell (w:World) (v:Value) (T:TypeId):(w.alloc (.cells #[v] T (0,0))).cell? ⟨w.heap.size,0,none⟩=some v:=by
 have h:=heap_alloc_new w (.cells #[v] T (0,0))
 simp only[World.cell?]
 rw[h];rfl
set_option maxHeartbeats 3200000 in
theorem stays_any (B bt n cap:Nat) (ts:List P.Thr) (st:P.Stm) (w:World) (h:ThreadsAt w B (.slice (some ⟨bt,0,none⟩) n cap) ts) (hn:n=ts.length) (hnb:n<10) (h0:0<n) (hst:∀ t∈ts,t.stmts.length<10000) :
  Calls Tryz.prog 76 #[.agg #[.slice (some ⟨bt,0,none⟩) n cap],.agg (stmCells st)] w fun e w'=>e=.returned (.bool (P.stays ts st))∧Below w.heap.size w w':=by
 have HB:Hid (∀ (w2:World) (v:Int),Below w.heap.size w w2→Calls Tryz.prog 129 #[.agg #[.slice (some ⟨bt,0,none⟩) n cap],.int .i64 v] w2 fun e w'=>e=.returned (.bool (P.bothReach ts v))∧Below w2.heap.size w2 w'):=fun w2 v hb=>bothReach_any B bt n cap v ts w2 (h.keep (fun k hk=>hb.block k hk)) hn hnb hst
 have HO:Hid (∀ (w2:World),Below w.heap.size w w2→Calls Tryz.prog 128 #[.agg #[.slice (some ⟨bt,0,none⟩) n cap]] w2 fun e w'=>e=.returned (.bool (P.ofOne ts))∧Below w2.heap.size w2 w'):=fun w2 hb=>ofOne_any B bt n cap ts w2 (h.keep (fun k hk=>hb.block k hk)) hn hnb h0
 clear h hn hst
 have b2:∀ o1 o2:Obj,Below w.heap.size w ((w.alloc o1).alloc o2):=fun o1 o2=>((Below.refl _ _).alloc (Nat.le_refl _) _).alloc (by simp) _
 simp only[stmCells]
 cases h4:(st.kind==4)
 ·cases ha:P.isAcc st.kind
  ·have HE:Hid (P.stays ts st=false):=by unfold Hid;simp[P.stays,h4,ha]
   go_enter Tryz.func76,Tryz.ntmps76
   go_wp2_with (first | (go_at_call 79;refine (isAcc_any _ _).mono ?_;rintro e w' ⟨rfl,rfl⟩;rw[ha]))
   go_ret
   exact⟨by rw[HE.out];rfl,b2 _ _⟩
  ·cases hr:P.bothReach ts st.var
   all_goals
    have HE:Hid (P.stays ts st=!P.bothReach ts st.var):=by unfold Hid;simp[P.stays,h4,ha]
    go_enter Tryz.func76,Tryz.ntmps76
    go_wp2_with (first | (go_at_call 79;refine (isAcc_any _ _).mono ?_;rintro e w' ⟨rfl,rfl⟩;rw[ha]) | (go_at_call 129;refine (HB.out _ _ (b2 _ _)).mono ?_;rintro e w3 ⟨rfl,hb3⟩;rw[hr]))
    go_ret
    exact⟨by rw[HE.out,hr];rfl,(b2 _ _).trans (hb3.mono (by simp;omega))⟩
 ·have HE:Hid (P.stays ts st=P.ofOne ts):=by unfold Hid;simp[P.stays,h4]
  go_enter Tryz.func76,Tryz.ntmps76
  go_wp2_with (first | (go_at_call 128;refine (HO.out _ (b2 _ _)).mono ?_;rintro e w3 ⟨rfl,hb3⟩))
  go_ret
  exact⟨by rw[HE.out];rfl,(b2 _ _).trans (hb3.mono (by simp;omega))⟩
namespace P
def bad (v:Int) (s:Bool) (st:Stm):Bool:=reachS v st&&needs st s
def pureG (v:Int) (s:Bool) (ts:List Thr):Bool:=ts.all fun t=>t.stmts.all fun st=>!bad v s st
theorem isPure_eq (ts:List Thr) (v:Int):isPure ts v=pureG v (bothReach ts v) ts:=rfl
end P
set_option maxHeartbeats 6400000 in
theorem isPure_any (B bt n cap:Nat) (v:Int) (ts:List P.Thr) (w:World) (h:ThreadsAt w B (.slice (some ⟨bt,0,none⟩) n cap) ts) (hn:n=ts.length) (hnb:n<10) (hst:∀ t∈ts,t.stmts.length<10000) :
  Calls Tryz.prog 80 #[.agg #[.slice (some ⟨bt,0,none⟩) n cap],.int .i64 v] w fun e w'=>e=.returned (.bool (P.isPure ts v))∧Below w.heap.size w w':=by
 have HB:Hid (∀ (w2:World),Below w.heap.size w w2→Calls Tryz.prog 129 #[.agg #[.slice (some ⟨bt,0,none⟩) n cap],.int .i64 v] w2 fun e w'=>e=.returned (.bool (P.bothReach ts v))∧Below w2.heap.size w2 w'):=fun w2 hb=>bothReach_any B bt n cap v ts w2 (h.keep (fun k hk=>hb.block k hk)) hn hnb hst
 have HA:=hide h
 have HN:=hide hn
 have HS:=hide hst
 clear h hn hst
 rw[P.isPure_eq]
 generalize P.bothReach ts v=s at *
 go_enter Tryz.func80,Tryz.ntmps80
 go_wp2_with (first | (go_at_call 129;refine (HB.out _ ((Below.refl _ _).alloc (Nat.le_refl _) _)).mono ?_;rintro e w0 ⟨rfl,hb0⟩;have hbz:Below w.heap.size w w0:=((Below.refl w.heap.size w).alloc (Nat.le_refl _) _).trans (hb0.mono (by simp));have e0:w0.cell? ⟨w.heap.size,0,none⟩=some (.slice (some ⟨bt,0,none⟩) n cap):=(hb0.cell (p:=⟨w.heap.size,0,none⟩) (by simp)).trans (box_cell w _ _)))
 have HB0:=hide hbz
 go_loopw [16] (fun i wr=>∃ k:Nat,k≤n∧i=.int .i64 k∧Hid (P.pureG v s (ts.drop k)=P.pureG v s ts)∧Below w.heap.size w wr) (fun i _=>n-(intOf i).toNat)
 case atStart=>exact⟨0,Nat.zero_le _,rfl,by unfold Hid;simp,HB0.out⟩
 case round =>
  obtain⟨k,hk,rfl,HR,hbel⟩:=hrel
  by_cases hlt:k<n
  ·have hkl:k<ts.length:=by rw[← HN.out];exact hlt
   obtain⟨hbt,sa,sc,c0,c1,c2,ho⟩:=thr_at HA.out HN.out k hkl
   have d0:=(hbel.cell (p:=⟨bt,k*3,none⟩) hbt).trans c0
   have d1:=(hbel.cell (p:=⟨bt,k*3+1,none⟩) hbt).trans c1
   have d2:=(hbel.cell (p:=⟨bt,k*3+2,none⟩) hbt).trans c2
   have hls:=HS.out ts[k] (List.getElem_mem hkl)
   have HD:=hide (P.drop_cons ts k hkl)
   have HO:=hide ho
   have hws:w.heap.size≤wr.heap.size:=hbel.size
   generalize ts[k]=t at *
   clear c0 c1 c2 ho
   go_wp2
   go_loopw [23] (fun j w2=>∃ q:Nat,q≤t.stmts.length∧j=.int .i64 q∧Hid ((t.stmts.drop q).all (fun st=>!P.bad v s st)=t.stmts.all (fun st=>!P.bad v s st))∧Below w.heap.size w w2) (fun j _=>t.stmts.length-(intOf j).toNat)
   case atStart=>exact⟨0,Nat.zero_le _,rfl,by unfold Hid;simp,hbel.alloc hws _⟩
   case round =>
    obtain⟨q,hq,rfl,HQ,hbel2⟩:=hrel
    by_cases hql:q<t.stmts.length
    ·obtain⟨b,rfl,hblt⟩:=own_slice HO.out (by omega)
     have hr:=hide (rangeAt_keep (range_stm HO.out rfl q hql) (hbel2.block b hblt))
     have HDQ:=hide (P.drop_cons t.stmts q hql)
     generalize t.stmts[q]=st at *
     have hws2:=hbel2.size
     cases hrs:P.reachS v st
     ·go_wp2_with (first | (refine wpList_load_at (.tmp 25) rfl rfl b (q*11) st rfl hr.out ?_) | (go_at_call 131;refine (reaches_any st v _).mono ?_;rintro e w3 ⟨rfl,hb3⟩;rw[hrs]))
      go_roundw
      case rel =>
       refine⟨q+1,by omega,by go_num,?_,(hbel2.alloc hws2 _).trans (hb3.mono (by simp;omega))⟩
       unfold Hid;rw[← HQ.out,HDQ.out];simp[P.bad,hrs]
      case measure=>simp[intOf];omega
     ·cases hnd:P.needs st s
      ·go_wp2_with (first | (refine wpList_load_at (.tmp 25) rfl rfl b (q*11) st rfl hr.out ?_) | (go_at_call 131;refine (reaches_any st v _).mono ?_;rintro e w3 ⟨rfl,hb3⟩;rw[hrs];have GS:=(StmAt.new wr st).below hb3;obtain⟨f1,f2,s0,s1,s2,s3,s4,s5,s6,s7,s8,s9,s10⟩:=GS.facts) | (go_at_call 132;refine (needs_any st s _).mono ?_;rintro e w4 ⟨rfl,hb4⟩;rw[hnd]))
       go_roundw
       case rel =>
        refine⟨q+1,by omega,by go_num,?_,((hbel2.alloc hws2 _).trans (hb3.mono (by simp;omega))).trans (hb4.mono (by have:=hb3.size;simp at this;omega))⟩
        unfold Hid;rw[← HQ.out,HDQ.out];simp[P.bad,hrs,hnd]
       case measure=>simp[intOf];omega
      ·have HE:Hid (P.pureG v s ts=false):=by
        unfold Hid
        rw[← HR.out,HD.out]
        have:=HQ.out
        rw[HDQ.out] at this
        simp only[P.pureG,List.all_cons,← this]
        simp[P.bad,hrs,hnd]
       go_wp2_with (first | (refine wpList_load_at (.tmp 25) rfl rfl b (q*11) st rfl hr.out ?_) | (go_at_call 131;refine (reaches_any st v _).mono ?_;rintro e w3 ⟨rfl,hb3⟩;rw[hrs];have GS:=(StmAt.new wr st).below hb3;obtain⟨f1,f2,s0,s1,s2,s3,s4,s5,s6,s7,s8,s9,s10⟩:=GS.facts) | (go_at_call 132;refine (needs_any st s _).mono ?_;rintro e w4 ⟨rfl,hb4⟩;rw[hnd]))
       go_ret
       exact⟨by rw[HE.out];rfl,((hbel2.alloc hws2 _).trans (hb3.mono (by simp;omega))).trans (hb4.mono (by have:=hb3.size;simp at this;omega))⟩
    ·have hqq:q=t.stmts.length:=by omega
     have HE:Hid (P.pureG v s (ts.drop (k+1))=P.pureG v s ts):=by
      have h1:t.stmts.all (fun st=>!P.bad v s st)=true:=by rw[← HQ.out,hqq,List.drop_length];rfl
      unfold Hid
      rw[← HR.out,HD.out]
      simp only[P.pureG,List.all_cons,h1,Bool.true_and]
     go_wp2
     go_roundw
     case rel=>exact⟨k+1,by omega,by go_num,HE,hbel2⟩
     case measure=>simp[intOf];omega
  ·have HE:Hid (P.pureG v s ts=true):=by
    unfold Hid
    rw[← HR.out,List.drop_eq_nil_of_le (by have:=HN.out;omega)];rfl
   go_wp2
   go_ret
   exact⟨by rw[HE.out];rfl,hbel⟩
end Go.Proofs.YtgceflcbckjjiaaGreatDoor
