import Derived.Deep.Draws
import Derived.BigQuiet
import Derived.Deep.QuietTactic
import Derived.Test.YtgceflcbckjjiaaGreatDoorB34
set_option linter.unusedVariables false
set_option linter.unusedSimpArgs false
namespace Go.Proofs.YtgceflcbckjjiaaGreatDoor
open Go Go.RowKit
set_option maxRecDepth 100000
theorem own_slice {w:World} {B:Nat} {sa:Option Addr} {sc n:Nat} {xs:List Value} {e:TypeId} {sz:Nat} (h:w.ownsRow B e sz (.slice sa n sc) n xs):0<n→∃ b,sa=some ⟨b,0,none⟩∧b<w.heap.size:=fun h0=>by
 rcases h.2 with ⟨e,h0'⟩ | ⟨b',c',cur,e,hb',hg',_⟩
 ·omega
 ·simp only[Value.slice.injEq] at e
  exact⟨b',e.1,(Array.getElem?_eq_some_iff.1 hg').1⟩
set_option maxHeartbeats 3200000 in
theorem blockReaches_any (B bt n cap:Nat) (bl v:Int) (ts:List P.Thr) (w:World) (h:ThreadsAt w B (.slice (some ⟨bt,0,none⟩) n cap) ts) (hn:n=ts.length) (hnb:n<10) (hst:∀ t∈ts,t.stmts.length<10000) :
  Calls Tryz.prog 163 #[.agg #[.slice (some ⟨bt,0,none⟩) n cap],.int .i64 bl,.int .i64 v] w fun e w'=>e=.returned (.bool (P.blockReaches ts bl v))∧Below w.heap.size w w':=by
 have HA:=hide h
 have HN:=hide hn
 have HS:=hide hst
 clear h hn hst
 go_enter Tryz.func163,Tryz.ntmps163
 go_wp2
 go_loopw [14] (fun i wr=>∃ k:Nat,k≤n∧i=.int .i64 k∧Hid (P.blockReaches (ts.drop k) bl v=P.blockReaches ts bl v)∧Below w.heap.size w wr) (fun i _=>n-(intOf i).toNat)
 case atStart=>exact⟨0,Nat.zero_le _,rfl,by unfold Hid;simp,(Below.refl _ _).alloc (Nat.le_refl _) _⟩
 case round =>
  obtain⟨k,hk,rfl,HR,hbel⟩:=hrel
  by_cases hlt:k<n
  ·have hkl:k<ts.length:=by rw[← HN.out];exact hlt
   obtain⟨hbt,sa,sc,c0,c1,c2,ho⟩:=thr_at HA.out HN.out k hkl
   have d0:=(hbel.cell (p:=⟨bt,k*3,none⟩) hbt).trans c0
   have d1:=(hbel.cell (p:=⟨bt,k*3+1,none⟩) hbt).trans c1
   have d2:=(hbel.cell (p:=⟨bt,k*3+2,none⟩) hbt).trans c2
   have hls:=HS.out ts[k] (List.getElem_mem hkl)
   have HD:=hide (P.drop_cons ts k hkl)
   have HO:=hide ho
   have hws:w.heap.size≤wr.heap.size:=hbel.size
   generalize ts[k]=t at *
   clear c0 c1 c2 ho
   by_cases hb:t.block=bl
   ·have nb:(t.block != bl)=false:=by simp[hb]
    go_wp2
    go_loopw [25] (fun j w2=>∃ q:Nat,q≤t.stmts.length∧j=.int .i64 q∧Hid ((t.stmts.drop q).any (P.reachS v)=t.stmts.any (P.reachS v))∧Below w.heap.size w w2) (fun j _=>t.stmts.length-(intOf j).toNat)
    case atStart=>exact⟨0,Nat.zero_le _,rfl,by unfold Hid;simp,hbel.alloc hws _⟩
    case round =>
     obtain⟨q,hq,rfl,HQ,hbel2⟩:=hrel
     by_cases hql:q<t.stmts.length
     ·obtain⟨b,rfl,hblt⟩:=own_slice HO.out (by omega)
      have hr:=hide (rangeAt_keep (range_stm HO.out rfl q hql) (hbel2.block b hblt))
      have HDQ:=hide (P.drop_cons t.stmts q hql)
      generalize t.stmts[q]=st at *
      have hws2:=hbel2.size
      cases hrs:P.reachS v st
      ·go_wp2_with (first | (refine wpList_load_at (.tmp 27) rfl rfl b (q*11) st rfl hr.out ?_) | (go_at_call 131;refine (reaches_any st v _).mono ?_;rintro e w3 ⟨rfl,hb3⟩;rw[hrs]))
       go_roundw
       case rel =>
        refine⟨q+1,by omega,by go_num,?_,(hbel2.alloc hws2 _).trans (hb3.mono (by simp;omega))⟩
        have:=HQ.out
        unfold Hid;rw[← this,HDQ.out];simp[hrs]
       case measure=>simp[intOf];omega
      ·have HE:Hid (P.blockReaches ts bl v=true):=by
        unfold Hid
        rw[← HR.out,HD.out]
        have:=HQ.out
        rw[HDQ.out] at this
        simp[P.blockReaches,hb,← this,hrs]
       go_wp2_with (first | (refine wpList_load_at (.tmp 27) rfl rfl b (q*11) st rfl hr.out ?_) | (go_at_call 131;refine (reaches_any st v _).mono ?_;rintro e w3 ⟨rfl,hb3⟩;rw[hrs]))
       go_ret
       exact⟨by rw[HE.out];rfl,(hbel2.alloc hws2 _).trans (hb3.mono (by simp;omega))⟩
     ·have hqq:q=t.stmts.length:=by omega
      have HE:Hid (P.blockReaches (ts.drop (k+1)) bl v=P.blockReaches ts bl v):=by
       have h1:t.stmts.any (P.reachS v)=false:=by rw[← HQ.out,hqq,List.drop_length];rfl
       unfold Hid
       rw[← HR.out,HD.out]
       simp only[P.blockReaches,List.any_cons,h1,Bool.and_false,Bool.false_or]
      go_wp2
      go_roundw
      case rel=>exact⟨k+1,by omega,by go_num,HE,hbel2⟩
      case measure=>simp[intOf];omega
   ·have nb:(t.block != bl)=true:=by simp[hb]
    have HE:Hid (P.blockReaches (ts.drop (k+1)) bl v=P.blockReaches ts bl v):=by
     unfold Hid
     rw[← HR.out,HD.out]
     simp[P.blockReaches,hb]
    go_wp2
    go_roundw
    case rel=>exact⟨k+1,by omega,by go_num,HE,hbel.alloc hws _⟩
    case measure=>simp[intOf];omega
  ·have HE:Hid (P.blockReaches ts bl v=false):=by
    unfold Hid
    rw[← HR.out,List.drop_eq_nil_of_le (by have:=HN.out;omega)];rfl
   go_wp2
   go_ret
   exact⟨by rw[HE.out];rfl,hbel⟩
end Go.Proofs.YtgceflcbckjjiaaGreatDoor
namespace Go.Proofs.YtgceflcbckjjiaaGreatDoor
open Go Go.RowKit
theorem below_drewN {B:Nat} {a w:World} (h:Below B a w) (n:Nat):Below B a (w.drewN n):=⟨h.os,h.tape,h.output,h.size,h.block⟩
end Go.Proofs.YtgceflcbckjjiaaGreatDoor
namespace Go.Proofs.YtgceflcbckjjiaaGreatDoor
open Go Go.RowKit
set_option maxRecDepth 100000
set_option maxHeartbeats 3200000 in
theorem bothReach_any (B bt n cap:Nat) (v:Int) (ts:List P.Thr) (w:World) (h:ThreadsAt w B (.slice (some ⟨bt,0,none⟩) n cap) ts) (hn:n=ts.length) (hnb:n<10) (hst:∀ t∈ts,t.stmts.length<10000) :
  Calls Tryz.prog 129 #[.agg #[.slice (some ⟨bt,0,none⟩) n cap],.int .i64 v] w fun e w'=>e=.returned (.bool (P.bothReach ts v))∧Below w.heap.size w w':=by
 have HC:Hid (∀ (w2:World) (bl:Int),Below w.heap.size w w2→Calls Tryz.prog 163 #[.agg #[.slice (some ⟨bt,0,none⟩) n cap],.int .i64 bl,.int .i64 v] w2 fun e w'=>e=.returned (.bool (P.blockReaches ts bl v))∧Below w2.heap.size w2 w'):=fun w2 bl hb=>blockReaches_any B bt n cap bl v ts w2 (h.keep (fun k hk=>hb.block k hk)) hn hnb hst
 clear h hn hst
 go_enter Tryz.func129,Tryz.ntmps129
 go_wp2
 go_loopw [5] (fun i wr=>∃ k:Nat,k≤2∧i=.int .i64 k∧Hid ((0<k→P.blockReaches ts 0 v=true)∧(1<k→P.blockReaches ts 1 v=true))∧Below w.heap.size w wr∧wr.heap[w.heap.size]?=some (.cells #[.slice (some ⟨bt,0,none⟩) n cap] 48 (0,0))) (fun i _=>2-(intOf i).toNat)
 case atStart=>exact⟨0,by omega,rfl,⟨fun h=>by omega,fun h=>by omega⟩,(Below.refl _ _).alloc (Nat.le_refl _) _,heap_alloc_new w _⟩
 case round =>
  obtain⟨k,hk,rfl,HR,hbel,hbox⟩:=hrel
  have e0:wr.cell? ⟨w.heap.size,0,none⟩=some (.slice (some ⟨bt,0,none⟩) n cap):=by simp[World.cell?,hbox]
  have hwlt:w.heap.size<wr.heap.size:=(Array.getElem?_eq_some_iff.1 hbox).1
  have hk3:k=0∨k=1∨k=2:=by omega
  have hws:=hbel.size
  rcases hk3 with rfl | rfl | rfl
  ·cases h0:P.blockReaches ts 0 v
   ·have HE:Hid (P.bothReach ts v=false):=by unfold Hid;simp[P.bothReach,h0]
    go_wp2_with (first | (go_at_call 163;refine (HC.out _ 0 hbel).mono ?_;rintro e w3 ⟨rfl,hb3⟩;rw[h0]))
    go_ret
    exact⟨by rw[HE.out];rfl,hbel.trans (hb3.mono hws)⟩
   ·go_wp2_with (first | (go_at_call 163;refine (HC.out _ 0 hbel).mono ?_;rintro e w3 ⟨rfl,hb3⟩;rw[h0]))
    go_roundw
    case rel=>exact⟨1,by omega,by go_num,⟨fun _=>by first | trivial | exact h0,fun h=>by omega⟩,hbel.trans (hb3.mono hws),by rw[hb3.block _ hwlt];exact hbox⟩
    case measure=>simp[intOf]
  ·cases h1:P.blockReaches ts 1 v
   ·have HE:Hid (P.bothReach ts v=false):=by unfold Hid;simp[P.bothReach,h1]
    go_wp2_with (first | (go_at_call 163;refine (HC.out _ 1 hbel).mono ?_;rintro e w3 ⟨rfl,hb3⟩;rw[h1]))
    go_ret
    exact⟨by rw[HE.out];rfl,hbel.trans (hb3.mono hws)⟩
   ·have HE:Hid (P.blockReaches ts 0 v=true):=HR.out.1 (by omega)
    go_wp2_with (first | (go_at_call 163;refine (HC.out _ 1 hbel).mono ?_;rintro e w3 ⟨rfl,hb3⟩;rw[h1]))
    go_roundw
    case rel=>exact⟨2,by omega,by go_num,⟨fun _=>by first | trivial | exact HE.out,fun _=>by first | trivial | exact h1⟩,hbel.trans (hb3.mono hws),by rw[hb3.block _ hwlt];exact hbox⟩
    case measure=>simp[intOf]
  ·have HE:Hid (P.bothReach ts v=true):=by unfold Hid;simp[P.bothReach,HR.out.1 (by omega),HR.out.2 (by omega)]
   go_wp2
   go_ret
   exact⟨by rw[HE.out];rfl,hbel⟩
set_option maxHeartbeats 3200000 in
theorem ofOne_any (B bt n cap:Nat) (ts:List P.Thr) (w:World) (h:ThreadsAt w B (.slice (some ⟨bt,0,none⟩) n cap) ts) (hn:n=ts.length) (hnb:n<10) (h0:0<n) :
  Calls Tryz.prog 128 #[.agg #[.slice (some ⟨bt,0,none⟩) n cap]] w fun e w'=>e=.returned (.bool (P.ofOne ts))∧Below w.heap.size w w':=by
 obtain⟨u,us,rfl⟩:∃ u us,ts=u::us:=by
  cases ts with
  | nil=>simp at hn;omega
  | cons u us=>exact⟨u,us,rfl⟩
 obtain⟨hbt0,sa0,sc0,z0,z1,z2,ho0⟩:=thr_at h hn 0 (by simp)
 have Z0:Hid (w.cell? ⟨bt,0,none⟩=some (.int .i64 u.block)):=by unfold Hid;simpa using z0
 clear z0 z1 z2 ho0
 have HA:=hide h
 have HN:=hide hn
 have HU:Hid (P.ofOne (u::us)=(u::us).all (fun t=>t.block==u.block)):=rfl
 clear h hn
 generalize hts:u::us=ts at *
 go_enter Tryz.func128,Tryz.ntmps128
 go_wp2
 go_loopw [8] (fun i wr=>∃ k:Nat,k≤n∧i=.int .i64 k∧Hid ((ts.drop k).all (fun t=>t.block==u.block)=ts.all (fun t=>t.block==u.block))∧Below w.heap.size w wr∧wr.heap[w.heap.size]?=some (.cells #[.slice (some ⟨bt,0,none⟩) n cap] 48 (0,0))) (fun i _=>n-(intOf i).toNat)
 case atStart=>exact⟨0,Nat.zero_le _,rfl,by unfold Hid;simp,(Below.refl _ _).alloc (Nat.le_refl _) _,heap_alloc_new w _⟩
 case round =>
  obtain⟨k,hk,rfl,HR,hbel,hbox⟩:=hrel
  have e0:wr.cell? ⟨w.heap.size,0,none⟩=some (.slice (some ⟨bt,0,none⟩) n cap):=by simp[World.cell?,hbox]
  have hwlt:w.heap.size<wr.heap.size:=(Array.getElem?_eq_some_iff.1 hbox).1
  by_cases hlt:k<n
  ·have hkl:k<ts.length:=by rw[← HN.out];exact hlt
   obtain⟨hbt,sa,sc,c0,c1,c2,ho⟩:=thr_at HA.out HN.out k hkl
   have d0:=(hbel.cell (p:=⟨bt,k*3,none⟩) hbt).trans c0
   have d1:=(hbel.cell (p:=⟨bt,k*3+1,none⟩) hbt).trans c1
   have d2:=(hbel.cell (p:=⟨bt,k*3+2,none⟩) hbt).trans c2
   have f0:=(hbel.cell (p:=⟨bt,0,none⟩) hbt).trans Z0.out
   have hbtr:bt<wr.heap.size:=by have:=hbel.size;omega
   have HD:=hide (P.drop_cons ts k hkl)
   generalize hgt:ts[k]=t at *
   clear c0 c1 c2 ho hgt
   by_cases hb:t.block=u.block
   ·have nb:(t.block != u.block)=false:=by simp[hb]
    go_wp2_with fail
    go_quiet (fail)
    go_wp2_with fail
    go_roundw
    case rel =>
     refine⟨k+1,by omega,by go_num,?_,below_drewN (hbel.alloc (by omega) _) _,?_⟩
     ·unfold Hid;rw[← HR.out,HD.out];simp[hb]
     ·exact (Below.heap_alloc _ _ _ hwlt).trans hbox
    case measure=>simp[intOf];omega
   ·have nb:(t.block != u.block)=true:=by simp[hb]
    have HE:Hid (P.ofOne ts=false):=by
     unfold Hid
     rw[HU.out,← HR.out,HD.out];simp[hb]
    go_wp2_with fail
    go_quiet (fail)
    go_wp2_with fail
    go_ret
    exact⟨by rw[HE.out];rfl,below_drewN (hbel.alloc (by omega) _) _⟩
  ·have HE:Hid (P.ofOne ts=true):=by
    unfold Hid
    rw[HU.out,← HR.out,List.drop_eq_nil_of_le (by have:=HN.out;omega)];rfl
   go_wp2
   go_ret
   exact⟨by rw[HE.out];rfl,hbel⟩
end Go.Proofs.YtgceflcbckjjiaaGreatDoor
