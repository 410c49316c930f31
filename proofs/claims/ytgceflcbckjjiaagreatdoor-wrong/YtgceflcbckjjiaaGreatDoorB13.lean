import Derived.Test.YtgceflcbckjjiaaGreatDoorB12
import Derived.Test.YtgceflcbckjjiaaGreatDoorB08
set_option linter.unusedVariables false
set_option linter.unusedSimpArgs false
namespace Go.Proofs.YtgceflcbckjjiaaGreatDoor
open Go Go.RowKit
set_option maxRecDepth 100000
set_option maxHeartbeats 1600000 in
theorem statement_any (b off n cap:Nat) (c:ByteArray) (r:List ByteArray) (w:World) (hw:WordsAt w b off (c::r)) (hn:r.length=n-1) (hn1:1≤n) (hc:n≤cap) (hblt:b<w.heap.size) :
  Calls Tryz.prog 100 #[.slice (some ⟨b,off,none⟩) n cap] w fun e w'=>e=.returned (stmVal (P.statement ((c::r).map ByteArray.toList)))∧Below w.heap.size w w':=by
 obtain⟨hd,_,_⟩:=hw.head
 have hn0:(c::r).length=n:=by simp;omega
 have hr1:((n:Int)==1)=(r.map ByteArray.toList).isEmpty:=by
  cases r with
  | nil=>simp at hn;simp;omega
  | cons a q=>simp at hn;simp;omega
 have hz:((n:Int)==0)=false:=by simp;omega
 cases h1:c.toList==[115,116,111,114,101]
 rotate_left
 ·have HE:Hid (P.statement (c.toList::r.map ByteArray.toList)=P.store (c.toList::r.map ByteArray.toList)):=by
   unfold Hid;simp[P.statement,h1]
  go_enter Tryz.func100,Tryz.ntmps100
  go_wp2_with (first
   | (go_at_call 147;refine (store_any _ _ _ _ (c::r) _ (by exact hw.alloc _) hn0 hc (by simp;omega)).mono ?_;rintro e w1 ⟨he,hb⟩;rw[stmVal] at he;subst he;have hr:=(StmAt.new w P.Stm.zero).below hb)
   | (refine wpList_store_stm (.tmp 2) (.tmp 15) rfl rfl w.heap.size _ _ rfl rfl (by exact hr) ?_;intro w2 hs2 hgr2))
  try simp only[List.map_cons]
  rw[unhide HE]
  refine ret_stm (p:=2) (u:=3) w.heap.size _ _ (by kernel_rfl) rfl rfl hs2 rfl ⟨rfl,?_⟩
  exact below_of_new (((Below.refl _ _).alloc (Nat.le_refl _) _).trans (hb.mono (by simp))) hgr2 (Nat.le_refl _)
 cases h2:c.toList==[102,101,110,99,101]
 rotate_left
 ·have HE:Hid (P.statement (c.toList::r.map ByteArray.toList)=P.fence (c.toList::r.map ByteArray.toList)):=by
   unfold Hid;simp[P.statement,h1,h2]
  go_enter Tryz.func100,Tryz.ntmps100
  go_wp2_with (first
   | (go_at_call 148;refine (fence_any _ _ _ _ c r _ (by exact hw.alloc _) hn hn1 hc).mono ?_;rintro e w1 ⟨he,hb⟩;rw[stmVal] at he;subst he;have hr:=(StmAt.new w P.Stm.zero).below hb)
   | (refine wpList_store_stm (.tmp 2) (.tmp 21) rfl rfl w.heap.size _ _ rfl rfl (by exact hr) ?_;intro w2 hs2 hgr2))
  try simp only[List.map_cons]
  rw[unhide HE]
  refine ret_stm (p:=2) (u:=3) w.heap.size _ _ (by kernel_rfl) rfl rfl hs2 rfl ⟨rfl,?_⟩
  exact below_of_new (((Below.refl _ _).alloc (Nat.le_refl _) _).trans (hb.mono (by simp))) hgr2 (Nat.le_refl _)
 cases h3:c.toList==[98,97,114,114,105,101,114]
 rotate_left
 ·have HE:Hid (P.statement (c.toList::r.map ByteArray.toList)=({ P.Stm.zero with kind:=5 },(r.map ByteArray.toList).isEmpty)):=by
   unfold Hid;simp[P.statement,h1,h2,h3]
  go_enter Tryz.func100,Tryz.ntmps100
  go_wp2_with (first
   | (refine wpList_store_stm (.tmp 2) (.tmp 25) rfl rfl w.heap.size _ { P.Stm.zero with kind:=5 } rfl rfl (by exact StmAt.new w P.Stm.zero) ?_;intro w2 hs2 hgr2))
  try simp only[List.map_cons]
  rw[unhide HE]
  refine ret_stm (p:=2) (u:=3) w.heap.size { P.Stm.zero with kind:=5 } _ (by kernel_rfl) rfl (by simp) hs2 rfl ⟨rfl,?_⟩
  exact below_of_new ((Below.refl _ _).alloc (Nat.le_refl _) _) hgr2 (Nat.le_refl _)
 cases h4:c.toList==[105,102]
 rotate_left
 ·have HE:Hid (P.statement (c.toList::r.map ByteArray.toList)=P.condition (c.toList::r.map ByteArray.toList)):=by
   unfold Hid;simp[P.statement,h1,h2,h3,h4]
  go_enter Tryz.func100,Tryz.ntmps100
  go_wp2_with (first
   | (go_at_call 149;refine (condition_any _ _ _ _ (c::r) _ (by exact hw.alloc _) hn0).mono ?_;rintro e w1 ⟨he,hb⟩;rw[stmVal] at he;subst he;have hr:=(StmAt.new w P.Stm.zero).below hb)
   | (refine wpList_store_stm (.tmp 2) (.tmp 33) rfl rfl w.heap.size _ _ rfl rfl (by exact hr) ?_;intro w2 hs2 hgr2))
  try simp only[List.map_cons]
  rw[unhide HE]
  refine ret_stm (p:=2) (u:=3) w.heap.size _ _ (by kernel_rfl) rfl rfl hs2 rfl ⟨rfl,?_⟩
  exact below_of_new (((Below.refl _ _).alloc (Nat.le_refl _) _).trans (hb.mono (by simp))) hgr2 (Nat.le_refl _)
 cases h5:c.toList==[101,110,100]
 rotate_left
 ·have HE:Hid (P.statement (c.toList::r.map ByteArray.toList)=({ P.Stm.zero with kind:=11 },(r.map ByteArray.toList).isEmpty)):=by
   unfold Hid;simp[P.statement,h1,h2,h3,h4,h5]
  go_enter Tryz.func100,Tryz.ntmps100
  go_wp2_with (first
   | (refine wpList_store_stm (.tmp 2) (.tmp 37) rfl rfl w.heap.size _ { P.Stm.zero with kind:=11 } rfl rfl (by exact StmAt.new w P.Stm.zero) ?_;intro w2 hs2 hgr2))
  try simp only[List.map_cons]
  rw[unhide HE]
  refine ret_stm (p:=2) (u:=3) w.heap.size { P.Stm.zero with kind:=11 } _ (by kernel_rfl) rfl (by simp) hs2 rfl ⟨rfl,?_⟩
  exact below_of_new ((Below.refl _ _).alloc (Nat.le_refl _) _) hgr2 (Nat.le_refl _)
 have HE:Hid (P.statement (c.toList::r.map ByteArray.toList)=P.assignment (c.toList::r.map ByteArray.toList)):=by
  unfold Hid;simp[P.statement,h1,h2,h3,h4,h5]
 go_enter Tryz.func100,Tryz.ntmps100
 go_wp2_with (first
  | (go_at_call 150;refine (assignment_any _ _ _ _ (c::r) _ (by exact hw.alloc _) hn0 hc (by simp;omega)).mono ?_;rintro e w1 ⟨he,hb⟩;rw[stmVal] at he;subst he;have hr:=(StmAt.new w P.Stm.zero).below hb)
  | (refine wpList_store_stm (.tmp 2) (.tmp 43) rfl rfl w.heap.size _ _ rfl rfl (by exact hr) ?_;intro w2 hs2 hgr2))
 simp only[List.map_cons]
 rw[unhide HE]
 refine ret_stm (p:=2) (u:=3) w.heap.size _ _ (by kernel_rfl) rfl rfl hs2 rfl ⟨rfl,?_⟩
 exact below_of_new (((Below.refl _ _).alloc (Nat.le_refl _) _).trans (hb.mono (by simp))) hgr2 (Nat.le_refl _)
theorem takes_thread (r:P.Rd) (c:List UInt8) (rs:List (List UInt8)) (h:(c==[116,104,114,101,97,100])=true):P.takes r (c::rs)=P.begins r (c::rs):=by
 have:c=[116,104,114,101,97,100]:=by simpa using h
 simp[P.takes,this]
theorem RdIn.forms {w:World} {B g:Nat} {r:P.Rd} {tv ov:Value} {vs:List Value} (h:RdIn w B g r tv ov vs):∃ ta tc oa oc,tv=.slice ta r.threads.length tc∧ov=.slice oa r.opn.length oc:=by
 have h1:∃ a c,ov=.slice a r.opn.length c:=by
  rcases h.opn.2 with ⟨e,h0⟩ | ⟨k,c,cur,e,_⟩
  ·exact⟨none,0,by rw[e,h0]⟩
  ·exact⟨_,c,e⟩
 have h2:∃ a c,tv=.slice a r.threads.length c:=by
  rcases h.threads.2 with ⟨e,h0⟩ | ⟨k,c,cur,e,_⟩
  ·exact⟨none,0,by rw[e,h0]⟩
  ·exact⟨_,c,e⟩
 obtain⟨oa,oc,e1⟩:=h1
 obtain⟨ta,tc,e2⟩:=h2
 exact⟨ta,tc,oa,oc,e2,e1⟩
theorem RdAt.counted {w:World} {B g:Nat} {r:P.Rd} (h:RdAt w B g r) (x:Int):RdAt (w.setCell ⟨g,2,none⟩ (.int .i64 x)) B g { r with count:=x }:=by
 obtain⟨tv,ov,vs,h⟩:=h
 exact⟨tv,ov,vs,h.setG { r with count:=x } ov 2 (.int .i64 x) rfl h.opn rfl⟩
theorem RdAt.lined {w:World} {B g:Nat} {r:P.Rd} (h:RdAt w B g r) (x:Int):RdAt w B g { r with line:=x }:=by
 obtain⟨tv,ov,vs,h⟩:=h
 exact⟨tv,ov,vs,⟨h.cells,h.threads,h.opn,h.stmts⟩⟩
theorem RdAt.alloc {w:World} {B g:Nat} {r:P.Rd} (h:RdAt w B g r) (o:Obj):RdAt (w.alloc o) B g r:=h.below ((Below.refl _ _).alloc (Nat.le_refl _) _)
theorem RdAt.drew {w:World} {B g:Nat} {r:P.Rd} (h:RdAt w B g r):RdAt w.drew B g r:=h.below (Below.refl _ _).drew
theorem branch_deep (B g:Nat) (r:P.Rd) (st:P.Stm) (w:World) (h:RdAt w B g r) (hB:B≤w.heap.size) (ho:2≤r.opn.length) :
  Calls Tryz.prog 152 #[.pointer (some ⟨g,0,none⟩),.agg (stmCells st)] w fun e w'=>e=.returned (.bool false)∧RdAt w' B g r∧BelowX B g w w':=by
 have hA:=hide h
 obtain⟨tv,ov,vs,h⟩:=h
 obtain⟨ta,tc,oa,oc,rfl,rfl⟩:=h.forms
 obtain⟨glt,gfr,g0,g1,g2,g3,g4⟩:=h.facts
 have ho':(2:Int)≤(r.opn.length:Int):=by omega
 clear h
 go_enter Tryz.func152,Tryz.ntmps152
 go_wp2
 go_ret
 exact⟨rfl,hA.out.alloc _,(BelowX.refl _ _ _).alloc hB _⟩
theorem putD_none (r:P.Rd) (st:P.Stm) (h:r.threads=[]):P.putD r st=(r,false):=by simp[P.putD,h]
theorem putD_end (r:P.Rd) (st:P.Stm) (h:r.threads≠[]) (hk:(st.kind==11)=true):P.putD r st=P.ends r st:=by simp[P.putD,h,show st.kind=11 by simpa using hk]
theorem putD_many (r:P.Rd) (st:P.Stm) (h:r.threads≠[]) (hk:(st.kind==11)=false) (hc:r.most≤r.count):P.putD r st=(r,false):=by
 simp[P.putD,h,show ¬ st.kind=11 by simpa using hk,hc]
theorem putD_deep (r:P.Rd) (st:P.Stm) (h:r.threads≠[]) (hc:¬ r.most≤r.count) (hb:(st.kind==10)=true) (ho:2≤r.opn.length):P.putD r st=({ r with count:=r.count+1 },false):=by
 simp[P.putD,h,show st.kind=10 by simpa using hb,hc,ho]
theorem putD_if (r:P.Rd) (st:P.Stm) (h:r.threads≠[]) (hc:¬ r.most≤r.count) (hb:(st.kind==10)=true) (ho:¬ 2≤r.opn.length):P.putD r st=P.branch { r with count:=r.count+1 } st:=by
 simp[P.putD,h,show st.kind=10 by simpa using hb,hc,ho]
theorem putD_put (r:P.Rd) (st:P.Stm) (h:r.threads≠[]) (hk:(st.kind==11)=false) (hc:¬ r.most≤r.count) (hb:(st.kind==10)=false):P.putD r st=(P.put { r with count:=r.count+1 } st,true):=by
 simp[P.putD,h,show ¬ st.kind=11 by simpa using hk,show ¬ st.kind=10 by simpa using hb,hc]
set_option maxHeartbeats 3200000 in
theorem putD_any (B g N:Nat) (r:P.Rd) (st:P.Stm) (w:World) (h:RdAt w B g r) (hF:Few N r) (hN:N<10000) (hB:B≤w.heap.size) (ho9:r.opn.length<10) (hi0:0≤r.ifs) (hi1:r.ifs<10000) (hc0:0≤r.count) (hc1:r.count<10000) :
  Calls Tryz.prog 101 #[.pointer (some ⟨g,0,none⟩),.agg (stmCells st)] w fun e w'=>e=.returned (.bool (P.putD r st).2)∧RdAt w' B g (P.putD r st).1∧BelowX B g w w':=by
 have hA:=hide (h.alloc (.cells (stmCells st) 96))
 have HA2:=hide (((h.counted (r.count+1)).alloc (.cells (stmCells st) 96)).drew)
 obtain⟨tv,ov,vs,h⟩:=h
 obtain⟨ta,tc,oa,oc,rfl,rfl⟩:=h.forms
 obtain⟨glt,gfr,g0,g1,g2,g3,g4⟩:=h.facts
 have hSt:=hide (StmAt.new w st)
 have hBl:BelowX B g w (w.alloc (.cells (stmCells st) 96)):=(BelowX.refl _ _ _).alloc hB _
 clear h
 by_cases hne:r.threads=[]
 ·have HE:=hide (putD_none r st hne)
  have hz:((r.threads.length:Int)==0)=true:=by simp[hne]
  clear hne
  simp only[stmCells]
  go_enter Tryz.func101,Tryz.ntmps101
  go_wp2
  go_ret
  rw[unhide HE]
  exact⟨rfl,hA.out,hBl⟩
 have hz:((r.threads.length:Int)==0)=false:=by simpa using hne
 cases hk:(st.kind==11)
 rotate_left
 ·have HE:=hide (putD_end r st hne hk)
  simp only[stmCells]
  go_enter Tryz.func101,Tryz.ntmps101
  go_wp2_with (first
   | (refine wpList_load_stm (.tmp 3) rfl rfl w.heap.size st rfl (by exact hSt.out) ?_)
   | (go_at_call 151;refine (ends_any B g N r st _ (by exact hA.out) hne hF hN (by simp;omega) ho9).mono ?_;rintro e w2 ⟨rfl,hr1,hb1⟩))
  go_ret
  rw[unhide HE]
  exact⟨rfl,hr1,hBl.trans hb1⟩
 by_cases h8:r.most≤r.count
 ·have HE:=hide (putD_many r st hne hk h8)
  simp only[stmCells]
  go_enter Tryz.func101,Tryz.ntmps101
  go_wp2
  go_region
  all_goals go_wp2
  go_ret
  rw[unhide HE]
  exact⟨rfl,hA.out.drew,hBl.drew⟩
 have hSt2:Hid (StmAt ((w.setCell ⟨g,2,none⟩ (.int .i64 (r.count+1))).alloc (.cells (stmCells st) 96)).drew w.heap.size st):=by
  unfold Hid
  have:=(StmAt.new (w.setCell ⟨g,2,none⟩ (.int .i64 (r.count+1))) st).drew
  simpa using this
 have hBl2:BelowX B g w ((w.setCell ⟨g,2,none⟩ (.int .i64 (r.count+1))).alloc (.cells (stmCells st) 96)).drew:=(((BelowX.refl _ _ _).setCell _).alloc (by simp;exact hB) _).drew
 cases hbk:(st.kind==10)
 ·have HE:=hide (putD_put r st hne hk h8 hbk)
  simp only[stmCells]
  go_enter Tryz.func101,Tryz.ntmps101
  go_wp2
  go_region
  all_goals
   go_wp2_with (first
    | (refine wpList_load_stm (.tmp 3) rfl rfl w.heap.size st rfl (by exact hSt2.out) ?_)
    | (go_at_call 153;refine (put_any B g N { r with count:=r.count+1 } st _ (by exact HA2.out) hne hF hN (by simp;omega)).mono ?_;rintro e w2 ⟨rfl,hr1,hb1⟩))
   go_ret
   rw[unhide HE]
   exact⟨rfl,hr1,hBl2.trans (BelowX.of hb1)⟩
 by_cases ho:2≤r.opn.length
 ·have HE:=hide (putD_deep r st hne h8 hbk ho)
  simp only[stmCells]
  go_enter Tryz.func101,Tryz.ntmps101
  go_wp2
  go_region
  all_goals
   go_wp2_with (first
    | (refine wpList_load_stm (.tmp 3) rfl rfl w.heap.size st rfl (by exact hSt2.out) ?_)
    | (go_at_call 152;refine (branch_deep B g { r with count:=r.count+1 } st _ (by exact HA2.out) (by simp;omega) ho).mono ?_;rintro e w2 ⟨rfl,hr1,hb1⟩))
   go_ret
   rw[unhide HE]
   exact⟨rfl,hr1,hBl2.trans hb1⟩
 ·have HE:=hide (putD_if r st hne h8 hbk ho)
  simp only[stmCells]
  go_enter Tryz.func101,Tryz.ntmps101
  go_wp2
  go_region
  all_goals
   go_wp2_with (first
    | (refine wpList_load_stm (.tmp 3) rfl rfl w.heap.size st rfl (by exact hSt2.out) ?_)
    | (go_at_call 152;refine (branch_any B g N { r with count:=r.count+1 } st _ (by exact HA2.out) hne hF hN (by simp;omega) (by simp;omega) hi0 hi1).mono ?_;rintro e w2 ⟨rfl,hr1,hb1⟩))
   go_ret
   rw[unhide HE]
   exact⟨rfl,hr1,hBl2.trans hb1⟩
end Go.Proofs.YtgceflcbckjjiaaGreatDoor
