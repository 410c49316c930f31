import Derived.Test.YtgceflcbckjjiaaGreatDoorC05
set_option linter.unusedVariables false
set_option linter.unusedSimpArgs false
set_option maxHeartbeats 12800000
namespace Go.Proofs.YtgceflcbckjjiaaGreatDoor
open Go Go.RowKit
set_option maxRecDepth 100000
theorem zDl (b off n cap:Nat) (c:ByteArray) (r:List ByteArray) (w:World) (hw:zAB w b off (c::r)) (hn:r.length=n-1) (hn1:1≤n) (hc:n≤cap) (hblt:b<w.heap.size) :
  Calls Tryz.prog 100 #[.slice (some ⟨b,off,none⟩) n cap] w fun e w'=>e=.returned (zBA (P.zOk ((c::r).map ByteArray.toList)))∧Below w.heap.size w w':=by
 obtain⟨hd,_,_⟩:=hw.head
 have hn0:(c::r).length=n:=by simp;omega
 have hr1:((n:Int)==1)=(r.map ByteArray.toList).isEmpty:=by
  cases r with
  | nil=>simp at hn;simp;omega
  | cons a q=>simp at hn;simp;omega
 have hz:((n:Int)==0)=false:=by simp;omega
 cases h1:c.toList==[115,116,111,114,101]
 rotate_left
 ·have HE:Hid (P.zOk (c.toList::r.map ByteArray.toList)=P.store (c.toList::r.map ByteArray.toList)):=by
   unfold Hid;simp[P.zOk,h1]
  go_enter Tryz.func100,Tryz.ntmps100
  go_wp2_with (first
   | (go_at_call 147;refine (zIQ _ _ _ _ (c::r) _ (by exact hw.alloc _) hn0 hc (by simp;omega)).mono ?_;rintro e w1 ⟨he,hb⟩;rw[zBA] at he;subst he;have hr:=(zAv.new w P.Stm.zero).below hb)
   | (refine zAo (.tmp 2) (.tmp 15) rfl rfl w.heap.size _ _ rfl rfl (by exact hr) ?_;intro w2 hs2 hgr2))
  try simp only[List.map_cons]
  rw[zAD HE]
  refine zAT (p:=2) (u:=3) w.heap.size _ _ (by kernel_rfl) rfl rfl hs2 rfl ⟨rfl,?_⟩
  exact zAu (((Below.refl _ _).alloc (Nat.le_refl _) _).trans (hb.mono (by simp))) hgr2 (Nat.le_refl _)
 cases h2:c.toList==[102,101,110,99,101]
 rotate_left
 ·have HE:Hid (P.zOk (c.toList::r.map ByteArray.toList)=P.fence (c.toList::r.map ByteArray.toList)):=by
   unfold Hid;simp[P.zOk,h1,h2]
  go_enter Tryz.func100,Tryz.ntmps100
  go_wp2_with (first
   | (go_at_call 148;refine (zIP _ _ _ _ c r _ (by exact hw.alloc _) hn hn1 hc).mono ?_;rintro e w1 ⟨he,hb⟩;rw[zBA] at he;subst he;have hr:=(zAv.new w P.Stm.zero).below hb)
   | (refine zAo (.tmp 2) (.tmp 21) rfl rfl w.heap.size _ _ rfl rfl (by exact hr) ?_;intro w2 hs2 hgr2))
  try simp only[List.map_cons]
  rw[zAD HE]
  refine zAT (p:=2) (u:=3) w.heap.size _ _ (by kernel_rfl) rfl rfl hs2 rfl ⟨rfl,?_⟩
  exact zAu (((Below.refl _ _).alloc (Nat.le_refl _) _).trans (hb.mono (by simp))) hgr2 (Nat.le_refl _)
 cases h3:c.toList==[98,97,114,114,105,101,114]
 rotate_left
 ·have HE:Hid (P.zOk (c.toList::r.map ByteArray.toList)=({ P.Stm.zero with kind:=5 },(r.map ByteArray.toList).isEmpty)):=by
   unfold Hid;simp[P.zOk,h1,h2,h3]
  go_enter Tryz.func100,Tryz.ntmps100
  go_wp2_with (first
   | (refine zAo (.tmp 2) (.tmp 25) rfl rfl w.heap.size _ { P.Stm.zero with kind:=5 } rfl rfl (by exact zAv.new w P.Stm.zero) ?_;intro w2 hs2 hgr2))
  try simp only[List.map_cons]
  rw[zAD HE]
  refine zAT (p:=2) (u:=3) w.heap.size { P.Stm.zero with kind:=5 } _ (by kernel_rfl) rfl (by simp) hs2 rfl ⟨rfl,?_⟩
  exact zAu ((Below.refl _ _).alloc (Nat.le_refl _) _) hgr2 (Nat.le_refl _)
 cases h4:c.toList==[105,102]
 rotate_left
 ·have HE:Hid (P.zOk (c.toList::r.map ByteArray.toList)=P.zPT (c.toList::r.map ByteArray.toList)):=by
   unfold Hid;simp[P.zOk,h1,h2,h3,h4]
  go_enter Tryz.func100,Tryz.ntmps100
  go_wp2_with (first
   | (go_at_call 149;refine (zFo _ _ _ _ (c::r) _ (by exact hw.alloc _) hn0).mono ?_;rintro e w1 ⟨he,hb⟩;rw[zBA] at he;subst he;have hr:=(zAv.new w P.Stm.zero).below hb)
   | (refine zAo (.tmp 2) (.tmp 33) rfl rfl w.heap.size _ _ rfl rfl (by exact hr) ?_;intro w2 hs2 hgr2))
  try simp only[List.map_cons]
  rw[zAD HE]
  refine zAT (p:=2) (u:=3) w.heap.size _ _ (by kernel_rfl) rfl rfl hs2 rfl ⟨rfl,?_⟩
  exact zAu (((Below.refl _ _).alloc (Nat.le_refl _) _).trans (hb.mono (by simp))) hgr2 (Nat.le_refl _)
 cases h5:c.toList==[101,110,100]
 rotate_left
 ·have HE:Hid (P.zOk (c.toList::r.map ByteArray.toList)=({ P.Stm.zero with kind:=11 },(r.map ByteArray.toList).isEmpty)):=by
   unfold Hid;simp[P.zOk,h1,h2,h3,h4,h5]
  go_enter Tryz.func100,Tryz.ntmps100
  go_wp2_with (first
   | (refine zAo (.tmp 2) (.tmp 37) rfl rfl w.heap.size _ { P.Stm.zero with kind:=11 } rfl rfl (by exact zAv.new w P.Stm.zero) ?_;intro w2 hs2 hgr2))
  try simp only[List.map_cons]
  rw[zAD HE]
  refine zAT (p:=2) (u:=3) w.heap.size { P.Stm.zero with kind:=11 } _ (by kernel_rfl) rfl (by simp) hs2 rfl ⟨rfl,?_⟩
  exact zAu ((Below.refl _ _).alloc (Nat.le_refl _) _) hgr2 (Nat.le_refl _)
 have HE:Hid (P.zOk (c.toList::r.map ByteArray.toList)=P.zOj (c.toList::r.map ByteArray.toList)):=by
  unfold Hid;simp[P.zOk,h1,h2,h3,h4,h5]
 go_enter Tryz.func100,Tryz.ntmps100
 go_wp2_with (first
  | (go_at_call 150;refine (zEO _ _ _ _ (c::r) _ (by exact hw.alloc _) hn0 hc (by simp;omega)).mono ?_;rintro e w1 ⟨he,hb⟩;rw[zBA] at he;subst he;have hr:=(zAv.new w P.Stm.zero).below hb)
  | (refine zAo (.tmp 2) (.tmp 43) rfl rfl w.heap.size _ _ rfl rfl (by exact hr) ?_;intro w2 hs2 hgr2))
 simp only[List.map_cons]
 rw[zAD HE]
 refine zAT (p:=2) (u:=3) w.heap.size _ _ (by kernel_rfl) rfl rfl hs2 rfl ⟨rfl,?_⟩
 exact zAu (((Below.refl _ _).alloc (Nat.le_refl _) _).trans (hb.mono (by simp))) hgr2 (Nat.le_refl _)
theorem zGd (r:P.Rd) (c:List UInt8) (rs:List (List UInt8)) (h:(c==[116,104,114,101,97,100])=true):P.takes r (c::rs)=P.zPc r (c::rs):=by
 have:c=[116,104,114,101,97,100]:=by simpa using h
 simp[P.takes,this]
theorem RdIn.forms {w:World} {B g:Nat} {r:P.Rd} {tv ov:Value} {vs:List Value} (h:RdIn w B g r tv ov vs):∃ ta tc oa oc,tv=.slice ta r.threads.length tc∧ov=.slice oa r.opn.length oc:=by
 have h1:∃ a c,ov=.slice a r.opn.length c:=by
  rcases h.opn.2 with ⟨e,h0⟩ | ⟨k,c,cur,e,_⟩
  ·exact⟨none,0,by rw[e,h0]⟩
  ·exact⟨_,c,e⟩
 have h2:∃ a c,tv=.slice a r.threads.length c:=by
  rcases h.threads.2 with ⟨e,h0⟩ | ⟨k,c,cur,e,_⟩
  ·exact⟨none,0,by rw[e,h0]⟩
  ·exact⟨_,c,e⟩
 obtain⟨oa,oc,e1⟩:=h1
 obtain⟨ta,tc,e2⟩:=h2
 exact⟨ta,tc,oa,oc,e2,e1⟩
theorem zCk.counted {w:World} {B g:Nat} {r:P.Rd} (h:zCk w B g r) (x:Int):zCk (w.setCell ⟨g,2,none⟩ (.int .i64 x)) B g { r with count:=x }:=by
 obtain⟨tv,ov,vs,h⟩:=h
 exact⟨tv,ov,vs,h.setG { r with count:=x } ov 2 (.int .i64 x) rfl h.opn rfl⟩
theorem zCk.lined {w:World} {B g:Nat} {r:P.Rd} (h:zCk w B g r) (x:Int):zCk w B g { r with line:=x }:=by
 obtain⟨tv,ov,vs,h⟩:=h
 exact⟨tv,ov,vs,⟨h.cells,h.threads,h.opn,h.stmts⟩⟩
theorem zCk.alloc {w:World} {B g:Nat} {r:P.Rd} (h:zCk w B g r) (o:Obj):zCk (w.alloc o) B g r:=h.below ((Below.refl _ _).alloc (Nat.le_refl _) _)
theorem zCk.drew {w:World} {B g:Nat} {r:P.Rd} (h:zCk w B g r):zCk w.drew B g r:=h.below (Below.refl _ _).drew
theorem zGR (B g:Nat) (r:P.Rd) (st:P.Stm) (w:World) (h:zCk w B g r) (hB:B≤w.heap.size) (ho:2≤r.opn.length) :
  Calls Tryz.prog 152 #[.pointer (some ⟨g,0,none⟩),.agg (zAb st)] w fun e w'=>e=.returned (.bool false)∧zCk w' B g r∧BelowX B g w w':=by
 have hA:=zAa h
 obtain⟨tv,ov,vs,h⟩:=h
 obtain⟨ta,tc,oa,oc,rfl,rfl⟩:=h.forms
 obtain⟨glt,gfr,g0,g1,g2,g3,g4⟩:=h.facts
 have ho':(2:Int)≤(r.opn.length:Int):=by omega
 clear h
 go_enter Tryz.func152,Tryz.ntmps152
 go_wp2
 go_ret
 exact⟨rfl,hA.out.alloc _,(BelowX.refl _ _ _).alloc hB _⟩
theorem zIR (r:P.Rd) (st:P.Stm) (h:r.threads=[]):P.putD r st=(r,false):=by simp[P.putD,h]
theorem zJV (r:P.Rd) (st:P.Stm) (h:r.threads≠[]) (hk:(st.kind==11)=true):P.putD r st=P.ends r st:=by simp[P.putD,h,show st.kind=11 by simpa using hk]
theorem zIS (r:P.Rd) (st:P.Stm) (h:r.threads≠[]) (hk:(st.kind==11)=false) (hc:r.most≤r.count):P.putD r st=(r,false):=by
 simp[P.putD,h,show ¬ st.kind=11 by simpa using hk,hc]
theorem zIT (r:P.Rd) (st:P.Stm) (h:r.threads≠[]) (hc:¬ r.most≤r.count) (hb:(st.kind==10)=true) (ho:2≤r.opn.length):P.putD r st=({ r with count:=r.count+1 },false):=by
 simp[P.putD,h,show st.kind=10 by simpa using hb,hc,ho]
theorem zKL (r:P.Rd) (st:P.Stm) (h:r.threads≠[]) (hc:¬ r.most≤r.count) (hb:(st.kind==10)=true) (ho:¬ 2≤r.opn.length):P.putD r st=P.zQf { r with count:=r.count+1 } st:=by
 simp[P.putD,h,show st.kind=10 by simpa using hb,hc,ho]
theorem zJW (r:P.Rd) (st:P.Stm) (h:r.threads≠[]) (hk:(st.kind==11)=false) (hc:¬ r.most≤r.count) (hb:(st.kind==10)=false):P.putD r st=(P.put { r with count:=r.count+1 } st,true):=by
 simp[P.putD,h,show ¬ st.kind=11 by simpa using hk,show ¬ st.kind=10 by simpa using hb,hc]
theorem zDm (B g N:Nat) (r:P.Rd) (st:P.Stm) (w:World) (h:zCk w B g r) (hF:Few N r) (hN:N<10000) (hB:B≤w.heap.size) (ho9:r.opn.length<10) (hi0:0≤r.ifs) (hi1:r.ifs<10000) (hc0:0≤r.count) (hc1:r.count<10000) :
  Calls Tryz.prog 101 #[.pointer (some ⟨g,0,none⟩),.agg (zAb st)] w fun e w'=>e=.returned (.bool (P.putD r st).2)∧zCk w' B g (P.putD r st).1∧BelowX B g w w':=by
 have hA:=zAa (h.alloc (.cells (zAb st) 96))
 have HA2:=zAa (((h.counted (r.count+1)).alloc (.cells (zAb st) 96)).drew)
 obtain⟨tv,ov,vs,h⟩:=h
 obtain⟨ta,tc,oa,oc,rfl,rfl⟩:=h.forms
 obtain⟨glt,gfr,g0,g1,g2,g3,g4⟩:=h.facts
 have hSt:=zAa (zAv.new w st)
 have hBl:BelowX B g w (w.alloc (.cells (zAb st) 96)):=(BelowX.refl _ _ _).alloc hB _
 clear h
 by_cases hne:r.threads=[]
 ·have HE:=zAa (zIR r st hne)
  have hz:((r.threads.length:Int)==0)=true:=by simp[hne]
  clear hne
  simp only[zAb]
  go_enter Tryz.func101,Tryz.ntmps101
  go_wp2
  go_ret
  rw[zAD HE]
  exact⟨rfl,hA.out,hBl⟩
 have hz:((r.threads.length:Int)==0)=false:=by simpa using hne
 cases hk:(st.kind==11)
 rotate_left
 ·have HE:=zAa (zJV r st hne hk)
  simp only[zAb]
  go_enter Tryz.func101,Tryz.ntmps101
  go_wp2_with (first
   | (refine zAs (.tmp 3) rfl rfl w.heap.size st rfl (by exact hSt.out) ?_)
   | (go_at_call 151;refine (zJS B g N r st _ (by exact hA.out) hne hF hN (by simp;omega) ho9).mono ?_;rintro e w2 ⟨rfl,hr1,hb1⟩))
  go_ret
  rw[zAD HE]
  exact⟨rfl,hr1,hBl.trans hb1⟩
 by_cases h8:r.most≤r.count
 ·have HE:=zAa (zIS r st hne hk h8)
  simp only[zAb]
  go_enter Tryz.func101,Tryz.ntmps101
  go_wp2
  go_region
  all_goals go_wp2
  go_ret
  rw[zAD HE]
  exact⟨rfl,hA.out.drew,hBl.drew⟩
 have hSt2:Hid (zAv ((w.setCell ⟨g,2,none⟩ (.int .i64 (r.count+1))).alloc (.cells (zAb st) 96)).drew w.heap.size st):=by
  unfold Hid
  have:=(zAv.new (w.setCell ⟨g,2,none⟩ (.int .i64 (r.count+1))) st).drew
  simpa using this
 have hBl2:BelowX B g w ((w.setCell ⟨g,2,none⟩ (.int .i64 (r.count+1))).alloc (.cells (zAb st) 96)).drew:=(((BelowX.refl _ _ _).setCell _).alloc (by simp;exact hB) _).drew
 cases hbk:(st.kind==10)
 ·have HE:=zAa (zJW r st hne hk h8 hbk)
  simp only[zAb]
  go_enter Tryz.func101,Tryz.ntmps101
  go_wp2
  go_region
  all_goals
   go_wp2_with (first
    | (refine zAs (.tmp 3) rfl rfl w.heap.size st rfl (by exact hSt2.out) ?_)
    | (go_at_call 153;refine (zGQ B g N { r with count:=r.count+1 } st _ (by exact HA2.out) hne hF hN (by simp;omega)).mono ?_;rintro e w2 ⟨rfl,hr1,hb1⟩))
   go_ret
   rw[zAD HE]
   exact⟨rfl,hr1,hBl2.trans (BelowX.of hb1)⟩
 by_cases ho:2≤r.opn.length
 ·have HE:=zAa (zIT r st hne h8 hbk ho)
  simp only[zAb]
  go_enter Tryz.func101,Tryz.ntmps101
  go_wp2
  go_region
  all_goals
   go_wp2_with (first
    | (refine zAs (.tmp 3) rfl rfl w.heap.size st rfl (by exact hSt2.out) ?_)
    | (go_at_call 152;refine (zGR B g { r with count:=r.count+1 } st _ (by exact HA2.out) (by simp;omega) ho).mono ?_;rintro e w2 ⟨rfl,hr1,hb1⟩))
   go_ret
   rw[zAD HE]
   exact⟨rfl,hr1,hBl2.trans hb1⟩
 ·have HE:=zAa (zKL r st hne h8 hbk ho)
  simp only[zAb]
  go_enter Tryz.func101,Tryz.ntmps101
  go_wp2
  go_region
  all_goals
   go_wp2_with (first
    | (refine zAs (.tmp 3) rfl rfl w.heap.size st rfl (by exact hSt2.out) ?_)
    | (go_at_call 152;refine (zHU B g N { r with count:=r.count+1 } st _ (by exact HA2.out) hne hF hN (by simp;omega) (by simp;omega) hi0 hi1).mono ?_;rintro e w2 ⟨rfl,hr1,hb1⟩))
   go_ret
   rw[zAD HE]
   exact⟨rfl,hr1,hBl2.trans hb1⟩
theorem zIU (B g N b off n cap:Nat) (r:P.Rd) (c:ByteArray) (rs:List ByteArray) (w:World) (h:zCk w B g r) (hw:zAB w b off (c::rs)) (hn:rs.length=n-1) (hn1:1≤n) (hnb:n<10000) (hc:n≤cap) (hblt:b<w.heap.size) (hm8:r.most=8)
  (hF:Few N r) (hN:N<10000) (hB:B≤w.heap.size) (ho9:r.opn.length<10) (hi0:0≤r.ifs) (hi1:r.ifs<10000) (hc0:0≤r.count) (hc1:r.count<10000) :
  Calls Tryz.prog 53 #[.pointer (some ⟨g,0,none⟩),.slice (some ⟨b,off,none⟩) n cap,.int .i64 r.line] w fun e w'=>e=.returned (.bool (P.takes r (c.toList::rs.map ByteArray.toList)).2)∧zCk w' B g (P.takes r (c.toList::rs.map ByteArray.toList)).1∧BelowX B g w w':=by
 have hA:=zAa h
 obtain⟨hd,_,_⟩:=hw.head
 have hnp:(0:Int)<(n:Int):=by omega
 have hnp':0<n:=by omega
 cases ht:c.toList==[116,104,114,101,97,100]
 rotate_left
 ·have HE:=zAa (zGd r c.toList (rs.map ByteArray.toList) ht)
  go_enter Tryz.func53,Tryz.ntmps53
  go_wp2_with (first | (go_at_call 99;refine (zHV B g _ _ _ _ r (c::rs) _ hA.out hw (by simp;omega) hnb hB (by have:=hF.1;omega) ho9).mono ?_;rintro e w1 ⟨rfl,hr1,hb1⟩))
  go_ret
  rw[zAD HE]
  exact⟨rfl,hr1,hb1⟩
 have HD:=zAa (P.takes_D r c.toList (rs.map ByteArray.toList) ht hm8)
 clear h
 cases hs:(P.zOk (c.toList::rs.map ByteArray.toList)).2
 ·have HE:Hid (P.takes r (c.toList::rs.map ByteArray.toList)=(r,false)):=by unfold Hid;rw[HD.out,hs];rfl
  clear HD
  go_enter Tryz.func53,Tryz.ntmps53
  go_wp2_with (first | (go_at_call 100;refine (zDl _ _ _ _ c rs _ hw hn hn1 hc hblt).mono ?_;rintro e w1 ⟨he,hb⟩;simp only[zBA,zAb,List.map_cons] at he;subst he))
  go_ret
  rw[zAD HE]
  exact⟨rfl,(hA.out.below hb).alloc _,BelowX.of ((hb.mono hB).alloc (by have:=hb.size;omega) _)⟩
 ·have HE:Hid (P.takes r (c.toList::rs.map ByteArray.toList)=P.putD r { (P.zOk (c.toList::rs.map ByteArray.toList)).1 with line:=r.line }):=by unfold Hid;rw[HD.out,hs];rfl
  clear HD
  go_enter Tryz.func53,Tryz.ntmps53
  go_wp2_with (first | (go_at_call 100;refine (zDl _ _ _ _ c rs _ hw hn hn1 hc hblt).mono ?_;rintro e w1 ⟨he,hb⟩;simp only[zBA,zAb,List.map_cons] at he;subst he) | (go_at_call 101;refine (zDm B g N r { (P.zOk (c.toList::rs.map ByteArray.toList)).1 with line:=r.line } _ (by exact (hA.out.below hb).alloc (.cells (zAb { (P.zOk (c.toList::rs.map ByteArray.toList)).1 with line:=r.line }) 96)) hF hN (by have:=hb.size;simp;omega) ho9 hi0 hi1 hc0 hc1).mono ?_;rintro e w2 ⟨rfl,hr1,hb1⟩))
  go_ret
  rw[zAD HE]
  exact⟨rfl,hr1,(BelowX.of ((hb.mono hB).alloc (by have:=hb.size;omega) _)).trans hb1⟩
def zAn (w:World) (B:Nat) (tv:Value) (ts:List P.Thr):Prop:=∃ vs,w.ownsRow B 88 3 tv ts.length (zAH ts vs)∧zAM w B ts vs
theorem zAn.keep {w w':World} {B:Nat} {tv:Value} {ts:List P.Thr} (h:zAn w B tv ts) (hb:∀ k,k<w.heap.size→w'.heap[k]?=w.heap[k]?):zAn w' B tv ts:=by
 obtain⟨vs,h1,h2⟩:=h
 exact⟨vs,zAc h1 (fun k e=>hb k (h1.lt k e).2),h2.keep (fun v hv k e=>by obtain⟨n,xs,ho⟩:=h2.mem v hv;exact hb k (ho.lt k e).2)⟩
theorem zAn.nil (w:World) (B:Nat):zAn w B (.slice none 0 0) []:=⟨[],World.ownsRow_nil _ _ _ _,trivial⟩
theorem P.splitAt_le (c:UInt8) (l:List UInt8):∀ x∈P.zOd c l,x.length≤l.length:=by
 induction l with
 | nil=>intro x hx;simp[P.zOd] at hx;simp[hx]
 | cons y r ih =>
  intro x hx
  by_cases hy:y=c
  ·subst hy
   rw[P.splitAt_cons_eq] at hx
   rcases List.mem_cons.1 hx with rfl | hx
   ·simp
   ·have:=ih x hx;simp;omega
  ·cases hs:P.zOd c r with
   | nil=>exact absurd hs (P.zPH _ _)
   | cons a b =>
    rw[P.splitAt_cons_ne c y r hy a b hs] at hx
    rcases List.mem_cons.1 hx with rfl | hx
    ·have:=ih a (by rw[hs];simp);simp;omega
    ·have:=ih x (by rw[hs];simp[hx]);simp;omega
theorem P.takes_count (r:P.Rd) (ws:List (List UInt8)) (h0:0≤r.count):(P.takes r ws).1.count≤r.count+1:=by
 unfold P.takes
 split
 ·unfold P.zPc
  split
  ·(simp<;>omega)
  ·split
   ·split
    ·(simp<;>omega)
    ·(simp<;>omega)
   ·(simp<;>omega)
 ·split
  ·(simp<;>omega)
  ·simp only[]
   split
   ·split
    ·unfold P.ends
     split
     ·(simp<;>omega)
     ·(simp[P.put]<;>omega)
    ·split
     ·(simp<;>omega)
     ·split
      ·split
       ·(simp<;>omega)
       ·unfold P.zQf
        split
        ·(simp<;>omega)
        ·(simp[P.put]<;>omega)
      ·(simp[P.put]<;>omega)
   ·(simp<;>omega)
structure LoopAt (rows:List ByteArray) (k:Nat) (r:P.Rd):Prop where
 run:P.zQn P.Rd.zero ((rows.take k).map ByteArray.toList)=(r,true)
 good:P.Good k r
 lin:r.line=k
 most:r.most=8
 cn:r.count≤k
theorem zCa (rows:List ByteArray) (k:Nat) (hk:k<rows.length):(rows.take (k+1)).map ByteArray.toList=(rows.take k).map ByteArray.toList++[rows[k].toList]:=by
 rw[List.take_succ_eq_append_getElem hk,List.map_append,List.map_cons,List.map_nil]
theorem zHW (rows:List ByteArray):LoopAt rows 0 P.Rd.zero:=⟨by simp[P.zQn],P.good_zero,rfl,rfl,by simp[P.Rd.zero]⟩
theorem zIV {rows:List ByteArray} {k:Nat} {r:P.Rd} (h:LoopAt rows k r) (hk:k<rows.length) (ht:(P.takes { r with line:=r.line+1 } (P.zOd 32 rows[k].toList)).2=true) :
  LoopAt rows (k+1) (P.takes { r with line:=r.line+1 } (P.zOd 32 rows[k].toList)).1:=by
 have hkp:=P.zQg { r with line:=r.line+1 } (P.zOd 32 rows[k].toList) h.most
 refine⟨?_,P.good_takes _ h.good (by have:=h.lin;omega),?_,hkp.2,?_⟩
 ·rw[zCa rows k hk,P.zPx _ _ _ _ h.run,← ht]
 ·rw[hkp.1];have:=h.lin;simp;omega
 ·have:=P.takes_count { r with line:=r.line+1 } (P.zOd 32 rows[k].toList) h.good.cnt
  have h2:=h.cn
  simp at this ⊢;omega
theorem zIW {s:ByteArray} {rows:List ByteArray} {last:ByteArray} {k:Nat} {r:P.Rd} (hc:rows.map ByteArray.toList++[last.toList]=P.zOd 10 s.toList) (h:LoopAt rows k r) (hk:k<rows.length) (ht:(P.takes { r with line:=r.line+1 } (P.zOd 32 rows[k].toList)).2=false) :
  P.lines s.toList=([],(k:Int)+1):=by
 have hkp:=P.zQg { r with line:=r.line+1 } (P.zOd 32 rows[k].toList) h.most
 have hrun:P.zQn P.Rd.zero ((rows.take (k+1)).map ByteArray.toList)=P.takes { r with line:=r.line+1 } (P.zOd 32 rows[k].toList):=by
  rw[zCa rows k hk,P.zPx _ _ _ _ h.run]
 have hd:(P.zOd 10 s.toList).dropLast=(rows.take (k+1)).map ByteArray.toList++(rows.drop (k+1)).map ByteArray.toList:=by
  rw[← hc,List.dropLast_concat,← List.map_append,List.take_append_drop]
 have:=P.runLines_more _ P.Rd.zero ((rows.drop (k+1)).map ByteArray.toList) (by rw[hrun];exact ht)
 unfold P.lines
 simp only[hd,this,hrun,ht]
 simp only[Bool.false_eq_true,if_false]
 rw[hkp.1,h.lin]
theorem zJX {s:ByteArray} {rows:List ByteArray} {last:ByteArray} {r:P.Rd} (hc:rows.map ByteArray.toList++[last.toList]=P.zOd 10 s.toList) (h:LoopAt rows rows.length r) :
  P.lines s.toList=if last.toList.isEmpty=false∨r.threads.length=0∨0<r.opn.length then ([],(rows.length:Int)+1) else (r.threads,0):=by
 have hrun:=h.run
 rw[List.take_length] at hrun
 have e1:last.toList=[] ↔ last.toList.isEmpty=true:=by rw[List.isEmpty_iff]
 unfold P.lines
 simp only[← hc,List.dropLast_concat,hrun,List.getLast?_concat,if_true,h.lin]
 congr 1
 simp only[ne_eq,Option.some.injEq,e1,eq_iff_iff]
 simp[List.length_pos_iff,or_comm]
theorem zCn {fn:Func} {R:Ending→World→Prop} {a:Act} {w:World} {p u:Tmp} (g:Nat) (tv uv:Value) (hres:fn.results=#[.cell p 48,.tmp u])
  (hp:a.tmps.getD p undef=.pointer (some ⟨g,0,none⟩)) (hu:a.tmps.getD u undef=uv) (h:w.heap[g]?=some (.cells #[tv] 48 (0,0))) (hd:a.defers=[]) (hR:R (.returned (.tuple #[.agg #[tv],uv])) w):bodyPost Tryz.prog fn R .ret a w:=by
 refine bodyPost_ret (v:=.tuple #[.agg #[tv],uv]) ?_ hd hR
 rw[results_cell_tmp hres,hp,hu]
 have:(asAddr (.pointer (some ⟨g,0,none⟩))).run Tryz.prog w=.ok ⟨g,0,none⟩ w:=rfl
 rw[this,Result.andThen_ok,zBc w g _ _ _ h _ Tryz.underlying48 rfl (by kernel_rfl),Result.andThen_ok]
theorem zBV {w:World} {B B':Nat} {e:TypeId} {sz:Nat} {v:Value} {n:Nat} {xs:List Value} (h:w.ownsRow B e sz v n xs) (hb:B'≤B):w.ownsRow B' e sz v n xs:=by
 refine⟨h.1,?_⟩
 rcases h.2 with hn | ⟨g,cap,cur,rfl,hb',rest⟩
 ·exact .inl hn
 ·exact .inr ⟨g,cap,cur,rfl,by omega,rest⟩
theorem zAM.base {w:World} {B B':Nat} (hb:B'≤B):∀ {ts:List P.Thr} {vs:List Value},zAM w B ts vs→zAM w B' ts vs
 | [],[],_=>trivial
 | _::_,_::_,h=>⟨zBV h.1 hb,h.2.1,zAM.base hb h.2.2⟩
theorem zES {w w':World} {B g p:Nat} {r:P.Rd} {tv ov:Value} {vs:List Value} (h:RdIn w B g r tv ov vs) (hb:Below w.heap.size w w') (hp:p<B) (u:Value):zAn (w'.setCell ⟨p,0,none⟩ u) p tv r.threads:=by
 refine⟨vs,zBV (zAc h.threads (fun k hk=>?_)) (by omega),(h.stmts.keep (fun v hv k hk=>?_)).base (by omega)⟩
 ·have:=(h.threads.lt k hk)
  rw[Below.heap_setCell _ _ _ _ (by simp;omega),hb.block k this.2]
 ·obtain⟨n,xs,ho⟩:=h.stmts.mem v hv
  have:=(ho.lt k hk)
  rw[Below.heap_setCell _ _ _ _ (by simp;omega),hb.block k this.2]
theorem zGS (s:ByteArray) (w:World) (hs:s.size≤8192) :
  Calls Tryz.prog 52 #[.string s,.string ⟨#[32]⟩] w fun e w'=>∃ g cap n c rs,e=.returned (.slice (some ⟨g,0,none⟩) n cap)∧Hid (c.toList::rs.map ByteArray.toList=P.zOd 32 s.toList)∧zAB w' g 0 (c::rs)∧rs.length=n-1∧1≤n∧n<10000∧n≤cap∧g<w'.heap.size∧Below w.heap.size w w':=by
 refine (zFX 32 s w hs).mono ?_
 rintro e w' ⟨g,cap,ws,rfl,hws,hown,hb⟩
 obtain⟨h1,h2,h3⟩:=zEl hown
 have hl:=P.zPr 32 s.toList
 rw[← hws,List.length_map,zAr] at hl
 cases ws with
 | nil=>exact absurd hws.symm (P.zPH _ _)
 | cons c rs=>exact⟨g,cap,_,c,rs,rfl,by simpa [Hid] using hws,h1,by simp,by simp,by omega,h2,h3,hb⟩
theorem zAz {w:World} {g:Nat} {v:Value} {t:TypeId} (h:w.heap[g]?=some (.cells #[v] t (0,0))):w.cell? ⟨g,0,none⟩=some v∧w.frozen? ⟨g,0,none⟩=false∧g<w.heap.size:=by
 refine⟨?_,?_,(Array.getElem?_eq_some_iff.1 h).1⟩<;>simp[World.cell?,World.frozen?,h]
theorem zDP (s:ByteArray) (m k:Nat):(s.extract m k).size≤s.size:=by
 simp[ByteArray.size_extract];omega
theorem zDn (s:ByteArray) (w:World) (hs:s.size≤8192) :
  Calls Tryz.prog 51 #[.string s] w fun e w'=>∃ g cap,∃ (rows:List ByteArray) (last:ByteArray),e=.returned (.tuple #[.slice (some ⟨g,0,none⟩) rows.length cap,.bool last.toList.isEmpty])∧Hid (rows.map ByteArray.toList++[last.toList]=P.zOd 10 s.toList)∧zAB w' g 0 rows∧rows.length≤8192∧rows.length≤cap∧g<w'.heap.size∧w.heap.size≤g∧(∀ x∈rows,x.size≤8192)∧Below w.heap.size w w':=by
 go_enter Tryz.func51,Tryz.ntmps51
 go_wp2_with fail
 refine (zFX 10 s _ hs).mono ?_
 rintro e w1 ⟨g,cap,ws,rfl,hws,hown,hb⟩
 obtain⟨h1,h2,h3⟩:=zEl hown
 have h0:w.heap.size≤g:=(hown.lt g rfl).1
 have hl:=P.zPr 10 s.toList
 rw[← hws,List.length_map,zAr] at hl
 have hne:ws≠[]:=by intro e;rw[e] at hws;exact P.zPH _ _ hws.symm
 obtain⟨rows,last,rfl⟩:=zDF ws hne
 have HW:Hid (rows.map ByteArray.toList++[last.toList]=P.zOd 10 s.toList):=by unfold Hid;rw[← hws];simp
 have hr1:zAB w1 g 0 rows:=fun i x hx=>h1 i x (by rw[List.getElem?_append_left (List.getElem?_eq_some_iff.1 hx).1];exact hx)
 have hcl:w1.cell? ⟨g,rows.length,none⟩=some (.string last):=by
  have:=h1 rows.length last (by simp)
  simpa using this
 have hsz:∀ x∈rows,x.size≤8192:=fun x hx=>by
  have hm:x.toList∈P.zOd 10 s.toList:=by rw[← HW.out];simp;left;exact⟨x,hx,rfl⟩
  have:=P.splitAt_le 10 s.toList x.toList hm
  rw[zAr,zAr] at this
  omega
 have HZ:=zAa hsz
 have HR1:=zAa hr1
 simp only[List.length_append,List.length_cons,List.length_nil,Nat.zero_add] at hl h2
 have hn0:¬ ((rows.length:Int)<0):=by omega
 have hlen:(rows++[last]).length=rows.length+1:=by simp
 clear hws hown h1 hr1 hsz hne
 simp only[hlen]
 go_wp2
 go_region
 all_goals go_wp2
 go_ret2
 refine⟨g,cap,rows,last,?_,HW,?_,by omega,by omega,h3,h0,HZ.out,hb.drew⟩
 ·first | rfl | simp
 ·exact HR1.out.drew
theorem zMe (B:Nat) (w:World):zCk (w.alloc (.cells #[.slice none 0 0,.int .i64 8,.int .i64 0,.int .i64 0,.slice none 0 0] 106)) B w.heap.size P.Rd.zero:=by
 refine⟨.slice none 0 0,.slice none 0 0,[],?_,World.ownsRow_nil _ _ _ _,World.ownsRow_nil _ _ _ _,trivial⟩
 have:=heap_alloc_new w (.cells #[.slice none 0 0,.int .i64 8,.int .i64 0,.int .i64 0,.slice none 0 0] 106)
 simpa [P.Rd.zero] using this
theorem zGe (m:Int) (w:World) :
  Calls Tryz.prog 50 #[.int .i64 m] w fun e w'=>e=.returned (.agg #[.slice none 0 0,.int .i64 m,.int .i64 0,.int .i64 0,.slice none 0 0])∧Below w.heap.size w w':=by
 go_enter Tryz.func50,Tryz.ntmps50
 go_wp2
 refine bodyPost_ret (v:=.agg #[.slice none 0 0,.int .i64 m,.int .i64 0,.int .i64 0,.slice none 0 0]) ?_ rfl ⟨rfl,(Below.refl _ _).alloc (Nat.le_refl _) _⟩
 simp[results,Tryz.results50,go_sem]
theorem zDo (B g:Nat) (r:P.Rd) (w:World) (h:zCk w B g r) (ht5:r.threads.length<6) (ho9:r.opn.length<10) :
  Calls Tryz.prog 54 #[.pointer (some ⟨g,0,none⟩)] w fun e w'=>e=.returned (.bool (decide (0<r.threads.length)&&decide (r.opn.length=0)))∧w'=w:=by
 obtain⟨tv,ov,vs,h⟩:=h
 obtain⟨ta,tc,oa,oc,rfl,rfl⟩:=h.forms
 obtain⟨glt,gfr,g0,g1,g2,g3,g4⟩:=h.facts
 clear h
 by_cases h1:0<r.threads.length
 ·have h1':(0:Int)<(r.threads.length:Int):=by omega
  cases h2:((r.opn.length:Int)==0)
  all_goals
   have h3:=h2
   simp at h3
   go_enter Tryz.func54,Tryz.ntmps54
   go_wp2
   go_ret
   refine⟨?_,rfl⟩
   simp[h1,h3]
 ·have h1':¬ (0:Int)<(r.threads.length:Int):=by omega
  have h1d:decide ((0:Int)<(r.threads.length:Int))=false:=decide_eq_false h1'
  have h1e:decide (0<r.threads.length)=false:=decide_eq_false h1
  go_enter Tryz.func54,Tryz.ntmps54
  go_wp2
  go_ret
  refine⟨?_,rfl⟩
  simp[h1e]
theorem zEo (B g:Nat) (r:P.Rd) (tv ov:Value) (vs:List Value) (w:World) (h:RdIn w B g r tv ov vs) :
  Calls Tryz.prog 55 #[.pointer (some ⟨g,0,none⟩)] w fun e w'=>e=.returned (.agg #[tv])∧Below w.heap.size w w':=by
 obtain⟨ta,tc,oa,oc,rfl,rfl⟩:=h.forms
 obtain⟨glt,gfr,g0,g1,g2,g3,g4⟩:=h.facts
 clear h
 go_enter Tryz.func55,Tryz.ntmps55
 go_wp2
 refine bodyPost_ret (v:=.agg #[.slice ta r.threads.length tc]) ?_ rfl ⟨rfl,(Below.refl _ _).alloc (Nat.le_refl _) _⟩
 simp[results,Tryz.results55,go_sem]
theorem zCT (s:ByteArray) (w:World) (hs:s.size≤8192) :
  Calls Tryz.prog 30 #[.string s] w fun e w'=>∃ tv,e=.returned (.tuple #[.agg #[tv],.int .i64 (P.lines s.toList).2])∧zAn w' w.heap.size tv (P.lines s.toList).1∧Below w.heap.size w w':=by
 go_enter Tryz.func30,Tryz.ntmps30
 go_wp2_with fail
 refine (zGe 8 _).mono ?_
 rintro e w0 ⟨rfl,hb0⟩
 have hB0:w.heap.size+1≤w0.heap.size:=by have:=hb0.size;simpa using this
 have hblk:w0.heap[w.heap.size]?=some (.cells #[.slice none 0 0] 48 (0,0)):=by
  rw[hb0.block _ (by simp)]
  exact heap_alloc_new w _
 obtain⟨z0,z1,z2⟩:=zAz hblk
 have HB0:=zAa hblk
 have HBel0:Hid (Below w.heap.size w w0):=((Below.refl _ _).alloc (Nat.le_refl _) _).trans (hb0.mono (by simp))
 clear hblk hb0
 go_wp2_with fail
 refine (zDn s _ hs).mono ?_
 rintro e w1 ⟨gl,cl,rows,last,rfl,HW,hrw,hrl,hrc,hgl,hgl0,hrz,hb1⟩
 have hd1:=zAa ((zMe w1.heap.size w0).below hb1)
 have hblk1:w1.heap[w.heap.size]?=some (.cells #[.slice none 0 0] 48 (0,0)):=by
  rw[hb1.block _ (by simp;omega),Below.heap_alloc _ _ _ (by omega)]
  exact HB0.out
 have HB1:=zAa hblk1
 have HBel1:Hid (Below w.heap.size w w1):=(HBel0.out.alloc (by omega) _).trans (hb1.mono (by simp;omega))
 have hB1:w0.heap.size+1≤w1.heap.size:=by have:=hb1.size;simpa using this
 have HRW:=zAa hrw
 have HRZ:=zAa hrz
 clear hblk1 hb1 z0 z1 z2 hrw hrz
 go_wp2
 go_loopw [19] (fun i wr=>∃ k:Nat,∃ r:P.Rd,k≤rows.length∧i=.int .i64 k∧Hid (LoopAt rows k r)∧Hid (zCk wr w1.heap.size w0.heap.size r)∧Hid (zAB wr gl 0 rows) ∧
   Hid (wr.heap[w.heap.size]?=some (.cells #[.slice none 0 0] 48 (0,0)))∧w1.heap.size≤wr.heap.size∧Below w.heap.size w wr) (fun i _=>rows.length-(intOf i).toNat)
 case atStart=>exact⟨0,P.Rd.zero,Nat.zero_le _,rfl,zHW _,hd1,HRW,HB1,Nat.le_refl _,HBel1.out⟩
 case round =>
  obtain⟨k,r,hk,rfl,HL,HR,HWW,HB,hwl,hbel⟩:=hrel
  have hgd:=HL.out.good
  have hlin:=HL.out.lin
  have hm8:=HL.out.most
  have hcn:=HL.out.cn
  by_cases hlt:k<rows.length
  ·have hrk:rows[k]?=some rows[k]:=List.getElem?_eq_getElem hlt
   have hck:=HWW.out k rows[k] hrk
   simp only[Nat.zero_add] at hck
   have hzk:=HRZ.out rows[k] (List.getElem_mem hlt)
   have hgr:gl<wr.heap.size:=by omega
   have hkl:(k:Int)<(rows.length:Int):=by omega
   have HSt:=zAa (fun h=>zIV HL.out hlt h)
   have HFl:=zAa (fun h=>zIW HW.out HL.out hlt h)
   generalize rows[k]=row at *
   have HM:=zAa hm8
   have HLin:=zAa hlin
   clear hrk hm8 hlin
   cases ht:(P.takes { r with line:=r.line+1 } (P.zOd 32 row.toList)).2
   all_goals
    go_wp2_with fail
    refine (zGS _ _ hzk).mono ?_
    rintro e w2 ⟨gw,cw,n,c,rs,rfl,HWs,hwa,hn,hn1,hnb,hcap,hgw,hb2⟩
    have hr2:=zAa ((HR.out.below hb2).lined ((k:Int)+1))
    have hB2:w1.heap.size≤w2.heap.size:=by have:=hb2.size;omega
    have HW2:=zAa (HWW.out.below hb2)
    have hblk2:Hid (w2.heap[w.heap.size]?=some (.cells #[.slice none 0 0] 48 (0,0))):=(hb2.block _ (by omega)).trans HB.out
    have HBel2:Hid (Below w.heap.size w w2):=hbel.trans (hb2.mono (by omega))
    clear hb2 hbel hck
    go_wp2_with fail
    refine (zIU w1.heap.size w0.heap.size k gw 0 n cw { r with line:=(k:Int)+1 } c rs _ hr2.out hwa hn hn1 hnb hcap hgw HM.out ⟨hgd.few,hgd.stm⟩ (by omega) hB2 (by have:=hgd.opn;simp;omega) hgd.ifs0 (by have:=hgd.ifs1;simp;omega) hgd.cnt (by simp;omega)).mono ?_
    rintro e w3 ⟨he,hr3,hb3⟩
    rw[HWs.out] at he hr3
    have eL:({ r with line:=(k:Int)+1 }:P.Rd)={ r with line:=r.line+1 }:=by rw[HLin.out]
    rw[eL] at he hr3
    rw[ht] at he
    subst he
    have hblk3:w3.heap[w.heap.size]?=some (.cells #[.slice none 0 0] 48 (0,0)):=(hb3.block _ (by omega) (by omega)).trans hblk2.out
    obtain⟨z0,z1,z2⟩:=zAz hblk3
    have HB3:=zAa hblk3
    have HBel3:Hid (Below w.heap.size w w3):=HBel2.out.trans (hb3.below (by omega) (by omega))
    have HW3:Hid (zAB w3 gl 0 rows):=HW2.out.kept (fun _=>hb3.block gl hgl (by simp at hgl0;omega))
    have hs3:=hb3.size
    have HR3:=zAa hr3
    clear hblk3 hb3 hr3 eL
    go_wp2
   ·rw[HFl.out ht]
    refine zCn (p:=2) (u:=3) w.heap.size (.slice none 0 0) _ (by kernel_rfl) rfl rfl (by exact zAe HB3.out 0 _) rfl ⟨_,rfl,zAn.nil _ _,?_⟩
    exact (HBel3.out).setCell (Nat.le_refl _) _
   ·go_roundw
    case rel=>exact⟨k+1,_,by omega,by go_num,HSt.out ht,HR3,HW3,HB3,by omega,HBel3.out⟩
    case measure=>simp[intOf];omega
  ·have hkn:k=rows.length:=by omega
   subst hkn
   have HE:=zAa (zJX HW.out HL.out)
   have ht5:r.threads.length<6:=by have:=hgd.few;omega
   have ho9:r.opn.length<10:=by have:=hgd.opn;omega
   obtain⟨z0,z1,z2⟩:=zAz HB.out
   have hll:¬ ((rows.length:Int)<(rows.length:Int)):=by omega
   clear hm8 hlin hgd
   cases he:last.toList.isEmpty
   ·go_wp2
    rw[zAD HE,if_pos (Or.inl he)]
    refine zCn (p:=2) (u:=3) w.heap.size (.slice none 0 0) _ (by kernel_rfl) rfl rfl (by exact zAe HB.out 0 _) rfl ⟨_,rfl,zAn.nil _ _,?_⟩
    exact hbel.setCell (Nat.le_refl _) _
   cases hw:(decide (0<r.threads.length)&&decide (r.opn.length=0))
   ·have hor:last.toList.isEmpty=false∨r.threads.length=0∨0<r.opn.length:=by
     have hw':=hw
     rw[Bool.and_eq_false_iff,decide_eq_false_iff_not,decide_eq_false_iff_not] at hw'
     omega
    have HOR:=zAa hor
    clear hor
    go_wp2_with (first | (go_at_call 54;refine (zDo _ _ r _ HR.out ht5 ho9).mono ?_;rintro e w' ⟨rfl,rfl⟩;rw[hw]))
    rw[zAD HE,if_pos HOR.out]
    refine zCn (p:=2) (u:=3) w.heap.size (.slice none 0 0) _ (by kernel_rfl) rfl rfl (by exact zAe HB.out 0 _) rfl ⟨_,rfl,zAn.nil _ _,?_⟩
    exact hbel.setCell (Nat.le_refl _) _
   ·have hno:¬ (last.toList.isEmpty=false∨r.threads.length=0∨0<r.opn.length):=by
     have hw':=hw
     rw[Bool.and_eq_true,decide_eq_true_eq,decide_eq_true_eq] at hw'
     rintro (h | h | h)
     ·rw[he] at h;cases h
     ·omega
     ·omega
    have HNO:=zAa hno
    clear hno
    obtain⟨tv,ov,vs,hri⟩:=HR.out
    obtain⟨ta,tc,oa,oc,rfl,rfl⟩:=hri.forms
    have HRI:=zAa hri
    clear hri
    go_wp2_with (first | (go_at_call 54;refine (zDo _ _ r _ HR.out ht5 ho9).mono ?_;rintro e w' ⟨rfl,rfl⟩;rw[hw]) | (go_at_call 55;refine (zEo _ _ r _ _ vs _ HRI.out).mono ?_;rintro e w4 ⟨rfl,hb4⟩;have hblk4:=(hb4.block _ (by omega)).trans HB.out;obtain⟨y0,y1,y2⟩:=zAz hblk4;have HB4:=zAa hblk4;clear hblk4))
    rw[zAD HE,if_neg HNO.out]
    refine zCn (p:=2) (u:=3) w.heap.size _ _ (by kernel_rfl) rfl rfl (by exact zAe HB4.out 0 _) rfl ⟨_,rfl,zES HRI.out hb4 (by omega) _,(hbel.trans (hb4.mono (by omega))).setCell (Nat.le_refl _) _⟩
end Go.Proofs.YtgceflcbckjjiaaGreatDoor
