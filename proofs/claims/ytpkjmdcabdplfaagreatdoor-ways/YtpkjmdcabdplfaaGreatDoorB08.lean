import Derived.Test.YtpkjmdcabdplfaaGreatDoorB07
set_option linter.unusedVariables false
set_option linter.unusedSimpArgs false
namespace Go.Proofs.YtpkjmdcabdplfaaGreatDoor
open Go Go.RowKit
theorem readBody_flat:flatC (bodyOf Tryz.f7)=[(stmOf (bodyOf Tryz.f7) 0),(stmOf (bodyOf Tryz.f7) 1),(stmOf (bodyOf Tryz.f7) 2),(stmOf (bodyOf Tryz.f7) 3)]:=by kernel_rfl
theorem readStm_two:(stmOf (bodyOf Tryz.f7) 2)=Code.block 1 (inOf (stmOf (bodyOf Tryz.f7) 2)):=by kernel_rfl
theorem readIn_flat:flatC (inOf (stmOf (bodyOf Tryz.f7) 2))=[(stmOf (inOf (stmOf (bodyOf Tryz.f7) 2)) 0),(stmOf (inOf (stmOf (bodyOf Tryz.f7) 2)) 1),(stmOf (inOf (stmOf (bodyOf Tryz.f7) 2)) 2),(stmOf (inOf (stmOf (bodyOf Tryz.f7) 2)) 3),(stmOf (inOf (stmOf (bodyOf Tryz.f7) 2)) 4),(stmOf (inOf (stmOf (bodyOf Tryz.f7) 2)) 5),(stmOf (inOf (stmOf (bodyOf Tryz.f7) 2)) 6),(stmOf (inOf (stmOf (bodyOf Tryz.f7) 2)) 7),(stmOf (inOf (stmOf (bodyOf Tryz.f7) 2)) 8),(stmOf (inOf (stmOf (bodyOf Tryz.f7) 2)) 9),(stmOf (inOf (stmOf (bodyOf Tryz.f7) 2)) 10),(stmOf (inOf (stmOf (bodyOf Tryz.f7) 2)) 11)]:=by kernel_rfl
namespace R
theorem run_cons (st:St) (k:Int) (x:List UInt8) (xs:List (List UInt8)) (c:ByteArray) (r:List ByteArray) (h:c.toList::r.map ByteArray.toList=P.splitAt 32 x) :
  run st k (x::xs)=match step st (k+1) c r with
   | none=>(none,k+1)
   | some s'=>run s' (k+1) xs:=by
 have e:(P.splitAt 32 x).map mkB=c::r:=by
  rw[← h,List.map_cons,List.map_map,mkB_eta]
  congr 1
  conv=>rhs;rw[← List.map_id r]
  refine List.map_congr_left (fun b _=>?_)
  simp[mkB_eta]
 simp only[run,e]
 cases step st (k+1) c r<;>rfl
theorem addLast_ne (ts:List Th) (x:Tree) (h:ts≠[]):addLast ts x≠[]:=by
 obtain⟨us,t,rfl⟩:=snoc_of ts h
 rw[addLast_snoc];simp
theorem put_ne (s:St) (x:Tree) (h:s.ts≠[]):(put s x).ts≠[]:=by
 unfold put
 split
 ·exact addLast_ne _ _ h
 ·exact h
theorem step_ne {s s':St} {i:Int} {c:ByteArray} {w:List ByteArray} (h:step s i c w=some s'):s'.ts≠[]:=by
 unfold step at h
 split at h
 ·unfold begins at h
  split at h
  ·split at h
   ·simp at h;rw[← h];simp
   ·simp at h
  ·simp at h
 ·split at h
  ·simp at h
  ·rename_i hne
   have hts:s.ts≠[]:=by intro e;simp[e] at hne
   split at h
   ·unfold ends at h
    split at h
    ·simp at h
    ·split at h
     ·simp at h;rw[← h];exact put_ne _ _ hts
     ·simp at h
   ·split at h
    ·unfold branch at h
     split at h
     ·split at h
      ·simp at h;rw[← h];exact hts
      ·simp at h
     ·simp at h
    ·unfold one at h
     split at h
     ·simp at h;rw[← h];exact put_ne _ _ hts
     ·simp at h
theorem put_inner (s:St) (x:Tree):(put s x).inner=s.inner:=by unfold put;split<;>rfl
theorem step_inner {s s':St} {i:Int} {c:ByteArray} {w:List ByteArray} (hi:0≤i) (h0:0≤s.inner) (h1:s.inner≤i) (h:step s i c w=some s'):0≤s'.inner∧s'.inner≤i:=by
 unfold step at h
 split at h
 ·unfold begins at h
  split at h
  ·split at h
   ·simp at h;rw[← h];exact⟨h0,h1⟩
   ·simp at h
  ·simp at h
 ·split at h
  ·simp at h
  ·split at h
   ·unfold ends at h
    split at h
    ·simp at h
    ·split at h
     ·simp at h;rw[← h,put_inner];exact⟨h0,h1⟩
     ·simp at h
   ·split at h
    ·unfold branch at h
     split at h
     ·split at h
      ·simp at h;rw[← h];exact⟨h0,h1⟩
      ·simp at h
     ·simp at h
    ·unfold one at h
     split at h
     ·simp at h
      rw[← h,put_inner]
      simp only[]
      split
      ·exact⟨hi,Int.le_refl _⟩
      ·exact⟨h0,h1⟩
     ·simp at h
end R
structure RS (w1:World) (B:Nat) (rows:List ByteArray) (n k:Nat) (st:R.St) (tv ov:Value) (tvs ovs:List Value) (G:List Nat) (wr:World):Prop where
 mem:RdM wr B tv ov st.ts st.opn tvs ovs G
 sz:R.SzS st
 run:R.run R.St.zero 0 ((rows.map ByteArray.toList).take n)=R.run st k (((rows.map ByteArray.toList).take n).drop k)
 pos:0<k→st.ts≠[]
 in0:0≤st.inner
 in1:st.inner≤k
 bel:Below B w1 wr
theorem RS.step {w1:World} {B:Nat} {rows:List ByteArray} {n k:Nat} {st:R.St} {tv ov:Value} {tvs ovs:List Value} {G:List Nat} {wr:World} (h:RS w1 B rows n k st tv ov tvs ovs G wr) (hk:k<n) (hr:rows.length=n+1) {x c:ByteArray} {r:List ByteArray} (hx:rows[k]?=some x) (hc:c.toList::r.map ByteArray.toList=P.splitAt 32 x.toList) :
  (R.step st ((k:Int)+1) c r=none→R.run R.St.zero 0 ((rows.map ByteArray.toList).take n)=(none,(k:Int)+1)) ∧
  (∀ st',R.step st ((k:Int)+1) c r=some st'→∀ (tv' ov':Value) (tvs' ovs':List Value) (G':List Nat) (w':World),RdM w' B tv' ov' st'.ts st'.opn tvs' ovs' G'→Below B w1 w'→RS w1 B rows n (k+1) st' tv' ov' tvs' ovs' G' w'):=by
 have hd:((rows.map ByteArray.toList).take n).drop k=x.toList::((rows.map ByteArray.toList).take n).drop (k+1):=by
  have hl:k<((rows.map ByteArray.toList).take n).length:=by simp;omega
  rw[List.drop_eq_getElem_cons hl]
  congr 1
  have hxk:k<rows.length:=by omega
  have:rows[k]=x:=by rw[List.getElem?_eq_getElem hxk] at hx;simpa using hx
  simp[this]
 have hrun:=h.run
 rw[hd,R.run_cons st k x.toList _ c r hc] at hrun
 refine⟨fun hn=>by rw[hrun,hn],fun st' hs tv' ov' tvs' ovs' G' w' hm hb=>?_⟩
 rw[hs] at hrun
 have hin:=R.step_inner (by omega) h.in0 (by have:=h.in1;omega) hs
 exact⟨hm,R.step_sz h.sz hs,by rw[hrun];push_cast;rfl,fun _=>R.step_ne hs,hin.1,by push_cast;exact hin.2,hb⟩
end Go.Proofs.YtpkjmdcabdplfaaGreatDoor
namespace Go.Proofs.YtpkjmdcabdplfaaGreatDoor
open Go Go.RowKit
set_option maxRecDepth 100000
set_option maxHeartbeats 3200000 in
theorem rst_barrier (b off n cap:Nat) (c:ByteArray) (r:List ByteArray) (w:World) (hw:WordsAt w b off (c::r)) (hn:(c::r).length=n) (hblt:b<w.heap.size) (hk:(c.toList==[98,97,114,114,105,101,114])=true) :
  Calls Tryz.prog 16 #[.slice (some ⟨b,off,none⟩) n cap] w fun e w'=>e=.returned (lnVal (({ R.x0 with op:=R.sBarrier },r.isEmpty)))∧Below w.heap.size w w':=by
 obtain⟨hd,_,_⟩:=hw.head
 have hr1:((n:Int)==1)=r.isEmpty:=by
  cases r with
  | nil=>simp at hn;simp;omega
  | cons a q=>simp at hn;simp;omega
 have hi0:0<n:=by simp at hn;omega
 clear hn hw
 go_enter Tryz.func16,Tryz.ntmps16
 go_wp2_with fail
 exact ret_ln (p:=2) (u:=3) w.heap.size { R.x0 with op:=R.sBarrier } r.isEmpty (by kernel_rfl) rfl rfl (by exact (LnAt.new w { R.x0 with op:=R.sBarrier } _).alloc _) rfl ⟨rfl,((Below.refl _ _).alloc (Nat.le_refl _) _).alloc (by simp) _⟩
set_option maxHeartbeats 3200000 in
theorem rst_fence (b off n cap:Nat) (c:ByteArray) (r:List ByteArray) (w:World) (hw:WordsAt w b off (c::r)) (hn:(c::r).length=n) (hc:n≤cap) (hblt:b<w.heap.size) (hk0:(c.toList==[98,97,114,114,105,101,114])=false) (hk:(c.toList==[102,101,110,99,101])=true) :
  Calls Tryz.prog 16 #[.slice (some ⟨b,off,none⟩) n cap] w fun e w'=>e=.returned (lnVal (R.how { R.x0 with op:=R.sFence } R.oFence r))∧Below w.heap.size w w':=by
 obtain⟨hd,_,hw1⟩:=hw.head
 have hi0:0<n:=by simp at hn;omega
 have hrl:r.length=n-1:=by simp at hn;omega
 have S0:=hide (StAt.start w b off (c::r) { R.x0 with op:=R.sFence } hw)
 have hw2:=hide hw1
 clear hn hw hw1
 by_cases hcap:cap=1
 ·have hr:r=[]:=List.eq_nil_of_length_eq_zero (by omega)
  subst hr
  go_enter Tryz.func16,Tryz.ntmps16
  go_wp2_with fail
  refine (how_any (w.heap.size+1) b _ _ _ { R.x0 with op:=R.sFence } (.slice none 0 0) R.oFence _ [] _ (by exact S0.out.xat) (WordsAt.nil _ _ _) (by simp;omega) (by omega) rfl (by simp)).mono ?_
  rintro e w1 ⟨rfl,hx1,hgr1⟩
  have S:=StAt.how S0.out hblt hx1 hgr1
  clear hx1 hgr1 S0
  go_wp2_with (first | (refine wpList_load_ln (.tmp 4) rfl rfl (w.heap.size+1) _ (.slice none 0 0) rfl S.xat ?_) | (refine wpList_store_ln (.tmp 2) (.tmp 41) rfl rfl w.heap.size _ _ (.slice none 0 0) (.slice none 0 0) rfl rfl rfl (by exact S.res) ?_;intro w9 hs9 hgr9))
  exact ret_ln (p:=2) (u:=3) w.heap.size _ _ (by kernel_rfl) rfl rfl hs9 rfl ⟨rfl,S.done hgr9⟩
 ·go_enter Tryz.func16,Tryz.ntmps16
  go_wp2_with fail
  refine (how_any (w.heap.size+1) b _ _ _ { R.x0 with op:=R.sFence } (.slice none 0 0) R.oFence _ r _ (by exact S0.out.xat) (by exact (hw2.out.alloc _).alloc _) hrl (by omega) rfl (by simp)).mono ?_
  rintro e w1 ⟨rfl,hx1,hgr1⟩
  have S:=StAt.how S0.out hblt hx1 hgr1
  clear hx1 hgr1 S0
  go_wp2_with (first | (refine wpList_load_ln (.tmp 4) rfl rfl (w.heap.size+1) _ (.slice none 0 0) rfl S.xat ?_) | (refine wpList_store_ln (.tmp 2) (.tmp 41) rfl rfl w.heap.size _ _ (.slice none 0 0) (.slice none 0 0) rfl rfl rfl (by exact S.res) ?_;intro w9 hs9 hgr9))
  exact ret_ln (p:=2) (u:=3) w.heap.size _ _ (by kernel_rfl) rfl rfl hs9 rfl ⟨rfl,S.done hgr9⟩
set_option maxHeartbeats 3200000 in
theorem rst_short (b off n cap:Nat) (c:ByteArray) (r:List ByteArray) (w:World) (hw:WordsAt w b off (c::r)) (hn:(c::r).length=n) (hblt:b<w.heap.size) (hk0:(c.toList==[98,97,114,114,105,101,114])=false) (hk1:(c.toList==[102,101,110,99,101])=false) (h3:n<3) :
  Calls Tryz.prog 16 #[.slice (some ⟨b,off,none⟩) n cap] w fun e w'=>e=.returned (lnVal ((R.x0,false)))∧Below w.heap.size w w':=by
 obtain⟨hd,_,_⟩:=hw.head
 have hi0:0<n:=by simp at hn;omega
 have h3':(n:Int)<3:=by omega
 clear hn hw
 go_enter Tryz.func16,Tryz.ntmps16
 go_wp2_with fail
 all_goals exact ret_ln (p:=2) (u:=3) w.heap.size R.x0 false (by kernel_rfl) rfl rfl (by exact (LnAt.new w R.x0 _).alloc _) rfl ⟨rfl,((Below.refl _ _).alloc (Nat.le_refl _) _).alloc (by simp) _⟩
set_option maxHeartbeats 3200000 in
theorem rst_noeq (b off n cap:Nat) (c e d:ByteArray) (r:List ByteArray) (w:World) (hw:WordsAt w b off (c::e::d::r)) (hn:(c::e::d::r).length=n) (hblt:b<w.heap.size) (hk0:(c.toList==[98,97,114,114,105,101,114])=false) (hk1:(c.toList==[102,101,110,99,101])=false) (hs:(c.toList==[115,116,111,114,101]&&decide (4≤n))=false) (he:(e.toList==[61])=false) :
  Calls Tryz.prog 16 #[.slice (some ⟨b,off,none⟩) n cap] w fun e w'=>e=.returned (lnVal ((R.x0,false)))∧Below w.heap.size w w':=by
 obtain⟨hd,_,hw1⟩:=hw.head
 obtain⟨hd1,_,_⟩:=hw1.head
 have hi0:0<n:=by simp at hn;omega
 have h3':¬ (n:Int)<3:=by simp at hn;omega
 have hi1:(1:Int)<(n:Int):=by simp at hn;omega
 have hd3:decide ((n:Int)<3)=false:=decide_eq_false h3'
 clear hn hw hw1
 cases hst:(c.toList==[115,116,111,114,101])
 ·go_enter Tryz.func16,Tryz.ntmps16
  go_wp2_with fail
  all_goals exact ret_ln (p:=2) (u:=3) w.heap.size R.x0 false (by kernel_rfl) rfl rfl (by exact (LnAt.new w R.x0 _).alloc _) rfl ⟨rfl,((Below.refl _ _).alloc (Nat.le_refl _) _).alloc (by simp) _⟩
 ·have h4:¬ (3:Int)<(n:Int):=by simp[hst] at hs;omega
  go_enter Tryz.func16,Tryz.ntmps16
  go_wp2_with fail
  all_goals exact ret_ln (p:=2) (u:=3) w.heap.size R.x0 false (by kernel_rfl) rfl rfl (by exact (LnAt.new w R.x0 _).alloc _) rfl ⟨rfl,((Below.refl _ _).alloc (Nat.le_refl _) _).alloc (by simp) _⟩
theorem LnAt.setAll {w:World} {g:Nat} {z:R.Lh} {bz:Value} (t:R.Lh) (bt:Value) (h:LnAt w g z bz) :
  LnAt (((((((((w.setCell ⟨g,0,none⟩ (.string t.op)).setCell ⟨g,1,none⟩ (.int .i64 t.reg)).setCell ⟨g,2,none⟩ (.int .i64 t.var)).setCell ⟨g,3,none⟩ (.int .i64 t.a)).setCell ⟨g,4,none⟩ (.int .i64 t.b)).setCell ⟨g,5,none⟩ (.string t.sign)).setCell ⟨g,6,none⟩ (.string t.ord)).setCell ⟨g,7,none⟩ (.string t.scope)).setCell ⟨g,8,none⟩ bt) g t bt:=by
 unfold LnAt at *
 have h0:=setCell_block h 0 (.string t.op)
 have h1:=setCell_block h0 1 (.int .i64 t.reg)
 have h2:=setCell_block h1 2 (.int .i64 t.var)
 have h3:=setCell_block h2 3 (.int .i64 t.a)
 have h4:=setCell_block h3 4 (.int .i64 t.b)
 have h5:=setCell_block h4 5 (.string t.sign)
 have h6:=setCell_block h5 6 (.string t.ord)
 have h7:=setCell_block h6 7 (.string t.scope)
 have h8:=setCell_block h7 8 bt
 have e:(((((((((lnCells z bz).setIfInBounds 0 (.string t.op)).setIfInBounds 1 (.int .i64 t.reg)).setIfInBounds 2 (.int .i64 t.var)).setIfInBounds 3 (.int .i64 t.a)).setIfInBounds 4 (.int .i64 t.b)).setIfInBounds 5 (.string t.sign)).setIfInBounds 6 (.string t.ord)).setIfInBounds 7 (.string t.scope)).setIfInBounds 8 bt=lnCells t bt:=by simp[lnCells]
 rw[e] at h8
 exact h8
theorem below_all {w0 w:World} {B g:Nat} (t:R.Lh) (bt:Value) (h:Below B w0 w) (hp:B≤g):Below B w0 (((((((((w.setCell ⟨g,0,none⟩ (.string t.op)).setCell ⟨g,1,none⟩ (.int .i64 t.reg)).setCell ⟨g,2,none⟩ (.int .i64 t.var)).setCell ⟨g,3,none⟩ (.int .i64 t.a)).setCell ⟨g,4,none⟩ (.int .i64 t.b)).setCell ⟨g,5,none⟩ (.string t.sign)).setCell ⟨g,6,none⟩ (.string t.ord)).setCell ⟨g,7,none⟩ (.string t.scope)).setCell ⟨g,8,none⟩ bt) :=
 Below.setCell (Below.setCell (Below.setCell (Below.setCell (Below.setCell (Below.setCell (Below.setCell (Below.setCell (Below.setCell h hp _) hp _) hp _) hp _) hp _) hp _) hp _) hp _) hp _
theorem how_var (x:R.Lh) (o:List UInt8) (ws:List ByteArray):(R.how x o ws).1.var=x.var:=by
 unfold R.how
 split
 ·rfl
 ·split
  ·rfl
  ·split
   ·rfl
   ·split<;>rfl
set_option maxHeartbeats 1600000 in
theorem rst_store (b off n cap:Nat) (c p v:ByteArray) (r:List ByteArray) (w:World) (hw:WordsAt w b off (c::p::v::r)) (hn:(c::p::v::r).length=n) (hc:n≤cap) (hblt:b<w.heap.size) (h4:4≤n) (hk0:(c.toList==[98,97,114,114,105,101,114])=false) (hk1:(c.toList==[102,101,110,99,101])=false) (hk:(c.toList==[115,116,111,114,101])=true) :
  Calls Tryz.prog 16 #[.slice (some ⟨b,off,none⟩) n cap] w fun e w'=>e=.returned (lnVal (R.stStore p v r))∧Below w.heap.size w w':=by
 obtain⟨hd,_,hw1⟩:=hw.head
 have hi0:0<n:=by omega
 have hi1:(1:Int)<(n:Int):=by omega
 have hi2:(2:Int)<(n:Int):=by omega
 have hi3:(3:Int)<(n:Int):=by omega
 have hrl:r.length=n-3:=by simp at hn;omega
 have hcap:¬ cap=3:=by omega
 have S0:=hide (StAt.start w b off (c::p::v::r) { R.x0 with op:=R.sStore } hw)
 obtain⟨hd1,_,_⟩:=hw1.head
 clear hn hw hw1
 go_enter Tryz.func16,Tryz.ntmps16
 go_wp2_with fail
 refine (in_lst p R.vars _ _ rfl (by simp)).mono ?_
 rintro e w1 ⟨rfl,hb1⟩
 have s1:=StAt.below S0.out hb1
 obtain⟨f1,f2,c0,c1,c2,c3,c4,c5,c6,c7,c8⟩:=s1.xat.facts
 have d2:=s1.words 2 v rfl
 have hbl1:b<w1.heap.size:=by have:=s1.bel.size;omega
 have S1:=hide s1
 clear s1 hb1 S0
 go_wp2_with fail
 refine (opdR_any v _).mono ?_
 rintro e w2 ⟨rfl,hb2⟩
 have s2:=((S1.out.set { R.x0 with op:=R.sStore,var:=R.inn p.toList R.vars } hblt 2 _ rfl).below hb2)
 clear c0 c1 c2 c3 c4 c5 c6 c7 c8 d2 f1 f2
 obtain⟨f1,f2,c0,c1,c2,c3,c4,c5,c6,c7,c8⟩:=s2.xat.facts
 have S2:=hide s2
 clear s2 hb2 S1
 go_wp2_with fail
 have s3:=S2.out.set { R.x0 with op:=R.sStore,var:=R.inn p.toList R.vars,a:=(R.opd v.toList).1 } hblt 3 (.int .i64 (R.opd v.toList).1) rfl
 refine (how_any (w.heap.size+1) b _ _ _ { R.x0 with op:=R.sStore,var:=R.inn p.toList R.vars,a:=(R.opd v.toList).1 } (.slice none 0 0) R.oStore _ r _ (by exact s3.xat) (by exact s3.words.drop 3) hrl (by omega) rfl (by simp)).mono ?_
 rintro e w3 ⟨rfl,hx3,hgr3⟩
 have s4:=s3.how hblt hx3 hgr3
 clear c0 c1 c2 c3 c4 c5 c6 c7 c8 f1 f2 s3 hx3 hgr3 S2
 obtain⟨f1,f2,c0,c1,c2,c3,c4,c5,c6,c7,c8⟩:=s4.xat.facts
 obtain⟨e1,e2,r0,r1,r2,r3,r4,r5,r6,r7,r8⟩:=s4.res.facts
 have S4:=hide s4
 clear s4
 have hv:=how_var { R.x0 with op:=R.sStore,var:=R.inn p.toList R.vars,a:=(R.opd v.toList).1 } R.oStore r
 have HE:Hid (R.stStore p v r=((R.how { R.x0 with op:=R.sStore,var:=R.inn p.toList R.vars,a:=(R.opd v.toList).1 } R.oStore r).1,(R.opd v.toList).2&&(R.how { R.x0 with op:=R.sStore,var:=R.inn p.toList R.vars,a:=(R.opd v.toList).1 } R.oStore r).2&&decide (0≤R.inn p.toList R.vars))):=rfl
 generalize R.how { R.x0 with op:=R.sStore,var:=R.inn p.toList R.vars,a:=(R.opd v.toList).1 } R.oStore r=H at *
 generalize R.inn p.toList R.vars=iv at *
 generalize (R.opd v.toList).2=ok at *
 have HV:=hide hv
 clear hv hd hd1 hi0 hi1 hi2 hi3 hrl hcap hk0 hk1 hk hbl1
 cases ok
 ·go_wp2_with fail
  go_region
  all_goals go_wp2
  all_goals exact ret_ln (p:=2) (u:=3) w.heap.size H.1 _ (by kernel_rfl) rfl rfl (by exact (S4.out.res.setAll H.1 (.slice none 0 0)).drew) rfl ⟨by rw[HE.out];rfl,(below_all H.1 (.slice none 0 0) S4.out.bel (Nat.le_refl _)).drew⟩
 generalize hH2:H.2=h2 at *
 have HH2:=hide hH2
 clear hH2
 cases h2
 ·go_wp2_with fail
  go_region
  all_goals go_wp2
  all_goals exact ret_ln (p:=2) (u:=3) w.heap.size H.1 _ (by kernel_rfl) rfl rfl (by exact (S4.out.res.setAll H.1 (.slice none 0 0)).drew) rfl ⟨by rw[HE.out];simp,(below_all H.1 (.slice none 0 0) S4.out.bel (Nat.le_refl _)).drew⟩
 by_cases hiv:0≤H.1.var
 ·go_wp2_with fail
  go_region
  all_goals go_wp2
  all_goals exact ret_ln (p:=2) (u:=3) w.heap.size H.1 _ (by kernel_rfl) rfl rfl (by exact (S4.out.res.setAll H.1 (.slice none 0 0)).drew) rfl ⟨by have:=HV.out;rw[HE.out,← this];simp[hiv],(below_all H.1 (.slice none 0 0) S4.out.bel (Nat.le_refl _)).drew⟩
 ·go_wp2_with fail
  go_region
  all_goals go_wp2
  all_goals exact ret_ln (p:=2) (u:=3) w.heap.size H.1 _ (by kernel_rfl) rfl rfl (by exact (S4.out.res.setAll H.1 (.slice none 0 0)).drew) rfl ⟨by have:=HV.out;rw[HE.out,← this];simp,(below_all H.1 (.slice none 0 0) S4.out.bel (Nat.le_refl _)).drew⟩
set_option maxHeartbeats 3200000 in
theorem rst_load (b off n cap:Nat) (c e d p:ByteArray) (r:List ByteArray) (w:World) (hw:WordsAt w b off (c::e::d::p::r)) (hn:(c::e::d::p::r).length=n) (hc:n≤cap) (hblt:b<w.heap.size) (hmin:5≤n) (hk0:(c.toList==[98,97,114,114,105,101,114])=false) (hk1:(c.toList==[102,101,110,99,101])=false) (hks:(c.toList==[115,116,111,114,101]&&decide (4≤n))=false) (he:(e.toList==[61])=true) (hd:(d.toList==[108,111,97,100])=true) :
  Calls Tryz.prog 16 #[.slice (some ⟨b,off,none⟩) n cap] w fun e w'=>e=.returned (lnVal (R.stLoad c p r))∧Below w.heap.size w w':=by
 obtain⟨hd0,_,hw1⟩:=hw.head
 have hi0:0<n:=by omega
 have hi1:(1:Int)<(n:Int):=by omega
 have hi2:(2:Int)<(n:Int):=by omega
 have hi3:(3:Int)<(n:Int):=by omega
 have hi4:(4:Int)<(n:Int):=by omega
 have hi3':¬ (n:Int)<3:=by omega
 have hrl:r.length=n-4:=by simp at hn;omega
 have hcap:¬ cap=4:=by omega
 have hks':(c.toList==[115,116,111,114,101])=false:=by
  have h4:decide (4≤n)=true:=by simp;omega
  rw[h4] at hks;simpa using hks
 have S0:=hide (StAt.start w b off (c::e::d::p::r) R.x0 hw)
 obtain⟨hd1,_,_⟩:=hw1.head
 have hbd:=R.inn_bd c.toList R.regs
 clear hn hw hw1
 go_enter Tryz.func16,Tryz.ntmps16
 go_wp2_with fail
 refine (in_lst c R.regs _ _ rfl (by simp)).mono ?_
 rintro e w1 ⟨rfl,hb1⟩
 have s1:=StAt.below S0.out hb1
 obtain⟨f1,f2,c0,c1,c2,c3,c4,c5,c6,c7,c8⟩:=s1.xat.facts
 have d2:=s1.words 2 d rfl
 have d3:=s1.words 3 p rfl
 have hbl1:b<w1.heap.size:=by have:=s1.bel.size;omega
 have S1:=hide s1
 clear s1 hb1 S0 hd1
 go_wp2_with fail
 have s2:=(S1.out.set { R.x0 with reg:=R.inn c.toList R.regs } hblt 1 (.int .i64 (R.inn c.toList R.regs)) rfl).set { R.x0 with reg:=R.inn c.toList R.regs,op:=R.sLoad } hblt 0 (.string R.sLoad) rfl
 refine (in_lst p R.vars _ _ rfl (by simp)).mono ?_
 rintro e w2 ⟨rfl,hb2⟩
 have s3:=s2.below hb2
 clear c0 c1 c2 c3 c4 c5 c6 c7 c8 f1 f2
 obtain⟨f1,f2,c0,c1,c2,c3,c4,c5,c6,c7,c8⟩:=s3.xat.facts
 have S3:=hide s3
 have hbl2:b<w2.heap.size:=by have:=s3.bel.size;omega
 clear s3 s2 hb2 S1 d2 d3 hbl1
 go_wp2_with fail
 have s5:=S3.out.set { R.x0 with reg:=R.inn c.toList R.regs,op:=R.sLoad,var:=R.inn p.toList R.vars } hblt 2 (.int .i64 (R.inn p.toList R.vars)) rfl
 refine (how_any (w.heap.size+1) b _ _ _ { R.x0 with reg:=R.inn c.toList R.regs,op:=R.sLoad,var:=R.inn p.toList R.vars } (.slice none 0 0) R.oLoad _ r _ (by exact s5.xat) (by exact s5.words.drop 4) hrl (by omega) rfl (by simp)).mono ?_
 rintro e w5 ⟨rfl,hx5,hgr5⟩
 have s6:=s5.how hblt hx5 hgr5
 clear c0 c1 c2 c3 c4 c5 c6 c7 c8 f1 f2
 clear s5 hx5 hgr5
 obtain⟨f1,f2,c0,c1,c2,c3,c4,c5,c6,c7,c8⟩:=s6.xat.facts
 obtain⟨e1,e2,r0,r1,r2,r3,r4,r5,r6,r7,r8⟩:=s6.res.facts
 have S4:=hide s6
 clear s6
 have hv:=how_var { R.x0 with reg:=R.inn c.toList R.regs,op:=R.sLoad,var:=R.inn p.toList R.vars } R.oLoad r
 have HE:Hid (R.stLoad c p r=((R.how { R.x0 with reg:=R.inn c.toList R.regs,op:=R.sLoad,var:=R.inn p.toList R.vars } R.oLoad r).1,decide (0≤R.inn c.toList R.regs)&&(R.how { R.x0 with reg:=R.inn c.toList R.regs,op:=R.sLoad,var:=R.inn p.toList R.vars } R.oLoad r).2&&decide (0≤R.inn p.toList R.vars))):=rfl
 generalize R.how { R.x0 with reg:=R.inn c.toList R.regs,op:=R.sLoad,var:=R.inn p.toList R.vars } R.oLoad r=H at *
 generalize R.inn p.toList R.vars=iv at *
 generalize R.inn c.toList R.regs=ir at *
 have HV:=hide hv
 clear hv hd0 hi0 hi1 hi2 hi3 hi4 hi3' hrl hcap hk0 hk1 hks hks' he
 generalize hH2:H.2=h2 at *
 have HH2:=hide hH2
 clear hH2
 by_cases hir:0≤ir
 rotate_left
 ·have hird:decide (0≤ir)=false:=decide_eq_false hir
  go_wp2_with fail
  go_region
  all_goals go_wp2
  all_goals exact ret_ln (p:=2) (u:=3) w.heap.size H.1 _ (by kernel_rfl) rfl rfl (by exact (S4.out.res.setAll H.1 (.slice none 0 0)).drew) rfl ⟨by rw[HE.out];simp[hird],(below_all H.1 (.slice none 0 0) S4.out.bel (Nat.le_refl _)).drew⟩
 have hird:decide (0≤ir)=true:=decide_eq_true hir
 cases h2
 ·go_wp2_with fail
  go_region
  all_goals go_wp2
  all_goals exact ret_ln (p:=2) (u:=3) w.heap.size H.1 _ (by kernel_rfl) rfl rfl (by exact (S4.out.res.setAll H.1 (.slice none 0 0)).drew) rfl ⟨by rw[HE.out];simp[hird],(below_all H.1 (.slice none 0 0) S4.out.bel (Nat.le_refl _)).drew⟩
 by_cases hiv:0≤H.1.var
 ·have hivd:decide (0≤H.1.var)=true:=decide_eq_true hiv
  go_wp2_with fail
  go_region
  all_goals go_wp2
  all_goals exact ret_ln (p:=2) (u:=3) w.heap.size H.1 _ (by kernel_rfl) rfl rfl (by exact (S4.out.res.setAll H.1 (.slice none 0 0)).drew) rfl ⟨by have:=HV.out;rw[HE.out,← this];simp[hird,hivd],(below_all H.1 (.slice none 0 0) S4.out.bel (Nat.le_refl _)).drew⟩
 ·have hivd:decide (0≤H.1.var)=false:=decide_eq_false hiv
  go_wp2_with fail
  go_region
  all_goals go_wp2
  all_goals exact ret_ln (p:=2) (u:=3) w.heap.size H.1 _ (by kernel_rfl) rfl rfl (by exact (S4.out.res.setAll H.1 (.slice none 0 0)).drew) rfl ⟨by have:=HV.out;rw[HE.out,← this];simp[hird,hivd],(below_all H.1 (.slice none 0 0) S4.out.bel (Nat.le_refl _)).drew⟩
set_option maxHeartbeats 3200000 in
theorem rst_add (b off n cap:Nat) (c e d p v:ByteArray) (r:List ByteArray) (w:World) (hw:WordsAt w b off (c::e::d::p::v::r)) (hn:(c::e::d::p::v::r).length=n) (hc:n≤cap) (hblt:b<w.heap.size) (hmin:6≤n) (hk0:(c.toList==[98,97,114,114,105,101,114])=false) (hk1:(c.toList==[102,101,110,99,101])=false) (hks:(c.toList==[115,116,111,114,101]&&decide (4≤n))=false) (he:(e.toList==[61])=true) (hdl:(d.toList==[108,111,97,100])=false) (hd:(d.toList==[97,100,100])=true) :
  Calls Tryz.prog 16 #[.slice (some ⟨b,off,none⟩) n cap] w fun e w'=>e=.returned (lnVal (R.stStep c d p v r))∧Below w.heap.size w w':=by
 obtain⟨hd0,_,hw1⟩:=hw.head
 have hi0:0<n:=by omega
 have hi1:(1:Int)<(n:Int):=by omega
 have hi2:(2:Int)<(n:Int):=by omega
 have hi3:(3:Int)<(n:Int):=by omega
 have hi4:(4:Int)<(n:Int):=by omega
 have hi5:(5:Int)<(n:Int):=by omega
 have hi3':¬ (n:Int)<3:=by omega
 have hrl:r.length=n-5:=by simp at hn;omega
 have hcap:¬ cap=5:=by omega
 have hks':(c.toList==[115,116,111,114,101])=false:=by
  have h4:decide (4≤n)=true:=by simp;omega
  rw[h4] at hks;simpa using hks
 have S0:=hide (StAt.start w b off (c::e::d::p::v::r) R.x0 hw)
 obtain⟨hd1,_,_⟩:=hw1.head
 have hbd:=R.inn_bd c.toList R.regs
 clear hn hw hw1
 go_enter Tryz.func16,Tryz.ntmps16
 go_wp2_with fail
 refine (in_lst c R.regs _ _ rfl (by simp)).mono ?_
 rintro e w1 ⟨rfl,hb1⟩
 have s1:=StAt.below S0.out hb1
 obtain⟨f1,f2,c0,c1,c2,c3,c4,c5,c6,c7,c8⟩:=s1.xat.facts
 have d2:=s1.words 2 d rfl
 have d3:=s1.words 3 p rfl
 have hbl1:b<w1.heap.size:=by have:=s1.bel.size;omega
 have S1:=hide s1
 clear s1 hb1 S0 hd1
 go_wp2_with fail
 have s2:=(S1.out.set { R.x0 with reg:=R.inn c.toList R.regs } hblt 1 (.int .i64 (R.inn c.toList R.regs)) rfl).set { R.x0 with reg:=R.inn c.toList R.regs,op:=d } hblt 0 (.string d) rfl
 refine (in_lst p R.vars _ _ rfl (by simp)).mono ?_
 rintro e w2 ⟨rfl,hb2⟩
 have s3:=s2.below hb2
 clear c0 c1 c2 c3 c4 c5 c6 c7 c8 f1 f2
 obtain⟨f1,f2,c0,c1,c2,c3,c4,c5,c6,c7,c8⟩:=s3.xat.facts
 have d4:=s3.words 4 v rfl
 have S3:=hide s3
 have hbl2:b<w2.heap.size:=by have:=s3.bel.size;omega
 clear s3 s2 hb2 S1 d2 d3 hbl1
 go_wp2_with fail
 have s4:=S3.out.set { R.x0 with reg:=R.inn c.toList R.regs,op:=d,var:=R.inn p.toList R.vars } hblt 2 (.int .i64 (R.inn p.toList R.vars)) rfl
 refine (opdR_any v _).mono ?_
 rintro e w3 ⟨rfl,hb3⟩
 have s4b:=s4.below hb3
 clear c0 c1 c2 c3 c4 c5 c6 c7 c8 f1 f2
 obtain⟨f1,f2,c0,c1,c2,c3,c4,c5,c6,c7,c8⟩:=s4b.xat.facts
 have S4b:=hide s4b
 clear s4 s4b hb3 S3 d4 hbl2
 go_wp2_with fail
 have s5:=S4b.out.set { R.x0 with reg:=R.inn c.toList R.regs,op:=d,var:=R.inn p.toList R.vars,a:=(R.opd v.toList).1 } hblt 3 (.int .i64 (R.opd v.toList).1) rfl
 refine (how_any (w.heap.size+1) b _ _ _ { R.x0 with reg:=R.inn c.toList R.regs,op:=d,var:=R.inn p.toList R.vars,a:=(R.opd v.toList).1 } (.slice none 0 0) R.oStep _ r _ (by exact s5.xat) (by exact s5.words.drop 5) hrl (by omega) rfl (by simp)).mono ?_
 rintro e w5 ⟨rfl,hx5,hgr5⟩
 have s6:=s5.how hblt hx5 hgr5
 clear c0 c1 c2 c3 c4 c5 c6 c7 c8 f1 f2
 clear s5 hx5 hgr5
 obtain⟨f1,f2,c0,c1,c2,c3,c4,c5,c6,c7,c8⟩:=s6.xat.facts
 obtain⟨e1,e2,r0,r1,r2,r3,r4,r5,r6,r7,r8⟩:=s6.res.facts
 have S4:=hide s6
 clear s6
 have hv:=how_var { R.x0 with reg:=R.inn c.toList R.regs,op:=d,var:=R.inn p.toList R.vars,a:=(R.opd v.toList).1 } R.oStep r
 have HE:Hid (R.stStep c d p v r=((R.how { R.x0 with reg:=R.inn c.toList R.regs,op:=d,var:=R.inn p.toList R.vars,a:=(R.opd v.toList).1 } R.oStep r).1,decide (0≤R.inn c.toList R.regs)&&(R.how { R.x0 with reg:=R.inn c.toList R.regs,op:=d,var:=R.inn p.toList R.vars,a:=(R.opd v.toList).1 } R.oStep r).2&&(R.opd v.toList).2&&decide (0≤R.inn p.toList R.vars))):=rfl
 generalize R.how { R.x0 with reg:=R.inn c.toList R.regs,op:=d,var:=R.inn p.toList R.vars,a:=(R.opd v.toList).1 } R.oStep r=H at *
 generalize R.inn p.toList R.vars=iv at *
 generalize R.inn c.toList R.regs=ir at *
 generalize (R.opd v.toList).2=okv at *
 have HV:=hide hv
 clear hv hd0 hi0 hi1 hi2 hi3 hi4 hi3' hrl hcap hk0 hk1 hks hks' he
 generalize hH2:H.2=h2 at *
 have HH2:=hide hH2
 clear hH2
 by_cases hir:0≤ir
 rotate_left
 ·have hird:decide (0≤ir)=false:=decide_eq_false hir
  go_wp2_with fail
  go_region
  all_goals go_wp2
  all_goals exact ret_ln (p:=2) (u:=3) w.heap.size H.1 _ (by kernel_rfl) rfl rfl (by exact (S4.out.res.setAll H.1 (.slice none 0 0)).drew) rfl ⟨by rw[HE.out];simp[hird],(below_all H.1 (.slice none 0 0) S4.out.bel (Nat.le_refl _)).drew⟩
 have hird:decide (0≤ir)=true:=decide_eq_true hir
 cases h2
 ·go_wp2_with fail
  go_region
  all_goals go_wp2
  all_goals exact ret_ln (p:=2) (u:=3) w.heap.size H.1 _ (by kernel_rfl) rfl rfl (by exact (S4.out.res.setAll H.1 (.slice none 0 0)).drew) rfl ⟨by rw[HE.out];simp[hird],(below_all H.1 (.slice none 0 0) S4.out.bel (Nat.le_refl _)).drew⟩
 cases okv
 ·go_wp2_with fail
  go_region
  all_goals go_wp2
  all_goals exact ret_ln (p:=2) (u:=3) w.heap.size H.1 _ (by kernel_rfl) rfl rfl (by exact (S4.out.res.setAll H.1 (.slice none 0 0)).drew) rfl ⟨by rw[HE.out];simp[hird],(below_all H.1 (.slice none 0 0) S4.out.bel (Nat.le_refl _)).drew⟩
 by_cases hiv:0≤H.1.var
 ·have hivd:decide (0≤H.1.var)=true:=decide_eq_true hiv
  go_wp2_with fail
  go_region
  all_goals go_wp2
  all_goals exact ret_ln (p:=2) (u:=3) w.heap.size H.1 _ (by kernel_rfl) rfl rfl (by exact (S4.out.res.setAll H.1 (.slice none 0 0)).drew) rfl ⟨by have:=HV.out;rw[HE.out,← this];simp[hird,hivd],(below_all H.1 (.slice none 0 0) S4.out.bel (Nat.le_refl _)).drew⟩
 ·have hivd:decide (0≤H.1.var)=false:=decide_eq_false hiv
  go_wp2_with fail
  go_region
  all_goals go_wp2
  all_goals exact ret_ln (p:=2) (u:=3) w.heap.size H.1 _ (by kernel_rfl) rfl rfl (by exact (S4.out.res.setAll H.1 (.slice none 0 0)).drew) rfl ⟨by have:=HV.out;rw[HE.out,← this];simp[hird,hivd],(below_all H.1 (.slice none 0 0) S4.out.bel (Nat.le_refl _)).drew⟩
end Go.Proofs.YtpkjmdcabdplfaaGreatDoor
