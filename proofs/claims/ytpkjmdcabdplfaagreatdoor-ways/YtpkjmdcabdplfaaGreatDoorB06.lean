import Derived.Test.YtpkjmdcabdplfaaGreatDoorB05
set_option linter.unusedVariables false
set_option linter.unusedSimpArgs false
namespace Go.Proofs.YtpkjmdcabdplfaaGreatDoor
open Go Go.RowKit
set_option maxRecDepth 100000
namespace R
theorem uneven_zero (f0 f1:Int) (t:Th) (r:List Th) (h:t.block=0):unevenGo f0 f1 (t::r)=if (if f0<0 then numL isB t.body else f0) != numL isB t.body||decide (2<numL isB t.body) then t.row else unevenGo (if f0<0 then numL isB t.body else f0) f1 r:=by
 simp[unevenGo,h]
theorem uneven_one (f0 f1:Int) (t:Th) (r:List Th) (h:t.block=1):unevenGo f0 f1 (t::r)=if (if f1<0 then numL isB t.body else f1) != numL isB t.body||decide (2<numL isB t.body) then t.row else unevenGo f0 (if f1<0 then numL isB t.body else f1) r:=by
 simp[unevenGo,h]
end R
theorem pair_facts {w:World} {g:Nat} {a b:Value} (h:w.heap[g]?=some (.cells #[a,b] 3 (0,0))):w.cell? ⟨g,0,none⟩=some a∧w.cell? ⟨g,1,none⟩=some b∧w.frozen? ⟨g,0,none⟩=false∧w.frozen? ⟨g,1,none⟩=false:=by
 refine⟨by simp[World.cell?,h],by simp[World.cell?,h],by simp[World.frozen?,h],by simp[World.frozen?,h]⟩
set_option maxHeartbeats 3200000 in
theorem unevenR_any (B bt n cap:Nat) (ts:List R.Th) (vs:List Value) (Fs:List (List Nat)) (w:World) (h:ThsAt w B (.slice (some ⟨bt,0,none⟩) n cap) ts vs Fs) (hn:n=ts.length) (hnb:n<10) (hs:∀ t∈ts,R.sizeL t.body<10000) (hb:∀ t∈ts,t.block=0∨t.block=1) :
  Calls Tryz.prog 17 #[.slice (some ⟨bt,0,none⟩) n cap] w fun e w'=>e=.returned (.int .i64 (R.uneven ts))∧Below w.heap.size w w':=by
 have HA:=hide h
 have HN:=hide hn
 have HS:=hide hs
 have HB:=hide hb
 clear h hn hs hb
 go_enter Tryz.func17,Tryz.ntmps17
 go_wp2
 go_loopw [4] (fun i wr=>∃ (k:Nat) (f0 f1:Int),k≤n∧i=.int .i64 k∧Hid (R.uneven ts=R.unevenGo f0 f1 (ts.drop k))∧(-1≤f0∧f0<10000∧-1≤f1∧f1<10000)∧wr.heap[w.heap.size]?=some (.cells #[.int .i64 f0,.int .i64 f1] 3 (0,0))∧Below w.heap.size w wr) (fun i _=>n-(intOf i).toNat)
 case atStart=>exact⟨0, -1, -1,Nat.zero_le _,rfl,rfl,by decide,heap_alloc_new w _,(Below.refl _ _).alloc (Nat.le_refl _) _⟩
 case round =>
  obtain⟨k,f0,f1,hk,rfl,HU,hf,hcur,hbel⟩:=hrel
  by_cases hlt:k<n
  ·have hkl:k<ts.length:=by rw[← HN.out];exact hlt
   obtain⟨hbt,u,c0,c1,c2,HC⟩:=HA.out.get HN.out HS.out k hkl
   have d0:=(hbel.cell (p:=⟨bt,k*3,none⟩) hbt).trans c0
   have d1:=(hbel.cell (p:=⟨bt,k*3+1,none⟩) hbt).trans c1
   have d2:=(hbel.cell (p:=⟨bt,k*3+2,none⟩) hbt).trans c2
   have hz:=HS.out ts[k] (List.getElem_mem hkl)
   unfold R.sizeL at hz
   have e1:=R.numL_bd R.isB ts[k].body
   have HD:=hide (P.drop_cons ts k hkl)
   have C1:Hid (Calls Tryz.prog 35 #[u,.string ⟨#[98,97,114,114,105,101,114]⟩,.string ⟨#[]⟩] wr fun e w'=>e=.returned (.int .i64 (R.numL R.isB ts[k].body))∧Below wr.heap.size wr w'):=by
    have:=HC.out ⟨#[98,97,114,114,105,101,114]⟩ ⟨#[]⟩ wr hbel
    rw[lit_toList,lit_toList] at this
    rw[R.isB_num];exact this
   have hblk:=HB.out ts[k] (List.getElem_mem hkl)
   have hws:w.heap.size<wr.heap.size:=by
    have:=Array.getElem?_eq_some_iff.1 hcur
    exact this.1
   have hin:(k:Int)<(n:Int):=by omega
   generalize ts[k]=t at *
   generalize hN:R.numL R.isB t.body=nb at *
   have hnbd:0≤nb∧nb<10000:=by omega
   clear c0 c1 c2 HC hz e1
   rcases hblk with hbk | hbk
   ·have hU:=R.uneven_zero f0 f1 t (ts.drop (k+1)) hbk
    rw[hN,← HD.out,← HU.out] at hU
    rw[hbk] at d0
    by_cases hneg:f0<0
    ·rw[if_pos hneg] at hU
     by_cases hbig:2<nb
     ·have HR:Hid (R.uneven ts=t.row):=by unfold Hid;rw[hU];simp[hbig]
      clear hU
      go_wp2_with (first | (go_at_call 35;refine C1.out.mono ?_;rintro e w1 ⟨rfl,hb1⟩;have q1:=(hb1.cell (p:=⟨bt,k*3,none⟩) (by show bt<_;omega)).trans d0;have q2:=(hb1.cell (p:=⟨bt,k*3+2,none⟩) (by show bt<_;omega)).trans d2;have q3:=(hb1.block w.heap.size hws).trans hcur;obtain⟨p1,p2,p3,p4⟩:=pair_facts q3;have hne:bt≠w.heap.size:=(by omega);have q5:=fun u:Value=>(cell_set_ne (w:=w1) (g:=w.heap.size) (i:=0) (b:=bt) (o:=k*3+2) (u:=u) hne).trans q2;have hw1:=hb1.size;have hb2:Below w.heap.size w w1:=hbel.trans (hb1.mono (by omega))))
      go_ret
      rw[HR.out]
      exact⟨rfl,hb2.setCell (Nat.le_refl _) _⟩
     ·have HR:Hid (R.uneven ts=R.unevenGo nb f1 (ts.drop (k+1))):=by unfold Hid;rw[hU];simp[hbig]
      clear hU
      go_wp2_with (first | (go_at_call 35;refine C1.out.mono ?_;rintro e w1 ⟨rfl,hb1⟩;have q1:=(hb1.cell (p:=⟨bt,k*3,none⟩) (by show bt<_;omega)).trans d0;have q2:=(hb1.cell (p:=⟨bt,k*3+2,none⟩) (by show bt<_;omega)).trans d2;have q3:=(hb1.block w.heap.size hws).trans hcur;obtain⟨p1,p2,p3,p4⟩:=pair_facts q3;have hne:bt≠w.heap.size:=(by omega);have q5:=fun u:Value=>(cell_set_ne (w:=w1) (g:=w.heap.size) (i:=0) (b:=bt) (o:=k*3+2) (u:=u) hne).trans q2;have hw1:=hb1.size;have hb2:Below w.heap.size w w1:=hbel.trans (hb1.mono (by omega))))
      go_roundw
      case rel=>exact⟨k+1,nb,f1,by omega,by go_num,HR,by omega,by rw[setCell_block q3];rfl,hb2.setCell (Nat.le_refl _) _⟩
      case measure=>simp[intOf];omega
    ·rw[if_neg hneg] at hU
     by_cases hdiff:f0=nb
     ·by_cases hbig:2<nb
      ·have HR:Hid (R.uneven ts=t.row):=by unfold Hid;rw[hU];simp[hbig]
       clear hU
       go_wp2_with (first | (go_at_call 35;refine C1.out.mono ?_;rintro e w1 ⟨rfl,hb1⟩;have q1:=(hb1.cell (p:=⟨bt,k*3,none⟩) (by show bt<_;omega)).trans d0;have q2:=(hb1.cell (p:=⟨bt,k*3+2,none⟩) (by show bt<_;omega)).trans d2;have q3:=(hb1.block w.heap.size hws).trans hcur;obtain⟨p1,p2,p3,p4⟩:=pair_facts q3;have hne:bt≠w.heap.size:=(by omega);have q5:=fun u:Value=>(cell_set_ne (w:=w1) (g:=w.heap.size) (i:=0) (b:=bt) (o:=k*3+2) (u:=u) hne).trans q2;have hw1:=hb1.size;have hb2:Below w.heap.size w w1:=hbel.trans (hb1.mono (by omega))))
       go_ret
       rw[HR.out]
       exact⟨rfl,hb2⟩
      ·have HR:Hid (R.uneven ts=R.unevenGo f0 f1 (ts.drop (k+1))):=by unfold Hid;rw[hU];simp[hbig,hdiff]
       clear hU
       go_wp2_with (first | (go_at_call 35;refine C1.out.mono ?_;rintro e w1 ⟨rfl,hb1⟩;have q1:=(hb1.cell (p:=⟨bt,k*3,none⟩) (by show bt<_;omega)).trans d0;have q2:=(hb1.cell (p:=⟨bt,k*3+2,none⟩) (by show bt<_;omega)).trans d2;have q3:=(hb1.block w.heap.size hws).trans hcur;obtain⟨p1,p2,p3,p4⟩:=pair_facts q3;have hne:bt≠w.heap.size:=(by omega);have q5:=fun u:Value=>(cell_set_ne (w:=w1) (g:=w.heap.size) (i:=0) (b:=bt) (o:=k*3+2) (u:=u) hne).trans q2;have hw1:=hb1.size;have hb2:Below w.heap.size w w1:=hbel.trans (hb1.mono (by omega))))
       go_roundw
       case rel=>exact⟨k+1,f0,f1,by omega,by go_num,HR,hf,q3,hb2⟩
       case measure=>simp[intOf];omega
     ·have HR:Hid (R.uneven ts=t.row):=by unfold Hid;rw[hU];simp[hdiff]
      clear hU
      go_wp2_with (first | (go_at_call 35;refine C1.out.mono ?_;rintro e w1 ⟨rfl,hb1⟩;have q1:=(hb1.cell (p:=⟨bt,k*3,none⟩) (by show bt<_;omega)).trans d0;have q2:=(hb1.cell (p:=⟨bt,k*3+2,none⟩) (by show bt<_;omega)).trans d2;have q3:=(hb1.block w.heap.size hws).trans hcur;obtain⟨p1,p2,p3,p4⟩:=pair_facts q3;have hne:bt≠w.heap.size:=(by omega);have q5:=fun u:Value=>(cell_set_ne (w:=w1) (g:=w.heap.size) (i:=0) (b:=bt) (o:=k*3+2) (u:=u) hne).trans q2;have hw1:=hb1.size;have hb2:Below w.heap.size w w1:=hbel.trans (hb1.mono (by omega))))
      go_ret
      rw[HR.out]
      exact⟨rfl,hb2⟩
   ·have hU:=R.uneven_one f0 f1 t (ts.drop (k+1)) hbk
    rw[hN,← HD.out,← HU.out] at hU
    rw[hbk] at d0
    by_cases hneg:f1<0
    ·rw[if_pos hneg] at hU
     by_cases hbig:2<nb
     ·have HR:Hid (R.uneven ts=t.row):=by unfold Hid;rw[hU];simp[hbig]
      clear hU
      go_wp2_with (first | (go_at_call 35;refine C1.out.mono ?_;rintro e w1 ⟨rfl,hb1⟩;have q1:=(hb1.cell (p:=⟨bt,k*3,none⟩) (by show bt<_;omega)).trans d0;have q2:=(hb1.cell (p:=⟨bt,k*3+2,none⟩) (by show bt<_;omega)).trans d2;have q3:=(hb1.block w.heap.size hws).trans hcur;obtain⟨p1,p2,p3,p4⟩:=pair_facts q3;have hne:bt≠w.heap.size:=(by omega);have q5:=fun u:Value=>(cell_set_ne (w:=w1) (g:=w.heap.size) (i:=1) (b:=bt) (o:=k*3+2) (u:=u) hne).trans q2;have hw1:=hb1.size;have hb2:Below w.heap.size w w1:=hbel.trans (hb1.mono (by omega))))
      go_ret
      rw[HR.out]
      exact⟨rfl,hb2.setCell (Nat.le_refl _) _⟩
     ·have HR:Hid (R.uneven ts=R.unevenGo f0 nb (ts.drop (k+1))):=by unfold Hid;rw[hU];simp[hbig]
      clear hU
      go_wp2_with (first | (go_at_call 35;refine C1.out.mono ?_;rintro e w1 ⟨rfl,hb1⟩;have q1:=(hb1.cell (p:=⟨bt,k*3,none⟩) (by show bt<_;omega)).trans d0;have q2:=(hb1.cell (p:=⟨bt,k*3+2,none⟩) (by show bt<_;omega)).trans d2;have q3:=(hb1.block w.heap.size hws).trans hcur;obtain⟨p1,p2,p3,p4⟩:=pair_facts q3;have hne:bt≠w.heap.size:=(by omega);have q5:=fun u:Value=>(cell_set_ne (w:=w1) (g:=w.heap.size) (i:=1) (b:=bt) (o:=k*3+2) (u:=u) hne).trans q2;have hw1:=hb1.size;have hb2:Below w.heap.size w w1:=hbel.trans (hb1.mono (by omega))))
      go_roundw
      case rel=>exact⟨k+1,f0,nb,by omega,by go_num,HR,by omega,by rw[setCell_block q3];rfl,hb2.setCell (Nat.le_refl _) _⟩
      case measure=>simp[intOf];omega
    ·rw[if_neg hneg] at hU
     by_cases hdiff:f1=nb
     ·by_cases hbig:2<nb
      ·have HR:Hid (R.uneven ts=t.row):=by unfold Hid;rw[hU];simp[hbig]
       clear hU
       go_wp2_with (first | (go_at_call 35;refine C1.out.mono ?_;rintro e w1 ⟨rfl,hb1⟩;have q1:=(hb1.cell (p:=⟨bt,k*3,none⟩) (by show bt<_;omega)).trans d0;have q2:=(hb1.cell (p:=⟨bt,k*3+2,none⟩) (by show bt<_;omega)).trans d2;have q3:=(hb1.block w.heap.size hws).trans hcur;obtain⟨p1,p2,p3,p4⟩:=pair_facts q3;have hne:bt≠w.heap.size:=(by omega);have q5:=fun u:Value=>(cell_set_ne (w:=w1) (g:=w.heap.size) (i:=1) (b:=bt) (o:=k*3+2) (u:=u) hne).trans q2;have hw1:=hb1.size;have hb2:Below w.heap.size w w1:=hbel.trans (hb1.mono (by omega))))
       go_ret
       rw[HR.out]
       exact⟨rfl,hb2⟩
      ·have HR:Hid (R.uneven ts=R.unevenGo f0 f1 (ts.drop (k+1))):=by unfold Hid;rw[hU];simp[hbig,hdiff]
       clear hU
       go_wp2_with (first | (go_at_call 35;refine C1.out.mono ?_;rintro e w1 ⟨rfl,hb1⟩;have q1:=(hb1.cell (p:=⟨bt,k*3,none⟩) (by show bt<_;omega)).trans d0;have q2:=(hb1.cell (p:=⟨bt,k*3+2,none⟩) (by show bt<_;omega)).trans d2;have q3:=(hb1.block w.heap.size hws).trans hcur;obtain⟨p1,p2,p3,p4⟩:=pair_facts q3;have hne:bt≠w.heap.size:=(by omega);have q5:=fun u:Value=>(cell_set_ne (w:=w1) (g:=w.heap.size) (i:=1) (b:=bt) (o:=k*3+2) (u:=u) hne).trans q2;have hw1:=hb1.size;have hb2:Below w.heap.size w w1:=hbel.trans (hb1.mono (by omega))))
       go_roundw
       case rel=>exact⟨k+1,f0,f1,by omega,by go_num,HR,hf,q3,hb2⟩
       case measure=>simp[intOf];omega
     ·have HR:Hid (R.uneven ts=t.row):=by unfold Hid;rw[hU];simp[hdiff]
      clear hU
      go_wp2_with (first | (go_at_call 35;refine C1.out.mono ?_;rintro e w1 ⟨rfl,hb1⟩;have q1:=(hb1.cell (p:=⟨bt,k*3,none⟩) (by show bt<_;omega)).trans d0;have q2:=(hb1.cell (p:=⟨bt,k*3+2,none⟩) (by show bt<_;omega)).trans d2;have q3:=(hb1.block w.heap.size hws).trans hcur;obtain⟨p1,p2,p3,p4⟩:=pair_facts q3;have hne:bt≠w.heap.size:=(by omega);have q5:=fun u:Value=>(cell_set_ne (w:=w1) (g:=w.heap.size) (i:=1) (b:=bt) (o:=k*3+2) (u:=u) hne).trans q2;have hw1:=hb1.size;have hb2:Below w.heap.size w w1:=hbel.trans (hb1.mono (by omega))))
      go_ret
      rw[HR.out]
      exact⟨rfl,hb2⟩
  ·have HU':Hid (R.uneven ts=0):=by
    unfold Hid;rw[HU.out,List.drop_eq_nil_of_le (by have:=HN.out;omega)];rfl
   go_wp2
   go_ret
   rw[HU'.out]
   exact⟨rfl,hbel⟩
end Go.Proofs.YtpkjmdcabdplfaaGreatDoor
namespace Go.Proofs.YtpkjmdcabdplfaaGreatDoor
open Go
namespace R
structure Ok (x:Lh):Prop where
 r0:-1≤x.reg
 r1:x.reg<4
 v0:-1≤x.var
 v1:x.var<3
 a0:-5≤x.a
 a1:x.a<4
 b0:-5≤x.b
 b1:x.b<4
 o:x.ord.size≤10
 s:x.scope.size≤10
theorem idx_mem (v:List UInt8) (l:List (List UInt8)):∀ k,0≤k→0≤idxFrom v k l→v∈l:=by
 induction l with
 | nil=>intro k _ h;simp[idxFrom] at h
 | cons x r ih =>
  intro k hk h
  simp only[idxFrom] at h
  split at h
  ·rename_i hc
   simp at hc
   simp[hc.1]
  ·exact List.mem_cons_of_mem _ (ih (k+1) (by omega) h)
theorem inn_mem (v l:List UInt8) (h:0≤inn v l):v∈P.splitAt 32 l:=idx_mem v _ 0 (by omega) h
theorem regs_bd (v:List UInt8):-1≤inn v regs∧inn v regs<4:=by rw[inn_regs];(repeat' split)<;>omega
theorem nums_bd (v:List UInt8):-1≤inn v nums∧inn v nums<4:=by rw[inn_nums];(repeat' split)<;>omega
theorem vars_bd (v:List UInt8):-1≤inn v vars∧inn v vars<3:=by rw[inn_vars];(repeat' split)<;>omega
theorem opd_bd (v:List UInt8):-5≤(opd v).1∧(opd v).1<4:=by
 have h1:=regs_bd v
 have h2:=nums_bd v
 unfold opd
 split<;>simp only[]<;>omega
theorem ok_x0:Ok x0:=⟨by decide,by decide,by decide,by decide,by decide,by decide,by decide,by decide,by decide,by decide⟩
theorem ok_if (a:Int) (h0:-5≤a) (h1:a<4):Ok (lIf a):=⟨ok_x0.r0,ok_x0.r1,ok_x0.v0,ok_x0.v1,h0,h1,ok_x0.b0,ok_x0.b1,ok_x0.o,ok_x0.s⟩
theorem how_ok (x:Lh) (orders:List UInt8) (ws:List ByteArray) (hx:Ok x) (ho:∀ y∈P.splitAt 32 orders,y.length≤10) (h:(how x orders ws).2=true):Ok (how x orders ws).1:=by
 have hs:∀ y∈P.splitAt 32 scopes,y.length≤10:=by decide
 unfold how at h ⊢
 split at h
 ·simp at h
 ·split at h
  ·rename_i o r hw
   simp only[Bool.and_eq_true,decide_eq_true_eq] at h
   have:=ho _ (inn_mem _ _ h.1)
   rw[if_pos hw]
   exact⟨hx.r0,hx.r1,hx.v0,hx.v1,hx.a0,hx.a1,hx.b0,hx.b1,by rw[size_toList] at this;exact this,hx.s⟩
  ·rename_i o r hw
   rw[if_neg hw]
   split at h
   ·simp at h
   ·rename_i hi
    rw[if_neg hi]
    have h1:=ho _ (inn_mem o.toList orders (by omega))
    split at h
    ·rename_i s
     simp only[decide_eq_true_eq] at h
     have h2:=hs _ (inn_mem _ _ h)
     exact⟨hx.r0,hx.r1,hx.v0,hx.v1,hx.a0,hx.a1,hx.b0,hx.b1,by rw[size_toList] at h1;exact h1,by rw[size_toList] at h2;exact h2⟩
    ·simp at h
theorem assign_ok (d c:ByteArray) (r:List ByteArray) (h:(assign d c r).2=true):Ok (assign d c r).1:=by
 have hL:∀ y∈P.splitAt 32 oLoad,y.length≤10:=by decide
 have hS:∀ y∈P.splitAt 32 oStep,y.length≤10:=by decide
 have z:=ok_x0
 have rd:=regs_bd d.toList
 unfold assign at h ⊢
 split at h
 ·rename_i hc
  rw[if_pos hc]
  split at h
  ·rename_i p q
   have v:=vars_bd p.toList
   simp only[stLoad,Bool.and_eq_true] at h ⊢
   exact how_ok _ _ _ ⟨rd.1,rd.2,v.1,v.2,z.a0,z.a1,z.b0,z.b1,z.o,z.s⟩ hL h.1.2
  ·simp at h
 ·rename_i hc
  rw[if_neg hc]
  split at h
  ·rename_i hc
   rw[if_pos hc]
   split at h
   ·rename_i p u q _
    have v:=vars_bd p.toList
    have o:=opd_bd u.toList
    simp only[stStep,Bool.and_eq_true] at h ⊢
    exact how_ok _ _ _ ⟨rd.1,rd.2,v.1,v.2,o.1,o.2,z.b0,z.b1,z.o,z.s⟩ hS h.1.1.2
   ·simp at h
  ·rename_i hc
   rw[if_neg hc]
   have o:=opd_bd c.toList
   split at h
   ·exact⟨rd.1,rd.2,z.v0,z.v1,o.1,o.2,z.b0,z.b1,z.o,z.s⟩
   ·rename_i s b _
    have o2:=opd_bd b.toList
    exact⟨rd.1,rd.2,z.v0,z.v1,o.1,o.2,o2.1,o2.2,z.o,z.s⟩
   ·exact⟨rd.1,rd.2,z.v0,z.v1,o.1,o.2,z.b0,z.b1,z.o,z.s⟩
theorem stmt_ok (c:ByteArray) (w:List ByteArray) (h:(stmt c w).2=true):Ok (stmt c w).1:=by
 have hF:∀ y∈P.splitAt 32 oFence,y.length≤10:=by decide
 have hS:∀ y∈P.splitAt 32 oStore,y.length≤10:=by decide
 have z:=ok_x0
 unfold stmt at h ⊢
 split at h
 ·rename_i hc
  rw[if_pos hc]
  exact⟨z.r0,z.r1,z.v0,z.v1,z.a0,z.a1,z.b0,z.b1,z.o,z.s⟩
 ·rename_i hc
  rw[if_neg hc]
  split at h
  ·rename_i hc
   rw[if_pos hc]
   exact how_ok _ _ _ ⟨z.r0,z.r1,z.v0,z.v1,z.a0,z.a1,z.b0,z.b1,z.o,z.s⟩ hF h
  ·rename_i hc
   rw[if_neg hc]
   split at h
   ·rename_i hc
    rw[if_pos hc]
    split at h
    ·rename_i p v q
     have hv:=vars_bd p.toList
     have o:=opd_bd v.toList
     simp only[stStore,Bool.and_eq_true] at h ⊢
     exact how_ok _ _ _ ⟨z.r0,z.r1,hv.1,hv.2,o.1,o.2,z.b0,z.b1,z.o,z.s⟩ hS h.1.2
    ·simp at h
   ·rename_i hc
    rw[if_neg hc]
    split at h
    ·split at h
     ·rename_i hc
      rw[if_pos hc]
      exact assign_ok _ _ _ h
     ·simp at h
    ·simp at h
def opsL:List (List UInt8):=[[108,111,97,100],[115,116,111,114,101],[97,100,100],[115,119,97,112],[102,101,110,99,101],[98,97,114,114,105,101,114],[115,101,116],[105,102]]
theorem how_op (x:Lh) (orders:List UInt8) (ws:List ByteArray):(how x orders ws).1.op=x.op:=by
 unfold how
 repeat' split
 all_goals rfl
theorem assign_op (d c:ByteArray) (r:List ByteArray) (h:(assign d c r).2=true):(assign d c r).1.op.toList∈opsL:=by
 unfold assign at h ⊢
 split at h
 ·rename_i hc
  rw[if_pos hc]
  split at h
  ·simp only[stLoad,how_op,sLoad,lit_toList];decide
  ·simp at h
 ·rename_i hc
  rw[if_neg hc]
  split at h
  ·rename_i hc
   rw[if_pos hc]
   split at h
   ·simp only[stStep,how_op]
    simp only[Bool.and_eq_true,Bool.or_eq_true,beq_iff_eq] at hc
    rcases hc.1 with e | e<;>rw[e]<;>decide
   ·simp at h
  ·rename_i hc
   rw[if_neg hc]
   split<;>simp only[stOne,stTwo,stElse,sSet,lit_toList]<;>decide
theorem stmt_op (c:ByteArray) (w:List ByteArray) (h:(stmt c w).2=true):(stmt c w).1.op.toList∈opsL:=by
 unfold stmt at h ⊢
 split at h
 ·rename_i hc
  rw[if_pos hc]
  simp only[sBarrier,lit_toList];decide
 ·rename_i hc
  rw[if_neg hc]
  split at h
  ·rename_i hc
   rw[if_pos hc,how_op]
   simp only[sFence,lit_toList];decide
  ·rename_i hc
   rw[if_neg hc]
   split at h
   ·rename_i hc
    rw[if_pos hc]
    split at h
    ·simp only[stStore,how_op,sStore,lit_toList];decide
    ·simp at h
   ·rename_i hc
    rw[if_neg hc]
    split at h
    ·split at h
     ·rename_i hc
      rw[if_pos hc]
      exact assign_op _ _ _ h
     ·simp at h
    ·simp at h
structure Fit (x:Lh):Prop where
 ok:Ok x
 op:x.op.toList∈opsL
def okL:List Tree→Prop
 | []=>True
 | ⟨x,b⟩::r=>(Fit x∧okL b)∧okL r
def okT (t:Tree):Prop:=Fit t.x∧okL t.body
theorem okL_nil:okL []=True:=by simp only[okL]
theorem okL_cons (t:Tree) (r:List Tree):okL (t::r)=(okT t∧okL r):=by cases t;simp only[okL,okT]
theorem okL_append (a b:List Tree):okL (a++b) ↔ okL a∧okL b:=by
 induction a with
 | nil=>simp[okL_nil,okL_cons]
 | cons t r ih=>simp[okL_nil,okL_cons,ih,and_assoc]
structure OkS (s:St):Prop where
 ts:∀ t∈s.ts,okL t.body
 fs:∀ f∈s.opn,okL f.l∧-5≤f.a∧f.a<4
theorem addLast_ok (ts:List Th) (x:Tree) (h:∀ t∈ts,okL t.body) (hx:okT x):∀ t∈addLast ts x,okL t.body:=by
 match ts,h with
 | [],_=>simp[addLast]
 | [t],h =>
  intro u hu
  simp[addLast] at hu
  subst hu
  exact (okL_append _ _).2 ⟨h t (by simp),by simpa [okL_nil,okL_cons] using hx⟩
 | t::v::r,h =>
  intro u hu
  simp only[addLast,List.mem_cons] at hu
  rcases hu with rfl | hu
  ·exact h u (by simp)
  ·exact addLast_ok (v::r) x (fun t ht=>h t (List.mem_cons_of_mem _ ht)) hx u hu
theorem addTop_ok (ts:List Fr) (x:Tree) (h:∀ f∈ts,okL f.l∧-5≤f.a∧f.a<4) (hx:okT x):∀ f∈addTop ts x,okL f.l∧-5≤f.a∧f.a<4:=by
 match ts,h with
 | [],_=>simp[addTop]
 | [t],h =>
  intro u hu
  simp[addTop] at hu
  subst hu
  exact⟨(okL_append _ _).2 ⟨(h t (by simp)).1,by simpa [okL_nil,okL_cons] using hx⟩,(h t (by simp)).2⟩
 | t::v::r,h =>
  intro u hu
  simp only[addTop,List.mem_cons] at hu
  rcases hu with rfl | hu
  ·exact h u (by simp)
  ·exact addTop_ok (v::r) x (fun t ht=>h t (List.mem_cons_of_mem _ ht)) hx u hu
theorem put_ok (s:St) (x:Tree) (h:OkS s) (hx:okT x):OkS (put s x):=by
 unfold put
 split
 ·exact⟨addLast_ok _ _ h.ts hx,h.fs⟩
 ·exact⟨h.ts,addTop_ok _ _ h.fs hx⟩
theorem step_ok {s s':St} {i:Int} {c:ByteArray} {w:List ByteArray} (hs:OkS s) (h:step s i c w=some s'):OkS s':=by
 unfold step at h
 split at h
 ·unfold begins at h
  split at h
  ·split at h
   ·simp at h
    rw[← h]
    refine⟨fun t ht=>?_,hs.fs⟩
    simp at ht
    rcases ht with ht | rfl
    ·exact hs.ts t ht
    ·simp[okL_nil,okL_cons]
   ·simp at h
  ·simp at h
 ·split at h
  ·simp at h
  ·split at h
   ·unfold ends at h
    split at h
    ·simp at h
    ·rename_i f hf
     split at h
     ·simp at h
      rw[← h]
      have hm:=hs.fs f (List.mem_of_getLast? hf)
      exact put_ok _ _ ⟨hs.ts,fun f hf=>hs.fs f (List.dropLast_subset _ hf)⟩ (by simp only[okT];exact⟨⟨ok_if _ hm.2.1 hm.2.2,by simp only[lIf,sIf,lit_toList];decide⟩,hm.1⟩)
     ·simp at h
   ·split at h
    ·unfold branch at h
     split at h
     ·rename_i a
      split at h
      ·simp at h
       rw[← h]
       refine⟨hs.ts,fun f hf=>?_⟩
       simp at hf
       rcases hf with hf | rfl
       ·exact hs.fs f hf
       ·exact⟨by simp[okL_nil,okL_cons],opd_bd _⟩
      ·simp at h
     ·simp at h
    ·unfold one at h
     split at h
     ·rename_i hc
      simp only[Bool.and_eq_true] at hc
      simp at h
      rw[← h]
      exact put_ok _ _ ⟨hs.ts,hs.fs⟩ (by simp only[okT,okL_nil,okL_cons];exact⟨⟨stmt_ok _ _ hc.2,stmt_op _ _ hc.2⟩,trivial⟩)
     ·simp at h
theorem run_ok (xs:List (List UInt8)):∀ (s s':St) (i:Int),OkS s→(run s i xs).1=some s'→OkS s':=by
 induction xs with
 | nil=>intro s s' i hs h;simp[run] at h;rw[← h];exact hs
 | cons x xs ih =>
  intro s s' i hs h
  simp only[run] at h
  cases hw:(P.splitAt 32 x).map mkB with
  | nil=>rw[hw] at h;simp at h
  | cons c w =>
   rw[hw] at h
   simp only[] at h
   cases hst:step s (i+1) c w with
   | none=>rw[hst] at h;simp at h
   | some s2 =>
    rw[hst] at h
    exact ih s2 s' (i+1) (step_ok hs hst) h
theorem read_ok (l:List UInt8):∀ t∈(read l).1,okL t.body:=by
 unfold read
 split
 ·simp
 ·have R0:=run_ok (P.splitAt 10 l).dropLast St.zero
  have R1:=fun s'=>R0 s' 0 ⟨by simp[St.zero],by simp[St.zero]⟩
  clear R0
  generalize run St.zero 0 (P.splitAt 10 l).dropLast=o at R1 ⊢
  obtain⟨o,n⟩:=o
  cases o with
  | none=>simp
  | some s =>
   have:=R1 s rfl
   have e:∀ t:Th,t∈([]:List Th)→okL t.body:=fun t ht=>by simp at ht
   simp only[]
   repeat' split
   all_goals first | exact this.ts | exact e
end R
namespace R
def opnSz:List Fr→Int
 | []=>0
 | f::r=>(1+sizeL f.l)+opnSz r
def lastSz:List Th→Int
 | []=>0
 | [t]=>sizeL t.body
 | _::u::r=>lastSz (u::r)
theorem lastSz_snoc (ts:List Th) (t:Th):lastSz (ts++[t])=sizeL t.body:=by
 induction ts with
 | nil=>rfl
 | cons a r ih=>cases r with
  | nil=>rfl
  | cons b q=>simpa [lastSz] using ih
theorem opnSz_snoc (fs:List Fr) (f:Fr):opnSz (fs++[f])=opnSz fs+(1+sizeL f.l):=by
 induction fs with
 | nil=>simp[opnSz]
 | cons a r ih=>simp only[List.cons_append,opnSz,ih];omega
theorem sizeL_nn (l:List Tree):0≤sizeL l:=(numL_bd (fun _=>true) l).1
theorem opnSz_nn (fs:List Fr):0≤opnSz fs:=by
 induction fs with
 | nil=>simp[opnSz]
 | cons f r ih=>have:=sizeL_nn f.l;simp only[opnSz];omega
theorem lastSz_nn:∀ ts:List Th,0≤lastSz ts
 | []=>by simp[lastSz]
 | [t]=>by simpa [lastSz] using sizeL_nn t.body
 | _::u::r=>by simpa [lastSz] using lastSz_nn (u::r)
theorem sizeL_snoc (l:List Tree) (x:Lh) (b:List Tree):sizeL (l++[.mk x b])=sizeL l+(1+sizeL b):=by
 unfold sizeL
 rw[numL_append]
 simp[numL_nil,numL_cons,numT]
structure SzS (s:St):Prop where
 all:∀ t∈s.ts,sizeL t.body≤8
 sum:lastSz s.ts+opnSz s.opn≤s.count
 cnt:s.count≤8
 nth:s.ts.length≤4
 nop:s.opn.length≤2
 blk:∀ t∈s.ts,t.block=0∨t.block=1
theorem SzS.zero:SzS St.zero:=⟨by simp[St.zero],by simp[St.zero,lastSz,opnSz],by simp[St.zero],by simp[St.zero],by simp[St.zero],by simp[St.zero]⟩
theorem put_sz (s:St) (x:Lh) (b:List Tree) (hts:s.ts≠[]) (h1:∀ t∈s.ts,sizeL t.body≤8) (h2:lastSz s.ts+opnSz s.opn+(1+sizeL b)≤s.count) (h3:s.count≤8) (h4:s.ts.length≤4) (h5:s.opn.length≤2) (h6:∀ t∈s.ts,t.block=0∨t.block=1):SzS (put s (.mk x b)):=by
 obtain⟨us,t,e⟩:=snoc_of s.ts hts
 have hb:=sizeL_nn b
 have ho:=opnSz_nn s.opn
 unfold put
 cases hop:s.opn.isEmpty
 ·obtain⟨fs,f,ef⟩:=snoc_of s.opn (by intro h;simp[h] at hop)
  simp only[Bool.false_eq_true,if_false]
  rw[ef,addTop_snoc]
  rw[ef,opnSz_snoc] at h2
  refine⟨h1,?_,h3,h4,?_,h6⟩
  ·show lastSz s.ts+opnSz (fs++[_])≤s.count
   rw[opnSz_snoc,sizeL_snoc];omega
  ·rw[ef] at h5;simpa using h5
 ·simp only[if_true]
  rw[e,addLast_snoc]
  rw[e,lastSz_snoc] at h2
  rw[e] at h1 h4 h6
  have hz:sizeL (t.body++[.mk x b])≤8:=by rw[sizeL_snoc];omega
  refine⟨fun u hu=>?_,?_,h3,by simpa using h4,h5,fun u hu=>?_⟩
  ·simp at hu
   rcases hu with hu | rfl
   ·exact h1 u (by simp[hu])
   ·exact hz
  ·show lastSz (us++[_])+opnSz s.opn≤s.count
   rw[lastSz_snoc,sizeL_snoc];omega
  ·simp at hu
   rcases hu with hu | rfl
   ·exact h6 u (by simp[hu])
   ·exact h6 t (by simp)
theorem bl_bd (v:List UInt8):-1≤inn v bl∧inn v bl<2:=by
 rw[inn_bl];(repeat' split)<;>omega
theorem step_sz {s s':St} {i:Int} {c:ByteArray} {w:List ByteArray} (hs:SzS s) (h:step s i c w=some s'):SzS s':=by
 have ho:=opnSz_nn s.opn
 have hl:=lastSz_nn s.ts
 unfold step at h
 split at h
 ·unfold begins at h
  split at h
  ·rename_i d
   split at h
   ·rename_i hc
    simp at h hc
    rw[← h]
    have hb:=bl_bd d.toList
    refine⟨fun t ht=>?_,?_,by simp,?_,hs.nop,fun t ht=>?_⟩
    ·simp at ht
     rcases ht with ht | rfl
     ·exact hs.all t ht
     ·simp[sizeL,numL_nil,numL_cons]
    ·show lastSz (s.ts++[_])+opnSz s.opn≤0
     rw[lastSz_snoc,hc.1.2];simp[sizeL,numL_nil,numL_cons,opnSz]
    ·have:=hs.nth
     simp;omega
    ·simp at ht
     rcases ht with ht | rfl
     ·exact hs.blk t ht
     ·have:=hc.1.1;simp only[];omega
   ·simp at h
  ·simp at h
 ·split at h
  ·simp at h
  ·rename_i hne
   have hts:s.ts≠[]:=by intro e;simp[e] at hne
   split at h
   ·unfold ends at h
    split at h
    ·simp at h
    ·rename_i f hf
     split at h
     ·simp at h
      rw[← h]
      obtain⟨fs,g,e⟩:=snoc_of s.opn (by intro e;rw[e] at hf;simp at hf)
      rw[e] at hf
      simp at hf
      subst hf
      have h2:=hs.sum
      have h5:=hs.nop
      rw[e,opnSz_snoc] at h2
      rw[e] at h5
      refine put_sz _ _ _ hts hs.all ?_ hs.cnt hs.nth ?_ hs.blk
      ·simp only[e,List.dropLast_concat];omega
      ·simp only[e,List.dropLast_concat];simp at h5;omega
     ·simp at h
   ·split at h
    ·unfold branch at h
     split at h
     ·rename_i a
      split at h
      ·rename_i hc
       simp at h hc
       rw[← h]
       refine⟨hs.all,?_,?_,hs.nth,?_,hs.blk⟩
       ·show lastSz s.ts+opnSz (s.opn++[_])≤s.count+1
        have:=hs.sum
        rw[opnSz_snoc];simp[sizeL,numL_nil,numL_cons];omega
       ·show s.count+1≤8
        omega
       ·simp;omega
      ·simp at h
     ·simp at h
    ·unfold one at h
     split at h
     ·rename_i hc
      simp only[Bool.and_eq_true,decide_eq_true_eq] at hc
      simp at h
      rw[← h]
      have:=hs.sum
      refine put_sz _ _ _ hts hs.all ?_ ?_ hs.nth hs.nop hs.blk
      ·simp[sizeL,numL_nil,numL_cons];omega
      ·simp only[];omega
     ·simp at h
theorem run_sz (xs:List (List UInt8)):∀ (s s':St) (i:Int),SzS s→(run s i xs).1=some s'→SzS s':=by
 induction xs with
 | nil=>intro s s' i hs h;simp[run] at h;rw[← h];exact hs
 | cons x xs ih =>
  intro s s' i hs h
  simp only[run] at h
  cases hw:(P.splitAt 32 x).map mkB with
  | nil=>rw[hw] at h;simp at h
  | cons c w =>
   rw[hw] at h
   simp only[] at h
   cases hst:step s (i+1) c w with
   | none=>rw[hst] at h;simp at h
   | some s2 =>
    rw[hst] at h
    exact ih s2 s' (i+1) (step_sz hs hst) h
structure Sm (ts:List Th):Prop where
 all:∀ t∈ts,sizeL t.body≤8
 nth:ts.length≤4
 blk:∀ t∈ts,t.block=0∨t.block=1
theorem read_sz (l:List UInt8):Sm (read l).1:=by
 have z:Sm []:=⟨by simp,by simp,by simp⟩
 unfold read
 split
 ·exact z
 ·have R1:=fun s'=>run_sz (P.splitAt 10 l).dropLast St.zero s' 0 SzS.zero
  generalize run St.zero 0 (P.splitAt 10 l).dropLast=o at R1 ⊢
  obtain⟨o,n⟩:=o
  cases o with
  | none=>exact z
  | some s =>
   have:=R1 s rfl
   simp only[]
   repeat' split
   all_goals first | exact⟨this.all,this.nth,this.blk⟩ | exact z
end R
end Go.Proofs.YtpkjmdcabdplfaaGreatDoor
