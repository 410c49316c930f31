import Derived.Test.YtpkjmdcabdplfaaGreatDoorB36
import Derived.Test.YtpkjmdcabdplfaaGreatDoorB43
import Derived.Test.YtpkjmdcabdplfaaGreatDoorB44
set_option linter.unusedVariables false
set_option linter.unusedSimpArgs false
namespace Go.Proofs.YtpkjmdcabdplfaaGreatDoor
open Go Go.RowKit
set_option maxRecDepth 100000
theorem ThsAt.getL3 {w:World} {B bt n cap:Nat} {ts:List R.Th} {vs:List Value} {Fs:List (List Nat)} (h:ThsAt w B (.slice (some ⟨bt,0,none⟩) n cap) ts vs Fs) (hn:n=ts.length) (k:Nat) (hk:k<ts.length) :
  bt<w.heap.size∧∃ u F,w.cell? ⟨bt,k*3,none⟩=some (.int .i64 ts[k].block)∧w.cell? ⟨bt,k*3+1,none⟩=some u∧LinesAt w B u ts[k].body F:=h.getL2 hn k hk
def pureL (ts:List R.Th) (k:Nat):List Value:=(List.range k).map fun v:Nat=>.bool (R.pureV ts (v:Int))
theorem pureL_snoc (ts:List R.Th) (k:Nat):pureL ts (k+1)=pureL ts k++[.bool (R.pureV ts k)]:=by
 unfold pureL;rw[List.range_succ,List.map_append];rfl
theorem pure_of (ts:List R.Th) {w w2:World} {B g:Nat} {t:ByteArray} {n:Int} {pv:Value} {fb:Bool} (hw:VrAt w g t n pv fb) (ho:w.ownsRow B 4 1 pv 3 (pureL ts 3)) (hg:w.grownBy w2 (some g)):PureAt w2 pv fb (fun v=>fb&&R.pureV ts v):=by
 cases fb
 ·exact Or.inl ⟨rfl,fun v=>rfl⟩
 ·refine Or.inr ⟨rfl,?_⟩
  obtain⟨gp,cp,rfl,h1,h2⟩:=ho.form (by omega)
  have hne:gp≠g:=fun e=>own_ne_blk ho hw (by decide) (by rw[e];rfl)
  refine⟨gp,cp,rfl,Nat.lt_of_lt_of_le h2 hg.size,fun v hv=>?_⟩
  rw[World.cell?_of_block (w:=w) (a:=⟨gp,v,none⟩) (hg.block gp h2 (by simpa using hne)),ho.cellAt v (by omega)]
  have:v=0∨v=1∨v=2:=by omega
  rcases this with rfl | rfl | rfl<;>rfl
theorem pureV_fin {w w1 w3:World} {pv:Value} {fb:Bool} {k:Nat} {xs ys:List Value} {P:Bool} (hwr:VrAt w1 w.heap.size ⟨#[]⟩ 0 pv fb) (hown:w1.ownsRow w.heap.size 4 1 pv k xs) (hb:Below w.heap.size w w1) (g1 cap1:Nat) (hown3:w3.ownsRow w.heap.size 4 1 (.slice (some ⟨g1,0,none⟩) (k+1) cap1) (k+1) ys) (hgrow:(w1.drew.alloc (.cells #[.bool P] 4)).grownBy w3 pv.ownBlock) :
  VrAt (w3.setCell ⟨w.heap.size,2,none⟩ (.slice (some ⟨g1,0,none⟩) (k+1) cap1)) w.heap.size ⟨#[]⟩ 0 (.slice (some ⟨g1,0,none⟩) (k+1) cap1) fb∧(w3.setCell ⟨w.heap.size,2,none⟩ (.slice (some ⟨g1,0,none⟩) (k+1) cap1)).ownsRow w.heap.size 4 1 (.slice (some ⟨g1,0,none⟩) (k+1) cap1) (k+1) ys∧Below w.heap.size w (w3.setCell ⟨w.heap.size,2,none⟩ (.slice (some ⟨g1,0,none⟩) (k+1) cap1)):=by
 have hlt:=hwr.lt
 have hne:some w.heap.size≠pv.ownBlock:=Ne.symm (own_ne_blk hown hwr (by decide))
 have e1:w3.heap[w.heap.size]?=w1.heap[w.heap.size]?:=by
  rw[hgrow.block w.heap.size (by simp;omega) hne]
  exact Below.heap_alloc _ _ _ hlt
 have h3:VrAt w3 w.heap.size ⟨#[]⟩ 0 pv fb:=hwr.of_block e1
 refine⟨h3.setP _,ownsRow_keep hown3 (fun j hj=>Below.heap_setCell _ _ _ _ (fun e=>?_)),?_⟩
 ·simp at e;subst e
  obtain⟨c,hc⟩:=own_type hown3 hj
  unfold VrAt at h3
  rw[h3] at hc;simp at hc
 ·exact Below.setCell (Below.grown ((hb.drew).alloc hb.size _) hgrow (by simp;omega) (fun j hj=>(hown.lt j hj).1)) (Nat.le_refl _) _
set_option maxHeartbeats 12800000 in
theorem compiledLo_any (B bt n cap:Nat) (way:Int) (fb:Bool) (ts:List R.Th) (vs:List Value) (Fs:List (List Nat)) (w:World) (h:ThsAt w B (.slice (some ⟨bt,0,none⟩) n cap) ts vs Fs) (hg:GT n ts) (hn0:0<n) (hnb:n≤4) (hw0:0≤way) (hw1:way<2) (hfb:(way % 2==1)=fb) :
  Calls Tryz.prog 8 #[.slice (some ⟨bt,0,none⟩) n cap,.int .i64 way] w fun e w'=>∃ s,e=.returned (.string s)∧s.toList=R.textPs (fun v=>fb&&R.pureV ts v) 0 ts∧Below w.heap.size w w':=by
 have HY:=hide h
 have HG:=hide hg
 have hw2:¬ (2≤way):=by omega
 clear h hg
 go_enter Tryz.func8,Tryz.ntmps8
 go_wp2
 go_loopw [6] (fun i wr=>∃ (k:Nat) (pv:Value),k≤3∧i=.int .i64 k∧VrAt wr w.heap.size ⟨#[]⟩ 0 pv fb∧wr.ownsRow w.heap.size 4 1 pv k (pureL ts k)∧Below w.heap.size w wr) (fun i _=>3-(intOf i).toNat)
 case atStart=>exact⟨0,.slice none 0 0,Nat.zero_le _,rfl,heap_alloc_new w _,World.ownsRow_nil _ _ _ _,(Below.refl _ _).alloc (Nat.le_refl _) _⟩
 case round =>
  obtain⟨k,pv,hk,rfl,hwr,hown,hbel⟩:=hrel
  by_cases hlt:k<3
  ·have hin:(k:Int)<3:=by omega
   have HT:Hid (ThsAt wr B (.slice (some ⟨bt,0,none⟩) n cap) ts vs Fs):=HY.out.keep (fun j hj=>hbel.block j hj)
   have hws:w.heap.size<wr.heap.size:=hwr.lt
   have HW:=hide hwr
   have HOW:=hide hown
   have HBL:=hide hbel
   clear hwr hown hbel
   go_wp2_with (first | (go_at_call 20;refine (touched2_any B bt n cap (k:Int) ts vs Fs _ HT.out HG.out.len.symm (by omega) (fun t ht=>HG.out.sz t ht) HG.out.blk).mono ?_;rintro e w1 ⟨rfl,hpair,hb1⟩))
   have hw1:=hb1.size
   have hlt1:wr.heap.size<w1.heap.size:=(Array.getElem?_eq_some_iff.1 hpair).1
   obtain⟨p1,p2,p3,p4⟩:=pairB_facts hpair
   have hwr1:=HW.out.below hb1
   obtain⟨glt,gfr,g0,g1,g2,g3⟩:=hwr1.facts
   have hown1:w1.ownsRow w.heap.size 4 1 pv k (pureL ts k):=ownsRow_keep HOW.out (fun j hj=>hb1.block j (HOW.out.lt j hj).2)
   have hne:some w.heap.size≠pv.ownBlock:=Ne.symm (own_ne_blk hown1 hwr1 (by decide))
   have hb2:Below w.heap.size w w1:=HBL.out.trans (hb1.mono (by omega))
   have hne2:some wr.heap.size≠pv.ownBlock:=fun e=>by have:=(HOW.out.lt _ e.symm).2;omega
   generalize hx0:R.anyB (R.hasV (k:Int)) 0 ts=b0 at *
   generalize hx1:R.anyB (R.hasV (k:Int)) 1 ts=b1 at *
   generalize hxp:R.anyV (R.weakX (k:Int)) ts=p at *
   generalize hxq:R.anyV (R.smallX (k:Int)) ts=q at *
   rcases p with _ | _
   ·rcases b0 with _ | _
    ·skip
     refine VurRegB b1 q w1 w.heap.size w.heap.size wr.heap.size k pv fb _ hwr1 hpair hown1 hlt (by omega) (by omega) hne2 _ (fun _ _ d _ _ h=>by cases d<;>exact h) _ _ _ _ _ _ _ _ _ _ _ _ _ _ _ _ _ _ _ _ _ _ _ _ _ _ _ _ _ _ _ _ _ _ _ _ _ _ _ _ _ _ _ _ _ _ _ _ _ _ _ _ _ _ _ _ _ _ _ _ _ _ _ _ _ _ _ _ _ _ _ _ _ _ _ _ _ _ _ _ _ _ _ _ _ _ _ ?_
     intro x32 x33 x34 x35 x36 x37 x38 x39 x40 x41 x42 x43 x44 x45 x46 x47 x48 x49 x50 x51 x52 x53 x54 x55 x56 g1 cap1 w3 hown3 hgrow
     have hown4:w3.ownsRow w.heap.size 4 1 (.slice (some ⟨g1,0,none⟩) (k+1) cap1) (k+1) (pureL ts (k+1)):=by rw[pureL_snoc,show R.pureV ts (k:Int)=true by unfold R.pureV;rw[hx0,hx1,hxp,hxq];rfl];exact hown3
     obtain⟨q1,q2,q3⟩:=pureV_fin hwr1 hown1 hb2 g1 cap1 hown4 hgrow
     have Q1:=hide q1
     have Q2:=hide q2
     clear q1 q2 hown3 hgrow hown4
     go_wp2
     go_roundw
     case rel=>exact⟨k+1,_,by omega,by go_num,Q1.out,Q2.out,q3⟩
     case measure=>simp[intOf];omega
    ·rcases b1 with _ | _
     ·skip
      refine VurRegC q w1 w.heap.size w.heap.size wr.heap.size k pv fb _ hwr1 hpair hown1 hlt (by omega) (by omega) hne2 _ (fun _ _ d _ _ h=>by cases d<;>exact h) _ _ _ _ _ _ _ _ _ _ _ _ _ _ _ _ _ _ _ _ _ _ _ _ _ _ _ _ _ _ _ _ _ _ _ _ _ _ _ _ _ _ _ _ _ _ _ _ _ _ _ _ _ _ _ _ _ _ _ _ _ _ _ _ _ _ _ _ _ _ _ _ _ _ _ _ _ _ _ _ _ _ _ _ _ _ _ ?_
      intro x32 x33 x34 x35 x36 x37 x38 x39 x40 x41 x42 x43 x44 x45 x46 x47 x48 x49 x50 x51 x52 x53 x54 x55 x56 g1 cap1 w3 hown3 hgrow
      have hown4:w3.ownsRow w.heap.size 4 1 (.slice (some ⟨g1,0,none⟩) (k+1) cap1) (k+1) (pureL ts (k+1)):=by rw[pureL_snoc,show R.pureV ts (k:Int)=true by unfold R.pureV;rw[hx0,hx1,hxp,hxq];rfl];exact hown3
      obtain⟨q1,q2,q3⟩:=pureV_fin hwr1 hown1 hb2 g1 cap1 hown4 hgrow
      have Q1:=hide q1
      have Q2:=hide q2
      clear q1 q2 hown3 hgrow hown4
      go_wp2
      go_roundw
      case rel=>exact⟨k+1,_,by omega,by go_num,Q1.out,Q2.out,q3⟩
      case measure=>simp[intOf];omega
     ·rcases q with _ | _
      ·skip
       refine VurRegD  w1 w.heap.size w.heap.size wr.heap.size k pv fb _ hwr1 hpair hown1 hlt (by omega) (by omega) hne2 _ (fun _ _ d _ _ h=>by cases d<;>exact h) _ _ _ _ _ _ _ _ _ _ _ _ _ _ _ _ _ _ _ _ _ _ _ _ _ _ _ _ _ _ _ _ _ _ _ _ _ _ _ _ _ _ _ _ _ _ _ _ _ _ _ _ _ _ _ _ _ _ _ _ _ _ _ _ _ _ _ _ _ _ _ _ _ _ _ _ _ _ _ _ _ _ _ _ _ _ _ ?_
       intro x32 x33 x34 x35 x36 x37 x38 x39 x40 x41 x42 x43 x44 x45 x46 x47 x48 x49 x50 x51 x52 x53 x54 x55 x56 g1 cap1 w3 hown3 hgrow
       have hown4:w3.ownsRow w.heap.size 4 1 (.slice (some ⟨g1,0,none⟩) (k+1) cap1) (k+1) (pureL ts (k+1)):=by rw[pureL_snoc,show R.pureV ts (k:Int)=true by unfold R.pureV;rw[hx0,hx1,hxp,hxq];rfl];exact hown3
       obtain⟨q1,q2,q3⟩:=pureV_fin hwr1 hown1 hb2 g1 cap1 hown4 hgrow
       have Q1:=hide q1
       have Q2:=hide q2
       clear q1 q2 hown3 hgrow hown4
       go_wp2
       go_roundw
       case rel=>exact⟨k+1,_,by omega,by go_num,Q1.out,Q2.out,q3⟩
       case measure=>simp[intOf];omega
      ·skip
       refine VurRegE  w1 w.heap.size w.heap.size wr.heap.size k pv fb _ hwr1 hpair hown1 hlt (by omega) (by omega) hne2 _ (fun _ _ d _ _ h=>by cases d<;>exact h) _ _ _ _ _ _ _ _ _ _ _ _ _ _ _ _ _ _ _ _ _ _ _ _ _ _ _ _ _ _ _ _ _ _ _ _ _ _ _ _ _ _ _ _ _ _ _ _ _ _ _ _ _ _ _ _ _ _ _ _ _ _ _ _ _ _ _ _ _ _ _ _ _ _ _ _ _ _ _ _ _ _ _ _ _ _ _ ?_
       intro x32 x33 x34 x35 x36 x37 x38 x39 x40 x41 x42 x43 x44 x45 x46 x47 x48 x49 x50 x51 x52 x53 x54 x55 x56 g1 cap1 w3 hown3 hgrow
       have hown4:w3.ownsRow w.heap.size 4 1 (.slice (some ⟨g1,0,none⟩) (k+1) cap1) (k+1) (pureL ts (k+1)):=by rw[pureL_snoc,show R.pureV ts (k:Int)=false by unfold R.pureV;rw[hx0,hx1,hxp,hxq];rfl];exact hown3
       obtain⟨q1,q2,q3⟩:=pureV_fin hwr1 hown1 hb2 g1 cap1 hown4 hgrow
       have Q1:=hide q1
       have Q2:=hide q2
       clear q1 q2 hown3 hgrow hown4
       go_wp2
       go_roundw
       case rel=>exact⟨k+1,_,by omega,by go_num,Q1.out,Q2.out,q3⟩
       case measure=>simp[intOf];omega
   ·skip
    refine VurRegA b0 b1 q w1 w.heap.size w.heap.size wr.heap.size k pv fb _ hwr1 hpair hown1 hlt (by omega) (by omega) hne2 _ (fun _ _ d _ _ h=>by cases d<;>exact h) _ _ _ _ _ _ _ _ _ _ _ _ _ _ _ _ _ _ _ _ _ _ _ _ _ _ _ _ _ _ _ _ _ _ _ _ _ _ _ _ _ _ _ _ _ _ _ _ _ _ _ _ _ _ _ _ _ _ _ _ _ _ _ _ _ _ _ _ _ _ _ _ _ _ _ _ _ _ _ _ _ _ _ _ _ _ _ ?_
    intro x32 x33 x34 x35 x36 x37 x38 x39 x40 x41 x42 x43 x44 x45 x46 x47 x48 x49 x50 x51 x52 x53 x54 x55 x56 g1 cap1 w3 hown3 hgrow
    have hown4:w3.ownsRow w.heap.size 4 1 (.slice (some ⟨g1,0,none⟩) (k+1) cap1) (k+1) (pureL ts (k+1)):=by rw[pureL_snoc,show R.pureV ts (k:Int)=false by unfold R.pureV;rw[hx0,hx1,hxp,hxq];rfl];exact hown3
    obtain⟨q1,q2,q3⟩:=pureV_fin hwr1 hown1 hb2 g1 cap1 hown4 hgrow
    have Q1:=hide q1
    have Q2:=hide q2
    clear q1 q2 hown3 hgrow hown4
    go_wp2
    go_roundw
    case rel=>exact⟨k+1,_,by omega,by go_num,Q1.out,Q2.out,q3⟩
    case measure=>simp[intOf];omega
  ·have hk3:k=3:=by omega
   subst hk3
   have HBL:=hide hbel
   have HW:=hide hwr
   have HOW:=hide hown
   clear hown
   go_wp2
   go_loopw [10] (fun i wr=>∃ (k:Nat) (u:ByteArray) (lk:Int),k≤n∧i=.int .i64 k∧VrAt wr w.heap.size u lk pv fb∧Hid (u.toList++R.textPs (fun v=>fb&&R.pureV ts v) lk (ts.drop k)=R.textPs (fun v=>fb&&R.pureV ts v) 0 ts)∧(0≤lk∧lk≤8*(k:Int))∧(u.size:Int)≤(k:Int)*600000∧Hid (wr.ownsRow w.heap.size 4 1 pv 3 (pureL ts 3))∧Below w.heap.size w wr) (fun i _=>n-(intOf i).toNat)
   case atStart=>exact⟨0,⟨#[]⟩,0,Nat.zero_le _,rfl,HW.out,by unfold Hid;simp[lit_toList],by omega,by simp[lit_size],HOW,HBL.out⟩
   case round =>
    clear HW HBL hwr hbel HOW
    obtain⟨k,u,lk,hk,rfl,hwr,HU,hlk,husz,HOW,hbel⟩:=hrel
    by_cases hlt:k<n
    ·have hkl:k<ts.length:=by rw[HG.out.len];exact hlt
     have hin:(k:Int)<(n:Int):=by omega
     obtain⟨hbt,uv,F,c0,c1,L⟩:=HY.out.getL3 HG.out.len.symm k hkl
     have hF:=L.bound
     have hsz:=HG.out.sz ts[k] (List.getElem_mem hkl)
     have hblk:=HG.out.blk ts[k] (List.getElem_mem hkl)
     have hok:=HG.out.ok ts[k] (List.getElem_mem hkl)
     have HD:=hide (P.drop_cons ts k hkl)
     have hnn:=R.sizeL_nn ts[k].body
     have hla:=R.textP_lab (fun v=>fb&&R.pureV ts v) ts[k].body lk
     have HC:Hid (∀ (w2:World) (u2:ByteArray),Below w.heap.size w w2→VrAt w2 w.heap.size u2 lk pv fb→w2.ownsRow w.heap.size 4 1 pv 3 (pureL ts 3)→(u2.size:Int)≤3000000→Calls Tryz.prog 22 #[.pointer (some ⟨w.heap.size,0,none⟩),uv] w2 fun e w'=>e=.returned (.tuple #[])∧w2.grownBy w' (some w.heap.size)∧∃ t',VrAt w' w.heap.size t' (R.textP (fun v=>fb&&R.pureV ts v) lk ts[k].body).2 pv fb∧t'.toList=u2.toList++(R.textP (fun v=>fb&&R.pureV ts v) lk ts[k].body).1∧(t'.size:Int)≤u2.size+60000*R.sizeL ts[k].body):=fun w2 u2 hb2 hw2 ho2 hz2 =>
      linesV_any L (by omega) hok w2 w.heap.size u2 lk pv fb _ (fun j hj=>hb2.block j (hF j hj).2) (fun hj=>by have:=(hF _ hj).2;omega) hw2 (fun w4 h4=>pure_of ts hw2 ho2 h4) hlk.1 (by omega) (by omega)
     generalize ts[k]=t at *
     have d0:=(hbel.cell (p:=⟨bt,k*3,none⟩) hbt).trans c0
     have hbtne:bt≠w.heap.size:=by omega
     have HW:=hide hwr
     have HBL:=hide hbel
     have hws:=hwr.lt
     have hne:=hide (own_ne_blk HOW.out hwr (by decide))
     clear hwr hbel hF L hok c0
     go_wp2_with (first
      | (go_at_call 21;refine (decR_any t.block _ (by omega) (by omega)).mono ?_;rintro e w1 ⟨sd,rfl,hsd,hb1⟩;have zd:=hsd.size;have HW1:=hide (HW.out.below hb1);obtain⟨glt,gfr,g0,g1,g2,g3⟩:=HW1.out.facts;have hb2:Below w.heap.size w w1:=HBL.out.trans (hb1.mono (by omega));have d1:=(hb2.cell (p:=⟨bt,k*3+1,none⟩) hbt).trans c1;have q1:=fun u':Value=>(cell_set_ne (w:=w1) (g:=w.heap.size) (i:=0) (b:=bt) (o:=k*3+1) (u:=u') hbtne).trans d1;have HOW1:=fun u':Value=>hide (ownsRow_keep (w':=w1.setCell ⟨w.heap.size,0,none⟩ u') HOW.out (fun j hj=>(Below.heap_setCell _ _ _ _ (fun e=>hne.out (by simp at e;subst e;exact hj))).trans (hb1.block j (HOW.out.lt j hj).2))))
      | (go_at_call 22;refine (HC.out _ _ (hb2.setCell (Nat.le_refl _) _) (HW1.out.setT _) (HOW1 _).out (by simp[lit_size];omega)).mono ?_;rintro e w2 ⟨rfl,hg2,t',hw2,ht2,hz2⟩;have HOW2:=hide (ownsRow_keep (HOW1 _).out (fun j hj=>hg2.block j (by have:=(HOW.out.lt j hj).2;have:=hb1.size;simp;omega) (fun e=>hne.out (by rw[hj,← e])))))
      )
     go_roundw
     case rel =>
      refine⟨_,_,_,_,_,_,_,_,_,_,_,_,_,_,_,_,_,_,_,_,_,_,_,_,_,_,_,_,_,_,_,_,⟨k+1,t',_,by omega,by go_num,hw2,?_,by omega,?_,HOW2,below_of_new (hb2.setCell (Nat.le_refl _) _) hg2 (Nat.le_refl _)⟩,rfl⟩
      ·unfold Hid;rw[ht2,← HU.out,HD.out];simp[app_toList,lit_toList,hsd.1,R.textPs]
      ·simp[lit_size] at hz2;push_cast;omega
     case measure=>simp[intOf];omega
    ·have hkn:k=n:=by omega
     subst hkn
     obtain⟨glt,gfr,g0,g1,g2,g3⟩:=hwr.facts
     have HE:Hid (u.toList=R.textPs (fun v=>fb&&R.pureV ts v) 0 ts):=by
      unfold Hid
      have h1:=HU.out
      rw[List.drop_eq_nil_of_le (by rw[HG.out.len];omega)] at h1
      simpa [R.textPs] using h1
     go_wp2
     go_ret
     exact⟨u,rfl,HE.out,hbel⟩
set_option maxHeartbeats 12800000 in
theorem compiledHi_any (B bt n cap:Nat) (way:Int) (fb:Bool) (ts:List R.Th) (vs:List Value) (Fs:List (List Nat)) (w:World) (h:ThsAt w B (.slice (some ⟨bt,0,none⟩) n cap) ts vs Fs) (hm:R.Sm ts) (hok:∀ t∈ts,R.okL t.body) (hn:n=ts.length) (hn0:0<n) (hw0:2≤way) (hw1:way<4) (hfb:(way % 2==1)=fb) :
  Calls Tryz.prog 8 #[.slice (some ⟨bt,0,none⟩) n cap,.int .i64 way] w fun e w'=>∃ s,e=.returned (.string s)∧s.toList=R.textPs (fun v=>fb&&R.pureV (R.better ts) v) 0 (R.better ts)∧Below w.heap.size w w':=by
 have hnb:n≤4:=by rw[hn];exact hm.nth
 have HG:=hide ((GT.start hn hm hok).better)
 have HBT:=hide (better_any B bt n cap ts vs Fs w h hn hn0 hm hok)
 clear h hm hok hn
 go_enter Tryz.func8,Tryz.ntmps8
 go_wp2_with (first | (go_at_call 19;refine HBT.out.mono ?_;rintro e wb ⟨bt2,cap2,vy,Fy,rfl,hty,hbw⟩;have HY:=hide hty;clear hty))
 generalize hY:R.better ts=Y at *
 have HYE:=hide hY
 clear hY
 go_loopw [6] (fun i wr=>∃ (k:Nat) (pv:Value),k≤3∧i=.int .i64 k∧VrAt wr wb.heap.size ⟨#[]⟩ 0 pv fb∧wr.ownsRow wb.heap.size 4 1 pv k (pureL Y k)∧Below wb.heap.size wb wr) (fun i _=>3-(intOf i).toNat)
 case atStart=>exact⟨0,.slice none 0 0,Nat.zero_le _,rfl,heap_alloc_new wb _,World.ownsRow_nil _ _ _ _,(Below.refl _ _).alloc (Nat.le_refl _) _⟩
 case round =>
  obtain⟨k,pv,hk,rfl,hwr,hown,hbel⟩:=hrel
  by_cases hlt:k<3
  ·have hin:(k:Int)<3:=by omega
   have HT:Hid (ThsAt wr w.heap.size (.slice (some ⟨bt2,0,none⟩) n cap2) Y vy Fy):=HY.out.keep (fun j hj=>hbel.block j hj)
   have hws:wb.heap.size<wr.heap.size:=hwr.lt
   have HW:=hide hwr
   have HOW:=hide hown
   have HBL:=hide hbel
   clear hwr hown hbel
   go_wp2_with (first | (go_at_call 20;refine (touched2_any w.heap.size bt2 n cap2 (k:Int) Y vy Fy _ HT.out HG.out.len.symm (by omega) (fun t ht=>HG.out.sz t ht) HG.out.blk).mono ?_;rintro e w1 ⟨rfl,hpair,hb1⟩))
   have hw1:=hb1.size
   have hlt1:wr.heap.size<w1.heap.size:=(Array.getElem?_eq_some_iff.1 hpair).1
   obtain⟨p1,p2,p3,p4⟩:=pairB_facts hpair
   have hwr1:=HW.out.below hb1
   obtain⟨glt,gfr,g0,g1,g2,g3⟩:=hwr1.facts
   have hown1:w1.ownsRow wb.heap.size 4 1 pv k (pureL Y k):=ownsRow_keep HOW.out (fun j hj=>hb1.block j (HOW.out.lt j hj).2)
   have hne:some wb.heap.size≠pv.ownBlock:=Ne.symm (own_ne_blk hown1 hwr1 (by decide))
   have hb2:Below wb.heap.size wb w1:=HBL.out.trans (hb1.mono (by omega))
   have hne2:some wr.heap.size≠pv.ownBlock:=fun e=>by have:=(HOW.out.lt _ e.symm).2;omega
   generalize hx0:R.anyB (R.hasV (k:Int)) 0 Y=b0 at *
   generalize hx1:R.anyB (R.hasV (k:Int)) 1 Y=b1 at *
   generalize hxp:R.anyV (R.weakX (k:Int)) Y=p at *
   generalize hxq:R.anyV (R.smallX (k:Int)) Y=q at *
   rcases p with _ | _
   ·rcases b0 with _ | _
    ·skip
     refine VurRegB b1 q w1 wb.heap.size wb.heap.size wr.heap.size k pv fb _ hwr1 hpair hown1 hlt (by omega) (by omega) hne2 _ (fun _ _ d _ _ h=>by cases d<;>exact h) _ _ _ _ _ _ _ _ _ _ _ _ _ _ _ _ _ _ _ _ _ _ _ _ _ _ _ _ _ _ _ _ _ _ _ _ _ _ _ _ _ _ _ _ _ _ _ _ _ _ _ _ _ _ _ _ _ _ _ _ _ _ _ _ _ _ _ _ _ _ _ _ _ _ _ _ _ _ _ _ _ _ _ _ _ _ _ ?_
     intro x32 x33 x34 x35 x36 x37 x38 x39 x40 x41 x42 x43 x44 x45 x46 x47 x48 x49 x50 x51 x52 x53 x54 x55 x56 g1 cap1 w3 hown3 hgrow
     have hown4:w3.ownsRow wb.heap.size 4 1 (.slice (some ⟨g1,0,none⟩) (k+1) cap1) (k+1) (pureL Y (k+1)):=by rw[pureL_snoc,show R.pureV Y (k:Int)=true by unfold R.pureV;rw[hx0,hx1,hxp,hxq];rfl];exact hown3
     obtain⟨q1,q2,q3⟩:=pureV_fin hwr1 hown1 hb2 g1 cap1 hown4 hgrow
     have Q1:=hide q1
     have Q2:=hide q2
     clear q1 q2 hown3 hgrow hown4
     go_wp2
     go_roundw
     case rel=>exact⟨k+1,_,by omega,by go_num,Q1.out,Q2.out,q3⟩
     case measure=>simp[intOf];omega
    ·rcases b1 with _ | _
     ·skip
      refine VurRegC q w1 wb.heap.size wb.heap.size wr.heap.size k pv fb _ hwr1 hpair hown1 hlt (by omega) (by omega) hne2 _ (fun _ _ d _ _ h=>by cases d<;>exact h) _ _ _ _ _ _ _ _ _ _ _ _ _ _ _ _ _ _ _ _ _ _ _ _ _ _ _ _ _ _ _ _ _ _ _ _ _ _ _ _ _ _ _ _ _ _ _ _ _ _ _ _ _ _ _ _ _ _ _ _ _ _ _ _ _ _ _ _ _ _ _ _ _ _ _ _ _ _ _ _ _ _ _ _ _ _ _ ?_
      intro x32 x33 x34 x35 x36 x37 x38 x39 x40 x41 x42 x43 x44 x45 x46 x47 x48 x49 x50 x51 x52 x53 x54 x55 x56 g1 cap1 w3 hown3 hgrow
      have hown4:w3.ownsRow wb.heap.size 4 1 (.slice (some ⟨g1,0,none⟩) (k+1) cap1) (k+1) (pureL Y (k+1)):=by rw[pureL_snoc,show R.pureV Y (k:Int)=true by unfold R.pureV;rw[hx0,hx1,hxp,hxq];rfl];exact hown3
      obtain⟨q1,q2,q3⟩:=pureV_fin hwr1 hown1 hb2 g1 cap1 hown4 hgrow
      have Q1:=hide q1
      have Q2:=hide q2
      clear q1 q2 hown3 hgrow hown4
      go_wp2
      go_roundw
      case rel=>exact⟨k+1,_,by omega,by go_num,Q1.out,Q2.out,q3⟩
      case measure=>simp[intOf];omega
     ·rcases q with _ | _
      ·skip
       refine VurRegD  w1 wb.heap.size wb.heap.size wr.heap.size k pv fb _ hwr1 hpair hown1 hlt (by omega) (by omega) hne2 _ (fun _ _ d _ _ h=>by cases d<;>exact h) _ _ _ _ _ _ _ _ _ _ _ _ _ _ _ _ _ _ _ _ _ _ _ _ _ _ _ _ _ _ _ _ _ _ _ _ _ _ _ _ _ _ _ _ _ _ _ _ _ _ _ _ _ _ _ _ _ _ _ _ _ _ _ _ _ _ _ _ _ _ _ _ _ _ _ _ _ _ _ _ _ _ _ _ _ _ _ ?_
       intro x32 x33 x34 x35 x36 x37 x38 x39 x40 x41 x42 x43 x44 x45 x46 x47 x48 x49 x50 x51 x52 x53 x54 x55 x56 g1 cap1 w3 hown3 hgrow
       have hown4:w3.ownsRow wb.heap.size 4 1 (.slice (some ⟨g1,0,none⟩) (k+1) cap1) (k+1) (pureL Y (k+1)):=by rw[pureL_snoc,show R.pureV Y (k:Int)=true by unfold R.pureV;rw[hx0,hx1,hxp,hxq];rfl];exact hown3
       obtain⟨q1,q2,q3⟩:=pureV_fin hwr1 hown1 hb2 g1 cap1 hown4 hgrow
       have Q1:=hide q1
       have Q2:=hide q2
       clear q1 q2 hown3 hgrow hown4
       go_wp2
       go_roundw
       case rel=>exact⟨k+1,_,by omega,by go_num,Q1.out,Q2.out,q3⟩
       case measure=>simp[intOf];omega
      ·skip
       refine VurRegE  w1 wb.heap.size wb.heap.size wr.heap.size k pv fb _ hwr1 hpair hown1 hlt (by omega) (by omega) hne2 _ (fun _ _ d _ _ h=>by cases d<;>exact h) _ _ _ _ _ _ _ _ _ _ _ _ _ _ _ _ _ _ _ _ _ _ _ _ _ _ _ _ _ _ _ _ _ _ _ _ _ _ _ _ _ _ _ _ _ _ _ _ _ _ _ _ _ _ _ _ _ _ _ _ _ _ _ _ _ _ _ _ _ _ _ _ _ _ _ _ _ _ _ _ _ _ _ _ _ _ _ ?_
       intro x32 x33 x34 x35 x36 x37 x38 x39 x40 x41 x42 x43 x44 x45 x46 x47 x48 x49 x50 x51 x52 x53 x54 x55 x56 g1 cap1 w3 hown3 hgrow
       have hown4:w3.ownsRow wb.heap.size 4 1 (.slice (some ⟨g1,0,none⟩) (k+1) cap1) (k+1) (pureL Y (k+1)):=by rw[pureL_snoc,show R.pureV Y (k:Int)=false by unfold R.pureV;rw[hx0,hx1,hxp,hxq];rfl];exact hown3
       obtain⟨q1,q2,q3⟩:=pureV_fin hwr1 hown1 hb2 g1 cap1 hown4 hgrow
       have Q1:=hide q1
       have Q2:=hide q2
       clear q1 q2 hown3 hgrow hown4
       go_wp2
       go_roundw
       case rel=>exact⟨k+1,_,by omega,by go_num,Q1.out,Q2.out,q3⟩
       case measure=>simp[intOf];omega
   ·skip
    refine VurRegA b0 b1 q w1 wb.heap.size wb.heap.size wr.heap.size k pv fb _ hwr1 hpair hown1 hlt (by omega) (by omega) hne2 _ (fun _ _ d _ _ h=>by cases d<;>exact h) _ _ _ _ _ _ _ _ _ _ _ _ _ _ _ _ _ _ _ _ _ _ _ _ _ _ _ _ _ _ _ _ _ _ _ _ _ _ _ _ _ _ _ _ _ _ _ _ _ _ _ _ _ _ _ _ _ _ _ _ _ _ _ _ _ _ _ _ _ _ _ _ _ _ _ _ _ _ _ _ _ _ _ _ _ _ _ ?_
    intro x32 x33 x34 x35 x36 x37 x38 x39 x40 x41 x42 x43 x44 x45 x46 x47 x48 x49 x50 x51 x52 x53 x54 x55 x56 g1 cap1 w3 hown3 hgrow
    have hown4:w3.ownsRow wb.heap.size 4 1 (.slice (some ⟨g1,0,none⟩) (k+1) cap1) (k+1) (pureL Y (k+1)):=by rw[pureL_snoc,show R.pureV Y (k:Int)=false by unfold R.pureV;rw[hx0,hx1,hxp,hxq];rfl];exact hown3
    obtain⟨q1,q2,q3⟩:=pureV_fin hwr1 hown1 hb2 g1 cap1 hown4 hgrow
    have Q1:=hide q1
    have Q2:=hide q2
    clear q1 q2 hown3 hgrow hown4
    go_wp2
    go_roundw
    case rel=>exact⟨k+1,_,by omega,by go_num,Q1.out,Q2.out,q3⟩
    case measure=>simp[intOf];omega
  ·have hk3:k=3:=by omega
   subst hk3
   have HBL:=hide hbel
   have HW:=hide hwr
   have HOW:=hide hown
   clear hown
   go_wp2
   go_loopw [10] (fun i wr=>∃ (k:Nat) (u:ByteArray) (lk:Int),k≤n∧i=.int .i64 k∧VrAt wr wb.heap.size u lk pv fb∧Hid (u.toList++R.textPs (fun v=>fb&&R.pureV Y v) lk (Y.drop k)=R.textPs (fun v=>fb&&R.pureV Y v) 0 Y)∧(0≤lk∧lk≤8*(k:Int))∧(u.size:Int)≤(k:Int)*600000∧Hid (wr.ownsRow wb.heap.size 4 1 pv 3 (pureL Y 3))∧Below wb.heap.size wb wr) (fun i _=>n-(intOf i).toNat)
   case atStart=>exact⟨0,⟨#[]⟩,0,Nat.zero_le _,rfl,HW.out,by unfold Hid;simp[lit_toList],by omega,by simp[lit_size],HOW,HBL.out⟩
   case round =>
    clear HW HBL hwr hbel HOW
    obtain⟨k,u,lk,hk,rfl,hwr,HU,hlk,husz,HOW,hbel⟩:=hrel
    by_cases hlt:k<n
    ·have hkl:k<Y.length:=by rw[HG.out.len];exact hlt
     have hin:(k:Int)<(n:Int):=by omega
     obtain⟨hbt,uv,F,c0,c1,L⟩:=HY.out.getL3 HG.out.len.symm k hkl
     have hF:=L.bound
     have hsz:=HG.out.sz Y[k] (List.getElem_mem hkl)
     have hblk:=HG.out.blk Y[k] (List.getElem_mem hkl)
     have hok:=HG.out.ok Y[k] (List.getElem_mem hkl)
     have HD:=hide (P.drop_cons Y k hkl)
     have hnn:=R.sizeL_nn Y[k].body
     have hla:=R.textP_lab (fun v=>fb&&R.pureV Y v) Y[k].body lk
     have HC:Hid (∀ (w2:World) (u2:ByteArray),Below wb.heap.size wb w2→VrAt w2 wb.heap.size u2 lk pv fb→w2.ownsRow wb.heap.size 4 1 pv 3 (pureL Y 3)→(u2.size:Int)≤3000000→Calls Tryz.prog 22 #[.pointer (some ⟨wb.heap.size,0,none⟩),uv] w2 fun e w'=>e=.returned (.tuple #[])∧w2.grownBy w' (some wb.heap.size)∧∃ t',VrAt w' wb.heap.size t' (R.textP (fun v=>fb&&R.pureV Y v) lk Y[k].body).2 pv fb∧t'.toList=u2.toList++(R.textP (fun v=>fb&&R.pureV Y v) lk Y[k].body).1∧(t'.size:Int)≤u2.size+60000*R.sizeL Y[k].body):=fun w2 u2 hb2 hw2 ho2 hz2 =>
      linesV_any L (by omega) hok w2 wb.heap.size u2 lk pv fb _ (fun j hj=>hb2.block j (hF j hj).2) (fun hj=>by have:=(hF _ hj).2;omega) hw2 (fun w4 h4=>pure_of Y hw2 ho2 h4) hlk.1 (by omega) (by omega)
     generalize Y[k]=t at *
     have d0:=(hbel.cell (p:=⟨bt2,k*3,none⟩) hbt).trans c0
     have hbtne:bt2≠wb.heap.size:=by omega
     have HW:=hide hwr
     have HBL:=hide hbel
     have hws:=hwr.lt
     have hne:=hide (own_ne_blk HOW.out hwr (by decide))
     clear hwr hbel hF L hok c0
     go_wp2_with (first
      | (go_at_call 21;refine (decR_any t.block _ (by omega) (by omega)).mono ?_;rintro e w1 ⟨sd,rfl,hsd,hb1⟩;have zd:=hsd.size;have HW1:=hide (HW.out.below hb1);obtain⟨glt,gfr,g0,g1,g2,g3⟩:=HW1.out.facts;have hb2:Below wb.heap.size wb w1:=HBL.out.trans (hb1.mono (by omega));have d1:=(hb2.cell (p:=⟨bt2,k*3+1,none⟩) hbt).trans c1;have q1:=fun u':Value=>(cell_set_ne (w:=w1) (g:=wb.heap.size) (i:=0) (b:=bt2) (o:=k*3+1) (u:=u') hbtne).trans d1;have HOW1:=fun u':Value=>hide (ownsRow_keep (w':=w1.setCell ⟨wb.heap.size,0,none⟩ u') HOW.out (fun j hj=>(Below.heap_setCell _ _ _ _ (fun e=>hne.out (by simp at e;subst e;exact hj))).trans (hb1.block j (HOW.out.lt j hj).2))))
      | (go_at_call 22;refine (HC.out _ _ (hb2.setCell (Nat.le_refl _) _) (HW1.out.setT _) (HOW1 _).out (by simp[lit_size];omega)).mono ?_;rintro e w2 ⟨rfl,hg2,t',hw2,ht2,hz2⟩;have HOW2:=hide (ownsRow_keep (HOW1 _).out (fun j hj=>hg2.block j (by have:=(HOW.out.lt j hj).2;have:=hb1.size;simp;omega) (fun e=>hne.out (by rw[hj,← e])))))
      )
     go_roundw
     case rel =>
      refine⟨_,_,_,_,_,_,_,_,_,_,_,_,_,_,_,_,_,_,_,_,_,_,_,_,_,_,_,_,_,_,_,_,⟨k+1,t',_,by omega,by go_num,hw2,?_,by omega,?_,HOW2,below_of_new (hb2.setCell (Nat.le_refl _) _) hg2 (Nat.le_refl _)⟩,rfl⟩
      ·unfold Hid;rw[ht2,← HU.out,HD.out];simp[app_toList,lit_toList,hsd.1,R.textPs]
      ·simp[lit_size] at hz2;push_cast;omega
     case measure=>simp[intOf];omega
    ·have hkn:k=n:=by omega
     subst hkn
     obtain⟨glt,gfr,g0,g1,g2,g3⟩:=hwr.facts
     have HE:Hid (u.toList=R.textPs (fun v=>fb&&R.pureV Y v) 0 Y):=by
      unfold Hid
      have h1:=HU.out
      rw[List.drop_eq_nil_of_le (by rw[HG.out.len];omega)] at h1
      simpa [R.textPs] using h1
     go_wp2
     go_ret
     exact⟨u,rfl,(by rw[HYE.out];exact HE.out),hbw.trans (hbel.mono hbw.size)⟩
end Go.Proofs.YtpkjmdcabdplfaaGreatDoor
