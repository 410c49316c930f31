import Derived.Test.YtkmebkbpfmoeaaaGreatE18
set_option linter.unusedVariables false
set_option linter.unusedSimpArgs false
set_option maxHeartbeats 12800000
namespace Go.Proofs.YtkmebkbpfmoeaaaGreat
open Go Go.RowKit
set_option maxRecDepth 100000
namespace Q
theorem placeK_len (rs:List Int) (i k:Nat) (p:List Int):(zJC rs i p k).length=p.length:=by unfold zJC;split<;>simp
theorem getD_set_eq (p:List Int) (i:Nat) (x:Int) (h:i<p.length):(p.set i x).getD i 0=x:=by simp[List.getD,h]
def Bd (p:List Int) (m:Int):Prop:=∀ x∈p, -1000000001≤x∧x≤m
theorem Bd.set {p:List Int} {m:Int} (h:Bd p m) (i:Nat) (x:Int) (h1:-1000000001≤x) (h2:x≤m):Bd (p.set i x) m:=fun y hy=>by
 rcases List.mem_or_eq_of_mem_set hy with hy | rfl
 ·exact h y hy
 ·exact⟨h1,h2⟩
theorem Bd.mono {p:List Int} {m k:Int} (h:Bd p m) (hk:m≤k):Bd p k:=fun y hy=>⟨(h y hy).1,by have:=(h y hy).2;omega⟩
theorem Bd.get {p:List Int} {m:Int} (h:Bd p m) (i:Nat) (hi:i<p.length):-1000000001≤p.getD i 0∧p.getD i 0≤m:=by rw[zAH p i hi];exact h _ (List.getElem_mem hi)
end Q
theorem zAq.cellD {w:World} {g:Nat} {l:List Int} (h:zAq w g l) (i:Nat) (hi:i<l.length):w.cell? ⟨g,i,none⟩=some (.int .i64 (l.getD i 0)):=by rw[zAH l i hi];exact h.cell i hi
theorem zCN (g gr gb gd:Nat) (rs bs ds:List Int) (rest:List (List Int)) (w:World) (h:OrdOn w g gr gb gd rs bs ds rest) (hd:Q.DigOk bs ds) (hb:∀ b∈bs,b<1000000000) (hn:rs.length≤64) :
  Calls Tryz.prog 57 #[.pointer (some ⟨g,0,none⟩)] w fun e w'=>∃ gp,e=.returned (.slice (some ⟨gp,0,none⟩) rs.length rs.length)∧zAq w' gp (Q.zIs rs ds)∧w.heap.size≤gp∧Below w.heap.size w w':=by
 have hmk:∀ w,(Instr.makeSlice 31 (.int .i64 (rs.length:Int)) (.int .i64 (rs.length:Int))).run Tryz.prog w=.ok (.slice (some ⟨w.heap.size,0,none⟩) rs.length rs.length) (w.alloc (.cells (madeCells #[.int .i64 0] rs.length) 3)) :=
  fun w=>run_make_row' 31 3 (.int .i64 0) 8 Tryz.underlying31 Tryz.infoInt rfl .i64 .i64 rs.length (by omega) (by omega) w
 obtain⟨bg,hc⟩:=h.ctr.ctr
 have hdl:ds.length=rs.length:=by rw[hc.len,h.len]
 have c0:=h.r0
 have c2:=hc.c1
 have hgl:=hc.lt
 have HRW:=zAa h.rows
 have HDG:=zAa hc.digits
 have hgr:=h.rows.lt
 have hgd:=hc.digits.lt
 have HDB:Hid (∀ i,i<rs.length→0≤ds.getD i 0∧ds.getD i 0<1000000000):=fun i hi=>by
  have h1:=hd.rng i (by omega)
  have h3:i<bs.length:=by rw[h.len];exact hi
  have h4:bs.getD i 0<1000000000:=by rw[zAH bs i h3];exact hb _ (List.getElem_mem h3)
  rw[zAH ds i (by omega)];omega
 have HPE:Hid (Q.zIs rs ds=(List.range rs.length).foldl (Q.zJt rs ds) (List.replicate rs.length 0)):=rfl
 have HM0:Hid (zAq (w.alloc (.cells (madeCells #[.int .i64 0] rs.length) 3)) w.heap.size (List.replicate rs.length 0)):=by
  unfold Hid zAq;rw[← zBZ];exact heap_alloc_new w _
 have HB0:Hid (Below w.heap.size w (w.alloc (.cells (madeCells #[.int .i64 0] rs.length) 3))):=(Below.refl _ _).alloc (Nat.le_refl _) _
 rw[hdl] at c2
 simp only[Nat.reduceAdd] at c2
 clear h hc hb hd
 go_enter Tryz.func57,Tryz.ntmps57
 go_wp2
 go_loopw [18] (fun j wr=>∃ (k:Nat) (p:List Int),k≤rs.length∧j=.int .i64 k∧Hid (p=(List.range k).foldl (Q.zJt rs ds) (List.replicate rs.length 0))∧Hid (zAq wr w.heap.size p)∧Hid (p.length=rs.length)∧Hid (Q.Bd p (64+k*64))∧Hid (Below w.heap.size w wr)) (fun j _=>rs.length-(intOf j).toNat)
 case atStart=>exact⟨0,_,Nat.zero_le _,rfl,rfl,HM0,by simp[Hid],by intro x hx;rw[List.eq_of_mem_replicate hx];omega,HB0⟩
 case round =>
  obtain⟨k,p,hk,rfl,HP,HI,HL,HBD,HBL⟩:=hrel
  have hbel:=HBL.out
  have d0:=cfL hbel hgl c0
  have lg:=Nat.lt_of_lt_of_le hgl hbel.size
  have lr:=Nat.lt_of_lt_of_le hgr hbel.size
  clear hbel
  by_cases hlt:k<rs.length
  ·have hin:(k:Int)<(rs.length:Int):=by omega
   have ck:wr.cell? ⟨gr,k,none⟩=some (.int .i64 (rs.getD k (-1))):=by rw[zAH rs k hlt];exact (HBL.out.cell (p:=⟨gr,k,none⟩) hgr).trans (HRW.out.cell k hlt)
   have lp:=HI.out.lt
   have cp:=HI.out.cellD k (by rw[HL.out];exact hlt)
   have fp:=HI.out.free k
   have HI1:=zAa (HI.out.set k (-1))
   have HB1:Hid (Below w.heap.size w (wr.setCell ⟨w.heap.size,k,none⟩ (.int .i64 (-1)))):=HBL.out.setCell (p:=⟨w.heap.size,k,none⟩) (Nat.le_refl _) _
   have HPS:Hid ((List.range (k+1)).foldl (Q.zJt rs ds) (List.replicate rs.length 0)=Q.zJt rs ds p k):=by unfold Hid;rw[Q.zIj,← HP.out]
   have HPI:Hid (Q.zJt rs ds p k=if rs.getD k (-1) == -1 then p.set k (-1) else (List.range k).foldl (Q.zJC rs k) (p.set k (Q.zJL rs k-ds.getD k 0))):=rfl
   have hll1:w.heap.size<(wr.setCell ⟨w.heap.size,k,none⟩ (.int .i64 (-1))).heap.size:=by simpa using lp
   generalize hrow:rs.getD k (-1)=row at *
   generalize hpk:p.getD k 0=pk0 at *
   go_upto_region 6 with fail
   generalize hW:wr.setCell ⟨w.heap.size,k,none⟩ (.int .i64 (-1))=W1 at *
   cases hz:(row == -1)
   rotate_left
   ·have HN:Hid (p.set k (-1)=(List.range (k+1)).foldl (Q.zJt rs ds) (List.replicate rs.length 0)):=by unfold Hid;rw[HPS.out,HPI.out,hz];rfl
    go_wp2
    go_roundw
    case rel=>exact⟨k+1,_,by omega,by go_num,HN,HI1,by simp[Hid];exact HL.out,(HBD.out.set k (-1) (by omega) (by omega)).mono (by omega),HB1⟩
    case measure=>simp[intOf];omega
   ·have HN:Hid ((List.range (k+1)).foldl (Q.zJt rs ds) (List.replicate rs.length 0)=(List.range k).foldl (Q.zJC rs k) (p.set k (Q.zJL rs k-ds.getD k 0))):=by unfold Hid;rw[HPS.out,HPI.out,hz];rfl
    have e0:=cfL HB1.out hgl c0
    have e2:=cfL HB1.out hgl c2
    have ed:W1.cell? ⟨gd,k,none⟩=some (.int .i64 (ds.getD k 0)):=(HB1.out.cell (p:=⟨gd,k,none⟩) hgd).trans (HDG.out.cellD k (by omega))
    have lg1:=Nat.lt_of_lt_of_le hgl HB1.out.size
    have ld1:=Nat.lt_of_lt_of_le hgd HB1.out.size
    have hdb:=HDB.out k hlt
    have hcb:=Q.zJM rs k k
    have hcr:Q.zJp rs k k=Q.zJL rs k:=rfl
    rw[hcr] at hcb
    have HIR:=zAa (HRW.out.of_block (HB1.out.block gr hgr))
    generalize ds.getD k 0=dk at *
    generalize hcc:Q.zJL rs k=ct at *
    have HBD2:=zAa (Q.Bd.set HBD.out k (ct-dk) (by omega) (by omega))
    clear HBD
    have hwr:IntKind.i64.wrap (ct-dk)=ct-dk:=IntWalk.i64_in _ ⟨by omega,by omega⟩
    go_upto_region 7 with fail
    go_region_held3 (fun w'=>w'.cell? ⟨g,2,none⟩=some (.slice (some ⟨gd,0,none⟩) rs.length rs.length)∧w'.cell? ⟨gd,k,none⟩=some (.int .i64 dk)) (first | exact⟨e2,ed⟩ | exact⟨p2,pd⟩ | exact⟨(zAh (by omega)).trans p2,(zAh (by omega)).trans pd⟩) (first
     | (go_at_call 81;refine (zGD g gr k rs W1.drew e0 (HIR.out.of_block rfl) lg1 hlt (by omega)).mono ?_;rintro e w2 ⟨rfl,hb2⟩;rw[hcc];have B2:Hid (Below W1.heap.size W1 w2):=(by first | exact ((Below.refl W1.heap.size W1).drew).trans (hb2.mono (by simp)) | exact hb2);have p2:=cfL B2.out lg1 e2;have pd:=cfL B2.out ld1 ed;have I2:=zAa (HI1.out.of_block (B2.out.block w.heap.size hll1));have ip:=I2.out.cellD k (by rw[List.length_set,HL.out];exact hlt);have ifz:=I2.out.free k;have lp2:=I2.out.lt))
    have I3:=zAa (I2.out.set k (ct-dk))
    rw[List.set_set] at I3
    have B3:Hid (Below w.heap.size w (w2.setCell ⟨w.heap.size,k,none⟩ (.int .i64 (ct-dk)))):=(zAo HB1.out (Nat.le_refl _) B2.out).setCell (p:=⟨w.heap.size,k,none⟩) (Nat.le_refl _) _
    go_wp2
    go_loopw [6] (fun j wq=>∃ (q:Nat) (u:List Int),q≤k∧j=.int .i64 q∧Hid (u=(List.range q).foldl (Q.zJC rs k) (p.set k (ct-dk)))∧Hid (zAq wq w.heap.size u)∧Hid (u.length=rs.length)∧Hid (Q.Bd u (64+k*64+q))∧Hid (Below w.heap.size w wq)) (fun j _=>k-(intOf j).toNat)
    case atStart=>exact⟨0,_,Nat.zero_le _,rfl,rfl,I3,by simp[Hid];exact HL.out,HBD2.out.mono (by omega),B3⟩
    case round =>
     clear I3 B3 I2 B2 p2 pd ip ifz lp2 hb2 e0 e2 ed lg1 ld1 HIR HI1 HB1 hll1 hW lp cp fp ck d0 lg lr
     obtain⟨q,u,hq,rfl,HU,HJ,HUL,HUB,HBQ⟩:=hrel
     have d0:=cfL HBQ.out hgl c0
     have lg:=Nat.lt_of_lt_of_le hgl HBQ.out.size
     have lr:=Nat.lt_of_lt_of_le hgr HBQ.out.size
     by_cases hql:q<k
     ·have hqi:(q:Int)<(k:Int):=by omega
      have hqr:(q:Int)<(rs.length:Int):=by omega
      have hqn:q<rs.length:=by omega
      have cq:wr.cell? ⟨gr,q,none⟩=some (.int .i64 (rs.getD q (-1))):=by rw[zAH rs q hqn];exact (HBQ.out.cell (p:=⟨gr,q,none⟩) hgr).trans (HRW.out.cell q hqn)
      have lp:=HJ.out.lt
      have uq:=HJ.out.cellD q (by rw[HUL.out];exact hqn)
      have uk:=HJ.out.cellD k (by rw[HUL.out];exact hlt)
      have fq:=HJ.out.free q
      have bq:=HUB.out.get q (by rw[HUL.out];exact hqn)
      have HUS:Hid ((List.range (q+1)).foldl (Q.zJC rs k) (p.set k (ct-dk))=if rs.getD q (-1)==row&&decide (u.getD k 0≤u.getD q 0) then u.set q (u.getD q 0+1) else u):=by
       unfold Hid;rw[Q.zIj,← HU.out,← hrow];rfl
      have HJ1:=zAa (HJ.out.set q (u.getD q 0+1))
      have HUB1:=zAa (Q.Bd.set (HUB.out.mono (k:=64+k*64+(q+1:Nat)) (by omega)) q (u.getD q 0+1) (by omega) (by omega))
      generalize rs.getD q (-1)=x at *
      generalize u.getD q 0=y at *
      generalize u.getD k 0=z at *
      cases hx:(x==row)
      ·have HUN:Hid (u=(List.range (q+1)).foldl (Q.zJC rs k) (p.set k (ct-dk))):=by unfold Hid;rw[HUS.out,hx];rfl
       go_wp2
       go_quiet (fail)
       all_goals
        go_wp2
        go_roundw
        case rel=>exact⟨q+1,u,by omega,by go_num,HUN,HJ.out.of_block rfl,HUL,HUB.out.mono (by omega),HBQ.out.trans (zAD _ _ _)⟩
        case measure=>simp[intOf];omega
      by_cases hy:z≤y
      ·have hyd:decide (z≤y)=true:=decide_eq_true hy
       have HUN:Hid (u.set q (y+1)=(List.range (q+1)).foldl (Q.zJC rs k) (p.set k (ct-dk))):=by unfold Hid;rw[HUS.out,hx,hyd];rfl
       go_wp2
       go_quiet (fail)
       all_goals
        go_wp2
        go_roundw
        case rel=>exact⟨q+1,_,by omega,by go_num,HUN,by first | exact HJ1.out | exact HJ1.out.of_block rfl,by simp[Hid];exact HUL.out,HUB1,(HBQ.out.trans (zAD _ _ _)).setCell (p:=⟨w.heap.size,q,none⟩) (Nat.le_refl _) _⟩
        case measure=>simp[intOf];omega
      ·have hyd:decide (z≤y)=false:=decide_eq_false hy
       have HUN:Hid (u=(List.range (q+1)).foldl (Q.zJC rs k) (p.set k (ct-dk))):=by unfold Hid;rw[HUS.out,hx,hyd];rfl
       go_wp2
       go_quiet (fail)
       all_goals
        go_wp2
        go_roundw
        case rel=>exact⟨q+1,u,by omega,by go_num,HUN,HJ.out.of_block rfl,HUL,HUB.out.mono (by omega),HBQ.out.trans (zAD _ _ _)⟩
        case measure=>simp[intOf];omega
     ·have hqk:q=k:=by omega
      have HN2:Hid (u=(List.range (k+1)).foldl (Q.zJt rs ds) (List.replicate rs.length 0)):=by unfold Hid;rw[HN.out,HU.out,hqk]
      go_wp2
      go_roundw
      case rel=>exact⟨k+1,u,by omega,by go_num,HN2,HJ,HUL,HUB.out.mono (by omega),HBQ⟩
      case measure=>simp[intOf];omega
  ·have hkn:k=rs.length:=by omega
   have HE:Hid (p=Q.zIs rs ds):=by unfold Hid;rw[HPE.out,HP.out,hkn]
   go_wp2
   go_ret
   exact⟨w.heap.size,rfl,by rw[← HE.out];exact HI.out,Nat.le_refl _,HBL.out⟩
structure WdIn (w:World) (ev rg:Value) (wd:Q.Wd):Prop where
 evs:zAX w ev wd.events
 regs:zBF w rg wd.regs
theorem WdIn.below {w w':World} {ev rg:Value} {wd:Q.Wd} (h:WdIn w ev rg wd) (hb:Below w.heap.size w w'):WdIn w' ev rg wd:=⟨h.evs.below hb,h.regs.below hb⟩
theorem zHb (ev rg pv:Value) (es:List Q.Ev) (v:Int) (ps:List Int) (w:World) (he:zAX w ev es) (hrg:∃ a n c,rg=.slice a n c) (hp:zBF w pv ps) (hl:ps.length=es.length) (hn:es.length≤64) :
  Calls Tryz.prog 89 #[.agg #[ev,rg],.int .i64 v,pv] w fun e w'=>e=.returned (.int .i64 (Q.lastV es v ps))∧Below w.heap.size w w':=by
 obtain⟨ea,ec,rfl,hea⟩:=he.form
 obtain⟨pa,pc,rfl,hpa⟩:=hp.form
 obtain⟨ra,rn,rc,rfl⟩:=hrg
 have hle1:ps.length≤es.length:=by omega
 have hle2:es.length≤ps.length:=by omega
 have HLE:Hid (Q.lastV es v ps=((List.range es.length).foldl (Q.lastF v ps es) (0, -1)).1):=rfl
 obtain⟨k0,hsz,hbw⟩:=zBw w #[.slice ea es.length ec,.slice ra rn rc] 61
 have HE0:=zAa he
 have BW0:=zAa hbw
 clear hbw he hp hl
 go_enter Tryz.func89,Tryz.ntmps89
 go_upto_region 1 with fail
 generalize hE:w.alloc (.cells #[.slice ea es.length ec,.slice ra rn rc] 61)=W0 at *
 have c00:=ceL k0 0 _ rfl
 have l0:w.heap.size<W0.heap.size:=by omega
 clear hE k0 hsz
 go_wp2
 go_loopw [7,8,14] (fun a b j wr=>∃ (k:Nat) (p:Int × Int),k≤es.length∧j=.int .i64 k∧a=.int .i64 p.1∧b=.int .i64 p.2∧Hid (p=(List.range k).foldl (Q.lastF v ps es) (0, -1))∧Hid (Below W0.heap.size W0 wr)) (fun _ _ j _=>es.length-(intOf j).toNat)
 case atStart=>exact⟨0,(0, -1),Nat.zero_le _,rfl,rfl,rfl,rfl,Below.refl _ _⟩
 case round =>
  obtain⟨k,⟨pv,ph⟩,hk,rfl,rfl,rfl,HP,HB⟩:=hrel
  by_cases hlt:k<es.length
  ·have hin:(k:Int)<(es.length:Int):=by omega
   have hinp:(k:Int)<(ps.length:Int):=by omega
   obtain⟨be,rfl,hbe⟩:=hea (by omega)
   obtain⟨gp,rfl,hgp,hcp⟩:=hpa (by omega)
   have HR1:Hid (wr.rangeAt be (k*10) (zAb (Q.ev es k)).toList):=zAA (HE0.out.range' rfl k hlt) ((HB.out.block be (by omega)).trans (BW0.out.block be hbe))
   have lbe:be<wr.heap.size:=by have:=HB.out.size;omega
   have cp:wr.cell? ⟨gp,k,none⟩=some (.int .i64 (ps.getD k 0)):=by rw[zAH ps k (by omega)];exact (HB.out.cell (p:=⟨gp,k,none⟩) (by simp;omega)).trans ((BW0.out.cell (p:=⟨gp,k,none⟩) hgp).trans (hcp k (by omega)))
   have lgp:gp<wr.heap.size:=by have:=HB.out.size;omega
   have HPS:Hid ((List.range (k+1)).foldl (Q.lastF v ps es) (0, -1)=if (Q.ev es k).kind==1&&(Q.ev es k).var==v&&decide (ph<ps.getD k 0) then ((Q.ev es k).value,ps.getD k 0) else (pv,ph)):=by
    unfold Hid;rw[Q.zIj,← HP.out];rfl
   generalize Q.ev es k=e1 at *
   generalize ps.getD k 0=pk at *
   have HB1:Hid (Below W0.heap.size W0 (wr.alloc (.cells (zAb e1) 129))):=HB.out.alloc HB.out.size _
   cases z1:(e1.kind==1)
   ·rw[z1] at HPS
    go_wp2_with (first | (refine zAg (.tmp 17) rfl rfl be (k*10) e1 rfl HR1.out ?_))
    go_roundw
    case rel=>exact⟨k+1,(pv,ph),by omega,by go_num,rfl,rfl,HPS.out.symm,HB1⟩
    case measure=>simp[intOf];omega
   cases z2:(e1.var==v)
   ·rw[z1,z2] at HPS
    go_wp2_with (first | (refine zAg (.tmp 17) rfl rfl be (k*10) e1 rfl HR1.out ?_))
    go_roundw
    case rel=>exact⟨k+1,(pv,ph),by omega,by go_num,rfl,rfl,HPS.out.symm,HB1⟩
    case measure=>simp[intOf];omega
   by_cases hz3:ph<pk
   ·have z3:decide (ph<pk)=true:=decide_eq_true hz3
    rw[z1,z2,z3] at HPS
    go_wp2_with (first | (refine zAg (.tmp 17) rfl rfl be (k*10) e1 rfl HR1.out ?_))
    go_roundw
    case rel=>exact⟨k+1,(e1.value,pk),by omega,by go_num,rfl,rfl,HPS.out.symm,HB1⟩
    case measure=>simp[intOf];omega
   ·have z3:decide (ph<pk)=false:=decide_eq_false hz3
    rw[z1,z2,z3] at HPS
    go_wp2_with (first | (refine zAg (.tmp 17) rfl rfl be (k*10) e1 rfl HR1.out ?_))
    go_roundw
    case rel=>exact⟨k+1,(pv,ph),by omega,by go_num,rfl,rfl,HPS.out.symm,HB1⟩
    case measure=>simp[intOf];omega
  ·have HE:Hid (Q.lastV es v ps=pv):=by
    have hkn:k=es.length:=by omega
    unfold Hid;rw[HLE.out,← hkn,← HP.out]
   go_wp2
   go_ret
   rw[HE.out];exact⟨rfl,zAo BW0.out (Nat.le_refl _) HB.out⟩
theorem zAq.own {w:World} {g:Nat} {l:List Int} (h:zAq w g l) (B:Nat) (hB:B≤g) (hl:l.length<1000000):w.ownsRow B 3 1 (.slice (some ⟨g,0,none⟩) l.length l.length) l.length (l.map (Value.int .i64)):=by
 refine⟨by simp,Or.inr ⟨g,l.length,zAL l,rfl,hB,h,Nat.le_refl _,by unfold maxLen;omega,by simp[zAL],by simp only[zAL,Nat.mul_one];exact List.take_of_length_le (by simp)⟩⟩
theorem zCE {w:World} {B n:Nat} {v:Value} {l:List Int} (h:w.ownsRow B 3 1 v n (l.map (Value.int .i64))) (hn:n=l.length):zBF w v l:=by
 subst hn
 rcases h.2 with ⟨e,h0⟩ | ⟨k,c,cur,e,_⟩
 ·exact Or.inl ⟨e,List.eq_nil_of_length_eq_zero h0⟩
 ·refine Or.inr ⟨k,c,e,fun i hi=>?_,(h.lt k (by rw[e];rfl)).2⟩
  have h1:=h
  rw[e] at h1
  rw[h1.cellAt i (by omega)];simp[hi]
theorem Tryz.infoIntM:(Tryz.prog.info? 3).map (fun i=>(i.zero,i.size,i.bytes))=some (some (.int .i64 0),1,8):=by kernel_rfl
namespace Q
def outTo (w:Wd) (ps:List Int) (k:Nat):List Int:=w.regs++(List.range k).map fun v:Nat=>lastV w.events (v:Int) ps
theorem outTo_succ (w:Wd) (ps:List Int) (k:Nat):outTo w ps (k+1)=outTo w ps k++[lastV w.events (k:Int) ps]:=by
 unfold outTo;rw[List.range_succ,List.map_append,List.append_assoc];rfl
theorem zJH (w:Wd) (ps:List Int):outTo w ps 3=zJD w ps:=rfl
theorem outTo_len (w:Wd) (ps:List Int) (k:Nat):(outTo w ps k).length=w.regs.length+k:=by simp[outTo]
end Q
theorem zDx (ev rg pv:Value) (wd:Q.Wd) (ps:List Int) (w:World) (h:WdIn w ev rg wd) (hp:zBF w pv ps) (hl:ps.length=wd.events.length) (hn:wd.events.length≤64) (hr:wd.regs.length<1000) :
  Calls Tryz.prog 59 #[.agg #[ev,rg],pv] w fun e w'=>∃ v,e=.returned v∧zBF w' v (Q.zJD wd ps)∧(∀ k,v.ownBlock=some k→w.heap.size≤k)∧Below w.heap.size w w':=by
 obtain⟨i0,hi,hz0,hz1,hz2⟩:=info_parts Tryz.infoIntM
 obtain⟨ea,ec,hev,_⟩:=h.evs.form
 obtain⟨ra,rc,hrg,_⟩:=h.regs.form
 obtain⟨pa,pc,hpv,_⟩:=hp.form
 obtain⟨k0,hsz,hbw⟩:=zBw w #[ev,rg] 61
 have HW:=zAa (h.below hbw)
 have HP:=zAa (hp.below hbw)
 have BW0:=zAa hbw
 have HL:=zAa hl
 clear hbw h hp hl
 subst hev hrg hpv
 go_enter Tryz.func59,Tryz.ntmps59
 go_upto_region 1 with fail
 generalize hE:w.alloc (.cells #[.slice ea wd.events.length ec,.slice ra wd.regs.length rc] 61)=W0 at *
 have c0:=ceL k0 0 _ rfl
 have c1:=ceL k0 1 _ rfl
 have l0:w.heap.size<W0.heap.size:=by omega
 clear hE k0 hsz
 go_wp2_with (first | (go_at_call 88;refine (zCq _ wd.regs _ HW.out.regs (by omega)).mono ?_;rintro e w1 ⟨g1,rfl,hi1,hge1,hb1⟩;have HO1:=zAa (hi1.own W0.heap.size hge1 (by omega));have B1:=zAa hb1;clear hi1 hb1 hge1))
 go_loopw [5,6] (fun a j wr=>∃ (k:Nat) (v:Value),k≤3∧j=.int .i64 k∧a=v∧Hid (wr.ownsRow W0.heap.size 3 1 v (wd.regs.length+k) ((Q.outTo wd ps k).map (Value.int .i64)))∧Hid (Below W0.heap.size W0 wr)) (fun _ j _=>3-(intOf j).toNat)
 case atStart=>exact⟨0,_,by omega,rfl,rfl,by simpa [Hid,Q.outTo] using HO1.out,B1⟩
 case round =>
  clear HO1 B1
  obtain⟨k,v,hk,rfl,hav,HO,HB⟩:=hrel
  have hav:=hav.symm
  subst hav
  by_cases hlt:k<3
  ·have hin:(k:Int)<3:=by omega
   have d0:=cfL HB.out l0 c0
   have d1:=cfL HB.out l0 c1
   have lw:=Nat.lt_of_lt_of_le l0 HB.out.size
   have HWk:=zAa (HW.out.below HB.out)
   have HPk:=zAa (HP.out.below HB.out)
   have HS:=zAa (Q.outTo_succ wd ps k)
   generalize hlv:Q.lastV wd.events (k:Int) ps=lv at *
   go_wp2_with (first
    | (go_at_call 89;refine (zHb _ _ _ wd.events (k:Int) ps _ HWk.out.evs ⟨_,_,_,rfl⟩ HPk.out HL.out hn).mono ?_;rintro e w2 ⟨rfl,hb2⟩;rw[hlv];have B2:Hid (Below W0.heap.size W0 w2):=zAo HB.out (Nat.le_refl _) hb2;have HO2:Hid ((w2.alloc (.cells #[.int .i64 lv] 3)).ownsRow W0.heap.size 3 1 v (wd.regs.length+k) ((Q.outTo wd ps k).map (Value.int .i64))):=(zAd HO.out (fun y e=>(Below.heap_alloc _ _ _ (by have:=(HO.out.lt y e).2;have:=hb2.size;omega)).trans (hb2.block y (HO.out.lt y e).2)));have HN2:Hid (∀ j u,[Value.int .i64 lv][j]?=some u→(w2.alloc (.cells #[.int .i64 lv] 3)).cell? ((⟨w2.heap.size,0,none⟩:Addr).add j)=some u):=World.news_of_block (cs:=#[.int .i64 lv]) (t:=3) (fr:=(0,0)) (heap_alloc_new w2 _);have hws:W0.heap.size≤w2.heap.size:=B2.out.size)
    | (at_builtin;refine wpList_append_lies _ rfl (.tmp 14) (.tmp 19) 31 rfl W0.heap.size 3 i0 (.int .i64 0) 1 8 Tryz.underlying31 hi hz0 hz1 hz2 rfl (by decide) _ (wd.regs.length+k) ((Q.outTo wd ps k).map (Value.int .i64)) rfl (by exact HO2.out) ⟨w2.heap.size,0,none⟩ 1 1 [.int .i64 lv] rfl rfl (by exact HN2.out) (by simp[Value.oneCell']) (by decide) (by unfold maxLen;omega) (by omega) (by simp;omega) _ rfl ?_;intro gn cn w5 hown5 hgrow5 hat5 hlt5))
   have HB5:Hid (Below W0.heap.size W0 w5):=(B2.out.alloc hws _).trans ⟨hgrow5.os,hgrow5.tape,hgrow5.output,hgrow5.size,fun y hy=>hgrow5.block y (by simp;omega) (fun e=>by have:=(HO2.out.lt y e.symm).1;omega)⟩
   have HO5:Hid (w5.ownsRow W0.heap.size 3 1 (.slice (some ⟨gn,0,none⟩) (wd.regs.length+k+1) cn) (wd.regs.length+(k+1)) ((Q.outTo wd ps (k+1)).map (Value.int .i64))):=by
    unfold Hid;rw[HS.out,List.map_append];exact hown5
   clear hown5 hgrow5
   go_roundw
   case rel=>exact⟨k+1,_,by omega,by go_num,rfl,HO5,HB5⟩
   case measure=>simp[intOf];omega
  ·have hk3:k=3:=by omega
   go_wp2
   go_ret
   refine⟨_,rfl,?_,fun y e=>by have:=(HO.out.lt y e).1;omega,zAo BW0.out (Nat.le_refl _) HB.out⟩
   have h1:=HO.out
   rw[hk3,Q.zJH] at h1
   exact zCE h1 (by rw[← Q.zJH,Q.outTo_len])
theorem Tryz.infoRow:(Tryz.prog.info? 31).map (fun i=>(i.zero,i.size,i.bytes))=some (some (.slice none 0 0),1,24):=by kernel_rfl
structure OutIn (w:World) (B g:Nat) (rs:List (List Int)):Prop where
 ex:∃ v vs,w.cell? ⟨g,0,none⟩=some v∧RowsI w B v rs vs
 lt:g<w.heap.size
 free:w.frozen? ⟨g,0,none⟩=false
 ty:∀ c t fr,w.heap[g]?=some (.cells c t fr)→t≠31∧t≠3
theorem zHc (B g:Nat) (vr:Value) (rs:List (List Int)) (r:List Int) (w:World) (h:OutIn w B g rs) (hr:zBF w vr r) (hri:Q.zKb rs) (hs:∀ x∈rs,Q.Small x∧x.length<1000) (hsr:Q.Small r∧r.length<1000) (hn:rs.length<100000000)
  (hp:Q.posOf rs r<rs.length) (hc:Q.cmp (rs.getD (Q.posOf rs r) []) r=0) :
  Calls Tryz.prog 60 #[.pointer (some ⟨g,0,none⟩),vr] w fun e w'=>e=.returned (.tuple #[])∧Below w.heap.size w w':=by
 obtain⟨v,vs,hv,hrows⟩:=h.ex
 have hg:=h.lt
 have HRW:=zAa hrows
 obtain⟨xa,ca,rfl,hxa⟩:=hrows.form
 obtain⟨b,rfl,hbB,hb,hcs⟩:=hxa (by omega)
 have hpv:Q.posOf rs r<vs.length:=by rw[hrows.len];exact hp
 have HRM:=zAa (hrows.rows (Q.posOf rs r) hp vs[Q.posOf rs r] (List.getElem?_eq_getElem hpv))
 have e1:rs.getD (Q.posOf rs r) []=rs[Q.posOf rs r]:=by simp[hp]
 rw[e1] at hc
 have hsm:=hs rs[Q.posOf rs r] (List.getElem_mem hp)
 have HCV:=zAa (hcs (Q.posOf rs r) hpv)
 have HS:=zAa hs
 have HRR:=zAa hr
 have HRI:=zAa hri
 have hpI:(Q.posOf rs r:Int)<(rs.length:Int):=by omega
 clear h hr hxa hrows hcs hri hs e1
 generalize vs[Q.posOf rs r]=u at *
 generalize hy:rs[Q.posOf rs r]=y at *
 clear hy
 go_enter Tryz.func60,Tryz.ntmps60
 go_wp2_with (first
  | (go_at_call 90;refine (zFA B g _ _ rs vs r _ hv hg HRW.out HRR.out HRI.out HS.out hsr hn).mono ?_;rintro e w1 ⟨rfl,hb1⟩;have d0:=cfL hb1 hg hv;have lg:=Nat.lt_of_lt_of_le hg hb1.size;have cu:=(hb1.cell (p:=⟨b,Q.posOf rs r,none⟩) hb).trans HCV.out;have lb:=Nat.lt_of_lt_of_le hb hb1.size)
  | (go_at_call 91;refine (zCf _ _ y r _ (HRM.out.below hb1) (HRR.out.below hb1) hsm.1 hsr.1 hsm.2 hsr.2).mono ?_;rintro e w2 ⟨rfl,hb2⟩;rw[hc]))
 (try simp only[Exit.inBlock,Exit.then]);refine bodyPost_ret (results_none rfl _ _ _) rfl ?_
 exact⟨rfl,zAo hb1 (Nat.le_refl _) hb2⟩
end Go.Proofs.YtkmebkbpfmoeaaaGreat
