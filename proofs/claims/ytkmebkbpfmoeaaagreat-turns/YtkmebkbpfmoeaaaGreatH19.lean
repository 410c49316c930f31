import Derived.Test.YtkmebkbpfmoeaaaGreatH18
set_option linter.unusedVariables false
set_option linter.unusedSimpArgs false
set_option maxHeartbeats 12800000
namespace Go.Proofs.YtkmebkbpfmoeaaaGreat
open Go Go.RowKit
set_option maxRecDepth 100000
structure WdIn (w:World) (ev rg:Value) (wd:Q.Wd):Prop where
 evs:zAW w ev wd.events
 regs:zBA w rg wd.regs
theorem WdIn.below {w w':World} {ev rg:Value} {wd:Q.Wd} (h:WdIn w ev rg wd) (hb:Below w.heap.size w w'):WdIn w' ev rg wd:=⟨h.evs.below hb,h.regs.below hb⟩
theorem zHd (ev rg pv:Value) (es:List Q.Ev) (v:Int) (ps:List Int) (w:World) (he:zAW w ev es) (hrg:∃ a n c,rg=.slice a n c) (hp:zBA w pv ps) (hl:ps.length=es.length) (hn:es.length≤64) :
  Calls Tryz.prog 89 #[.agg #[ev,rg],.int .i64 v,pv] w fun e w'=>e=.returned (.int .i64 (Q.lastV es v ps))∧Below w.heap.size w w':=by
 obtain⟨ea,ec,rfl,hea⟩:=he.form
 obtain⟨pa,pc,rfl,hpa⟩:=hp.form
 obtain⟨ra,rn,rc,rfl⟩:=hrg
 have hle1:ps.length≤es.length:=by omega
 have hle2:es.length≤ps.length:=by omega
 have HLE:Hid (Q.lastV es v ps=((List.range es.length).foldl (Q.lastF v ps es) (0, -1)).1):=rfl
 obtain⟨k0,hsz,hbw⟩:=zBt w #[.slice ea es.length ec,.slice ra rn rc] 61
 have HE0:=zAa he
 have BW0:=zAa hbw
 clear hbw he hp hl
 go_enter Tryz.func89,Tryz.ntmps89
 go_upto_region 1 with fail
 generalize hE:w.alloc (.cells #[.slice ea es.length ec,.slice ra rn rc] 61)=W0 at *
 have c00:=ceL k0 0 _ rfl
 have l0:w.heap.size<W0.heap.size:=by omega
 clear hE k0 hsz
 go_wp2
 go_loopw [7,8,14] (fun a b j wr=>∃ (k:Nat) (p:Int × Int),k≤es.length∧j=.int .i64 k∧a=.int .i64 p.1∧b=.int .i64 p.2∧Hid (p=(List.range k).foldl (Q.lastF v ps es) (0, -1))∧Hid (Below W0.heap.size W0 wr)) (fun _ _ j _=>es.length-(intOf j).toNat)
 case atStart=>exact⟨0,(0, -1),Nat.zero_le _,rfl,rfl,rfl,rfl,Below.refl _ _⟩
 case round =>
  obtain⟨k,⟨pv,ph⟩,hk,rfl,rfl,rfl,HP,HB⟩:=hrel
  by_cases hlt:k<es.length
  ·have hin:(k:Int)<(es.length:Int):=by omega
   have hinp:(k:Int)<(ps.length:Int):=by omega
   obtain⟨be,rfl,hbe⟩:=hea (by omega)
   obtain⟨gp,rfl,hgp,hcp⟩:=hpa (by omega)
   have HR1:Hid (wr.rangeAt be (k*10) (zAb (Q.ev es k)).toList):=zAz (HE0.out.range' rfl k hlt) ((HB.out.block be (by omega)).trans (BW0.out.block be hbe))
   have lbe:be<wr.heap.size:=by have:=HB.out.size;omega
   have cp:wr.cell? ⟨gp,k,none⟩=some (.int .i64 (ps.getD k 0)):=by rw[zAH ps k (by omega)];exact (HB.out.cell (p:=⟨gp,k,none⟩) (by simp;omega)).trans ((BW0.out.cell (p:=⟨gp,k,none⟩) hgp).trans (hcp k (by omega)))
   have lgp:gp<wr.heap.size:=by have:=HB.out.size;omega
   have HPS:Hid ((List.range (k+1)).foldl (Q.lastF v ps es) (0, -1)=if (Q.ev es k).kind==1&&(Q.ev es k).var==v&&decide (ph<ps.getD k 0) then ((Q.ev es k).value,ps.getD k 0) else (pv,ph)):=by
    unfold Hid;rw[Q.zIm,← HP.out];rfl
   generalize Q.ev es k=e1 at *
   generalize ps.getD k 0=pk at *
   have HB1:Hid (Below W0.heap.size W0 (wr.alloc (.cells (zAb e1) 129))):=HB.out.alloc HB.out.size _
   cases z1:(e1.kind==1)
   ·rw[z1] at HPS
    go_wp2_with (first | (refine zAg (.tmp 17) rfl rfl be (k*10) e1 rfl HR1.out ?_))
    go_roundw
    case rel=>exact⟨k+1,(pv,ph),by omega,by go_num,rfl,rfl,HPS.out.symm,HB1⟩
    case measure=>simp[intOf];omega
   cases z2:(e1.var==v)
   ·rw[z1,z2] at HPS
    go_wp2_with (first | (refine zAg (.tmp 17) rfl rfl be (k*10) e1 rfl HR1.out ?_))
    go_roundw
    case rel=>exact⟨k+1,(pv,ph),by omega,by go_num,rfl,rfl,HPS.out.symm,HB1⟩
    case measure=>simp[intOf];omega
   by_cases hz3:ph<pk
   ·have z3:decide (ph<pk)=true:=decide_eq_true hz3
    rw[z1,z2,z3] at HPS
    go_wp2_with (first | (refine zAg (.tmp 17) rfl rfl be (k*10) e1 rfl HR1.out ?_))
    go_roundw
    case rel=>exact⟨k+1,(e1.value,pk),by omega,by go_num,rfl,rfl,HPS.out.symm,HB1⟩
    case measure=>simp[intOf];omega
   ·have z3:decide (ph<pk)=false:=decide_eq_false hz3
    rw[z1,z2,z3] at HPS
    go_wp2_with (first | (refine zAg (.tmp 17) rfl rfl be (k*10) e1 rfl HR1.out ?_))
    go_roundw
    case rel=>exact⟨k+1,(pv,ph),by omega,by go_num,rfl,rfl,HPS.out.symm,HB1⟩
    case measure=>simp[intOf];omega
  ·have HE:Hid (Q.lastV es v ps=pv):=by
    have hkn:k=es.length:=by omega
    unfold Hid;rw[HLE.out,← hkn,← HP.out]
   go_wp2
   go_ret
   rw[HE.out];exact⟨rfl,zAn BW0.out (Nat.le_refl _) HB.out⟩
theorem zAp.own {w:World} {g:Nat} {l:List Int} (h:zAp w g l) (B:Nat) (hB:B≤g) (hl:l.length<1000000):w.ownsRow B 3 1 (.slice (some ⟨g,0,none⟩) l.length l.length) l.length (l.map (Value.int .i64)):=by
 refine⟨by simp,Or.inr ⟨g,l.length,zAK l,rfl,hB,h,Nat.le_refl _,by unfold maxLen;omega,by simp[zAK],by simp only[zAK,Nat.mul_one];exact List.take_of_length_le (by simp)⟩⟩
theorem zCr {w:World} {B n:Nat} {v:Value} {l:List Int} (h:w.ownsRow B 3 1 v n (l.map (Value.int .i64))) (hn:n=l.length):zBA w v l:=by
 subst hn
 rcases h.2 with ⟨e,h0⟩ | ⟨k,c,cur,e,_,_,hcp,_⟩
 ·exact Or.inl ⟨e,List.eq_nil_of_length_eq_zero h0⟩
 ·refine Or.inr ⟨k,c,e,fun i hi=>?_,(h.lt k (by rw[e];rfl)).2,hcp⟩
  have h1:=h
  rw[e] at h1
  rw[h1.cellAt i (by omega)];simp[hi]
theorem Tryz.infoIntM:(Tryz.prog.info? 3).map (fun i=>(i.zero,i.size,i.bytes))=some (some (.int .i64 0),1,8):=by kernel_rfl
namespace Q
def outTo (w:Wd) (ps:List Int) (k:Nat):List Int:=w.regs++(List.range k).map fun v:Nat=>lastV w.events (v:Int) ps
theorem outTo_succ (w:Wd) (ps:List Int) (k:Nat):outTo w ps (k+1)=outTo w ps k++[lastV w.events (k:Int) ps]:=by
 unfold outTo;rw[List.range_succ,List.map_append,List.append_assoc];rfl
theorem zJN (w:Wd) (ps:List Int):outTo w ps 3=zJJ w ps:=rfl
theorem outTo_len (w:Wd) (ps:List Int) (k:Nat):(outTo w ps k).length=w.regs.length+k:=by simp[outTo]
end Q
theorem zDv (ev rg pv:Value) (wd:Q.Wd) (ps:List Int) (w:World) (h:WdIn w ev rg wd) (hp:zBA w pv ps) (hl:ps.length=wd.events.length) (hn:wd.events.length≤64) (hr:wd.regs.length<1000) :
  Calls Tryz.prog 59 #[.agg #[ev,rg],pv] w fun e w'=>∃ v,e=.returned v∧zBA w' v (Q.zJJ wd ps)∧(∀ k,v.ownBlock=some k→w.heap.size≤k)∧Below w.heap.size w w':=by
 obtain⟨i0,hi,hz0,hz1,hz2⟩:=info_parts Tryz.infoIntM
 obtain⟨ea,ec,hev,_⟩:=h.evs.form
 obtain⟨ra,rc,hrg,_⟩:=h.regs.form
 obtain⟨pa,pc,hpv,_⟩:=hp.form
 obtain⟨k0,hsz,hbw⟩:=zBt w #[ev,rg] 61
 have HW:=zAa (h.below hbw)
 have HP:=zAa (hp.below hbw)
 have BW0:=zAa hbw
 have HL:=zAa hl
 clear hbw h hp hl
 subst hev hrg hpv
 go_enter Tryz.func59,Tryz.ntmps59
 go_upto_region 1 with fail
 generalize hE:w.alloc (.cells #[.slice ea wd.events.length ec,.slice ra wd.regs.length rc] 61)=W0 at *
 have c0:=ceL k0 0 _ rfl
 have c1:=ceL k0 1 _ rfl
 have l0:w.heap.size<W0.heap.size:=by omega
 clear hE k0 hsz
 go_wp2_with (first | (go_at_call 88;refine (zCp _ wd.regs _ HW.out.regs (by omega)).mono ?_;rintro e w1 ⟨g1,rfl,hi1,hge1,hb1⟩;have HO1:=zAa (hi1.own W0.heap.size hge1 (by omega));have B1:=zAa hb1;clear hi1 hb1 hge1))
 go_loopw [5,6] (fun a j wr=>∃ (k:Nat) (v:Value),k≤3∧j=.int .i64 k∧a=v∧Hid (wr.ownsRow W0.heap.size 3 1 v (wd.regs.length+k) ((Q.outTo wd ps k).map (Value.int .i64)))∧Hid (Below W0.heap.size W0 wr)) (fun _ j _=>3-(intOf j).toNat)
 case atStart=>exact⟨0,_,by omega,rfl,rfl,by simpa [Hid,Q.outTo] using HO1.out,B1⟩
 case round =>
  clear HO1 B1
  obtain⟨k,v,hk,rfl,hav,HO,HB⟩:=hrel
  have hav:=hav.symm
  subst hav
  by_cases hlt:k<3
  ·have hin:(k:Int)<3:=by omega
   have d0:=cfL HB.out l0 c0
   have d1:=cfL HB.out l0 c1
   have lw:=Nat.lt_of_lt_of_le l0 HB.out.size
   have HWk:=zAa (HW.out.below HB.out)
   have HPk:=zAa (HP.out.below HB.out)
   have HS:=zAa (Q.outTo_succ wd ps k)
   generalize hlv:Q.lastV wd.events (k:Int) ps=lv at *
   go_wp2_with (first
    | (go_at_call 89;refine (zHd _ _ _ wd.events (k:Int) ps _ HWk.out.evs ⟨_,_,_,rfl⟩ HPk.out HL.out hn).mono ?_;rintro e w2 ⟨rfl,hb2⟩;rw[hlv];have B2:Hid (Below W0.heap.size W0 w2):=zAn HB.out (Nat.le_refl _) hb2;have HO2:Hid ((w2.alloc (.cells #[.int .i64 lv] 3)).ownsRow W0.heap.size 3 1 v (wd.regs.length+k) ((Q.outTo wd ps k).map (Value.int .i64))):=(zAc HO.out (fun y e=>(Below.heap_alloc _ _ _ (by have:=(HO.out.lt y e).2;have:=hb2.size;omega)).trans (hb2.block y (HO.out.lt y e).2)));have HN2:Hid (∀ j u,[Value.int .i64 lv][j]?=some u→(w2.alloc (.cells #[.int .i64 lv] 3)).cell? ((⟨w2.heap.size,0,none⟩:Addr).add j)=some u):=World.news_of_block (cs:=#[.int .i64 lv]) (t:=3) (fr:=(0,0)) (heap_alloc_new w2 _);have hws:W0.heap.size≤w2.heap.size:=B2.out.size)
    | (at_builtin;refine wpList_append_lies _ rfl (.tmp 14) (.tmp 19) 31 rfl W0.heap.size 3 i0 (.int .i64 0) 1 8 Tryz.underlying31 hi hz0 hz1 hz2 rfl (by decide) _ (wd.regs.length+k) ((Q.outTo wd ps k).map (Value.int .i64)) rfl (by exact HO2.out) ⟨w2.heap.size,0,none⟩ 1 1 [.int .i64 lv] rfl rfl (by exact HN2.out) (by simp[Value.oneCell']) (by decide) (by unfold maxLen;omega) (by omega) (by simp;omega) _ rfl ?_;intro gn cn w5 hown5 hgrow5 hat5 hlt5))
   have HB5:Hid (Below W0.heap.size W0 w5):=(B2.out.alloc hws _).trans ⟨hgrow5.os,hgrow5.tape,hgrow5.output,hgrow5.size,fun y hy=>hgrow5.block y (by simp;omega) (fun e=>by have:=(HO2.out.lt y e.symm).1;omega)⟩
   have HO5:Hid (w5.ownsRow W0.heap.size 3 1 (.slice (some ⟨gn,0,none⟩) (wd.regs.length+k+1) cn) (wd.regs.length+(k+1)) ((Q.outTo wd ps (k+1)).map (Value.int .i64))):=by
    unfold Hid;rw[HS.out,List.map_append];exact hown5
   clear hown5 hgrow5
   go_roundw
   case rel=>exact⟨k+1,_,by omega,by go_num,rfl,HO5,HB5⟩
   case measure=>simp[intOf];omega
  ·have hk3:k=3:=by omega
   go_wp2
   go_ret
   refine⟨_,rfl,?_,fun y e=>by have:=(HO.out.lt y e).1;omega,zAn BW0.out (Nat.le_refl _) HB.out⟩
   have h1:=HO.out
   rw[hk3,Q.zJN] at h1
   exact zCr h1 (by rw[← Q.zJN,Q.outTo_len])
theorem Tryz.infoRow:(Tryz.prog.info? 31).map (fun i=>(i.zero,i.size,i.bytes))=some (some (.slice none 0 0),1,24):=by kernel_rfl
structure OutIn (w:World) (B g:Nat) (rs:List (List Int)):Prop where
 ex:∃ v vs,w.cell? ⟨g,0,none⟩=some v∧RowsI w B v rs vs
 lt:g<w.heap.size
 free:w.frozen? ⟨g,0,none⟩=false
 ty:∀ c t fr,w.heap[g]?=some (.cells c t fr)→t≠31∧t≠3
theorem zHe (B g:Nat) (vr:Value) (rs:List (List Int)) (r:List Int) (w:World) (h:OutIn w B g rs) (hr:zBA w vr r) (hri:Q.zKi rs) (hs:∀ x∈rs,Q.Small x∧x.length<1000) (hsr:Q.Small r∧r.length<1000) (hn:rs.length<100000000)
  (hp:Q.posOf rs r<rs.length) (hc:Q.cmp (rs.getD (Q.posOf rs r) []) r=0) :
  Calls Tryz.prog 60 #[.pointer (some ⟨g,0,none⟩),vr] w fun e w'=>e=.returned (.tuple #[])∧Below w.heap.size w w':=by
 obtain⟨v,vs,hv,hrows⟩:=h.ex
 have hg:=h.lt
 have HRW:=zAa hrows
 obtain⟨xa,ca,rfl,hxa⟩:=hrows.form
 obtain⟨b,rfl,hbB,hb,hcs⟩:=hxa (by omega)
 have hpv:Q.posOf rs r<vs.length:=by rw[hrows.len];exact hp
 have HRM:=zAa (hrows.rows (Q.posOf rs r) hp vs[Q.posOf rs r] (List.getElem?_eq_getElem hpv))
 have e1:rs.getD (Q.posOf rs r) []=rs[Q.posOf rs r]:=by simp[hp]
 rw[e1] at hc
 have hsm:=hs rs[Q.posOf rs r] (List.getElem_mem hp)
 have HCV:=zAa (hcs (Q.posOf rs r) hpv)
 have HS:=zAa hs
 have HRR:=zAa hr
 have HRI:=zAa hri
 have hpI:(Q.posOf rs r:Int)<(rs.length:Int):=by omega
 clear h hr hxa hrows hcs hri hs e1
 generalize vs[Q.posOf rs r]=u at *
 generalize hy:rs[Q.posOf rs r]=y at *
 clear hy
 go_enter Tryz.func60,Tryz.ntmps60
 go_wp2_with (first
  | (go_at_call 90;refine (zFw B g _ _ rs vs r _ hv hg HRW.out HRR.out HRI.out HS.out hsr hn).mono ?_;rintro e w1 ⟨rfl,hb1⟩;have d0:=cfL hb1 hg hv;have lg:=Nat.lt_of_lt_of_le hg hb1.size;have cu:=(hb1.cell (p:=⟨b,Q.posOf rs r,none⟩) hb).trans HCV.out;have lb:=Nat.lt_of_lt_of_le hb hb1.size)
  | (go_at_call 91;refine (zCd _ _ y r _ (HRM.out.below hb1) (HRR.out.below hb1) hsm.1 hsr.1 hsm.2 hsr.2).mono ?_;rintro e w2 ⟨rfl,hb2⟩;rw[hc]))
 (try simp only[Exit.inBlock,Exit.then]);refine bodyPost_ret (results_none rfl _ _ _) rfl ?_
 exact⟨rfl,zAn hb1 (Nat.le_refl _) hb2⟩
theorem zGE {w:World} {B g n cap i:Nat} {t:TypeId} {xs:List Value} {u:Value} (h:w.ownsRow B t 1 (.slice (some ⟨g,0,none⟩) n cap) n xs) (hi:i<n):(w.setCell ⟨g,i,none⟩ u).ownsRow B t 1 (.slice (some ⟨g,0,none⟩) n cap) n (xs.set i u):=by
 refine⟨by rw[List.length_set];exact h.1,?_⟩
 rcases h.2 with ⟨e,_⟩ | ⟨g',cap',cur,e,hB,hh,h1,h2,h3,h4⟩
 ·simp at e
 ·simp only[Value.slice.injEq,Option.some.injEq,Addr.mk.injEq] at e
  obtain⟨⟨rfl,_⟩,_,rfl⟩:=e
  refine Or.inr ⟨g,cap,cur.setIfInBounds i u,rfl,hB,zAf hh i u,h1,h2,by simpa using h3,?_⟩
  rw[← h4]
  simp[List.take_set]
theorem zDk {w:World} {B g n cap i:Nat} {t:TypeId} {xs:List Value} (h:w.ownsRow B t 1 (.slice (some ⟨g,0,none⟩) n cap) n xs) (hi:i<xs.length):w.cell? ⟨g,i,none⟩=some xs[i]:=by
 rw[h.cellAt i (by have:=h.1;omega),List.getElem?_eq_getElem hi]
theorem zFz {w:World} {B g n cap:Nat} {t:TypeId} {xs:List Value} (h:w.ownsRow B t 1 (.slice (some ⟨g,0,none⟩) n cap) n xs) (i:Nat):w.frozen? ⟨g,i,none⟩=false:=by
 rcases h.2 with ⟨e,_⟩ | ⟨g',cap',cur,e,hB,hh,_⟩
 ·simp at e
 ·simp only[Value.slice.injEq,Option.some.injEq,Addr.mk.injEq] at e
  obtain⟨⟨rfl,_⟩,_⟩:=e
  simp[World.frozen?,hh]
structure OutAt (w:World) (B g:Nat) (rs:List (List Int)) (ov:Value) (vs:List Value) (fp:List Nat):Prop where
 cell:w.cell? ⟨g,0,none⟩=some ov
 lt:g<w.heap.size
 free:w.frozen? ⟨g,0,none⟩=false
 rows:RowsI w B ov rs vs
 ty:∃ c,w.heap[g]?=some (.cells c 58 (0,0))∨w.heap[g]?=some (.cells c 58 (0,0))
 fps:∀ u∈vs,∀ k,u.ownBlock=some k→k∈fp
 fpl:∀ k∈fp,k<w.heap.size
 dis:∀ k∈fp,k≠g∧ov.ownBlock≠some k
structure OFrame (w w':World) (g:Nat) (ov ov':Value) (fp fp':List Nat):Prop where
 os:w'.os=w.os
 tape:w'.tape=w.tape
 output:w'.output=w.output
 size:w.heap.size≤w'.heap.size
 block:∀ k,k<w.heap.size→k≠g→ov.ownBlock≠some k→w'.heap[k]?=w.heap[k]?
 own:ov'.ownBlock=ov.ownBlock∨∃ b,ov'.ownBlock=some b∧w.heap.size≤b
 fpn:∀ k∈fp',k∈fp∨w.heap.size≤k
 c1:w'.cell? ⟨g,1,none⟩=w.cell? ⟨g,1,none⟩
theorem zBA.own {w:World} {v:Value} {l:List Int} (h:zBA w v l) (w':World) (hk:∀ k,v.ownBlock=some k→w'.heap[k]?=w.heap[k]?) (hs:w.heap.size≤w'.heap.size):zBA w' v l:=by
 rcases h with h | ⟨g,cap,rfl,hc,hg,hcp⟩
 ·exact Or.inl h
 ·refine Or.inr ⟨g,cap,rfl,fun i hi=>?_,by omega,hcp⟩
  rw[World.cell?_of_block (w:=w) (a:=⟨g,i,none⟩) (hk g rfl)];exact hc i hi
namespace Q
theorem shift_get (vs:List Value) (i:Nat) (x:Value) (h0:0<i) (hi:i≤vs.length) (h:i-1<(vs.take i++x::vs.drop i).length):(vs.take i++x::vs.drop i)[i-1]=vs[i-1]'(by omega):=by
 rw[List.getElem_append_left (by simp;omega)];simp
theorem shift_set (vs:List Value) (i:Nat) (x:Value) (h0:0<i) (hi:i≤vs.length):(vs.take i++x::vs.drop i).set i (vs[i-1]'(by omega))=vs.take (i-1)++(vs[i-1]'(by omega))::vs.drop (i-1):=by
 obtain⟨j,rfl⟩:∃ j,i=j+1:=⟨i-1,by omega⟩
 have hj:j<vs.length:=by omega
 have e:j+1-(vs.take (j+1)).length=0:=by simp;omega
 rw[List.set_append_right _ _ (by simp;omega),e]
 simp only[List.set_cons_zero,Nat.add_sub_cancel]
 rw[List.drop_eq_getElem_cons hj,List.take_succ_eq_append_getElem hj,List.append_assoc];rfl
theorem shift_put (vs:List Value) (i:Nat) (x y:Value) (hi:i≤vs.length):(vs.take i++x::vs.drop i).set i y=vs.take i++y::vs.drop i:=by
 have e:i-(vs.take i).length=0:=by simp;omega
 rw[List.set_append_right _ _ (by simp;omega),e];rfl
end Q
theorem zGF (B g:Nat) (vr ov:Value) (rs:List (List Int)) (vs:List Value) (fp:List Nat) (r:List Int) (w:World) (h:OutAt w B g rs ov vs fp) (hr:zBA w vr r) (hri:Q.zKi rs) (hs:∀ x∈rs,Q.Small x∧x.length<1000) (hsr:Q.Small r∧r.length<1000) (hn:rs.length<100000000) (hB:B≤w.heap.size)
  (hc:Q.posOf rs r<rs.length→Q.cmp (rs.getD (Q.posOf rs r) []) r≠0) (hvr:∀ k,vr.ownBlock=some k→k≠g∧ov.ownBlock≠some k) :
  Calls Tryz.prog 60 #[.pointer (some ⟨g,0,none⟩),vr] w fun e w'=>e=.returned (.tuple #[])∧∃ ov' vs' fp',OutAt w' B g (rs.take (Q.posOf rs r)++r::rs.drop (Q.posOf rs r)) ov' vs' fp'∧OFrame w w' g ov ov' fp fp':=by
 obtain⟨i0,hi0,hz0,hz1,hz2⟩:=info_parts Tryz.infoRow
 have hv:=h.cell
 have hg:=h.lt
 have H:=zAa h
 obtain⟨xa,ca,rfl,hxa⟩:=h.rows.form
 obtain⟨ya,yc,rfl,_⟩:=hr.form
 have HRR:=zAa hr
 have HRI:=zAa hri
 have HS:=zAa hs
 have hpl:=Q.zKG rs r
 clear h hr hri hs
 generalize hpo:Q.posOf rs r=po at *
 have HPO:=zAa hpo
 clear hpo
 go_enter Tryz.func60,Tryz.ntmps60
 go_upto_region 1 with (first | (go_at_call 90;refine (zFw B g _ _ rs vs r _ hv hg H.out.rows HRR.out HRI.out HS.out hsr hn).mono ?_;rintro e w1 ⟨rfl,hb1⟩;rw[HPO.out]))
 have d0:=cfL hb1 hg hv
 have f0:=(hb1.frozen (p:=⟨g,0,none⟩) hg).trans H.out.free
 have lg:=Nat.lt_of_lt_of_le hg hb1.size
 have HB1:=zAa hb1
 clear hb1
 have hpv:po<rs.length→po<vs.length:=fun h=>by rw[H.out.rows.len];exact h
 go_cut [27] from 9 to 26 (fun s wx=>s=.bool false∧Hid (Below w.heap.size w wx))
 case first =>
  by_cases hp:po<rs.length
  ·have hpI:(po:Int)<(rs.length:Int):=by omega
   obtain⟨b,rfl,hbB,hb,hcs⟩:=hxa (by omega)
   have hpv':=hpv hp
   have cu:=(HB1.out.cell (p:=⟨b,po,none⟩) hb).trans (hcs po hpv')
   have lb:=Nat.lt_of_lt_of_le hb HB1.out.size
   have HRM:=zAa ((H.out.rows.rows po hp vs[po] (List.getElem?_eq_getElem hpv')).below HB1.out)
   have HRR1:=zAa (HRR.out.below HB1.out)
   have hsm:=HS.out rs[po] (List.getElem_mem hp)
   have hcne:=hc hp
   have e1:rs.getD po []=rs[po]:=by simp[hp]
   rw[e1] at hcne
   have hcb:(Q.cmp rs[po] r==0)=false:=by simpa using hcne
   clear e1 hcne hcs hc
   generalize vs[po]=u at *
   generalize rs[po]=y at *
   go_wp2_with (first | (go_at_call 91;refine (zCd _ _ y r _ HRM.out HRR1.out hsm.1 hsr.1 hsm.2 hsr.2).mono ?_;rintro e w2 ⟨rfl,hb2⟩))
   go_meet
   case rel=>exact⟨rfl,zAn HB1.out (Nat.le_refl _) hb2⟩
  ·have hpI:decide ((po:Int)<(rs.length:Int))=false:=decide_eq_false (by omega)
   go_wp2
   go_meet
   case rel=>exact⟨rfl,HB1⟩
 case rest =>
  obtain⟨rfl,HBC⟩:=hcut
  clear d0 f0 lg HB1 hc
  have d0:=cfL HBC.out hg hv
  have f0:=(HBC.out.frozen (p:=⟨g,0,none⟩) hg).trans H.out.free
  have lg:=Nat.lt_of_lt_of_le hg HBC.out.size
  have HO1:Hid ((wc.alloc (.cells #[.slice none 0 0] 31)).ownsRow B 31 1 (.slice xa rs.length ca) rs.length vs):=zAc H.out.rows.own (fun k e=>(Below.heap_alloc _ _ _ (by have:=(H.out.rows.own.lt k e).2;have:=HBC.out.size;omega)).trans (HBC.out.block k (H.out.rows.own.lt k e).2))
  have HN1:Hid (∀ j u,[Value.slice none 0 0][j]?=some u→(wc.alloc (.cells #[.slice none 0 0] 31)).cell? ((⟨wc.heap.size,0,none⟩:Addr).add j)=some u):=World.news_of_block (cs:=#[.slice none 0 0]) (t:=31) (fr:=(0,0)) (heap_alloc_new wc _)
  have hne:some g≠(Value.slice xa rs.length ca).ownBlock:=fun e=>by
   obtain⟨c,hty⟩:=H.out.ty
   rcases H.out.rows.own.2 with ⟨e1,_⟩ | ⟨g',cap,cur,e1,_,hh,_⟩
   ·rw[e1] at e;simp[Value.ownBlock] at e
   ·rw[e1] at e;simp[Value.ownBlock] at e
    subst e
    rcases hty with hty | hty<;>(rw[hty] at hh;simp at hh)
  have hws:w.heap.size≤wc.heap.size:=HBC.out.size
  have d1:(wc.alloc (.cells #[.slice none 0 0] 31)).cell? ⟨g,0,none⟩=some (.slice xa rs.length ca):=(zAx lg).trans d0
  have f1:(wc.alloc (.cells #[.slice none 0 0] 31)).frozen? ⟨g,0,none⟩=false:=by rw[World.frozen?_of_block (w:=wc) (a:=⟨g,0,none⟩) (Below.heap_alloc _ _ _ lg)];exact f0
  go_upto_region 3 with (first | (at_builtin;refine wpList_append_lies _ rfl (.tmp 32) (.tmp 33) 27 rfl B 31 i0 (.slice none 0 0) 1 24 Tryz.underlying27 hi0 hz0 hz1 hz2 rfl (by decide) _ rs.length vs rfl (by exact HO1.out) ⟨wc.heap.size,0,none⟩ 1 1 [.slice none 0 0] rfl rfl (by exact HN1.out) (by simp[Value.oneCell']) (by decide) (by unfold maxLen;omega) (by omega) (by simp;omega) _ rfl ?_;intro gn cn w3 hown3 hgrow3 hat3 hlt3;have d3:=(hgrow3.cell_far ⟨g,0,none⟩ (by simp;omega) hne).trans d1;have f3:=(hgrow3.frozen_far ⟨g,0,none⟩ (by simp;omega) hne).trans f1;have lg3:g<w3.heap.size:=by have:=hgrow3.size;simp at this;omega))
  have hgne:gn≠g:=fun e=>by
   obtain⟨c,hty⟩:=H.out.ty
   have hgw:w3.heap[g]?=w.heap[g]?:=(hgrow3.block g (by simp;omega) hne).trans ((Below.heap_alloc _ _ _ lg).trans (HBC.out.block g hg))
   rcases hown3.2 with ⟨e1,_⟩ | ⟨g',cap,cur,e1,_,hh,_⟩
   ·simp at e1
   ·simp only[Value.slice.injEq,Option.some.injEq,Addr.mk.injEq] at e1
    rw[← e1.1.1,e,hgw] at hh
    rcases hty with hty | hty<;>(rw[hty] at hh;simp at hh)
  have O3:Hid ((w3.setCell ⟨g,0,none⟩ (.slice (some ⟨gn,0,none⟩) (rs.length+1) cn)).ownsRow B 31 1 (.slice (some ⟨gn,0,none⟩) (rs.length+1) cn) (rs.length+1) (vs++[.slice none 0 0])):=zAc hown3 (fun k e=>Below.heap_setCell _ _ _ _ (by simp[Value.ownBlock] at e;simp;omega))
  have e3:(w3.setCell ⟨g,0,none⟩ (.slice (some ⟨gn,0,none⟩) (rs.length+1) cn)).cell? ⟨g,0,none⟩=some (.slice (some ⟨gn,0,none⟩) (rs.length+1) cn):=World.cell?_setCell_same _ _ _ d3
  have C13:Hid ((w3.setCell ⟨g,0,none⟩ (.slice (some ⟨gn,0,none⟩) (rs.length+1) cn)).cell? ⟨g,1,none⟩=w.cell? ⟨g,1,none⟩):=by
   unfold Hid
   rw[World.cell?_setCell_other _ _ _ _ (by simp),hgrow3.cell_far ⟨g,1,none⟩ (by simp;omega) hne,zAx lg]
   exact HBC.out.cell (p:=⟨g,1,none⟩) hg
  have F3:Hid (∀ k,k<w.heap.size→k≠g→(Value.slice xa rs.length ca).ownBlock≠some k→(w3.setCell ⟨g,0,none⟩ (.slice (some ⟨gn,0,none⟩) (rs.length+1) cn)).heap[k]?=w.heap[k]?):=fun k h1 h2 h3=>by
   rw[Below.heap_setCell _ _ _ _ h2,hgrow3.block k (by simp;omega) (fun e=>h3 e.symm),Below.heap_alloc _ _ _ (by omega),HBC.out.block k h1]
  have G3:Hid ((w3.setCell ⟨g,0,none⟩ (.slice (some ⟨gn,0,none⟩) (rs.length+1) cn)).os=w.os∧(w3.setCell ⟨g,0,none⟩ (.slice (some ⟨gn,0,none⟩) (rs.length+1) cn)).tape=w.tape∧(w3.setCell ⟨g,0,none⟩ (.slice (some ⟨gn,0,none⟩) (rs.length+1) cn)).output=w.output):=⟨hgrow3.os.trans HBC.out.os,hgrow3.tape.trans HBC.out.tape,hgrow3.output.trans HBC.out.output⟩
  have hs3:w.heap.size≤(w3.setCell ⟨g,0,none⟩ (.slice (some ⟨gn,0,none⟩) (rs.length+1) cn)).heap.size:=by have:=hgrow3.size;simp at this ⊢;omega
  have lg3':g<(w3.setCell ⟨g,0,none⟩ (.slice (some ⟨gn,0,none⟩) (rs.length+1) cn)).heap.size:=by simpa using lg3
  have T3:Hid (∃ c,(w3.setCell ⟨g,0,none⟩ (.slice (some ⟨gn,0,none⟩) (rs.length+1) cn)).heap[g]?=some (.cells c 58 (0,0))∨(w3.setCell ⟨g,0,none⟩ (.slice (some ⟨gn,0,none⟩) (rs.length+1) cn)).heap[g]?=some (.cells c 58 (0,0))):=by
   obtain⟨c,hty⟩:=H.out.ty
   have hgw:w3.heap[g]?=w.heap[g]?:=(hgrow3.block g (by simp;omega) hne).trans ((Below.heap_alloc _ _ _ lg).trans (HBC.out.block g hg))
   rcases hty with hty | hty
   ·exact⟨_,Or.inl (zAf (hgw.trans hty) 0 _)⟩
   ·exact⟨_,Or.inr (zAf (hgw.trans hty) 0 _)⟩
  have AT:Hid ((Value.slice xa rs.length ca).ownBlock=some gn∨w.heap.size≤gn):=by
   rcases hat3 with h1 | h1
   ·exact Or.inl h1
   ·exact Or.inr (by simp at h1;omega)
  have hgl:gn<(w3.setCell ⟨g,0,none⟩ (.slice (some ⟨gn,0,none⟩) (rs.length+1) cn)).heap.size:=by simpa using hlt3
  have hvl:vs.length=rs.length:=H.out.rows.len
  have HVL:=zAa hvl
  clear hown3 hgrow3 hat3 d3 f3 lg3 d1 f1 HO1 HN1 hlt3 d0 f0 lg hvl hxa
  generalize hW3:w3.setCell ⟨g,0,none⟩ (.slice (some ⟨gn,0,none⟩) (rs.length+1) cn)=W3 at *
  clear hW3
  go_wp2
  go_loopw [5] (fun j wr=>∃ (i:Nat) (x:Value),po≤i∧i≤rs.length∧j=.int .i64 i∧Hid (wr.ownsRow B 31 1 (.slice (some ⟨gn,0,none⟩) (rs.length+1) cn) (rs.length+1) (vs.take i++x::vs.drop i))∧Hid (W3.grownBy wr (some gn))) (fun j _=>(intOf j).toNat)
  case atStart=>exact⟨rs.length,.slice none 0 0,by omega,Nat.le_refl _,by go_num,by have h1:=O3.out;have h2:=HVL.out;unfold Hid;rw[List.take_of_length_le (by omega),List.drop_eq_nil_of_le (by omega)];exact h1,zAA _ _⟩
  case round =>
   obtain⟨i,x,hpi,hin,rfl,HO,HG⟩:=hrel
   have e4:wr.cell? ⟨g,0,none⟩=some (.slice (some ⟨gn,0,none⟩) (rs.length+1) cn):=(HG.out.cell_far ⟨g,0,none⟩ lg3' (by simp;exact fun e=>hgne e.symm)).trans e3
   have lg4:g<wr.heap.size:=Nat.lt_of_lt_of_le lg3' HG.out.size
   have lgn:gn<wr.heap.size:=Nat.lt_of_lt_of_le hgl HG.out.size
   by_cases hlt:po<i
   ·obtain⟨q,rfl⟩:∃ q,i=q+1:=⟨i-1,by omega⟩
    have hltI:(po:Int)<(q:Int)+1:=by omega
    have hposI:(0:Int)<(q:Int)+1:=by omega
    have hb1:(q:Int)<(rs.length:Int)+1:=by omega
    have hb2:(q:Int)+1<(rs.length:Int)+1:=by omega
    have hb3:(q:Int)<(rs.length:Int):=by omega
    have hsb:(q:Int)+1-1=(q:Int):=by omega
    have hw1:IntKind.i64.wrap ((q:Int)+1-1)=(q:Int):=by rw[hsb];exact IntWalk.i64_in _ ⟨by omega,by omega⟩
    have hw2:IntKind.i64.wrap (q:Int)=(q:Int):=IntWalk.i64_in _ ⟨by omega,by omega⟩
    have hw3:IntKind.i64.wrap (((q+1:Nat):Int)-1)=(q:Int):=by rw[show (((q+1:Nat):Int)-1)=(q:Int) by omega];exact hw2
    have hb4:¬ ((rs.length:Int)+1≤(q:Int)):=by omega
    have hb5:q<rs.length+1:=by omega
    have hb6:q+1<rs.length+1:=by omega
    have hvl:=HVL.out
    have hlen:(vs.take (q+1)++x::vs.drop (q+1)).length=rs.length+1:=by simp;omega
    have cp:=zDk HO.out (i:=q) (by omega)
    have eg:=Q.shift_get vs (q+1) x (by omega) (by omega) (by simp;omega)
    simp only[Nat.add_sub_cancel] at eg
    rw[eg] at cp
    have ci:=zDk HO.out (i:=q+1) (by omega)
    have fi:=zFz HO.out (q+1)
    have hqv:q<vs.length:=by omega
    have HO2:=zAa (zGE HO.out (i:=q+1) (u:=vs[q]) (by omega))
    have es:=Q.shift_set vs (q+1) x (by omega) (by omega)
    simp only[Nat.add_sub_cancel] at es
    rw[es] at HO2
    have HG2:=zAa (zAj HG.out (q+1) vs[q])
    obtain⟨ua,un,uc,hu⟩:∃ ua un uc,vs[q]=.slice ua un uc:=by
     obtain⟨a1,c1,e1,_⟩:=(H.out.rows.rows q (by omega) vs[q] (List.getElem?_eq_getElem hqv)).form
     exact⟨a1,_,c1,e1⟩
    have hb0:(0:Int)≤(q:Int)+1:=by omega
    generalize vs[q]=u at *
    subst hu
    generalize (vs.take (q+1)++x::vs.drop (q+1))[q+1]=y at *
    clear hvl hlen eg es
    go_upto_region 6 with fail
    go_region_held3 (fun w'=>w'.cell? ⟨g,0,none⟩=some (.slice (some ⟨gn,0,none⟩) (rs.length+1) cn)∧w'.cell? ⟨gn,q,none⟩=some (.slice ua un uc)) (first | exact⟨e4,cp⟩ | exact⟨(zAh (by omega)).trans e4,(World.cell?_setCell_other _ _ _ _ (by simp)).trans cp⟩) (first | fail)
    go_wp2
    go_roundw
    case rel=>exact⟨q,_,by omega,by omega,by first | rfl | go_num,HO2,zBT HG2.out⟩
    case measure=>simp[intOf]
   ·have hpo:po=i:=by omega
    subst hpo
    have hnlt:decide ((po:Int)<(po:Int))=false:=decide_eq_false (by omega)
    have hb2:(po:Int)<((rs.length+1:Nat):Int):=by omega
    have hvl:=HVL.out
    have hlen:(vs.take po++x::vs.drop po).length=rs.length+1:=by simp;omega
    have ci:=zDk HO.out (i:=po) (by omega)
    have fi:=zFz HO.out po
    have KEEP:Hid (∀ k,k<w.heap.size→k≠g→(Value.slice xa rs.length ca).ownBlock≠some k→wr.heap[k]?=w.heap[k]?):=fun k h1 h2 h3=>by
     rw[HG.out.block k (by omega) (by
      intro e
      rcases AT.out with h4 | h4
      ·exact h3 (h4.trans e.symm)
      ·simp at e;omega),F3.out k h1 h2 h3]
    have HRW:Hid (zBA wr (.slice ya r.length yc) r):=HRR.out.own wr (fun k e=>KEEP.out k (by
     rcases HRR.out with ⟨e1,_⟩ | ⟨g',cap,e1,_,hg'⟩
     ·rw[e1] at e;simp[Value.ownBlock] at e
     ·rw[e1] at e;simp[Value.ownBlock] at e;omega) (hvr k e).1 (hvr k e).2) (by have:=HG.out.size;omega)
    generalize (vs.take po++x::vs.drop po)[po]=y at *
    clear hvl hlen
    go_upto_region 8 with fail
    go_region_held3 (fun w'=>w'.cell? ⟨g,0,none⟩=some (.slice (some ⟨gn,0,none⟩) (rs.length+1) cn)) (first | exact e4 | exact p4 | exact (zAh (by omega)).trans p4) (first
     | (go_at_call 88;refine (zCp _ r _ (HRW.out.below (Below.refl _ _).drew) (by omega)).mono ?_;rintro e w5 ⟨g5,rfl,hi5,hge5,hb5⟩;have B5:Hid (Below wr.heap.size wr w5):=((Below.refl wr.heap.size wr).drew).trans (hb5.mono (by simp));have I5:=zAa hi5;have p4:=cfL B5.out lg4 e4;have p5:=cfL B5.out lgn ci;have p6:=(B5.out.frozen (p:=⟨gn,po,none⟩) lgn).trans fi;have hge5':wr.heap.size≤g5:=(by simpa using hge5);have lg5:=Nat.lt_of_lt_of_le lg4 B5.out.size;have lgn5:=Nat.lt_of_lt_of_le lgn B5.out.size))
    all_goals
     (try go_wp2)
     go_end0
     have hg5:=I5.out.lt
     have O5:=zGE (u:=.slice (some ⟨g5,0,none⟩) r.length r.length) (zAc (w':=w5) HO.out (fun k e=>B5.out.block k (HO.out.lt k e).2)) (i:=po) (by omega)
     rw[Q.shift_put vs po x _ (by rw[HVL.out];exact hpl)] at O5
     have hfr:∀ k,k<w.heap.size→k≠g→(Value.slice xa rs.length ca).ownBlock≠some k→(w5.setCell ⟨gn,po,none⟩ (.slice (some ⟨g5,0,none⟩) r.length r.length)).heap[k]?=w.heap[k]?:=fun k h1 h2 h3=>by
      have hkn:k≠gn:=fun e=>by
       rcases AT.out with h4 | h4
       ·exact h3 (by rw[h4,e])
       ·omega
      rw[Below.heap_setCell _ _ _ _ hkn,B5.out.block k (by have:=HG.out.size;omega),KEEP.out k h1 h2 h3]
     have hsz:w.heap.size≤(w5.setCell ⟨gn,po,none⟩ (.slice (some ⟨g5,0,none⟩) r.length r.length)).heap.size:=by have:=HG.out.size;have:=B5.out.size;simp;omega
     have hR5:zBA (w5.setCell ⟨gn,po,none⟩ (.slice (some ⟨g5,0,none⟩) r.length r.length)) (.slice (some ⟨g5,0,none⟩) r.length r.length) r:=(I5.out.of_block (Below.heap_setCell _ _ _ _ (by simp;omega))).rowI r.length
     have hold:∀ u∈vs,∀ l,zBA w u l→zBA (w5.setCell ⟨gn,po,none⟩ (.slice (some ⟨g5,0,none⟩) r.length r.length)) u l:=fun u hu l hl=>hl.own _ (fun k e=>by
      have hk:=H.out.fps u hu k e
      exact hfr k (H.out.fpl k hk) (H.out.dis k hk).1 (H.out.dis k hk).2) hsz
     have hvl:=HVL.out
     refine⟨rfl,_,vs.take po++(.slice (some ⟨g5,0,none⟩) r.length r.length)::vs.drop po,g5::fp,⟨(zAh (by omega)).trans p4,by simpa using lg5,?_,⟨?_,?_,?_⟩,?_,?_,?_,?_⟩,?_⟩
     ·rw[World.frozen?_setCell,B5.out.frozen (p:=⟨g,0,none⟩) lg4,HG.out.frozen_far ⟨g,0,none⟩ lg3' (by simp;exact fun e=>hgne e.symm)]
      obtain⟨c,hty⟩:=T3.out
      rcases hty with hty | hty<;>simp[World.frozen?,hty]
     ·have e5:(rs.take po++r::rs.drop po).length=rs.length+1:=by simp;omega
      rw[e5];exact O5
     ·simp;omega
     ·intro q hq u hu
      by_cases h1:q<po
      ·rw[List.getElem?_append_left (by simp;omega)] at hu
       rw[List.getElem_append_left (by simp;omega)]
       have hqv:q<vs.length:=by omega
       simp only[List.getElem?_take,h1,if_true] at hu
       simp only[List.getElem_take]
       exact hold u (List.mem_of_getElem? hu) _ (H.out.rows.rows q (by omega) u hu)
      ·by_cases h2:q=po
       ·subst h2
        rw[List.getElem?_append_right (by simp;omega)] at hu
        rw[List.getElem_append_right (by simp;omega)]
        have e6:q-(vs.take q).length=0:=by simp;omega
        have e7:q-(rs.take q).length=0:=by simp;omega
        rw[e6] at hu
        simp at hu
        subst hu
        simp only[e7,List.getElem_cons_zero]
        exact hR5
       ·rw[List.getElem?_append_right (by simp;omega)] at hu
        rw[List.getElem_append_right (by simp;omega)]
        obtain⟨d,hd⟩:∃ d,q=po+1+d:=⟨q-po-1,by omega⟩
        have e6:q-(vs.take po).length=d+1:=by simp;omega
        have e7:q-(rs.take po).length=d+1:=by simp;omega
        rw[e6] at hu
        simp only[List.getElem?_cons_succ,List.getElem?_drop] at hu
        simp only[e7,List.getElem_cons_succ,List.getElem_drop]
        simp at hq
        exact hold u (List.mem_of_getElem? hu) _ (H.out.rows.rows (po+d) (by omega) u hu)
     ·obtain⟨c,hty⟩:=T3.out
      have hgw:(w5.setCell ⟨gn,po,none⟩ (.slice (some ⟨g5,0,none⟩) r.length r.length)).heap[g]?=W3.heap[g]?:=by rw[Below.heap_setCell _ _ _ _ (fun e=>hgne e.symm),B5.out.block g lg4,HG.out.block g lg3' (by simp;exact fun e=>hgne e.symm)]
      rcases hty with hty | hty
      ·exact⟨c,Or.inl (hgw.trans hty)⟩
      ·exact⟨c,Or.inr (hgw.trans hty)⟩
     ·intro u hu k e
      rcases List.mem_append.1 hu with hu | hu
      ·exact List.mem_cons_of_mem _ (H.out.fps u (List.mem_of_mem_take hu) k e)
      ·rcases List.mem_cons.1 hu with rfl | hu
       ·simp[Value.ownBlock] at e;subst e;simp
       ·exact List.mem_cons_of_mem _ (H.out.fps u (List.mem_of_mem_drop hu) k e)
     ·intro k hk
      rcases List.mem_cons.1 hk with rfl | hk
      ·simpa using hg5
      ·exact Nat.lt_of_lt_of_le (H.out.fpl k hk) hsz
     ·intro k hk
      rcases List.mem_cons.1 hk with rfl | hk
      ·exact⟨by omega,by simp[Value.ownBlock];omega⟩
      ·refine⟨(H.out.dis k hk).1,?_⟩
       intro e
       simp[Value.ownBlock] at e
       rcases AT.out with h4 | h4
       ·exact (H.out.dis k hk).2 (by rw[h4,e])
       ·have:=H.out.fpl k hk;omega
     ·refine⟨?_,?_,?_,hsz,hfr,?_,?_,?_⟩
      ·exact (B5.out.os.trans HG.out.os).trans G3.out.1
      ·exact (B5.out.tape.trans HG.out.tape).trans G3.out.2.1
      ·exact (B5.out.output.trans HG.out.output).trans G3.out.2.2
      ·rcases AT.out with h4 | h4
       ·exact Or.inl (by rw[h4];rfl)
       ·exact Or.inr ⟨gn,rfl,h4⟩
      ·intro k hk
       rcases List.mem_cons.1 hk with rfl | hk
       ·exact Or.inr (by have:=HG.out.size;omega)
       ·exact Or.inl hk
      ·rw[zAh (by omega),B5.out.cell (p:=⟨g,1,none⟩) lg4,HG.out.cell_far ⟨g,1,none⟩ lg3' (by simp;exact fun e=>hgne e.symm)]
       exact C13.out
end Go.Proofs.YtkmebkbpfmoeaaaGreat
