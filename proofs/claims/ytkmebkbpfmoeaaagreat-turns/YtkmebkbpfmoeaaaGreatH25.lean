import Derived.Test.YtkmebkbpfmoeaaaGreatH24
set_option linter.unusedVariables false
set_option linter.unusedSimpArgs false
set_option maxHeartbeats 12800000
namespace Go.Proofs.YtkmebkbpfmoeaaaGreat
open Go Go.RowKit
set_option maxRecDepth 100000
namespace Q
theorem joinAll_step (wd:Wd) (rss:List (List Run)) (ds:List Int) (k:Nat) (hr:k<rss.length) (hd:k<ds.length) (h:(ds.getD k 0).toNat<rss[k].length):zKn wd (rss.drop k) (ds.drop k)=zKn (wd.join (rss[k][(ds.getD k 0).toNat]'h)) (rss.drop (k+1)) (ds.drop (k+1)):=by
 rw[List.drop_eq_getElem_cons hr,List.drop_eq_getElem_cons hd]
 rw[zKn]
 have e:ds[k]=ds.getD k 0:=(zAH ds k hd 0).symm
 rw[dif_pos (by rw[e];exact h)]
 congr 2
 simp only[e]
theorem joinAll_len:∀ (wd:Wd) (rss:List (List Run)) (ds:List Int),wd.events.length≤(zKn wd rss ds).events.length
 | wd,rs::rest,d::ds=>by
  rw[zKn]
  refine Nat.le_trans ?_ (joinAll_len _ rest ds)
  split
  ·simp[Wd.join]
  ·exact Nat.le_refl _
 | wd,[],_=>Nat.le_refl _
 | wd,_::_,[]=>Nat.le_refl _
end Q
theorem zDb:∀ (rs:List Q.Run) (us:List Value),us.length=rs.length→∀ (d:Nat) (h:d<rs.length),∃ u,us[d]?=some u∧(zAX rs us)[d*5]?=some u∧(zAX rs us)[d*5+1]?=some (.int .i64 (rs[d].regs.getD 0 0))∧(zAX rs us)[d*5+2]?=some (.int .i64 (rs[d].regs.getD 1 0))∧(zAX rs us)[d*5+3]?=some (.int .i64 (rs[d].regs.getD 2 0))∧(zAX rs us)[d*5+4]?=some (.int .i64 (rs[d].regs.getD 3 0))
 | [],us,_,d,h=>by simp at h
 | r::rs,[],hl,d,h=>by simp at hl
 | r::rs,u::us,hl,0,h=>⟨u,rfl,rfl,rfl,rfl,rfl,rfl⟩
 | r::rs,u::us,hl,d+1,h=>by
  obtain⟨x,h1,h2,h3,h4,h5,h6⟩:=zDb rs us (by simpa using hl) d (by simpa using h)
  refine⟨x,by simpa using h1,?_,?_,?_,?_,?_⟩
  ·rw[show (d+1)*5=d*5+5 by omega];simpa [zAX] using h2
  ·rw[show (d+1)*5+1=d*5+1+5 by omega];simpa [zAX] using h3
  ·rw[show (d+1)*5+2=d*5+2+5 by omega];simpa [zAX] using h4
  ·rw[show (d+1)*5+3=d*5+3+5 by omega];simpa [zAX] using h5
  ·rw[show (d+1)*5+4=d*5+4+5 by omega];simpa [zAX] using h6
theorem zEA (g o:Nat) (rv:Value) (vs:List Value) (wss:List (List Value)) (gb gd:Nat) (rss:List (List Q.Run)) (ds:List Int) (rest:List (List Int)) (w:World) (h:WsOn w g o rv vs wss gb gd rss ds rest) (hd:Q.DigOk (rss.map fun r=>(r.length:Int)) ds) (hn:rss.length<20) (hcap:(Q.zIl rss ds).events.length≤64) (hok:∀ rs∈rss,∀ r∈rs,r.regs.length=4∧∀ e∈r.events,e.hangs<Q.M64) :
  Calls Tryz.prog 69 #[.pointer (some ⟨g,o,none⟩)] w fun e w'=>∃ ev rg,e=.returned (.agg #[ev,rg])∧WdIn w' ev rg (Q.zIl rss ds)∧(∀ k,rg.ownBlock=some k→w.heap.size≤k)∧Below w.heap.size w w':=by
 obtain⟨bg,hc⟩:=h.ctr.ctr
 have hdl:ds.length=rss.length:=by rw[hc.len];simp
 have hgl:=hc.lt
 have c0:=h.c0
 have c2:=hc.c1
 have HDG:=zAa hc.digits
 have hgd:=hc.digits.lt
 have HRA:=zAa h.runs
 have HOK:=zAa hok
 have HDR:Hid (∀ i (hi:i<rss.length),0≤ds.getD i 0∧ds.getD i 0<(rss[i].length:Int)):=fun i hi=>by
  have h1:=hd.rng i (by omega)
  rw[zAH _ _ (by simpa using hi)] at h1
  simp at h1
  rw[zAH ds i (by omega)];exact h1
 obtain⟨ra,rc,hrv⟩:∃ a c,rv=.slice a rss.length c:=by
  rcases h.runs.own.2 with ⟨e,h0⟩ | ⟨k,c,cur,e,_⟩
  ·exact⟨none,0,by rw[e,h0]⟩
  ·exact⟨_,c,e⟩
 have hb1:(rss.map fun r=>(r.length:Int)).length=rss.length:=by simp
 have HWA:Hid (Q.zIl rss ds=Q.zKn ⟨Q.zIR,[]⟩ (rss.drop 0) (ds.drop 0)):=rfl
 have HCAP:=zAa hcap
 rw[hdl] at c2
 obtain⟨k0,hsz,hbw⟩:=zBt w #[.slice none 0 0,.slice none 0 0] 61
 have BW0:=zAa hbw
 have hle1:ds.length≤rss.length:=by omega
 have hle2:rss.length≤ds.length:=by omega
 have c2':w.cell? ⟨g,o+2,none⟩=some (.slice (some ⟨gd,0,none⟩) rss.length rss.length):=c2
 clear h hc hd hb1 hbw hdl c2 hok hcap
 subst hrv
 go_enter Tryz.func69,Tryz.ntmps69
 go_upto_region 1 with fail
 generalize hE:w.alloc (.cells #[.slice none 0 0,.slice none 0 0] 61)=W0 at *
 have K0:=zAa k0
 have hszl:w.heap.size+1≤W0.heap.size:=by omega
 clear hE k0 hsz
 go_upto_region 2 with (first | (go_at_call 103;refine (zDw _).mono ?_;rintro e w1 ⟨g1,rfl,ho1,hb1⟩))
 have HW1:Hid (WM (w1.alloc (.cells #[.slice (some ⟨g1,0,none⟩) 3 3,.slice none 0 0] 61)) W0.heap.size w1.heap.size ⟨Q.zIR,[]⟩ (.slice (some ⟨g1,0,none⟩) 3 3) (.slice none 0 0)) :=
  ⟨heap_alloc_new w1 _,zAc ho1 (fun k e=>Below.heap_alloc _ _ _ (ho1.lt k e).2),by simpa using World.ownsRow_nil _ _ _ _,hb1.size⟩
 have HB1:Hid (Below W0.heap.size W0 (w1.alloc (.cells #[.slice (some ⟨g1,0,none⟩) 3 3,.slice none 0 0] 61))):=hb1.alloc hb1.size _
 have hg3:W0.heap.size≤w1.heap.size:=hb1.size
 generalize hWW:w1.alloc (.cells #[.slice (some ⟨g1,0,none⟩) 3 3,.slice none 0 0] 61)=W1 at *
 generalize hgg:w1.heap.size=g3 at *
 have hg3l:=HW1.out.lt
 have HBW1:Hid (Below w.heap.size w W1):=zAn BW0.out (Nat.le_refl _) HB1.out
 clear hWW ho1 hb1 hgg
 have d2:=(HBW1.out.cell (p:=⟨g,o+2,none⟩) hgl).trans c2'
 have lg1:=Nat.lt_of_lt_of_le hgl HBW1.out.size
 go_wp2
 go_loopw [14] (fun j wr=>∃ (k:Nat) (wd:Q.Wd) (ev rg:Value),k≤rss.length∧j=.int .i64 k∧Hid (Q.zIl rss ds=Q.zKn wd (rss.drop k) (ds.drop k))∧Hid (wd.regs.length=4*k)∧Hid (WM wr W0.heap.size g3 wd ev rg)∧Hid (Below W0.heap.size W0 wr)) (fun j _=>rss.length-(intOf j).toNat)
 case atStart=>exact⟨0,_,_,_,Nat.zero_le _,rfl,HWA,rfl,HW1,HB1⟩
 case round =>
  clear d2 lg1
  obtain⟨k,wd,ev,rg,hk,rfl,HJ,HRL,HM,HB⟩:=hrel
  have HBW:Hid (Below w.heap.size w wr):=zAn BW0.out (Nat.le_refl _) HB.out
  by_cases hlt:k<rss.length
  ·have hin:(k:Int)<(rss.length:Int):=by omega
   have hdr:=HDR.out k hlt
   obtain⟨d,hdd⟩:∃ d:Nat,ds.getD k 0=(d:Int):=⟨(ds.getD k 0).toNat,by omega⟩
   have hdl2:d<rss[k].length:=by omega
   have HJS:Hid (Q.zIl rss ds=Q.zKn (wd.join rss[k][d]) (rss.drop (k+1)) (ds.drop (k+1))):=by
    unfold Hid
    rw[HJ.out,Q.joinAll_step wd rss ds k hlt (by omega) (by omega)]
    congr 2
    simp only[hdd,Int.toNat_natCast]
   have hcl:(wd.join rss[k][d]).events.length≤64:=by
    have h1:=Q.joinAll_len (wd.join rss[k][d]) (rss.drop (k+1)) (ds.drop (k+1))
    rw[← HJS.out] at h1
    have:=HCAP.out
    omega
   have hcl2:wd.events.length+rss[k][d].events.length≤64:=by simpa [Q.Wd.join] using hcl
   have hokr:=HOK.out rss[k] (List.getElem_mem hlt) rss[k][d] (List.getElem_mem hdl2)
   have hkv:k<vs.length:=by rw[HRA.out.lv];exact hlt
   have hkw:k<wss.length:=by rw[HRA.out.lw];exact hlt
   have hruns:=HRA.out.runs k hlt vs[k] wss[k] (List.getElem?_eq_getElem hkv) (List.getElem?_eq_getElem hkw)
   obtain⟨u,hu1,q0,q1,q2,q3,q4⟩:=zDb rss[k] wss[k] hruns.len d hdl2
   have hue:=hruns.evs d hdl2 u hu1
   obtain⟨gk,ck,hvk,hgkl⟩:∃ gk ck,vs[k]=.slice (some ⟨gk,0,none⟩) rss[k].length ck∧gk<w.heap.size:=by
    rcases hruns.own.2 with ⟨e,h0⟩ | ⟨k',c,cur,e,_⟩
    ·omega
    ·exact⟨k',c,e,(hruns.own.lt k' (by rw[e];rfl)).2⟩
   obtain⟨br,hra,hbrl,hcr⟩:∃ br,ra=some ⟨br,0,none⟩∧br<w.heap.size∧w.cell? ⟨br,k,none⟩=some vs[k]:=by
    rcases HRA.out.own.2 with ⟨e,h0⟩ | ⟨k',c,cur,e,_⟩
    ·omega
    ·simp only[Value.slice.injEq] at e
     refine⟨k',e.1,(HRA.out.own.lt k' (by rw[e.1];rfl)).2,?_⟩
     have h1:=HRA.out.own
     rw[e.1] at h1
     exact zDk h1 hkv
   have hro:=hruns.own
   rw[hvk] at hro hcr
   have z0:wr.cell? ⟨gk,d*5,none⟩=some u:=(HBW.out.cell (p:=⟨gk,d*5,none⟩) hgkl).trans ((hro.cellAt _ (by omega)).trans q0)
   have z1:wr.cell? ⟨gk,d*5+1,none⟩=some (.int .i64 (rss[k][d].regs.getD 0 0)):=(HBW.out.cell (p:=⟨gk,d*5+1,none⟩) hgkl).trans ((hro.cellAt _ (by omega)).trans q1)
   have z2:wr.cell? ⟨gk,d*5+2,none⟩=some (.int .i64 (rss[k][d].regs.getD 1 0)):=(HBW.out.cell (p:=⟨gk,d*5+2,none⟩) hgkl).trans ((hro.cellAt _ (by omega)).trans q2)
   have z3:wr.cell? ⟨gk,d*5+3,none⟩=some (.int .i64 (rss[k][d].regs.getD 2 0)):=(HBW.out.cell (p:=⟨gk,d*5+3,none⟩) hgkl).trans ((hro.cellAt _ (by omega)).trans q3)
   have z4:wr.cell? ⟨gk,d*5+4,none⟩=some (.int .i64 (rss[k][d].regs.getD 3 0)):=(HBW.out.cell (p:=⟨gk,d*5+4,none⟩) hgkl).trans ((hro.cellAt _ (by omega)).trans q4)
   have y0:=cfL HBW.out hgl c0
   have y2:=(HBW.out.cell (p:=⟨g,o+2,none⟩) hgl).trans c2'
   have yr:=cfL HBW.out hbrl hcr
   have yd:wr.cell? ⟨gd,k,none⟩=some (.int .i64 (d:Int)):=by rw[← hdd];exact (HBW.out.cell (p:=⟨gd,k,none⟩) hgd).trans (HDG.out.cellD k (by omega))
   have HUE:Hid (zAW wr u rss[k][d].events):=hue.below HBW.out
   have HUB:Hid (∀ y,u.ownBlock=some y→y<W0.heap.size):=fun y e=>by have:=(hue.lt y e).2;omega
   obtain⟨ua,uc,huf,_⟩:=hue.form
   have lwr:=HBW.out.size
   have l1:g<wr.heap.size:=by omega
   have l2:br<wr.heap.size:=by omega
   have l3:gk<wr.heap.size:=by omega
   have l4:gd<wr.heap.size:=by omega
   have hdI:(d:Int)<(rss[k].length:Int):=by omega
   have hwW:W0.heap.size≤wr.heap.size:=HB.out.size
   have hrl4:=HRL.out
   have hrl100:wd.regs.length<100:=by omega
   have HRL2:Hid ((wd.join rss[k][d]).regs.length=4*(k+1)):=by unfold Hid Q.Wd.join;simp[hokr.1];omega
   clear hruns hro hcr hue q0 q1 q2 q3 q4 hu1 hvk hdd hdr HJ hcl hrl4
   generalize rss[k][d]=rr at *
   generalize rss[k].length=nk at *
   subst hra huf
   generalize ht0:rr.regs.getD 0 0=t0 at *
   generalize ht1:rr.regs.getD 1 0=t1 at *
   generalize ht2:rr.regs.getD 2 0=t2 at *
   generalize ht3:rr.regs.getD 3 0=t3 at *
   have HT0:=zAa ht0
   have HT1:=zAa ht1
   have HT2:=zAa ht2
   have HT3:=zAa ht3
   clear ht0 ht1 ht2 ht3
   go_wp2_with (first | (go_at_call 104;have hj:=zHh W0.heap.size g3 wd ev rg (.slice ua rr.events.length uc) rr wr HM.out HUE.out HUB.out hwW hokr.1 hcl2 hrl100 hokr.2;rw[HT0.out,HT1.out,HT2.out,HT3.out] at hj;refine hj.mono ?_;rintro e w2 ⟨rfl,⟨ev',rg',hm'⟩,hb'⟩))
   go_roundw
   case rel=>exact⟨k+1,wd.join rr,ev',rg',by omega,by go_num,HJS,HRL2,hm',HB.out.trans hb'⟩
   case measure=>simp[intOf];omega
  ·have hkn:k=rss.length:=by omega
   have HE:Hid (wd=Q.zIl rss ds):=by
    have h1:=HJ.out
    rw[List.drop_eq_nil_of_le (by omega),List.drop_eq_nil_of_le (by omega)] at h1
    unfold Hid;rw[h1];rfl
   obtain⟨⟨ea,ec,hev⟩,⟨qa,qc,hrg⟩⟩:=HM.out.form
   obtain⟨m0,m1,mf⟩:=HM.out.facts
   have hgm:=HM.out.lt
   have KR:=zAa ((HB.out.block w.heap.size (by omega)).trans K0.out)
   have lw:w.heap.size<wr.heap.size:=by have:=HB.out.size;omega
   have r0:wr.cell? ⟨w.heap.size,0,none⟩=some (.slice none 0 0):=by simp[World.cell?,KR.out]
   have r1:wr.cell? ⟨w.heap.size,1,none⟩=some (.slice none 0 0):=by simp[World.cell?,KR.out]
   have rf:∀ j,wr.frozen? ⟨w.heap.size,j,none⟩=false:=fun j=>by simp[World.frozen?,KR.out]
   subst hev hrg
   have hnl:¬ (k:Int)<(rss.length:Int):=by omega
   go_wp2
   obtain⟨s0,s1,s2⟩:=zBB [.slice ea wd.events.length ec,.slice qa wd.regs.length qc] KR.out rfl
   refine zBd (p:=2) w.heap.size _ (by kernel_rfl) Tryz.underlying61 rfl (by kernel_rfl) rfl (by exact s0) rfl ⟨_,_,rfl,?_,fun y e=>by have:=(HM.out.rgs.lt y e).1;omega,s2 _ _ (Nat.le_refl _) HBW.out⟩
   rw[← HE.out]
   have e1:=zAc HM.out.evs (fun y e=>s1 y (by have:=(HM.out.evs.lt y e).1;omega))
   have e2:=zAc HM.out.rgs (fun y e=>s1 y (by have:=(HM.out.rgs.lt y e).1;omega))
   refine⟨⟨e1.1,?_⟩,zCr e2 rfl⟩
   rcases e1.2 with h0 | ⟨g',cap,cur,e,hge,q⟩
   ·exact Or.inl h0
   ·exact Or.inr ⟨g',cap,cur,e,Nat.zero_le _,q⟩
theorem Tryz.infoRuns:(Tryz.prog.info? 117).map (fun i=>(i.zero,i.size,i.bytes))=some (some (.slice none 0 0),1,24):=by kernel_rfl
namespace Q
theorem runsFrom_len:∀ (i:Nat) (ts:List P.Thr),(runsFrom i ts).length=ts.length
 | _,[]=>rfl
 | i,t::ts=>by simp[runsFrom,runsFrom_len (i+1) ts]
theorem runsFrom_take:∀ (i:Nat) (ts:List P.Thr) (k:Nat) (h:k<ts.length),(runsFrom i ts).take (k+1)=(runsFrom i ts).take k++[zJS ts[k] (i+k)]
 | _,[],k,h=>by simp at h
 | i,t::ts,0,h=>by simp[runsFrom]
 | i,t::ts,k+1,h=>by
  simp only[runsFrom,List.take_succ_cons,List.cons_append,List.getElem_cons_succ]
  rw[runsFrom_take (i+1) ts k (by simpa using h),show i+1+k=i+(k+1) by omega]
theorem runs_take (ts:List P.Thr) (k:Nat) (h:k<ts.length):(runs ts).take (k+1)=(runs ts).take k++[zJS ts[k] k]:=by
 have:=runsFrom_take 0 ts k h
 simpa [runs] using this
theorem zJD (ts:List P.Thr):(runs ts).length=ts.length:=runsFrom_len 0 ts
end Q
theorem RunsIn.grownT {w w':World} {B:Nat} {v:Value} {rs:List Q.Run} {vs:List Value} {B' n' sz':Nat} {t':TypeId} {u:Value} {xs':List Value} (h:RunsIn w B v rs vs) (ho:w.ownsRow B' t' sz' u n' xs') (h1:150≠t') (h2:129≠t') (hg:w.grownBy w' u.ownBlock):RunsIn w' B v rs vs :=
 ⟨(zBx h.own ho h1 hg).1,h.len,fun i hi x hx=>(zBx (h.evs i hi x hx) ho h2 hg).1⟩
theorem RunsAll.snoc {w w1:World} {B:Nat} {v v' u:Value} {rss:List (List Q.Run)} {vs us:List Value} {wss:List (List Value)} {rs:List Q.Run} (h:RunsAll w B v rss vs wss) (hu:RunsIn w 0 u rs us) (hown:w1.ownsRow B 117 1 v' (rss.length+1) (vs++[u])) (hg:w.grownBy w1 v.ownBlock):RunsAll w1 B v' (rss++[rs]) (vs++[u]) (wss++[us]):=by
 refine⟨by simpa using hown,by simp[h.lv],by simp[h.lw],fun i hi x xs hx hxs=>?_⟩
 by_cases hlt:i<rss.length
 ·rw[List.getElem?_append_left (by rw[h.lv];exact hlt)] at hx
  rw[List.getElem?_append_left (by rw[h.lw];exact hlt)] at hxs
  rw[List.getElem_append_left hlt]
  exact (h.runs i hlt x xs hx hxs).grownT h.own (by decide) (by decide) hg
 ·simp at hi
  have hie:i=rss.length:=by omega
  subst hie
  rw[List.getElem?_append_right (by rw[h.lv];exact Nat.le_refl _),h.lv] at hx
  rw[List.getElem?_append_right (by rw[h.lw];exact Nat.le_refl _),h.lw] at hxs
  simp at hx hxs
  subst hx hxs
  simp
  exact hu.grownT h.own (by decide) (by decide) hg
theorem RunsAll.grownT {w w':World} {B:Nat} {v:Value} {rss:List (List Q.Run)} {vs:List Value} {wss:List (List Value)} {B' n' sz':Nat} {t':TypeId} {u:Value} {xs':List Value} (h:RunsAll w B v rss vs wss) (ho:w.ownsRow B' t' sz' u n' xs') (h0:117≠t') (h1:150≠t') (h2:129≠t') (hg:w.grownBy w' u.ownBlock):RunsAll w' B v rss vs wss :=
 ⟨(zBx h.own ho h0 hg).1,h.lv,h.lw,fun i hi x xs hx hxs=>(h.runs i hi x xs hx hxs).grownT ho h1 h2 hg⟩
theorem RunsIn.base {w:World} {B:Nat} {v:Value} {rs:List Q.Run} {vs:List Value} (h:RunsIn w B v rs vs):RunsIn w 0 v rs vs:=by
 refine⟨⟨h.own.1,?_⟩,h.len,h.evs⟩
 rcases h.own.2 with h0 | ⟨g',cap,cur,e,hge,q⟩
 ·exact Or.inl h0
 ·exact Or.inr ⟨g',cap,cur,e,Nat.zero_le _,q⟩
def zAT (rss:List (List Q.Run)):List Int:=rss.map fun r=>(r.length:Int)
def zId (w w':World) (rss:List (List Q.Run)) (e:Ending):Prop:=∃ rv vs wss gb gd,e=.returned (.agg #[rv,.slice (some ⟨gb,0,none⟩) rss.length rss.length,.slice (some ⟨gd,0,none⟩) rss.length rss.length,.bool false])∧RunsAll w' 0 rv rss vs wss∧zAp w' gb (zAT rss)∧zAp w' gd (Q.zeros rss.length)∧w.heap.size≤gb∧w.heap.size≤gd∧gb≠gd∧Below w.heap.size w w'
theorem zEB (B bt cap:Nat) (ts:List P.Thr) (w:World) (h:zAv w B (.slice (some ⟨bt,0,none⟩) ts.length cap) ts) (hn:ts.length<20) (hok:∀ t∈ts,(∀ s∈t.stmts,Q.StOk s)∧t.stmts.length<900∧Q.codes t.stmts<100000) :
  Calls Tryz.prog 46 #[.agg #[.slice (some ⟨bt,0,none⟩) ts.length cap]] w fun e w'=>zId w w' (Q.runs ts) e:=by
 obtain⟨i0,hi0,hz0,hz1,hz2⟩:=info_parts Tryz.infoIntM
 obtain⟨j0,hj0,hy0,hy1,hy2⟩:=info_parts Tryz.infoRuns
 obtain⟨k0,k1,hsz,hbw⟩:=zBM w #[.slice (some ⟨bt,0,none⟩) ts.length cap] #[.slice none 0 0,.slice none 0 0,.slice none 0 0,.bool false] 45 71
 have HT:=zAa h
 have HOK:=zAa hok
 have BW0:=zAa hbw
 clear hbw h hok
 go_enter Tryz.func46,Tryz.ntmps46
 go_upto_region 1 with fail
 generalize hE:(w.alloc (.cells #[.slice (some ⟨bt,0,none⟩) ts.length cap] 45)).alloc (.cells #[.slice none 0 0,.slice none 0 0,.slice none 0 0,.bool false] 71)=W0 at *
 have c00:=ceL k0 0 _ rfl
 have l0:w.heap.size<W0.heap.size:=by omega
 have l1:w.heap.size+1<W0.heap.size:=by omega
 have hszl:w.heap.size+2≤W0.heap.size:=by omega
 have K1:=zAa k1
 clear hE k0 k1 hsz
 go_wp2
 go_loopw [3,4,11] (fun a b j wr=>∃ (k:Nat) (cv bv:Value) (vs:List Value) (wss:List (List Value)),k≤ts.length∧j=.int .i64 k∧a=cv∧b=bv∧Hid (RunsAll wr W0.heap.size cv ((Q.runs ts).take k) vs wss)∧Hid (wr.ownsRow W0.heap.size 3 1 bv k ((zAT ((Q.runs ts).take k)).map (Value.int .i64)))∧Hid (Below W0.heap.size W0 wr)) (fun _ _ j _=>ts.length-(intOf j).toNat)
 case atStart=>exact⟨0,_,_,[],[],Nat.zero_le _,rfl,rfl,rfl,⟨by simpa using World.ownsRow_nil _ _ _ _,rfl,rfl,fun i h=>by simp at h⟩,by simpa [Hid,zAT] using World.ownsRow_nil _ _ _ _,Below.refl _ _⟩
 case round =>
  obtain⟨k,cv,bv,vs,wss,hk,rfl,hcv,hbv,HC,HO,HB⟩:=hrel
  have hcv:=hcv.symm
  subst hcv
  have hbv:=hbv.symm
  subst hbv
  by_cases hlt:k<ts.length
  ·have hin:(k:Int)<(ts.length:Int):=by omega
   obtain⟨hbt,sa,sc,t0,t1,t2,hso⟩:=zEo HT.out rfl k hlt
   have HBW:Hid (Below w.heap.size w wr):=zAn BW0.out (Nat.le_refl _) HB.out
   have d0:=cfL HBW.out hbt t0
   have d1:=cfL HBW.out hbt t1
   have d2:=cfL HBW.out hbt t2
   have lbt:=Nat.lt_of_lt_of_le hbt HBW.out.size
   have HS:=zAa (Q.runs_take ts k hlt)
   have HSO:Hid (w.ownsRow 0 97 11 (.slice sa ts[k].stmts.length sc) ts[k].stmts.length (zBa ts[k].stmts)):=by
    refine⟨hso.1,?_⟩
    rcases hso.2 with h0 | ⟨g',cap',cur,e,hge,q⟩
    ·exact Or.inl h0
    ·exact Or.inr ⟨g',cap',cur,e,Nat.zero_le _,q⟩
   have hokt:=HOK.out ts[k] (List.getElem_mem hlt)
   have hclen:((Q.runs ts).take k).length=k:=by simp[Q.zJD];omega
   clear t0 t1 t2 hso
   generalize ts[k]=t at *
   have HRS:Hid ((wr.alloc (.cells #[.int .i64 t.block,.int .i64 t.line,.slice sa t.stmts.length sc] 93)).ownsRow 0 97 11 (.slice sa t.stmts.length sc) t.stmts.length (zBa t.stmts)):=zAc HSO.out (fun y e=>(Below.heap_alloc _ _ _ (by have:=(HSO.out.lt y e).2;have:=HBW.out.size;omega)).trans (HBW.out.block y (HSO.out.lt y e).2))
   go_upto_region 7 with (first | (go_at_call 65;refine (zGe k t (.slice sa t.stmts.length sc) _ HRS.out (by omega) hokt.1 hokt.2.1 hokt.2.2).mono ?_;rintro e w1 ⟨mv,us,rfl,hmr,hb1⟩))
   obtain⟨ma,mc,hmf⟩:=hmr.form
   have BA0:Below wr.heap.size wr (wr.alloc (.cells #[.int .i64 t.block,.int .i64 t.line,.slice sa t.stmts.length sc] 93)):=(Below.refl _ _).alloc (Nat.le_refl _) _
   have hb1':Below wr.heap.size wr w1:=zAn BA0 (Nat.le_refl _) hb1
   have hrl:(Q.zJS t k).length<100000:=by have:=Q.zJV t k (Q.codes t.stmts);unfold Q.zJS;omega
   generalize hmm:Q.zJS t k=mr at *
   subst hmf
   have M1:=zAa hmr.base
   have B1:Hid (Below W0.heap.size W0 w1):=zAn HB.out (Nat.le_refl _) hb1'
   have C1:=zAa (HC.out.below hb1')
   have O1:Hid (w1.ownsRow W0.heap.size 3 1 bv k ((zAT ((Q.runs ts).take k)).map (Value.int .i64))):=zAc HO.out (fun y e=>hb1'.block y (HO.out.lt y e).2)
   have hW1:W0.heap.size≤w1.heap.size:=B1.out.size
   have HCL:Hid (((Q.runs ts).take k).length=k):=hclen
   obtain⟨ca,cc,hcf⟩:∃ a c,cv=.slice a k c:=by
    have h1:=HC.out.own
    rw[hclen] at h1
    rcases h1.2 with ⟨e,h0⟩ | ⟨g',c,cur,e,_⟩
    ·exact⟨none,0,by rw[e,h0]⟩
    ·exact⟨_,c,e⟩
   obtain⟨ba,bc,hbf⟩:∃ a c,bv=.slice a k c:=by
    rcases HO.out.2 with ⟨e,h0⟩ | ⟨g',c,cur,e,_⟩
    ·exact⟨none,0,by rw[e,h0]⟩
    ·exact⟨_,c,e⟩
   have C1o:Hid ((w1.alloc (.cells #[.slice ma mr.length mc] 117)).ownsRow W0.heap.size 117 1 cv k vs):=by
    have h1:=C1.out.own
    rw[hclen] at h1
    exact zAc h1 (fun y e=>Below.heap_alloc _ _ _ (h1.lt y e).2)
   have HN1:Hid (∀ j u,[Value.slice ma mr.length mc][j]?=some u→(w1.alloc (.cells #[.slice ma mr.length mc] 117)).cell? ((⟨w1.heap.size,0,none⟩:Addr).add j)=some u):=World.news_of_block (cs:=#[.slice ma mr.length mc]) (t:=117) (fr:=(0,0)) (heap_alloc_new w1 _)
   clear hclen hmr hb1 hb1' BA0
   subst hcf hbf
   go_upto_region 8 with (first | (at_builtin;refine wpList_append_lies _ rfl (.tmp 19) (.tmp 21) 67 rfl W0.heap.size 117 j0 (.slice none 0 0) 1 24 Tryz.underlying67 hj0 hy0 hy1 hy2 rfl (by decide) (.slice ca k cc) k vs rfl (by exact C1o.out) ⟨w1.heap.size,0,none⟩ 1 1 [.slice ma mr.length mc] rfl rfl (by exact HN1.out) (by simp[Value.oneCell']) (by decide) (by unfold maxLen;omega) (by omega) (by simp;omega) _ rfl ?_;intro gn cn w2 hown2 hgrow2 hat2 hlt2))
   have BA:Below w1.heap.size w1 (w1.alloc (.cells #[.slice ma mr.length mc] 117)):=(Below.refl _ _).alloc (Nat.le_refl _) _
   have C2:Hid (RunsAll w2 W0.heap.size (.slice (some ⟨gn,0,none⟩) (k+1) cn) ((Q.runs ts).take (k+1)) (vs++[.slice ma mr.length mc]) (wss++[us])):=by
    unfold Hid
    rw[HS.out]
    exact (C1.out.below BA).snoc (M1.out.below BA) (by rw[HCL.out];exact hown2) hgrow2
   have O2:=zBx (zAc O1.out (fun y e=>BA.block y (O1.out.lt y e).2)) C1o.out (by decide) hgrow2
   have hW2:w1.heap.size+1≤w2.heap.size:=by have:=hgrow2.size;simp at this;omega
   have B2:Hid (Below W0.heap.size W0 w2):=(B1.out.alloc hW1 _).trans ⟨hgrow2.os,hgrow2.tape,hgrow2.output,hgrow2.size,fun y hy=>hgrow2.block y (by simp;omega) (fun e=>by have:=(C1o.out.lt y e.symm).1;omega)⟩
   have O2o:Hid ((w2.alloc (.cells #[.int .i64 (mr.length:Int)] 3)).ownsRow W0.heap.size 3 1 (.slice ba k bc) k ((zAT ((Q.runs ts).take k)).map (Value.int .i64))):=zAc O2.1 (fun y e=>Below.heap_alloc _ _ _ (O2.1.lt y e).2)
   have HN2:Hid (∀ j u,[Value.int .i64 (mr.length:Int)][j]?=some u→(w2.alloc (.cells #[.int .i64 (mr.length:Int)] 3)).cell? ((⟨w2.heap.size,0,none⟩:Addr).add j)=some u):=World.news_of_block (cs:=#[.int .i64 (mr.length:Int)]) (t:=3) (fr:=(0,0)) (heap_alloc_new w2 _)
   clear hown2 hgrow2 hat2 O2 BA
   go_wp2_with (first | (at_builtin;refine wpList_append_lies _ rfl (.tmp 23) (.tmp 26) 31 rfl W0.heap.size 3 i0 (.int .i64 0) 1 8 Tryz.underlying31 hi0 hz0 hz1 hz2 rfl (by decide) (.slice ba k bc) k ((zAT ((Q.runs ts).take k)).map (Value.int .i64)) rfl (by exact O2o.out) ⟨w2.heap.size,0,none⟩ 1 1 [.int .i64 (mr.length:Int)] rfl rfl (by exact HN2.out) (by simp[Value.oneCell']) (by decide) (by unfold maxLen;omega) (by omega) (by simp;omega) _ rfl ?_;intro g3 c3 w3 hown3 hgrow3 hat3 hlt3))
   have BA3:Below w2.heap.size w2 (w2.alloc (.cells #[.int .i64 (mr.length:Int)] 3)):=(Below.refl _ _).alloc (Nat.le_refl _) _
   have C3:=zAa ((C2.out.below BA3).grownT O2o.out (by decide) (by decide) (by decide) hgrow3)
   have O3:Hid (w3.ownsRow W0.heap.size 3 1 (.slice (some ⟨g3,0,none⟩) (k+1) c3) (k+1) ((zAT ((Q.runs ts).take (k+1))).map (Value.int .i64))):=by
    unfold Hid;rw[HS.out];unfold zAT;rw[List.map_append,List.map_append];exact hown3
   have B3:Hid (Below W0.heap.size W0 w3):=(B2.out.alloc (by omega) _).trans ⟨hgrow3.os,hgrow3.tape,hgrow3.output,hgrow3.size,fun y hy=>hgrow3.block y (by simp;omega) (fun e=>by have:=(O2o.out.lt y e.symm).1;omega)⟩
   clear hown3 hgrow3 hat3
   go_roundw
   case rel=>exact⟨k+1,_,_,_,_,by omega,by go_num,rfl,rfl,C3,O3,B3⟩
   case measure=>simp[intOf];omega
  ·have hkn:k=ts.length:=by omega
   have HL:Hid ((zAT (Q.runs ts)).length=(Q.runs ts).length):=by simp[Hid,zAT]
   have HLR:=zAa (Q.zJD ts)
   have C0:Hid (RunsAll wr W0.heap.size cv (Q.runs ts) vs wss):=by have h1:=HC.out;rw[hkn,List.take_of_length_le (by rw[HLR.out];exact Nat.le_refl _)] at h1;exact h1
   have O0:Hid (zBA wr bv (zAT (Q.runs ts))):=by
    have h1:=HO.out
    rw[hkn,List.take_of_length_le (by rw[HLR.out];exact Nat.le_refl _)] at h1
    exact zCr h1 (by rw[HL.out,HLR.out])
   obtain⟨ca,cc,hcf⟩:∃ a c,cv=.slice a (Q.runs ts).length c:=by
    rcases C0.out.own.2 with ⟨e,h0⟩ | ⟨g',c,cur,e,_⟩
    ·exact⟨none,0,by rw[e,h0]⟩
    ·exact⟨_,c,e⟩
   obtain⟨ba,bc,hbf,_⟩:=O0.out.form
   clear HC HO
   subst hcf hbf
   go_wp2_with (first | (go_at_call 66;refine (zBQ _ (zAT (Q.runs ts)) _ O0.out (by rw[HL.out,HLR.out];omega)).mono ?_;rintro e w2 ⟨v1,v2,v3,rfl,⟨gb,gd,rfl,rfl,rfl,hib,hid,hgb,hgd,hne⟩,hb2⟩;have B2:Hid (Below W0.heap.size W0 w2):=zAn HB.out (Nat.le_refl _) hb2;have K2:=zAa ((B2.out.block _ l1).trans K1.out);obtain⟨t0,t1,t2,t3,tf,tl⟩:=zBZ K2.out;have IB:=zAa hib;have ID:=zAa hid;have C2:=zAa (C0.out.below hb2);rw[HL.out]))
   obtain⟨s0,s1,s2⟩:=zIa (s0:=.slice ca (Q.runs ts).length cc) (s1:=.slice (some ⟨gb,0,none⟩) (Q.runs ts).length (Q.runs ts).length) (s2:=.slice (some ⟨gd,0,none⟩) (Q.runs ts).length (Q.runs ts).length) (s3:=.bool false) K2.out
   have hws:=HB.out.size
   have hID:=ID.out
   rw[HL.out] at hID
   have hnr:∀ {B n sz:Nat} {t:TypeId} {v:Value} {xs:List Value},w2.ownsRow B t sz v n xs→t≠71→∀ k,v.ownBlock=some k→k≠w.heap.size+1:=fun h ht k e e2=>zAr h K2.out ht (by rw[e,e2])
   refine zBd (p:=2) (w.heap.size+1) _ (by kernel_rfl) Tryz.underlying71 rfl (by kernel_rfl) rfl (by exact s0) rfl ⟨_,vs,wss,gb,gd,rfl,⟨?_,C2.out.lv,C2.out.lw,fun i hi x xs hx hxs=>?_⟩,IB.out.of_block (s1 _ (by omega)),hID.of_block (s1 _ (by omega)),by omega,by omega,hne,s2 _ _ (by omega) (zAn BW0.out (Nat.le_refl _) B2.out)⟩
   ·have h1:=zAc C2.out.own (fun k e=>s1 k (hnr C2.out.own (by decide) k e))
    refine⟨h1.1,?_⟩
    rcases h1.2 with h0 | ⟨g',cap',cur,e,hge,q⟩
    ·exact Or.inl h0
    ·exact Or.inr ⟨g',cap',cur,e,Nat.zero_le _,q⟩
   ·have hr:=C2.out.runs i hi x xs hx hxs
    exact⟨zAc hr.own (fun k e=>s1 k (hnr hr.own (by decide) k e)),hr.len,fun j hj y hy=>zAc (hr.evs j hj y hy) (fun k e=>s1 k (hnr (hr.evs j hj y hy) (by decide) k e))⟩
end Go.Proofs.YtkmebkbpfmoeaaaGreat
