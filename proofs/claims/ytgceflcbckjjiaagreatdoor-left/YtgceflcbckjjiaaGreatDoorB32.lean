import Derived.Test.YtgceflcbckjjiaaGreatDoorB31
set_option linter.unusedVariables false
set_option linter.unusedSimpArgs false
namespace Go.Proofs.YtgceflcbckjjiaaGreatDoor
open Go Go.RowKit
set_option maxRecDepth 100000
namespace Q
def candOf (p:Wd × List Int):Cand:=⟨p.1,factsOf p.1.events,(factsOf p.1.events).reads (readsOf (choices p.1.events) p.2)⟩
def candsL (l:List (Wd × List Int)):List Cand:=(l.map candOf).filter fun c=>!c.facts.hangsOn c.reads
theorem candsL_cons (p:Wd × List Int) (l:List (Wd × List Int)):candsL (p::l)=if (candOf p).facts.hangsOn (candOf p).reads then candsL l else candOf p::candsL l:=by
 unfold candsL
 rw[List.map_cons,List.filter_cons]
 cases (candOf p).facts.hangsOn (candOf p).reads<;>rfl
theorem readsOf_len (cs:List (List Int)) (ds:List Int):(readsOf cs ds).length=cs.length:=by simp[readsOf]
end Q
structure CandNow (w:World) (gc:Nat) (A:WA) (rss:List (List Q.Run)) (s:RS) (ds:List Int) (rest:List (List Int)) (gr:Nat):Prop where
 on:CandOn w gc A rss (some s) ds rest
 c12:w.cell? ⟨gc,12,none⟩=some (.slice (some ⟨gr,0,none⟩) s.R.fa.n s.R.fa.n)
 rel:RelAt w gr s.R.fa.n (Q.candOf (s.wd,s.ds)).reads
def NextC (w w':World) (gc:Nat) (A:WA) (rss:List (List Q.Run)) (st:Option RS) (cs:List Q.Cand) (b:Bool):Prop :=
 CFrame w w' gc A st∧((b=false∧cs=[])∨(b=true∧∃ s ds rest gr,CandNow w' gc A rss s ds rest gr∧cs=Q.candOf (s.wd,s.ds)::Q.candsL (remS rss (some s) rest)∧(∀ k,s.R.nb k→nbS st k∨w.heap.size≤k)∧(gdS st s.R.gd∨w.heap.size≤s.R.gd)))
def CdInv (w:World) (gc:Nat) (A:WA) (rss:List (List Q.Run)) (st:Option RS) (C0:List Q.Cand) (wr:World) (n:Nat):Prop :=
 ∃ st1 ds1 rest1,CandOn wr gc A rss st1 ds1 rest1∧Q.candsL (remS rss st1 rest1)=C0∧(remS rss st1 rest1).length=n∧CFrame w wr gc A st∧(∀ k,nbS st1 k→nbS st k∨w.heap.size≤k)∧∀ k,gdS st1 k→gdS st k∨w.heap.size≤k
theorem CandOn.set12 {w:World} {gc:Nat} {A:WA} {rss:List (List Q.Run)} {s:RS} {ds:List Int} {rest:List (List Int)} (h:CandOn w gc A rss (some s) ds rest) (v:Value):CandOn (w.setCell ⟨gc,12,none⟩ v) gc A rss (some s) ds rest∧(w.setCell ⟨gc,12,none⟩ v).cell? ⟨gc,12,none⟩=some v∧∀ k,k≠gc→(w.setCell ⟨gc,12,none⟩ v).heap[k]?=w.heap[k]?:=by
 obtain⟨b6,r6,o6,k6⟩:=h.box.set 12 [v] (by simp)
 obtain⟨cc,hcc,_⟩:=id h.box
 obtain⟨hon,hwk⟩:=h.rs s rfl
 obtain⟨b,hc⟩:=hon.rd.ctr.ctr
 refine⟨⟨b6,WsOn.upd h.ws hcc (by decide) (by decide) (by decide) (fun j h1 h2=>o6 j (Or.inr (by simp;omega))) (fun j=>b6.free j) k6 (by simp),(o6 21 (Or.inr (by simp))).trans h.beg,fun s' hs'=>?_⟩,r6 0 _ rfl,k6⟩
 simp only[Option.some.injEq] at hs'
 subst hs'
 refine⟨⟨(o6 0 (Or.inl (by decide))).trans hon.c0,(o6 1 (Or.inl (by decide))).trans hon.c1,wd_set hon.wdi hon.n3.2 h.box 12 [v] (by simp),World.rangeAt_setCells_apart hon.fc gc 12 [v] (Or.inr (Or.inl (by simp[facCells]))),fac_set hon.fin h.box 12 [v] (by simp),⟨(o6 17 (Or.inr (by simp))).trans hon.rd.c0,?_,?_,hon.rd.nc,hon.rd.ne⟩,hon.n1,hon.n2,hon.n3⟩,hwk⟩
 ·exact⟨ownsRow_keep hon.rd.rows.own (fun k e=>k6 k (fun e2=>hon.rd.nc.2 (by rw[e,e2]))),hon.rd.rows.len,fun i hi x hx=>(hon.rd.rows.rows i hi x hx).own _ (fun k e=>k6 k (hon.rd.ne x (List.mem_of_getElem? hx) k e).2) (by simp)⟩
 ·obtain⟨b,⟨c0,c1,c2,cf,cl,cb,cd,n1,n2,n3,n4⟩,h5⟩:=hon.rd.ctr
  exact⟨b,⟨(o6 18 (Or.inr (by simp))).trans c0,(o6 19 (Or.inr (by simp))).trans c1,(o6 20 (Or.inr (by simp))).trans c2,b6.free,by simpa using cl,cb.of_block (k6 _ (fun e=>n2 e.symm)),cd.of_block (k6 _ (fun e=>n1 e.symm)),n1,n2,n3,n4⟩,h5⟩
set_option maxHeartbeats 12800000 in
theorem candNext_any (gc:Nat) (A:WA) (rss:List (List Q.Run)) (st:Option RS) (ds:List Int) (rest:List (List Int)) (w:World) (h:CandOn w gc A rss st ds rest) (hn:rss.length<20) (hb:∀ r∈rss,r.length<100000000) (hok:∀ rs∈rss,∀ r∈rs,r.regs.length=4∧∀ e∈r.events,e.hangs<Q.M64) (hW:∀ d,Q.DigOk (lensR rss) d→Q.WdOk (Q.worldAt rss d)) :
  Calls Tryz.prog 35 #[.pointer (some ⟨gc,0,none⟩)] w fun e w'=>∃ b,e=.returned (.bool b)∧NextC w w' gc A rss st (Q.candsL (remS rss st rest)) b:=by
 have H0:Hid (CdInv w gc A rss st (Q.candsL (remS rss st rest)) w (remS rss st rest).length):=⟨st,ds,rest,h,rfl,rfl,CFrame.refl _ _ _ _,fun k h=>Or.inl h,fun k h=>Or.inl h⟩
 have HB:=hide hb
 have HOK:=hide hok
 have HW:=hide hW
 generalize Q.candsL (remS rss st rest)=C0 at *
 generalize (remS rss st rest).length=N0 at *
 clear h hb hok hW
 obtain⟨μ,hμ⟩:=least_fun (CdInv w gc A rss st C0)
 have HMU:=hide hμ
 clear hμ
 go_enter Tryz.func35,Tryz.ntmps35
 go_wp2
 go_loopw [] (fun wr=>∃ n,Hid (CdInv w gc A rss st C0 wr n)) (fun wr=>μ wr)
 case atStart=>exact⟨_,H0⟩
 case round =>
  obtain⟨hI,hmin⟩:=HMU.out wr (by obtain⟨n,h⟩:=hrel;exact⟨n,h.out⟩)
  clear hrel hmin
  obtain⟨st1,ds1,rest1,hC,hR,hlen,hF,hN,hG⟩:=hI
  have HC:=hide hC
  have HR:=hide hR
  have HL:=hide hlen
  have HF:=hide hF
  have HN:=hide hN
  have HG:=hide hG
  have lgc:=hC.box.lt
  clear hC hR hlen hF hN hG
  go_upto_region 2 with (first | (go_at_call 61;refine (nextReading_any gc A rss st1 ds1 rest1 _ HC.out hn HB.out HOK.out HW.out).mono ?_;rintro e w2 ⟨b,rfl,hfr,h1⟩;have F2:=hide (HF.out.trans hfr HG.out);clear hfr;rcases h1 with ⟨rfl,hrem⟩ | ⟨rfl,s,ds2,rest2,hcn,hrem,hdo,hnb,hgs⟩))
  ·go_wp2
   go_ret
   exact⟨false,rfl,F2.out,Or.inl ⟨rfl,by rw[← HR.out,hrem];rfl⟩⟩
  ·have CN:=hide hcn
   have HREM:=hide hrem
   have HDO:=hide hdo
   obtain⟨hon,hwk⟩:=hcn.rs s rfl
   have HON:=hide hon
   have HWK:=hide hwk
   have HSZ:=hide HF.out.size
   have HNB:Hid (∀ k,s.R.nb k→nbS st k∨w.heap.size≤k):=fun k hk=>by
    rcases hnb k hk with h1 | h1
    ·exact HN.out k h1
    ·exact Or.inr (Nat.le_trans HSZ.out h1)
   have HGS:Hid (gdS st s.R.gd∨w.heap.size≤s.R.gd):=by
    rcases hgs with h1 | h1
    ·exact HG.out _ h1
    ·exact Or.inr (Nat.le_trans HSZ.out h1)
   have l2:=hcn.box.lt
   have BX2:=hide hcn.box
   obtain⟨fx,fcp,hfev,_⟩:=hon.fin.form
   have hcl:(Q.choices s.wd.events).length<1000:=by rw[Q.choices_len];have:=hwk.le;omega
   have HCM:Hid (∀ c∈Q.choices s.wd.events,c.length<1000):=fun c hc=>by have:=Q.choices_mem s.wd.events hwk.le c hc;omega
   have HRL:Hid ((Q.readsOf (Q.choices s.wd.events) s.ds).length=(Q.choices s.wd.events).length):=Q.readsOf_len _ _
   have hfc:=hon.fc
   obtain⟨⟨ev0,rg,fa,cv,cvs,rgb,rgd⟩,wd,dr,rr⟩:=s
   obtain⟨n,ev,g1,g2,g3,g4,g5,g6,g7,g8,g9⟩:=fa
   simp only at hfev hfc hcl
   subst hfev
   have k0:w2.cell? ⟨gc,2,none⟩=some (.slice fx n fcp):=hfc 0 _ rfl
   have k1:w2.cell? ⟨gc,3,none⟩=some (.slice (some ⟨g1,0,none⟩) n n):=hfc 1 _ rfl
   have k2:w2.cell? ⟨gc,4,none⟩=some (.slice (some ⟨g2,0,none⟩) n n):=hfc 2 _ rfl
   have k3:w2.cell? ⟨gc,5,none⟩=some (.slice (some ⟨g3,0,none⟩) n n):=hfc 3 _ rfl
   have k4:w2.cell? ⟨gc,6,none⟩=some (.slice (some ⟨g4,0,none⟩) n n):=hfc 4 _ rfl
   have k5:w2.cell? ⟨gc,7,none⟩=some (.slice (some ⟨g5,0,none⟩) n n):=hfc 5 _ rfl
   have k6:w2.cell? ⟨gc,8,none⟩=some (.slice (some ⟨g6,0,none⟩) n n):=hfc 6 _ rfl
   have k7:w2.cell? ⟨gc,9,none⟩=some (.slice (some ⟨g7,0,none⟩) n n):=hfc 7 _ rfl
   have k8:w2.cell? ⟨gc,10,none⟩=some (.slice (some ⟨g8,0,none⟩) n n):=hfc 8 _ rfl
   have k9:w2.cell? ⟨gc,11,none⟩=some (.slice (some ⟨g9,0,none⟩) n n):=hfc 9 _ rfl
   have f12:=BX2.out.free 12
   have t12:=(BX2.out.there 12 1 (by decide) 0 (by decide)).1
   obtain⟨v12,k12⟩:=Option.isSome_iff_exists.1 t12
   simp only[Nat.add_zero] at k12
   clear hcn hrem hdo hon hwk hnb hgs hfc t12
   go_region_held3 (fun w'=>w'.cell? ⟨gc,2,none⟩=some (.slice fx n fcp)∧w'.cell? ⟨gc,3,none⟩=some (.slice (some ⟨g1,0,none⟩) n n)∧w'.cell? ⟨gc,4,none⟩=some (.slice (some ⟨g2,0,none⟩) n n)∧w'.cell? ⟨gc,5,none⟩=some (.slice (some ⟨g3,0,none⟩) n n)∧w'.cell? ⟨gc,6,none⟩=some (.slice (some ⟨g4,0,none⟩) n n)∧w'.cell? ⟨gc,7,none⟩=some (.slice (some ⟨g5,0,none⟩) n n)∧w'.cell? ⟨gc,8,none⟩=some (.slice (some ⟨g6,0,none⟩) n n)∧w'.cell? ⟨gc,9,none⟩=some (.slice (some ⟨g7,0,none⟩) n n)∧w'.cell? ⟨gc,10,none⟩=some (.slice (some ⟨g8,0,none⟩) n n)∧w'.cell? ⟨gc,11,none⟩=some (.slice (some ⟨g9,0,none⟩) n n)) (first | exact⟨k0,k1,k2,k3,k4,k5,k6,k7,k8,k9⟩ | exact⟨m0,m1,m2,m3,m4,m5,m6,m7,m8,m9⟩ | exact⟨z0,z1,z2,z3,z4,z5,z6,z7,z8,z9⟩ | exact⟨(World.cell?_setCell_other _ _ _ _ (by simp)).trans z0,(World.cell?_setCell_other _ _ _ _ (by simp)).trans z1,(World.cell?_setCell_other _ _ _ _ (by simp)).trans z2,(World.cell?_setCell_other _ _ _ _ (by simp)).trans z3,(World.cell?_setCell_other _ _ _ _ (by simp)).trans z4,(World.cell?_setCell_other _ _ _ _ (by simp)).trans z5,(World.cell?_setCell_other _ _ _ _ (by simp)).trans z6,(World.cell?_setCell_other _ _ _ _ (by simp)).trans z7,(World.cell?_setCell_other _ _ _ _ (by simp)).trans z8,(World.cell?_setCell_other _ _ _ _ (by simp)).trans z9⟩) (first
    | (go_at_call_of 62 (Value.agg #[Value.slice fx n fcp,Value.slice (some ⟨g1,0,none⟩) n n,Value.slice (some ⟨g2,0,none⟩) n n,Value.slice (some ⟨g3,0,none⟩) n n,Value.slice (some ⟨g4,0,none⟩) n n,Value.slice (some ⟨g5,0,none⟩) n n,Value.slice (some ⟨g6,0,none⟩) n n,Value.slice (some ⟨g7,0,none⟩) n n,Value.slice (some ⟨g8,0,none⟩) n n,Value.slice (some ⟨g9,0,none⟩) n n]);refine (readsR_any (FA.mk n (.slice fx n fcp) g1 g2 g3 g4 g5 g6 g7 g8 g9) (Q.factsOf wd.events) _ (Q.readsOf (Q.choices wd.events) dr) _ FI3.out RI3.out (by rw[HRL.out];omega)).mono ?_;rintro e w4 ⟨gr,rfl,hrel,hb4⟩;have B4:Hid (Below w2.heap.size w2 w4):=bstep B3.out (Nat.le_refl _) hb4;have REL4:=hide hrel;have q12:=(B4.out.cell (p:=⟨gc,12,none⟩) l2).trans k12;have qf:=(B4.out.frozen (p:=⟨gc,12,none⟩) l2).trans f12;have lq:=Nat.lt_of_lt_of_le l2 B4.out.size;have z0:=(B4.out.cell (p:=⟨gc,2,none⟩) l2).trans k0;have z1:=(B4.out.cell (p:=⟨gc,3,none⟩) l2).trans k1;have z2:=(B4.out.cell (p:=⟨gc,4,none⟩) l2).trans k2;have z3:=(B4.out.cell (p:=⟨gc,5,none⟩) l2).trans k3;have z4:=(B4.out.cell (p:=⟨gc,6,none⟩) l2).trans k4;have z5:=(B4.out.cell (p:=⟨gc,7,none⟩) l2).trans k5;have z6:=(B4.out.cell (p:=⟨gc,8,none⟩) l2).trans k6;have z7:=(B4.out.cell (p:=⟨gc,9,none⟩) l2).trans k7;have z8:=(B4.out.cell (p:=⟨gc,10,none⟩) l2).trans k8;have z9:=(B4.out.cell (p:=⟨gc,11,none⟩) l2).trans k9;clear hrel hb4)
    | (go_at_call 63;refine (reads1_any gc 17 cv cvs rgb rgd (Q.choices wd.events) dr rr _ (HON.out.rd.below (Below.refl _ _).drew) HDO.out (by omega) HCM.out).mono ?_;rintro e w3 ⟨gi,rfl,hints,hgi,hb3⟩;have B3:Hid (Below w2.heap.size w2 w3):=((Below.refl w2.heap.size w2).drew).trans (hb3.mono (by simp));have RI3:Hid (RowI w3 (.slice (some ⟨gi,0,none⟩) (Q.choices wd.events).length (Q.choices wd.events).length) (Q.readsOf (Q.choices wd.events) dr)):=(by have h9:=hints.rowI (Q.choices wd.events).length;rw[HRL.out] at h9;exact h9);have FI3:=hide (HON.out.fin.below B3.out);have l3:=Nat.lt_of_lt_of_le l2 B3.out.size;have m0:=(B3.out.cell (p:=⟨gc,2,none⟩) l2).trans k0;have m1:=(B3.out.cell (p:=⟨gc,3,none⟩) l2).trans k1;have m2:=(B3.out.cell (p:=⟨gc,4,none⟩) l2).trans k2;have m3:=(B3.out.cell (p:=⟨gc,5,none⟩) l2).trans k3;have m4:=(B3.out.cell (p:=⟨gc,6,none⟩) l2).trans k4;have m5:=(B3.out.cell (p:=⟨gc,7,none⟩) l2).trans k5;have m6:=(B3.out.cell (p:=⟨gc,8,none⟩) l2).trans k6;have m7:=(B3.out.cell (p:=⟨gc,9,none⟩) l2).trans k7;have m8:=(B3.out.cell (p:=⟨gc,10,none⟩) l2).trans k8;have m9:=(B3.out.cell (p:=⟨gc,11,none⟩) l2).trans k9;clear hints hb3))
   obtain⟨hcn5,c12,hk5⟩:=(CN.out.below B4.out).set12 (.slice (some ⟨gr,0,none⟩) n n)
   have CN5:=hide hcn5
   have hon5:=(hcn5.rs _ rfl).1
   have FI5:=hide hon5.fin
   have hfc:=hon5.fc
   have F5:Hid (CFrame w (w4.setCell ⟨gc,12,none⟩ (.slice (some ⟨gr,0,none⟩) n n)) gc A st):=(F2.out.below B4.out).set 12 [.slice (some ⟨gr,0,none⟩) n n]
   have REL5:Hid (RelAt (w4.setCell ⟨gc,12,none⟩ (.slice (some ⟨gr,0,none⟩) n n)) gr n ((Q.factsOf wd.events).reads (Q.readsOf (Q.choices wd.events) dr))):=by
    obtain⟨cc,hcc,_⟩:=(CN.out.below B4.out).box
    exact⟨REL4.out.at_.of_block (hk5 gr (sets_ne REL4.out.at_ hcc (by decide))),REL4.out.len,REL4.out.fits⟩
   have l5:=hcn5.box.lt
   clear CN HON FI3 RI3 REL4 q12 qf lq B4 B3 hk5 F2 BX2 f12 k12 l3 hcn5 hon5 HDO HCM HRL m0 z0 m1 z1 m2 z2 m3 z3 m4 z4 m5 z5 m6 z6 m7 z7 m8 z8 m9 z9
   generalize w4.setCell ⟨gc,12,none⟩ (.slice (some ⟨gr,0,none⟩) n n)=w5 at *
   clear k0 k1 k2 k3 k4 k5 k6 k7 k8 k9
   have k0:w5.cell? ⟨gc,2,none⟩=some (.slice fx n fcp):=hfc 0 _ rfl
   have k1:w5.cell? ⟨gc,3,none⟩=some (.slice (some ⟨g1,0,none⟩) n n):=hfc 1 _ rfl
   have k2:w5.cell? ⟨gc,4,none⟩=some (.slice (some ⟨g2,0,none⟩) n n):=hfc 2 _ rfl
   have k3:w5.cell? ⟨gc,5,none⟩=some (.slice (some ⟨g3,0,none⟩) n n):=hfc 3 _ rfl
   have k4:w5.cell? ⟨gc,6,none⟩=some (.slice (some ⟨g4,0,none⟩) n n):=hfc 4 _ rfl
   have k5:w5.cell? ⟨gc,7,none⟩=some (.slice (some ⟨g5,0,none⟩) n n):=hfc 5 _ rfl
   have k6:w5.cell? ⟨gc,8,none⟩=some (.slice (some ⟨g6,0,none⟩) n n):=hfc 6 _ rfl
   have k7:w5.cell? ⟨gc,9,none⟩=some (.slice (some ⟨g7,0,none⟩) n n):=hfc 7 _ rfl
   have k8:w5.cell? ⟨gc,10,none⟩=some (.slice (some ⟨g8,0,none⟩) n n):=hfc 8 _ rfl
   have k9:w5.cell? ⟨gc,11,none⟩=some (.slice (some ⟨g9,0,none⟩) n n):=hfc 9 _ rfl
   clear hfc
   go_upto_region 3 with fail
   go_region_held3 (fun w'=>w'.cell? ⟨gc,2,none⟩=some (.slice fx n fcp)∧w'.cell? ⟨gc,3,none⟩=some (.slice (some ⟨g1,0,none⟩) n n)∧w'.cell? ⟨gc,4,none⟩=some (.slice (some ⟨g2,0,none⟩) n n)∧w'.cell? ⟨gc,5,none⟩=some (.slice (some ⟨g3,0,none⟩) n n)∧w'.cell? ⟨gc,6,none⟩=some (.slice (some ⟨g4,0,none⟩) n n)∧w'.cell? ⟨gc,7,none⟩=some (.slice (some ⟨g5,0,none⟩) n n)∧w'.cell? ⟨gc,8,none⟩=some (.slice (some ⟨g6,0,none⟩) n n)∧w'.cell? ⟨gc,9,none⟩=some (.slice (some ⟨g7,0,none⟩) n n)∧w'.cell? ⟨gc,10,none⟩=some (.slice (some ⟨g8,0,none⟩) n n)∧w'.cell? ⟨gc,11,none⟩=some (.slice (some ⟨g9,0,none⟩) n n)∧w'.cell? ⟨gc,12,none⟩=some (.slice (some ⟨gr,0,none⟩) n n)) (first | exact⟨k0,k1,k2,k3,k4,k5,k6,k7,k8,k9,c12⟩ | exact⟨m0,m1,m2,m3,m4,m5,m6,m7,m8,m9,m10⟩) (first
    | (go_at_call 64;refine (hangsOn_any (FA.mk n (.slice fx n fcp) g1 g2 g3 g4 g5 g6 g7 g8 g9) (Q.factsOf wd.events) gr ((Q.factsOf wd.events).reads (Q.readsOf (Q.choices wd.events) dr)) _ (FI5.out.below (Below.refl _ _).drew) (REL5.out.below (Below.refl _ _).drew)).mono ?_;rintro e w6 ⟨rfl,hb6⟩;have B6:Hid (Below w5.heap.size w5 w6):=((Below.refl w5.heap.size w5).drew).trans (hb6.mono (by simp));generalize hH:(Q.factsOf wd.events).hangsOn ((Q.factsOf wd.events).reads (Q.readsOf (Q.choices wd.events) dr))=hh at *;have HH:=hide hH;have m0:=(B6.out.cell (p:=⟨gc,2,none⟩) l5).trans k0;have m1:=(B6.out.cell (p:=⟨gc,3,none⟩) l5).trans k1;have m2:=(B6.out.cell (p:=⟨gc,4,none⟩) l5).trans k2;have m3:=(B6.out.cell (p:=⟨gc,5,none⟩) l5).trans k3;have m4:=(B6.out.cell (p:=⟨gc,6,none⟩) l5).trans k4;have m5:=(B6.out.cell (p:=⟨gc,7,none⟩) l5).trans k5;have m6:=(B6.out.cell (p:=⟨gc,8,none⟩) l5).trans k6;have m7:=(B6.out.cell (p:=⟨gc,9,none⟩) l5).trans k7;have m8:=(B6.out.cell (p:=⟨gc,10,none⟩) l5).trans k8;have m9:=(B6.out.cell (p:=⟨gc,11,none⟩) l5).trans k9;have m10:=(B6.out.cell (p:=⟨gc,12,none⟩) l5).trans c12;clear hH hb6))
   have CN6:=hide (CN5.out.below B6.out)
   have REL6:=hide (REL5.out.below B6.out)
   have F6:=hide (F5.out.below B6.out)
   have HCC:Hid (Q.candsL (remS rss st1 rest1)=if hh then Q.candsL (remS rss (some ⟨⟨ev0,rg,⟨n,.slice fx n fcp,g1,g2,g3,g4,g5,g6,g7,g8,g9⟩,cv,cvs,rgb,rgd⟩,wd,dr,rr⟩) rest2) else Q.candOf (wd,dr)::Q.candsL (remS rss (some ⟨⟨ev0,rg,⟨n,.slice fx n fcp,g1,g2,g3,g4,g5,g6,g7,g8,g9⟩,cv,cvs,rgb,rgd⟩,wd,dr,rr⟩) rest2)):=by
    unfold Hid
    rw[HREM.out,Q.candsL_cons,← HH.out];rfl
   clear HH
   cases hh with
   | true =>
    have hR:CdInv w gc A rss st C0 w6 (remS rss (some ⟨⟨ev0,rg,⟨n,.slice fx n fcp,g1,g2,g3,g4,g5,g6,g7,g8,g9⟩,cv,cvs,rgb,rgd⟩,wd,dr,rr⟩) rest2).length:=by
     refine⟨_,_,_,CN6.out,?_,rfl,F6.out,fun k hk=>?_,fun k hk=>?_⟩
     ·have h1:=HCC.out
      rw[if_pos rfl] at h1
      rw[← h1];exact HR.out
     ·obtain⟨s',e1,h1⟩:=hk
      simp only[Option.some.injEq] at e1
      subst e1
      exact HNB.out k h1
     ·obtain⟨s',e1,h1⟩:=hk
      simp only[Option.some.injEq] at e1
      subst e1
      subst h1
      exact HGS.out
    go_wp2
    go_roundw
    case rel=>exact⟨_,hR⟩
    case measure =>
     have h1:=(HMU.out _ ⟨_,hR⟩).2 _ hR
     have h2:=HL.out
     rw[HREM.out] at h2
     simp only[List.length_cons] at h2
     omega
   | false =>
    have hF:Q.candsL (remS rss st1 rest1)=Q.candOf (wd,dr)::Q.candsL (remS rss (some ⟨⟨ev0,rg,⟨n,.slice fx n fcp,g1,g2,g3,g4,g5,g6,g7,g8,g9⟩,cv,cvs,rgb,rgd⟩,wd,dr,rr⟩) rest2):=by
     have h1:=HCC.out
     rw[if_neg (by decide)] at h1
     exact h1
    go_wp2
    go_ret
    exact⟨true,rfl,F6.out,Or.inr ⟨rfl,_,_,_,gr,⟨CN6.out,m10,REL6.out⟩,by rw[← HR.out];exact hF,HNB.out,HGS.out⟩⟩
def candC (rv wb wd wg:Value):Array Value:=#[.slice none 0 0,.slice none 0 0,.slice none 0 0,.slice none 0 0,.slice none 0 0,.slice none 0 0,.slice none 0 0,.slice none 0 0,.slice none 0 0,.slice none 0 0,.slice none 0 0,.slice none 0 0,.slice none 0 0,rv,wb,wd,wg,.slice none 0 0,.slice none 0 0,.slice none 0 0,.bool false,.bool false]
def CandNew (w w':World) (rss:List (List Q.Run)) (e:Ending):Prop:=∃ rv vs wss gb gd,e=.returned (.agg (candC rv (.slice (some ⟨gb,0,none⟩) rss.length rss.length) (.slice (some ⟨gd,0,none⟩) rss.length rss.length) (.bool false)))∧(∃ a n c,rv=.slice a n c)∧RunsAll w' 0 rv rss vs wss∧IntsAt w' gb (lensR rss)∧IntsAt w' gd (Q.zeros rss.length)∧w.heap.size≤gb∧w.heap.size≤gd∧gb≠gd∧Below w.heap.size w w'
theorem own_form {w:World} {B n sz:Nat} {t:TypeId} {v:Value} {xs:List Value} (h:w.ownsRow B t sz v n xs):∃ a c,v=.slice a n c:=by
 rcases h.2 with ⟨e,h0⟩ | ⟨g',c,cur,e,_⟩
 ·exact⟨none,0,by rw[e,h0]⟩
 ·exact⟨_,c,e⟩
set_option maxHeartbeats 12800000 in
theorem candidatesOf_any (B bt cap:Nat) (ts:List P.Thr) (w:World) (h:ThreadsAt w B (.slice (some ⟨bt,0,none⟩) ts.length cap) ts) (hn:ts.length<20) (hok:∀ t∈ts,(∀ s∈t.stmts,Q.StOk s)∧t.stmts.length<900∧Q.codes t.stmts<100000) :
  Calls Tryz.prog 34 #[.agg #[.slice (some ⟨bt,0,none⟩) ts.length cap]] w fun e w'=>CandNew w w' (Q.runs ts) e:=by
 obtain⟨k0,k1,hsz,hbw⟩:=boxes2 w #[.slice (some ⟨bt,0,none⟩) ts.length cap] (candC (.slice none 0 0) (.slice none 0 0) (.slice none 0 0) (.bool false)) 48 79
 have HT:=hide (h.keep fun k hk=>hbw.block k hk)
 have HOK:=hide hok
 have BW0:=hide hbw
 clear hbw h hok
 go_enter Tryz.func34,Tryz.ntmps34
 go_upto_region 1 with fail
 simp only[candC] at k0 k1 hsz HT BW0
 generalize hE:(w.alloc (.cells #[.slice (some ⟨bt,0,none⟩) ts.length cap] 48)).alloc (.cells #[.slice none 0 0,.slice none 0 0,.slice none 0 0,.slice none 0 0,.slice none 0 0,.slice none 0 0,.slice none 0 0,.slice none 0 0,.slice none 0 0,.slice none 0 0,.slice none 0 0,.slice none 0 0,.slice none 0 0,.slice none 0 0,.slice none 0 0,.slice none 0 0,.bool false,.slice none 0 0,.slice none 0 0,.slice none 0 0,.bool false,.bool false] 79)=W0 at *
 have c00:W0.cell? ⟨w.heap.size,0,none⟩=some (.slice (some ⟨bt,0,none⟩) ts.length cap):=by simp[World.cell?,k0]
 have l0:w.heap.size<W0.heap.size:=by omega
 have l1:w.heap.size+1<W0.heap.size:=by omega
 have K1:=hide k1
 clear hE k0 k1 hsz
 have HRL:=hide (Q.runs_len ts)
 go_wp2_with (first
  | (go_at_call 60;refine (worldsOf_any B bt cap ts _ HT.out hn HOK.out).mono ?_;rintro e w1 ⟨rv,vs,wss,gb,gd,rfl,hra,hib,hid,hgb,hgd,hne,hb1⟩;have RA1:=hide hra;have IB1:=hide hib;have ID1:=hide hid;have B1:=hide hb1;have KB:=hide ((hb1.block _ l1).trans K1.out);obtain⟨xa,xc,hrv⟩:=own_form hra.own;subst hrv;clear hra hib hid hb1)
  | (refine wpList_store_mid rfl 79 (.tmp 2) (.tmp 5) rfl (w.heap.size+1) 0 (candC (.slice xa (Q.runs ts).length xc) (.slice (some ⟨gb,0,none⟩) (Q.runs ts).length (Q.runs ts).length) (.slice (some ⟨gd,0,none⟩) (Q.runs ts).length (Q.runs ts).length) (.bool false)) rfl rfl (there_off KB.out (by simp[candC])) (by kernel_rfl) (by simp[candC,Value.oneCell']) ?_;have SW:=hide (setCells_whole (candC (.slice xa (Q.runs ts).length xc) (.slice (some ⟨gb,0,none⟩) (Q.runs ts).length (Q.runs ts).length) (.slice (some ⟨gd,0,none⟩) (Q.runs ts).length (Q.runs ts).length) (.bool false)).toList KB.out (by simp[candC]));generalize w1.setCells (w.heap.size+1) 0 (candC (.slice xa (Q.runs ts).length xc) (.slice (some ⟨gb,0,none⟩) (Q.runs ts).length (Q.runs ts).length) (.slice (some ⟨gd,0,none⟩) (Q.runs ts).length (Q.runs ts).length) (.bool false)).toList=W2 at *))
 obtain⟨s0,s1,s2⟩:=SW.out
 have B2:=s2 w w.heap.size (by omega) (bstep BW0.out (Nat.le_refl _) B1.out)
 have hrr:∀ {B n sz:Nat} {t:TypeId} {v:Value} {xs:List Value},w1.ownsRow B t sz v n xs→t≠79→W2.ownsRow B t sz v n xs:=fun h ht=>ownsRow_keep h (fun k e=>s1 k (fun e2=>own_ne_blk2 h KB.out ht (by rw[e,e2])))
 refine ret_row (p:=2) (w.heap.size+1) _ (by kernel_rfl) Tryz.underlying79 rfl (by kernel_rfl) rfl (by exact s0) rfl ?_
 refine⟨_,vs,wss,gb,gd,rfl,⟨_,_,_,rfl⟩,⟨hrr RA1.out.own (by decide),RA1.out.lv,RA1.out.lw,fun i hi u us hu hus=>?_⟩,IB1.out.of_block (s1 _ (by omega)),ID1.out.of_block (s1 _ (by omega)),by omega,by omega,hne,B2⟩
 have q:=RA1.out.runs i hi u us hu hus
 exact⟨hrr q.own (by decide),q.len,fun j hj x hx=>hrr (q.evs j hj x hx) (by decide)⟩
end Go.Proofs.YtgceflcbckjjiaaGreatDoor
namespace Go.Proofs.YtgceflcbckjjiaaGreatDoor
namespace Q
theorem digOk_mem:∀ {bs ds:List Int},DigOk bs ds→ds∈digitRows bs
 | [],[],_=>by simp[digitRows]
 | [],_::_,h=>by simp[DigOk] at h
 | _::_,[],h=>by simp[DigOk] at h
 | b::bs,d::ds,h=>by
  simp only[DigOk] at h
  have h3:=digOk_mem (bs:=bs) (ds:=ds) (by first | exact h.2 | exact h.2.2 | exact h.1)
  simp only[digitRows,List.mem_flatMap,List.mem_map,List.mem_range]
  exact⟨ds,h3,d.toNat,by omega,by rw[Int.toNat_of_nonneg (by omega)]⟩
theorem candsL_append (a b:List (Wd × List Int)):candsL (a++b)=candsL a++candsL b:=by simp[candsL]
theorem candsL_reads (w:Wd):candsL (readsIn w)=candsIn w (factsOf w.events):=by
 unfold candsL readsIn candsIn
 rw[List.map_map];rfl
theorem candsL_flat (rss:List (List Run)) (l:List (List Int)):candsL (l.flatMap fun d=>readsIn (worldAt rss d))=l.flatMap fun ds=>candsIn (worldAt rss ds) (factsOf (worldAt rss ds).events):=by
 induction l with
 | nil=>rfl
 | cons d l ih=>rw[List.flatMap_cons,candsL_append,candsL_reads,ih,List.flatMap_cons]
theorem cands_eq (ts:List P.Thr):cands ts=candsL (remS (runs ts) none (digitRows (lensR (runs ts)))):=by
 unfold remS
 simp only[List.nil_append]
 rw[candsL_flat];rfl
end Q
end Go.Proofs.YtgceflcbckjjiaaGreatDoor
