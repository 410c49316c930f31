import Derived.Test.YtkmebkbpfmoeaaaGreatH30
set_option linter.unusedVariables false
set_option linter.unusedSimpArgs false
set_option maxHeartbeats 12800000
namespace Go.Proofs.YtkmebkbpfmoeaaaGreat
open Go Go.RowKit
set_option maxRecDepth 100000
namespace Q
def zJi (p:Wd × List Int):Cand:=⟨p.1,zIx p.1.events,(zIx p.1.events).reads (zJl (zIk p.1.events) p.2)⟩
def zII (l:List (Wd × List Int)):List Cand:=(l.map zJi).filter fun c=>!c.facts.hangsOn c.reads
theorem candsL_cons (p:Wd × List Int) (l:List (Wd × List Int)):zII (p::l)=if (zJi p).facts.hangsOn (zJi p).reads then zII l else zJi p::zII l:=by
 unfold zII
 rw[List.map_cons,List.filter_cons]
 cases (zJi p).facts.hangsOn (zJi p).reads<;>rfl
theorem readsOf_len (cs:List (List Int)) (ds:List Int):(zJl cs ds).length=cs.length:=by simp[zJl]
end Q
structure CandNow (w:World) (gc:Nat) (A:WA) (rss:List (List Q.Run)) (s:RS) (ds:List Int) (rest:List (List Int)) (gr:Nat):Prop where
 on:CandOn w gc A rss (some s) ds rest
 c12:w.cell? ⟨gc,12,none⟩=some (.slice (some ⟨gr,0,none⟩) s.R.fa.n s.R.fa.n)
 rel:RelAt w gr s.R.fa.n (Q.zJi (s.wd,s.ds)).reads
def zIe (w w':World) (gc:Nat) (A:WA) (rss:List (List Q.Run)) (st:Option RS) (cs:List Q.Cand) (b:Bool):Prop :=
 CFrame w w' gc A st∧((b=false∧cs=[])∨(b=true∧∃ s ds rest gr,CandNow w' gc A rss s ds rest gr∧cs=Q.zJi (s.wd,s.ds)::Q.zII (zCm rss (some s) rest)∧(∀ k,s.R.nb k→nbS st k∨w.heap.size≤k)∧(gdS st s.R.gd∨w.heap.size≤s.R.gd)))
def zHl (w:World) (gc:Nat) (A:WA) (rss:List (List Q.Run)) (st:Option RS) (C0:List Q.Cand) (wr:World) (n:Nat):Prop :=
 ∃ st1 ds1 rest1,CandOn wr gc A rss st1 ds1 rest1∧Q.zII (zCm rss st1 rest1)=C0∧(zCm rss st1 rest1).length=n∧CFrame w wr gc A st∧(∀ k,nbS st1 k→nbS st k∨w.heap.size≤k)∧∀ k,gdS st1 k→gdS st k∨w.heap.size≤k
theorem CandOn.set12 {w:World} {gc:Nat} {A:WA} {rss:List (List Q.Run)} {s:RS} {ds:List Int} {rest:List (List Int)} (h:CandOn w gc A rss (some s) ds rest) (v:Value):CandOn (w.setCell ⟨gc,12,none⟩ v) gc A rss (some s) ds rest∧(w.setCell ⟨gc,12,none⟩ v).cell? ⟨gc,12,none⟩=some v∧∀ k,k≠gc→(w.setCell ⟨gc,12,none⟩ v).heap[k]?=w.heap[k]?:=by
 obtain⟨b6,r6,o6,k6⟩:=h.box.set 12 [v] (by simp)
 obtain⟨cc,hcc,_⟩:=id h.box
 obtain⟨hon,hwk⟩:=h.rs s rfl
 obtain⟨b,hc⟩:=hon.rd.ctr.ctr
 refine⟨⟨b6,WsOn.upd h.ws hcc (by decide) (by decide) (by decide) (fun j h1 h2=>o6 j (Or.inr (by simp;omega))) (fun j=>b6.free j) k6 (by simp),(o6 21 (Or.inr (by simp))).trans h.beg,fun s' hs'=>?_⟩,r6 0 _ rfl,k6⟩
 simp only[Option.some.injEq] at hs'
 subst hs'
 refine⟨⟨(o6 0 (Or.inl (by decide))).trans hon.c0,(o6 1 (Or.inl (by decide))).trans hon.c1,zGH hon.wdi hon.n3.2 h.box 12 [v] (by simp),World.rangeAt_setCells_apart hon.fc gc 12 [v] (Or.inr (Or.inl (by simp[zAl]))),zFj hon.fin h.box 12 [v] (by simp),⟨(o6 17 (Or.inr (by simp))).trans hon.rd.c0,?_,?_,hon.rd.nc,hon.rd.ne⟩,hon.n1,hon.n2,hon.n3⟩,hwk⟩
 ·exact⟨zAc hon.rd.rows.own (fun k e=>k6 k (fun e2=>hon.rd.nc.2 (by rw[e,e2]))),hon.rd.rows.len,fun i hi x hx=>(hon.rd.rows.rows i hi x hx).own _ (fun k e=>k6 k (hon.rd.ne x (List.mem_of_getElem? hx) k e).2) (by simp)⟩
 ·obtain⟨b,⟨c0,c1,c2,cf,cl,cb,cd,n1,n2,n3,n4⟩,h5⟩:=hon.rd.ctr
  exact⟨b,⟨(o6 18 (Or.inr (by simp))).trans c0,(o6 19 (Or.inr (by simp))).trans c1,(o6 20 (Or.inr (by simp))).trans c2,b6.free,by simpa using cl,cb.of_block (k6 _ (fun e=>n2 e.symm)),cd.of_block (k6 _ (fun e=>n1 e.symm)),n1,n2,n3,n4⟩,h5⟩
theorem zEC (gc:Nat) (A:WA) (rss:List (List Q.Run)) (st:Option RS) (ds:List Int) (rest:List (List Int)) (w:World) (h:CandOn w gc A rss st ds rest) (hn:rss.length<20) (hb:∀ r∈rss,r.length<100000000) (hok:∀ rs∈rss,∀ r∈rs,r.regs.length=4∧∀ e∈r.events,e.hangs<Q.M64) (hW:∀ d,Q.DigOk (zAT rss) d→Q.WdOk (Q.zIl rss d)) :
  Calls Tryz.prog 32 #[.pointer (some ⟨gc,0,none⟩)] w fun e w'=>∃ b,e=.returned (.bool b)∧zIe w w' gc A rss st (Q.zII (zCm rss st rest)) b:=by
 have H0:Hid (zHl w gc A rss st (Q.zII (zCm rss st rest)) w (zCm rss st rest).length):=⟨st,ds,rest,h,rfl,rfl,CFrame.refl _ _ _ _,fun k h=>Or.inl h,fun k h=>Or.inl h⟩
 have HB:=zAa hb
 have HOK:=zAa hok
 have HW:=zAa hW
 generalize Q.zII (zCm rss st rest)=C0 at *
 generalize (zCm rss st rest).length=N0 at *
 clear h hb hok hW
 obtain⟨μ,hμ⟩:=zCH (zHl w gc A rss st C0)
 have HMU:=zAa hμ
 clear hμ
 go_enter Tryz.func32,Tryz.ntmps32
 go_wp2
 go_loopw [] (fun wr=>∃ n,Hid (zHl w gc A rss st C0 wr n)) (fun wr=>μ wr)
 case atStart=>exact⟨_,H0⟩
 case round =>
  obtain⟨hI,hmin⟩:=HMU.out wr (by obtain⟨n,h⟩:=hrel;exact⟨n,h.out⟩)
  clear hrel hmin
  obtain⟨st1,ds1,rest1,hC,hR,hlen,hF,hN,hG⟩:=hI
  have HC:=zAa hC
  have HR:=zAa hR
  have HL:=zAa hlen
  have HF:=zAa hF
  have HN:=zAa hN
  have HG:=zAa hG
  have lgc:=hC.box.lt
  clear hC hR hlen hF hN hG
  go_upto_region 2 with (first | (go_at_call 47;refine (zDA gc A rss st1 ds1 rest1 _ HC.out hn HB.out HOK.out HW.out).mono ?_;rintro e w2 ⟨b,rfl,hfr,h1⟩;have F2:=zAa (HF.out.trans hfr HG.out);clear hfr;rcases h1 with ⟨rfl,hrem⟩ | ⟨rfl,s,ds2,rest2,hcn,hrem,hdo,hnb,hgs⟩))
  ·go_wp2
   go_ret
   exact⟨false,rfl,F2.out,Or.inl ⟨rfl,by rw[← HR.out,hrem];rfl⟩⟩
  ·have CN:=zAa hcn
   have HREM:=zAa hrem
   have HDO:=zAa hdo
   obtain⟨hon,hwk⟩:=hcn.rs s rfl
   have HON:=zAa hon
   have HWK:=zAa hwk
   have HSZ:=zAa HF.out.size
   have HNB:Hid (∀ k,s.R.nb k→nbS st k∨w.heap.size≤k):=fun k hk=>by
    rcases hnb k hk with h1 | h1
    ·exact HN.out k h1
    ·exact Or.inr (Nat.le_trans HSZ.out h1)
   have HGS:Hid (gdS st s.R.gd∨w.heap.size≤s.R.gd):=by
    rcases hgs with h1 | h1
    ·exact HG.out _ h1
    ·exact Or.inr (Nat.le_trans HSZ.out h1)
   have l2:=hcn.box.lt
   have BX2:=zAa hcn.box
   obtain⟨fx,fcp,hfev,_⟩:=hon.fin.form
   have hcl:(Q.zIk s.wd.events).length<1000:=by rw[Q.zJO];have:=hwk.le;omega
   have HCM:Hid (∀ c∈Q.zIk s.wd.events,c.length<1000):=fun c hc=>by have:=Q.choices_mem s.wd.events hwk.le c hc;omega
   have HRL:Hid ((Q.zJl (Q.zIk s.wd.events) s.ds).length=(Q.zIk s.wd.events).length):=Q.readsOf_len _ _
   have hfc:=hon.fc
   obtain⟨⟨ev0,rg,fa,cv,cvs,rgb,rgd⟩,wd,dr,rr⟩:=s
   obtain⟨n,ev,g1,g2,g3,g4,g5,g6,g7,g8,g9⟩:=fa
   simp only at hfev hfc hcl
   subst hfev
   have k0:w2.cell? ⟨gc,2,none⟩=some (.slice fx n fcp):=hfc 0 _ rfl
   have k1:w2.cell? ⟨gc,3,none⟩=some (.slice (some ⟨g1,0,none⟩) n n):=hfc 1 _ rfl
   have k2:w2.cell? ⟨gc,4,none⟩=some (.slice (some ⟨g2,0,none⟩) n n):=hfc 2 _ rfl
   have k3:w2.cell? ⟨gc,5,none⟩=some (.slice (some ⟨g3,0,none⟩) n n):=hfc 3 _ rfl
   have k4:w2.cell? ⟨gc,6,none⟩=some (.slice (some ⟨g4,0,none⟩) n n):=hfc 4 _ rfl
   have k5:w2.cell? ⟨gc,7,none⟩=some (.slice (some ⟨g5,0,none⟩) n n):=hfc 5 _ rfl
   have k6:w2.cell? ⟨gc,8,none⟩=some (.slice (some ⟨g6,0,none⟩) n n):=hfc 6 _ rfl
   have k7:w2.cell? ⟨gc,9,none⟩=some (.slice (some ⟨g7,0,none⟩) n n):=hfc 7 _ rfl
   have k8:w2.cell? ⟨gc,10,none⟩=some (.slice (some ⟨g8,0,none⟩) n n):=hfc 8 _ rfl
   have k9:w2.cell? ⟨gc,11,none⟩=some (.slice (some ⟨g9,0,none⟩) n n):=hfc 9 _ rfl
   have f12:=BX2.out.free 12
   have t12:=(BX2.out.there 12 1 (by decide) 0 (by decide)).1
   obtain⟨v12,k12⟩:=Option.isSome_iff_exists.1 t12
   simp only[Nat.add_zero] at k12
   clear hcn hrem hdo hon hwk hnb hgs hfc t12
   go_region_held3 (fun w'=>w'.cell? ⟨gc,2,none⟩=some (.slice fx n fcp)∧w'.cell? ⟨gc,3,none⟩=some (.slice (some ⟨g1,0,none⟩) n n)∧w'.cell? ⟨gc,4,none⟩=some (.slice (some ⟨g2,0,none⟩) n n)∧w'.cell? ⟨gc,5,none⟩=some (.slice (some ⟨g3,0,none⟩) n n)∧w'.cell? ⟨gc,6,none⟩=some (.slice (some ⟨g4,0,none⟩) n n)∧w'.cell? ⟨gc,7,none⟩=some (.slice (some ⟨g5,0,none⟩) n n)∧w'.cell? ⟨gc,8,none⟩=some (.slice (some ⟨g6,0,none⟩) n n)∧w'.cell? ⟨gc,9,none⟩=some (.slice (some ⟨g7,0,none⟩) n n)∧w'.cell? ⟨gc,10,none⟩=some (.slice (some ⟨g8,0,none⟩) n n)∧w'.cell? ⟨gc,11,none⟩=some (.slice (some ⟨g9,0,none⟩) n n)) (first | exact⟨k0,k1,k2,k3,k4,k5,k6,k7,k8,k9⟩ | exact⟨m0,m1,m2,m3,m4,m5,m6,m7,m8,m9⟩ | exact⟨z0,z1,z2,z3,z4,z5,z6,z7,z8,z9⟩ | exact⟨(World.cell?_setCell_other _ _ _ _ (by simp)).trans z0,(World.cell?_setCell_other _ _ _ _ (by simp)).trans z1,(World.cell?_setCell_other _ _ _ _ (by simp)).trans z2,(World.cell?_setCell_other _ _ _ _ (by simp)).trans z3,(World.cell?_setCell_other _ _ _ _ (by simp)).trans z4,(World.cell?_setCell_other _ _ _ _ (by simp)).trans z5,(World.cell?_setCell_other _ _ _ _ (by simp)).trans z6,(World.cell?_setCell_other _ _ _ _ (by simp)).trans z7,(World.cell?_setCell_other _ _ _ _ (by simp)).trans z8,(World.cell?_setCell_other _ _ _ _ (by simp)).trans z9⟩) (first
    | (go_at_call_of 48 (Value.agg #[Value.slice fx n fcp,Value.slice (some ⟨g1,0,none⟩) n n,Value.slice (some ⟨g2,0,none⟩) n n,Value.slice (some ⟨g3,0,none⟩) n n,Value.slice (some ⟨g4,0,none⟩) n n,Value.slice (some ⟨g5,0,none⟩) n n,Value.slice (some ⟨g6,0,none⟩) n n,Value.slice (some ⟨g7,0,none⟩) n n,Value.slice (some ⟨g8,0,none⟩) n n,Value.slice (some ⟨g9,0,none⟩) n n]);refine (zFX (FA.mk n (.slice fx n fcp) g1 g2 g3 g4 g5 g6 g7 g8 g9) (Q.zIx wd.events) _ (Q.zJl (Q.zIk wd.events) dr) _ FI3.out RI3.out (by rw[HRL.out];omega)).mono ?_;rintro e w4 ⟨gr,rfl,hrel,hb4⟩;have B4:Hid (Below w2.heap.size w2 w4):=zAn B3.out (Nat.le_refl _) hb4;have REL4:=zAa hrel;have q12:=cfL B4.out l2 k12;have qf:=(B4.out.frozen (p:=⟨gc,12,none⟩) l2).trans f12;have lq:=Nat.lt_of_lt_of_le l2 B4.out.size;have z0:=cfL B4.out l2 k0;have z1:=cfL B4.out l2 k1;have z2:=cfL B4.out l2 k2;have z3:=cfL B4.out l2 k3;have z4:=cfL B4.out l2 k4;have z5:=cfL B4.out l2 k5;have z6:=cfL B4.out l2 k6;have z7:=cfL B4.out l2 k7;have z8:=cfL B4.out l2 k8;have z9:=cfL B4.out l2 k9;clear hrel hb4)
    | (go_at_call 49;refine (zGd gc 17 cv cvs rgb rgd (Q.zIk wd.events) dr rr _ (HON.out.rd.below (Below.refl _ _).drew) HDO.out (by omega) HCM.out).mono ?_;rintro e w3 ⟨gi,rfl,hints,hgi,hb3⟩;have B3:Hid (Below w2.heap.size w2 w3):=((Below.refl w2.heap.size w2).drew).trans (hb3.mono (by simp));have RI3:Hid (zBA w3 (.slice (some ⟨gi,0,none⟩) (Q.zIk wd.events).length (Q.zIk wd.events).length) (Q.zJl (Q.zIk wd.events) dr)):=(by have h9:=hints.rowI (Q.zIk wd.events).length (by rw[HRL.out];exact Nat.le_refl _);rw[HRL.out] at h9;exact h9);have FI3:=zAa (HON.out.fin.below B3.out);have l3:=Nat.lt_of_lt_of_le l2 B3.out.size;have m0:=cfL B3.out l2 k0;have m1:=cfL B3.out l2 k1;have m2:=cfL B3.out l2 k2;have m3:=cfL B3.out l2 k3;have m4:=cfL B3.out l2 k4;have m5:=cfL B3.out l2 k5;have m6:=cfL B3.out l2 k6;have m7:=cfL B3.out l2 k7;have m8:=cfL B3.out l2 k8;have m9:=cfL B3.out l2 k9;clear hints hb3))
   obtain⟨hcn5,c12,hk5⟩:=(CN.out.below B4.out).set12 (.slice (some ⟨gr,0,none⟩) n n)
   have CN5:=zAa hcn5
   have hon5:=(hcn5.rs _ rfl).1
   have FI5:=zAa hon5.fin
   have hfc:=hon5.fc
   have F5:Hid (CFrame w (w4.setCell ⟨gc,12,none⟩ (.slice (some ⟨gr,0,none⟩) n n)) gc A st):=(F2.out.below B4.out).set 12 [.slice (some ⟨gr,0,none⟩) n n]
   have REL5:Hid (RelAt (w4.setCell ⟨gc,12,none⟩ (.slice (some ⟨gr,0,none⟩) n n)) gr n ((Q.zIx wd.events).reads (Q.zJl (Q.zIk wd.events) dr))):=by
    obtain⟨cc,hcc,_⟩:=(CN.out.below B4.out).box
    exact⟨REL4.out.at_.of_block (hk5 gr (zCn REL4.out.at_ hcc (by decide))),REL4.out.len,REL4.out.fits⟩
   have l5:=hcn5.box.lt
   clear CN HON FI3 RI3 REL4 q12 qf lq B4 B3 hk5 F2 BX2 f12 k12 l3 hcn5 hon5 HDO HCM HRL m0 z0 m1 z1 m2 z2 m3 z3 m4 z4 m5 z5 m6 z6 m7 z7 m8 z8 m9 z9
   generalize w4.setCell ⟨gc,12,none⟩ (.slice (some ⟨gr,0,none⟩) n n)=w5 at *
   clear k0 k1 k2 k3 k4 k5 k6 k7 k8 k9
   have k0:w5.cell? ⟨gc,2,none⟩=some (.slice fx n fcp):=hfc 0 _ rfl
   have k1:w5.cell? ⟨gc,3,none⟩=some (.slice (some ⟨g1,0,none⟩) n n):=hfc 1 _ rfl
   have k2:w5.cell? ⟨gc,4,none⟩=some (.slice (some ⟨g2,0,none⟩) n n):=hfc 2 _ rfl
   have k3:w5.cell? ⟨gc,5,none⟩=some (.slice (some ⟨g3,0,none⟩) n n):=hfc 3 _ rfl
   have k4:w5.cell? ⟨gc,6,none⟩=some (.slice (some ⟨g4,0,none⟩) n n):=hfc 4 _ rfl
   have k5:w5.cell? ⟨gc,7,none⟩=some (.slice (some ⟨g5,0,none⟩) n n):=hfc 5 _ rfl
   have k6:w5.cell? ⟨gc,8,none⟩=some (.slice (some ⟨g6,0,none⟩) n n):=hfc 6 _ rfl
   have k7:w5.cell? ⟨gc,9,none⟩=some (.slice (some ⟨g7,0,none⟩) n n):=hfc 7 _ rfl
   have k8:w5.cell? ⟨gc,10,none⟩=some (.slice (some ⟨g8,0,none⟩) n n):=hfc 8 _ rfl
   have k9:w5.cell? ⟨gc,11,none⟩=some (.slice (some ⟨g9,0,none⟩) n n):=hfc 9 _ rfl
   clear hfc
   go_upto_region 3 with fail
   go_region_held3 (fun w'=>w'.cell? ⟨gc,2,none⟩=some (.slice fx n fcp)∧w'.cell? ⟨gc,3,none⟩=some (.slice (some ⟨g1,0,none⟩) n n)∧w'.cell? ⟨gc,4,none⟩=some (.slice (some ⟨g2,0,none⟩) n n)∧w'.cell? ⟨gc,5,none⟩=some (.slice (some ⟨g3,0,none⟩) n n)∧w'.cell? ⟨gc,6,none⟩=some (.slice (some ⟨g4,0,none⟩) n n)∧w'.cell? ⟨gc,7,none⟩=some (.slice (some ⟨g5,0,none⟩) n n)∧w'.cell? ⟨gc,8,none⟩=some (.slice (some ⟨g6,0,none⟩) n n)∧w'.cell? ⟨gc,9,none⟩=some (.slice (some ⟨g7,0,none⟩) n n)∧w'.cell? ⟨gc,10,none⟩=some (.slice (some ⟨g8,0,none⟩) n n)∧w'.cell? ⟨gc,11,none⟩=some (.slice (some ⟨g9,0,none⟩) n n)∧w'.cell? ⟨gc,12,none⟩=some (.slice (some ⟨gr,0,none⟩) n n)) (first | exact⟨k0,k1,k2,k3,k4,k5,k6,k7,k8,k9,c12⟩ | exact⟨m0,m1,m2,m3,m4,m5,m6,m7,m8,m9,m10⟩) (first
    | (go_at_call 50;refine (zEW (FA.mk n (.slice fx n fcp) g1 g2 g3 g4 g5 g6 g7 g8 g9) (Q.zIx wd.events) gr ((Q.zIx wd.events).reads (Q.zJl (Q.zIk wd.events) dr)) _ (FI5.out.below (Below.refl _ _).drew) (REL5.out.below (Below.refl _ _).drew)).mono ?_;rintro e w6 ⟨rfl,hb6⟩;have B6:Hid (Below w5.heap.size w5 w6):=((Below.refl w5.heap.size w5).drew).trans (hb6.mono (by simp));generalize hH:(Q.zIx wd.events).hangsOn ((Q.zIx wd.events).reads (Q.zJl (Q.zIk wd.events) dr))=hh at *;have HH:=zAa hH;have m0:=cfL B6.out l5 k0;have m1:=cfL B6.out l5 k1;have m2:=cfL B6.out l5 k2;have m3:=cfL B6.out l5 k3;have m4:=cfL B6.out l5 k4;have m5:=cfL B6.out l5 k5;have m6:=cfL B6.out l5 k6;have m7:=cfL B6.out l5 k7;have m8:=cfL B6.out l5 k8;have m9:=cfL B6.out l5 k9;have m10:=cfL B6.out l5 c12;clear hH hb6))
   have CN6:=zAa (CN5.out.below B6.out)
   have REL6:=zAa (REL5.out.below B6.out)
   have F6:=zAa (F5.out.below B6.out)
   have HCC:Hid (Q.zII (zCm rss st1 rest1)=if hh then Q.zII (zCm rss (some ⟨⟨ev0,rg,⟨n,.slice fx n fcp,g1,g2,g3,g4,g5,g6,g7,g8,g9⟩,cv,cvs,rgb,rgd⟩,wd,dr,rr⟩) rest2) else Q.zJi (wd,dr)::Q.zII (zCm rss (some ⟨⟨ev0,rg,⟨n,.slice fx n fcp,g1,g2,g3,g4,g5,g6,g7,g8,g9⟩,cv,cvs,rgb,rgd⟩,wd,dr,rr⟩) rest2)):=by
    unfold Hid
    rw[HREM.out,Q.candsL_cons,← HH.out];rfl
   clear HH
   cases hh with
   | true =>
    have hR:zHl w gc A rss st C0 w6 (zCm rss (some ⟨⟨ev0,rg,⟨n,.slice fx n fcp,g1,g2,g3,g4,g5,g6,g7,g8,g9⟩,cv,cvs,rgb,rgd⟩,wd,dr,rr⟩) rest2).length:=by
     refine⟨_,_,_,CN6.out,?_,rfl,F6.out,fun k hk=>?_,fun k hk=>?_⟩
     ·have h1:=HCC.out
      rw[if_pos rfl] at h1
      rw[← h1];exact HR.out
     ·obtain⟨s',e1,h1⟩:=hk
      simp only[Option.some.injEq] at e1
      subst e1
      exact HNB.out k h1
     ·obtain⟨s',e1,h1⟩:=hk
      simp only[Option.some.injEq] at e1
      subst e1
      subst h1
      exact HGS.out
    go_wp2
    go_roundw
    case rel=>exact⟨_,hR⟩
    case measure =>
     have h1:=(HMU.out _ ⟨_,hR⟩).2 _ hR
     have h2:=HL.out
     rw[HREM.out] at h2
     simp only[List.length_cons] at h2
     omega
   | false =>
    have hF:Q.zII (zCm rss st1 rest1)=Q.zJi (wd,dr)::Q.zII (zCm rss (some ⟨⟨ev0,rg,⟨n,.slice fx n fcp,g1,g2,g3,g4,g5,g6,g7,g8,g9⟩,cv,cvs,rgb,rgd⟩,wd,dr,rr⟩) rest2):=by
     have h1:=HCC.out
     rw[if_neg (by decide)] at h1
     exact h1
    go_wp2
    go_ret
    exact⟨true,rfl,F6.out,Or.inr ⟨rfl,_,_,_,gr,⟨CN6.out,m10,REL6.out⟩,by rw[← HR.out];exact hF,HNB.out,HGS.out⟩⟩
def zCf (rv wb wd wg:Value):Array Value:=#[.slice none 0 0,.slice none 0 0,.slice none 0 0,.slice none 0 0,.slice none 0 0,.slice none 0 0,.slice none 0 0,.slice none 0 0,.slice none 0 0,.slice none 0 0,.slice none 0 0,.slice none 0 0,.slice none 0 0,rv,wb,wd,wg,.slice none 0 0,.slice none 0 0,.slice none 0 0,.bool false,.bool false]
def zHN (w w':World) (rss:List (List Q.Run)) (e:Ending):Prop:=∃ rv vs wss gb gd,e=.returned (.agg (zCf rv (.slice (some ⟨gb,0,none⟩) rss.length rss.length) (.slice (some ⟨gd,0,none⟩) rss.length rss.length) (.bool false)))∧(∃ a n c,rv=.slice a n c)∧RunsAll w' 0 rv rss vs wss∧zAp w' gb (zAT rss)∧zAp w' gd (Q.zeros rss.length)∧w.heap.size≤gb∧w.heap.size≤gd∧gb≠gd∧Below w.heap.size w w'
theorem zFC {w:World} {B n sz:Nat} {t:TypeId} {v:Value} {xs:List Value} (h:w.ownsRow B t sz v n xs):∃ a c,v=.slice a n c:=by
 rcases h.2 with ⟨e,h0⟩ | ⟨g',c,cur,e,_⟩
 ·exact⟨none,0,by rw[e,h0]⟩
 ·exact⟨_,c,e⟩
theorem zDf (B bt cap:Nat) (ts:List P.Thr) (w:World) (h:zAv w B (.slice (some ⟨bt,0,none⟩) ts.length cap) ts) (hn:ts.length<20) (hok:∀ t∈ts,(∀ s∈t.stmts,Q.StOk s)∧t.stmts.length<900∧Q.codes t.stmts<100000) :
  Calls Tryz.prog 31 #[.agg #[.slice (some ⟨bt,0,none⟩) ts.length cap]] w fun e w'=>zHN w w' (Q.runs ts) e:=by
 obtain⟨k0,k1,hsz,hbw⟩:=zBM w #[.slice (some ⟨bt,0,none⟩) ts.length cap] (zCf (.slice none 0 0) (.slice none 0 0) (.slice none 0 0) (.bool false)) 45 75
 have HT:=zAa (h.keep fun k hk=>hbw.block k hk)
 have HOK:=zAa hok
 have BW0:=zAa hbw
 clear hbw h hok
 go_enter Tryz.func31,Tryz.ntmps31
 go_upto_region 1 with fail
 simp only[zCf] at k0 k1 hsz HT BW0
 generalize hE:(w.alloc (.cells #[.slice (some ⟨bt,0,none⟩) ts.length cap] 45)).alloc (.cells #[.slice none 0 0,.slice none 0 0,.slice none 0 0,.slice none 0 0,.slice none 0 0,.slice none 0 0,.slice none 0 0,.slice none 0 0,.slice none 0 0,.slice none 0 0,.slice none 0 0,.slice none 0 0,.slice none 0 0,.slice none 0 0,.slice none 0 0,.slice none 0 0,.bool false,.slice none 0 0,.slice none 0 0,.slice none 0 0,.bool false,.bool false] 75)=W0 at *
 have c00:=ceL k0 0 _ rfl
 have l0:w.heap.size<W0.heap.size:=by omega
 have l1:w.heap.size+1<W0.heap.size:=by omega
 have K1:=zAa k1
 clear hE k0 k1 hsz
 have HRL:=zAa (Q.zJD ts)
 go_wp2_with (first
  | (go_at_call 46;refine (zEB B bt cap ts _ HT.out hn HOK.out).mono ?_;rintro e w1 ⟨rv,vs,wss,gb,gd,rfl,hra,hib,hid,hgb,hgd,hne,hb1⟩;have RA1:=zAa hra;have IB1:=zAa hib;have ID1:=zAa hid;have B1:=zAa hb1;have KB:=zAa ((hb1.block _ l1).trans K1.out);obtain⟨xa,xc,hrv⟩:=zFC hra.own;subst hrv;clear hra hib hid hb1)
  | (refine wpList_store_mid rfl 75 (.tmp 2) (.tmp 5) rfl (w.heap.size+1) 0 (zCf (.slice xa (Q.runs ts).length xc) (.slice (some ⟨gb,0,none⟩) (Q.runs ts).length (Q.runs ts).length) (.slice (some ⟨gd,0,none⟩) (Q.runs ts).length (Q.runs ts).length) (.bool false)) rfl rfl (zCa KB.out (by simp[zCf])) (by kernel_rfl) (by simp[zCf,Value.oneCell']) ?_;have SW:=zAa (zBB (zCf (.slice xa (Q.runs ts).length xc) (.slice (some ⟨gb,0,none⟩) (Q.runs ts).length (Q.runs ts).length) (.slice (some ⟨gd,0,none⟩) (Q.runs ts).length (Q.runs ts).length) (.bool false)).toList KB.out (by simp[zCf]));generalize w1.setCells (w.heap.size+1) 0 (zCf (.slice xa (Q.runs ts).length xc) (.slice (some ⟨gb,0,none⟩) (Q.runs ts).length (Q.runs ts).length) (.slice (some ⟨gd,0,none⟩) (Q.runs ts).length (Q.runs ts).length) (.bool false)).toList=W2 at *))
 obtain⟨s0,s1,s2⟩:=SW.out
 have B2:=s2 w w.heap.size (by omega) (zAn BW0.out (Nat.le_refl _) B1.out)
 have hrr:∀ {B n sz:Nat} {t:TypeId} {v:Value} {xs:List Value},w1.ownsRow B t sz v n xs→t≠75→W2.ownsRow B t sz v n xs:=fun h ht=>zAc h (fun k e=>s1 k (fun e2=>zAr h KB.out ht (by rw[e,e2])))
 refine zBd (p:=2) (w.heap.size+1) _ (by kernel_rfl) Tryz.underlying75 rfl (by kernel_rfl) rfl (by exact s0) rfl ?_
 refine⟨_,vs,wss,gb,gd,rfl,⟨_,_,_,rfl⟩,⟨hrr RA1.out.own (by decide),RA1.out.lv,RA1.out.lw,fun i hi u us hu hus=>?_⟩,IB1.out.of_block (s1 _ (by omega)),ID1.out.of_block (s1 _ (by omega)),by omega,by omega,hne,B2⟩
 have q:=RA1.out.runs i hi u us hu hus
 exact⟨hrr q.own (by decide),q.len,fun j hj x hx=>hrr (q.evs j hj x hx) (by decide)⟩
end Go.Proofs.YtkmebkbpfmoeaaaGreat
namespace Go.Proofs.YtkmebkbpfmoeaaaGreat
namespace Q
theorem candsL_append (a b:List (Wd × List Int)):zII (a++b)=zII a++zII b:=by simp[zII]
theorem candsL_reads (w:Wd):zII (zKp w)=candsIn w (zIx w.events):=by
 unfold zII zKp candsIn
 rw[List.map_map];rfl
theorem candsL_flat (rss:List (List Run)) (l:List (List Int)):zII (l.flatMap fun d=>zKp (zIl rss d))=l.flatMap fun ds=>candsIn (zIl rss ds) (zIx (zIl rss ds).events):=by
 induction l with
 | nil=>rfl
 | cons d l ih=>rw[List.flatMap_cons,candsL_append,candsL_reads,ih,List.flatMap_cons]
theorem cands_eq (ts:List P.Thr):cands ts=zII (zCm (runs ts) none (zIE (zAT (runs ts)))):=by
 unfold zCm
 simp only[List.nil_append]
 rw[candsL_flat];rfl
end Q
end Go.Proofs.YtkmebkbpfmoeaaaGreat
namespace Go.Proofs.YtkmebkbpfmoeaaaGreat
open Go Go.RowKit
set_option maxRecDepth 100000
section
variable {w w':World} {g:Nat} {a:Q.Ans} {ov:Value} {vs:List Value} {fp:List Nat}
theorem AnsOn.offRow (hA:AnsOn w g a ov vs fp) {B n sz:Nat} {t:TypeId} {v:Value} {xs:List Value} (h:w.ownsRow B t sz v n xs) (h1:t≠58) (h2:t≠58) (h3:t≠31) (k:Nat) (e:v.ownBlock=some k):¬ Wr g ov k:=fun e2=>by
 obtain⟨c,hty⟩:=hA.out.ty
 rcases e2 with e2 | e2
 ·subst e2
  rcases hty with hty | hty
  ·exact zAr h hty h1 e
  ·exact zAr h hty h2 e
 ·rcases hA.out.rows.own.2 with ⟨e3,_⟩ | ⟨b,c2,cur,e3,_,hb,_⟩
  ·rw[e3] at e2;simp[Value.ownBlock] at e2
  ·rw[e3] at e2;simp[Value.ownBlock] at e2
   subst e2
   exact zAr h hb h3 e
theorem AnsOn.offBlk (hA:AnsOn w g a ov vs fp) {k:Nat} {c:Array Value} {t:TypeId} (h:w.heap[k]?=some (.cells c t (0,0))) (h1:t≠58) (h2:t≠58) (h3:t≠31):¬ Wr g ov k:=fun e2=>by
 rcases e2 with e2 | e2
 ·exact hA.ne h (fun e=>h1 e.symm) (fun e=>h2 e.symm) e2.symm
 ·exact zAr hA.out.rows.own h (fun e=>h3 e.symm) e2
theorem zGI (hA:AnsOn w g a ov vs fp) (hx:XF (Wr g ov) w w') {B n sz:Nat} {t:TypeId} {v:Value} {xs:List Value} (h:w.ownsRow B t sz v n xs) (h1:t≠58) (h2:t≠58) (h3:t≠31):w'.ownsRow B t sz v n xs :=
 zAc h (fun k e=>hx.block k (h.lt k e).2 (hA.offRow h h1 h2 h3 k e))
theorem zGJ (hA:AnsOn w g a ov vs fp) (hx:XF (Wr g ov) w w') {b:Nat} {l:List Int} (h:zAp w b l):zAp w' b l :=
 h.of_block (hx.block b h.lt (hA.offBlk (t:=3) h (by decide) (by decide) (by decide)))
theorem zHy (hA:AnsOn w g a ov vs fp) (hx:XF (Wr g ov) w w') {gc o gb gd:Nat} {bs ds:List Int} {rest:List (List Int)} (h:zDe w gc o gb gd bs ds rest) (hg:w'.heap[gc]?=w.heap[gc]?):zDe w' gc o gb gd bs ds rest:=by
 obtain⟨b,⟨c0,c1,c2,cf,cl,cb,cd,n1,n2,n3,n4⟩,h5⟩:=h
 have hc:∀ j,w'.cell? ⟨gc,j,none⟩=w.cell? ⟨gc,j,none⟩:=fun j=>World.cell?_of_block (w:=w) (a:=⟨gc,j,none⟩) hg
 exact⟨b,⟨(hc _).trans c0,(hc _).trans c1,(hc _).trans c2,fun j=>(World.frozen?_of_block (w:=w) (a:=⟨gc,j,none⟩) hg).trans (cf j),Nat.lt_of_lt_of_le cl hx.size,zGJ hA hx cb,zGJ hA hx cd,n1,n2,n3,n4⟩,h5⟩
theorem zHY (hA:AnsOn w g a ov vs fp) (hx:XF (Wr g ov) w w') {gc:Nat} (h:Box w gc):w'.heap[gc]?=w.heap[gc]?:=by
 obtain⟨c,h1,h2⟩:=id h
 exact hx.block gc h.lt (hA.offBlk h1 (by decide) (by decide) (by decide))
theorem CandOn.wr {gc:Nat} {A:WA} {rss:List (List Q.Run)} {st:Option RS} {ds:List Int} {rest:List (List Int)} (h:CandOn w gc A rss st ds rest) (hA:AnsOn w g a ov vs fp) (hne:∀ k,nbS st k→¬ Wr g ov k) (hx:XF (Wr g ov) w w'):CandOn w' gc A rss st ds rest:=by
 have hg:=zHY hA hx h.box
 have hc:∀ j,w'.cell? ⟨gc,j,none⟩=w.cell? ⟨gc,j,none⟩:=fun j=>World.cell?_of_block (w:=w) (a:=⟨gc,j,none⟩) hg
 refine⟨h.box.of hg,⟨(hc _).trans h.ws.c0,⟨zGI hA hx h.ws.runs.own (by decide) (by decide) (by decide),h.ws.runs.lv,h.ws.runs.lw,fun i hi u us hu hus=>?_⟩,zHy hA hx h.ws.ctr hg⟩,(hc _).trans h.beg,fun s hs=>?_⟩
 ·have q:=h.ws.runs.runs i hi u us hu hus
  exact⟨zGI hA hx q.own (by decide) (by decide) (by decide),q.len,fun j hj x hx2=>zGI hA hx (q.evs j hj x hx2) (by decide) (by decide) (by decide)⟩
 ·obtain⟨hon,hok⟩:=h.rs s hs
  have hn:∀ k,s.R.nb k→¬ Wr g ov k:=fun k hk=>hne k ⟨s,hs,hk⟩
  refine⟨⟨(hc _).trans hon.c0,(hc _).trans hon.c1,hon.wdi.wr hA (fun k e=>hn k (Or.inl e)) hx.block hx.size,zAz hon.fc hg,hon.fin.wr hA hx.block,⟨(hc _).trans hon.rd.c0,⟨zAc hon.rd.rows.own (fun k e=>hx.block k (hon.rd.rows.own.lt k e).2 (hn k (Or.inr (Or.inl e)))),hon.rd.rows.len,fun i hi u hu=>(hon.rd.rows.rows i hi u hu).own _ (fun k e=>hx.block k ?_ (hn k (Or.inr (Or.inr (Or.inl ⟨u,List.mem_of_getElem? hu,e⟩))))) hx.size⟩,zHy hA hx hon.rd.ctr hg,hon.rd.nc,hon.rd.ne⟩,hon.n1,hon.n2,hon.n3⟩,hok⟩
  exact zFk (hon.rd.rows.rows i hi u hu) k e
end
theorem RA.on.nblt {R:RA} {w:World} {gc:Nat} {A:WA} {wd:Q.Wd} {ds:List Int} {rest:List (List Int)} (h:R.on w gc A wd ds rest) (k:Nat) (hk:R.nb k):k<w.heap.size:=by
 obtain⟨b,hc⟩:=h.rd.ctr.ctr
 rcases hk with e | e | ⟨u,hu,e⟩ | e | e
 ·exact zFk h.wdi.regs k e
 ·exact (h.rd.rows.own.lt k e).2
 ·obtain⟨i,hi,hui⟩:=List.getElem_of_mem hu
  have hl:i<(Q.zIk wd.events).length:=by have:=h.rd.rows.len;omega
  exact zFk (h.rd.rows.rows i hl u (by rw[List.getElem?_eq_getElem hi,hui])) k e
 ·subst e;exact hc.bases.lt
 ·subst e;exact hc.digits.lt
theorem CandOn.nblt {w:World} {gc:Nat} {A:WA} {rss:List (List Q.Run)} {st:Option RS} {ds:List Int} {rest:List (List Int)} (h:CandOn w gc A rss st ds rest) (k:Nat) (hk:nbS st k):k<w.heap.size:=by
 obtain⟨s,hs,hk⟩:=hk
 exact (h.rs s hs).1.nblt k hk
theorem CandOn.gdlt {w:World} {gc:Nat} {A:WA} {rss:List (List Q.Run)} {st:Option RS} {ds:List Int} {rest:List (List Int)} (h:CandOn w gc A rss st ds rest) (k:Nat) (hk:gdS st k):k<w.heap.size:=by
 obtain⟨s,hs,hk⟩:=hk
 subst hk
 exact h.nblt _ ⟨s,hs,Or.inr (Or.inr (Or.inr (Or.inr rfl)))⟩
structure BothOn (w0 w:World) (gc g:Nat) (A:WA) (rss:List (List Q.Run)) (st:Option RS) (ds:List Int) (rest:List (List Int)) (a:Q.Ans) (ov:Value) (vs:List Value) (fp:List Nat):Prop where
 cand:CandOn w gc A rss st ds rest
 ans:AnsOn w g a ov vs fp
 nb:∀ k,nbS st k→¬ Wr g ov k
 fpd:∀ k∈fp,k≠gc∧k≠A.gd∧¬ gdS st k
 low:w0.heap.size≤gc∧w0.heap.size≤g∧w0.heap.size≤A.gd∧(∀ k,gdS st k→w0.heap.size≤k)∧(∀ k,ov.ownBlock=some k→w0.heap.size≤k)∧∀ k∈fp,w0.heap.size≤k
 bl:Below w0.heap.size w0 w
section
variable {w0 w:World} {gc g:Nat} {A:WA} {rss:List (List Q.Run)} {st:Option RS} {ds:List Int} {rest:List (List Int)} {a:Q.Ans} {ov:Value} {vs:List Value} {fp:List Nat}
theorem BothOn.below (h:BothOn w0 w gc g A rss st ds rest a ov vs fp) {w':World} (hb:Below w.heap.size w w'):BothOn w0 w' gc g A rss st ds rest a ov vs fp :=
 ⟨h.cand.below hb,h.ans.below hb,h.nb,h.fpd,h.low,zAn h.bl (Nat.le_refl _) hb⟩
theorem CFrame.xf {w w':World} {gc:Nat} {A:WA} {st:Option RS} (h:CFrame w w' gc A st):XF (fun k=>k=gc∨k=A.gd∨gdS st k) w w' :=
 ⟨h.os,h.tape,h.output,h.size,fun k hk hn=>h.block k hk (fun e=>hn (Or.inl e)) (fun e=>hn (Or.inr (Or.inl e))) (fun e=>hn (Or.inr (Or.inr e)))⟩
theorem XF.low {P:Nat→Prop} {w0 w w':World} (hb:Below w0.heap.size w0 w) (h:XF P w w') (hp:∀ k,P k→w0.heap.size≤k):Below w0.heap.size w0 w' :=
 ⟨h.os.trans hb.os,h.tape.trans hb.tape,h.output.trans hb.output,Nat.le_trans hb.size h.size,fun k hk=>(h.block k (Nat.lt_of_lt_of_le hk hb.size) (fun e=>by have:=hp k e;omega)).trans (hb.block k hk)⟩
theorem BothOn.frame (h:BothOn w0 w gc g A rss st ds rest a ov vs fp) {w':World} (hF:CFrame w w' gc A st):AnsOn w' g a ov vs fp∧Below w0.heap.size w0 w':=by
 obtain⟨cc,hcc,_⟩:=id h.cand.box
 obtain⟨bw,hcw⟩:=h.cand.ws.ctr.ctr
 have hG:∀ k,gdS st k→∃ l,zAp w k l:=fun k hk=>by
  obtain⟨s,hs,rfl⟩:=hk
  obtain⟨b,hc⟩:=(h.cand.rs s hs).1.rd.ctr.ctr
  exact⟨_,hc.digits⟩
 have hP:∀ k,(k=gc∨k=A.gd∨gdS st k)→¬ Wr g ov k:=fun k hk=>by
  rcases hk with e | e | e
  ·subst e;exact h.ans.offBlk hcc (by decide) (by decide) (by decide)
  ·subst e;exact h.ans.offBlk (t:=3) hcw.digits (by decide) (by decide) (by decide)
  ·obtain⟨l,hl⟩:=hG k e
   exact h.ans.offBlk (t:=3) hl (by decide) (by decide) (by decide)
 refine⟨h.ans.xf hF.xf (fun e=>hP g e (Or.inl rfl)) (fun k e e2=>hP k e2 (Or.inr e)) (fun k hk e=>?_),hF.xf.low h.bl (fun k e=>?_)⟩
 ·rcases e with e | e | e
  ·exact (h.fpd k hk).1 e
  ·exact (h.fpd k hk).2.1 e
  ·exact (h.fpd k hk).2.2 e
 ·rcases e with e | e | e
  ·rw[e];exact h.low.1
  ·rw[e];exact h.low.2.2.1
  ·exact h.low.2.2.2.1 k e
theorem BothOn.next (h:BothOn w0 w gc g A rss st ds rest a ov vs fp) {w':World} {s:RS} {ds2:List Int} {rest2:List (List Int)} (hF:CFrame w w' gc A st) (hC:CandOn w' gc A rss (some s) ds2 rest2) (hN:∀ k,s.R.nb k→nbS st k∨w.heap.size≤k) (hG:gdS st s.R.gd∨w.heap.size≤s.R.gd):BothOn w0 w' gc g A rss (some s) ds2 rest2 a ov vs fp:=by
 obtain⟨h1,h2⟩:=h.frame hF
 have hg:∀ k,gdS (some s) k→k=s.R.gd:=fun k hk=>by
  obtain⟨s',e,e2⟩:=hk
  simp only[Option.some.injEq] at e
  subst e;exact e2
 refine⟨hC,h1,fun k hk e=>?_,fun k hk=>⟨(h.fpd k hk).1,(h.fpd k hk).2.1,fun e=>?_⟩,⟨h.low.1,h.low.2.1,h.low.2.2.1,fun k e=>?_,h.low.2.2.2.2.1,h.low.2.2.2.2.2⟩,h2⟩
 ·obtain⟨s',e1,hk⟩:=hk
  simp only[Option.some.injEq] at e1
  subst e1
  rcases hN k hk with h3 | h3
  ·exact h.nb k h3 e
  ·rcases e with e | e
   ·have:=h.ans.out.lt;omega
   ·have:=h.ans.out.ownlt k e;omega
 ·rw[hg k e] at hk e
  rcases hG with h3 | h3
  ·exact (h.fpd _ hk).2.2 h3
  ·have:=h.ans.out.fpl _ hk;omega
 ·rw[hg k e]
  rcases hG with h3 | h3
  ·exact h.low.2.2.2.1 _ h3
  ·have:=h.bl.size;omega
theorem BothOn.grow (h:BothOn w0 w gc g A rss st ds rest a ov vs fp) {w':World} {a':Q.Ans} {ov':Value} {vs':List Value} {fp':List Nat} (hA:AnsOn w' g a' ov' vs' fp') (hF:AFrame (Wr g ov) w w' ov ov' fp fp'):BothOn w0 w' gc g A rss st ds rest a' ov' vs' fp':=by
 have hbs:=h.bl.size
 refine⟨h.cand.wr h.ans h.nb hF.xf,hA,fun k hk e=>?_,fun k hk=>?_,⟨h.low.1,h.low.2.1,h.low.2.2.1,h.low.2.2.2.1,fun k e=>?_,fun k hk=>?_⟩,hF.xf.low h.bl (fun k e=>?_)⟩
 ·rcases e with e | e
  ·exact h.nb k hk (Or.inl e)
  ·rcases hF.own with e1 | ⟨b,e1,hb⟩
   ·exact h.nb k hk (Or.inr (e1.symm.trans e))
   ·rw[e1] at e;simp at e
    have:=h.cand.nblt k hk;omega
 ·rcases hF.fpn k hk with h3 | h3
  ·exact h.fpd k h3
  ·obtain⟨bw,hcw⟩:=h.cand.ws.ctr.ctr
   have l1:=h.cand.box.lt
   have l2:=hcw.digits.lt
   exact⟨by omega,by omega,fun e=>by have:=h.cand.gdlt k e;omega⟩
 ·rcases hF.own with e1 | ⟨b,e1,hb⟩
  ·exact h.low.2.2.2.2.1 k (e1.symm.trans e)
  ·rw[e1] at e;simp at e;omega
 ·rcases hF.fpn k hk with h3 | h3
  ·exact h.low.2.2.2.2.2 k h3
  ·omega
 ·rcases e with e | e
  ·rw[e];exact h.low.2.1
  ·exact h.low.2.2.2.2.1 k e
end
end Go.Proofs.YtkmebkbpfmoeaaaGreat
