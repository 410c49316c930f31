import Derived.Test.YtgceflcbckjjiaaGreatDoorC49
set_option linter.unusedVariables false
set_option linter.unusedSimpArgs false
set_option maxHeartbeats 12800000
namespace Go.Proofs.YtgceflcbckjjiaaGreatDoor
open Go Go.RowKit
set_option maxRecDepth 100000
namespace P
structure SrcFacts (x:List UInt8 × List Int × Bool × Bool):Prop where
 e:(kernel x.1).2.1=0
 l:(kernel x.1).2.2=0
 ok:Q.KerOk (kernel x.1).1
 few:(Q.zOS (kernel x.1).1).rows.length<100000000
 want:zQU (Q.zOS (kernel x.1).1).rows x.2.1
 may:zPP (Q.zOS (kernel x.1).1).rows x.2.1=x.2.2.1
 clash:(Q.zOS (kernel x.1).1).clash=x.2.2.2
structure TgtFacts (x:List UInt8 × List Int × Bool × Bool) (way:Int):Prop where
 c:(zNR x.1 way).2.1=0
 rows:(zOd 10 (zNR x.1 way).1).length≤99
 e:(readA (zNR x.1 way).1).2.1=0
 l:(readA (zNR x.1 way).1).2.2=0
 ok:Q.KerOk (readA (zNR x.1 way).1).1
 few:(Q.target (readA (zNR x.1 way).1).1).rows.length<100000000
 want:zQU (Q.target (readA (zNR x.1 way).1).1).rows x.2.1
 may:(x.2.2.2||(zPP (Q.target (readA (zNR x.1 way).1).1).rows x.2.1==x.2.2.1&&!(Q.target (readA (zNR x.1 way).1).1).clash))=true
structure KnOk (x:List UInt8 × List Int × Bool × Bool):Prop where
 size:x.1.length≤2000
 src:SrcFacts x
 tgt:∀ b:Nat,b<4→TgtFacts x (b:Int)
theorem srcK_ok {x:List UInt8 × List Int × Bool × Bool} (h:srcK x=true):SrcFacts x:=by
 unfold srcK cameB at h
 simp only[Bool.and_eq_true,beq_iff_eq] at h
 obtain⟨⟨⟨h1,h2⟩,h3⟩,⟨h4,h5⟩,h6,_⟩:=h
 obtain⟨h7,h8⟩:=wantB_ok h4
 exact⟨h1,h2,Q.zQt h3,h8,h7,h5,h6⟩
theorem tgtK_ok {x:List UInt8 × List Int × Bool × Bool} {way:Int} (h:tgtK x way=true):TgtFacts x way:=by
 unfold tgtK tgtOk at h
 simp only[Bool.and_eq_true,beq_iff_eq,decide_eq_true_eq] at h
 obtain⟨⟨h1,⟨h2,h3,h4⟩,h5⟩,h6,h7⟩:=h
 obtain⟨h8,h9⟩:=wantB_ok h6
 refine⟨h1,h2,h3,h4,Q.zQt h5,h9,h8,?_⟩
 simpa using h7
end P
theorem zEM (s:ByteArray) (x:List UInt8 × List Int × Bool × Bool) (w:World) (hs:s.toList=x.1) (hz:s.size≤8192) (h:P.SrcFacts x) :
  Calls Tryz.prog 14 #[.string s] w fun e w'=>∃ ov vs rows,e=.returned (.tuple #[ov,.bool x.2.2.2,.int .i64 0,.int .i64 0])∧RowsI w' 0 ov rows vs∧P.zQU rows x.2.1∧rows.length<100000000∧P.zPP rows x.2.1=x.2.2.1∧Below w.heap.size w w':=by
 refine (zJH s w hz (by rw[hs];exact h.e) (by rw[hs];exact h.l) (by rw[hs];exact h.ok) (by rw[hs];exact h.few)).mono ?_
 rw[hs]
 rintro e w' ⟨ov,vs,rfl,hri,hb⟩
 exact⟨ov,vs,_,by rw[h.clash],hri,h.want,h.few,h.may,hb⟩
theorem zEN (t:ByteArray) (x:List UInt8 × List Int × Bool × Bool) (way:Int) (w:World) (ht:t.toList=(P.zNR x.1 way).1) (h:P.TgtFacts x way) :
  Calls Tryz.prog 20 #[.string t] w fun e w'=>∃ ov vs rows cl,e=.returned (.tuple #[ov,.bool cl,.int .i64 0,.int .i64 0])∧RowsI w' 0 ov rows vs∧P.zQU rows x.2.1∧rows.length<100000000∧(x.2.2.2||(P.zPP rows x.2.1==x.2.2.1&&!cl))=true∧Below w.heap.size w w':=by
 refine (zJG t w (by rw[ht];exact h.rows) (by rw[ht];exact h.e) (by rw[ht];exact h.l) (by rw[ht];exact h.ok) (by rw[ht];exact h.few)).mono ?_
 rw[ht]
 rintro e w' ⟨ov,vs,rfl,hri,hb⟩
 exact⟨ov,vs,_,_,rfl,hri,h.want,h.few,h.may,hb⟩
theorem zJI (HK:Hid (∀ x∈P.kns,P.KnOk x)) (c b:Int) (w:World) (h0:-9223372036854775808≤c) (h1:c<9223372036854775808) (h2:-9223372036854775808≤b) (h3:b<9223372036854775808) :
  Calls Tryz.prog 10 #[.int .i64 c,.int .i64 b] w fun e w'=>e=.returned (.bool true)∧Below w.heap.size w w':=by
 go_enter Tryz.func10,Tryz.ntmps10
 go_upto_region 3 with (first
  | (go_at_call 13;refine (zII _).mono ?_;rintro e w1 ⟨rfl,hkn,hlk,hb1⟩;have KN:=zAa hkn;have B1:=zAa hb1;clear hkn hb1;generalize hgk:w.heap.size+14=gk at *)
  | (go_at_call 9;refine (zHS c _ h0 h1).mono ?_;rintro e wp ⟨i,hi,rfl,hwp⟩;subst hwp;obtain⟨x,hx⟩:∃ x,P.kns[i]?=some x:=⟨P.kns[i]'hi,List.getElem?_eq_getElem hi⟩;have XO:=zAa (HK.out x (List.mem_of_getElem? hx));obtain⟨s,gw,hs,cs,cw,cm,cc,hrw⟩:=KN.out i x hx;have HS:=zAa hs;have HRW:=zAa hrw;have hi29:(i:Int)<29:=(by omega);clear hs hrw hx))
 obtain⟨xs,want,may,clash⟩:=x
 simp only at cw cm cc HS HRW
 have hsz:s.size≤8192:=by
  have h9:=XO.out.size
  simp only at h9
  rw[← HS.out,zAr] at h9
  omega
 have KX:Hid ((wp.alloc (.cells #[.string s,.slice (some ⟨gw,0,none⟩) want.length want.length,.bool may,.bool clash] 34)).heap[wp.heap.size]?=some (.cells #[.string s,.slice (some ⟨gw,0,none⟩) want.length want.length,.bool may,.bool clash] 34 (0,0))):=heap_alloc_new wp _
 have BX:Hid (Below wp.heap.size wp (wp.alloc (.cells #[.string s,.slice (some ⟨gw,0,none⟩) want.length want.length,.bool may,.bool clash] 34))):=(Below.refl _ _).alloc (Nat.le_refl _) _
 clear cs cw cm cc KN
 generalize wp.alloc (.cells #[.string s,.slice (some ⟨gw,0,none⟩) want.length want.length,.bool may,.bool clash] 34)=V at *
 have lx:wp.heap.size<V.heap.size:=(Array.getElem?_eq_some_iff.1 KX.out).1
 have RWV:=zAa (HRW.out.below BX.out)
 have BV:Hid (Below w.heap.size w V):=zAm B1.out (Nat.le_refl _) BX.out
 generalize hbx:wp.heap.size=bx at *
 have kk:=KX.out
 have c0:=ceL kk 0 _ rfl
 have c1:=ceL kk 1 _ rfl
 have c2:=ceL kk 2 _ rfl
 have c3:=ceL kk 3 _ rfl
 have hmm:(may != may)=false:=by simp
 clear kk hbx B1 BX HRW hlk
 cases clash
 ·go_wp2_with (first
   | (go_at_call_of 19 (Value.slice oa5 rows5.length oc5);refine (zDv _ _ rows5 vs5 want 0 _ RI5.out RW5.out WO5.out hrl5).mono ?_;rintro e w6 ⟨rfl,hb6⟩;have h9:=FI5.out;simp only[Bool.false_or,Bool.and_eq_true,beq_iff_eq,Bool.not_eq_true'] at h9;obtain⟨h9a,h9b⟩:=h9;subst h9b;rw[h9a];have B6:=zAa (zAm B5.out (Nat.le_refl _) hb6);have kk:=(B6.out.block _ lx).trans KX.out;have r0:=ceL kk 0 _ rfl;have r1:=ceL kk 1 _ rfl;have r2:=ceL kk 2 _ rfl;have r3:=ceL kk 3 _ rfl;have lx6:=Nat.lt_of_lt_of_le lx B6.out.size;clear hb6 kk)
   | (go_at_call 20;refine (zEN tt (xs,want,may,false) (d:Int) _ HTT.out TG.out).mono ?_;rintro e w5 ⟨ov5,vs5,rows5,cl5,rfl,hri5,hwo5,hrl5,hfi5,hb5⟩;have RI5:=zAa hri5;have WO5:=zAa hwo5;have FI5:=zAa hfi5;have B5:=zAa (zAm B4.out (Nat.le_refl _) hb5);obtain⟨oa5,oc5,hov5,_⟩:=hri5.form;subst hov5;have kk:=(B5.out.block _ lx).trans KX.out;have q0:=ceL kk 0 _ rfl;have q1:=ceL kk 1 _ rfl;have q2:=ceL kk 2 _ rfl;have q3:=ceL kk 3 _ rfl;have lx5:=Nat.lt_of_lt_of_le lx B5.out.size;have RW5:=zAa (RWV.out.below B5.out);clear hri5 hwo5 hfi5 hb5 kk)
   | (go_at_call 15;refine (zDW s (d:Int) _ hsz).mono ?_;rw[HS.out];rw[TG.out.c];rintro e w4 ⟨tt,rfl,htt,hb4⟩;have HTT:=zAa htt.1;have B4:=zAa (zAm B3.out (Nat.le_refl _) hb4);have kk:=(B4.out.block _ lx).trans KX.out;have p0:=ceL kk 0 _ rfl;have p1:=ceL kk 1 _ rfl;have p2:=ceL kk 2 _ rfl;have p3:=ceL kk 3 _ rfl;have lx4:=Nat.lt_of_lt_of_le lx B4.out.size;clear htt hb4 kk)
   | (go_at_call 9;refine (zFY b _ h2 h3).mono ?_;rintro e wp ⟨d,hd,rfl,hwp⟩;subst hwp;have TG:=zAa (XO.out.tgt d hd))
   | (go_at_call_of 19 (Value.slice oa2 rows2.length oc2);refine (zDv _ _ rows2 vs2 want 0 _ RI2.out RW2.out WO2.out hrl2).mono ?_;rintro e w3 ⟨rfl,hb3⟩;rw[CM2.out];have B3:=zAa (zAm B2.out (Nat.le_refl _) hb3);have kk:=(B3.out.block _ lx).trans KX.out;have n0:=ceL kk 0 _ rfl;have n1:=ceL kk 1 _ rfl;have n2:=ceL kk 2 _ rfl;have n3:=ceL kk 3 _ rfl;have lx3:=Nat.lt_of_lt_of_le lx B3.out.size;clear hb3 kk)
   | (go_at_call 14;refine (zEM s (xs,want,may,false) _ HS.out hsz XO.out.src).mono ?_;rintro e w2 ⟨ov2,vs2,rows2,rfl,hri2,hwo2,hrl2,hcm2,hb2⟩;have RI2:=zAa hri2;have WO2:=zAa hwo2;have CM2:=zAa hcm2;have B2:=zAa hb2;obtain⟨oa2,oc2,hov2,_⟩:=hri2.form;subst hov2;have kk:=(hb2.block _ lx).trans KX.out;have m0:=ceL kk 0 _ rfl;have m1:=ceL kk 1 _ rfl;have m2:=ceL kk 2 _ rfl;have m3:=ceL kk 3 _ rfl;have lx2:=Nat.lt_of_lt_of_le lx hb2.size;have RW2:=zAa (RWV.out.below hb2);clear hri2 hwo2 hcm2 hb2 kk))
  go_ret
  exact⟨rfl,zAm BV.out (Nat.le_refl _) B6.out⟩
 ·go_wp2_with (first
   | (go_at_call_of 19 (Value.slice oa5 rows5.length oc5);refine (zDv _ _ rows5 vs5 want 0 _ RI5.out RW5.out WO5.out hrl5).mono ?_;rintro e w6 ⟨rfl,hb6⟩;generalize P.zPP rows5 want=cm5 at *;have B6:=zAa (zAm B5.out (Nat.le_refl _) hb6);have kk:=(B6.out.block _ lx).trans KX.out;have r0:=ceL kk 0 _ rfl;have r1:=ceL kk 1 _ rfl;have r2:=ceL kk 2 _ rfl;have r3:=ceL kk 3 _ rfl;have lx6:=Nat.lt_of_lt_of_le lx B6.out.size;clear hb6 kk)
   | (go_at_call 20;refine (zEN tt (xs,want,may,true) (d:Int) _ HTT.out TG.out).mono ?_;rintro e w5 ⟨ov5,vs5,rows5,cl5,rfl,hri5,hwo5,hrl5,hfi5,hb5⟩;have RI5:=zAa hri5;have WO5:=zAa hwo5;have FI5:=zAa hfi5;have B5:=zAa (zAm B4.out (Nat.le_refl _) hb5);obtain⟨oa5,oc5,hov5,_⟩:=hri5.form;subst hov5;have kk:=(B5.out.block _ lx).trans KX.out;have q0:=ceL kk 0 _ rfl;have q1:=ceL kk 1 _ rfl;have q2:=ceL kk 2 _ rfl;have q3:=ceL kk 3 _ rfl;have lx5:=Nat.lt_of_lt_of_le lx B5.out.size;have RW5:=zAa (RWV.out.below B5.out);clear hri5 hwo5 hfi5 hb5 kk)
   | (go_at_call 15;refine (zDW s (d:Int) _ hsz).mono ?_;rw[HS.out];rw[TG.out.c];rintro e w4 ⟨tt,rfl,htt,hb4⟩;have HTT:=zAa htt.1;have B4:=zAa (zAm B3.out (Nat.le_refl _) hb4);have kk:=(B4.out.block _ lx).trans KX.out;have p0:=ceL kk 0 _ rfl;have p1:=ceL kk 1 _ rfl;have p2:=ceL kk 2 _ rfl;have p3:=ceL kk 3 _ rfl;have lx4:=Nat.lt_of_lt_of_le lx B4.out.size;clear htt hb4 kk)
   | (go_at_call 9;refine (zFY b _ h2 h3).mono ?_;rintro e wp ⟨d,hd,rfl,hwp⟩;subst hwp;have TG:=zAa (XO.out.tgt d hd))
   | (go_at_call_of 19 (Value.slice oa2 rows2.length oc2);refine (zDv _ _ rows2 vs2 want 0 _ RI2.out RW2.out WO2.out hrl2).mono ?_;rintro e w3 ⟨rfl,hb3⟩;rw[CM2.out];have B3:=zAa (zAm B2.out (Nat.le_refl _) hb3);have kk:=(B3.out.block _ lx).trans KX.out;have n0:=ceL kk 0 _ rfl;have n1:=ceL kk 1 _ rfl;have n2:=ceL kk 2 _ rfl;have n3:=ceL kk 3 _ rfl;have lx3:=Nat.lt_of_lt_of_le lx B3.out.size;clear hb3 kk)
   | (go_at_call 14;refine (zEM s (xs,want,may,true) _ HS.out hsz XO.out.src).mono ?_;rintro e w2 ⟨ov2,vs2,rows2,rfl,hri2,hwo2,hrl2,hcm2,hb2⟩;have RI2:=zAa hri2;have WO2:=zAa hwo2;have CM2:=zAa hcm2;have B2:=zAa hb2;obtain⟨oa2,oc2,hov2,_⟩:=hri2.form;subst hov2;have kk:=(hb2.block _ lx).trans KX.out;have m0:=ceL kk 0 _ rfl;have m1:=ceL kk 1 _ rfl;have m2:=ceL kk 2 _ rfl;have m3:=ceL kk 3 _ rfl;have lx2:=Nat.lt_of_lt_of_le lx hb2.size;have RW2:=zAa (RWV.out.below hb2);clear hri2 hwo2 hcm2 hb2 kk))
  go_ret
  exact⟨rfl,zAm BV.out (Nat.le_refl _) B6.out⟩
theorem zIJ (HK:Hid (∀ x∈P.kns,P.KnOk x)) (c b:Int) (w:World) (h0:-9223372036854775808≤c) (h1:c<9223372036854775808) (h2:-9223372036854775808≤b) (h3:b<9223372036854775808) :
  Calls Tryz.prog 4 #[.int .i64 c,.int .i64 b] w fun e w'=>e=.returned (.bool true)∧Below w.heap.size w w':=by
 go_enter Tryz.func4,Tryz.ntmps4
 go_wp2_with (first | (go_at_call 10;refine (zJI HK c b _ h0 h1 h2 h3).mono ?_;rintro e w1 ⟨rfl,hb⟩))
 go_ret
 exact⟨rfl,hb⟩
end Go.Proofs.YtgceflcbckjjiaaGreatDoor
namespace Go.Proofs.YtgceflcbckjjiaaGreatDoor
set_option maxRecDepth 100000
namespace Q
def AllP (p:List Int→Bool) (a:Ans):Prop:=(∀ r∈a.rows,p r=true)∧a.clash=false
theorem AllP.ins {p:List Int→Bool} {a:Ans} (h:AllP p a) {r:List Int} (hr:p r=true):AllP p ⟨Q.ins a.rows r,false⟩ :=
 ⟨fun x hx=>by
  rcases ins_mem hx with rfl | hx
  ·exact hr
  ·exact h.1 x hx,rfl⟩
theorem fold_allP {α:Type} {p:List Int→Bool} (F:Ans→α→Ans) (l:List α) (hF:∀ x∈l,∀ a,AllP p a→AllP p (F a x)):∀ a,AllP p a→AllP p (l.foldl F a):=by
 induction l with
 | nil=>intro a h;exact h
 | cons x l ih =>
  intro a h
  rw[List.foldl_cons]
  exact ih (fun y hy=>hF y (List.mem_cons_of_mem _ hy)) _ (hF x (by simp) a h)
theorem ins_le (l:List (List Int)) (r:List Int):(Q.ins l r).length≤l.length+1:=by
 induction l with
 | nil=>simp[Q.ins]
 | cons x q ih =>
  rw[Q.ins]
  split
  ·simp;omega
  ·split<;>simp
theorem fold_le {α:Type} (F:Ans→α→Ans) (n:Nat) (hF:∀ a x,(F a x).rows.length≤a.rows.length+n) (l:List α):∀ a,(l.foldl F a).rows.length≤a.rows.length+l.length*n:=by
 induction l with
 | nil=>intro a;simp
 | cons x l ih =>
  intro a
  rw[List.foldl_cons]
  have h1:=ih (F a x)
  have h2:=hF a x
  rw[List.length_cons,Nat.succ_mul]
  omega
theorem fold_le2 {α:Type} (F:Ans→α→Ans) (f:α→Nat) (hF:∀ a x,(F a x).rows.length≤a.rows.length+f x) (l:List α):∀ a,(l.foldl F a).rows.length≤a.rows.length+(l.map f).foldl (·+·) 0:=by
 have key:∀ (l:List Nat) (k:Nat),l.foldl (·+·) k=k+l.foldl (·+·) 0:=by
  intro l
  induction l with
  | nil=>intro k;simp
  | cons x l ih=>intro k;rw[List.foldl_cons,List.foldl_cons,ih (k+x),ih (0+x)];omega
 induction l with
 | nil=>intro a;simp
 | cons x l ih =>
  intro a
  rw[List.foldl_cons,List.map_cons,List.foldl_cons,key]
  have h1:=ih (F a x)
  have h2:=hF a x
  omega
def ordN (c:Cand):Nat:=(zOi (zNU c.wd.events (zNS c.wd.events))).length
def srcGood (p:List Int→Bool) (c:Cand):Bool:=(fun bf:List Nat=>(zOi (zNU c.wd.events (zNS c.wd.events))).all fun ds=>(fun ps:List Int=>!(c.facts.mayBe c.reads bf ps)||(p (zPg c.wd ps)&&!c.facts.clashes bf)) (zNW (zNS c.wd.events) ds)) (c.facts.before c.reads)
theorem srcCand_good {p:List Int→Bool} {c:Cand} (h:srcGood p c=true) (a:Ans) (ha:AllP p a):AllP p (zPi a c):=by
 unfold zPi zPz
 unfold srcGood at h
 simp only[List.all_eq_true] at h
 refine fold_allP _ _ (fun ds hds a ha=>?_) a ha
 have h1:=h ds hds
 unfold zOE
 split
 ·rename_i hm
  rw[hm] at h1
  simp only[Bool.not_true,Bool.false_or,Bool.and_eq_true,Bool.not_eq_true'] at h1
  rw[ha.2,if_neg (by simp),h1.2]
  exact ha.ins h1.1
 ·exact ha
theorem srcCand_le (a:Ans) (c:Cand):(zPi a c).rows.length≤a.rows.length+ordN c:=by
 have h:=fold_le (zOE c.wd c.facts c.reads (c.facts.before c.reads)) 1 (fun a ds=>by
  unfold zOE
  split
  ·exact ins_le _ _
  ·simp) (zOi (zNU c.wd.events (zNS c.wd.events))) a
 rw[Nat.mul_one] at h
 exact h
def srcIn (p:List Int→Bool) (ts:List P.Thr) (l:List (List Int)):Bool:=l.all fun ds=>(candsIn (zNX (runs ts) ds) (zOp (zNX (runs ts) ds).events)).all (srcGood p)
def candN (ts:List P.Thr) (m:Nat):Nat:=(zOi ((runs ts).map fun r=>(r.length:Int))).foldl (fun n ds=>n+(zOi (lens (zNT (zNX (runs ts) ds).events))).length*((zOi (zNU (zNX (runs ts) ds).events (zNS (zNX (runs ts) ds).events))).length*m)) 0
theorem candsIn_sum (w:Wd) (f:Facts) (g:Cand→Nat) (n:Nat) (hg:∀ c∈candsIn w f,g c≤n):((candsIn w f).map g).foldl (·+·) 0≤(zOi (lens (zNT w.events))).length*n:=by
 have key:∀ (l:List Cand),(∀ c∈l,g c≤n)→∀ k,(l.map g).foldl (·+·) k≤k+l.length*n:=by
  intro l
  induction l with
  | nil=>intro _ k;simp
  | cons c l ih =>
   intro h k
   rw[List.map_cons,List.foldl_cons,List.length_cons,Nat.succ_mul]
   have h1:=ih (fun c hc=>h c (List.mem_cons_of_mem _ hc)) (k+g c)
   have h2:=h c (by simp)
   omega
 have h1:=key _ hg 0
 have h2:(candsIn w f).length≤(zOi (lens (zNT w.events))).length:=by
  unfold candsIn
  refine Nat.le_trans (List.length_filter_le _ _) ?_
  simp
 have h3:=Nat.mul_le_mul_right n h2
 omega
theorem candsIn_wd {w:Wd} {f:Facts} {c:Cand} (h:c∈candsIn w f):c.wd=w∧c.facts=f:=by
 unfold candsIn at h
 have h1:=(List.mem_filter.1 h).1
 simp only[List.mem_map] at h1
 obtain⟨ds,_,rfl⟩:=h1
 exact⟨rfl,rfl⟩
theorem cands_fold_le (F:Ans→Cand→Ans) (g:Cand→Nat) (m:Nat) (hF:∀ a c,(F a c).rows.length≤a.rows.length+g c) (ts:List P.Thr) (hg2:∀ ds c,c∈candsIn (zNX (runs ts) ds) (zOp (zNX (runs ts) ds).events)→g c≤(zOi (zNU (zNX (runs ts) ds).events (zNS (zNX (runs ts) ds).events))).length*m) (hn:candN ts m<100000000):((cands ts).foldl F ⟨[],false⟩).rows.length<100000000:=by
 have h1:=fold_le2 F g hF (cands ts) ⟨[],false⟩
 have h2:((cands ts).map g).foldl (·+·) 0≤candN ts m:=by
  unfold cands candN
  generalize zOi ((runs ts).map fun r=>(r.length:Int))=L
  have key:∀ (l:List Nat) (k:Nat),l.foldl (·+·) k=k+l.foldl (·+·) 0:=by
   intro l
   induction l with
   | nil=>intro k;simp
   | cons x l ih=>intro k;rw[List.foldl_cons,List.foldl_cons,ih (k+x),ih (0+x)];omega
  have mono:∀ (f:List Int→Nat) (L:List (List Int)) (k k':Nat),k≤k'→L.foldl (fun n ds=>n+f ds) k≤L.foldl (fun n ds=>n+f ds) k':=by
   intro f L
   induction L with
   | nil=>intro k k' h;exact h
   | cons x l ih=>intro k k' h;rw[List.foldl_cons,List.foldl_cons];exact ih _ _ (by omega)
  have main:∀ (L:List (List Int)) (k:Nat),((L.flatMap fun ds=>candsIn (zNX (runs ts) ds) (zOp (zNX (runs ts) ds).events)).map g).foldl (·+·) k≤L.foldl (fun n ds=>n+(zOi (lens (zNT (zNX (runs ts) ds).events))).length*((zOi (zNU (zNX (runs ts) ds).events (zNS (zNX (runs ts) ds).events))).length*m)) k:=by
   intro L
   induction L with
   | nil=>intro k;exact Nat.le_refl _
   | cons ds L ih =>
    intro k
    rw[List.flatMap_cons,List.map_append,List.foldl_append,List.foldl_cons]
    refine Nat.le_trans (ih _) (mono _ _ _ _ ?_)
    have h3:=candsIn_sum (zNX (runs ts) ds) (zOp (zNX (runs ts) ds).events) g _ (hg2 ds)
    rw[key]
    omega
  exact main L 0
 simp only[List.length_nil] at h1
 omega
theorem source_good {p:List Int→Bool} {ts:List P.Thr} (h:srcIn p ts (zOi ((runs ts).map fun r=>(r.length:Int)))=true):AllP p (zOS ts):=by
 unfold zOS
 refine fold_allP _ _ (fun c hc a ha=>?_) _ ⟨fun r hr=>by simp at hr,rfl⟩
 unfold cands at hc
 simp only[List.mem_flatMap] at hc
 obtain⟨ds,hds,hc⟩:=hc
 unfold srcIn at h
 simp only[List.all_eq_true] at h
 exact srcCand_good (h ds hds c hc) a ha
theorem source_few {ts:List P.Thr} (hn:candN ts 1<100000000):(zOS ts).rows.length<100000000:=by
 refine cands_fold_le zPi ordN 1 srcCand_le ts (fun ds c hc=>?_) hn
 rw[Nat.mul_one]
 unfold ordN
 rw[(candsIn_wd hc).1]
 exact Nat.le_refl _
def tgtGood (p:List Int→Bool) (c:Cand):Bool:=(fun cs:List (List Nat)=>(zOi (zNU c.wd.events (zNS c.wd.events))).all fun ds=>(fun ps:List Int=>(fun bh:List Nat=>(fun ms:List Nat=>!(c.facts.mayStand c.reads bh ms)||cs.all fun cause=>!(zQT cause bh ms)||(p (zPg c.wd ps)&&!c.facts.clashes cause)) (thenR c.reads bh)) (zOn c.facts.events ps)) (zNW (zNS c.wd.events) ds)) (c.facts.causes c.reads c.wd)
theorem tgtCand_good {p:List Int→Bool} {c:Cand} (h:tgtGood p c=true) (a:Ans) (ha:AllP p a):AllP p (zOO a c):=by
 unfold zOO
 split
 ·exact ha
 ·unfold zPj
  unfold tgtGood at h
  simp only[List.all_eq_true] at h
  refine fold_allP _ _ (fun ds hds a ha=>?_) a ha
  have h1:=h ds hds
  unfold zOF
  split
  ·rename_i hm
   rw[hm] at h1
   simp only[Bool.not_true,Bool.false_or,List.all_eq_true] at h1
   refine fold_allP _ _ (fun cause hc a ha=>?_) a ha
   have h2:=h1 cause hc
   unfold zOW
   split
   ·rename_i hg
    rw[hg] at h2
    simp only[Bool.not_true,Bool.false_or,Bool.and_eq_true,Bool.not_eq_true'] at h2
    rw[ha.2,if_neg (by simp),h2.2]
    exact ha.ins h2.1
   ·exact ha
  ·exact ha
theorem tgtCand_le (a:Ans) (c:Cand):(zOO a c).rows.length≤a.rows.length+ordN c*(c.facts.causes c.reads c.wd).length:=by
 unfold zOO
 split
 ·simp
 ·refine fold_le (zOF c.wd c.facts c.reads (c.facts.causes c.reads c.wd)) _ (fun a ds=>?_) _ a
  unfold zOF
  split
  ·have h:=fold_le (zOW (zPg c.wd (zNW (zNS c.wd.events) ds)) c.facts (zOn c.facts.events (zNW (zNS c.wd.events) ds)) (thenR c.reads (zOn c.facts.events (zNW (zNS c.wd.events) ds)))) 1 (fun a x=>by
    unfold zOW
    split
    ·exact ins_le _ _
    ·simp) (c.facts.causes c.reads c.wd) a
   rw[Nat.mul_one] at h
   exact h
  ·simp
def tgtIn (p:List Int→Bool) (ts:List P.Thr) (l:List (List Int)):Bool:=l.all fun ds=>(candsIn (zNX (runs ts) ds) (zOp (zNX (runs ts) ds).events)).all (tgtGood p)
def fenN (ts:List P.Thr) (m:Nat):Bool:=(zOi ((runs ts).map fun r=>(r.length:Int))).all fun ds=>decide ((zOi (zNU (zNX (runs ts) ds).events (zNV (zNX (runs ts) ds).events))).length≤m)
theorem target_good {p:List Int→Bool} {ts:List P.Thr} (h:tgtIn p ts (zOi ((runs ts).map fun r=>(r.length:Int)))=true):AllP p (target ts):=by
 unfold target
 refine fold_allP _ _ (fun c hc a ha=>?_) _ ⟨fun r hr=>by simp at hr,rfl⟩
 unfold cands at hc
 simp only[List.mem_flatMap] at hc
 obtain⟨ds,hds,hc⟩:=hc
 unfold tgtIn at h
 simp only[List.all_eq_true] at h
 exact tgtCand_good (h ds hds c hc) a ha
theorem target_few {ts:List P.Thr} (m:Nat) (hf:fenN ts m=true) (hn:candN ts m<100000000):(target ts).rows.length<100000000:=by
 have h1:=fold_le2 zOO (fun c=>ordN c*(c.facts.causes c.reads c.wd).length) tgtCand_le (cands ts) ⟨[],false⟩
 refine Nat.lt_of_le_of_lt h1 ?_
 simp only[List.length_nil,Nat.zero_add]
 refine Nat.lt_of_le_of_lt ?_ hn
 unfold cands candN
 have hfe:∀ ds∈zOi ((runs ts).map fun r=>(r.length:Int)),(zOi (zNU (zNX (runs ts) ds).events (zNV (zNX (runs ts) ds).events))).length≤m:=by
  unfold fenN at hf
  simp only[List.all_eq_true,decide_eq_true_eq] at hf
  exact hf
 generalize zOi ((runs ts).map fun r=>(r.length:Int))=L at *
 have key:∀ (l:List Nat) (k:Nat),l.foldl (·+·) k=k+l.foldl (·+·) 0:=by
  intro l
  induction l with
  | nil=>intro k;simp
  | cons x l ih=>intro k;rw[List.foldl_cons,List.foldl_cons,ih (k+x),ih (0+x)];omega
 have mono:∀ (f:List Int→Nat) (L:List (List Int)) (k k':Nat),k≤k'→L.foldl (fun n ds=>n+f ds) k≤L.foldl (fun n ds=>n+f ds) k':=by
  intro f L
  induction L with
  | nil=>intro k k' h;exact h
  | cons x l ih=>intro k k' h;rw[List.foldl_cons,List.foldl_cons];exact ih _ _ (by omega)
 have main:∀ (L:List (List Int)),(∀ ds∈L,(zOi (zNU (zNX (runs ts) ds).events (zNV (zNX (runs ts) ds).events))).length≤m)→∀ (k:Nat),((L.flatMap fun ds=>candsIn (zNX (runs ts) ds) (zOp (zNX (runs ts) ds).events)).map fun c=>ordN c*(c.facts.causes c.reads c.wd).length).foldl (·+·) k≤L.foldl (fun n ds=>n+(zOi (lens (zNT (zNX (runs ts) ds).events))).length*((zOi (zNU (zNX (runs ts) ds).events (zNS (zNX (runs ts) ds).events))).length*m)) k:=by
  intro L
  induction L with
  | nil=>intro _ k;exact Nat.le_refl _
  | cons ds L ih =>
   intro hL k
   rw[List.flatMap_cons,List.map_append,List.foldl_append,List.foldl_cons]
   refine Nat.le_trans (ih (fun d hd=>hL d (List.mem_cons_of_mem _ hd)) _) (mono _ _ _ _ ?_)
   have h3:=candsIn_sum (zNX (runs ts) ds) (zOp (zNX (runs ts) ds).events) (fun c=>ordN c*(c.facts.causes c.reads c.wd).length) ((zOi (zNU (zNX (runs ts) ds).events (zNS (zNX (runs ts) ds).events))).length*m) (fun c hc=>by
    have e:=(candsIn_wd hc).1
    unfold ordN
    rw[e]
    exact Nat.mul_le_mul_left _ (Nat.le_trans (causes_len _ _ _) (hL ds (by simp))))
   rw[key]
   omega
 exact main L hfe 0
end Q
namespace P
def rowB (r want:List Int):Bool:=decide (r.length<1000)&&(List.range (want.length / 3)).all fun k=>decide (0≤want.getD (3*k) 0)&&decide (want.getD (3*k) 0<100)&&decide (0≤want.getD (3*k+1) 0)&&decide (want.getD (3*k+1) 0<100)&&decide (4*want.getD (3*k) 0+want.getD (3*k+1) 0<r.length)
def k17p (o:List Int):Bool:=rowB o kn17.2.1&&!zPk o kn17.2.1 4
def k17s:List Thr:=(kernel kn17.1).1
def k17t:List Thr:=(readA (zNR kn17.1 0).1).1
def chunk (ts:List Thr) (j:Nat):List (List Int):=((Q.zOi ((Q.runs ts).map fun r=>(r.length:Int))).drop (32*j)).take 32
end P
end Go.Proofs.YtgceflcbckjjiaaGreatDoor
namespace Go.Proofs.YtgceflcbckjjiaaGreatDoor
set_option maxRecDepth 1000000
theorem zNH:P.srcK P.kn0=true:=by decide +kernel
theorem zNI:P.srcK P.kn1=true:=by decide +kernel
theorem zNJ:P.srcK P.kn2=true:=by decide +kernel
theorem zNK:P.srcK P.kn3=true:=by decide +kernel
theorem zNL:P.srcK P.kn4=true:=by decide +kernel
theorem zNM:P.srcK P.kn5=true:=by decide +kernel
theorem zNN:P.srcK P.kn6=true:=by decide +kernel
theorem zNO:P.srcK P.kn7=true:=by decide +kernel
theorem zNP:P.srcK P.kn8=true:=by decide +kernel
theorem zNQ:P.srcK P.kn9=true:=by decide +kernel
theorem zMV:P.srcK P.kn10=true:=by decide +kernel
theorem zMW:P.srcK P.kn11=true:=by decide +kernel
theorem zMX:P.srcK P.kn12=true:=by decide +kernel
theorem zMY:P.srcK P.kn13=true:=by decide +kernel
theorem zMZ:P.srcK P.kn14=true:=by decide +kernel
theorem zNa:P.srcK P.kn15=true:=by decide +kernel
theorem zNb:P.srcK P.kn16=true:=by decide +kernel
theorem zNc:P.srcK P.kn20=true:=by decide +kernel
theorem zNd:P.srcK P.kn21=true:=by decide +kernel
theorem zNe:P.srcK P.kn22=true:=by decide +kernel
theorem zNf:P.srcK P.kn23=true:=by decide +kernel
theorem zNg:P.srcK P.kn24=true:=by decide +kernel
theorem zNh:P.srcK P.kn25=true:=by decide +kernel
theorem zNi:P.srcK P.kn26=true:=by decide +kernel
theorem zNj:P.srcK P.kn27=true:=by decide +kernel
theorem zNk:P.srcK P.kn28=true:=by decide +kernel
theorem zHF:P.tgtK P.kn0 0=true:=by decide +kernel
theorem zHG:P.tgtK P.kn1 0=true:=by decide +kernel
theorem zHH:P.tgtK P.kn2 0=true:=by decide +kernel
theorem zHI:P.tgtK P.kn3 0=true:=by decide +kernel
theorem zHJ:P.tgtK P.kn4 0=true:=by decide +kernel
theorem zHK:P.tgtK P.kn5 0=true:=by decide +kernel
theorem zHL:P.tgtK P.kn6 0=true:=by decide +kernel
theorem zKB:P.tgtK P.kn7 0=true:=by decide +kernel
theorem zHM:P.tgtK P.kn8 0=true:=by decide +kernel
theorem zKC:P.tgtK P.kn9 0=true:=by decide +kernel
theorem zFF:P.tgtK P.kn10 0=true:=by decide +kernel
theorem zFG:P.tgtK P.kn11 0=true:=by decide +kernel
theorem zFH:P.tgtK P.kn12 0=true:=by decide +kernel
theorem zFI:P.tgtK P.kn13 0=true:=by decide +kernel
theorem zFJ:P.tgtK P.kn14 0=true:=by decide +kernel
theorem zFK:P.tgtK P.kn15 0=true:=by decide +kernel
theorem zJJ:P.tgtK P.kn16 0=true:=by decide +kernel
theorem zKD:P.tgtK P.kn7 1=true:=by decide +kernel
theorem zKE:P.tgtK P.kn9 1=true:=by decide +kernel
theorem zJK:P.tgtK P.kn16 1=true:=by decide +kernel
theorem zNl:P.srcK P.kn18=true:=by decide +kernel
theorem zFL:P.tgtK P.kn18 0=true:=by decide +kernel
theorem zNm:P.srcK P.kn19=true:=by decide +kernel
theorem zFM:P.tgtK P.kn19 0=true:=by decide +kernel
theorem zFN:P.tgtK P.kn20 0=true:=by decide +kernel
theorem zFO:P.tgtK P.kn21 0=true:=by decide +kernel
theorem zFP:P.tgtK P.kn22 0=true:=by decide +kernel
theorem zFQ:P.tgtK P.kn23 0=true:=by decide +kernel
theorem zJL:P.tgtK P.kn24 0=true:=by decide +kernel
theorem zFR:P.tgtK P.kn25 0=true:=by decide +kernel
theorem zFS:P.tgtK P.kn26 0=true:=by decide +kernel
theorem zFT:P.tgtK P.kn27 0=true:=by decide +kernel
theorem zFU:P.tgtK P.kn28 0=true:=by decide +kernel
theorem zJM:P.tgtK P.kn24 1=true:=by decide +kernel
end Go.Proofs.YtgceflcbckjjiaaGreatDoor
