import Derived.Test.YtgceflcbckjjiaaGreatDoorD37
set_option linter.unusedVariables false
set_option linter.unusedSimpArgs false
set_option maxHeartbeats 12800000
namespace Go.Proofs.YtgceflcbckjjiaaGreatDoor
open Go Go.RowKit
set_option maxRecDepth 100000


theorem zDX (a:FA) (f:Q.Facts) (gr:Nat) (rd:List Nat) (gf:Nat) (bf:List Nat) (w:World) (hf:FactsIn w a f) (hr:RelAt w gr a.n rd) (hb:RelAt w gf a.n bf) (pv:Value) (ps:List Int) (hp:zBS w pv ps) (hpl:ps.length=a.n) :
  Calls Tryz.prog 72 #[.agg (zDi a gr gf),pv] w fun e w'=>e=.returned (.bool (f.mayBe rd bf ps))∧Below w.heap.size w w':=by
 cases h1:Q.zKG bf with
 | true =>
  have e:f.mayBe rd bf ps=false:=by simp[Q.Facts.mayBe,h1]
  rw[e];exact zIP a f gr rd gf bf w hf hr hb pv ps hp hpl h1
 | false =>
  cases h2:f.splits (Q.thenR rd (Q.zKy f.events ps)) (Q.zKy f.events ps) with
  | true =>
   have e:f.mayBe rd bf ps=false:=by simp[Q.Facts.mayBe,h1,h2]
   rw[e];exact zIQ a f gr rd gf bf w hf hr hb pv ps hp hpl h1 h2
  | false =>
   cases h3:Q.zKG (Q.thenR bf (Q.zMj rd (Q.zKy f.events ps))) with
   | true =>
    have e:f.mayBe rd bf ps=false:=by simp[Q.Facts.mayBe,h1,h2,h3]
    rw[e];exact zIR a f gr rd gf bf w hf hr hb pv ps hp hpl h1 h2 h3
   | false =>
    have e:f.mayBe rd bf ps=!f.fencesCircle bf (Q.zMj rd (Q.zKy f.events ps)):=by simp[Q.Facts.mayBe,h1,h2,h3]
    rw[e];exact zIS a f gr rd gf bf w hf hr hb pv ps hp hpl h1 h2 h3
theorem zFQ (a:FA) (f:Q.Facts) (gb:Nat) (bf:List Nat) (w:World) (hf:FactsIn w a f) (hb:RelAt w gb a.n bf) :
  Calls Tryz.prog 75 #[.agg (zAn a),.agg #[.slice (some ⟨gb,0,none⟩) a.n a.n]] w fun e w'=>e=.returned (.bool (f.clashes bf))∧Below w.heap.size w w':=by
 have HFE:Hid (f.clashes bf=(List.range a.n).any fun i=>(List.range a.n).any fun k=>f.clashAt bf i k):=by unfold Hid Q.Facts.clashes;rw[hf.len]
 obtain⟨x,c,hev,hx⟩:=hf.form
 have hn64:=hf.n64
 have hln:=hf.len
 obtain⟨n,ev,g1,g2,g3,g4,g5,g6,g7,g8,g9⟩:=a
 simp only at hev hn64 hln hx
 subst hev
 simp only[zAn]
 simp only at HFE hb
 have HEV:=zAa hf.ev
 obtain⟨k0,k1,hsz,hbw⟩:=zCd w #[.slice x n c,.slice (some ⟨g1,0,none⟩) n n,.slice (some ⟨g2,0,none⟩) n n,.slice (some ⟨g3,0,none⟩) n n,.slice (some ⟨g4,0,none⟩) n n,.slice (some ⟨g5,0,none⟩) n n,.slice (some ⟨g6,0,none⟩) n n,.slice (some ⟨g7,0,none⟩) n n,.slice (some ⟨g8,0,none⟩) n n,.slice (some ⟨g9,0,none⟩) n n] #[.slice (some ⟨gb,0,none⟩) n n] 70 68
 have HF:=zAa (hf.below hbw)
 have RB:=zAa (hb.below hbw)
 have BW0:=zAa hbw
 clear hbw hf hb
 go_enter Tryz.func75,Tryz.ntmps75
 go_upto_region 1 with fail
 generalize hE:(w.alloc (.cells #[.slice x n c,.slice (some ⟨g1,0,none⟩) n n,.slice (some ⟨g2,0,none⟩) n n,.slice (some ⟨g3,0,none⟩) n n,.slice (some ⟨g4,0,none⟩) n n,.slice (some ⟨g5,0,none⟩) n n,.slice (some ⟨g6,0,none⟩) n n,.slice (some ⟨g7,0,none⟩) n n,.slice (some ⟨g8,0,none⟩) n n,.slice (some ⟨g9,0,none⟩) n n] 70)).alloc (.cells #[.slice (some ⟨gb,0,none⟩) n n] 68)=W0 at *
 have c00:=ceL k0 0 _ rfl
 obtain⟨c1,f1,l1⟩:=zAo k1
 have l0:w.heap.size<W0.heap.size:=by omega
 have K0:=zAa k0
 clear hE k0 k1 f1
 go_wp2
 go_loopw [12] (fun i wr=>∃ (k:Nat),k≤n∧i=.int .i64 k∧Hid ((List.range k).any (fun i=>(List.range n).any fun k=>f.clashAt bf i k)=false)∧Hid (Below W0.heap.size W0 wr)) (fun i _=>n-(intOf i).toNat)
 case atStart=>exact⟨0,Nat.zero_le _,rfl,by simp[Hid],Below.refl _ _⟩
 case round =>
  obtain⟨k,hk,rfl,HT,HI⟩:=hrel
  have d00:=cfL HI.out l0 c00
  have l0w:=Nat.lt_of_lt_of_le l0 HI.out.size
  by_cases hlt:k<n
  ·have hin:(k:Int)<(n:Int):=by omega
   obtain⟨be,rfl,hbe⟩:=hx (by omega)
   have hbeW:be<W0.heap.size:=by omega
   have HR1:Hid (wr.rangeAt be (k*10) (zAe (Q.ev f.events k)).toList):=zAv (HEV.out.range' hln.symm k (by omega)) ((HI.out.block be hbeW).trans (BW0.out.block be hbe))
   have HTS:=zAa (Q.zKO (fun i=>(List.range n).any fun k=>f.clashAt bf i k) k)
   have HBP:Hid (∀ q,f.clashAt bf k q=(f.mayClash k (Q.ev f.events k) q (Q.ev f.events q)&&!Q.hasR bf k q&&!Q.hasR bf q k)):=fun q=>rfl
   generalize Q.ev f.events k=e1 at *
   have HA1:Hid (zAS (wr.alloc (.cells (zAe e1) 158)) wr.heap.size e1):=zAS.new wr e1
   have HF1:Hid (Below W0.heap.size W0 (wr.alloc (.cells (zAe e1) 158))):=HI.out.alloc HI.out.size _
   go_wp2_with (first | (refine zAg (.tmp 15) rfl rfl be (k*10) e1 rfl HR1.out ?_))
   go_loopw [20] (fun j wq=>∃ (q:Nat),q≤n∧j=.int .i64 q∧Hid ((List.range q).any (fun j=>f.clashAt bf k j)=false)∧Hid (Below W0.heap.size W0 wq)∧Hid (zAS wq wr.heap.size e1)) (fun j _=>n-(intOf j).toNat)
   case atStart=>exact⟨0,Nat.zero_le _,rfl,by simp[Hid],HF1,HA1⟩
   case round =>
    clear d00 HF1 HA1 HR1 l0w
    obtain⟨q,hq,rfl,HU,HJ,HA⟩:=hrel
    by_cases hql:q<n
    ·have hqi:(q:Int)<(n:Int):=by omega
     have HR2:Hid (wr.rangeAt be (q*10) (zAe (Q.ev f.events q)).toList):=zAv (HEV.out.range' hln.symm q (by omega)) ((HJ.out.block be hbeW).trans (BW0.out.block be hbe))
     have HUS:=zAa (Q.zKO (fun j=>f.clashAt bf k j) q)
     have HBQ:=zAa (HBP.out q)
     generalize Q.ev f.events q=e2 at *
     have HF2:Hid (Below W0.heap.size W0 (wr.alloc (.cells (zAe e2) 158))):=HJ.out.alloc HJ.out.size _
     have HA2:=zAa (HA.out.alloc (.cells (zAe e2) 158))
     have HA3:=zAa (zAS.new wr e2)
     have HRB:=zAa (RB.out.below HF2.out)
     have HFF:=zAa (HF.out.below HF2.out)
     have hK0:=(HF2.out.block _ l0).trans K0.out
     have l0v:=Nat.lt_of_lt_of_le l0 HF2.out.size
     have l1v:=Nat.lt_of_lt_of_le l1 HF2.out.size
     have d1:=cfL HF2.out l1 c1
     have dd0:(wr.alloc (.cells (zAe e2) 158)).cell? ⟨w.heap.size,0,none⟩=some (.slice (some ⟨be,0,none⟩) n c):=by simp only[World.cell?,hK0];rfl
     have dd1:(wr.alloc (.cells (zAe e2) 158)).cell? ⟨w.heap.size,1,none⟩=some (.slice (some ⟨g1,0,none⟩) n n):=by simp only[World.cell?,hK0];rfl
     have dd2:(wr.alloc (.cells (zAe e2) 158)).cell? ⟨w.heap.size,2,none⟩=some (.slice (some ⟨g2,0,none⟩) n n):=by simp only[World.cell?,hK0];rfl
     have dd3:(wr.alloc (.cells (zAe e2) 158)).cell? ⟨w.heap.size,3,none⟩=some (.slice (some ⟨g3,0,none⟩) n n):=by simp only[World.cell?,hK0];rfl
     have dd4:(wr.alloc (.cells (zAe e2) 158)).cell? ⟨w.heap.size,4,none⟩=some (.slice (some ⟨g4,0,none⟩) n n):=by simp only[World.cell?,hK0];rfl
     have dd5:(wr.alloc (.cells (zAe e2) 158)).cell? ⟨w.heap.size,5,none⟩=some (.slice (some ⟨g5,0,none⟩) n n):=by simp only[World.cell?,hK0];rfl
     have dd6:(wr.alloc (.cells (zAe e2) 158)).cell? ⟨w.heap.size,6,none⟩=some (.slice (some ⟨g6,0,none⟩) n n):=by simp only[World.cell?,hK0];rfl
     have dd7:(wr.alloc (.cells (zAe e2) 158)).cell? ⟨w.heap.size,7,none⟩=some (.slice (some ⟨g7,0,none⟩) n n):=by simp only[World.cell?,hK0];rfl
     have dd8:(wr.alloc (.cells (zAe e2) 158)).cell? ⟨w.heap.size,8,none⟩=some (.slice (some ⟨g8,0,none⟩) n n):=by simp only[World.cell?,hK0];rfl
     have dd9:(wr.alloc (.cells (zAe e2) 158)).cell? ⟨w.heap.size,9,none⟩=some (.slice (some ⟨g9,0,none⟩) n n):=by simp only[World.cell?,hK0];rfl
     obtain⟨x0,x1,x2,x3,x4,x5,x6,x7,x8,x9,xf,xl⟩:=HA2.out.facts
     obtain⟨y0,y1,y2,y3,y4,y5,y6,y7,y8,y9,yf,yl⟩:=HA3.out.facts
     simp only[zAe] at x0 x1 x2 x3 x4 x5 x6 x7 x8 x9 xf xl y0 y1 y2 y3 y4 y5 y6 y7 y8 y9 yf yl d1 l0v l1v dd0 dd1 dd2 dd3 dd4 dd5 dd6 dd7 dd8 dd9
     clear hK0
     cases z1:f.mayClash k e1 q e2
     ·have HUN:Hid ((List.range (q+1)).any (fun j=>f.clashAt bf k j)=false):=by unfold Hid;rw[HUS.out,HU.out,HBQ.out,z1];rfl
      go_wp2_with (first | (refine zAg (.tmp 23) rfl rfl be (q*10) e2 rfl HR2.out ?_) | (go_at_call 127;refine (zCe (FA.mk n (.slice (some ⟨be,0,none⟩) n c) g1 g2 g3 g4 g5 g6 g7 g8 g9) f k q e1 e2 _ HFF.out).mono ?_;rintro e v1 ⟨rfl,hb1⟩;rw[z1];have B1:Hid (Below W0.heap.size W0 v1):=zAr HF2.out (Nat.le_refl _) hb1;have HA4:=zAa (HA2.out.below hb1);have p1:=cfL B1.out l1 c1;have q1:=Nat.lt_of_lt_of_le l1 B1.out.size))
      go_roundw
      case rel=>exact⟨q+1,by omega,by go_num,HUN,B1,HA4⟩
      case measure=>simp[intOf];omega
     cases z2:Q.hasR bf (k:Int) (q:Int)
     rotate_left
     ·have HUN:Hid ((List.range (q+1)).any (fun j=>f.clashAt bf k j)=false):=by unfold Hid;rw[HUS.out,HU.out,HBQ.out,z1,z2];rfl
      go_wp2_with (first | (refine zAg (.tmp 23) rfl rfl be (q*10) e2 rfl HR2.out ?_) | (go_at_call 127;refine (zCe (FA.mk n (.slice (some ⟨be,0,none⟩) n c) g1 g2 g3 g4 g5 g6 g7 g8 g9) f k q e1 e2 _ HFF.out).mono ?_;rintro e v1 ⟨rfl,hb1⟩;rw[z1];have B1:Hid (Below W0.heap.size W0 v1):=zAr HF2.out (Nat.le_refl _) hb1;have HA4:=zAa (HA2.out.below hb1);have p1:=cfL B1.out l1 c1;have q1:=Nat.lt_of_lt_of_le l1 B1.out.size) | (go_at_call_of 112 (Value.int IntKind.i64 (k:Int));refine (zBR gb n bf (k:Int) (q:Int) _ (HRB.out.below hb1)).mono ?_;rintro e v2 ⟨rfl,hb2⟩;rw[z2];have B2:Hid (Below W0.heap.size W0 v2):=zAr B1.out (Nat.le_refl _) hb2;have HA5:=zAa (HA4.out.below hb2);have p2:=cfL B2.out l1 c1;have q2:=Nat.lt_of_lt_of_le l1 B2.out.size))
      go_roundw
      case rel=>exact⟨q+1,by omega,by go_num,HUN,B2,HA5⟩
      case measure=>simp[intOf];omega
     cases z3:Q.hasR bf (q:Int) (k:Int)
     rotate_left
     ·have HUN:Hid ((List.range (q+1)).any (fun j=>f.clashAt bf k j)=false):=by unfold Hid;rw[HUS.out,HU.out,HBQ.out,z1,z2,z3];rfl
      go_wp2_with (first | (refine zAg (.tmp 23) rfl rfl be (q*10) e2 rfl HR2.out ?_) | (go_at_call 127;refine (zCe (FA.mk n (.slice (some ⟨be,0,none⟩) n c) g1 g2 g3 g4 g5 g6 g7 g8 g9) f k q e1 e2 _ HFF.out).mono ?_;rintro e v1 ⟨rfl,hb1⟩;rw[z1];have B1:Hid (Below W0.heap.size W0 v1):=zAr HF2.out (Nat.le_refl _) hb1;have HA4:=zAa (HA2.out.below hb1);have p1:=cfL B1.out l1 c1;have q1:=Nat.lt_of_lt_of_le l1 B1.out.size) | (go_at_call 112;refine (zBR gb n bf (q:Int) (k:Int) _ ((HRB.out.below hb1).below hb2)).mono ?_;rintro e v3 ⟨rfl,hb3⟩;rw[z3];have B3:Hid (Below W0.heap.size W0 v3):=zAr B2.out (Nat.le_refl _) hb3;have HA6:=zAa (HA5.out.below hb3)) | (go_at_call_of 112 (Value.int IntKind.i64 (k:Int));refine (zBR gb n bf (k:Int) (q:Int) _ (HRB.out.below hb1)).mono ?_;rintro e v2 ⟨rfl,hb2⟩;rw[z2];have B2:Hid (Below W0.heap.size W0 v2):=zAr B1.out (Nat.le_refl _) hb2;have HA5:=zAa (HA4.out.below hb2);have p2:=cfL B2.out l1 c1;have q2:=Nat.lt_of_lt_of_le l1 B2.out.size))
      go_roundw
      case rel=>exact⟨q+1,by omega,by go_num,HUN,B3,HA6⟩
      case measure=>simp[intOf];omega
     ·have HV:Hid (f.clashes bf=true):=by
       unfold Hid
       rw[HFE.out]
       refine Q.zKP _ (k+1) n hlt ?_
       rw[HTS.out,Q.zKP (fun j=>f.clashAt bf k j) (q+1) n hql (by rw[HUS.out,HBQ.out,z1,z2,z3];simp)];simp
      go_wp2_with (first | (refine zAg (.tmp 23) rfl rfl be (q*10) e2 rfl HR2.out ?_) | (go_at_call 127;refine (zCe (FA.mk n (.slice (some ⟨be,0,none⟩) n c) g1 g2 g3 g4 g5 g6 g7 g8 g9) f k q e1 e2 _ HFF.out).mono ?_;rintro e v1 ⟨rfl,hb1⟩;rw[z1];have B1:Hid (Below W0.heap.size W0 v1):=zAr HF2.out (Nat.le_refl _) hb1;have HA4:=zAa (HA2.out.below hb1);have p1:=cfL B1.out l1 c1;have q1:=Nat.lt_of_lt_of_le l1 B1.out.size) | (go_at_call 112;refine (zBR gb n bf (q:Int) (k:Int) _ ((HRB.out.below hb1).below hb2)).mono ?_;rintro e v3 ⟨rfl,hb3⟩;rw[z3];have B3:Hid (Below W0.heap.size W0 v3):=zAr B2.out (Nat.le_refl _) hb3;have HA6:=zAa (HA5.out.below hb3)) | (go_at_call_of 112 (Value.int IntKind.i64 (k:Int));refine (zBR gb n bf (k:Int) (q:Int) _ (HRB.out.below hb1)).mono ?_;rintro e v2 ⟨rfl,hb2⟩;rw[z2];have B2:Hid (Below W0.heap.size W0 v2):=zAr B1.out (Nat.le_refl _) hb2;have HA5:=zAa (HA4.out.below hb2);have p2:=cfL B2.out l1 c1;have q2:=Nat.lt_of_lt_of_le l1 B2.out.size))
      go_ret
      rw[HV.out];exact⟨rfl,zAr BW0.out (Nat.le_refl _) B3.out⟩
    ·have HN2:Hid ((List.range (k+1)).any (fun i=>(List.range n).any fun k=>f.clashAt bf i k)=false):=by
      have h1:=HU.out
      rw[show q=n by omega] at h1
      unfold Hid;rw[HTS.out,HT.out,h1];rfl
     go_wp2
     go_roundw
     case rel=>exact⟨k+1,by omega,by go_num,HN2,HJ⟩
     case measure=>simp[intOf];omega
  ·have hkn:k=n:=by omega
   have HV:Hid (f.clashes bf=false):=by unfold Hid;rw[HFE.out,← hkn];have h1:=HT.out;rw[← hkn] at h1;exact h1
   go_wp2
   go_ret
   rw[HV.out];exact⟨rfl,zAr BW0.out (Nat.le_refl _) HI.out⟩
namespace Q
theorem zMm {α:Type} (F:Ans→α→Ans) (hF:∀ a x,a.rows.length≤(F a x).rows.length):∀ (l:List α) (a:Ans),a.rows.length≤(l.foldl F a).rows.length
 | [],a=>Nat.le_refl _
 | x::l,a=>by rw[List.foldl_cons];exact Nat.le_trans (hF a x) (zMm F hF l _)
theorem srcOrder_rows (wd:Wd) (f:Facts) (rd bf:List Nat) (a:Ans) (ds:List Int):a.rows.length≤(zKC wd f rd bf a ds).rows.length:=by
 unfold zKC;split
 ·exact ins_len _ _
 ·exact Nat.le_refl _
end Q
theorem zIo {w1 W1:World} {gr gb gd:Nat} {rs bs:List Int} (hr:zAt w1 gr rs) (hb:zAt w1 gb bs) (hd:zAt w1 gd (Q.zeros bs.length)) (n1:gr≠gd) (n2:gb≠gd) (hl:bs.length=rs.length)
  (hgo:W1.heap[w1.heap.size]?=some (.cells #[.slice (some ⟨gr,0,none⟩) rs.length rs.length,.slice (some ⟨gb,0,none⟩) bs.length bs.length,.slice (some ⟨gd,0,none⟩) bs.length bs.length,.bool false] 124 (0,0))) (hB:Below w1.heap.size w1 W1):OrdOn W1 w1.heap.size gr gb gd rs bs (Q.zeros bs.length) (Q.zKt bs):=by
 obtain⟨t0,t1,t2,t3,tf,tl⟩:=zCq hgo
 have l1:=hr.lt
 have l2:=hb.lt
 have l3:=hd.lt
 have e:(Q.zeros bs.length).length=bs.length:=by simp[Q.zeros]
 exact⟨t0,hr.below hB,⟨false,⟨t1,by rw[e];exact t2,t3,tf,tl,hb.below hB,hd.below hB,by omega,by omega,n2,e⟩,Or.inl ⟨rfl,rfl,rfl⟩⟩,hl,n1,by omega⟩
def zEq (w W1:World) (g go gr gb gd:Nat) (ov0:Value) (fp0:List Nat) (wd:Q.Wd) (f:Q.Facts) (rd bf:List Nat) (fin:Q.Ans) (wr:World) (n:Nat):Prop :=
 ∃ ds rest a ov vs fp,OrdSt w W1 wr g go gr gb gd ov0 fp0 (Q.zJX wd.events) (Q.zKe wd.events (Q.zJX wd.events)) ds rest a ov vs fp∧rest.foldl (Q.zKC wd f rd bf) a=fin∧rest.length=n
theorem zED (g:Nat) (an:Q.Ans) (ov:Value) (vs:List Value) (fp:List Nat) (ev rg:Value) (wd:Q.Wd) (fa:FA) (f:Q.Facts) (gq:Nat) (rd:List Nat) (gf:Nat) (bf:List Nat) (w:World) (hA:AnsOn w g an ov vs fp) (hw:WdIn w ev rg wd) (hok:Q.WdOk wd) (hf:FactsIn w fa f) (hfe:f.events=wd.events) (hr:RelAt w gq fa.n rd) (hb:RelAt w gf fa.n bf) (hap:∀ k,rg.ownBlock=some k→¬ Wr g ov k) (hfin:(Q.zLq wd f rd bf an).rows.length<100000000) :
  Calls Tryz.prog 37 #[.pointer (some ⟨g,0,none⟩),.agg #[ev,rg],.agg (zDi fa gq gf)] w fun e w'=>e=.returned (.tuple #[])∧∃ ov' vs' fp',AnsOn w' g (Q.zLq wd f rd bf an) ov' vs' fp'∧AFrame (Wr g ov) w w' ov ov' fp fp':=by
 obtain⟨ea,ec,rfl,_⟩:=hw.evs.form
 obtain⟨ra,rc,rfl,_⟩:=hw.regs.form
 obtain⟨x,c,hev,_⟩:=hf.form
 have hnl:fa.n=wd.events.length:=by rw[← hf.len,hfe]
 obtain⟨n,ev,g1,g2,g3,g4,g5,g6,g7,g8,g9⟩:=fa
 simp only at hev hr hb hnl
 subst hev
 simp only[zDi]
 obtain⟨k0,k1,hsz,hbw⟩:=zCd w #[.slice ea wd.events.length ec,.slice ra wd.regs.length rc] #[.slice x n c,.slice (some ⟨g1,0,none⟩) n n,.slice (some ⟨g2,0,none⟩) n n,.slice (some ⟨g3,0,none⟩) n n,.slice (some ⟨g4,0,none⟩) n n,.slice (some ⟨g5,0,none⟩) n n,.slice (some ⟨g6,0,none⟩) n n,.slice (some ⟨g7,0,none⟩) n n,.slice (some ⟨g8,0,none⟩) n n,.slice (some ⟨g9,0,none⟩) n n,.slice (some ⟨gq,0,none⟩) n n,.slice (some ⟨gf,0,none⟩) n n] 65 84
 have HA0:=zAa hA
 have HW0:=zAa hw
 have HF0:=zAa hf
 have HR0:=zAa hr
 have HB0:=zAa hb
 have HWb:=zAa (hw.below hbw)
 have BW0:=zAa hbw
 have HAP:=zAa hap
 have HOK:=zAa hok
 have HFE:=zAa hfe
 have HNL:=zAa hnl
 have HFIN:=zAa hfin
 have hn64:=hok.le
 have lg:=hA.out.lt
 have HOL:=zAa hA.out.ownlt
 have HFPL:=zAa hA.out.fpl
 have HWL:=zAa (Q.writeRows_len wd.events)
 have HBL:=zAa (Q.ordBases_len wd.events (Q.zJX wd.events))
 have HBM:=zAa (Q.ordBases_mem wd.events (Q.zJX wd.events) (by rw[HWL.out];exact hn64))
 have hwl64:(Q.zJX wd.events).length≤64:=by rw[HWL.out];exact hn64
 have hbl64:(Q.zKe wd.events (Q.zJX wd.events)).length<10000:=by rw[HBL.out];omega
 have HFO:Hid ((Q.zKt (Q.zKe wd.events (Q.zJX wd.events))).foldl (Q.zKC wd f rd bf) an=Q.zLq wd f rd bf an):=rfl
 generalize Q.zLq wd f rd bf an=fin at *
 clear hbw hf hr hb hA hw hap hok hfe hnl hfin
 go_enter Tryz.func37,Tryz.ntmps37
 go_upto_region 1 with fail
 generalize hE:(w.alloc (.cells #[.slice ea wd.events.length ec,.slice ra wd.regs.length rc] 65)).alloc (.cells #[.slice x n c,.slice (some ⟨g1,0,none⟩) n n,.slice (some ⟨g2,0,none⟩) n n,.slice (some ⟨g3,0,none⟩) n n,.slice (some ⟨g4,0,none⟩) n n,.slice (some ⟨g5,0,none⟩) n n,.slice (some ⟨g6,0,none⟩) n n,.slice (some ⟨g7,0,none⟩) n n,.slice (some ⟨g8,0,none⟩) n n,.slice (some ⟨g9,0,none⟩) n n,.slice (some ⟨gq,0,none⟩) n n,.slice (some ⟨gf,0,none⟩) n n] 84)=W0 at *
 have l0:w.heap.size<W0.heap.size:=by omega
 have l1:w.heap.size+1<W0.heap.size:=by omega
 have K0:=zAa k0
 have K1:=zAa k1
 have c00:=ceL k0 0 _ rfl
 have c01:=ceL k0 1 _ rfl
 clear hE hsz k0 k1
 go_upto_region 2 with (first
  | (go_at_call 69;refine (zDV _ _ wd.events _ HWb.out.evs ⟨_,_,_,rfl⟩ hn64).mono ?_;rintro e w1 ⟨gr,gb,gd,rfl,hir,hib,hid,hgr,hgb,hgd,hn1,hn2,hb1⟩;have B1:=zAa hb1;have IR:=zAa hir;have IB:=zAa hib;have ID:=zAa hid;clear hir hib hid hb1))
 have S0:Hid ((w1.alloc (.cells #[.slice (some ⟨gr,0,none⟩) (Q.zJX wd.events).length (Q.zJX wd.events).length,.slice (some ⟨gb,0,none⟩) (Q.zKe wd.events (Q.zJX wd.events)).length (Q.zKe wd.events (Q.zJX wd.events)).length,.slice (some ⟨gd,0,none⟩) (Q.zKe wd.events (Q.zJX wd.events)).length (Q.zKe wd.events (Q.zJX wd.events)).length,.bool false] 124)).heap[w1.heap.size]?=some (.cells #[.slice (some ⟨gr,0,none⟩) (Q.zJX wd.events).length (Q.zJX wd.events).length,.slice (some ⟨gb,0,none⟩) (Q.zKe wd.events (Q.zJX wd.events)).length (Q.zKe wd.events (Q.zJX wd.events)).length,.slice (some ⟨gd,0,none⟩) (Q.zKe wd.events (Q.zJX wd.events)).length (Q.zKe wd.events (Q.zJX wd.events)).length,.bool false] 124 (0,0))):=heap_alloc_new w1 _
 have BL:Hid (Below w1.heap.size w1 (w1.alloc (.cells #[.slice (some ⟨gr,0,none⟩) (Q.zJX wd.events).length (Q.zJX wd.events).length,.slice (some ⟨gb,0,none⟩) (Q.zKe wd.events (Q.zJX wd.events)).length (Q.zKe wd.events (Q.zJX wd.events)).length,.slice (some ⟨gd,0,none⟩) (Q.zKe wd.events (Q.zJX wd.events)).length (Q.zKe wd.events (Q.zJX wd.events)).length,.bool false] 124))):=(Below.refl _ _).alloc (Nat.le_refl _) _
 generalize w1.alloc (.cells #[.slice (some ⟨gr,0,none⟩) (Q.zJX wd.events).length (Q.zJX wd.events).length,.slice (some ⟨gb,0,none⟩) (Q.zKe wd.events (Q.zJX wd.events)).length (Q.zKe wd.events (Q.zJX wd.events)).length,.slice (some ⟨gd,0,none⟩) (Q.zKe wd.events (Q.zJX wd.events)).length (Q.zKe wd.events (Q.zJX wd.events)).length,.bool false] 124)=W1 at *
 have hs1:=B1.out.size
 have hs2:=BL.out.size
 have hs3:w1.heap.size<W1.heap.size:=(Array.getElem?_eq_some_iff.1 S0.out).1
 have hl1:=IR.out.lt
 have hl2:=IB.out.lt
 have hl3:=ID.out.lt
 have BWW:Hid (Below w.heap.size w W1):=zAr (zAr BW0.out (Nat.le_refl _) B1.out) (Nat.le_refl _) BL.out
 have INI:Hid (zEq w W1 g w1.heap.size gr gb gd ov fp wd f rd bf fin W1 (Q.zKt (Q.zKe wd.events (Q.zJX wd.events))).length):=⟨_,_,an,ov,vs,fp,⟨⟨lg,HOL.out,HFPL.out,⟨by omega,by omega⟩,⟨by omega,by omega⟩,⟨by omega,by omega⟩,⟨by omega,by omega⟩⟩,AFrame.refl _ _ _ _,zIo IR.out IB.out ID.out hn1 hn2 HBL.out S0.out BL.out,HA0.out.below BWW.out⟩,HFO.out,rfl⟩
 have K0':=zAa ((BL.out.block _ (by omega)).trans ((B1.out.block _ l0).trans K0.out))
 have K1':=zAa ((BL.out.block _ (by omega)).trans ((B1.out.block _ l1).trans K1.out))
 clear K0 K1
 have K0:=K0'
 have K1:=K1'
 have l0':w.heap.size<W1.heap.size:=by omega
 have l1':w.heap.size+1<W1.heap.size:=by omega
 have hgo:w.heap.size+2≤w1.heap.size:=by omega
 have hgd2:w.heap.size+2≤gd:=by omega
 have hrg1:wd.regs.length<1000:=by have:=HOK.out.regs;omega
 clear K0' K1' BL B1 S0 IR IB ID c00 c01 hs1 hs2 hl1 hl2 hl3 hgr hgb hgd
 generalize w1.heap.size=go at *
 clear hs3
 obtain⟨μ,hμ⟩:=zCZ (zEq w W1 g go gr gb gd ov fp wd f rd bf fin)
 have HMU:=zAa hμ
 clear hμ
 go_loopw [] (fun wr=>∃ n,Hid (zEq w W1 g go gr gb gd ov fp wd f rd bf fin wr n)) (fun wr=>μ wr)
 case atStart=>exact⟨_,INI⟩
 case round =>
  obtain⟨hI,hmin⟩:=HMU.out wr (by obtain⟨n,h⟩:=hrel;exact⟨n,h.out⟩)
  clear hrel hmin INI
  obtain⟨ds1,rest1,a1,ov1,vs1,fp1,hST,hFD,hlen⟩:=hI
  have ST:=zAa hST
  have FD:=zAa hFD
  have HL:=zAa hlen
  have hrows:a1.rows.length<100000000:=by
   have:=Q.zMm _ (Q.srcOrder_rows wd f rd bf) rest1 a1
   rw[hFD] at this
   have:=HFIN.out
   omega
  have lgo:=Nat.lt_of_lt_of_le hST.base.go1.2 hST.fr.xf.size
  clear hST hFD hlen
  go_upto_region 3 with (first | (go_at_call 70;refine (zFG go gr gb gd _ _ ds1 rest1 _ ST.out.ord hbl64 HBM.out).mono ?_;rintro e w2 ⟨h1,hT⟩;have HT:=zAa hT;clear hT;rcases h1 with ⟨hr,rfl⟩ | ⟨r,q,hr,rfl,hon,hdo⟩))
  ·go_wp2
   go_end0
   obtain⟨hq1,hq2⟩:=ST.out.tick0 HT.out BWW.out
   have h3:=FD.out
   rw[hr] at h3
   simp only[List.foldl_nil] at h3
   rw[← h3]
   exact⟨rfl,ov1,vs1,fp1,hq1,hq2⟩
  ·have ST2:=zAa (ST.out.tick HT.out hon)
   have HDO:=zAa hdo
   have FD2:Hid (q.foldl (Q.zKC wd f rd bf) (Q.zKC wd f rd bf a1 r)=fin):=by
    have h3:=FD.out
    rw[hr,List.foldl_cons] at h3
    exact h3
   have HL2:Hid (q.length+1=μ wr):=by
    have h3:=HL.out
    rw[hr,List.length_cons] at h3
    exact h3
   have HPW:Hid ((Q.zKp (Q.zJX wd.events) r).length=wd.events.length):=by unfold Hid;rw[Q.zKL,HWL.out]
   have HPL:Hid ((Q.zKp (Q.zJX wd.events) r).length=n):=by unfold Hid;rw[HPW.out,HNL.out]
   have lgo2:go<w2.heap.size:=by rw[HT.out.size];exact lgo
   clear ST FD HL hr hon hdo HT
   cases zm:f.mayBe rd bf (Q.zKp (Q.zJX wd.events) r)
   ·have HSO:Hid (Q.zKC wd f rd bf a1 r=a1):=by unfold Hid Q.zKC;rw[zm];rfl
    go_wp2_with (first
     | (go_at_call 72;refine (zDX (FA.mk n (.slice x n c) g1 g2 g3 g4 g5 g6 g7 g8 g9) f gq rd gf bf _ FI3.out RR3.out RB3.out _ (Q.zKp (Q.zJX wd.events) r) RI3.out HPL.out).mono ?_;rintro e w4 ⟨rfl,hb4⟩;rw[zm];have ST4:=zAa (ST3.out.below hb4);have RI4:=zAa (RI3.out.below hb4);have WI4:=zAa (HW0.out.wr HA0.out HAP.out (ST4.out.done BWW.out).xf.block (ST4.out.done BWW.out).xf.size);have ls4:=Nat.lt_of_lt_of_le l0' ST4.out.fr.xf.size;have kk0:w4.heap[w.heap.size]?=some (.cells #[.slice ea wd.events.length ec,.slice ra wd.regs.length rc] 65 (0,0)):=ST4.out.box _ (by omega) l0' (by omega) (by omega) |>.trans K0.out;have u0:=ceL kk0 0 _ rfl;have u1:=ceL kk0 1 _ rfl;clear kk0;clear hb4)
     | (go_at_call 71;refine (zDg go gr gb gd _ _ r q _ ST2.out.ord HDO.out HBM.out hwl64).mono ?_;rintro e w3 ⟨gp,rfl,hip,hgp,hb3⟩;have ST3:=zAa (ST2.out.below hb3);have RI3:Hid (zBS w3 (.slice (some ⟨gp,0,none⟩) (Q.zJX wd.events).length (Q.zJX wd.events).length) (Q.zKp (Q.zJX wd.events) r)):=(by have h9:=hip.rowI (Q.zJX wd.events).length;rw[Q.zKL] at h9;exact h9);have FI3:=zAa (HF0.out.wr HA0.out (ST3.out.done BWW.out).xf.block);have RR3:=zAa (HR0.out.wr HA0.out (ST3.out.done BWW.out).xf.block);have RB3:=zAa (HB0.out.wr HA0.out (ST3.out.done BWW.out).xf.block);have ls3:=Nat.lt_of_lt_of_le l1' ST3.out.fr.xf.size;have ls3b:=Nat.lt_of_lt_of_le l0' ST3.out.fr.xf.size;have kk1:w3.heap[w.heap.size+1]?=some (.cells #[.slice x n c,.slice (some ⟨g1,0,none⟩) n n,.slice (some ⟨g2,0,none⟩) n n,.slice (some ⟨g3,0,none⟩) n n,.slice (some ⟨g4,0,none⟩) n n,.slice (some ⟨g5,0,none⟩) n n,.slice (some ⟨g6,0,none⟩) n n,.slice (some ⟨g7,0,none⟩) n n,.slice (some ⟨g8,0,none⟩) n n,.slice (some ⟨g9,0,none⟩) n n,.slice (some ⟨gq,0,none⟩) n n,.slice (some ⟨gf,0,none⟩) n n] 84 (0,0)):=ST3.out.box _ (by omega) l1' (by omega) (by omega) |>.trans K1.out;have d0:=ceL kk1 0 _ rfl;have d1:=ceL kk1 1 _ rfl;have d2:=ceL kk1 2 _ rfl;have d3:=ceL kk1 3 _ rfl;have d4:=ceL kk1 4 _ rfl;have d5:=ceL kk1 5 _ rfl;have d6:=ceL kk1 6 _ rfl;have d7:=ceL kk1 7 _ rfl;have d8:=ceL kk1 8 _ rfl;have d9:=ceL kk1 9 _ rfl;have d10:=ceL kk1 10 _ rfl;have d11:=ceL kk1 11 _ rfl;clear kk1;clear hip hb3))
    have hR:zEq w W1 g go gr gb gd ov fp wd f rd bf fin w4 q.length:=⟨r,q,a1,ov1,vs1,fp1,ST4.out,by have h3:=FD2.out;rw[HSO.out] at h3;exact h3,rfl⟩
    go_roundw
    case rel=>exact⟨_,hR⟩
    case measure =>
     have h1:=(HMU.out _ ⟨_,hR⟩).2 _ hR
     have h2:=HL2.out
     omega
   ·cases zc:a1.clash
    ·have HSO:Hid (Q.zKC wd f rd bf a1 r=⟨Q.ins a1.rows (Q.zLK wd (Q.zKp (Q.zJX wd.events) r)),f.clashes bf⟩):=by unfold Hid Q.zKC;rw[zm,zc];rfl
     go_wp2_with (first
      | (go_at_call 75;refine (zFQ (FA.mk n (.slice x n c) g1 g2 g3 g4 g5 g6 g7 g8 g9) f gf bf _ FI6.out RB6.out).mono ?_;rintro e w7 ⟨rfl,hb7⟩;have ST7:=zAa (ST6.out.below hb7);have p7:=ST7.out.ans.clash;simp only[zc] at p7;have lg7:=ST7.out.ans.out.lt;have fz7:=ST7.out.ans.free1;clear hb7)
      | (go_at_call 74;refine (zEo 0 g _ ov1 a1.rows vs1 fp1 (Q.zLK wd (Q.zKp (Q.zJX wd.events) r)) _ ST5.out.ans.out RO5.out ST5.out.ans.ok.rise ST5.out.ans.ok.small (Q.zKF HOK.out _) hrows (Nat.zero_le _) HVO.out).mono ?_;rintro e w6 ⟨rfl,ov6,vs6,fp6,ho6,hof6⟩;have ST6:=zAa (ST5.out.add (Q.zKF HOK.out _) ho6 hof6);have p6:=ST6.out.ans.clash;simp only[zc] at p6;have lg6:=ST6.out.ans.out.lt;have fz6:=ST6.out.ans.free1;have FI6:=zAa (HF0.out.wr HA0.out (ST6.out.done BWW.out).xf.block);have RB6:=zAa (HB0.out.wr HA0.out (ST6.out.done BWW.out).xf.block);have ls6:=Nat.lt_of_lt_of_le l1' ST6.out.fr.xf.size;have kk1:w6.heap[w.heap.size+1]?=some (.cells #[.slice x n c,.slice (some ⟨g1,0,none⟩) n n,.slice (some ⟨g2,0,none⟩) n n,.slice (some ⟨g3,0,none⟩) n n,.slice (some ⟨g4,0,none⟩) n n,.slice (some ⟨g5,0,none⟩) n n,.slice (some ⟨g6,0,none⟩) n n,.slice (some ⟨g7,0,none⟩) n n,.slice (some ⟨g8,0,none⟩) n n,.slice (some ⟨g9,0,none⟩) n n,.slice (some ⟨gq,0,none⟩) n n,.slice (some ⟨gf,0,none⟩) n n] 84 (0,0)):=ST6.out.box _ (by omega) l1' (by omega) (by omega) |>.trans K1.out;have m0:=ceL kk1 0 _ rfl;have m1:=ceL kk1 1 _ rfl;have m2:=ceL kk1 2 _ rfl;have m3:=ceL kk1 3 _ rfl;have m4:=ceL kk1 4 _ rfl;have m5:=ceL kk1 5 _ rfl;have m6:=ceL kk1 6 _ rfl;have m7:=ceL kk1 7 _ rfl;have m8:=ceL kk1 8 _ rfl;have m9:=ceL kk1 9 _ rfl;have m11:=ceL kk1 11 _ rfl;clear kk1;clear ho6 hof6)
      | (go_at_call 73;refine (zDP _ _ _ wd (Q.zKp (Q.zJX wd.events) r) _ WI4.out RI4.out HPW.out hn64 hrg1).mono ?_;rintro e w5 ⟨vo,rfl,hro,hfo,hb5⟩;have ST5:=zAa (ST4.out.below hb5);have HVO:Hid (∀ k,vo.ownBlock=some k→k≠g∧ov1.ownBlock≠some k):=(fun k e=>⟨fun e2=>by have:=hfo k e;have:=ST4.out.ans.out.lt;omega,fun e2=>by have:=hfo k e;have:=ST4.out.ans.out.ownlt k e2;omega⟩);have RO5:=zAa hro;obtain⟨va,vc,hvo,_⟩:=hro.form;subst hvo;have lg5:=ST5.out.ans.out.lt;clear hro hfo hb5)
      | (go_at_call 72;refine (zDX (FA.mk n (.slice x n c) g1 g2 g3 g4 g5 g6 g7 g8 g9) f gq rd gf bf _ FI3.out RR3.out RB3.out _ (Q.zKp (Q.zJX wd.events) r) RI3.out HPL.out).mono ?_;rintro e w4 ⟨rfl,hb4⟩;rw[zm];have ST4:=zAa (ST3.out.below hb4);have RI4:=zAa (RI3.out.below hb4);have WI4:=zAa (HW0.out.wr HA0.out HAP.out (ST4.out.done BWW.out).xf.block (ST4.out.done BWW.out).xf.size);have ls4:=Nat.lt_of_lt_of_le l0' ST4.out.fr.xf.size;have kk0:w4.heap[w.heap.size]?=some (.cells #[.slice ea wd.events.length ec,.slice ra wd.regs.length rc] 65 (0,0)):=ST4.out.box _ (by omega) l0' (by omega) (by omega) |>.trans K0.out;have u0:=ceL kk0 0 _ rfl;have u1:=ceL kk0 1 _ rfl;clear kk0;clear hb4)
      | (go_at_call 71;refine (zDg go gr gb gd _ _ r q _ ST2.out.ord HDO.out HBM.out hwl64).mono ?_;rintro e w3 ⟨gp,rfl,hip,hgp,hb3⟩;have ST3:=zAa (ST2.out.below hb3);have RI3:Hid (zBS w3 (.slice (some ⟨gp,0,none⟩) (Q.zJX wd.events).length (Q.zJX wd.events).length) (Q.zKp (Q.zJX wd.events) r)):=(by have h9:=hip.rowI (Q.zJX wd.events).length;rw[Q.zKL] at h9;exact h9);have FI3:=zAa (HF0.out.wr HA0.out (ST3.out.done BWW.out).xf.block);have RR3:=zAa (HR0.out.wr HA0.out (ST3.out.done BWW.out).xf.block);have RB3:=zAa (HB0.out.wr HA0.out (ST3.out.done BWW.out).xf.block);have ls3:=Nat.lt_of_lt_of_le l1' ST3.out.fr.xf.size;have ls3b:=Nat.lt_of_lt_of_le l0' ST3.out.fr.xf.size;have kk1:w3.heap[w.heap.size+1]?=some (.cells #[.slice x n c,.slice (some ⟨g1,0,none⟩) n n,.slice (some ⟨g2,0,none⟩) n n,.slice (some ⟨g3,0,none⟩) n n,.slice (some ⟨g4,0,none⟩) n n,.slice (some ⟨g5,0,none⟩) n n,.slice (some ⟨g6,0,none⟩) n n,.slice (some ⟨g7,0,none⟩) n n,.slice (some ⟨g8,0,none⟩) n n,.slice (some ⟨g9,0,none⟩) n n,.slice (some ⟨gq,0,none⟩) n n,.slice (some ⟨gf,0,none⟩) n n] 84 (0,0)):=ST3.out.box _ (by omega) l1' (by omega) (by omega) |>.trans K1.out;have d0:=ceL kk1 0 _ rfl;have d1:=ceL kk1 1 _ rfl;have d2:=ceL kk1 2 _ rfl;have d3:=ceL kk1 3 _ rfl;have d4:=ceL kk1 4 _ rfl;have d5:=ceL kk1 5 _ rfl;have d6:=ceL kk1 6 _ rfl;have d7:=ceL kk1 7 _ rfl;have d8:=ceL kk1 8 _ rfl;have d9:=ceL kk1 9 _ rfl;have d10:=ceL kk1 10 _ rfl;have d11:=ceL kk1 11 _ rfl;clear kk1;clear hip hb3))
     have hR:zEq w W1 g go gr gb gd ov fp wd f rd bf fin (w7.setCell ⟨g,1,none⟩ (.bool (f.clashes bf))) q.length:=⟨r,q,_,_,_,_,ST7.out.setClash (f.clashes bf),by have h3:=FD2.out;rw[HSO.out] at h3;exact h3,rfl⟩
     go_roundw
     case rel=>exact⟨_,hR⟩
     case measure =>
      have h1:=(HMU.out _ ⟨_,hR⟩).2 _ hR
      have h2:=HL2.out
      omega
    ·have HSO:Hid (Q.zKC wd f rd bf a1 r=⟨Q.ins a1.rows (Q.zLK wd (Q.zKp (Q.zJX wd.events) r)),true⟩):=by unfold Hid Q.zKC;rw[zm,zc];rfl
     go_wp2_with (first
      | (go_at_call 74;refine (zEo 0 g _ ov1 a1.rows vs1 fp1 (Q.zLK wd (Q.zKp (Q.zJX wd.events) r)) _ ST5.out.ans.out RO5.out ST5.out.ans.ok.rise ST5.out.ans.ok.small (Q.zKF HOK.out _) hrows (Nat.zero_le _) HVO.out).mono ?_;rintro e w6 ⟨rfl,ov6,vs6,fp6,ho6,hof6⟩;have ST6:=zAa (ST5.out.add (Q.zKF HOK.out _) ho6 hof6);have p6:=ST6.out.ans.clash;simp only[zc] at p6;have lg6:=ST6.out.ans.out.lt;have fz6:=ST6.out.ans.free1;have FI6:=zAa (HF0.out.wr HA0.out (ST6.out.done BWW.out).xf.block);have RB6:=zAa (HB0.out.wr HA0.out (ST6.out.done BWW.out).xf.block);have ls6:=Nat.lt_of_lt_of_le l1' ST6.out.fr.xf.size;have kk1:w6.heap[w.heap.size+1]?=some (.cells #[.slice x n c,.slice (some ⟨g1,0,none⟩) n n,.slice (some ⟨g2,0,none⟩) n n,.slice (some ⟨g3,0,none⟩) n n,.slice (some ⟨g4,0,none⟩) n n,.slice (some ⟨g5,0,none⟩) n n,.slice (some ⟨g6,0,none⟩) n n,.slice (some ⟨g7,0,none⟩) n n,.slice (some ⟨g8,0,none⟩) n n,.slice (some ⟨g9,0,none⟩) n n,.slice (some ⟨gq,0,none⟩) n n,.slice (some ⟨gf,0,none⟩) n n] 84 (0,0)):=ST6.out.box _ (by omega) l1' (by omega) (by omega) |>.trans K1.out;have m0:=ceL kk1 0 _ rfl;have m1:=ceL kk1 1 _ rfl;have m2:=ceL kk1 2 _ rfl;have m3:=ceL kk1 3 _ rfl;have m4:=ceL kk1 4 _ rfl;have m5:=ceL kk1 5 _ rfl;have m6:=ceL kk1 6 _ rfl;have m7:=ceL kk1 7 _ rfl;have m8:=ceL kk1 8 _ rfl;have m9:=ceL kk1 9 _ rfl;have m11:=ceL kk1 11 _ rfl;clear kk1;clear ho6 hof6)
      | (go_at_call 73;refine (zDP _ _ _ wd (Q.zKp (Q.zJX wd.events) r) _ WI4.out RI4.out HPW.out hn64 hrg1).mono ?_;rintro e w5 ⟨vo,rfl,hro,hfo,hb5⟩;have ST5:=zAa (ST4.out.below hb5);have HVO:Hid (∀ k,vo.ownBlock=some k→k≠g∧ov1.ownBlock≠some k):=(fun k e=>⟨fun e2=>by have:=hfo k e;have:=ST4.out.ans.out.lt;omega,fun e2=>by have:=hfo k e;have:=ST4.out.ans.out.ownlt k e2;omega⟩);have RO5:=zAa hro;obtain⟨va,vc,hvo,_⟩:=hro.form;subst hvo;have lg5:=ST5.out.ans.out.lt;clear hro hfo hb5)
      | (go_at_call 72;refine (zDX (FA.mk n (.slice x n c) g1 g2 g3 g4 g5 g6 g7 g8 g9) f gq rd gf bf _ FI3.out RR3.out RB3.out _ (Q.zKp (Q.zJX wd.events) r) RI3.out HPL.out).mono ?_;rintro e w4 ⟨rfl,hb4⟩;rw[zm];have ST4:=zAa (ST3.out.below hb4);have RI4:=zAa (RI3.out.below hb4);have WI4:=zAa (HW0.out.wr HA0.out HAP.out (ST4.out.done BWW.out).xf.block (ST4.out.done BWW.out).xf.size);have ls4:=Nat.lt_of_lt_of_le l0' ST4.out.fr.xf.size;have kk0:w4.heap[w.heap.size]?=some (.cells #[.slice ea wd.events.length ec,.slice ra wd.regs.length rc] 65 (0,0)):=ST4.out.box _ (by omega) l0' (by omega) (by omega) |>.trans K0.out;have u0:=ceL kk0 0 _ rfl;have u1:=ceL kk0 1 _ rfl;clear kk0;clear hb4)
      | (go_at_call 71;refine (zDg go gr gb gd _ _ r q _ ST2.out.ord HDO.out HBM.out hwl64).mono ?_;rintro e w3 ⟨gp,rfl,hip,hgp,hb3⟩;have ST3:=zAa (ST2.out.below hb3);have RI3:Hid (zBS w3 (.slice (some ⟨gp,0,none⟩) (Q.zJX wd.events).length (Q.zJX wd.events).length) (Q.zKp (Q.zJX wd.events) r)):=(by have h9:=hip.rowI (Q.zJX wd.events).length;rw[Q.zKL] at h9;exact h9);have FI3:=zAa (HF0.out.wr HA0.out (ST3.out.done BWW.out).xf.block);have RR3:=zAa (HR0.out.wr HA0.out (ST3.out.done BWW.out).xf.block);have RB3:=zAa (HB0.out.wr HA0.out (ST3.out.done BWW.out).xf.block);have ls3:=Nat.lt_of_lt_of_le l1' ST3.out.fr.xf.size;have ls3b:=Nat.lt_of_lt_of_le l0' ST3.out.fr.xf.size;have kk1:w3.heap[w.heap.size+1]?=some (.cells #[.slice x n c,.slice (some ⟨g1,0,none⟩) n n,.slice (some ⟨g2,0,none⟩) n n,.slice (some ⟨g3,0,none⟩) n n,.slice (some ⟨g4,0,none⟩) n n,.slice (some ⟨g5,0,none⟩) n n,.slice (some ⟨g6,0,none⟩) n n,.slice (some ⟨g7,0,none⟩) n n,.slice (some ⟨g8,0,none⟩) n n,.slice (some ⟨g9,0,none⟩) n n,.slice (some ⟨gq,0,none⟩) n n,.slice (some ⟨gf,0,none⟩) n n] 84 (0,0)):=ST3.out.box _ (by omega) l1' (by omega) (by omega) |>.trans K1.out;have d0:=ceL kk1 0 _ rfl;have d1:=ceL kk1 1 _ rfl;have d2:=ceL kk1 2 _ rfl;have d3:=ceL kk1 3 _ rfl;have d4:=ceL kk1 4 _ rfl;have d5:=ceL kk1 5 _ rfl;have d6:=ceL kk1 6 _ rfl;have d7:=ceL kk1 7 _ rfl;have d8:=ceL kk1 8 _ rfl;have d9:=ceL kk1 9 _ rfl;have d10:=ceL kk1 10 _ rfl;have d11:=ceL kk1 11 _ rfl;clear kk1;clear hip hb3))
     have hR:zEq w W1 g go gr gb gd ov fp wd f rd bf fin w6 q.length:=⟨r,q,_,_,_,_,ST6.out,by have h3:=FD2.out;rw[HSO.out] at h3;rw[zc];exact h3,rfl⟩
     go_roundw
     case rel=>exact⟨_,hR⟩
     case measure =>
      have h1:=(HMU.out _ ⟨_,hR⟩).2 _ hR
      have h2:=HL2.out
      omega
end Go.Proofs.YtgceflcbckjjiaaGreatDoor
