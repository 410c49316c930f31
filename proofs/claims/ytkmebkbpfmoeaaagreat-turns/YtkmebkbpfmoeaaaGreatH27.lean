import Derived.Test.YtkmebkbpfmoeaaaGreatH26
set_option linter.unusedVariables false
set_option linter.unusedSimpArgs false
set_option maxHeartbeats 12800000
namespace Go.Proofs.YtkmebkbpfmoeaaaGreat
open Go Go.RowKit
set_option maxRecDepth 100000
theorem zHi (i k:Nat):((k:Int)==(i:Int)-1)=(k+1==i):=by
 by_cases h:k+1=i
 ·have h':(k:Int)=(i:Int)-1:=by omega
  rw[beq_iff_eq.2 h',beq_iff_eq.2 h]
 ·have h':¬ ((k:Int)=(i:Int)-1):=by omega
  rw[beq_eq_false_iff_ne.2 h',beq_eq_false_iff_ne.2 h]
theorem zHX (i k:Nat):((i:Int) != (k:Int))=(i != k):=by
 have:=zFh i k
 unfold bne at *;rw[this];simp
theorem zHw (i k:Nat):((i:Int)==(k:Int))=(i==k):=by
 have:=zFh i k
 rw[this];unfold bne;simp
theorem zHj (B fb:Nat) (a:FA) (f:Q.Facts) (i k:Nat) (e1 e2:Q.Ev) (w:World) (hm:FactsMem w fb a f) (hB:B≤w.heap.size) (hBg:∀ g∈[a.g1,a.g2,a.g3,a.g4,a.g5,a.g6,a.g7,a.g8,a.g9],B≤g) (hh:e1.hangs<Q.M64) (hi:i<1000) (hk:k<1000) :
  Calls Tryz.prog 105 #[.pointer (some ⟨fb,0,none⟩),.int .i64 (i:Int),.agg (zAb e1),.int .i64 (k:Int),.agg (zAb e2)] w fun e w'=>e=.returned (.tuple #[])∧FactsMem w' fb a (f.pair i e1 k e2)∧Below B w w'∧∀ g e,zAQ w g e→zAQ w' g e:=by
 obtain⟨x,c,hev,hx⟩:=hm.fin.form
 obtain⟨n,ev,g1,g2,g3,g4,g5,g6,g7,g8,g9⟩:=a
 simp only at hev hBg
 subst hev
 simp only[List.mem_cons,List.mem_nil_iff,or_false,forall_eq_or_imp,forall_eq] at hBg
 obtain⟨hB1,hB2,hB3,hB4,hB5,hB6,hB7,hB8,hB9⟩:=hBg
 obtain⟨k0,k1,hsz,hbw⟩:=zBM w (zAb e1) (zAb e2) 129 129
 have hfl:fb<w.heap.size:=(Array.getElem?_eq_some_iff.1 hm.box).1
 have P0:Hid (PS B w _ fb (FA.mk n (.slice x n c) g1 g2 g3 g4 g5 g6 g7 g8 g9) f w.heap.size (w.heap.size+1) e1 e2):=⟨hm.below hbw,hbw.mono hB,k0,k1,fun g e he=>he.below hbw⟩
 clear hm hbw k0 k1 hsz hx
 simp only[zAb] at *
 go_enter Tryz.func105,Tryz.ntmps105
 go_upto_region 1 with fail
 generalize hE:(w.alloc (.cells #[.int .i64 e1.kind,.int .i64 e1.thread,.int .i64 e1.block,.int .i64 e1.var,.int .i64 e1.value,.int .i64 e1.order,.int .i64 e1.scope,.int .i64 e1.bars,.bool e1.step,.int .u64 (e1.hangs:Nat)] 129)).alloc (.cells #[.int .i64 e2.kind,.int .i64 e2.thread,.int .i64 e2.block,.int .i64 e2.var,.int .i64 e2.value,.int .i64 e2.order,.int .i64 e2.scope,.int .i64 e2.bars,.bool e2.step,.int .u64 (e2.hangs:Nat)] 129)=W0 at *
 clear hE
 obtain⟨x0,x1,x2,x3,x4,x5,x6,x7,x8,x9,xf,xl⟩:=P0.out.v1.facts
 obtain⟨y0,y1,y2,y3,y4,y5,y6,y7,y8,y9,yf,yl⟩:=P0.out.v2.facts
 go_cut [10] from 11 to 15 (fun s wx=>∃ ba,s=.bool ba∧Hid (ba=Q.zIo i e1 k e2)∧Hid (PS B w wx fb (FA.mk n (.slice x n c) g1 g2 g3 g4 g5 g6 g7 g8 g9) f w.heap.size (w.heap.size+1) e1 e2))
 case first =>
  go_wp2_with (first | (go_at_call 123;refine (zEL (i:Int) (k:Int) e1 e2 _).mono ?_;rintro e v1 ⟨rfl,hb1⟩;have P1:=zAa (P0.out.below hb1 hB);clear x0 x1 x2 x3 x4 x5 x6 x7 x8 x9 xf xl y0 y1 y2 y3 y4 y5 y6 y7 y8 y9 yf yl;obtain⟨x0,x1,x2,x3,x4,x5,x6,x7,x8,x9,xf,xl⟩:=P1.out.v1.facts;obtain⟨y0,y1,y2,y3,y4,y5,y6,y7,y8,y9,yf,yl⟩:=P1.out.v2.facts))
  go_meet
  case rel=>exact⟨_,rfl,rfl,P1⟩
 case rest =>
 obtain⟨ba,rfl,HBA,HP⟩:=hcut
 clear x0 x1 x2 x3 x4 x5 x6 x7 x8 x9 xf xl y0 y1 y2 y3 y4 y5 y6 y7 y8 y9 yf yl P0
 clear hfl
 go_upto_if 16 with fail
 go_cut [] from 17 to 22 (fun wx=>Hid (PS B w wx fb (FA.mk n (.slice x n c) g1 g2 g3 g4 g5 g6 g7 g8 g9) ({ f with ahead:=Q.addIf (Q.zIo i e1 k e2) f.ahead i k }:Q.Facts) w.heap.size (w.heap.size+1) e1 e2))
 case first =>
  have hgx:=HP.out.mem.box
  have hfl:=(Array.getElem?_eq_some_iff.1 hgx).1
  clear hgx
  have HBQ:=HBA
  cases ba
  ·have zq:=HBQ.out.symm
   have HN:Hid (PS B w wc fb (FA.mk n (.slice x n c) g1 g2 g3 g4 g5 g6 g7 g8 g9) ({ f with ahead:=Q.addIf (Q.zIo i e1 k e2) f.ahead i k }:Q.Facts) w.heap.size (w.heap.size+1) e1 e2):=by unfold Hid;simpa [Q.addIf,zq] using HP.out
   go_wp2
   go_meet
   case rel=>exact HN
  ·have zq:=HBQ.out.symm
   go_wp2_with (first | (go_at_call 73;refine (zBw fb 1 g1 n _ (i:Int) (k:Int) _ HP.out.mem.rel1 HP.out.mem.fin.r1.fits).mono ?_;rintro e v9 ⟨rfl,hs9,hg9⟩;have P9:=zAa (HP.out.add1 hB hB1 i k hs9 hg9)))
   have HN:Hid (PS B w v9 fb (FA.mk n (.slice x n c) g1 g2 g3 g4 g5 g6 g7 g8 g9) ({ f with ahead:=Q.addIf (Q.zIo i e1 k e2) f.ahead i k }:Q.Facts) w.heap.size (w.heap.size+1) e1 e2):=by unfold Hid;simpa [Q.addIf,zq] using P9.out
   go_meet
   case rel=>exact HN
 case rest =>
 have HP2:=hcut
 clear HP hcut
 have HP:=HP2
 clear HP2
 go_upto_region 4 with fail
 go_cut [38] from 23 to 37 (fun s wx=>∃ bq,s=.bool bq∧Hid (bq=Q.isRow i e1 k e2)∧Hid (PS B w wx fb (FA.mk n (.slice x n c) g1 g2 g3 g4 g5 g6 g7 g8 g9) ({ f with ahead:=Q.addIf (Q.zIo i e1 k e2) f.ahead i k }:Q.Facts) w.heap.size (w.heap.size+1) e1 e2))
 case first =>
  have HQ:=HP
  obtain⟨x0,x1,x2,x3,x4,x5,x6,x7,x8,x9,xf,xl⟩:=HP.out.v1.facts
  obtain⟨y0,y1,y2,y3,y4,y5,y6,y7,y8,y9,yf,yl⟩:=HP.out.v2.facts
  have HC:Hid (Q.isRow i e1 k e2=(Q.zIo i e1 k e2&&Q.zIY e1&&Q.zIY e2&&e1.var==e2.var)):=rfl
  cases ba<;>cases zb:(Q.zIY e1)<;>cases zc:(Q.zIY e2)<;>cases zd:(e1.var==e2.var)
  all_goals
   go_wp2_with (first | (go_at_call_of 111 (Value.agg #[.int .i64 e1.kind,.int .i64 e1.thread,.int .i64 e1.block,.int .i64 e1.var,.int .i64 e1.value,.int .i64 e1.order,.int .i64 e1.scope,.int .i64 e1.bars,.bool e1.step,.int .u64 (e1.hangs:Nat)]);refine (zCI e1 _).mono ?_;rintro e v1 ⟨rfl,hb1⟩;rw[zb];have P1:=zAa (HQ.out.below hb1 hB);clear x0 x1 x2 x3 x4 x5 x6 x7 x8 x9 xf xl y0 y1 y2 y3 y4 y5 y6 y7 y8 y9 yf yl;obtain⟨x0,x1,x2,x3,x4,x5,x6,x7,x8,x9,xf,xl⟩:=P1.out.v1.facts;obtain⟨y0,y1,y2,y3,y4,y5,y6,y7,y8,y9,yf,yl⟩:=P1.out.v2.facts) | (go_at_call_of 111 (Value.agg #[.int .i64 e2.kind,.int .i64 e2.thread,.int .i64 e2.block,.int .i64 e2.var,.int .i64 e2.value,.int .i64 e2.order,.int .i64 e2.scope,.int .i64 e2.bars,.bool e2.step,.int .u64 (e2.hangs:Nat)]);refine (zCI e2 _).mono ?_;rintro e v2 ⟨rfl,hb2⟩;rw[zc];have P2:=zAa (P1.out.below hb2 hB);clear x0 x1 x2 x3 x4 x5 x6 x7 x8 x9 xf xl y0 y1 y2 y3 y4 y5 y6 y7 y8 y9 yf yl;obtain⟨x0,x1,x2,x3,x4,x5,x6,x7,x8,x9,xf,xl⟩:=P2.out.v1.facts;obtain⟨y0,y1,y2,y3,y4,y5,y6,y7,y8,y9,yf,yl⟩:=P2.out.v2.facts))
   go_meet
   case rel=>refine⟨_,rfl,(by unfold Hid;rw[HC.out,← HBA.out,zb,zc,zd];rfl),?_⟩;first | exact P2 | exact P1 | exact HQ
 case rest =>
 obtain⟨bq,rfl,HBQ,HP2⟩:=hcut
 clear HP
 have HP:=HP2
 clear HP2
 go_upto_if 38 with fail
 go_cut [] from 39 to 44 (fun wx=>Hid (PS B w wx fb (FA.mk n (.slice x n c) g1 g2 g3 g4 g5 g6 g7 g8 g9) ({ f with ahead:=Q.addIf (Q.zIo i e1 k e2) f.ahead i k,rows:=Q.addIf (Q.isRow i e1 k e2) f.rows i k }:Q.Facts) w.heap.size (w.heap.size+1) e1 e2))
 case first =>
  have hgx:=HP.out.mem.box
  have hfl:=(Array.getElem?_eq_some_iff.1 hgx).1
  clear hgx
  cases bq
  ·have zq:=HBQ.out.symm
   have HN:Hid (PS B w wc fb (FA.mk n (.slice x n c) g1 g2 g3 g4 g5 g6 g7 g8 g9) ({ f with ahead:=Q.addIf (Q.zIo i e1 k e2) f.ahead i k,rows:=Q.addIf (Q.isRow i e1 k e2) f.rows i k }:Q.Facts) w.heap.size (w.heap.size+1) e1 e2):=by unfold Hid;simpa [Q.addIf,zq] using HP.out
   go_wp2
   go_meet
   case rel=>exact HN
  ·have zq:=HBQ.out.symm
   go_wp2_with (first | (go_at_call 73;refine (zBw fb 5 g5 n _ (i:Int) (k:Int) _ HP.out.mem.rel5 HP.out.mem.fin.r5.fits).mono ?_;rintro e v9 ⟨rfl,hs9,hg9⟩;have P9:=zAa (HP.out.add5 hB hB5 i k hs9 hg9)))
   have HN:Hid (PS B w v9 fb (FA.mk n (.slice x n c) g1 g2 g3 g4 g5 g6 g7 g8 g9) ({ f with ahead:=Q.addIf (Q.zIo i e1 k e2) f.ahead i k,rows:=Q.addIf (Q.isRow i e1 k e2) f.rows i k }:Q.Facts) w.heap.size (w.heap.size+1) e1 e2):=by unfold Hid;simpa [Q.addIf,zq] using P9.out
   go_meet
   case rel=>exact HN
 case rest =>
 have HP2:=hcut
 clear HP hcut HBQ
 have HP:=HP2
 clear HP2
 go_upto_region 6 with fail
 go_cut [52] from 45 to 51 (fun s wx=>∃ bq,s=.bool bq∧Hid (bq=Q.zIs i e1 k e2)∧Hid (PS B w wx fb (FA.mk n (.slice x n c) g1 g2 g3 g4 g5 g6 g7 g8 g9) ({ f with ahead:=Q.addIf (Q.zIo i e1 k e2) f.ahead i k,rows:=Q.addIf (Q.isRow i e1 k e2) f.rows i k }:Q.Facts) w.heap.size (w.heap.size+1) e1 e2))
 case first =>
  have HQ:=HP
  obtain⟨x0,x1,x2,x3,x4,x5,x6,x7,x8,x9,xf,xl⟩:=HP.out.v1.facts
  obtain⟨y0,y1,y2,y3,y4,y5,y6,y7,y8,y9,yf,yl⟩:=HP.out.v2.facts
  have HC:Hid (Q.zIs i e1 k e2=(i != k&&Q.strong e1 e2)):=rfl
  have zz:=zHX i k
  cases za:(i != k)<;>cases zb:(Q.strong e1 e2)
  all_goals
   rw[za] at zz
   go_wp2_with (first | (go_at_call 124;refine (zFS e1 e2 _).mono ?_;rintro e v1 ⟨rfl,hb1⟩;rw[zb];have P1:=zAa (HQ.out.below hb1 hB);clear x0 x1 x2 x3 x4 x5 x6 x7 x8 x9 xf xl y0 y1 y2 y3 y4 y5 y6 y7 y8 y9 yf yl;obtain⟨x0,x1,x2,x3,x4,x5,x6,x7,x8,x9,xf,xl⟩:=P1.out.v1.facts;obtain⟨y0,y1,y2,y3,y4,y5,y6,y7,y8,y9,yf,yl⟩:=P1.out.v2.facts))
   go_meet
   case rel=>refine⟨_,rfl,(by unfold Hid;rw[HC.out,za,zb];rfl),?_⟩;first | exact P2 | exact P1 | exact HQ
 case rest =>
 obtain⟨bq,rfl,HBQ,HP2⟩:=hcut
 clear HP
 have HP:=HP2
 clear HP2
 go_upto_if 52 with fail
 go_cut [] from 53 to 70 (fun wx=>Hid (PS B w wx fb (FA.mk n (.slice x n c) g1 g2 g3 g4 g5 g6 g7 g8 g9) ({ f with ahead:=Q.addIf (Q.zIo i e1 k e2) f.ahead i k,rows:=Q.addIf (Q.isRow i e1 k e2) f.rows i k,strong:=Q.addIf (Q.zIs i e1 k e2) f.strong i k,fences:=Q.addIf (Q.zIq i e1 k e2) f.fences i k }:Q.Facts) w.heap.size (w.heap.size+1) e1 e2))
 case first =>
  have hgx:=HP.out.mem.box
  have hfl:=(Array.getElem?_eq_some_iff.1 hgx).1
  clear hgx
  cases bq
  ·have zq:=HBQ.out.symm
   have HFC:Hid (Q.zIq i e1 k e2=false):=by unfold Hid Q.zIq;have h1:(i != k&&Q.strong e1 e2)=false:=zq;rw[h1];rfl
   have HN:Hid (PS B w wc fb (FA.mk n (.slice x n c) g1 g2 g3 g4 g5 g6 g7 g8 g9) ({ f with ahead:=Q.addIf (Q.zIo i e1 k e2) f.ahead i k,rows:=Q.addIf (Q.isRow i e1 k e2) f.rows i k,strong:=Q.addIf (Q.zIs i e1 k e2) f.strong i k,fences:=Q.addIf (Q.zIq i e1 k e2) f.fences i k }:Q.Facts) w.heap.size (w.heap.size+1) e1 e2):=by unfold Hid;simpa [Q.addIf,zq,HFC.out] using HP.out
   go_wp2
   go_meet
   case rel=>exact HN
  ·have zq:=HBQ.out.symm
   have HFC:Hid (Q.zIq i e1 k e2=(Q.isSC e1&&Q.isSC e2)):=by unfold Hid Q.zIq;have h1:(i != k&&Q.strong e1 e2)=true:=zq;rw[h1];rfl
   cases zf:Q.isSC e1<;>cases zg:Q.isSC e2
   all_goals
    go_wp2_with (first | (go_at_call_of 73 (Value.pointer (some ⟨fb,2,none⟩));refine (zBw fb 2 g2 n _ (i:Int) (k:Int) _ HP.out.mem.rel2 HP.out.mem.fin.r2.fits).mono ?_;rintro e v9 ⟨rfl,hs9,hg9⟩;have P9:=zAa (HP.out.add2 hB hB2 i k hs9 hg9);obtain⟨x0,x1,x2,x3,x4,x5,x6,x7,x8,x9,xf,xl⟩:=P9.out.v1.facts;obtain⟨y0,y1,y2,y3,y4,y5,y6,y7,y8,y9,yf,yl⟩:=P9.out.v2.facts) | (go_at_call_of 125 (Value.agg #[.int .i64 e1.kind,.int .i64 e1.thread,.int .i64 e1.block,.int .i64 e1.var,.int .i64 e1.value,.int .i64 e1.order,.int .i64 e1.scope,.int .i64 e1.bars,.bool e1.step,.int .u64 (e1.hangs:Nat)]);refine (zFr e1 _).mono ?_;rintro e v7 ⟨rfl,hb7⟩;rw[zf];have P7:=zAa (P9.out.below hb7 hB);clear x0 x1 x2 x3 x4 x5 x6 x7 x8 x9 xf xl y0 y1 y2 y3 y4 y5 y6 y7 y8 y9 yf yl;obtain⟨x0,x1,x2,x3,x4,x5,x6,x7,x8,x9,xf,xl⟩:=P7.out.v1.facts;obtain⟨y0,y1,y2,y3,y4,y5,y6,y7,y8,y9,yf,yl⟩:=P7.out.v2.facts) | (go_at_call_of 125 (Value.agg #[.int .i64 e2.kind,.int .i64 e2.thread,.int .i64 e2.block,.int .i64 e2.var,.int .i64 e2.value,.int .i64 e2.order,.int .i64 e2.scope,.int .i64 e2.bars,.bool e2.step,.int .u64 (e2.hangs:Nat)]);refine (zFr e2 _).mono ?_;rintro e v8 ⟨rfl,hb8⟩;rw[zg];have P8:=zAa (P7.out.below hb8 hB);clear x0 x1 x2 x3 x4 x5 x6 x7 x8 x9 xf xl y0 y1 y2 y3 y4 y5 y6 y7 y8 y9 yf yl;obtain⟨x0,x1,x2,x3,x4,x5,x6,x7,x8,x9,xf,xl⟩:=P8.out.v1.facts;obtain⟨y0,y1,y2,y3,y4,y5,y6,y7,y8,y9,yf,yl⟩:=P8.out.v2.facts) | (go_at_call_of 73 (Value.pointer (some ⟨fb,4,none⟩));refine (zBw fb 4 g4 n _ (i:Int) (k:Int) _ P8.out.mem.rel4 P8.out.mem.fin.r4.fits).mono ?_;rintro e v6 ⟨rfl,hs6,hg6⟩;have P6:=zAa (P8.out.add4 hB hB4 i k hs6 hg6)))
    first
     | (have HN:Hid (PS B w v6 fb (FA.mk n (.slice x n c) g1 g2 g3 g4 g5 g6 g7 g8 g9) ({ f with ahead:=Q.addIf (Q.zIo i e1 k e2) f.ahead i k,rows:=Q.addIf (Q.isRow i e1 k e2) f.rows i k,strong:=Q.addIf (Q.zIs i e1 k e2) f.strong i k,fences:=Q.addIf (Q.zIq i e1 k e2) f.fences i k }:Q.Facts) w.heap.size (w.heap.size+1) e1 e2):=(by unfold Hid;simpa [Q.addIf,zq,HFC.out,zf,zg] using P6.out);go_meet;case rel=>exact HN)
     | (have HN:Hid (PS B w v8 fb (FA.mk n (.slice x n c) g1 g2 g3 g4 g5 g6 g7 g8 g9) ({ f with ahead:=Q.addIf (Q.zIo i e1 k e2) f.ahead i k,rows:=Q.addIf (Q.isRow i e1 k e2) f.rows i k,strong:=Q.addIf (Q.zIs i e1 k e2) f.strong i k,fences:=Q.addIf (Q.zIq i e1 k e2) f.fences i k }:Q.Facts) w.heap.size (w.heap.size+1) e1 e2):=(by unfold Hid;simpa [Q.addIf,zq,HFC.out,zf,zg] using P8.out);go_meet;case rel=>exact HN)
     | (have HN:Hid (PS B w v7 fb (FA.mk n (.slice x n c) g1 g2 g3 g4 g5 g6 g7 g8 g9) ({ f with ahead:=Q.addIf (Q.zIo i e1 k e2) f.ahead i k,rows:=Q.addIf (Q.isRow i e1 k e2) f.rows i k,strong:=Q.addIf (Q.zIs i e1 k e2) f.strong i k,fences:=Q.addIf (Q.zIq i e1 k e2) f.fences i k }:Q.Facts) w.heap.size (w.heap.size+1) e1 e2):=(by unfold Hid;simpa [Q.addIf,zq,HFC.out,zf,zg] using P7.out);go_meet;case rel=>exact HN)
 case rest =>
 have HP2:=hcut
 clear HP hcut HBQ
 have HP:=HP2
 clear HP2
 go_upto_region 10 with fail
 go_cut [73] from 71 to 72 (fun s wx=>∃ bq,s=.bool bq∧Hid (bq=Q.zIA e1 e2)∧Hid (PS B w wx fb (FA.mk n (.slice x n c) g1 g2 g3 g4 g5 g6 g7 g8 g9) ({ f with ahead:=Q.addIf (Q.zIo i e1 k e2) f.ahead i k,rows:=Q.addIf (Q.isRow i e1 k e2) f.rows i k,strong:=Q.addIf (Q.zIs i e1 k e2) f.strong i k,fences:=Q.addIf (Q.zIq i e1 k e2) f.fences i k }:Q.Facts) w.heap.size (w.heap.size+1) e1 e2))
 case first =>
  have HQ:=HP
  obtain⟨x0,x1,x2,x3,x4,x5,x6,x7,x8,x9,xf,xl⟩:=HP.out.v1.facts
  obtain⟨y0,y1,y2,y3,y4,y5,y6,y7,y8,y9,yf,yl⟩:=HP.out.v2.facts
  go_wp2_with (first | (go_at_call 126;refine (zFM e1 e2 _).mono ?_;rintro e v1 ⟨rfl,hb1⟩;have P1:=zAa (HQ.out.below hb1 hB);clear x0 x1 x2 x3 x4 x5 x6 x7 x8 x9 xf xl y0 y1 y2 y3 y4 y5 y6 y7 y8 y9 yf yl;obtain⟨x0,x1,x2,x3,x4,x5,x6,x7,x8,x9,xf,xl⟩:=P1.out.v1.facts;obtain⟨y0,y1,y2,y3,y4,y5,y6,y7,y8,y9,yf,yl⟩:=P1.out.v2.facts))
  go_meet
  case rel=>exact⟨_,rfl,rfl,P1⟩
 case rest =>
 obtain⟨bq,rfl,HBQ,HP2⟩:=hcut
 clear HP
 have HP:=HP2
 clear HP2
 go_upto_if 73 with fail
 go_cut [] from 74 to 79 (fun wx=>Hid (PS B w wx fb (FA.mk n (.slice x n c) g1 g2 g3 g4 g5 g6 g7 g8 g9) ({ f with ahead:=Q.addIf (Q.zIo i e1 k e2) f.ahead i k,rows:=Q.addIf (Q.isRow i e1 k e2) f.rows i k,strong:=Q.addIf (Q.zIs i e1 k e2) f.strong i k,fences:=Q.addIf (Q.zIq i e1 k e2) f.fences i k,gathers:=Q.addIf (Q.zIA e1 e2) f.gathers i k }:Q.Facts) w.heap.size (w.heap.size+1) e1 e2))
 case first =>
  have hgx:=HP.out.mem.box
  have hfl:=(Array.getElem?_eq_some_iff.1 hgx).1
  clear hgx
  cases bq
  ·have zq:=HBQ.out.symm
   have HN:Hid (PS B w wc fb (FA.mk n (.slice x n c) g1 g2 g3 g4 g5 g6 g7 g8 g9) ({ f with ahead:=Q.addIf (Q.zIo i e1 k e2) f.ahead i k,rows:=Q.addIf (Q.isRow i e1 k e2) f.rows i k,strong:=Q.addIf (Q.zIs i e1 k e2) f.strong i k,fences:=Q.addIf (Q.zIq i e1 k e2) f.fences i k,gathers:=Q.addIf (Q.zIA e1 e2) f.gathers i k }:Q.Facts) w.heap.size (w.heap.size+1) e1 e2):=by unfold Hid;simpa [Q.addIf,zq] using HP.out
   go_wp2
   go_meet
   case rel=>exact HN
  ·have zq:=HBQ.out.symm
   go_wp2_with (first | (go_at_call 73;refine (zBw fb 3 g3 n _ (i:Int) (k:Int) _ HP.out.mem.rel3 HP.out.mem.fin.r3.fits).mono ?_;rintro e v9 ⟨rfl,hs9,hg9⟩;have P9:=zAa (HP.out.add3 hB hB3 i k hs9 hg9)))
   have HN:Hid (PS B w v9 fb (FA.mk n (.slice x n c) g1 g2 g3 g4 g5 g6 g7 g8 g9) ({ f with ahead:=Q.addIf (Q.zIo i e1 k e2) f.ahead i k,rows:=Q.addIf (Q.isRow i e1 k e2) f.rows i k,strong:=Q.addIf (Q.zIs i e1 k e2) f.strong i k,fences:=Q.addIf (Q.zIq i e1 k e2) f.fences i k,gathers:=Q.addIf (Q.zIA e1 e2) f.gathers i k }:Q.Facts) w.heap.size (w.heap.size+1) e1 e2):=by unfold Hid;simpa [Q.addIf,zq] using P9.out
   go_meet
   case rel=>exact HN
 case rest =>
 have HP2:=hcut
 clear HP hcut HBQ
 have HP:=HP2
 clear HP2
 go_upto_region 12 with fail
 go_cut [83] from 80 to 82 (fun s wx=>∃ bq,s=.bool bq∧Hid (bq=Q.hasS e1.hangs (k:Nat))∧Hid (PS B w wx fb (FA.mk n (.slice x n c) g1 g2 g3 g4 g5 g6 g7 g8 g9) ({ f with ahead:=Q.addIf (Q.zIo i e1 k e2) f.ahead i k,rows:=Q.addIf (Q.isRow i e1 k e2) f.rows i k,strong:=Q.addIf (Q.zIs i e1 k e2) f.strong i k,fences:=Q.addIf (Q.zIq i e1 k e2) f.fences i k,gathers:=Q.addIf (Q.zIA e1 e2) f.gathers i k }:Q.Facts) w.heap.size (w.heap.size+1) e1 e2))
 case first =>
  have HQ:=HP
  obtain⟨x0,x1,x2,x3,x4,x5,x6,x7,x8,x9,xf,xl⟩:=HP.out.v1.facts
  obtain⟨y0,y1,y2,y3,y4,y5,y6,y7,y8,y9,yf,yl⟩:=HP.out.v2.facts
  go_wp2_with (first | (go_at_call 108;refine (zFq e1.hangs (k:Int) _ hh).mono ?_;rintro e v1 ⟨rfl,hw1⟩;have hw1:=hw1.symm;subst hw1))
  go_meet
  case rel=>exact⟨_,rfl,rfl,HQ⟩
 case rest =>
 obtain⟨bq,rfl,HBQ,HP2⟩:=hcut
 clear HP
 have HP:=HP2
 clear HP2
 go_upto_if 83 with fail
 go_cut [] from 84 to 89 (fun wx=>Hid (PS B w wx fb (FA.mk n (.slice x n c) g1 g2 g3 g4 g5 g6 g7 g8 g9) ({ f with ahead:=Q.addIf (Q.zIo i e1 k e2) f.ahead i k,rows:=Q.addIf (Q.isRow i e1 k e2) f.rows i k,strong:=Q.addIf (Q.zIs i e1 k e2) f.strong i k,fences:=Q.addIf (Q.zIq i e1 k e2) f.fences i k,gathers:=Q.addIf (Q.zIA e1 e2) f.gathers i k,hangs:=Q.addIf (Q.hasS e1.hangs (k:Nat)) f.hangs i k }:Q.Facts) w.heap.size (w.heap.size+1) e1 e2))
 case first =>
  have hgx:=HP.out.mem.box
  have hfl:=(Array.getElem?_eq_some_iff.1 hgx).1
  clear hgx
  cases bq
  ·have zq:=HBQ.out.symm
   have HN:Hid (PS B w wc fb (FA.mk n (.slice x n c) g1 g2 g3 g4 g5 g6 g7 g8 g9) ({ f with ahead:=Q.addIf (Q.zIo i e1 k e2) f.ahead i k,rows:=Q.addIf (Q.isRow i e1 k e2) f.rows i k,strong:=Q.addIf (Q.zIs i e1 k e2) f.strong i k,fences:=Q.addIf (Q.zIq i e1 k e2) f.fences i k,gathers:=Q.addIf (Q.zIA e1 e2) f.gathers i k,hangs:=Q.addIf (Q.hasS e1.hangs (k:Nat)) f.hangs i k }:Q.Facts) w.heap.size (w.heap.size+1) e1 e2):=by unfold Hid;simpa [Q.addIf,zq] using HP.out
   go_wp2
   go_meet
   case rel=>exact HN
  ·have zq:=HBQ.out.symm
   go_wp2_with (first | (go_at_call 73;refine (zBw fb 6 g6 n _ (i:Int) (k:Int) _ HP.out.mem.rel6 HP.out.mem.fin.r6.fits).mono ?_;rintro e v9 ⟨rfl,hs9,hg9⟩;have P9:=zAa (HP.out.add6 hB hB6 i k hs9 hg9)))
   have HN:Hid (PS B w v9 fb (FA.mk n (.slice x n c) g1 g2 g3 g4 g5 g6 g7 g8 g9) ({ f with ahead:=Q.addIf (Q.zIo i e1 k e2) f.ahead i k,rows:=Q.addIf (Q.isRow i e1 k e2) f.rows i k,strong:=Q.addIf (Q.zIs i e1 k e2) f.strong i k,fences:=Q.addIf (Q.zIq i e1 k e2) f.fences i k,gathers:=Q.addIf (Q.zIA e1 e2) f.gathers i k,hangs:=Q.addIf (Q.hasS e1.hangs (k:Nat)) f.hangs i k }:Q.Facts) w.heap.size (w.heap.size+1) e1 e2):=by unfold Hid;simpa [Q.addIf,zq] using P9.out
   go_meet
   case rel=>exact HN
 case rest =>
 have HP2:=hcut
 clear HP hcut HBQ
 have HP:=HP2
 clear HP2
 go_upto_region 14 with fail
 go_cut [102] from 90 to 101 (fun s wx=>∃ bq,s=.bool bq∧Hid (bq=Q.zIV i e1 k)∧Hid (PS B w wx fb (FA.mk n (.slice x n c) g1 g2 g3 g4 g5 g6 g7 g8 g9) ({ f with ahead:=Q.addIf (Q.zIo i e1 k e2) f.ahead i k,rows:=Q.addIf (Q.isRow i e1 k e2) f.rows i k,strong:=Q.addIf (Q.zIs i e1 k e2) f.strong i k,fences:=Q.addIf (Q.zIq i e1 k e2) f.fences i k,gathers:=Q.addIf (Q.zIA e1 e2) f.gathers i k,hangs:=Q.addIf (Q.hasS e1.hangs (k:Nat)) f.hangs i k }:Q.Facts) w.heap.size (w.heap.size+1) e1 e2))
 case first =>
  have HQ:=HP
  obtain⟨x0,x1,x2,x3,x4,x5,x6,x7,x8,x9,xf,xl⟩:=HP.out.v1.facts
  obtain⟨y0,y1,y2,y3,y4,y5,y6,y7,y8,y9,yf,yl⟩:=HP.out.v2.facts
  have HC:Hid (Q.zIV i e1 k=(e1.kind==1&&e1.step&&k+1==i)):=rfl
  have zz:=zHi i k
  generalize hst:e1.step=sp at *
  clear hst
  cases za:(e1.kind==1)<;>cases sp<;>cases zc:(k+1==i)
  all_goals
   rw[zc] at zz
   go_wp2
   go_meet
   case rel=>refine⟨_,rfl,(by unfold Hid;rw[HC.out,za,zc];rfl),?_⟩;first | exact P2 | exact P1 | exact HQ
 case rest =>
 obtain⟨bq,rfl,HBQ,HP2⟩:=hcut
 clear HP
 have HP:=HP2
 clear HP2
 go_upto_if 102 with fail
 go_cut [] from 103 to 108 (fun wx=>Hid (PS B w wx fb (FA.mk n (.slice x n c) g1 g2 g3 g4 g5 g6 g7 g8 g9) ({ f with ahead:=Q.addIf (Q.zIo i e1 k e2) f.ahead i k,rows:=Q.addIf (Q.isRow i e1 k e2) f.rows i k,strong:=Q.addIf (Q.zIs i e1 k e2) f.strong i k,fences:=Q.addIf (Q.zIq i e1 k e2) f.fences i k,gathers:=Q.addIf (Q.zIA e1 e2) f.gathers i k,hangs:=Q.addIf (Q.hasS e1.hangs (k:Nat)) f.hangs i k,halves:=Q.addIf (Q.zIV i e1 k) f.halves i k }:Q.Facts) w.heap.size (w.heap.size+1) e1 e2))
 case first =>
  have hgx:=HP.out.mem.box
  have hfl:=(Array.getElem?_eq_some_iff.1 hgx).1
  clear hgx
  cases bq
  ·have zq:=HBQ.out.symm
   have HN:Hid (PS B w wc fb (FA.mk n (.slice x n c) g1 g2 g3 g4 g5 g6 g7 g8 g9) ({ f with ahead:=Q.addIf (Q.zIo i e1 k e2) f.ahead i k,rows:=Q.addIf (Q.isRow i e1 k e2) f.rows i k,strong:=Q.addIf (Q.zIs i e1 k e2) f.strong i k,fences:=Q.addIf (Q.zIq i e1 k e2) f.fences i k,gathers:=Q.addIf (Q.zIA e1 e2) f.gathers i k,hangs:=Q.addIf (Q.hasS e1.hangs (k:Nat)) f.hangs i k,halves:=Q.addIf (Q.zIV i e1 k) f.halves i k }:Q.Facts) w.heap.size (w.heap.size+1) e1 e2):=by unfold Hid;simpa [Q.addIf,zq] using HP.out
   go_wp2
   go_meet
   case rel=>exact HN
  ·have zq:=HBQ.out.symm
   go_wp2_with (first | (go_at_call 73;refine (zBw fb 7 g7 n _ (i:Int) (k:Int) _ HP.out.mem.rel7 HP.out.mem.fin.r7.fits).mono ?_;rintro e v9 ⟨rfl,hs9,hg9⟩;have P9:=zAa (HP.out.add7 hB hB7 i k hs9 hg9)))
   have HN:Hid (PS B w v9 fb (FA.mk n (.slice x n c) g1 g2 g3 g4 g5 g6 g7 g8 g9) ({ f with ahead:=Q.addIf (Q.zIo i e1 k e2) f.ahead i k,rows:=Q.addIf (Q.isRow i e1 k e2) f.rows i k,strong:=Q.addIf (Q.zIs i e1 k e2) f.strong i k,fences:=Q.addIf (Q.zIq i e1 k e2) f.fences i k,gathers:=Q.addIf (Q.zIA e1 e2) f.gathers i k,hangs:=Q.addIf (Q.hasS e1.hangs (k:Nat)) f.hangs i k,halves:=Q.addIf (Q.zIV i e1 k) f.halves i k }:Q.Facts) w.heap.size (w.heap.size+1) e1 e2):=by unfold Hid;simpa [Q.addIf,zq] using P9.out
   go_meet
   case rel=>exact HN
 case rest =>
 have HP2:=hcut
 clear HP hcut HBQ
 have HP:=HP2
 clear HP2
 go_upto_region 16 with fail
 go_cut [128] from 109 to 127 (fun s wx=>∃ bq,s=.bool bq∧Hid (bq=Q.zJy i e1 k e2)∧Hid (PS B w wx fb (FA.mk n (.slice x n c) g1 g2 g3 g4 g5 g6 g7 g8 g9) ({ f with ahead:=Q.addIf (Q.zIo i e1 k e2) f.ahead i k,rows:=Q.addIf (Q.isRow i e1 k e2) f.rows i k,strong:=Q.addIf (Q.zIs i e1 k e2) f.strong i k,fences:=Q.addIf (Q.zIq i e1 k e2) f.fences i k,gathers:=Q.addIf (Q.zIA e1 e2) f.gathers i k,hangs:=Q.addIf (Q.hasS e1.hangs (k:Nat)) f.hangs i k,halves:=Q.addIf (Q.zIV i e1 k) f.halves i k }:Q.Facts) w.heap.size (w.heap.size+1) e1 e2))
 case first =>
  have HQ:=HP
  obtain⟨x0,x1,x2,x3,x4,x5,x6,x7,x8,x9,xf,xl⟩:=HP.out.v1.facts
  obtain⟨y0,y1,y2,y3,y4,y5,y6,y7,y8,y9,yf,yl⟩:=HP.out.v2.facts
  have HC:Hid (Q.zJy i e1 k e2=((i==k&&(e1.kind==1&&P.rel e1.order))||(Q.zIo i e1 k e2&&e1.kind==2&&e2.kind==1))):=rfl
  have zz:=zHw i k
  cases za:(i==k)<;>cases zb:(e1.kind==1&&P.rel e1.order)<;>cases ba<;>cases zd:(e1.kind==2)<;>cases ze:(e2.kind==1)
  all_goals
   rw[za] at zz
   go_wp2_with (first | (go_at_call 127;refine (zEr e1 _).mono ?_;rintro e v1 ⟨rfl,hb1⟩;rw[zb];have P1:=zAa (HQ.out.below hb1 hB);clear x0 x1 x2 x3 x4 x5 x6 x7 x8 x9 xf xl y0 y1 y2 y3 y4 y5 y6 y7 y8 y9 yf yl;obtain⟨x0,x1,x2,x3,x4,x5,x6,x7,x8,x9,xf,xl⟩:=P1.out.v1.facts;obtain⟨y0,y1,y2,y3,y4,y5,y6,y7,y8,y9,yf,yl⟩:=P1.out.v2.facts))
   go_meet
   case rel=>refine⟨_,rfl,(by unfold Hid;rw[HC.out,za,zb,← HBA.out,zd,ze];rfl),?_⟩;first | exact P2 | exact P1 | exact HQ
 case rest =>
 obtain⟨bq,rfl,HBQ,HP2⟩:=hcut
 clear HP
 have HP:=HP2
 clear HP2
 go_upto_if 128 with fail
 go_cut [] from 129 to 134 (fun wx=>Hid (PS B w wx fb (FA.mk n (.slice x n c) g1 g2 g3 g4 g5 g6 g7 g8 g9) ({ f with ahead:=Q.addIf (Q.zIo i e1 k e2) f.ahead i k,rows:=Q.addIf (Q.isRow i e1 k e2) f.rows i k,strong:=Q.addIf (Q.zIs i e1 k e2) f.strong i k,fences:=Q.addIf (Q.zIq i e1 k e2) f.fences i k,gathers:=Q.addIf (Q.zIA e1 e2) f.gathers i k,hangs:=Q.addIf (Q.hasS e1.hangs (k:Nat)) f.hangs i k,halves:=Q.addIf (Q.zIV i e1 k) f.halves i k,sends:=Q.addIf (Q.zJy i e1 k e2) f.sends i k }:Q.Facts) w.heap.size (w.heap.size+1) e1 e2))
 case first =>
  have hgx:=HP.out.mem.box
  have hfl:=(Array.getElem?_eq_some_iff.1 hgx).1
  clear hgx
  cases bq
  ·have zq:=HBQ.out.symm
   have HN:Hid (PS B w wc fb (FA.mk n (.slice x n c) g1 g2 g3 g4 g5 g6 g7 g8 g9) ({ f with ahead:=Q.addIf (Q.zIo i e1 k e2) f.ahead i k,rows:=Q.addIf (Q.isRow i e1 k e2) f.rows i k,strong:=Q.addIf (Q.zIs i e1 k e2) f.strong i k,fences:=Q.addIf (Q.zIq i e1 k e2) f.fences i k,gathers:=Q.addIf (Q.zIA e1 e2) f.gathers i k,hangs:=Q.addIf (Q.hasS e1.hangs (k:Nat)) f.hangs i k,halves:=Q.addIf (Q.zIV i e1 k) f.halves i k,sends:=Q.addIf (Q.zJy i e1 k e2) f.sends i k }:Q.Facts) w.heap.size (w.heap.size+1) e1 e2):=by unfold Hid;simpa [Q.addIf,zq] using HP.out
   go_wp2
   go_meet
   case rel=>exact HN
  ·have zq:=HBQ.out.symm
   go_wp2_with (first | (go_at_call 73;refine (zBw fb 8 g8 n _ (i:Int) (k:Int) _ HP.out.mem.rel8 HP.out.mem.fin.r8.fits).mono ?_;rintro e v9 ⟨rfl,hs9,hg9⟩;have P9:=zAa (HP.out.add8 hB hB8 i k hs9 hg9)))
   have HN:Hid (PS B w v9 fb (FA.mk n (.slice x n c) g1 g2 g3 g4 g5 g6 g7 g8 g9) ({ f with ahead:=Q.addIf (Q.zIo i e1 k e2) f.ahead i k,rows:=Q.addIf (Q.isRow i e1 k e2) f.rows i k,strong:=Q.addIf (Q.zIs i e1 k e2) f.strong i k,fences:=Q.addIf (Q.zIq i e1 k e2) f.fences i k,gathers:=Q.addIf (Q.zIA e1 e2) f.gathers i k,hangs:=Q.addIf (Q.hasS e1.hangs (k:Nat)) f.hangs i k,halves:=Q.addIf (Q.zIV i e1 k) f.halves i k,sends:=Q.addIf (Q.zJy i e1 k e2) f.sends i k }:Q.Facts) w.heap.size (w.heap.size+1) e1 e2):=by unfold Hid;simpa [Q.addIf,zq] using P9.out
   go_meet
   case rel=>exact HN
 case rest =>
 have HP2:=hcut
 clear HP hcut HBQ
 have HP:=HP2
 clear HP2
 go_upto_region 18 with fail
 go_cut [154] from 135 to 153 (fun s wx=>∃ bq,s=.bool bq∧Hid (bq=Q.zKq i e1 k e2)∧Hid (PS B w wx fb (FA.mk n (.slice x n c) g1 g2 g3 g4 g5 g6 g7 g8 g9) ({ f with ahead:=Q.addIf (Q.zIo i e1 k e2) f.ahead i k,rows:=Q.addIf (Q.isRow i e1 k e2) f.rows i k,strong:=Q.addIf (Q.zIs i e1 k e2) f.strong i k,fences:=Q.addIf (Q.zIq i e1 k e2) f.fences i k,gathers:=Q.addIf (Q.zIA e1 e2) f.gathers i k,hangs:=Q.addIf (Q.hasS e1.hangs (k:Nat)) f.hangs i k,halves:=Q.addIf (Q.zIV i e1 k) f.halves i k,sends:=Q.addIf (Q.zJy i e1 k e2) f.sends i k }:Q.Facts) w.heap.size (w.heap.size+1) e1 e2))
 case first =>
  have HQ:=HP
  obtain⟨x0,x1,x2,x3,x4,x5,x6,x7,x8,x9,xf,xl⟩:=HP.out.v1.facts
  obtain⟨y0,y1,y2,y3,y4,y5,y6,y7,y8,y9,yf,yl⟩:=HP.out.v2.facts
  have HC:Hid (Q.zKq i e1 k e2=((i==k&&(e1.kind==0&&P.acq e1.order))||(Q.zIo i e1 k e2&&e1.kind==0&&e2.kind==2))):=rfl
  have zz:=zHw i k
  cases za:(i==k)<;>cases zb:(e1.kind==0&&P.acq e1.order)<;>cases ba<;>cases zd:(e1.kind==0)<;>cases ze:(e2.kind==2)
  all_goals
   rw[za] at zz
   go_wp2_with (first | (go_at_call 128;refine (zEs e1 _).mono ?_;rintro e v1 ⟨rfl,hb1⟩;rw[zb];have P1:=zAa (HQ.out.below hb1 hB);clear x0 x1 x2 x3 x4 x5 x6 x7 x8 x9 xf xl y0 y1 y2 y3 y4 y5 y6 y7 y8 y9 yf yl;obtain⟨x0,x1,x2,x3,x4,x5,x6,x7,x8,x9,xf,xl⟩:=P1.out.v1.facts;obtain⟨y0,y1,y2,y3,y4,y5,y6,y7,y8,y9,yf,yl⟩:=P1.out.v2.facts))
   go_meet
   case rel=>refine⟨_,rfl,(by unfold Hid;rw[HC.out,za,zb,← HBA.out,zd,ze];rfl),?_⟩;first | exact P2 | exact P1 | exact HQ
 case rest =>
 obtain⟨bq,rfl,HBQ,HP2⟩:=hcut
 clear HP
 have HP:=HP2
 clear HP2
 go_upto_if 154 with fail
 have hgx:=HP.out.mem.box
 have hfl:=(Array.getElem?_eq_some_iff.1 hgx).1
 clear hgx
 cases bq
 ·have zq:=HBQ.out.symm
  have HN:Hid (PS B w wc fb (FA.mk n (.slice x n c) g1 g2 g3 g4 g5 g6 g7 g8 g9) ({ f with ahead:=Q.addIf (Q.zIo i e1 k e2) f.ahead i k,rows:=Q.addIf (Q.isRow i e1 k e2) f.rows i k,strong:=Q.addIf (Q.zIs i e1 k e2) f.strong i k,fences:=Q.addIf (Q.zIq i e1 k e2) f.fences i k,gathers:=Q.addIf (Q.zIA e1 e2) f.gathers i k,hangs:=Q.addIf (Q.hasS e1.hangs (k:Nat)) f.hangs i k,halves:=Q.addIf (Q.zIV i e1 k) f.halves i k,sends:=Q.addIf (Q.zJy i e1 k e2) f.sends i k,takes:=Q.addIf (Q.zKq i e1 k e2) f.takes i k }:Q.Facts) w.heap.size (w.heap.size+1) e1 e2):=by unfold Hid;simpa [Q.addIf,zq] using HP.out
  go_wp2
  go_end0
  exact⟨rfl,HN.out.mem,HN.out.bel,HN.out.evs⟩
 ·have zq:=HBQ.out.symm
  go_wp2_with (first | (go_at_call 73;refine (zBw fb 9 g9 n _ (i:Int) (k:Int) _ HP.out.mem.rel9 HP.out.mem.fin.r9.fits).mono ?_;rintro e v9 ⟨rfl,hs9,hg9⟩;have P9:=zAa (HP.out.add9 hB hB9 i k hs9 hg9)))
  have HN:Hid (PS B w v9 fb (FA.mk n (.slice x n c) g1 g2 g3 g4 g5 g6 g7 g8 g9) ({ f with ahead:=Q.addIf (Q.zIo i e1 k e2) f.ahead i k,rows:=Q.addIf (Q.isRow i e1 k e2) f.rows i k,strong:=Q.addIf (Q.zIs i e1 k e2) f.strong i k,fences:=Q.addIf (Q.zIq i e1 k e2) f.fences i k,gathers:=Q.addIf (Q.zIA e1 e2) f.gathers i k,hangs:=Q.addIf (Q.hasS e1.hangs (k:Nat)) f.hangs i k,halves:=Q.addIf (Q.zIV i e1 k) f.halves i k,sends:=Q.addIf (Q.zJy i e1 k e2) f.sends i k,takes:=Q.addIf (Q.zKq i e1 k e2) f.takes i k }:Q.Facts) w.heap.size (w.heap.size+1) e1 e2):=by unfold Hid;simpa [Q.addIf,zq] using P9.out
  go_end0
  exact⟨rfl,HN.out.mem,HN.out.bel,HN.out.evs⟩
end Go.Proofs.YtkmebkbpfmoeaaaGreat
