import Derived.Test.YtgceflcbckjjiaaGreatDoorRows
import Derived.Test.YtgceflcbckjjiaaGreatDoorCards
import Derived.Test.YtgceflcbckjjiaaGreatDoorTie
import Derived.ProofKit
import Derived.ChangeBears2
import Derived.LaidMore
import Derived.OpenShut
import Derived.Stop.Joined
import Derived.SevenTiedAt
import Derived.Test.YtgceflcbckjjiaaGreatDoorC50
set_option linter.unusedVariables false
set_option linter.unusedSimpArgs false
set_option maxHeartbeats 12800000
namespace Go.Proofs.YtgceflcbckjjiaaGreatDoor
set_option maxRecDepth 1000000
theorem zMm:decide (P.zNR P.kn0.1 1=P.zNR P.kn0.1 0)=true:=by decide +kernel
theorem zMn:decide (P.zNR P.kn0.1 2=P.zNR P.kn0.1 0)=true:=by decide +kernel
theorem zMo:decide (P.zNR P.kn0.1 3=P.zNR P.kn0.1 0)=true:=by decide +kernel
theorem zMp:decide (P.zNR P.kn1.1 1=P.zNR P.kn1.1 0)=true:=by decide +kernel
theorem zMq:decide (P.zNR P.kn1.1 2=P.zNR P.kn1.1 0)=true:=by decide +kernel
theorem zMr:decide (P.zNR P.kn1.1 3=P.zNR P.kn1.1 0)=true:=by decide +kernel
theorem zMs:decide (P.zNR P.kn2.1 1=P.zNR P.kn2.1 0)=true:=by decide +kernel
theorem zMt:decide (P.zNR P.kn2.1 2=P.zNR P.kn2.1 0)=true:=by decide +kernel
theorem zMu:decide (P.zNR P.kn2.1 3=P.zNR P.kn2.1 0)=true:=by decide +kernel
theorem zMv:decide (P.zNR P.kn3.1 1=P.zNR P.kn3.1 0)=true:=by decide +kernel
theorem zMw:decide (P.zNR P.kn3.1 2=P.zNR P.kn3.1 0)=true:=by decide +kernel
theorem zMx:decide (P.zNR P.kn3.1 3=P.zNR P.kn3.1 0)=true:=by decide +kernel
theorem zMy:decide (P.zNR P.kn4.1 1=P.zNR P.kn4.1 0)=true:=by decide +kernel
theorem zMz:decide (P.zNR P.kn4.1 2=P.zNR P.kn4.1 0)=true:=by decide +kernel
theorem zMA:decide (P.zNR P.kn4.1 3=P.zNR P.kn4.1 0)=true:=by decide +kernel
theorem zMB:decide (P.zNR P.kn5.1 1=P.zNR P.kn5.1 0)=true:=by decide +kernel
theorem zMC:decide (P.zNR P.kn5.1 2=P.zNR P.kn5.1 0)=true:=by decide +kernel
theorem zMD:decide (P.zNR P.kn5.1 3=P.zNR P.kn5.1 0)=true:=by decide +kernel
theorem zME:decide (P.zNR P.kn6.1 1=P.zNR P.kn6.1 0)=true:=by decide +kernel
theorem zMF:decide (P.zNR P.kn6.1 2=P.zNR P.kn6.1 0)=true:=by decide +kernel
theorem zMG:decide (P.zNR P.kn6.1 3=P.zNR P.kn6.1 0)=true:=by decide +kernel
theorem zMH:decide (P.zNR P.kn7.1 2=P.zNR P.kn7.1 0)=true:=by decide +kernel
theorem zMI:decide (P.zNR P.kn7.1 3=P.zNR P.kn7.1 1)=true:=by decide +kernel
theorem zMJ:decide (P.zNR P.kn8.1 1=P.zNR P.kn8.1 0)=true:=by decide +kernel
theorem zMK:decide (P.zNR P.kn8.1 2=P.zNR P.kn8.1 0)=true:=by decide +kernel
theorem zML:decide (P.zNR P.kn8.1 3=P.zNR P.kn8.1 0)=true:=by decide +kernel
theorem zMM:decide (P.zNR P.kn9.1 2=P.zNR P.kn9.1 0)=true:=by decide +kernel
theorem zMN:decide (P.zNR P.kn9.1 3=P.zNR P.kn9.1 1)=true:=by decide +kernel
theorem zLa:decide (P.zNR P.kn10.1 1=P.zNR P.kn10.1 0)=true:=by decide +kernel
theorem zLb:decide (P.zNR P.kn10.1 2=P.zNR P.kn10.1 0)=true:=by decide +kernel
theorem zLc:decide (P.zNR P.kn10.1 3=P.zNR P.kn10.1 0)=true:=by decide +kernel
theorem zLd:decide (P.zNR P.kn11.1 1=P.zNR P.kn11.1 0)=true:=by decide +kernel
theorem zLe:decide (P.zNR P.kn11.1 2=P.zNR P.kn11.1 0)=true:=by decide +kernel
theorem zLf:decide (P.zNR P.kn11.1 3=P.zNR P.kn11.1 0)=true:=by decide +kernel
theorem zLg:decide (P.zNR P.kn12.1 1=P.zNR P.kn12.1 0)=true:=by decide +kernel
theorem zLh:decide (P.zNR P.kn12.1 2=P.zNR P.kn12.1 0)=true:=by decide +kernel
theorem zLi:decide (P.zNR P.kn12.1 3=P.zNR P.kn12.1 0)=true:=by decide +kernel
theorem zLj:decide (P.zNR P.kn13.1 1=P.zNR P.kn13.1 0)=true:=by decide +kernel
theorem zLk:decide (P.zNR P.kn13.1 2=P.zNR P.kn13.1 0)=true:=by decide +kernel
theorem zLl:decide (P.zNR P.kn13.1 3=P.zNR P.kn13.1 0)=true:=by decide +kernel
theorem zLm:decide (P.zNR P.kn14.1 1=P.zNR P.kn14.1 0)=true:=by decide +kernel
theorem zLn:decide (P.zNR P.kn14.1 2=P.zNR P.kn14.1 0)=true:=by decide +kernel
theorem zLo:decide (P.zNR P.kn14.1 3=P.zNR P.kn14.1 0)=true:=by decide +kernel
theorem zLp:decide (P.zNR P.kn15.1 1=P.zNR P.kn15.1 0)=true:=by decide +kernel
theorem zLq:decide (P.zNR P.kn15.1 2=P.zNR P.kn15.1 0)=true:=by decide +kernel
theorem zLr:decide (P.zNR P.kn15.1 3=P.zNR P.kn15.1 0)=true:=by decide +kernel
theorem zLs:decide (P.zNR P.kn16.1 2=P.zNR P.kn16.1 0)=true:=by decide +kernel
theorem zLt:decide (P.zNR P.kn16.1 3=P.zNR P.kn16.1 1)=true:=by decide +kernel
theorem zLu:decide (P.zNR P.kn17.1 1=P.zNR P.kn17.1 0)=true:=by decide +kernel
theorem zLv:decide (P.zNR P.kn17.1 2=P.zNR P.kn17.1 0)=true:=by decide +kernel
theorem zLw:decide (P.zNR P.kn17.1 3=P.zNR P.kn17.1 0)=true:=by decide +kernel
theorem zLx:decide (P.zNR P.kn18.1 1=P.zNR P.kn18.1 0)=true:=by decide +kernel
theorem zLy:decide (P.zNR P.kn18.1 2=P.zNR P.kn18.1 0)=true:=by decide +kernel
theorem zLz:decide (P.zNR P.kn18.1 3=P.zNR P.kn18.1 0)=true:=by decide +kernel
theorem zLA:decide (P.zNR P.kn19.1 1=P.zNR P.kn19.1 0)=true:=by decide +kernel
theorem zLB:decide (P.zNR P.kn19.1 2=P.zNR P.kn19.1 0)=true:=by decide +kernel
theorem zLC:decide (P.zNR P.kn19.1 3=P.zNR P.kn19.1 0)=true:=by decide +kernel
theorem zLD:decide (P.zNR P.kn20.1 1=P.zNR P.kn20.1 0)=true:=by decide +kernel
theorem zLE:decide (P.zNR P.kn20.1 2=P.zNR P.kn20.1 0)=true:=by decide +kernel
theorem zLF:decide (P.zNR P.kn20.1 3=P.zNR P.kn20.1 0)=true:=by decide +kernel
theorem zLG:decide (P.zNR P.kn21.1 1=P.zNR P.kn21.1 0)=true:=by decide +kernel
theorem zLH:decide (P.zNR P.kn21.1 2=P.zNR P.kn21.1 0)=true:=by decide +kernel
theorem zLI:decide (P.zNR P.kn21.1 3=P.zNR P.kn21.1 0)=true:=by decide +kernel
theorem zLJ:decide (P.zNR P.kn22.1 1=P.zNR P.kn22.1 0)=true:=by decide +kernel
theorem zLK:decide (P.zNR P.kn22.1 2=P.zNR P.kn22.1 0)=true:=by decide +kernel
theorem zLL:decide (P.zNR P.kn22.1 3=P.zNR P.kn22.1 0)=true:=by decide +kernel
theorem zLM:decide (P.zNR P.kn23.1 1=P.zNR P.kn23.1 0)=true:=by decide +kernel
theorem zLN:decide (P.zNR P.kn23.1 2=P.zNR P.kn23.1 0)=true:=by decide +kernel
theorem zLO:decide (P.zNR P.kn23.1 3=P.zNR P.kn23.1 0)=true:=by decide +kernel
theorem zLP:decide (P.zNR P.kn24.1 2=P.zNR P.kn24.1 0)=true:=by decide +kernel
theorem zLQ:decide (P.zNR P.kn24.1 3=P.zNR P.kn24.1 1)=true:=by decide +kernel
theorem zLR:decide (P.zNR P.kn25.1 1=P.zNR P.kn25.1 0)=true:=by decide +kernel
theorem zLS:decide (P.zNR P.kn25.1 2=P.zNR P.kn25.1 0)=true:=by decide +kernel
theorem zLT:decide (P.zNR P.kn25.1 3=P.zNR P.kn25.1 0)=true:=by decide +kernel
theorem zLU:decide (P.zNR P.kn26.1 1=P.zNR P.kn26.1 0)=true:=by decide +kernel
theorem zLV:decide (P.zNR P.kn26.1 2=P.zNR P.kn26.1 0)=true:=by decide +kernel
theorem zLW:decide (P.zNR P.kn26.1 3=P.zNR P.kn26.1 0)=true:=by decide +kernel
theorem zLX:decide (P.zNR P.kn27.1 1=P.zNR P.kn27.1 0)=true:=by decide +kernel
theorem zLY:decide (P.zNR P.kn27.1 2=P.zNR P.kn27.1 0)=true:=by decide +kernel
theorem zLZ:decide (P.zNR P.kn27.1 3=P.zNR P.kn27.1 0)=true:=by decide +kernel
theorem zMa:decide (P.zNR P.kn28.1 1=P.zNR P.kn28.1 0)=true:=by decide +kernel
theorem zMb:decide (P.zNR P.kn28.1 2=P.zNR P.kn28.1 0)=true:=by decide +kernel
theorem zMc:decide (P.zNR P.kn28.1 3=P.zNR P.kn28.1 0)=true:=by decide +kernel
theorem zNn:Q.srcIn P.k17p P.k17s (P.chunk P.k17s 0)=true:=by decide +kernel
theorem zNo:Q.srcIn P.k17p P.k17s (P.chunk P.k17s 1)=true:=by decide +kernel
theorem zNp:Q.srcIn P.k17p P.k17s (P.chunk P.k17s 2)=true:=by decide +kernel
theorem zNq:Q.srcIn P.k17p P.k17s (P.chunk P.k17s 3)=true:=by decide +kernel
theorem zNr:Q.srcIn P.k17p P.k17s (P.chunk P.k17s 4)=true:=by decide +kernel
theorem zNs:Q.srcIn P.k17p P.k17s (P.chunk P.k17s 5)=true:=by decide +kernel
theorem zNt:Q.srcIn P.k17p P.k17s (P.chunk P.k17s 6)=true:=by decide +kernel
theorem zNu:Q.srcIn P.k17p P.k17s (P.chunk P.k17s 7)=true:=by decide +kernel
theorem zNv:Q.tgtIn P.k17p P.k17t (P.chunk P.k17t 0)=true:=by decide +kernel
theorem zNw:Q.tgtIn P.k17p P.k17t (P.chunk P.k17t 1)=true:=by decide +kernel
theorem zNx:Q.tgtIn P.k17p P.k17t (P.chunk P.k17t 2)=true:=by decide +kernel
theorem zNy:Q.tgtIn P.k17p P.k17t (P.chunk P.k17t 3)=true:=by decide +kernel
theorem zNz:Q.tgtIn P.k17p P.k17t (P.chunk P.k17t 4)=true:=by decide +kernel
theorem zNA:Q.tgtIn P.k17p P.k17t (P.chunk P.k17t 5)=true:=by decide +kernel
theorem zNB:Q.tgtIn P.k17p P.k17t (P.chunk P.k17t 6)=true:=by decide +kernel
theorem zNC:Q.tgtIn P.k17p P.k17t (P.chunk P.k17t 7)=true:=by decide +kernel
theorem zND:((P.kernel P.kn17.1).2.1==0&&(P.kernel P.kn17.1).2.2==0&&Q.kerB P.k17s&&decide (Q.candN P.k17s 1<100000000)&&decide ((Q.zOi ((Q.runs P.k17s).map fun r=>(r.length:Int))).length≤256))=true:=by decide +kernel
theorem zNE:((P.zNR P.kn17.1 0).2.1==0&&P.tgtOk (P.zNR P.kn17.1 0).1&&Q.fenN P.k17t 1&&decide (Q.candN P.k17t 1<100000000)&&decide ((Q.zOi ((Q.runs P.k17t).map fun r=>(r.length:Int))).length≤256))=true:=by decide +kernel
end Go.Proofs.YtgceflcbckjjiaaGreatDoor
namespace Go.Proofs.YtgceflcbckjjiaaGreatDoor
open Go Go.RowKit
set_option maxRecDepth 100000
theorem zHq {α:Type} (p:α→Bool):∀ (n:Nat) (l:List α),l.length≤32*n→(∀ j,j<n→((l.drop (32*j)).take 32).all p=true)→l.all p=true
 | 0,l,h,_=>by
  have:l=[]:=List.eq_nil_of_length_eq_zero (by omega)
  rw[this];rfl
 | n+1,l,h,hj=>by
  have h1:=hj 0 (by omega)
  rw[Nat.mul_zero,List.drop_zero] at h1
  have h2:=zHq p n (l.drop 32) (by rw[List.length_drop];omega) (fun j hjn=>by
   have:=hj (j+1) (by omega)
   rw[List.drop_drop,show 32+32*j=32*(j+1) by omega]
   exact this)
  rw[← List.take_append_drop 32 l,List.all_append,h1,h2];rfl
namespace P
theorem tgt_same {x:List UInt8 × List Int × Bool × Bool} {a b:Int} (h:decide (zNR x.1 b=zNR x.1 a)=true) (hf:TgtFacts x a):TgtFacts x b:=by
 have e:=of_decide_eq_true h
 exact⟨by rw[e];exact hf.c,by rw[e];exact hf.rows,by rw[e];exact hf.e,by rw[e];exact hf.l,by rw[e];exact hf.ok,by rw[e];exact hf.few,by rw[e];exact hf.want,by rw[e];exact hf.may⟩
theorem kn_ok {x:List UInt8 × List Int × Bool × Bool} (hz:x.1.length≤2000) (hs:SrcFacts x) (t0:TgtFacts x 0) (t1:TgtFacts x 1) (t2:TgtFacts x 2) (t3:TgtFacts x 3):KnOk x :=
 ⟨hz,hs,fun b hb=>by
  match b,hb with
  | 0,_=>exact t0
  | 1,_=>exact t1
  | 2,_=>exact t2
  | 3,_=>exact t3
  | n+4,h=>exact absurd h (by omega)⟩
theorem k17_rows {rows:List (List Int)} (h:∀ r∈rows,k17p r=true):zQU rows kn17.2.1∧zPP rows kn17.2.1=false:=by
 have hr:∀ r∈rows,rowB r kn17.2.1=true∧zPk r kn17.2.1 4=false:=fun r hr=>by
  have:=h r hr
  unfold k17p at this
  simp only[Bool.and_eq_true,Bool.not_eq_true'] at this
  exact this
 refine⟨⟨by decide,⟨4,rfl⟩,fun r hm=>?_⟩,?_⟩
 ·have h1:=(hr r hm).1
  unfold rowB at h1
  simp only[Bool.and_eq_true,decide_eq_true_eq,List.all_eq_true,List.mem_range] at h1
  refine⟨h1.1,fun k hk=>?_⟩
  obtain⟨⟨⟨⟨a,b⟩,c⟩,d⟩,e⟩:=h1.2 k (by omega)
  exact⟨a,b,c,d,e⟩
 ·unfold zPP
  rw[List.any_eq_false]
  intro r hm
  have h2:=(hr r hm).2
  have e:kn17.2.1.length / 3=4:=rfl
  rw[e,h2];simp
theorem kn17_src:SrcFacts kn17:=by
 have hm:=zND
 simp only[Bool.and_eq_true,beq_iff_eq,decide_eq_true_eq] at hm
 obtain⟨⟨⟨⟨h1,h2⟩,h3⟩,h4⟩,h5⟩:=hm
 have hall:Q.srcIn k17p k17s (Q.zOi ((Q.runs k17s).map fun r=>(r.length:Int)))=true:=by
  unfold Q.srcIn
  refine zHq _ 8 _ (by omega) (fun j hj=>?_)
  match j,hj with
  | 0,_=>exact zNn
  | 1,_=>exact zNo
  | 2,_=>exact zNp
  | 3,_=>exact zNq
  | 4,_=>exact zNr
  | 5,_=>exact zNs
  | 6,_=>exact zNt
  | 7,_=>exact zNu
  | n+8,h=>exact absurd h (by omega)
 have hg:=Q.source_good hall
 obtain⟨hw,hc⟩:=k17_rows hg.1
 exact⟨h1,h2,Q.zQt h3,Q.source_few h4,hw,hc,hg.2⟩
theorem kn17_tgt:TgtFacts kn17 0:=by
 have hm:=zNE
 unfold tgtOk at hm
 simp only[Bool.and_eq_true,beq_iff_eq,decide_eq_true_eq] at hm
 obtain⟨⟨⟨⟨h1,⟨h2,h3,h3b⟩,h4⟩,h5⟩,h6⟩,h7⟩:=hm
 have hall:Q.tgtIn k17p k17t (Q.zOi ((Q.runs k17t).map fun r=>(r.length:Int)))=true:=by
  unfold Q.tgtIn
  refine zHq _ 8 _ (by omega) (fun j hj=>?_)
  match j,hj with
  | 0,_=>exact zNv
  | 1,_=>exact zNw
  | 2,_=>exact zNx
  | 3,_=>exact zNy
  | 4,_=>exact zNz
  | 5,_=>exact zNA
  | 6,_=>exact zNB
  | 7,_=>exact zNC
  | n+8,h=>exact absurd h (by omega)
 have hg:=Q.target_good hall
 obtain⟨hw,hc⟩:=k17_rows hg.1
 refine⟨h1,h2,h3,h3b,Q.zQt h4,Q.target_few 1 h5 h6,hw,?_⟩
 have e1:zPP (Q.target (readA (zNR kn17.1 0).1).1).rows kn17.2.1=false:=hc
 have e2:(Q.target (readA (zNR kn17.1 0).1).1).clash=false:=hg.2
 rw[e1,e2];rfl
theorem kok_0:KnOk kn0:=kn_ok (by decide) (srcK_ok zNH) (tgtK_ok zHF) (tgt_same zMm (tgtK_ok zHF)) (tgt_same zMn (tgtK_ok zHF)) (tgt_same zMo (tgtK_ok zHF))
theorem kok_1:KnOk kn1:=kn_ok (by decide) (srcK_ok zNI) (tgtK_ok zHG) (tgt_same zMp (tgtK_ok zHG)) (tgt_same zMq (tgtK_ok zHG)) (tgt_same zMr (tgtK_ok zHG))
theorem kok_2:KnOk kn2:=kn_ok (by decide) (srcK_ok zNJ) (tgtK_ok zHH) (tgt_same zMs (tgtK_ok zHH)) (tgt_same zMt (tgtK_ok zHH)) (tgt_same zMu (tgtK_ok zHH))
theorem kok_3:KnOk kn3:=kn_ok (by decide) (srcK_ok zNK) (tgtK_ok zHI) (tgt_same zMv (tgtK_ok zHI)) (tgt_same zMw (tgtK_ok zHI)) (tgt_same zMx (tgtK_ok zHI))
theorem kok_4:KnOk kn4:=kn_ok (by decide) (srcK_ok zNL) (tgtK_ok zHJ) (tgt_same zMy (tgtK_ok zHJ)) (tgt_same zMz (tgtK_ok zHJ)) (tgt_same zMA (tgtK_ok zHJ))
theorem kok_5:KnOk kn5:=kn_ok (by decide) (srcK_ok zNM) (tgtK_ok zHK) (tgt_same zMB (tgtK_ok zHK)) (tgt_same zMC (tgtK_ok zHK)) (tgt_same zMD (tgtK_ok zHK))
theorem kok_6:KnOk kn6:=kn_ok (by decide) (srcK_ok zNN) (tgtK_ok zHL) (tgt_same zME (tgtK_ok zHL)) (tgt_same zMF (tgtK_ok zHL)) (tgt_same zMG (tgtK_ok zHL))
theorem kok_7:KnOk kn7:=kn_ok (by decide) (srcK_ok zNO) (tgtK_ok zKB) (tgtK_ok zKD) (tgt_same zMH (tgtK_ok zKB)) (tgt_same zMI (tgtK_ok zKD))
theorem kok_8:KnOk kn8:=kn_ok (by decide) (srcK_ok zNP) (tgtK_ok zHM) (tgt_same zMJ (tgtK_ok zHM)) (tgt_same zMK (tgtK_ok zHM)) (tgt_same zML (tgtK_ok zHM))
theorem kok_9:KnOk kn9:=kn_ok (by decide) (srcK_ok zNQ) (tgtK_ok zKC) (tgtK_ok zKE) (tgt_same zMM (tgtK_ok zKC)) (tgt_same zMN (tgtK_ok zKE))
theorem kok_10:KnOk kn10:=kn_ok (by decide) (srcK_ok zMV) (tgtK_ok zFF) (tgt_same zLa (tgtK_ok zFF)) (tgt_same zLb (tgtK_ok zFF)) (tgt_same zLc (tgtK_ok zFF))
theorem kok_11:KnOk kn11:=kn_ok (by decide) (srcK_ok zMW) (tgtK_ok zFG) (tgt_same zLd (tgtK_ok zFG)) (tgt_same zLe (tgtK_ok zFG)) (tgt_same zLf (tgtK_ok zFG))
theorem kok_12:KnOk kn12:=kn_ok (by decide) (srcK_ok zMX) (tgtK_ok zFH) (tgt_same zLg (tgtK_ok zFH)) (tgt_same zLh (tgtK_ok zFH)) (tgt_same zLi (tgtK_ok zFH))
theorem kok_13:KnOk kn13:=kn_ok (by decide) (srcK_ok zMY) (tgtK_ok zFI) (tgt_same zLj (tgtK_ok zFI)) (tgt_same zLk (tgtK_ok zFI)) (tgt_same zLl (tgtK_ok zFI))
theorem kok_14:KnOk kn14:=kn_ok (by decide) (srcK_ok zMZ) (tgtK_ok zFJ) (tgt_same zLm (tgtK_ok zFJ)) (tgt_same zLn (tgtK_ok zFJ)) (tgt_same zLo (tgtK_ok zFJ))
theorem kok_15:KnOk kn15:=kn_ok (by decide) (srcK_ok zNa) (tgtK_ok zFK) (tgt_same zLp (tgtK_ok zFK)) (tgt_same zLq (tgtK_ok zFK)) (tgt_same zLr (tgtK_ok zFK))
theorem kok_16:KnOk kn16:=kn_ok (by decide) (srcK_ok zNb) (tgtK_ok zJJ) (tgtK_ok zJK) (tgt_same zLs (tgtK_ok zJJ)) (tgt_same zLt (tgtK_ok zJK))
theorem kok_17:KnOk kn17:=kn_ok (by decide) (kn17_src) kn17_tgt (tgt_same zLu kn17_tgt) (tgt_same zLv kn17_tgt) (tgt_same zLw kn17_tgt)
theorem kok_18:KnOk kn18:=kn_ok (by decide) (srcK_ok zNl) (tgtK_ok zFL) (tgt_same zLx (tgtK_ok zFL)) (tgt_same zLy (tgtK_ok zFL)) (tgt_same zLz (tgtK_ok zFL))
theorem kok_19:KnOk kn19:=kn_ok (by decide) (srcK_ok zNm) (tgtK_ok zFM) (tgt_same zLA (tgtK_ok zFM)) (tgt_same zLB (tgtK_ok zFM)) (tgt_same zLC (tgtK_ok zFM))
theorem kok_20:KnOk kn20:=kn_ok (by decide) (srcK_ok zNc) (tgtK_ok zFN) (tgt_same zLD (tgtK_ok zFN)) (tgt_same zLE (tgtK_ok zFN)) (tgt_same zLF (tgtK_ok zFN))
theorem kok_21:KnOk kn21:=kn_ok (by decide) (srcK_ok zNd) (tgtK_ok zFO) (tgt_same zLG (tgtK_ok zFO)) (tgt_same zLH (tgtK_ok zFO)) (tgt_same zLI (tgtK_ok zFO))
theorem kok_22:KnOk kn22:=kn_ok (by decide) (srcK_ok zNe) (tgtK_ok zFP) (tgt_same zLJ (tgtK_ok zFP)) (tgt_same zLK (tgtK_ok zFP)) (tgt_same zLL (tgtK_ok zFP))
theorem kok_23:KnOk kn23:=kn_ok (by decide) (srcK_ok zNf) (tgtK_ok zFQ) (tgt_same zLM (tgtK_ok zFQ)) (tgt_same zLN (tgtK_ok zFQ)) (tgt_same zLO (tgtK_ok zFQ))
theorem kok_24:KnOk kn24:=kn_ok (by decide) (srcK_ok zNg) (tgtK_ok zJL) (tgtK_ok zJM) (tgt_same zLP (tgtK_ok zJL)) (tgt_same zLQ (tgtK_ok zJM))
theorem kok_25:KnOk kn25:=kn_ok (by decide) (srcK_ok zNh) (tgtK_ok zFR) (tgt_same zLR (tgtK_ok zFR)) (tgt_same zLS (tgtK_ok zFR)) (tgt_same zLT (tgtK_ok zFR))
theorem kok_26:KnOk kn26:=kn_ok (by decide) (srcK_ok zNi) (tgtK_ok zFS) (tgt_same zLU (tgtK_ok zFS)) (tgt_same zLV (tgtK_ok zFS)) (tgt_same zLW (tgtK_ok zFS))
theorem kok_27:KnOk kn27:=kn_ok (by decide) (srcK_ok zNj) (tgtK_ok zFT) (tgt_same zLX (tgtK_ok zFT)) (tgt_same zLY (tgtK_ok zFT)) (tgt_same zLZ (tgtK_ok zFT))
theorem kok_28:KnOk kn28:=kn_ok (by decide) (srcK_ok zNk) (tgtK_ok zFU) (tgt_same zMa (tgtK_ok zFU)) (tgt_same zMb (tgtK_ok zFU)) (tgt_same zMc (tgtK_ok zFU))
theorem kns_ok:∀ x∈kns,KnOk x:=by
 intro x hx
 simp only[kns,List.mem_cons,List.not_mem_nil,or_false] at hx
 rcases hx with rfl | rfl | rfl | rfl | rfl | rfl | rfl | rfl | rfl | rfl | rfl | rfl | rfl | rfl | rfl | rfl | rfl | rfl | rfl | rfl | rfl | rfl | rfl | rfl | rfl | rfl | rfl | rfl | rfl
 ·exact kok_0
 ·exact kok_1
 ·exact kok_2
 ·exact kok_3
 ·exact kok_4
 ·exact kok_5
 ·exact kok_6
 ·exact kok_7
 ·exact kok_8
 ·exact kok_9
 ·exact kok_10
 ·exact kok_11
 ·exact kok_12
 ·exact kok_13
 ·exact kok_14
 ·exact kok_15
 ·exact kok_16
 ·exact kok_17
 ·exact kok_18
 ·exact kok_19
 ·exact kok_20
 ·exact kok_21
 ·exact kok_22
 ·exact kok_23
 ·exact kok_24
 ·exact kok_25
 ·exact kok_26
 ·exact kok_27
 ·exact kok_28
end P
end Go.Proofs.YtgceflcbckjjiaaGreatDoor
namespace Go.Proofs.YtgceflcbckjjiaaGreatDoor
open Go Go.ChangeShapes Go.WideShapes Go.ChangeAt Go.RowKit Go.WideElems
open Go.ChangeMaps (open_string shut_string)
theorem zFV {n:Int} (h:(Lit.int .i64 n).wf=true):-9223372036854775808≤n∧n<9223372036854775808:=by
 simp only[Lit.wf,Bool.and_eq_true,decide_eq_true_eq] at h
 have h1:IntKind.i64.min=-9223372036854775808:=rfl
 have h2:IntKind.i64.max=9223372036854775807:=rfl
 omega
theorem zJN:ownKnob Tryz.prog.godebug=none:=by kernel_rfl
theorem zIK (os:Os) (args:Array Value):laidMetH Tryz.prog Rows.knownRow.laid ((World.doorLaid Tryz.prog 400 os).forCall (fun _ _=>0) ⟨#[],args,[]⟩).memory :=
 laidMetH_of_parts3 (fuel:=8) (laidMet_of_run' 8 (by kernel_rfl) (by kernel_rfl)) (by kernel_rfl) (by kernel_rfl)
set_option maxRecDepth 100000 in
theorem zGJ (os:Os) (started:os.Started) (H:Type) (enc:TypeId × Value→H) :
  ReturnsInHanded {} Tryz.checked os 4 .any (fun w args=>(Rows.knownSpec.pre enc Tryz.prog Tryz.f4 [] false w args∧laidMetH Tryz.prog Rows.knownRow.laid w)∧sizedMet enc Tryz.prog Tryz.f4 (OpenSpec.ofChange Rows.knownSpec) false w args)
   (Rows.knownSpec.post enc Tryz.prog Tryz.f4 false true false false):=by
 refine returnsInHanded_of_change_and (C:=Tryz.checked) (X:=fun w _=>laidMetH Tryz.prog Rows.knownRow.laid w) (fun _ _ _ hh h=>h.of_heap hh) zJN started (by kernel_rfl) Tryz.func4
  (ChangeSpec.witness_shaped (enc:=enc) (C:=Tryz.checked) (os:=os) (X:=fun w _=>laidMetH Tryz.prog Rows.knownRow.laid w) false (World.doorLaid Tryz.prog 400 os) #[.int .i64 0,.int .i64 0] 8 rfl (World.shaped_of_RefB (by kernel_rfl) (by kernel_rfl)) (by kernel_rfl) (by kernel_rfl) (by kernel_rfl) (zIK os _)) ?_
 intro W base args ds gs before hval0 hW _ _ hL _
 have hval:∀ (j:Nat) t v,Tryz.f4.params[j]?=some t→args[j]?=some v→Value.okWide Tryz.prog W .any base t v:=hval0
 have hW':=hW
 obtain⟨p,q,hA0,hV,rfl,hfz,hnd⟩:=hW
 have hA:DataW.TrodAll enc Tryz.prog W 0 (fun _=>true) true Tryz.f4.params.toList args.toList ds p:=hA0
 rw[Tryz.params4] at hA hval
 obtain⟨v0,v1,d0,d1,p0,p1,rfl,rfl,rfl,h0,h1⟩:=trodAll_two hA
 obtain⟨rfl,rfl⟩:=trodVars_none hV
 obtain⟨q0,rfl,rfl,rfl,wf0⟩:=open_int Tryz.underlying3 (hval 0 3 v0 rfl rfl) h0
 obtain⟨q1,rfl,rfl,rfl,wf1⟩:=open_int Tryz.underlying3 (hval 1 3 v1 rfl rfl) h1
 clear hA0 hval0
 simp only[List.append_nil] at hW'
 have e1:Rows.knownSpec.fn H ([.lit (.int .i64 q0),.lit (.int .i64 q1)]++[])={ results:=[.lit (.bool true)],args:=[.lit (.int .i64 q0),.lit (.int .i64 q1)] }:=by simp[Rows.knownSpec]
 refine (zIJ P.kns_ok q0 q1 W (zFV wf0).1 (zFV wf0).2 (zFV wf1).1 (zFV wf1).2).mono fun e W' ⟨he,hB⟩=>?_
 subst he
 refine⟨_,rfl,_,_,_,[],[],[],hW',?_,?_,?_,hB.frame _,fun h=>by cases h⟩
 ·rw[e1];exact trodAll_mk1 (shut_bool Tryz.underlying4 true)
 ·rw[e1];exact trodAll_mk2 (shut_int Tryz.underlying3 wf0) (shut_int Tryz.underlying3 wf1)
 ·rw[e1];rfl
theorem known_holds:Rows.KnownSaid :=
 OpenClaim.holds_of_wide 4 Tryz.f4 rfl rfl rfl rfl rfl rfl rfl ⟨rfl,rfl,rfl,rfl,rfl⟩ rfl rfl rfl rfl rfl (by kernel_rfl) Tryz.func4 (by kernel_rfl)
  (of_decide_eq_true (by kernel_rfl)) (by unfold Func.isWrapper;first | (rw[if_pos (by decide +kernel)];kernel_rfl) | (rw[if_neg (by decide +kernel)];exact⟨rfl,rfl⟩))
  (fun os started H enc _=>zGJ os started H enc)
theorem known_card_holds:Rows.KnownCardSaid :=
 Claim7.holds_tied_plain_at .later [] [.data,.data,.data] true Rows.knownCard.stood.harness false
  known_holds (fun _ h=>by cases h) (by kernel_rfl) (fun _ h=>by cases h) known_row_tie rfl ⟨rfl,rfl⟩ (by kernel_rfl) rfl
  (fun f fn hf hfn=>by
   obtain rfl:f=4:=Option.some.inj ((show Tryz.prog.funcNamed Rows.knownRow.func=some 4 by kernel_rfl).symm.trans hf) |>.symm
   obtain rfl:fn=Tryz.f4:=(Option.some.inj (Tryz.func4.symm.trans hfn)).symm
   exact⟨by kernel_rfl,fun j t ht=>by
    rw[Tryz.params4] at ht
    have hm:t∈[3,3]:=by simpa using Array.mem_of_getElem? ht
    have hall:([3,3].all fun u=>!Tryz.prog.wantsStandIn u)=true:=by kernel_rfl
    exact (show Tryz.prog.wantsStandIn t=false by simpa using List.all_eq_true.1 hall t hm)⟩)
  (by kernel_rfl)
#print axioms known_card_holds
end Go.Proofs.YtgceflcbckjjiaaGreatDoor
