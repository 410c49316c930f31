import Derived.Test.YtkmebkbpfmoeaaaGreatRows
import Derived.ProofKit
import Derived.ChangeBears2
import Derived.OpenShut
import Derived.Test.YtkmebkbpfmoeaaaGreatF44
set_option linter.unusedVariables false
set_option linter.unusedSimpArgs false
set_option maxHeartbeats 12800000
namespace Go.Proofs.YtkmebkbpfmoeaaaGreat
open Go Go.RowKit
set_option maxRecDepth 100000
theorem zGK (c:Int) (n:Nat) (w:World) (h0:-9223372036854775808≤c) (h1:c<9223372036854775808) (hn:0<n) (hn2:n<1000000) :
  Calls Tryz.prog 14 #[.int .i64 c,.int .i64 (n:Int)] w fun e w'=>∃ i:Nat,i<n∧e=.returned (.int .i64 (i:Int))∧w'=w:=by
 have hz:((n:Int)==0)=false:=by rw[beq_eq_false_iff_ne];omega
 have hz1:¬ ((n:Int)=0):=by omega
 have hz2:¬ (n=0):=by omega
 have hz3:((n:Int) == -1)=false:=by rw[beq_eq_false_iff_ne];omega
 by_cases hc:c<0
 ·have hw1:IntKind.i64.wrap (c+1)=c+1:=by simp[IntKind.wrap,IntKind.signed,IntKind.bits];omega
  have hw2:IntKind.i64.wrap (-(c+1))=-(c+1):=by simp[IntKind.wrap,IntKind.signed,IntKind.bits];omega
  have e1:(-(c+1)).tmod (n:Int)=(-(c+1)) % (n:Int):=Int.tmod_eq_emod_of_nonneg (by omega)
  have e0:=Int.emod_nonneg (-(c+1)) (b:=(n:Int)) (by omega)
  have e2:=Int.emod_lt_of_pos (-(c+1)) (b:=(n:Int)) (by omega)
  have HR:Hid ((-(c+1)).tmod (n:Int)=(((-(c+1)) % (n:Int)).toNat:Int)):=by unfold Hid;rw[e1];omega
  have HR2:Hid (-((c+1).tmod (n:Int))=(((-(c+1)) % (n:Int)).toNat:Int)):=by unfold Hid;rw[← Int.neg_tmod,e1];omega
  have hfin:((-(c+1)) % (n:Int)).toNat<n:=by omega
  clear e1 e0 e2
  generalize ((-(c+1)) % (n:Int)).toNat=i at *
  go_enter Tryz.func14,Tryz.ntmps14
  go_wp2
  go_ret
  refine⟨i,hfin,?_,rfl⟩
  first
   | (rw[← HR2.out];rfl)
   | (rw[← HR.out];rfl)
 ·have e0:=Int.emod_nonneg c (b:=(n:Int)) (by omega)
  have e2:=Int.emod_lt_of_pos c (b:=(n:Int)) (by omega)
  have HR:Hid (c % (n:Int)=((c % (n:Int)).toNat:Int)):=by unfold Hid;omega
  have HR2:Hid (c.tmod (n:Int)=((c % (n:Int)).toNat:Int)):=by unfold Hid;rw[Int.tmod_eq_emod_of_nonneg (by omega)];omega
  have hfin:(c % (n:Int)).toNat<n:=by omega
  clear e0 e2
  generalize (c % (n:Int)).toNat=i at *
  go_enter Tryz.func14,Tryz.ntmps14
  go_wp2
  go_ret
  refine⟨i,hfin,?_,rfl⟩
  first
   | (rw[← HR2.out];rfl)
   | (rw[← HR.out];rfl)
theorem zFl (s:ByteArray) (a:Int) (w:World) (hs:s.size≤8192) (a0:-9223372036854775808≤a) (a1:a<9223372036854775808) :
  Calls Tryz.prog 10 #[.string s,.int .i64 a] w fun e w'=>e=.returned (.bool true)∧Below w.heap.size w w':=by
 cases ze:((P.kernel s.toList).2.1 != 0)
 ·have he0:(P.kernel s.toList).2.1=0:=by simpa using ze
  obtain⟨r1,hz2,hrun,hlast,_,hthr,_⟩:=P.kernel_rows he0
  rw[zAD] at hz2
  have hxne:0<(P.zIk 10 s.toList).dropLast.length:=by
   by_cases c:0<(P.zIk 10 s.toList).dropLast.length
   ·exact c
   ·have:(P.zIk 10 s.toList).dropLast=[]:=List.eq_nil_of_length_eq_zero (by omega)
    rw[this] at hrun
    simp[P.zJq] at hrun
    rw[← hrun] at hthr
    exact absurd rfl hthr
  have HXN:=zAa hxne
  clear hxne
  have HLAW:=zAa (fun (k:Nat) (h1:0<k) (h2:k≤(P.zIk 10 s.toList).dropLast.length)=>P.fenced_law he0 h1 h2)
  have HSK:=zAa (fun w=>zCt s w hs he0)
  have HLN:=zAa (Q.source_lens (P.zIG he0))
  have HFW:=zAa (Q.zIK (P.zIG he0))
  clear ze he0 hrun hlast hthr
  generalize hso:Q.zIx (P.kernel s.toList).1=SO at *
  generalize hcl:SO.clash=cl at *
  clear hso
  go_enter Tryz.func10,Tryz.ntmps10
  go_wp2_with (first
   | (go_at_call_of 13 (Value.string s);refine (HSK.out _).mono ?_;rintro e w1 ⟨ov,vs,rfl,hri,hb1⟩;have RI:=zAa hri;have B1:=zAa hb1;clear hri hb1)
   | (go_at_call_of 17 (Value.string s);refine (zFV s _ (by omega)).mono ?_;rintro e w2 ⟨v,ws,rfl,hws,hxs,hown,hb2⟩;have HWS:=zAa hws;have HXS:=zAa hxs;have HOW:=zAa hown;have RI2:=zAa (RI.out.below hb2);have B2:=zAa (zAn B1.out (Nat.le_refl _) hb2);obtain⟨va,vc,hv⟩:=zGJ hown;subst hv;have HWL:Hid (ws.length=(P.zIk 10 s.toList).dropLast.length):=(by have h6:=congrArg List.length hws;rw[List.length_map] at h6;exact h6);have hwl:ws.length≤2000:=(by have h7:=P.zIH 10 s.toList;rw[zAD] at h7;rw[HWL.out,List.length_dropLast];omega);have hwp:0<ws.length:=(by rw[HWL.out];exact HXN.out);clear hws hxs hown hb2)
   | (go_at_call 14;refine (zGK a ws.length _ a0 a1 hwp (by omega)).mono ?_;rintro e wp ⟨i,hi,rfl,hwp2⟩;subst hwp2))
  clear HSK
  obtain⟨k,hk⟩:∃ k:Nat,k=i+1:=⟨_,rfl⟩
  have hki:(1:Int)+(i:Int)=(k:Int):=by omega
  have hk1:0<k:=by omega
  have hk2:k≤ws.length:=by omega
  have hlaw:=HLAW.out k hk1 (by rw[← HWL.out];exact hk2)
  rw[← HWS.out] at hlaw
  have HLW:=zAa hlaw
  clear hlaw HLAW hk hi HWL HXN
  (try rw[hki])
  clear hki
  go_loopw [11,12] (fun tv iv wr=>∃ (j:Nat) (t:ByteArray),j≤ws.length∧iv=.int .i64 (j:Int)∧tv=.string t∧t.size≤j*3000+16∧Hid (t.toList=P.accF k (ws.map ByteArray.toList) j)∧wr=wp) (fun _ iv _=>ws.length-(intOf iv).toNat)
  case atStart=>exact⟨0,ByteArray.empty,Nat.zero_le _,rfl,rfl,by simp,by unfold Hid P.accF;rw[if_neg (by omega),List.take_zero,zAN];rfl,rfl⟩
  case round =>
   obtain⟨j,t,hj,rfl,rfl,htz,HT,rfl⟩:=hrel
   by_cases hlt:j<ws.length
   ·have hlt':(j:Int)<(ws.length:Int):=by omega
    obtain⟨gl,hva⟩:∃ gl,va=some ⟨gl,0,none⟩:=by
     rcases HOW.out.2 with ⟨e1,h9⟩ | ⟨gl,c2,cur,e1,_⟩
     ·omega
     ·simp only[Value.slice.injEq] at e1
      exact⟨gl,e1.1⟩
    subst hva
    have cj:=HOW.out.cellAt j (by omega)
    simp only[List.getElem?_map,List.getElem?_eq_getElem hlt,Option.map_some] at cj
    have lgl:=(HOW.out.lt gl rfl).2
    have hjm:j<(ws.map ByteArray.toList).length:=by simpa using hlt
    have HS1:Hid (j≠k→(t++ws[j]++⟨#[10]⟩:ByteArray).toList=P.accF k (ws.map ByteArray.toList) (j+1)):=fun hne=>by
     rw[P.accF_same hjm hne,zAq,zAq,HT.out,show (⟨#[10]⟩:ByteArray).toList=[10] from zAe _,List.getElem_map,List.append_assoc]
    have HS2:Hid (j=k→(t++⟨#[102,101,110,99,101,32,115,99,32,100,101,118,105,99,101,10]⟩++ws[j]++⟨#[10]⟩:ByteArray).toList=P.accF k (ws.map ByteArray.toList) (j+1)):=fun he=>by
     subst he
     rw[P.accF_here hjm,zAq,zAq,zAq,HT.out,show (⟨#[10]⟩:ByteArray).toList=[10] from zAe _,show (⟨#[102,101,110,99,101,32,115,99,32,100,101,118,105,99,101,10]⟩:ByteArray).toList=P.fenceRow++[10] from zAe _,List.getElem_map,List.append_assoc]
    have hxz:ws[j].size≤2000:=Nat.le_trans (HXS.out _ (List.getElem_mem hlt)) hz2
    generalize ws[j]=x at *
    have hxx:(x.size:Int)≤2000:=by omega
    have htt:(t.size:Int)≤10000000:=by omega
    by_cases hjk:j=k
    ·have hq:((j:Int)==(k:Int))=true:=by rw[hjk];simp
     have HR:=zAa (HS2.out hjk)
     have hsF:(t++⟨#[102,101,110,99,101,32,115,99,32,100,101,118,105,99,101,10]⟩:ByteArray).size=t.size+16:=by rw[ByteArray.size_append];rfl
     have hsF':((t++⟨#[102,101,110,99,101,32,115,99,32,100,101,118,105,99,101,10]⟩:ByteArray).size:Int)≤10000016:=by omega
     have hsG:(t++⟨#[102,101,110,99,101,32,115,99,32,100,101,118,105,99,101,10]⟩++x:ByteArray).size=t.size+16+x.size:=by rw[ByteArray.size_append,hsF]
     have hsG':((t++⟨#[102,101,110,99,101,32,115,99,32,100,101,118,105,99,101,10]⟩++x:ByteArray).size:Int)≤10002016:=by omega
     clear HS1 HS2 hjk
     go_wp2
     go_roundw
     case rel=>exact⟨j+1,t++⟨#[102,101,110,99,101,32,115,99,32,100,101,118,105,99,101,10]⟩++x++⟨#[10]⟩,by omega,by go_num,rfl,by rw[ByteArray.size_append,hsG,show (⟨#[10]⟩:ByteArray).size=1 from rfl];omega,HR,by first | rfl | trivial⟩
     case measure=>simp[intOf];omega
    ·have hq:((j:Int)==(k:Int))=false:=by rw[beq_eq_false_iff_ne];omega
     have HR:=zAa (HS1.out hjk)
     have hsG:(t++x:ByteArray).size=t.size+x.size:=by rw[ByteArray.size_append]
     have hsG':((t++x:ByteArray).size:Int)≤10002016:=by omega
     clear HS1 HS2 hjk
     go_wp2
     go_roundw
     case rel=>exact⟨j+1,t++x++⟨#[10]⟩,by omega,by go_num,rfl,by rw[ByteArray.size_append,hsG,show (⟨#[10]⟩:ByteArray).size=1 from rfl];omega,HR,by first | rfl | trivial⟩
     case measure=>simp[intOf];omega
   ·have hnlt:decide ((j:Int)<(ws.length:Int))=false:=decide_eq_false (by omega)
    have hje:j=ws.length:=by omega
    have htt:(t.size:Int)≤10000000:=by omega
    have hend:∃ t2:ByteArray,t2=(if k=ws.length then t++⟨#[102,101,110,99,101,32,115,99,32,100,101,118,105,99,101,10]⟩ else t)∧t2.toList=P.textOf (P.rowsF k (ws.map ByteArray.toList)):=by
     by_cases c:k=ws.length
     ·refine⟨_,rfl,?_⟩
      rw[if_pos c,zAq,HT.out,hje,zAe,c]
      have:=P.accF_end (ws.map ByteArray.toList)
      rw[List.length_map] at this
      exact this
     ·refine⟨_,rfl,?_⟩
      rw[if_neg c,HT.out,hje]
      have:=P.accF_all (k:=k) (xs:=ws.map ByteArray.toList) (by rw[List.length_map];omega)
      rw[List.length_map] at this
      exact this
    obtain⟨t2,ht2,htx⟩:=hend
    rw[← htx] at HLW
    have hts:t2.size≤8192:=by have:=HLW.out.1;rw[zAD] at this;omega
    clear hje HT HXS HOW HWS htz
    by_cases ckl:k=ws.length
    ·have hq:((k:Int)==(ws.length:Int))=true:=by rw[ckl];simp
     rw[if_pos ckl] at ht2
     clear ckl
     go_upto_region 15 with fail
     rw[← ht2]
     clear ht2
     rcases HLW.out.2 with e | e | e | ⟨e,hin,hhit⟩
     ·have HSF:=zAa (fun w=>zBl t2 w hts (by rw[e];rfl))
      rw[e] at HSF
      clear HLW e
      go_wp2_with (first
       | (go_at_call_of 13 (Value.string t2);refine (HSF.out _).mono ?_;rintro e w3 ⟨rfl,hb3⟩;have B3:=zAa (zAn B2.out (Nat.le_refl _) hb3);clear hb3))
      go_ret
      exact⟨rfl,B3.out⟩
     ·have HSF:=zAa (fun w=>zBl t2 w hts (by rw[e];rfl))
      rw[e] at HSF
      clear HLW e
      go_wp2_with (first
       | (go_at_call_of 13 (Value.string t2);refine (HSF.out _).mono ?_;rintro e w3 ⟨rfl,hb3⟩;have B3:=zAa (zAn B2.out (Nat.le_refl _) hb3);clear hb3))
      go_ret
      exact⟨rfl,B3.out⟩
     ·have HSF:=zAa (fun w=>zBl t2 w hts (by rw[e];rfl))
      rw[e] at HSF
      clear HLW e
      go_wp2_with (first
       | (go_at_call_of 13 (Value.string t2);refine (HSF.out _).mono ?_;rintro e w3 ⟨rfl,hb3⟩;have B3:=zAa (zAn B2.out (Nat.le_refl _) hb3);clear hb3))
      go_ret
      exact⟨rfl,B3.out⟩
     ·have HSK:=zAa (fun w=>zCt t2 w hts e)
      have HFW2:=zAa (Q.zIK (P.zIG e))
      generalize hsq:Q.zIx (P.kernel t2.toList).1=SQ at *
      generalize hht:SQ.clash=hit at *
      have HIN:=zAa hin
      clear hsq e HLW hin
      cases cl
      ·have hh:=hhit rfl
       subst hh
       go_wp2_with (first
        | (go_at_call_of 13 (Value.string t2);refine (HSK.out _).mono ?_;rintro e w3 ⟨ov3,vs3,rfl,hri3,hb3⟩;have RI3:=zAa hri3;have RI4:=zAa (RI2.out.below hb3);have B3:=zAa (zAn B2.out (Nat.le_refl _) hb3);clear hri3 hb3)
        | (go_at_call 21;refine (zCs _ _ _ _ _ _ _ _ _ RI3.out RI4.out HLN.out HFW2.out HFW.out).mono ?_;rw[HIN.out];rintro e w4 ⟨rfl,hb4⟩;have B4:=zAa (zAn B3.out (Nat.le_refl _) hb4);clear hb4))
       go_ret
       exact⟨rfl,B4.out⟩
      ·clear hhit
       cases hit
       all_goals
        go_wp2_with (first
         | (go_at_call_of 13 (Value.string t2);refine (HSK.out _).mono ?_;rintro e w3 ⟨ov3,vs3,rfl,hri3,hb3⟩;have RI3:=zAa hri3;have RI4:=zAa (RI2.out.below hb3);have B3:=zAa (zAn B2.out (Nat.le_refl _) hb3);clear hri3 hb3)
         | (go_at_call 21;refine (zCs _ _ _ _ _ _ _ _ _ RI3.out RI4.out HLN.out HFW2.out HFW.out).mono ?_;rw[HIN.out];rintro e w4 ⟨rfl,hb4⟩;have B4:=zAa (zAn B3.out (Nat.le_refl _) hb4);clear hb4))
        go_ret
        exact⟨rfl,B4.out⟩
    ·have hq:((k:Int)==(ws.length:Int))=false:=by rw[beq_eq_false_iff_ne];omega
     rw[if_neg ckl] at ht2
     subst ht2
     clear ckl
     go_upto_region 15 with fail
     rcases HLW.out.2 with e | e | e | ⟨e,hin,hhit⟩
     ·have HSF:=zAa (fun w=>zBl t2 w hts (by rw[e];rfl))
      rw[e] at HSF
      clear HLW e
      go_wp2_with (first
       | (go_at_call_of 13 (Value.string t2);refine (HSF.out _).mono ?_;rintro e w3 ⟨rfl,hb3⟩;have B3:=zAa (zAn B2.out (Nat.le_refl _) hb3);clear hb3))
      go_ret
      exact⟨rfl,B3.out⟩
     ·have HSF:=zAa (fun w=>zBl t2 w hts (by rw[e];rfl))
      rw[e] at HSF
      clear HLW e
      go_wp2_with (first
       | (go_at_call_of 13 (Value.string t2);refine (HSF.out _).mono ?_;rintro e w3 ⟨rfl,hb3⟩;have B3:=zAa (zAn B2.out (Nat.le_refl _) hb3);clear hb3))
      go_ret
      exact⟨rfl,B3.out⟩
     ·have HSF:=zAa (fun w=>zBl t2 w hts (by rw[e];rfl))
      rw[e] at HSF
      clear HLW e
      go_wp2_with (first
       | (go_at_call_of 13 (Value.string t2);refine (HSF.out _).mono ?_;rintro e w3 ⟨rfl,hb3⟩;have B3:=zAa (zAn B2.out (Nat.le_refl _) hb3);clear hb3))
      go_ret
      exact⟨rfl,B3.out⟩
     ·have HSK:=zAa (fun w=>zCt t2 w hts e)
      have HFW2:=zAa (Q.zIK (P.zIG e))
      generalize hsq:Q.zIx (P.kernel t2.toList).1=SQ at *
      generalize hht:SQ.clash=hit at *
      have HIN:=zAa hin
      clear hsq e HLW hin
      cases cl
      ·have hh:=hhit rfl
       subst hh
       go_wp2_with (first
        | (go_at_call_of 13 (Value.string t2);refine (HSK.out _).mono ?_;rintro e w3 ⟨ov3,vs3,rfl,hri3,hb3⟩;have RI3:=zAa hri3;have RI4:=zAa (RI2.out.below hb3);have B3:=zAa (zAn B2.out (Nat.le_refl _) hb3);clear hri3 hb3)
        | (go_at_call 21;refine (zCs _ _ _ _ _ _ _ _ _ RI3.out RI4.out HLN.out HFW2.out HFW.out).mono ?_;rw[HIN.out];rintro e w4 ⟨rfl,hb4⟩;have B4:=zAa (zAn B3.out (Nat.le_refl _) hb4);clear hb4))
       go_ret
       exact⟨rfl,B4.out⟩
      ·clear hhit
       cases hit
       all_goals
        go_wp2_with (first
         | (go_at_call_of 13 (Value.string t2);refine (HSK.out _).mono ?_;rintro e w3 ⟨ov3,vs3,rfl,hri3,hb3⟩;have RI3:=zAa hri3;have RI4:=zAa (RI2.out.below hb3);have B3:=zAa (zAn B2.out (Nat.le_refl _) hb3);clear hri3 hb3)
         | (go_at_call 21;refine (zCs _ _ _ _ _ _ _ _ _ RI3.out RI4.out HLN.out HFW2.out HFW.out).mono ?_;rw[HIN.out];rintro e w4 ⟨rfl,hb4⟩;have B4:=zAa (zAn B3.out (Nat.le_refl _) hb4);clear hb4))
        go_ret
        exact⟨rfl,B4.out⟩
 ·have HSF:=zAa (fun w=>zBl s w hs ze)
  go_enter Tryz.func10,Tryz.ntmps10
  go_wp2_with (first
   | (go_at_call_of 13 (Value.string s);refine (HSF.out _).mono ?_;rintro e w1 ⟨rfl,hb1⟩;have B1:=zAa hb1;clear hb1))
  go_ret
  exact⟨rfl,B1.out⟩
theorem zFm (HK:Hid (∀ x∈P.kns,P.AnsZ x.1)) (s:ByteArray) (a:Int) (w:World) (a0:-9223372036854775808≤a) (a1:a<9223372036854775808) :
  Calls Tryz.prog 5 #[.string s,.int .i64 a] w fun e w'=>e=.returned (.bool true)∧Below w.heap.size w w':=by
 by_cases hs:s.size≤8192
 ·have hs':¬ ((8192:Int)<(s.size:Int)):=by omega
  have hz0:-9223372036854775808≤(s.size:Int):=by omega
  have hz1:(s.size:Int)<9223372036854775808:=by omega
  go_enter Tryz.func5,Tryz.ntmps5
  go_wp2_with (first
   | (go_at_call 7;refine (zEH HK (s.size:Int) _ hz0 hz1).mono ?_;rintro e w1 ⟨rfl,hb1⟩;have B1:=zAa hb1;clear hb1)
   | (go_at_call 10;refine (zFl s a _ hs a0 a1).mono ?_;rintro e w2 ⟨rfl,hb2⟩;have B2:=zAa (zAn B1.out (Nat.le_refl _) hb2);clear hb2))
  go_ret
  exact⟨rfl,B2.out⟩
 ·have hs':(8192:Int)<(s.size:Int):=by omega
  go_enter Tryz.func5,Tryz.ntmps5
  go_wp2
  go_ret
  exact⟨rfl,Below.refl _ _⟩
end Go.Proofs.YtkmebkbpfmoeaaaGreat
namespace Go.Proofs.YtkmebkbpfmoeaaaGreat
open Go Go.ChangeShapes Go.WideShapes Go.ChangeAt Go.RowKit Go.WideElems
open Go.ChangeMaps (open_string shut_string)
theorem zFF {n:Int} (h:(Lit.int .i64 n).wf=true):-9223372036854775808≤n∧n<9223372036854775808:=by
 simp only[Lit.wf,Bool.and_eq_true,decide_eq_true_eq] at h
 have h1:IntKind.i64.min=-9223372036854775808:=rfl
 have h2:IntKind.i64.max=9223372036854775807:=rfl
 omega
theorem zGL:ownKnob Tryz.prog.godebug=none:=by kernel_rfl
set_option maxRecDepth 100000 in
theorem zEg (os:Os) (started:os.Started) (H:Type) (enc:TypeId × Value→H) :
  ReturnsInHanded {} Tryz.checked os 5 .any (Rows.fencedSpec.pre6 enc Tryz.prog Tryz.f5 Rows.fencedRow.domain false) (Rows.fencedSpec.post enc Tryz.prog Tryz.f5 false true false false):=by
 refine returnsInHanded_of_change (C:=Tryz.checked) zGL started (by kernel_rfl) Tryz.func5
  (ChangeSpec.witness6 (enc:=enc) (C:=Tryz.checked) false ⟨#[],#[.string ⟨#[]⟩,.int .i64 0],[]⟩ 8 (by kernel_rfl) (by kernel_rfl) (by kernel_rfl) (by kernel_rfl)) ?_
 intro W base args ds gs before hval0 hW _ _
 have hval:∀ (j:Nat) t v,Tryz.f5.params[j]?=some t→args[j]?=some v→Value.okWide Tryz.prog W .any base t v:=hval0
 have hW':=hW
 obtain⟨p,q,hA0,hV,rfl,hfz,hnd⟩:=hW
 have hA:DataW.TrodAll enc Tryz.prog W 0 (fun _=>true) true Tryz.f5.params.toList args.toList ds p:=hA0
 rw[Tryz.params5] at hA hval
 obtain⟨v0,v1,d0,d1,p0,p1,rfl,rfl,rfl,h0,h1⟩:=trodAll_two hA
 obtain⟨rfl,rfl⟩:=trodVars_none hV
 obtain⟨s,rfl,rfl,rfl,ws⟩:=open_string Tryz.underlying9 (hval 0 9 v0 rfl rfl) h0
 obtain⟨q1,rfl,rfl,rfl,wf1⟩:=open_int Tryz.underlying3 (hval 1 3 v1 rfl rfl) h1
 clear hA0 hval0
 simp only[List.append_nil] at hW'
 have e1:Rows.fencedSpec.fn H ([.lit (.string s.data.toList),.lit (.int .i64 q1)]++[])={ results:=[.lit (.bool true)],args:=[.lit (.string s.data.toList),.lit (.int .i64 q1)] }:=by simp[Rows.fencedSpec]
 refine (zFm P.kns_ansZ s q1 W (zFF wf1).1 (zFF wf1).2).mono fun e W' ⟨he,hB⟩=>?_
 subst he
 refine⟨_,rfl,_,_,_,[],[],[],hW',?_,?_,?_,hB.frame _,fun h=>by cases h⟩
 ·rw[e1];exact trodAll_mk1 (shut_bool Tryz.underlying4 true)
 ·rw[e1];exact trodAll_mk2 (shut_string Tryz.underlying9 ws) (shut_int Tryz.underlying3 wf1)
 ·rw[e1];rfl
theorem fenced_holds:Rows.FencedSaid :=
 OpenClaim.holds_of_wide 5 Tryz.f5 rfl rfl rfl rfl rfl rfl rfl ⟨rfl,rfl,rfl,rfl,rfl⟩ rfl rfl rfl rfl rfl (by kernel_rfl) Tryz.func5 (by kernel_rfl)
  (of_decide_eq_true (by kernel_rfl)) (by unfold Func.isWrapper;first | (rw[if_pos (by decide +kernel)];kernel_rfl) | (rw[if_neg (by decide +kernel)];exact⟨rfl,rfl⟩))
  (fun os started H enc _=>zEg os started H enc)
#print axioms fenced_holds
end Go.Proofs.YtkmebkbpfmoeaaaGreat
