import Derived.Test.YtkmebkbpfmoeaaaGreatRows
import Derived.ProofKit
import Derived.ChangeBears2
import Derived.OpenShut
import Derived.Test.YtkmebkbpfmoeaaaGreatE40
set_option linter.unusedVariables false
set_option linter.unusedSimpArgs false
set_option maxHeartbeats 12800000
namespace Go.Proofs.YtkmebkbpfmoeaaaGreat
open Go Go.RowKit
set_option maxRecDepth 100000
namespace P
def ansB (s:List UInt8) (d:List Int):Bool :=
 ((kernel s).2.1==0)&&decide (s.length≤2000)&&(Q.zIz (zAZ (Q.runs (kernel s).1))).contains d&&(Q.candsIn (Q.zIi (Q.runs (kernel s).1) d) (Q.zIu (Q.zIi (Q.runs (kernel s).1) d).events)).any fun c=>(Q.ordsOf c.wd).any fun ds=>Q.srcMay c ds
structure AnsZ (s:List UInt8):Prop where
 size:s.length≤2000
 e:(kernel s).2.1=0
 ne:(Q.zIB (kernel s).1).rows≠[]
theorem ansB_ok {s:List UInt8} (d:List Int) (h:ansB s d=true):AnsZ s:=by
 unfold ansB at h
 simp only[Bool.and_eq_true,beq_iff_eq,decide_eq_true_eq,List.contains_iff_mem,List.any_eq_true] at h
 obtain⟨⟨⟨h1,h2⟩,h3⟩,c,hc,ds,hds,hm⟩:=h
 refine⟨h2,h1,fun e=>?_⟩
 have hcm:c∈Q.cands (kernel s).1:=by
  unfold Q.cands
  rw[List.mem_flatMap]
  exact⟨d,h3,hc⟩
 have:=(Q.source_rows (kernel s).1 _).2 ⟨c,hcm,ds,hds,hm,rfl⟩
 rw[e] at this
 simp at this
theorem kz_0:ansB kn0.1 [0,0]=true:=by decide +kernel
theorem kz_1:ansB kn1.1 [0,0]=true:=by decide +kernel
theorem kz_2:ansB kn2.1 [0,0]=true:=by decide +kernel
theorem kz_3:ansB kn3.1 [0,0]=true:=by decide +kernel
theorem kz_4:ansB kn4.1 [0,0]=true:=by decide +kernel
theorem kz_5:ansB kn5.1 [0,0]=true:=by decide +kernel
theorem kz_6:ansB kn6.1 [0,0]=true:=by decide +kernel
theorem kz_7:ansB kn7.1 [0,0]=true:=by decide +kernel
theorem kz_8:ansB kn8.1 [0,0]=true:=by decide +kernel
theorem kz_9:ansB kn9.1 [0,0]=true:=by decide +kernel
theorem kz_10:ansB kn10.1 [0,0]=true:=by decide +kernel
theorem kz_11:ansB kn11.1 [0,0]=true:=by decide +kernel
theorem kz_12:ansB kn12.1 [1,0]=true:=by decide +kernel
theorem kz_13:ansB kn13.1 [0,0]=true:=by decide +kernel
theorem kz_14:ansB kn14.1 [0,0]=true:=by decide +kernel
theorem kz_15:ansB kn15.1 [0,0]=true:=by decide +kernel
theorem kz_16:ansB kn16.1 [0,0]=true:=by decide +kernel
theorem kz_17:ansB kn17.1 [0,0,0,0]=true:=by decide +kernel
theorem kz_18:ansB kn18.1 [0,0,0,0]=true:=by decide +kernel
theorem kz_19:ansB kn19.1 [0,0,0,0]=true:=by decide +kernel
theorem kz_20:ansB kn20.1 [1,0]=true:=by decide +kernel
theorem kz_21:ansB kn21.1 [2,0]=true:=by decide +kernel
theorem kz_22:ansB kn22.1 [0,1]=true:=by decide +kernel
theorem kz_23:ansB kn23.1 [0,0]=true:=by decide +kernel
theorem kz_24:ansB kn24.1 [0,0,0]=true:=by decide +kernel
theorem kz_25:ansB kn25.1 [1]=true:=by decide +kernel
theorem kz_26:ansB kn26.1 [0,0]=true:=by decide +kernel
theorem kz_27:ansB kn27.1 [0,0]=true:=by decide +kernel
theorem kz_28:ansB kn28.1 [0,0,0]=true:=by decide +kernel
theorem kns_ansZ:∀ x∈kns,AnsZ x.1:=by
 intro x hx
 simp only[kns,List.mem_cons,List.not_mem_nil,or_false] at hx
 rcases hx with rfl | rfl | rfl | rfl | rfl | rfl | rfl | rfl | rfl | rfl | rfl | rfl | rfl | rfl | rfl | rfl | rfl | rfl | rfl | rfl | rfl | rfl | rfl | rfl | rfl | rfl | rfl | rfl | rfl
 ·exact ansB_ok _ kz_0
 ·exact ansB_ok _ kz_1
 ·exact ansB_ok _ kz_2
 ·exact ansB_ok _ kz_3
 ·exact ansB_ok _ kz_4
 ·exact ansB_ok _ kz_5
 ·exact ansB_ok _ kz_6
 ·exact ansB_ok _ kz_7
 ·exact ansB_ok _ kz_8
 ·exact ansB_ok _ kz_9
 ·exact ansB_ok _ kz_10
 ·exact ansB_ok _ kz_11
 ·exact ansB_ok _ kz_12
 ·exact ansB_ok _ kz_13
 ·exact ansB_ok _ kz_14
 ·exact ansB_ok _ kz_15
 ·exact ansB_ok _ kz_16
 ·exact ansB_ok _ kz_17
 ·exact ansB_ok _ kz_18
 ·exact ansB_ok _ kz_19
 ·exact ansB_ok _ kz_20
 ·exact ansB_ok _ kz_21
 ·exact ansB_ok _ kz_22
 ·exact ansB_ok _ kz_23
 ·exact ansB_ok _ kz_24
 ·exact ansB_ok _ kz_25
 ·exact ansB_ok _ kz_26
 ·exact ansB_ok _ kz_27
 ·exact ansB_ok _ kz_28
end P
theorem zFs (s:ByteArray) (l:List UInt8) (w:World) (hs:s.toList=l) (hz:s.size≤8192) (h:P.AnsZ l) :
  Calls Tryz.prog 13 #[.string s] w fun e w'=>∃ ov cl n a c,e=.returned (.tuple #[ov,.bool cl,.int .i64 0,.int .i64 0])∧ov=.slice a n c∧0<n∧n<100000000∧Below w.heap.size w w':=by
 subst hs
 refine (zCS s w hz h.e).mono ?_
 rintro e w' ⟨ov,vs,rfl,hri,hb⟩
 obtain⟨a,c,ho,_⟩:=hri.form
 exact⟨ov,_,_,a,c,rfl,ho,List.length_pos_iff.2 h.ne,Q.zJd (P.zIJ h.e),hb⟩
theorem zEN (HK:Hid (∀ x∈P.kns,P.AnsZ x.1)) (c:Int) (w:World) (h0:-9223372036854775808≤c) (h1:c<9223372036854775808) :
  Calls Tryz.prog 7 #[.int .i64 c] w fun e w'=>e=.returned (.bool true)∧Below w.heap.size w w':=by
 go_enter Tryz.func7,Tryz.ntmps7
 go_wp2_with (first
  | (go_at_call 12;refine (zGj _).mono ?_;rintro e w1 ⟨rfl,hkn,hlk,hb1⟩;have KN:=zAa hkn;have B1:=zAa hb1;clear hkn hb1;generalize hgk:w.heap.size+14=gk at *)
  | (go_at_call 14;refine (zGa c _ h0 h1).mono ?_;rintro e wp ⟨i,hi,rfl,hwp⟩;subst hwp;obtain⟨x,hx⟩:∃ x,P.kns[i]?=some x:=⟨P.kns[i]'hi,List.getElem?_eq_getElem hi⟩;have XO:=zAa (HK.out x (List.mem_of_getElem? hx));obtain⟨s,gw,hs,cs,cw,cm,cc,hrw⟩:=KN.out i x hx;have HS:=zAa hs;have hi29:(i:Int)<29:=(by omega);have hsz:s.size≤8192:=(by have h9:=XO.out.size;rw[← hs,zAi] at h9;omega);clear hs hrw hx)
  | (go_at_call 13;refine (zFs s x.1 _ HS.out hsz XO.out).mono ?_;rintro e w2 ⟨ov2,cl2,n2,a2,c2,rfl,hov2,hn2,hm2,hb2⟩;subst hov2;have B2:=zAa (zAo B1.out (Nat.le_refl _) hb2);have hn2':(0:Int)<(n2:Int):=(by omega);clear hb2))
 go_ret
 exact⟨rfl,B2.out⟩
def SW (s a b:ByteArray):ByteArray:=⟨(P.sw a.toList b.toList 0 true s.toList).toArray⟩
theorem zDH (s a b:ByteArray):(SW s a b).toList=P.sw a.toList b.toList 0 true s.toList:=zAj _
theorem zBp (s a b:ByteArray) (w:World) (hs:s.size≤1000000) (ha:a.size≤1000) (hb:b.size≤2*a.size) (hane:a.toList≠[]) (haf:P.free a.toList) :
  Calls Tryz.prog 18 #[.string s,.string a,.string b] w fun e w'=>e=.returned (.string (SW s a b))∧(SW s a b).size≤s.size*2∧w'=w:=by
 refine (zFd s a b w hs ha hb hane haf).mono ?_
 rintro e w' ⟨t,rfl,ht,hz,hw⟩
 have:t=SW s a b:=by
  unfold SW
  refine zHD t _ ?_
  rw[← zAI,ht]
 rw[← this]
 exact⟨rfl,hz,hw⟩
theorem zGN {w:World} {B n sz:Nat} {t:TypeId} {v:Value} {xs:List Value} (h:w.ownsRow B t sz v n xs):∃ a c,v=.slice a n c:=by
 rcases h.2 with ⟨e,h0⟩ | ⟨g',c,cur,e,_⟩
 ·exact⟨none,0,by rw[e,h0]⟩
 ·exact⟨_,c,e⟩
theorem zEl (s:ByteArray) (w:World) (hs:s.size≤8192) :
  Calls Tryz.prog 9 #[.string s] w fun e w'=>e=.returned (.bool true)∧Below w.heap.size w w':=by
 cases ze:((P.kernel s.toList).2.1 != 0)
 ·have he0:(P.kernel s.toList).2.1=0:=by simpa using ze
  have hz2:s.size≤2000:=by
   obtain⟨r1,h1,_⟩:=P.kernel_rows he0
   rw[zAi] at h1;exact h1
  have HE0:=zAa he0
  have HKI:=zAa (P.zIJ he0)
  have HTL:=zAa (P.textS_len he0)
  have HLAW:=zAa (P.strong_law he0)
  have HSK:=zAa (fun w=>zCS s w hs he0)
  have HLN:=zAa (Q.source_lens (P.zIJ he0))
  have HFW:=zAa (Q.zJd (P.zIJ he0))
  clear ze he0
  generalize hso:Q.zIB (P.kernel s.toList).1=SO at *
  generalize hcl:SO.clash=cl at *
  clear hso
  go_enter Tryz.func9,Tryz.ntmps9
  go_wp2_with (first
   | (go_at_call_of 13 (Value.string s);refine (HSK.out _).mono ?_;rintro e w1 ⟨ov,vs,rfl,hri,hb1⟩;have RI:=zAa hri;have B1:=zAa hb1;clear hri hb1)
   | (go_at_call_of 17 (Value.string s);refine (zFZ s _ (by omega)).mono ?_;rintro e w2 ⟨v,ws,rfl,hws,hxs,hown,hb2⟩;have HWS:=zAa hws;have HXS:=zAa hxs;have HOW:=zAa hown;have RI2:=zAa (RI.out.below hb2);have B2:=zAa (zAo B1.out (Nat.le_refl _) hb2);obtain⟨va,vc,hv⟩:=zGN hown;subst hv;clear hws hxs hown hb2))
  have hwl:ws.length≤2000:=by
   have h6:=congrArg List.length HWS.out
   rw[List.length_map,List.length_dropLast] at h6
   have h7:=P.zIL 10 s.toList
   rw[zAi] at h7
   omega
  clear HSK
  go_loopw [7,9] (fun tv iv wr=>∃ (j:Nat) (t:ByteArray),j≤ws.length∧iv=.int .i64 (j:Int)∧tv=.string t∧t.size≤j*40000∧Hid (t.toList=((ws.take j).map ByteArray.toList).flatMap fun x=>P.lineS (x++[10]))∧wr=w2) (fun _ iv _=>ws.length-(intOf iv).toNat)
  case atStart=>exact⟨0,ByteArray.empty,Nat.zero_le _,rfl,rfl,by simp,by unfold Hid;rw[zAI];rfl,rfl⟩
  case round =>
   obtain⟨j,t,hj,rfl,rfl,htz,HT,rfl⟩:=hrel
   by_cases hlt:j<ws.length
   ·have hlt':(j:Int)<(ws.length:Int):=by omega
    obtain⟨gl,hva⟩:∃ gl,va=some ⟨gl,0,none⟩:=by
     rcases HOW.out.2 with ⟨e1,h9⟩ | ⟨gl,c2,cur,e1,_⟩
     ·omega
     ·simp only[Value.slice.injEq] at e1
      exact⟨gl,e1.1⟩
    subst hva
    have cj:=HOW.out.cellAt j (by omega)
    simp only[List.getElem?_map,List.getElem?_eq_getElem hlt,Option.map_some] at cj
    have lgl:=(HOW.out.lt gl rfl).2
    have HST:Hid (∀ y:ByteArray,y.toList=P.lineS (ws[j].toList++[10])→(t++y).toList=((ws.take (j+1)).map ByteArray.toList).flatMap fun x=>P.lineS (x++[10])):=fun y hy=>by
     rw[List.take_succ_eq_append_getElem hlt,List.map_append,List.flatMap_append,zAr,HT.out,hy]
     simp
    have hxz:ws[j].size≤2000:=Nat.le_trans (HXS.out _ (List.getElem_mem hlt)) hz2
    generalize ws[j]=x at *
    have hxx:(x.size:Int)≤2000:=by omega
    have htt:(t.size:Int)≤1000000000:=by omega
    have HY0:Hid ((x++⟨#[10]⟩:ByteArray).toList=x.toList++[10]):=by unfold Hid;simp only[zAr,zAc]
    have hy0:(x++⟨#[10]⟩:ByteArray).size≤2001:=by rw[ByteArray.size_append,show (⟨#[10]⟩:ByteArray).size=1 from rfl];omega
    go_upto_region 10 with fail
    generalize hyy:(x++⟨#[10]⟩:ByteArray)=y0 at *
    clear hyy
    have HY1:=zAa (zDH y0 ⟨#[98,108,111,99,107]⟩ ⟨#[100,101,118,105,99,101]⟩)
    go_upto_region 11 with (first
     | (go_at_call_of 18 (Value.string y0);refine (zBp y0 ⟨#[98,108,111,99,107]⟩ ⟨#[100,101,118,105,99,101]⟩ _ (by omega) (by simp[zAO]) (by simp[zAO]) (by simp only[zAc];decide) (by unfold P.free;simp only[zAc];decide)).mono ?_;rintro e wb ⟨rfl,hz1,hwb⟩;subst hwb))
    generalize hyy:SW y0 ⟨#[98,108,111,99,107]⟩ ⟨#[100,101,118,105,99,101]⟩=y1 at *
    clear hyy
    have hy1:y1.size≤4002:=by omega
    have hy1':(y1.size:Int)≤4002:=by omega
    obtain⟨b1,zb1⟩:∃ v,P.zJj y1.toList P.zKC=v:=⟨_,rfl⟩
    have z1':Hid (P.zJj y1.toList (⟨#[115,116,111,114,101]⟩:ByteArray).toList=b1):=by unfold Hid;rw[show (⟨#[115,116,111,114,101]⟩:ByteArray).toList=P.zKC from zAc _];exact zb1
    obtain⟨b2,zb2⟩:∃ v,P.hasB y1.toList [32,108,111,97,100,32]=v:=⟨_,rfl⟩
    have z2':Hid (P.hasB y1.toList (⟨#[32,108,111,97,100,32]⟩:ByteArray).toList=b2):=by unfold Hid;rw[show (⟨#[32,108,111,97,100,32]⟩:ByteArray).toList=[32,108,111,97,100,32] from zAc _];exact zb2
    obtain⟨b3,zb3⟩:∃ v,P.hasB y1.toList [32,97,100,100,32]=v:=⟨_,rfl⟩
    have z3':Hid (P.hasB y1.toList (⟨#[32,97,100,100,32]⟩:ByteArray).toList=b3):=by unfold Hid;rw[show (⟨#[32,97,100,100,32]⟩:ByteArray).toList=[32,97,100,100,32] from zAc _];exact zb3
    obtain⟨b4,zb4⟩:∃ v,P.hasB y1.toList [32,115,119,97,112,32]=v:=⟨_,rfl⟩
    have z4':Hid (P.hasB y1.toList (⟨#[32,115,119,97,112,32]⟩:ByteArray).toList=b4):=by unfold Hid;rw[show (⟨#[32,115,119,97,112,32]⟩:ByteArray).toList=[32,115,119,97,112,32] from zAc _];exact zb4
    have HL:Hid (P.lineS (x.toList++[10])=if b1 then P.sw P.zJY P.zKp 0 true y1.toList else if b2 then P.sw P.zJY P.zKo 0 true y1.toList else if b3||b4 then P.sw P.zKp P.zKj 0 true (P.sw P.zKo P.zKj 0 true (P.sw P.zJY P.zKj 0 true y1.toList)) else y1.toList):=by
     have e:P.sw P.blockL P.deviceL 0 true (x.toList++[10])=y1.toList:=by
      rw[HY1.out,HY0.out]
      simp only[zAc]
     unfold Hid P.lineS P.inW
     rw[e,← zb1,← zb2,← zb3,← zb4]
     rfl
    clear zb1 zb2 zb3 zb4 HY0 HY1 hz1 hy0
    go_upto_region 15 with (first
     | (go_at_call 20;refine (zGZ y1 _ _ (by omega) (by simp[zAO])).mono ?_;rintro e wb ⟨rfl,hwb⟩;subst hwb;(first | rw[z2'.out] | rw[z3'.out] | rw[z4'.out]))
     | (go_at_call 19;refine (zFc y1 _ _).mono ?_;rintro e wb ⟨rfl,hwb⟩;subst hwb;rw[z1'.out]))
    clear z1' z2' z3' z4' cj lgl hxx hxz
    cases b1
    ·cases b2
     ·cases b3
      ·cases b4
       ·have HR:=zAa (HST.out y1 (by rw[HL.out];rfl))
        clear HST HL
        go_wp2
        go_roundw
        case rel=>exact⟨j+1,t++y1,by omega,by go_num,rfl,by rw[ByteArray.size_append];omega,HR,by first | rfl | trivial⟩
        case measure=>simp[intOf];omega
       ·have HR:=zAa (HST.out (SW (SW (SW y1 ⟨#[114,101,108,97,120,101,100]⟩ ⟨#[97,99,113,114,101,108]⟩) ⟨#[97,99,113,117,105,114,101]⟩ ⟨#[97,99,113,114,101,108]⟩) ⟨#[114,101,108,101,97,115,101]⟩ ⟨#[97,99,113,114,101,108]⟩) (by rw[HL.out];simp only[zDH,zAc];rfl))
        clear HST HL
        go_upto_region 21 with (first
         | (go_at_call_of 18 (Value.string y1);refine (zBp y1 ⟨#[114,101,108,97,120,101,100]⟩ ⟨#[97,99,113,114,101,108]⟩ _ (by omega) (by simp[zAO]) (by simp[zAO]) (by simp only[zAc];decide) (by unfold P.free;simp only[zAc];decide)).mono ?_;rintro e wb ⟨rfl,hz2,hwb⟩;subst hwb))
        generalize hyy:SW y1 ⟨#[114,101,108,97,120,101,100]⟩ ⟨#[97,99,113,114,101,108]⟩=y2 at *
        clear hyy
        have hy2:(y2.size:Int)≤10000:=by omega
        go_upto_region 22 with (first
         | (go_at_call_of 18 (Value.string y2);refine (zBp y2 ⟨#[97,99,113,117,105,114,101]⟩ ⟨#[97,99,113,114,101,108]⟩ _ (by omega) (by simp[zAO]) (by simp[zAO]) (by simp only[zAc];decide) (by unfold P.free;simp only[zAc];decide)).mono ?_;rintro e wb ⟨rfl,hz3,hwb⟩;subst hwb))
        generalize hyy:SW y2 ⟨#[97,99,113,117,105,114,101]⟩ ⟨#[97,99,113,114,101,108]⟩=y3 at *
        clear hyy
        have hy3:(y3.size:Int)≤20000:=by omega
        go_upto_region 23 with (first
         | (go_at_call_of 18 (Value.string y3);refine (zBp y3 ⟨#[114,101,108,101,97,115,101]⟩ ⟨#[97,99,113,114,101,108]⟩ _ (by omega) (by simp[zAO]) (by simp[zAO]) (by simp only[zAc];decide) (by unfold P.free;simp only[zAc];decide)).mono ?_;rintro e wb ⟨rfl,hz4,hwb⟩;subst hwb))
        generalize hyy:SW y3 ⟨#[114,101,108,101,97,115,101]⟩ ⟨#[97,99,113,114,101,108]⟩=y4 at *
        clear hyy
        have hy4:(y4.size:Int)≤40000:=by omega
        go_wp2
        go_roundw
        case rel=>exact⟨j+1,t++y4,by omega,by go_num,rfl,by rw[ByteArray.size_append];omega,HR,by first | rfl | trivial⟩
        case measure=>simp[intOf];omega
      ·cases b4
       all_goals
        have HR:=zAa (HST.out (SW (SW (SW y1 ⟨#[114,101,108,97,120,101,100]⟩ ⟨#[97,99,113,114,101,108]⟩) ⟨#[97,99,113,117,105,114,101]⟩ ⟨#[97,99,113,114,101,108]⟩) ⟨#[114,101,108,101,97,115,101]⟩ ⟨#[97,99,113,114,101,108]⟩) (by rw[HL.out];simp only[zDH,zAc];rfl))
        clear HST HL
        go_upto_region 21 with (first
         | (go_at_call_of 18 (Value.string y1);refine (zBp y1 ⟨#[114,101,108,97,120,101,100]⟩ ⟨#[97,99,113,114,101,108]⟩ _ (by omega) (by simp[zAO]) (by simp[zAO]) (by simp only[zAc];decide) (by unfold P.free;simp only[zAc];decide)).mono ?_;rintro e wb ⟨rfl,hz2,hwb⟩;subst hwb))
        generalize hyy:SW y1 ⟨#[114,101,108,97,120,101,100]⟩ ⟨#[97,99,113,114,101,108]⟩=y2 at *
        clear hyy
        have hy2:(y2.size:Int)≤10000:=by omega
        go_upto_region 22 with (first
         | (go_at_call_of 18 (Value.string y2);refine (zBp y2 ⟨#[97,99,113,117,105,114,101]⟩ ⟨#[97,99,113,114,101,108]⟩ _ (by omega) (by simp[zAO]) (by simp[zAO]) (by simp only[zAc];decide) (by unfold P.free;simp only[zAc];decide)).mono ?_;rintro e wb ⟨rfl,hz3,hwb⟩;subst hwb))
        generalize hyy:SW y2 ⟨#[97,99,113,117,105,114,101]⟩ ⟨#[97,99,113,114,101,108]⟩=y3 at *
        clear hyy
        have hy3:(y3.size:Int)≤20000:=by omega
        go_upto_region 23 with (first
         | (go_at_call_of 18 (Value.string y3);refine (zBp y3 ⟨#[114,101,108,101,97,115,101]⟩ ⟨#[97,99,113,114,101,108]⟩ _ (by omega) (by simp[zAO]) (by simp[zAO]) (by simp only[zAc];decide) (by unfold P.free;simp only[zAc];decide)).mono ?_;rintro e wb ⟨rfl,hz4,hwb⟩;subst hwb))
        generalize hyy:SW y3 ⟨#[114,101,108,101,97,115,101]⟩ ⟨#[97,99,113,114,101,108]⟩=y4 at *
        clear hyy
        have hy4:(y4.size:Int)≤40000:=by omega
        go_wp2
        go_roundw
        case rel=>exact⟨j+1,t++y4,by omega,by go_num,rfl,by rw[ByteArray.size_append];omega,HR,by first | rfl | trivial⟩
        case measure=>simp[intOf];omega
     ·have HR:=zAa (HST.out (SW y1 ⟨#[114,101,108,97,120,101,100]⟩ ⟨#[97,99,113,117,105,114,101]⟩) (by rw[HL.out,zDH];simp only[zAc];rfl))
      clear HST HL
      go_upto_region 23 with (first
       | (go_at_call_of 18 (Value.string y1);refine (zBp y1 ⟨#[114,101,108,97,120,101,100]⟩ ⟨#[97,99,113,117,105,114,101]⟩ _ (by omega) (by simp[zAO]) (by simp[zAO]) (by simp only[zAc];decide) (by unfold P.free;simp only[zAc];decide)).mono ?_;rintro e wb ⟨rfl,hz2,hwb⟩;subst hwb))
      generalize hyy:SW y1 ⟨#[114,101,108,97,120,101,100]⟩ ⟨#[97,99,113,117,105,114,101]⟩=y2 at *
      clear hyy
      have hy2:(y2.size:Int)≤10000:=by omega
      go_wp2
      go_roundw
      case rel=>exact⟨j+1,t++y2,by omega,by go_num,rfl,by rw[ByteArray.size_append];omega,HR,by first | rfl | trivial⟩
      case measure=>simp[intOf];omega
    ·have HR:=zAa (HST.out (SW y1 ⟨#[114,101,108,97,120,101,100]⟩ ⟨#[114,101,108,101,97,115,101]⟩) (by rw[HL.out,zDH];simp only[zAc];rfl))
     clear HST HL
     go_upto_region 23 with (first
      | (go_at_call_of 18 (Value.string y1);refine (zBp y1 ⟨#[114,101,108,97,120,101,100]⟩ ⟨#[114,101,108,101,97,115,101]⟩ _ (by omega) (by simp[zAO]) (by simp[zAO]) (by simp only[zAc];decide) (by unfold P.free;simp only[zAc];decide)).mono ?_;rintro e wb ⟨rfl,hz2,hwb⟩;subst hwb))
     generalize hyy:SW y1 ⟨#[114,101,108,97,120,101,100]⟩ ⟨#[114,101,108,101,97,115,101]⟩=y2 at *
     clear hyy
     have hy2:(y2.size:Int)≤10000:=by omega
     go_wp2
     go_roundw
     case rel=>exact⟨j+1,t++y2,by omega,by go_num,rfl,by rw[ByteArray.size_append];omega,HR,by first | rfl | trivial⟩
     case measure=>simp[intOf];omega
   ·have hnlt:decide ((j:Int)<(ws.length:Int))=false:=decide_eq_false (by omega)
    have hje:j=ws.length:=by omega
    have htx:t.toList=P.textS s.toList:=by
     rw[HT.out,hje,List.take_length,HWS.out];rfl
    have hts:t.size≤4000:=by rw[← zAi,htx];exact HTL.out
    have HTX:=zAa htx
    clear hje htx HT HXS HOW HWS
    by_cases hlong:t.size≤2000
    ·have hl':decide ((2000:Int)<(t.size:Int))=false:=decide_eq_false (by omega)
     have hlaw:=HLAW.out (by rw[← HTX.out,zAi];exact hlong)
     rw[← HTX.out] at hlaw
     obtain⟨ht0,hin,hhit⟩:=hlaw
     have HSK:=zAa (fun w=>zCS t w (by omega) ht0)
     have HFW2:=zAa (Q.zJd (P.zIJ ht0))
     generalize hsq:Q.zIB (P.kernel t.toList).1=SQ at *
     generalize hht:SQ.clash=hit at *
     have HIN:=zAa hin
     clear hsq ht0 HLAW hin
     cases cl
     ·have hh:=hhit rfl
      subst hh
      go_wp2_with (first
       | (go_at_call_of 13 (Value.string t);refine (HSK.out _).mono ?_;rintro e w3 ⟨ov3,vs3,rfl,hri3,hb3⟩;have RI3:=zAa hri3;have RI4:=zAa (RI2.out.below hb3);have B3:=zAa (zAo B2.out (Nat.le_refl _) hb3);clear hri3 hb3)
       | (go_at_call 21;refine (zDT _ _ _ _ _ _ _ _ _ RI3.out RI4.out HLN.out HFW2.out HFW.out).mono ?_;rw[HIN.out];rintro e w4 ⟨rfl,hb4⟩;have B4:=zAa (zAo B3.out (Nat.le_refl _) hb4);clear hb4))
      go_ret
      exact⟨rfl,B4.out⟩
     ·clear hhit
      cases hit
      all_goals
       go_wp2_with (first
        | (go_at_call_of 13 (Value.string t);refine (HSK.out _).mono ?_;rintro e w3 ⟨ov3,vs3,rfl,hri3,hb3⟩;have RI3:=zAa hri3;have RI4:=zAa (RI2.out.below hb3);have B3:=zAa (zAo B2.out (Nat.le_refl _) hb3);clear hri3 hb3)
        | (go_at_call 21;refine (zDT _ _ _ _ _ _ _ _ _ RI3.out RI4.out HLN.out HFW2.out HFW.out).mono ?_;rw[HIN.out];rintro e w4 ⟨rfl,hb4⟩;have B4:=zAa (zAo B3.out (Nat.le_refl _) hb4);clear hb4))
       go_ret
       exact⟨rfl,B4.out⟩
    ·have hl':(2000:Int)<(t.size:Int):=by omega
     have hk1:(P.kernel t.toList).2.1=1:=by
      unfold P.kernel
      rw[if_pos (by rw[zAi];omega)]
     have HSF:=zAa (fun w=>zDd t w (by omega) (by rw[hk1];rfl))
     rw[hk1] at HSF
     clear hk1 HLAW
     go_wp2_with (first
      | (go_at_call_of 13 (Value.string t);refine (HSF.out _).mono ?_;rintro e w3 ⟨rfl,hb3⟩;have B3:=zAa (zAo B2.out (Nat.le_refl _) hb3);clear hb3))
     go_ret
     exact⟨rfl,B3.out⟩
 ·have HSF:=zAa (fun w=>zDd s w hs ze)
  go_enter Tryz.func9,Tryz.ntmps9
  go_wp2_with (first
   | (go_at_call_of 13 (Value.string s);refine (HSF.out _).mono ?_;rintro e w1 ⟨rfl,hb1⟩;have B1:=zAa hb1;clear hb1))
  go_ret
  exact⟨rfl,B1.out⟩
theorem zEm (HK:Hid (∀ x∈P.kns,P.AnsZ x.1)) (s:ByteArray) (w:World) :
  Calls Tryz.prog 4 #[.string s] w fun e w'=>e=.returned (.bool true)∧Below w.heap.size w w':=by
 by_cases hs:s.size≤8192
 ·have hs':¬ ((8192:Int)<(s.size:Int)):=by omega
  have hz0:-9223372036854775808≤(s.size:Int):=by omega
  have hz1:(s.size:Int)<9223372036854775808:=by omega
  go_enter Tryz.func4,Tryz.ntmps4
  go_wp2_with (first
   | (go_at_call 7;refine (zEN HK (s.size:Int) _ hz0 hz1).mono ?_;rintro e w1 ⟨rfl,hb1⟩;have B1:=zAa hb1;clear hb1)
   | (go_at_call 9;refine (zEl s _ hs).mono ?_;rintro e w2 ⟨rfl,hb2⟩;have B2:=zAa (zAo B1.out (Nat.le_refl _) hb2);clear hb2))
  go_ret
  exact⟨rfl,B2.out⟩
 ·have hs':(8192:Int)<(s.size:Int):=by omega
  go_enter Tryz.func4,Tryz.ntmps4
  go_wp2
  go_ret
  exact⟨rfl,Below.refl _ _⟩
end Go.Proofs.YtkmebkbpfmoeaaaGreat
namespace Go.Proofs.YtkmebkbpfmoeaaaGreat
open Go Go.ChangeShapes Go.WideShapes Go.ChangeAt Go.RowKit Go.WideElems
open Go.ChangeMaps (open_string shut_string)
theorem zHn:ownKnob Tryz.prog.godebug=none:=by kernel_rfl
set_option maxRecDepth 100000 in
theorem zDI (os:Os) (started:os.Started) (H:Type) (enc:TypeId × Value→H) :
  ReturnsInHanded {} Tryz.checked os 4 .any (Rows.strongerSpec.pre6 enc Tryz.prog Tryz.f4 Rows.strongerRow.domain false) (Rows.strongerSpec.post enc Tryz.prog Tryz.f4 false true false false):=by
 refine returnsInHanded_of_change (C:=Tryz.checked) zHn started (by kernel_rfl) Tryz.func4
  (ChangeSpec.witness6 (enc:=enc) (C:=Tryz.checked) false ⟨#[],#[.string ⟨#[]⟩],[]⟩ 8 (by kernel_rfl) (by kernel_rfl) (by kernel_rfl) (by kernel_rfl)) ?_
 intro W base args ds gs before hval0 hW _ _
 have hval:∀ (j:Nat) t v,Tryz.f4.params[j]?=some t→args[j]?=some v→Value.okWide Tryz.prog W .any base t v:=hval0
 have hW':=hW
 obtain⟨p,q,hA0,hV,rfl,hfz,hnd⟩:=hW
 have hA:DataW.TrodAll enc Tryz.prog W 0 (fun _=>true) true Tryz.f4.params.toList args.toList ds p:=hA0
 rw[Tryz.params4] at hA hval
 obtain⟨v0,d0,rfl,rfl,h0⟩:=trodAll_one hA
 obtain⟨rfl,rfl⟩:=trodVars_none hV
 obtain⟨s,rfl,rfl,rfl,ws⟩:=open_string Tryz.underlying9 (hval 0 9 v0 rfl rfl) h0
 clear hA0 hval0
 simp only[List.append_nil] at hW'
 have e1:Rows.strongerSpec.fn H ([.lit (.string s.data.toList)]++[])={ results:=[.lit (.bool true)],args:=[.lit (.string s.data.toList)] }:=by simp[Rows.strongerSpec]
 refine (zEm P.kns_ansZ s W).mono fun e W' ⟨he,hB⟩=>?_
 subst he
 refine⟨_,rfl,_,_,_,[],[],[],hW',?_,?_,?_,hB.frame _,fun h=>by cases h⟩
 ·rw[e1];exact trodAll_mk1 (shut_bool Tryz.underlying4 true)
 ·rw[e1];exact trodAll_mk1 (shut_string Tryz.underlying9 ws)
 ·rw[e1];rfl
theorem stronger_holds:Rows.StrongerSaid :=
 OpenClaim.holds_of_wide 4 Tryz.f4 rfl rfl rfl rfl rfl rfl rfl ⟨rfl,rfl,rfl,rfl,rfl⟩ rfl rfl rfl rfl rfl (by kernel_rfl) Tryz.func4 (by kernel_rfl)
  (of_decide_eq_true (by kernel_rfl)) (by unfold Func.isWrapper;first | (rw[if_pos (by decide +kernel)];kernel_rfl) | (rw[if_neg (by decide +kernel)];exact⟨rfl,rfl⟩))
  (fun os started H enc _=>zDI os started H enc)
#print axioms stronger_holds
end Go.Proofs.YtkmebkbpfmoeaaaGreat
