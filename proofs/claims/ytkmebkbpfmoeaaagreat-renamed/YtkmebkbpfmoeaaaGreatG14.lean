import Derived.Test.YtkmebkbpfmoeaaaGreatG13
set_option linter.unusedVariables false
set_option linter.unusedSimpArgs false
set_option maxHeartbeats 12800000
namespace Go.Proofs.YtkmebkbpfmoeaaaGreat
open Go Go.RowKit
set_option maxRecDepth 100000
namespace P
def frL (l:List UInt8) (k:Nat):Bool:=if k=0 then true else isSep (l.getD (k-1) 0)
def SwAt (a b l:List UInt8) (k:Nat) (t:List UInt8):Prop:=t++sw a b 0 (frL l k) (l.drop k)=sw a b 0 true l
theorem getD_u8 (l:List UInt8) (i:Nat) (h:i<l.length):l.getD i 0=l[i]:=by
 rw[List.getD_eq_getElem?_getD,List.getElem?_eq_getElem h];rfl
theorem sw_no {a b l t:List UInt8} {k:Nat} (hk:k<l.length) (h:SwAt a b l k t) (hm:(frL l k&&zKc a (l.drop k))=false):SwAt a b l (k+1) (t++[l[k]]):=by
 unfold SwAt at h ⊢
 rw[List.drop_eq_getElem_cons hk] at h hm
 rw[sw] at h
 rw[if_neg (by rw[hm];simp)] at h
 have:frL l (k+1)=isSep l[k]:=by unfold frL;rw[if_neg (by omega),Nat.add_sub_cancel,getD_u8 l k hk]
 rw[this,← h]
 simp
theorem sw_yes {a b l t:List UInt8} {k:Nat} (hk:k<l.length) (ha:a≠[]) (hf:free a) (h:SwAt a b l k t) (hr:frL l k=true) (hm:zKc a (l.drop k)=true):SwAt a b l (k+a.length) (t++b):=by
 unfold SwAt at h ⊢
 obtain⟨d,r,hd,he⟩:=matchB_of hm
 have hal:0<a.length:=List.length_pos_iff.2 ha
 have hlen:k+a.length<l.length:=by
  have:=congrArg List.length he
  rw[List.length_drop] at this
  simp at this
  omega
 have hfr:frL l (k+a.length)=false:=by
  unfold frL
  rw[if_neg (by omega),getD_u8 l _ (by omega)]
  refine hf _ ?_
  have e1:l[k+a.length-1]'(by omega)=(l.drop k)[a.length-1]'(by rw[List.length_drop];omega):=by
   rw[List.getElem_drop];congr 1;omega
  rw[e1]
  have e2:(l.drop k)[a.length-1]'(by rw[List.length_drop];omega)=a[a.length-1]'(by omega):=by
   simp only[he]
   rw[List.getElem_append_left (by omega)]
  rw[e2]
  exact List.getElem_mem _
 have e:l.drop k=l[k]::l.drop (k+1):=List.drop_eq_getElem_cons hk
 rw[hr] at h
 rw[e] at h hm
 rw[sw] at h
 rw[if_pos (by rw[hm];rfl),sw_skip,List.drop_drop,show k+1+(a.length-1)=k+a.length by omega] at h
 rw[hfr,List.append_assoc,h]
theorem zJW {a l:List UInt8} {k:Nat} (h:l.length≤k+a.length):zKc a (l.drop k)=false:=by
 have e:(l.drop k).drop a.length=[]:=by rw[List.drop_drop];exact List.drop_eq_nil_of_le h
 unfold zKc
 rw[e,Bool.and_comm]
 rfl
theorem zJX {a l:List UInt8} {k:Nat} (h:k+a.length<l.length):zKc a (l.drop k)=((((l.take (k+a.length)).drop k)==a)&&isSep l[k+a.length]):=by
 unfold zKc
 rw[List.drop_drop,List.drop_eq_getElem_cons h,List.drop_take,show k+a.length-k=a.length by omega]
 rfl
theorem zIP {c:UInt8} {q1 q2:Bool} (h1:((c.toNat:Int)==32)=q1) (h2:((c.toNat:Int)==10)=q2):isSep c=(q1||q2):=by
 unfold isSep
 have e1:(c==32)=((c.toNat:Int)==32):=by
  rw[Bool.eq_iff_iff,beq_iff_eq,beq_iff_eq]
  constructor
  ·rintro rfl;rfl
  ·intro h;apply UInt8.toNat_inj.1;have:c.toNat=32:=by omega
   rw[this];rfl
 have e2:(c==10)=((c.toNat:Int)==10):=by
  rw[Bool.eq_iff_iff,beq_iff_eq,beq_iff_eq]
  constructor
  ·rintro rfl;rfl
  ·intro h;apply UInt8.toNat_inj.1;have:c.toNat=10:=by omega
   rw[this];rfl
 rw[e1,e2,h1,h2]
end P
theorem zEe (s:ByteArray) (i j:Nat) (hi:i<s.size) (hj:j<s.toList.length) (e:i=j):s[i]=s.toList[j]:=by
 subst e
 simp only[zAJ]
 rfl
theorem zEZ (s a b:ByteArray) (w:World) (hs:s.size≤1000000) (ha:a.size≤1000) (hb:b.size≤2*a.size) (hane:a.toList≠[]) (haf:P.free a.toList) :
  Calls Tryz.prog 18 #[.string s,.string a,.string b] w fun e w'=>∃ t,e=.returned (.string t)∧t.toList=P.sw a.toList b.toList 0 true s.toList∧t.size≤s.size*2∧w'=w:=by
 have HNE:=zAa hane
 have HF:=zAa haf
 have hal:0<a.size:=by rw[← zAk];exact List.length_pos_iff.2 hane
 have hal':(0:Int)<(a.size:Int):=by omega
 clear hane haf
 go_enter Tryz.func18,Tryz.ntmps18
 go_wp2
 go_loopw [7,8] (fun tv iv wr=>∃ (k:Nat) (t:ByteArray),k≤s.size∧iv=.int .i64 k∧tv=.string t∧t.size≤k*2∧Hid (P.SwAt a.toList b.toList s.toList k t.toList)∧wr=w) (fun _ iv _=>s.size-(intOf iv).toNat)
 case atStart=>exact⟨0,ByteArray.empty,Nat.zero_le _,rfl,rfl,by simp,by unfold Hid P.SwAt P.frL;rw[List.drop_zero,zAJ];rfl,rfl⟩
 case round =>
  obtain⟨k,t,hk,rfl,rfl,hts,HT,rfl⟩:=hrel
  have hts':(t.size:Int)≤1000000000:=by omega
  have hbs':(b.size:Int)≤2000:=by omega
  by_cases hlt:k<s.size
  ·have hlt':(k:Int)<(s.size:Int):=by omega
   have hk0:(0:Int)≤(k:Int):=by omega
   have hkl:k<s.toList.length:=by rw[zAk];exact hlt
   have hex1:∀ wx,(Instr.slice 9 (.string s) (some (.int .i64 (k:Int))) (some (.int .i64 ((k:Int)+1))) none).run Tryz.prog wx=.ok (.string (s.extract k (k+1))) wx:=fun wx=>by
    rw[run_slice_string wx 9 s .i64 .i64 _ _ Tryz.underlying9 (by omega) (by omega) (by omega),show ((k:Int)).toNat=k by omega,show ((k:Int)+1).toNat=k+1 by omega]
   have hone:(s.extract k (k+1)).toList=[s.toList[k]]:=by
    rw[zBb,List.drop_take,show k+1-k=1 by omega,List.drop_eq_getElem_cons hkl];rfl
   have hes:(s.extract k (k+1)).size=1:=by rw[ByteArray.size_extract];omega
   have hes':((s.extract k (k+1)).size:Int)≤1:=by omega
   have HNO:Hid ((P.frL s.toList k&&P.zKc a.toList (s.toList.drop k))=false→P.SwAt a.toList b.toList s.toList (k+1) (t++s.extract k (k+1)).toList):=fun h=>by
    have:=P.sw_no hkl HT.out h
    rw[zAu,hone];exact this
   have HYES:Hid (P.frL s.toList k=true→P.zKc a.toList (s.toList.drop k)=true→P.SwAt a.toList b.toList s.toList (k+a.size) (t++b).toList):=fun h h2=>by
    have:=P.sw_yes hkl HNE.out HF.out HT.out h h2
    rw[zAk] at this
    rw[zAu];exact this
   by_cases hz:k=0
   ·have zq:((k:Int)==0)=true:=by rw[hz];rfl
    have HFR:Hid (P.frL s.toList k=true):=by unfold Hid P.frL;rw[if_pos hz]
    clear hz
    by_cases hc:k+a.size<s.size
    ·have hc':(k:Int)+(a.size:Int)<(s.size:Int):=by omega
     have hcl:k+a.toList.length<s.toList.length:=by rw[zAk,zAk];exact hc
     have hexE:∀ wx,(Instr.slice 9 (.string s) (some (.int .i64 (k:Int))) (some (.int .i64 ((k:Int)+(a.size:Int)))) none).run Tryz.prog wx=.ok (.string (s.extract k (k+a.size))) wx:=fun wx=>by
      rw[run_slice_string wx 9 s .i64 .i64 _ _ Tryz.underlying9 (by omega) (by omega) (by omega),show ((k:Int)).toNat=k by omega,show ((k:Int)+(a.size:Int)).toNat=k+a.size by omega]
     have HM:Hid (P.zKc a.toList (s.toList.drop k)=(((s.extract k (k+a.size)).toList==a.toList)&&P.isSep s.toList[k+a.toList.length])):=by
      unfold Hid
      rw[P.zJX hcl,zBb,show k+a.size=k+a.toList.length by rw[zAk]]
     have hidE:∀ wx,(Instr.index 9 (.string s) (.int .i64 ((k:Int)+(a.size:Int)))).run Tryz.prog wx=.ok (.int .u8 (s.toList[k+a.toList.length].toNat:Nat)) wx:=fun wx=>by
      rw[run_index_string wx 9 s .i64 _ Tryz.underlying9,dif_pos ⟨by omega,hc'⟩]
      congr 3
      exact congrArg (fun x:UInt8=>x.toNat) (zEe s ((k:Int)+(a.size:Int)).toNat (k+a.toList.length) (by omega) hcl (by rw[zAk];omega))
     generalize s.toList[k+a.toList.length]=d at HM hidE
     cases hqe:((s.extract k (k+a.size)).toList==a.toList)
     ·have HN:=zAa (HNO.out (by rw[HM.out,hqe,Bool.false_and,Bool.and_false]))
      go_wp2
      go_roundw
      case rel=>exact⟨k+1,t++s.extract k (k+1),by omega,by go_num,rfl,by rw[ByteArray.size_append];omega,HN,by first | rfl | trivial⟩
      case measure=>simp[intOf];omega
     ·cases d32:((d.toNat:Int)==32)
      ·cases d10:((d.toNat:Int)==10)
       ·have HN:=zAa (HNO.out (by rw[HM.out,P.zIP d32 d10,Bool.or_self,Bool.and_false,Bool.and_false]))
        go_wp2
        go_roundw
        case rel=>exact⟨k+1,t++s.extract k (k+1),by omega,by go_num,rfl,by rw[ByteArray.size_append];omega,HN,by first | rfl | trivial⟩
        case measure=>simp[intOf];omega
       ·have HN:=zAa (HYES.out HFR.out (by rw[HM.out,hqe,P.zIP d32 d10];rfl))
        go_wp2
        go_roundw
        case rel=>exact⟨k+a.size,t++b,by omega,by go_num,rfl,by rw[ByteArray.size_append];omega,HN,by first | rfl | trivial⟩
        case measure=>simp[intOf];omega
      ·have HN:=zAa (HYES.out HFR.out (by rw[HM.out,hqe,P.zIP d32 rfl];rfl))
       go_wp2
       go_roundw
       case rel=>exact⟨k+a.size,t++b,by omega,by go_num,rfl,by rw[ByteArray.size_append];omega,HN,by first | rfl | trivial⟩
       case measure=>simp[intOf];omega
    ·have hc':decide ((k:Int)+(a.size:Int)<(s.size:Int))=false:=decide_eq_false (by omega)
     have HN:=zAa (HNO.out (by rw[P.zJW (by rw[zAk,zAk];omega),Bool.and_false]))
     go_wp2
     go_roundw
     case rel=>exact⟨k+1,t++s.extract k (k+1),by omega,by go_num,rfl,by rw[ByteArray.size_append];omega,HN,by first | rfl | trivial⟩
     case measure=>simp[intOf];omega
   ·have zq:((k:Int)==0)=false:=by rw[beq_eq_false_iff_ne];omega
    have hkm:k-1<s.toList.length:=by omega
    have hidx:∀ wx,(Instr.index 9 (.string s) (.int .i64 ((k:Int)-1))).run Tryz.prog wx=.ok (.int .u8 ((s.toList.getD (k-1) 0).toNat:Nat)) wx:=fun wx=>by
     rw[run_index_string wx 9 s .i64 _ Tryz.underlying9,dif_pos ⟨by omega,by omega⟩,P.getD_u8 _ _ hkm]
     congr 3
     exact congrArg (fun x:UInt8=>x.toNat) (zEe s ((k:Int)-1).toNat (k-1) (by omega) hkm (by omega))
    have HFR0:Hid (P.frL s.toList k=P.isSep (s.toList.getD (k-1) 0)):=by unfold Hid P.frL;rw[if_neg hz]
    clear hz hkm
    generalize s.toList.getD (k-1) 0=c at hidx HFR0
    cases c32:((c.toNat:Int)==32)
    ·cases c10:((c.toNat:Int)==10)
     ·have HN:=zAa (HNO.out (by rw[HFR0.out,P.zIP c32 c10];rfl))
      go_wp2
      go_roundw
      case rel=>exact⟨k+1,t++s.extract k (k+1),by omega,by go_num,rfl,by rw[ByteArray.size_append];omega,HN,by first | rfl | trivial⟩
      case measure=>simp[intOf];omega
     ·have HFR:Hid (P.frL s.toList k=true):=by unfold Hid;rw[HFR0.out,P.zIP c32 c10];rfl
      by_cases hc:k+a.size<s.size
      ·have hc':(k:Int)+(a.size:Int)<(s.size:Int):=by omega
       have hcl:k+a.toList.length<s.toList.length:=by rw[zAk,zAk];exact hc
       have hexE:∀ wx,(Instr.slice 9 (.string s) (some (.int .i64 (k:Int))) (some (.int .i64 ((k:Int)+(a.size:Int)))) none).run Tryz.prog wx=.ok (.string (s.extract k (k+a.size))) wx:=fun wx=>by
        rw[run_slice_string wx 9 s .i64 .i64 _ _ Tryz.underlying9 (by omega) (by omega) (by omega),show ((k:Int)).toNat=k by omega,show ((k:Int)+(a.size:Int)).toNat=k+a.size by omega]
       have HM:Hid (P.zKc a.toList (s.toList.drop k)=(((s.extract k (k+a.size)).toList==a.toList)&&P.isSep s.toList[k+a.toList.length])):=by
        unfold Hid
        rw[P.zJX hcl,zBb,show k+a.size=k+a.toList.length by rw[zAk]]
       have hidE:∀ wx,(Instr.index 9 (.string s) (.int .i64 ((k:Int)+(a.size:Int)))).run Tryz.prog wx=.ok (.int .u8 (s.toList[k+a.toList.length].toNat:Nat)) wx:=fun wx=>by
        rw[run_index_string wx 9 s .i64 _ Tryz.underlying9,dif_pos ⟨by omega,hc'⟩]
        congr 3
        exact congrArg (fun x:UInt8=>x.toNat) (zEe s ((k:Int)+(a.size:Int)).toNat (k+a.toList.length) (by omega) hcl (by rw[zAk];omega))
       generalize s.toList[k+a.toList.length]=d at HM hidE
       cases hqe:((s.extract k (k+a.size)).toList==a.toList)
       ·have HN:=zAa (HNO.out (by rw[HM.out,hqe,Bool.false_and,Bool.and_false]))
        go_wp2
        go_roundw
        case rel=>exact⟨k+1,t++s.extract k (k+1),by omega,by go_num,rfl,by rw[ByteArray.size_append];omega,HN,by first | rfl | trivial⟩
        case measure=>simp[intOf];omega
       ·cases d32:((d.toNat:Int)==32)
        ·cases d10:((d.toNat:Int)==10)
         ·have HN:=zAa (HNO.out (by rw[HM.out,P.zIP d32 d10,Bool.or_self,Bool.and_false,Bool.and_false]))
          go_wp2
          go_roundw
          case rel=>exact⟨k+1,t++s.extract k (k+1),by omega,by go_num,rfl,by rw[ByteArray.size_append];omega,HN,by first | rfl | trivial⟩
          case measure=>simp[intOf];omega
         ·have HN:=zAa (HYES.out HFR.out (by rw[HM.out,hqe,P.zIP d32 d10];rfl))
          go_wp2
          go_roundw
          case rel=>exact⟨k+a.size,t++b,by omega,by go_num,rfl,by rw[ByteArray.size_append];omega,HN,by first | rfl | trivial⟩
          case measure=>simp[intOf];omega
        ·have HN:=zAa (HYES.out HFR.out (by rw[HM.out,hqe,P.zIP d32 rfl];rfl))
         go_wp2
         go_roundw
         case rel=>exact⟨k+a.size,t++b,by omega,by go_num,rfl,by rw[ByteArray.size_append];omega,HN,by first | rfl | trivial⟩
         case measure=>simp[intOf];omega
      ·have hc':decide ((k:Int)+(a.size:Int)<(s.size:Int))=false:=decide_eq_false (by omega)
       have HN:=zAa (HNO.out (by rw[P.zJW (by rw[zAk,zAk];omega),Bool.and_false]))
       go_wp2
       go_roundw
       case rel=>exact⟨k+1,t++s.extract k (k+1),by omega,by go_num,rfl,by rw[ByteArray.size_append];omega,HN,by first | rfl | trivial⟩
       case measure=>simp[intOf];omega
    ·have HFR:Hid (P.frL s.toList k=true):=by unfold Hid;rw[HFR0.out,P.zIP c32 rfl];rfl
     by_cases hc:k+a.size<s.size
     ·have hc':(k:Int)+(a.size:Int)<(s.size:Int):=by omega
      have hcl:k+a.toList.length<s.toList.length:=by rw[zAk,zAk];exact hc
      have hexE:∀ wx,(Instr.slice 9 (.string s) (some (.int .i64 (k:Int))) (some (.int .i64 ((k:Int)+(a.size:Int)))) none).run Tryz.prog wx=.ok (.string (s.extract k (k+a.size))) wx:=fun wx=>by
       rw[run_slice_string wx 9 s .i64 .i64 _ _ Tryz.underlying9 (by omega) (by omega) (by omega),show ((k:Int)).toNat=k by omega,show ((k:Int)+(a.size:Int)).toNat=k+a.size by omega]
      have HM:Hid (P.zKc a.toList (s.toList.drop k)=(((s.extract k (k+a.size)).toList==a.toList)&&P.isSep s.toList[k+a.toList.length])):=by
       unfold Hid
       rw[P.zJX hcl,zBb,show k+a.size=k+a.toList.length by rw[zAk]]
      have hidE:∀ wx,(Instr.index 9 (.string s) (.int .i64 ((k:Int)+(a.size:Int)))).run Tryz.prog wx=.ok (.int .u8 (s.toList[k+a.toList.length].toNat:Nat)) wx:=fun wx=>by
       rw[run_index_string wx 9 s .i64 _ Tryz.underlying9,dif_pos ⟨by omega,hc'⟩]
       congr 3
       exact congrArg (fun x:UInt8=>x.toNat) (zEe s ((k:Int)+(a.size:Int)).toNat (k+a.toList.length) (by omega) hcl (by rw[zAk];omega))
      generalize s.toList[k+a.toList.length]=d at HM hidE
      cases hqe:((s.extract k (k+a.size)).toList==a.toList)
      ·have HN:=zAa (HNO.out (by rw[HM.out,hqe,Bool.false_and,Bool.and_false]))
       go_wp2
       go_roundw
       case rel=>exact⟨k+1,t++s.extract k (k+1),by omega,by go_num,rfl,by rw[ByteArray.size_append];omega,HN,by first | rfl | trivial⟩
       case measure=>simp[intOf];omega
      ·cases d32:((d.toNat:Int)==32)
       ·cases d10:((d.toNat:Int)==10)
        ·have HN:=zAa (HNO.out (by rw[HM.out,P.zIP d32 d10,Bool.or_self,Bool.and_false,Bool.and_false]))
         go_wp2
         go_roundw
         case rel=>exact⟨k+1,t++s.extract k (k+1),by omega,by go_num,rfl,by rw[ByteArray.size_append];omega,HN,by first | rfl | trivial⟩
         case measure=>simp[intOf];omega
        ·have HN:=zAa (HYES.out HFR.out (by rw[HM.out,hqe,P.zIP d32 d10];rfl))
         go_wp2
         go_roundw
         case rel=>exact⟨k+a.size,t++b,by omega,by go_num,rfl,by rw[ByteArray.size_append];omega,HN,by first | rfl | trivial⟩
         case measure=>simp[intOf];omega
       ·have HN:=zAa (HYES.out HFR.out (by rw[HM.out,hqe,P.zIP d32 rfl];rfl))
        go_wp2
        go_roundw
        case rel=>exact⟨k+a.size,t++b,by omega,by go_num,rfl,by rw[ByteArray.size_append];omega,HN,by first | rfl | trivial⟩
        case measure=>simp[intOf];omega
     ·have hc':decide ((k:Int)+(a.size:Int)<(s.size:Int))=false:=decide_eq_false (by omega)
      have HN:=zAa (HNO.out (by rw[P.zJW (by rw[zAk,zAk];omega),Bool.and_false]))
      go_wp2
      go_roundw
      case rel=>exact⟨k+1,t++s.extract k (k+1),by omega,by go_num,rfl,by rw[ByteArray.size_append];omega,HN,by first | rfl | trivial⟩
      case measure=>simp[intOf];omega
  ·have hnlt:decide ((k:Int)<(s.size:Int))=false:=decide_eq_false (by omega)
   have HE:Hid (t.toList=P.sw a.toList b.toList 0 true s.toList):=by
    have h1:=HT.out
    unfold P.SwAt at h1
    rw[List.drop_eq_nil_of_le (by rw[zAk];omega)] at h1
    unfold Hid;simpa [P.sw] using h1
   go_wp2
   go_ret
   exact⟨t,rfl,HE.out,by omega,rfl⟩
end Go.Proofs.YtkmebkbpfmoeaaaGreat
namespace Go.Proofs.YtkmebkbpfmoeaaaGreat
namespace Q
def Bit (r:List Nat) (a b:Nat):Prop:=(r.getD a 0).testBit b=true
structure Rel (n:Nat) (r:List Nat):Prop where
 len:r.length=n
 lt:∀ a b,Bit r a b→b<n
theorem Bit.left {r:List Nat} {a b:Nat} (h:Bit r a b):a<r.length:=by
 by_cases hl:a<r.length
 ·exact hl
 ·unfold Bit at h
  rw[getD_out _ _ (by omega)] at h
  simp at h
theorem one_bit (b c:Nat) (h:b<64):(one (b:Int)).testBit c=decide (b=c):=by
 unfold one
 rw[if_neg (by omega),Int.toNat_natCast,Nat.testBit_two_pow]
theorem hasS_bit (s b:Nat) (h:b<64):hasS s (b:Int)=s.testBit b:=by
 unfold hasS one
 rw[if_neg (by omega),Int.toNat_natCast]
 cases hb:s.testBit b
 ·have:s &&& 2 ^ b=0:=by
   refine Nat.eq_of_testBit_eq (fun i=>?_)
   rw[Nat.testBit_and,Nat.testBit_two_pow,Nat.zero_testBit]
   by_cases h:b=i
   ·rw[← h,hb];rfl
   ·simp[h]
  rw[this];rfl
 ·have:s &&& 2 ^ b≠0:=by
   intro e
   have h2:=congrArg (fun x=>x.testBit b) e
   simp[Nat.testBit_and,Nat.testBit_two_pow,hb] at h2
  simp[this]
theorem hasR_bit (r:List Nat) (a b:Nat) (h:b<64):hasR r (a:Int) (b:Int)=true ↔ Bit r a b:=by
 unfold hasR Bit
 rw[ofR_nat,hasS_bit _ _ h]
theorem map_get (f:Nat→Nat) (n a:Nat):((List.range n).map f).getD a 0=if a<n then f a else 0:=by
 by_cases h:a<n
 ·rw[getD_in _ _ (by simpa using h),if_pos h];simp
 ·rw[getD_out _ _ (by simpa using h),if_neg h]
theorem new_bit (n a b:Nat):¬ Bit (newR n) a b:=by
 intro h
 unfold Bit newR at h
 have:(List.replicate n 0).getD a 0=0:=by
  by_cases ha:a<n
  ·rw[getD_in _ _ (by simpa using ha)];simp
  ·rw[getD_out _ _ (by simpa using ha)]
 rw[this] at h;simp at h
section
variable {n:Nat} {r o:List Nat}
theorem or_bit (hr:r.length=n) (ho:o.length=n) (a b:Nat):Bit (orR r o) a b ↔ Bit r a b∨Bit o a b:=by
 unfold Bit orR
 rw[map_get]
 by_cases h:a<r.length
 ·rw[if_pos h,Nat.testBit_or,ofR_nat,ofR_nat,Bool.or_eq_true]
 ·rw[if_neg h,getD_out r _ (by omega),getD_out o _ (by omega)];simp
theorem and_bit (hr:r.length=n) (a b:Nat):Bit (andR r o) a b ↔ Bit r a b∧Bit o a b:=by
 unfold Bit andR
 rw[map_get]
 by_cases h:a<r.length
 ·rw[if_pos h,Nat.testBit_and,ofR_nat,ofR_nat,Bool.and_eq_true]
 ·rw[if_neg h,getD_out r _ (by omega)];simp
theorem zCx (hr:Rel n r) (ho:Rel n o):Rel n (orR r o) :=
 ⟨by rw[or_len];exact hr.len,fun a b h=>by rcases (or_bit hr.len ho.len a b).1 h with h | h;exact hr.lt _ _ h;exact ho.lt _ _ h⟩
theorem zDu (hr:Rel n r):Rel n (andR r o) :=
 ⟨by rw[and_len];exact hr.len,fun a b h=>hr.lt _ _ ((and_bit hr.len a b).1 h).1⟩
theorem thenB_bit (hn:n≤64) (a x:Nat):∀ (l:List Nat) (acc:Nat),(∀ c∈l,c<n)→((l.foldl (thenB r o a) acc).testBit x=true ↔ acc.testBit x=true∨∃ c∈l,Bit r a c∧Bit o c x)
 | [],acc,_=>by simp
 | c::l,acc,h=>by
  rw[List.foldl_cons,thenB_bit hn a x l _ (fun y hy=>h y (List.mem_cons_of_mem _ hy))]
  have hc:c<n:=h c (by simp)
  unfold thenB
  by_cases hb:Bit r a c
  ·rw[if_pos ((hasR_bit r a c (by omega)).2 hb),Nat.testBit_or,ofR_nat,Bool.or_eq_true]
   constructor
   ·rintro ((h1 | h1) | ⟨y,hy,h1⟩)
    ·exact Or.inl h1
    ·exact Or.inr ⟨c,by simp,hb,h1⟩
    ·exact Or.inr ⟨y,List.mem_cons_of_mem _ hy,h1⟩
   ·rintro (h1 | ⟨y,hy,h1⟩)
    ·exact Or.inl (Or.inl h1)
    ·rcases List.mem_cons.1 hy with rfl | hy
     ·exact Or.inl (Or.inr h1.2)
     ·exact Or.inr ⟨y,hy,h1⟩
  ·rw[if_neg (fun h2=>hb ((hasR_bit r a c (by omega)).1 h2))]
   constructor
   ·rintro (h1 | ⟨y,hy,h1⟩)
    ·exact Or.inl h1
    ·exact Or.inr ⟨y,List.mem_cons_of_mem _ hy,h1⟩
   ·rintro (h1 | ⟨y,hy,h1⟩)
    ·exact Or.inl h1
    ·rcases List.mem_cons.1 hy with rfl | hy
     ·exact absurd h1.1 hb
     ·exact Or.inr ⟨y,hy,h1⟩
theorem then_bit (hn:n≤64) (hr:Rel n r) (a b:Nat):Bit (thenR r o) a b ↔ ∃ c,Bit r a c∧Bit o c b:=by
 have e:Bit (thenR r o) a b ↔ (a<r.length∧(thenA r o a).testBit b=true):=by
  unfold thenR
  rw[Bit,map_get]
  by_cases h:a<r.length
  ·simp[h]
  ·simp[h]
 rw[e]
 unfold thenA
 rw[thenB_bit (n:=n) hn a b _ _ (fun c hc=>by rw[hr.len] at hc;exact List.mem_range.1 hc)]
 simp only[Nat.zero_testBit,Bool.false_eq_true,false_or,List.mem_range]
 constructor
 ·rintro ⟨_,c,_,h⟩;exact⟨c,h⟩
 ·rintro ⟨c,h⟩;exact⟨h.1.left,c,by rw[hr.len];exact hr.lt _ _ h.1,h⟩
theorem zBo (hn:n≤64) (hr:Rel n r) (ho:Rel n o):Rel n (thenR r o) :=
 ⟨by rw[then_len];exact hr.len,fun a b h=>by obtain⟨c,_,h⟩:=(then_bit hn hr a b).1 h;exact ho.lt _ _ h⟩
theorem setB_get (l:List Nat) (i x a:Nat) (h:i<l.length):(l.set i x).getD a 0=if a=i then x else l.getD a 0:=by
 by_cases ha:a=i
 ·rw[ha,if_pos rfl,getD_in _ _ (by simpa using h)];simp
 ·rw[if_neg ha];simp[List.getD,List.getElem?_set,Ne.symm ha]
theorem add_bit (hn:n≤64) (hr:r.length=n) (i k:Nat) (hi:i<n) (hk:k<n) (a b:Nat):Bit (addR r i k) a b ↔ Bit r a b∨(a=i∧b=k):=by
 unfold addR
 rw[if_neg (by omega),Int.toNat_natCast,Bit,setB_get _ _ _ _ (by omega)]
 by_cases h:a=i
 ·rw[if_pos h,Nat.testBit_or,ofR_nat,one_bit _ _ (by omega),Bool.or_eq_true,decide_eq_true_eq,h]
  constructor
  ·rintro (h1 | h1)
   ·exact Or.inl h1
   ·exact Or.inr ⟨rfl,h1.symm⟩
  ·rintro (h1 | h1)
   ·exact Or.inl h1
   ·exact Or.inr h1.2.symm
 ·rw[if_neg h];simp[h,Bit]
theorem fold_bit {β:Type} (F:List Nat→β→List Nat) (G:β→Nat→Nat→Prop) (l:List β) (hF:∀ r x,x∈l→r.length=n→(F r x).length=n∧∀ a b,Bit (F r x) a b ↔ Bit r a b∨G x a b) :
  ∀ r,r.length=n→(l.foldl F r).length=n∧∀ a b,Bit (l.foldl F r) a b ↔ Bit r a b∨∃ x∈l,G x a b:=by
 induction l with
 | nil=>intro r h;exact⟨h,by simp⟩
 | cons x l ih =>
  intro r h
  have h1:=hF r x (by simp) h
  have h2:=ih (fun r y hy hr=>hF r y (List.mem_cons_of_mem _ hy) hr) (F r x) h1.1
  refine⟨h2.1,fun a b=>?_⟩
  rw[List.foldl_cons,h2.2,h1.2]
  constructor
  ·rintro ((h3 | h3) | ⟨y,hy,h3⟩)
   ·exact Or.inl h3
   ·exact Or.inr ⟨x,by simp,h3⟩
   ·exact Or.inr ⟨y,List.mem_cons_of_mem _ hy,h3⟩
  ·rintro (h3 | ⟨y,hy,h3⟩)
   ·exact Or.inl (Or.inl h3)
   ·rcases List.mem_cons.1 hy with rfl | hy
    ·exact Or.inl (Or.inr h3)
    ·exact Or.inr ⟨y,hy,h3⟩
theorem ite_add (hn:n≤64) (c:Bool) (i k:Nat) (hi:i<n) (hk:k<n) (hr:r.length=n):(if c=true then addR r i k else r).length=n∧∀ a b,Bit (if c=true then addR r i k else r) a b ↔ Bit r a b∨(c=true∧a=i∧b=k):=by
 cases c
 ·exact⟨by simpa using hr,fun a b=>by simp⟩
 ·exact⟨by simpa [zIG] using hr,fun a b=>by simpa using add_bit hn hr i k hi hk a b⟩
theorem build_bit (hn:n≤64) (c:Nat→Nat→Bool) (F:List Nat→Nat→List Nat) (hF:∀ r i,F r i=(List.range n).foldl (fun r k=>if c i k=true then addR r (i:Int) (k:Int) else r) r) :
  Rel n ((List.range n).foldl F (newR n))∧∀ a b,Bit ((List.range n).foldl F (newR n)) a b ↔ a<n∧b<n∧c a b=true:=by
 have h:=fold_bit (n:=n) F (fun i a b=>a=i∧b<n∧c a b=true) (List.range n) (fun r i hi hr=>by
  rw[hF]
  have h:=fold_bit (n:=n) (fun r k=>if c i k=true then addR r (i:Int) (k:Int) else r) (fun k a b=>c i k=true∧a=i∧b=k) (List.range n) (fun r k hk hr=>ite_add hn _ i k (List.mem_range.1 hi) (List.mem_range.1 hk) hr) r hr
  refine⟨h.1,fun a b=>?_⟩
  rw[h.2]
  constructor
  ·rintro (h1 | ⟨k,hk,h1,rfl,rfl⟩)
   ·exact Or.inl h1
   ·exact Or.inr ⟨rfl,List.mem_range.1 hk,h1⟩
  ·rintro (h1 | ⟨rfl,h1,h2⟩)
   ·exact Or.inl h1
   ·exact Or.inr ⟨b,List.mem_range.2 h1,h2,rfl,rfl⟩) (newR n) (by simp[newR])
 have h2:∀ a b,Bit ((List.range n).foldl F (newR n)) a b ↔ a<n∧b<n∧c a b=true:=fun a b=>by
  rw[h.2]
  constructor
  ·rintro (h1 | ⟨k,hk,rfl,h1⟩)
   ·exact absurd h1 (new_bit _ _ _)
   ·exact⟨List.mem_range.1 hk,h1⟩
  ·rintro ⟨h1,h2⟩
   exact Or.inr ⟨a,List.mem_range.2 h1,rfl,h2⟩
 exact⟨⟨h.1,fun a b hb=>((h2 a b).1 hb).2.1⟩,h2⟩
theorem buildT_bit (hn:n≤64) (c:Nat→Nat→Bool) (F:List Nat→Nat→List Nat) (hF:∀ r i,F r i=(List.range n).foldl (fun r k=>if c i k=true then addR r (k:Int) (i:Int) else r) r) :
  Rel n ((List.range n).foldl F (newR n))∧∀ a b,Bit ((List.range n).foldl F (newR n)) a b ↔ a<n∧b<n∧c b a=true:=by
 have h:=fold_bit (n:=n) F (fun i a b=>b=i∧a<n∧c b a=true) (List.range n) (fun r i hi hr=>by
  rw[hF]
  have h:=fold_bit (n:=n) (fun r k=>if c i k=true then addR r (k:Int) (i:Int) else r) (fun k a b=>c i k=true∧a=k∧b=i) (List.range n) (fun r k hk hr=>ite_add hn _ k i (List.mem_range.1 hk) (List.mem_range.1 hi) hr) r hr
  refine⟨h.1,fun a b=>?_⟩
  rw[h.2]
  constructor
  ·rintro (h1 | ⟨k,hk,h1,rfl,rfl⟩)
   ·exact Or.inl h1
   ·exact Or.inr ⟨rfl,List.mem_range.1 hk,h1⟩
  ·rintro (h1 | ⟨rfl,h1,h2⟩)
   ·exact Or.inl h1
   ·exact Or.inr ⟨a,List.mem_range.2 h1,h2,rfl,rfl⟩) (newR n) (by simp[newR])
 have h2:∀ a b,Bit ((List.range n).foldl F (newR n)) a b ↔ a<n∧b<n∧c b a=true:=fun a b=>by
  rw[h.2]
  constructor
  ·rintro (h1 | ⟨k,hk,rfl,h1⟩)
   ·exact absurd h1 (new_bit _ _ _)
   ·exact⟨h1.1,List.mem_range.1 hk,h1.2⟩
  ·rintro ⟨h1,h3,h2⟩
   exact Or.inr ⟨b,List.mem_range.2 h3,rfl,h1,h2⟩
 exact⟨⟨h.1,fun a b hb=>((h2 a b).1 hb).2.1⟩,h2⟩
theorem turned_rb (hn:n≤64) (hr:Rel n r):Rel n (zJy r)∧∀ a b,Bit (zJy r) a b ↔ Bit r b a:=by
 have h:=buildT_bit hn (fun a b=>hasR r (a:Int) (b:Int)) (turnA r) (fun t a=>by
  unfold turnA turnB;rw[hr.len])
 unfold zJy
 rw[hr.len]
 refine⟨h.1,fun a b=>?_⟩
 rw[h.2]
 constructor
 ·rintro ⟨h1,h2,h3⟩;exact (hasR_bit r b a (by omega)).1 h3
 ·intro h1
  have h2:=h1.left
  have h3:=hr.lt _ _ h1
  exact⟨h3,by rw[← hr.len];exact h2,(hasR_bit r b a (by omega)).2 h1⟩
def TC (R:Nat→Nat→Prop) (a b:Nat):Prop:=∀ S:Nat→Nat→Prop,(∀ x y,R x y→S x y)→(∀ x y z,S x y→S y z→S x z)→S a b
theorem TC.base {R:Nat→Nat→Prop} {a b:Nat} (h:R a b):TC R a b:=fun _ hS _=>hS _ _ h
theorem TC.trans {R:Nat→Nat→Prop} {a b c:Nat} (h:TC R a b) (k:TC R b c):TC R a c:=fun S hS hT=>hT _ _ _ (h S hS hT) (k S hS hT)
theorem TC.map {R S:Nat→Nat→Prop} (f:Nat→Nat) (h:∀ x y,R x y→S (f x) (f y)) {a b:Nat} (k:TC R a b):TC S (f a) (f b) :=
 k (fun x y=>TC S (f x) (f y)) (fun x y hx=>TC.base (h x y hx)) (fun _ _ _=>TC.trans)
theorem TC.mono {R S:Nat→Nat→Prop} (h:∀ x y,R x y→S x y) {a b:Nat} (k:TC R a b):TC S a b:=TC.map (fun x=>x) h k
theorem closeB_fold (hn:n≤64) (b:Nat) (hb:b<n) (hr:Rel n r):∀ m,m≤n→Rel n ((List.range m).foldl (zJz b) r)∧∀ x y,Bit ((List.range m).foldl (zJz b) r) x y ↔ Bit r x y∨(x<m∧Bit r x b∧Bit r b y)
 | 0,_=>⟨hr,fun x y=>by simp⟩
 | m+1,hm=>by
  rw[zIg]
  obtain⟨i1,i2⟩:=closeB_fold hn b hb hr m (by omega)
  generalize (List.range m).foldl (zJz b) r=c at i1 i2
  have key:∀ x y,Bit (zJz b c m) x y ↔ Bit r x y∨(x<m+1∧Bit r x b∧Bit r b y):=by
   intro x y
   have e1:∀ z,Bit c z b ↔ Bit r z b:=fun z=>by
    rw[i2]
    constructor
    ·rintro (h | h)
     ·exact h
     ·exact h.2.1
    ·exact Or.inl
   have e2:∀ z,Bit c b z ↔ Bit r b z:=fun z=>by
    rw[i2]
    constructor
    ·rintro (h | h)
     ·exact h
     ·exact h.2.2
    ·exact Or.inl
   unfold zJz
   by_cases h:Bit c m b
   ·rw[if_pos ((hasR_bit c m b (by omega)).2 h),Bit,setB_get _ _ _ _ (by rw[i1.len];omega)]
    by_cases hx:x=m
    ·rw[if_pos hx,Nat.testBit_or,ofR_nat,ofR_nat,Bool.or_eq_true]
     have f1:(c.getD m 0).testBit y=true ↔ Bit c m y:=Iff.rfl
     have f2:(c.getD b 0).testBit y=true ↔ Bit c b y:=Iff.rfl
     rw[f1,f2,i2,e2,hx]
     constructor
     ·rintro ((h1 | h1) | h1)
      ·exact Or.inl h1
      ·exact Or.inr ⟨by omega,h1.2⟩
      ·exact Or.inr ⟨by omega,(e1 m).1 h,h1⟩
     ·rintro (h1 | h1)
      ·exact Or.inl (Or.inl h1)
      ·exact Or.inr h1.2.2
    ·rw[if_neg hx]
     have f1:(c.getD x 0).testBit y=true ↔ Bit c x y:=Iff.rfl
     rw[f1,i2]
     constructor
     ·rintro (h1 | h1)
      ·exact Or.inl h1
      ·exact Or.inr ⟨by omega,h1.2⟩
     ·rintro (h1 | h1)
      ·exact Or.inl h1
      ·exact Or.inr ⟨by omega,h1.2⟩
   ·rw[if_neg (fun h1=>h ((hasR_bit c m b (by omega)).1 h1)),i2]
    constructor
    ·rintro (h1 | h1)
     ·exact Or.inl h1
     ·exact Or.inr ⟨by omega,h1.2⟩
    ·rintro (h1 | h1)
     ·exact Or.inl h1
     ·by_cases hx:x=m
      ·exact absurd ((e1 m).2 (hx ▸ h1.2.1)) h
      ·exact Or.inr ⟨by omega,h1.2⟩
  refine⟨⟨by rw[closeB_len];exact i1.len,fun x y h=>?_⟩,key⟩
  rcases (key x y).1 h with h | h
  ·exact hr.lt _ _ h
  ·exact hr.lt _ _ h.2.2
theorem closed_fold (hn:n≤64) (hr:Rel n r):∀ m,m≤n→Rel n ((List.range m).foldl (zKo n) r)∧(∀ x y,Bit r x y→Bit ((List.range m).foldl (zKo n) r) x y)∧(∀ x y,Bit ((List.range m).foldl (zKo n) r) x y→TC (Bit r) x y)∧∀ k x y,k<m→Bit ((List.range m).foldl (zKo n) r) x k→Bit ((List.range m).foldl (zKo n) r) k y→Bit ((List.range m).foldl (zKo n) r) x y
 | 0,_=>⟨hr,fun _ _ h=>h,fun _ _ h=>TC.base h,fun k x y h=>absurd h (by omega)⟩
 | m+1,hm=>by
  rw[zIg]
  obtain⟨i1,i2,i3,i4⟩:=closed_fold hn hr m (by omega)
  generalize (List.range m).foldl (zKo n) r=c at i1 i2 i3 i4
  obtain⟨j1,j2⟩:=closeB_fold hn m (by omega) i1 n (Nat.le_refl _)
  have j3:∀ x y,Bit (zKo n c m) x y ↔ Bit c x y∨(Bit c x m∧Bit c m y):=fun x y=>by
   unfold zKo
   rw[j2]
   constructor
   ·rintro (h | h)
    ·exact Or.inl h
    ·exact Or.inr h.2
   ·rintro (h | h)
    ·exact Or.inl h
    ·exact Or.inr ⟨by rw[← i1.len];exact h.1.left,h⟩
  refine⟨j1,fun x y h=>(j3 x y).2 (Or.inl (i2 _ _ h)),fun x y h=>?_,fun k x y hk=>?_⟩
  ·rcases (j3 x y).1 h with h | h
   ·exact i3 _ _ h
   ·exact (i3 _ _ h.1).trans (i3 _ _ h.2)
  ·rw[j3,j3,j3]
   by_cases e:k=m
   ·rw[e]
    rintro (h | h) (h' | h')
    ·exact Or.inr ⟨h,h'⟩
    ·exact Or.inr ⟨h,h'.2⟩
    ·exact Or.inr ⟨h.1,h'⟩
    ·exact Or.inr ⟨h.1,h'.2⟩
   ·have T:=fun x y=>i4 k x y (by omega)
    rintro (h | h) (h' | h')
    ·exact Or.inl (T _ _ h h')
    ·exact Or.inr ⟨T _ _ h h'.1,h'.2⟩
    ·exact Or.inr ⟨h.1,T _ _ h.2 h'⟩
    ·exact Or.inr ⟨h.1,h'.2⟩
theorem closed_rb (hn:n≤64) (hr:Rel n r):Rel n (zJd r)∧∀ a b,Bit (zJd r) a b ↔ TC (Bit r) a b:=by
 have ho:=zCx hr hr
 obtain⟨h1,h2,h3,h4⟩:=closed_fold hn ho n (Nat.le_refl _)
 have e:∀ x y,Bit (orR r r) x y ↔ Bit r x y:=fun x y=>by rw[or_bit hr.len hr.len];simp
 unfold zJd
 rw[hr.len]
 refine⟨h1,fun a b=>⟨fun h=>(h3 _ _ h).mono (fun x y hx=>(e x y).1 hx),fun h=>?_⟩⟩
 refine h _ (fun x y hx=>h2 _ _ ((e x y).2 hx)) (fun x y z hx hy=>h4 y x z (h1.lt _ _ hx) hx hy)
theorem loops_bit (hn:n≤64) (hr:Rel n r):zIF r=true ↔ ∃ i,Bit r i i:=by
 unfold zIF
 rw[List.any_eq_true]
 constructor
 ·rintro ⟨i,hi,h⟩
  exact⟨i,(hasR_bit r i i (by have:=List.mem_range.1 hi;rw[hr.len] at this;omega)).1 h⟩
 ·rintro ⟨i,h⟩
  exact⟨i,List.mem_range.2 h.left,(hasR_bit r i i (by have:=hr.lt _ _ h;omega)).2 h⟩
end
end Q
end Go.Proofs.YtkmebkbpfmoeaaaGreat
