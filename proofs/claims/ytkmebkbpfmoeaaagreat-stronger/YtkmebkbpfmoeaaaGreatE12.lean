import Derived.WalkSpells
import Derived.Test.YtkmebkbpfmoeaaaGreatE11
set_option linter.unusedVariables false
set_option linter.unusedSimpArgs false
set_option maxHeartbeats 12800000
namespace Go.Proofs.YtkmebkbpfmoeaaaGreat
open Go Go.RowKit
set_option maxRecDepth 100000
namespace P
theorem same_step {a b:List Int} {k:Nat} (hk:k<a.length) (hb:k<b.length) (h:a.take k=b.take k) (e:a.getD k 0=b.getD k 0):a.take (k+1)=b.take (k+1):=by
 rw[List.take_succ_eq_append_getElem hk,List.take_succ_eq_append_getElem hb,h]
 rw[zAH a k hk,zAH b k hb] at e
 rw[e]
end P
theorem zFB (va vb:Value) (a b:List Int) (w:World) (ha:zBF w va a) (hb:zBF w vb b) (hla:a.length<1000) :
  Calls Tryz.prog 26 #[va,vb] w fun e w'=>e=.returned (.bool (a==b))∧Below w.heap.size w w':=by
 obtain⟨xa,ca,rfl,hxa⟩:=ha.form
 obtain⟨xb,cb,rfl,hxb⟩:=hb.form
 clear ha hb
 by_cases hlen:a.length=b.length
 ·have hlen':(a.length:Int)=(b.length:Int):=by omega
  have hq:((a.length:Int) != (b.length:Int))=false:=by simp[hlen']
  have HL:=zAa hlen
  clear hlen hlen'
  go_enter Tryz.func26,Tryz.ntmps26
  go_wp2
  go_loopw [5] (fun j wr=>∃ k:Nat,k≤a.length∧j=.int .i64 k∧Hid (a.take k=b.take k)∧Below w.heap.size w wr) (fun j _=>a.length-(intOf j).toNat)
  case atStart=>exact⟨0,Nat.zero_le _,rfl,rfl,Below.refl _ _⟩
  case round =>
   obtain⟨k,hk,rfl,HC,hbel⟩:=hrel
   by_cases hlt:k<a.length
   ·have hin:(k:Int)<(a.length:Int):=by omega
    have hbl:k<b.length:=by have:=HL.out;omega
    have hinb:(k:Int)<(b.length:Int):=by omega
    obtain⟨g1,rfl,hg1,hc1⟩:=hxa (by omega)
    obtain⟨g2,rfl,hg2,hc2⟩:=hxb (by omega)
    have d1:wr.cell? ⟨g1,k,none⟩=some (.int .i64 (a.getD k 0)):=by rw[zAH a k hlt];exact (hbel.cell (p:=⟨g1,k,none⟩) hg1).trans (hc1 k hlt)
    have d2:wr.cell? ⟨g2,k,none⟩=some (.int .i64 (b.getD k 0)):=by rw[zAH b k hbl];exact (hbel.cell (p:=⟨g2,k,none⟩) hg2).trans (hc2 k hbl)
    have l1:=Nat.lt_of_lt_of_le hg1 hbel.size
    have l2:=Nat.lt_of_lt_of_le hg2 hbel.size
    have HS:=zAa (P.same_step hlt hbl HC.out)
    have HNE:Hid (a.getD k 0≠b.getD k 0→(a==b)=false):=fun h=>by
     rw[beq_eq_false_iff_ne];intro e;exact h (by rw[e])
    generalize a.getD k 0=x at *
    generalize b.getD k 0=y at *
    cases hz:(x != y)
    ·have HN:Hid (a.take (k+1)=b.take (k+1)):=HS.out (by simpa using hz)
     clear hc1 hc2
     go_wp2
     go_quiet (fail)
     all_goals
      go_wp2
      go_roundw
      case rel=>exact⟨k+1,by omega,by go_num,HN,hbel.trans (zAD _ _ _)⟩
      case measure=>simp[intOf];omega
    ·have HN:Hid ((a==b)=false):=HNE.out (by simpa using hz)
     clear hc1 hc2
     go_wp2
     go_quiet (fail)
     all_goals
      go_wp2
      go_ret
      rw[HN.out]
      exact⟨rfl,hbel.trans (zAD _ _ _)⟩
   ·have hkn:k=a.length:=by omega
    subst hkn
    have HE:Hid ((a==b)=true):=by
     have h1:=HC.out
     rw[List.take_of_length_le (Nat.le_refl _),HL.out,List.take_of_length_le (Nat.le_refl _)] at h1
     unfold Hid;rw[h1];simp
    go_wp2
    go_ret
    rw[HE.out];exact⟨rfl,hbel⟩
 ·have hq:((a.length:Int) != (b.length:Int))=true:=by simp;omega
  have HE:Hid ((a==b)=false):=by
   unfold Hid;rw[beq_eq_false_iff_ne];intro e;exact hlen (by rw[e])
  clear hlen
  go_enter Tryz.func26,Tryz.ntmps26
  go_wp2
  go_ret
  rw[HE.out];exact⟨rfl,Below.refl _ _⟩
theorem zFC (B:Nat) (v vr:Value) (rs:List (List Int)) (vs:List Value) (r:List Int) (w:World) (h:RowsI w B v rs vs) (hr:zBF w vr r) (hs:∀ x∈rs,x.length<1000) (hn:rs.length<100000000) :
  Calls Tryz.prog 16 #[v,vr] w fun e w'=>e=.returned (.bool (rs.contains r))∧Below w.heap.size w w':=by
 obtain⟨xa,ca,rfl,hxa⟩:=h.form
 have HR:=zAa h
 have HV:=zAa hr
 have HS:=zAa hs
 clear h hr hs
 go_enter Tryz.func16,Tryz.ntmps16
 go_wp2
 go_loopw [5] (fun j wr=>∃ k:Nat,k≤rs.length∧j=.int .i64 k∧Hid ((rs.take k).contains r=false)∧Hid (Below w.heap.size w wr)) (fun j _=>rs.length-(intOf j).toNat)
 case atStart=>exact⟨0,Nat.zero_le _,rfl,by simp[Hid],Below.refl _ _⟩
 case round =>
  obtain⟨k,hk,rfl,HC,HB⟩:=hrel
  by_cases hlt:k<rs.length
  ·have hin:(k:Int)<(rs.length:Int):=by omega
   obtain⟨b,rfl,hB,hb,hcs⟩:=hxa (by omega)
   have hiv:k<vs.length:=by rw[HR.out.len];exact hlt
   have cu:=(HB.out.cell (p:=⟨b,k,none⟩) hb).trans (hcs k hiv)
   have lb:=Nat.lt_of_lt_of_le hb HB.out.size
   have HU:=zAa ((HR.out.rows k hlt vs[k] (List.getElem?_eq_getElem hiv)).below HB.out)
   have HV2:=zAa (HV.out.below HB.out)
   have HS1:=zAa (HS.out rs[k] (List.getElem_mem hlt))
   have HT:Hid (∀ q,(rs[k]==r)=q→(rs.take (k+1)).contains r=q):=fun q hq=>by
    rw[List.take_succ_eq_append_getElem hlt]
    have h1:=HC.out
    rw[Bool.eq_iff_iff,List.contains_iff_mem,List.mem_append,List.mem_singleton,← hq,beq_iff_eq]
    constructor
    ·rintro (h2 | h2)
     ·rw[← List.contains_iff_mem,h1] at h2;cases h2
     ·exact h2.symm
    ·exact fun h2=>Or.inr h2.symm
   have HT2:Hid ((rs.take (k+1)).contains r=true→rs.contains r=true):=fun h2=>by
    rw[List.contains_iff_mem] at h2 ⊢
    exact List.mem_of_mem_take h2
   generalize vs[k]=u at *
   generalize rs[k]=x at *
   clear hcs hxa
   cases hq:(x==r)
   ·have HN:=zAa (HT.out false hq)
    go_wp2_with (first
     | (go_at_call 26;refine (zFB _ _ x r _ HU.out HV2.out HS1.out).mono ?_;rw[hq];rintro e w1 ⟨rfl,hb1⟩;have B1:=zAa (zAo HB.out (Nat.le_refl _) hb1);clear hb1))
    go_roundw
    case rel=>exact⟨k+1,by omega,by go_num,HN,B1⟩
    case measure=>simp[intOf];omega
   ·have HN:=zAa (HT2.out (HT.out true hq))
    go_wp2_with (first
     | (go_at_call 26;refine (zFB _ _ x r _ HU.out HV2.out HS1.out).mono ?_;rw[hq];rintro e w1 ⟨rfl,hb1⟩;have B1:=zAa (zAo HB.out (Nat.le_refl _) hb1);clear hb1))
    go_ret
    rw[HN.out];exact⟨rfl,B1.out⟩
  ·have hnlt:decide ((k:Int)<(rs.length:Int))=false:=decide_eq_false (by omega)
   have HE:Hid (rs.contains r=false):=by
    have h1:=HC.out
    rw[List.take_of_length_le (by omega)] at h1
    exact h1
   go_wp2
   go_ret
   rw[HE.out];exact⟨rfl,HB.out⟩
theorem zDT (B B2:Nat) (v v2:Value) (rs ss:List (List Int)) (vs us:List Value) (w:World) (h:RowsI w B v rs vs) (h2:RowsI w B2 v2 ss us) (hs:∀ x∈ss,x.length<1000) (hn:rs.length<100000000) (hn2:ss.length<100000000) :
  Calls Tryz.prog 21 #[v,v2] w fun e w'=>e=.returned (.bool (rs.all fun x=>ss.contains x))∧Below w.heap.size w w':=by
 obtain⟨xa,ca,rfl,hxa⟩:=h.form
 have HR:=zAa h
 have HV:=zAa h2
 have HS:=zAa hs
 clear h h2 hs
 go_enter Tryz.func21,Tryz.ntmps21
 go_wp2
 go_loopw [5] (fun j wr=>∃ k:Nat,k≤rs.length∧j=.int .i64 k∧Hid (((rs.take k).all fun x=>ss.contains x)=true)∧Hid (Below w.heap.size w wr)) (fun j _=>rs.length-(intOf j).toNat)
 case atStart=>exact⟨0,Nat.zero_le _,rfl,by simp[Hid],Below.refl _ _⟩
 case round =>
  obtain⟨k,hk,rfl,HC,HB⟩:=hrel
  by_cases hlt:k<rs.length
  ·have hin:(k:Int)<(rs.length:Int):=by omega
   obtain⟨b,rfl,hB,hb,hcs⟩:=hxa (by omega)
   have hiv:k<vs.length:=by rw[HR.out.len];exact hlt
   have cu:=(HB.out.cell (p:=⟨b,k,none⟩) hb).trans (hcs k hiv)
   have lb:=Nat.lt_of_lt_of_le hb HB.out.size
   have HU:=zAa ((HR.out.rows k hlt vs[k] (List.getElem?_eq_getElem hiv)).below HB.out)
   have HV2:=zAa (HV.out.below HB.out)
   have HT:Hid (ss.contains rs[k]=true→((rs.take (k+1)).all fun x=>ss.contains x)=true):=fun hq=>by
    rw[List.take_succ_eq_append_getElem hlt,List.all_append,HC.out]
    simp only[List.all_cons,List.all_nil,hq];rfl
   have HT2:Hid (ss.contains rs[k]=false→(rs.all fun x=>ss.contains x)=false):=fun hq=>by
    rw[List.all_eq_false]
    exact⟨rs[k],List.getElem_mem hlt,by rw[hq];simp⟩
   generalize vs[k]=u at *
   generalize rs[k]=x at *
   clear hcs hxa
   cases hq:(ss.contains x)
   ·have HN:=zAa (HT2.out hq)
    go_wp2_with (first
     | (go_at_call 16;refine (zFC B2 _ _ ss us x _ HV2.out HU.out HS.out hn2).mono ?_;rw[hq];rintro e w1 ⟨rfl,hb1⟩;have B1:=zAa (zAo HB.out (Nat.le_refl _) hb1);clear hb1))
    go_ret
    rw[HN.out];exact⟨rfl,B1.out⟩
   ·have HN:=zAa (HT.out hq)
    go_wp2_with (first
     | (go_at_call 16;refine (zFC B2 _ _ ss us x _ HV2.out HU.out HS.out hn2).mono ?_;rw[hq];rintro e w1 ⟨rfl,hb1⟩;have B1:=zAa (zAo HB.out (Nat.le_refl _) hb1);clear hb1))
    go_roundw
    case rel=>exact⟨k+1,by omega,by go_num,HN,B1⟩
    case measure=>simp[intOf];omega
  ·have hnlt:decide ((k:Int)<(rs.length:Int))=false:=decide_eq_false (by omega)
   have HE:Hid ((rs.all fun x=>ss.contains x)=true):=by
    have h1:=HC.out
    rw[List.take_of_length_le (by omega)] at h1
    exact h1
   go_wp2
   go_ret
   rw[HE.out];exact⟨rfl,HB.out⟩
theorem zFZ (s:ByteArray) (w:World) (hs:s.size≤10000000) :
  Calls Tryz.prog 17 #[.string s] w fun e w'=>∃ v,∃ ws:List ByteArray,e=.returned v∧ws.map ByteArray.toList=(P.zIp 10 s.toList).dropLast∧(∀ x∈ws,x.size≤s.size)∧w'.ownsRow w.heap.size 9 1 v ws.length (ws.map Value.string)∧Below w.heap.size w w':=by
 obtain⟨i0,hi,hz0,hz1,hz2⟩:=info_parts Tryz.infoStr
 go_enter Tryz.func17,Tryz.ntmps17
 go_wp2
 go_loopw [3,4,5] (fun v f i wr=>∃ k m:Nat,∃ bs:List ByteArray,∃ v',v=v'∧k≤s.size∧m≤k∧i=.int .i64 k∧f=.int .i64 m∧bs.length≤k∧Hid (P.zIp 10 (s.toList.take k)=bs.map ByteArray.toList++[(s.toList.take k).drop m]) ∧
   Hid (∀ x∈bs,x.size≤s.size)∧Hid (wr.ownsRow w.heap.size 9 1 v' bs.length (bs.map Value.string))∧Hid (Below w.heap.size w wr)) (fun _ _ i _=>s.size-(intOf i).toNat)
 case atStart=>exact⟨0,0,[],_,rfl,Nat.zero_le _,Nat.le_refl _,rfl,rfl,Nat.le_refl _,by unfold Hid;simp[P.zIp],fun x hx=>by simp at hx,World.ownsRow_nil _ _ _ _,Below.refl _ _⟩
 case round =>
  obtain⟨k,m,bs,v',hv,hk,hm,rfl,rfl,hbl,HS,HXS,HO,HB⟩:=hrel
  have hv:=hv.symm
  subst hv
  have hmk:(m:Int)≤(k:Int):=by omega
  by_cases hlt:k<s.size
  ·have hlt':(k:Int)<(s.size:Int):=by omega
   have hk0:(0:Int)≤(k:Int):=by omega
   have hle':(k:Int)≤(s.size:Int):=by omega
   have hm0:(0:Int)≤(m:Int):=by omega
   by_cases hc:s[k]=10
   ·have hq:((s[k].toNat:Int)==10)=true:=by rw[hc];rfl
    have HC:=zAa hc
    clear hc
    have hsl:=HB.out.size
    have hex:∀ wx,(Instr.slice 9 (.string s) (some (.int .i64 (m:Int))) (some (.int .i64 (k:Int))) none).run Tryz.prog wx=.ok (.string (s.extract m k)) wx:=fun wx=>by
     rw[run_slice_string wx 9 s .i64 .i64 _ _ Tryz.underlying9 (by omega) (by omega) (by omega),show ((k:Int)).toNat=k by omega,show ((m:Int)).toNat=m by omega]
    have HO2:Hid ((wr.alloc (.cells #[.string (s.extract m k)] 9)).ownsRow w.heap.size 9 1 v' bs.length (bs.map Value.string)):=HO.out.alloc _
    have HN2:Hid (∀ j u,[Value.string (s.extract m k)][j]?=some u→(wr.alloc (.cells #[.string (s.extract m k)] 9)).cell? ((⟨wr.heap.size,0,none⟩:Addr).add j)=some u):=World.news_of_block (cs:=#[.string (s.extract m k)]) (t:=9) (fr:=(0,0)) (heap_alloc_new wr _)
    go_wp2_with (first
     | (at_builtin;refine wpList_append_lies _ rfl (.tmp 16) (.tmp 21) 35 rfl w.heap.size 9 i0 (.string ByteArray.empty) 1 16 Tryz.underlying35 hi hz0 hz1 hz2 rfl (by decide) _ bs.length (bs.map Value.string) rfl (by exact HO2.out) ⟨wr.heap.size,0,none⟩ 1 1 [.string (s.extract m k)] rfl rfl (by exact HN2.out) (by simp[Value.oneCell']) (by decide) (by unfold maxLen;omega) (by omega) (by simp;omega) _ rfl ?_;intro g cap w1 hown' hgrow hat hglt))
    have HR:=zAa (zDM 10 s k m bs hlt HS.out HC.out)
    have hb1:Hid (Below w.heap.size w w1):=(HB.out.alloc HB.out.size _).grown hgrow (by have:=HB.out.size;simp;omega) (fun j hj=>(HO.out.lt j hj).1)
    have HO3:Hid (w1.ownsRow w.heap.size 9 1 (.slice (some ⟨g,0,none⟩) (bs.length+1) cap) (bs++[s.extract m k]).length ((bs++[s.extract m k]).map Value.string)):=by unfold Hid;simpa using hown'
    have HXS2:Hid (∀ x∈bs++[s.extract m k],x.size≤s.size):=fun x hx=>by
     rcases List.mem_append.1 hx with hx | hx
     ·exact HXS.out x hx
     ·simp at hx
      subst hx
      rw[ByteArray.size_extract];omega
    clear hown' hgrow hat HS
    (try go_wp2)
    go_roundw
    case rel=>exact⟨k+1,k+1,bs++[s.extract m k],_,rfl,by omega,Nat.le_refl _,by go_num,by go_num,by simp;omega,HR,HXS2,HO3,hb1⟩
    case measure=>simp[intOf];omega
   ·have hq:((s[k].toNat:Int)==10)=false:=by
     rw[beq_eq_false_iff_ne]
     intro e
     apply hc
     apply UInt8.toNat_inj.1
     have:s[k].toNat=10:=by omega
     rw[this];rfl
    have HR:=zAa (zDN 10 s k m bs hlt hm HS.out hc)
    clear HS hc
    go_wp2
    go_roundw
    case rel=>exact⟨k+1,m,bs,_,rfl,by omega,by omega,by go_num,rfl,by omega,HR,HXS,HO,HB⟩
    case measure=>simp[intOf];omega
  ·have hnlt:decide ((k:Int)<(s.size:Int))=false:=decide_eq_false (by omega)
   have HS2:Hid (bs.map ByteArray.toList=(P.zIp 10 s.toList).dropLast):=by
    have hks:k=s.size:=by omega
    subst hks
    unfold Hid
    have:=HS.out
    rw[List.take_of_length_le (by rw[zAi];exact Nat.le_refl _)] at this
    rw[this];simp
   clear HS
   go_wp2
   go_ret
   exact⟨_,rfl,bs,HS2.out,HXS.out,HO.out,HB.out⟩
namespace P
def zJj (a t:List UInt8):Bool:=decide (t.length≤a.length)&&(a.take t.length==t)
end P
theorem zFc (s t:ByteArray) (w:World) :
  Calls Tryz.prog 19 #[.string s,.string t] w fun e w'=>e=.returned (.bool (P.zJj s.toList t.toList))∧w'=w:=by
 have HB:Hid (P.zJj s.toList t.toList=(decide (t.size≤s.size)&&((s.extract 0 t.size).toList==t.toList))):=by
  unfold Hid P.zJj
  rw[zAi,zAi,zAT,List.drop_zero]
 by_cases h:t.size≤s.size
 ·have h':(t.size:Int)≤(s.size:Int):=by omega
  have hb2:P.zJj s.toList t.toList=((s.extract 0 t.size).toList==t.toList):=by rw[HB.out,decide_eq_true h,Bool.true_and]
  have HB2:=zAa hb2
  clear hb2
  go_enter Tryz.func19,Tryz.ntmps19
  go_wp2
  go_ret
  rw[HB2.out];exact⟨rfl,rfl⟩
 ·have h':decide ((t.size:Int)≤(s.size:Int))=false:=decide_eq_false (by omega)
  have hb2:P.zJj s.toList t.toList=false:=by rw[HB.out,decide_eq_false h,Bool.false_and]
  have HB2:=zAa hb2
  clear hb2
  go_enter Tryz.func19,Tryz.ntmps19
  go_wp2
  go_ret
  rw[HB2.out];exact⟨rfl,rfl⟩
namespace P
def hasAt (a t:List UInt8) (i:Nat):Bool:=decide (i+t.length≤a.length)&&((a.drop i).take t.length==t)
def hasB (a t:List UInt8):Bool:=(List.range (a.length+1)).any (hasAt a t)
theorem hasB_false {a t:List UInt8} (h:∀ i,i+t.length≤a.length→hasAt a t i=false):hasB a t=false:=by
 unfold hasB
 rw[List.any_eq_false]
 intro i _
 by_cases hi:i+t.length≤a.length
 ·rw[h i hi];simp
 ·unfold hasAt;simp[hi]
theorem hasB_true {a t:List UInt8} (i:Nat) (h:hasAt a t i=true):hasB a t=true:=by
 unfold hasB
 rw[List.any_eq_true]
 have h1:=h
 unfold hasAt at h1
 simp only[Bool.and_eq_true,decide_eq_true_eq] at h1
 exact⟨i,by simp;omega,h⟩
end P
theorem zGZ (s t:ByteArray) (w:World) (hs:s.size≤1000000000) (ht:t.size≤1000) :
  Calls Tryz.prog 20 #[.string s,.string t] w fun e w'=>e=.returned (.bool (P.hasB s.toList t.toList))∧w'=w:=by
 go_enter Tryz.func20,Tryz.ntmps20
 go_wp2
 go_loopw [5] (fun iv wr=>∃ i:Nat,i≤s.size+1∧iv=.int .i64 (i:Int)∧Hid (∀ j,j<i→j+t.size≤s.size→P.hasAt s.toList t.toList j=false)∧wr=w) (fun iv _=>s.size+1-(intOf iv).toNat)
 case atStart=>exact⟨0,Nat.zero_le _,rfl,fun j hj=>by omega,rfl⟩
 case round =>
  obtain⟨i,hi,rfl,HN,rfl⟩:=hrel
  by_cases hlt:i+t.size≤s.size
  ·have hlt':(i:Int)+(t.size:Int)≤(s.size:Int):=by omega
   have hi0:(0:Int)≤(i:Int):=by omega
   have hii:(i:Int)≤(i:Int)+(t.size:Int):=by omega
   have hex:∀ wx,(Instr.slice 9 (.string s) (some (.int .i64 (i:Int))) (some (.int .i64 ((i:Int)+(t.size:Int)))) none).run Tryz.prog wx=.ok (.string (s.extract i (i+t.size))) wx:=fun wx=>by
    rw[run_slice_string wx 9 s .i64 .i64 _ _ Tryz.underlying9 (by omega) (by omega) (by omega),show ((i:Int)).toNat=i by omega,show ((i:Int)+(t.size:Int)).toNat=i+t.size by omega]
   have HX:Hid (P.hasAt s.toList t.toList i=((s.extract i (i+t.size)).toList==t.toList)):=by
    unfold Hid P.hasAt
    rw[zAi,zAi,zAT,decide_eq_true hlt,Bool.true_and,List.drop_take,show i+t.size-i=t.size by omega]
   cases hq:((s.extract i (i+t.size)).toList==t.toList)
   ·have HN2:Hid (∀ j,j<i+1→j+t.size≤s.size→P.hasAt s.toList t.toList j=false):=fun j hj hjs=>by
     by_cases hji:j=i
     ·subst hji;rw[HX.out,hq]
     ·exact HN.out j (by omega) hjs
    go_wp2
    go_roundw
    case rel=>exact⟨i+1,by omega,by go_num,HN2,by first | rfl | trivial⟩
    case measure=>simp[intOf];omega
   ·have HT:Hid (P.hasB s.toList t.toList=true):=P.hasB_true i (by rw[HX.out,hq])
    go_wp2
    go_ret
    rw[HT.out];exact⟨rfl,rfl⟩
  ·have hnlt:decide ((i:Int)+(t.size:Int)≤(s.size:Int))=false:=decide_eq_false (by omega)
   have HT:Hid (P.hasB s.toList t.toList=false):=P.hasB_false (fun j hj=>by
    rw[zAi,zAi] at hj
    exact HN.out j (by omega) hj)
   go_wp2
   go_ret
   rw[HT.out];exact⟨rfl,rfl⟩
end Go.Proofs.YtkmebkbpfmoeaaaGreat
namespace Go.Proofs.YtkmebkbpfmoeaaaGreat
namespace P
theorem splitAt_app (c:UInt8) (r:List UInt8):∀ p:List UInt8,zIp c (p++c::r)=zIp c p++zIp c r
 | []=>by rw[List.nil_append,splitAt_cons_eq];rfl
 | x::p=>by
  have ih:=splitAt_app c r p
  by_cases hx:x=c
  ·subst hx
   rw[List.cons_append,splitAt_cons_eq,splitAt_cons_eq,ih];rfl
  ·cases hs:zIp c p with
   | nil=>exact absurd hs (zJo _ _)
   | cons a b =>
    rw[List.cons_append,splitAt_cons_ne c x p hx a b hs,splitAt_cons_ne c x (p++c::r) hx a (b++zIp c r) (by rw[ih,hs];rfl)];rfl
theorem splitAt_none (c:UInt8):∀ l:List UInt8,c ∉ l→zIp c l=[l]
 | [],_=>rfl
 | x::l,h=>by
  have h1:x≠c:=fun e=>h (by rw[e];simp)
  have h2:=splitAt_none c l (fun e=>h (List.mem_cons_of_mem _ e))
  exact splitAt_cons_ne c x l h1 l [] h2
def joinC (c:UInt8):List (List UInt8)→List UInt8
 | []=>[]
 | [a]=>a
 | a::b::r=>a++c::joinC c (b::r)
theorem joinC_cons (c:UInt8) (a:List UInt8) (l:List (List UInt8)) (h:l≠[]):joinC c (a::l)=a++c::joinC c l:=by
 cases l with
 | nil=>exact absurd rfl h
 | cons b r=>rfl
theorem join_split (c:UInt8):∀ l:List UInt8,joinC c (zIp c l)=l
 | []=>rfl
 | x::l=>by
  have ih:=join_split c l
  by_cases hx:x=c
  ·subst hx
   rw[splitAt_cons_eq,joinC_cons _ _ _ (zJo _ _),ih];rfl
  ·cases hs:zIp c l with
   | nil=>exact absurd hs (zJo _ _)
   | cons a b =>
    rw[splitAt_cons_ne c x l hx a b hs]
    rw[hs] at ih
    cases b with
    | nil=>simp only[joinC] at ih ⊢;rw[ih]
    | cons b1 b2=>simp only[joinC] at ih ⊢;rw[← ih];rfl
theorem joinC_app (c:UInt8) (q:List (List UInt8)) (hq:q≠[]):∀ p:List (List UInt8),p≠[]→joinC c (p++q)=joinC c p++c::joinC c q
 | [],h=>absurd rfl h
 | [a],_=>joinC_cons c a q hq
 | a::b::p,_=>by
  rw[List.cons_append,joinC_cons c a (b::p++q) (by simp),joinC_app c q hq (b::p) (by simp),joinC_cons c a (b::p) (by simp),List.append_assoc];rfl
theorem hasB_iff (a t:List UInt8):hasB a t=true ↔ ∃ p q,a=p++(t++q):=by
 constructor
 ·intro h
  unfold hasB at h
  rw[List.any_eq_true] at h
  obtain⟨i,_,hi⟩:=h
  unfold hasAt at hi
  simp only[Bool.and_eq_true,decide_eq_true_eq,beq_iff_eq] at hi
  refine⟨a.take i,(a.drop i).drop t.length,?_⟩
  conv=>lhs;rw[← List.take_append_drop i a,← List.take_append_drop t.length (a.drop i),hi.2]
 ·rintro ⟨p,q,rfl⟩
  apply hasB_true p.length
  unfold hasAt
  simp
theorem has_word (x W:List UInt8) (h32:(32:UInt8) ∉ W):hasB (x++[10]) (32::(W++[32]))=((zIp 32 x).tail.dropLast).contains W:=by
 obtain⟨a,b,hab⟩:∃ a b,zIp 32 x=a++[b]:=⟨(zIp 32 x).dropLast,(zIp 32 x).getLast (zJo _ _),(List.dropLast_concat_getLast (zJo _ _)).symm⟩
 have h10:zIp 32 (x++[10])=a++[b++[10]]:=by
  have:=zJr 32 10 x a b hab
  rw[if_neg (by decide)] at this;exact this
 rw[Bool.eq_iff_iff,hasB_iff,List.contains_iff_mem]
 constructor
 ·rintro ⟨u,v,he⟩
  have e1:x++[10]=u++32::(W++32::v):=by rw[he];simp
  rw[e1,splitAt_app,splitAt_app,splitAt_none 32 W h32] at h10
  obtain⟨a1,b1,hv⟩:∃ a b,zIp 32 v=a++[b]:=⟨(zIp 32 v).dropLast,(zIp 32 v).getLast (zJo _ _),(List.dropLast_concat_getLast (zJo _ _)).symm⟩
  rw[hv,show zIp 32 u++([W]++(a1++[b1]))=(zIp 32 u++W::a1)++[b1] by simp] at h10
  have ha:=(List.append_inj' h10 rfl).1
  rw[hab,← ha]
  cases hu:zIp 32 u with
  | nil=>exact absurd hu (zJo _ _)
  | cons p q =>
   rw[show p::q++W::a1++[b]=p::((q++W::a1)++[b]) by simp,List.tail_cons,List.dropLast_concat]
   simp
 ·intro hm
  rw[hab] at hm
  cases a with
  | nil=>simp at hm
  | cons p q =>
   simp at hm
   obtain⟨q1,q2,hq⟩:=List.append_of_mem hm
   have hx:=join_split 32 x
   rw[hab,hq,show p::(q1++W::q2)++[b]=(p::q1)++([W]++(q2++[b])) by simp,joinC_app 32 _ (by simp) _ (by simp),joinC_app 32 _ (by simp) _ (by simp)] at hx
   refine⟨joinC 32 (p::q1),joinC 32 (q2++[b])++[10],?_⟩
   rw[← hx]
   simp[joinC]
end P
namespace P
theorem varOf_word {p:List UInt8} (h:(varOf p).2=true):p=[120]∨p=[121]∨p=[122]:=by
 unfold varOf at h
 split at h
 ·rename_i e;exact Or.inl (by simpa using e)
 ·split at h
  ·rename_i e;exact Or.inr (Or.inl (by simpa using e))
  ·split at h
   ·rename_i e;exact Or.inr (Or.inr (by simpa using e))
   ·simp at h
theorem register_word {p:List UInt8} (h:(zIk p).2=true):∃ d,p=[114,d]:=by
 match p,h with
 | [],h=>simp[zIk] at h
 | [_],h=>simp[zIk] at h
 | [c,d],h =>
  simp only[zIk] at h
  split at h
  ·rename_i e;exact⟨d,by rw[e]⟩
  ·simp at h
 | _::_::_::_,h=>simp[zIk] at h
theorem operand_word {p:List UInt8} (h:(zIv p).2=true):p.length≤2:=by
 match p,h with
 | [],_=>simp
 | [_],_=>simp
 | [_,_],_=>simp
 | a::b::c::r,h =>
  simp only[zIv] at h
  obtain⟨d,hd⟩:=register_word h
  simp at hd
theorem sign_word {p:List UInt8} (h:(sign p).2=true):p.length≤2:=by
 unfold sign at h
 split at h
 ·rename_i e;rw[show p=[43] by simpa using e];simp
 ·split at h
  ·rename_i e;rw[show p=[45] by simpa using e];simp
  ·split at h
   ·rename_i e;rw[show p=[61,61] by simpa using e];simp
   ·simp at h
def ordW (o:Int):List UInt8:=if o==0 then [119,101,97,107] else if o==1 then [114,101,108,97,120,101,100] else if o==2 then [97,99,113,117,105,114,101] else if o==3 then [114,101,108,101,97,115,101] else if o==4 then [97,99,113,114,101,108] else [115,99]
theorem order_word {o:List UInt8} (h:(order o).2=true):o=ordW (order o).1∧((order o).1=0∨(order o).1=1∨(order o).1=2∨(order o).1=3∨(order o).1=4∨(order o).1=5):=by
 unfold order at h ⊢
 repeat' split at h
 all_goals first
  | (simp at h;done)
  | (rename_i e;have e2:=eq_of_beq e;subst e2;decide)
theorem scope_word {o:List UInt8} (h:(scope o).2=true):(o=[98,108,111,99,107]∧(scope o).1=0)∨(o=[100,101,118,105,99,101]∧(scope o).1=1):=by
 unfold scope at h ⊢
 repeat' split at h
 all_goals first
  | (simp at h;done)
  | (rename_i e;have e2:=eq_of_beq e;subst e2;decide)
theorem ordering_word {st st':Stm} {r:List (List UInt8)} (h:zJa st r=(st',true)):(∃ o,r=[o]∧o=ordW 0∧st'={ st with order:=0 })∨∃ o s,r=[o,s]∧(order o).2=true∧(scope s).2=true∧(order o).1≠0∧st'={ st with order:=(order o).1,scope:=(scope s).1 }∧zKq st.kind (order o).1=true:=by
 cases r with
 | nil=>simp[zJa] at h
 | cons o r =>
  simp only[zJa] at h
  split at h
  ·rename_i hc
   simp only[Bool.and_eq_true] at hc
   split at h
   ·rename_i h0
    simp only[Prod.mk.injEq] at h
    have hr:r=[]:=by simpa using h.2
    subst hr
    have h1:=(order_word hc.1).1
    rw[show (order o).1=0 by simpa using h0] at h1
    exact Or.inl ⟨o,rfl,h1,h.1.symm⟩
   ·rename_i h0
    match r,h with
    | [],h=>simp at h
    | [s],h =>
     simp only[Prod.mk.injEq] at h
     exact Or.inr ⟨o,s,rfl,hc.1,h.2,by simpa using h0,h.1.symm,hc.2⟩
    | _::_::_,h=>simp at h
  ·simp at h
def wordOf (o:Int) (ws:List (List UInt8)):Bool:=(ws.tail.dropLast).contains (ordW o)
structure Says (ws:List (List UInt8)) (st:Stm):Prop where
 w2:wordOf 2 ws=(st.order==2)
 w3:wordOf 3 ws=(st.order==3)
 w4:wordOf 4 ws=(st.order==4)
 fen:st.kind=4→ws.head?=some [102,101,110,99,101]
 nof:st.kind≠4→∃ c r q,ws=(c::r)::q∧c≠102
 none:isAcc st.kind=false→st.kind≠4→st.order=0
 weak:isAcc st.kind=true→st.order=0→∃ a l,ws=a::(l++[ordW 0])
 blk:isAcc st.kind=true→st.order≠0→st.scope=0→∃ a l,ws=a::(l++[[98,108,111,99,107]])
 frel:st.kind=4→st.order=4∨st.order=5
end P
namespace P
theorem var_len {p:List UInt8} (h:(varOf p).2=true):p.length≤2:=by
 rcases varOf_word h with rfl | rfl | rfl<;>simp
end P
end Go.Proofs.YtkmebkbpfmoeaaaGreat
