import Derived.WalkSpells
import Derived.Test.YtkmebkbpfmoeaaaGreatF12
set_option linter.unusedVariables false
set_option linter.unusedSimpArgs false
set_option maxHeartbeats 12800000
namespace Go.Proofs.YtkmebkbpfmoeaaaGreat
open Go Go.RowKit
set_option maxRecDepth 100000
namespace P
theorem same_step {a b:List Int} {k:Nat} (hk:k<a.length) (hb:k<b.length) (h:a.take k=b.take k) (e:a.getD k 0=b.getD k 0):a.take (k+1)=b.take (k+1):=by
 rw[List.take_succ_eq_append_getElem hk,List.take_succ_eq_append_getElem hb,h]
 rw[zAH a k hk,zAH b k hb] at e
 rw[e]
end P
theorem zFw (va vb:Value) (a b:List Int) (w:World) (ha:zBD w va a) (hb:zBD w vb b) (hla:a.length<1000) :
  Calls Tryz.prog 26 #[va,vb] w fun e w'=>e=.returned (.bool (a==b))∧Below w.heap.size w w':=by
 obtain⟨xa,ca,rfl,hxa⟩:=ha.form
 obtain⟨xb,cb,rfl,hxb⟩:=hb.form
 clear ha hb
 by_cases hlen:a.length=b.length
 ·have hlen':(a.length:Int)=(b.length:Int):=by omega
  have hq:((a.length:Int) != (b.length:Int))=false:=by simp[hlen']
  have HL:=zAa hlen
  clear hlen hlen'
  go_enter Tryz.func26,Tryz.ntmps26
  go_wp2
  go_loopw [5] (fun j wr=>∃ k:Nat,k≤a.length∧j=.int .i64 k∧Hid (a.take k=b.take k)∧Below w.heap.size w wr) (fun j _=>a.length-(intOf j).toNat)
  case atStart=>exact⟨0,Nat.zero_le _,rfl,rfl,Below.refl _ _⟩
  case round =>
   obtain⟨k,hk,rfl,HC,hbel⟩:=hrel
   by_cases hlt:k<a.length
   ·have hin:(k:Int)<(a.length:Int):=by omega
    have hbl:k<b.length:=by have:=HL.out;omega
    have hinb:(k:Int)<(b.length:Int):=by omega
    obtain⟨g1,rfl,hg1,hc1⟩:=hxa (by omega)
    obtain⟨g2,rfl,hg2,hc2⟩:=hxb (by omega)
    have d1:wr.cell? ⟨g1,k,none⟩=some (.int .i64 (a.getD k 0)):=by rw[zAH a k hlt];exact (hbel.cell (p:=⟨g1,k,none⟩) hg1).trans (hc1 k hlt)
    have d2:wr.cell? ⟨g2,k,none⟩=some (.int .i64 (b.getD k 0)):=by rw[zAH b k hbl];exact (hbel.cell (p:=⟨g2,k,none⟩) hg2).trans (hc2 k hbl)
    have l1:=Nat.lt_of_lt_of_le hg1 hbel.size
    have l2:=Nat.lt_of_lt_of_le hg2 hbel.size
    have HS:=zAa (P.same_step hlt hbl HC.out)
    have HNE:Hid (a.getD k 0≠b.getD k 0→(a==b)=false):=fun h=>by
     rw[beq_eq_false_iff_ne];intro e;exact h (by rw[e])
    generalize a.getD k 0=x at *
    generalize b.getD k 0=y at *
    cases hz:(x != y)
    ·have HN:Hid (a.take (k+1)=b.take (k+1)):=HS.out (by simpa using hz)
     clear hc1 hc2
     go_wp2
     go_quiet (fail)
     all_goals
      go_wp2
      go_roundw
      case rel=>exact⟨k+1,by omega,by go_num,HN,hbel.trans (zAC _ _ _)⟩
      case measure=>simp[intOf];omega
    ·have HN:Hid ((a==b)=false):=HNE.out (by simpa using hz)
     clear hc1 hc2
     go_wp2
     go_quiet (fail)
     all_goals
      go_wp2
      go_ret
      rw[HN.out]
      exact⟨rfl,hbel.trans (zAC _ _ _)⟩
   ·have hkn:k=a.length:=by omega
    subst hkn
    have HE:Hid ((a==b)=true):=by
     have h1:=HC.out
     rw[List.take_of_length_le (Nat.le_refl _),HL.out,List.take_of_length_le (Nat.le_refl _)] at h1
     unfold Hid;rw[h1];simp
    go_wp2
    go_ret
    rw[HE.out];exact⟨rfl,hbel⟩
 ·have hq:((a.length:Int) != (b.length:Int))=true:=by simp;omega
  have HE:Hid ((a==b)=false):=by
   unfold Hid;rw[beq_eq_false_iff_ne];intro e;exact hlen (by rw[e])
  clear hlen
  go_enter Tryz.func26,Tryz.ntmps26
  go_wp2
  go_ret
  rw[HE.out];exact⟨rfl,Below.refl _ _⟩
theorem zFx (B:Nat) (v vr:Value) (rs:List (List Int)) (vs:List Value) (r:List Int) (w:World) (h:RowsI w B v rs vs) (hr:zBD w vr r) (hs:∀ x∈rs,x.length<1000) (hn:rs.length<100000000) :
  Calls Tryz.prog 16 #[v,vr] w fun e w'=>e=.returned (.bool (rs.contains r))∧Below w.heap.size w w':=by
 obtain⟨xa,ca,rfl,hxa⟩:=h.form
 have HR:=zAa h
 have HV:=zAa hr
 have HS:=zAa hs
 clear h hr hs
 go_enter Tryz.func16,Tryz.ntmps16
 go_wp2
 go_loopw [5] (fun j wr=>∃ k:Nat,k≤rs.length∧j=.int .i64 k∧Hid ((rs.take k).contains r=false)∧Hid (Below w.heap.size w wr)) (fun j _=>rs.length-(intOf j).toNat)
 case atStart=>exact⟨0,Nat.zero_le _,rfl,by simp[Hid],Below.refl _ _⟩
 case round =>
  obtain⟨k,hk,rfl,HC,HB⟩:=hrel
  by_cases hlt:k<rs.length
  ·have hin:(k:Int)<(rs.length:Int):=by omega
   obtain⟨b,rfl,hB,hb,hcs⟩:=hxa (by omega)
   have hiv:k<vs.length:=by rw[HR.out.len];exact hlt
   have cu:=(HB.out.cell (p:=⟨b,k,none⟩) hb).trans (hcs k hiv)
   have lb:=Nat.lt_of_lt_of_le hb HB.out.size
   have HU:=zAa ((HR.out.rows k hlt vs[k] (List.getElem?_eq_getElem hiv)).below HB.out)
   have HV2:=zAa (HV.out.below HB.out)
   have HS1:=zAa (HS.out rs[k] (List.getElem_mem hlt))
   have HT:Hid (∀ q,(rs[k]==r)=q→(rs.take (k+1)).contains r=q):=fun q hq=>by
    rw[List.take_succ_eq_append_getElem hlt]
    have h1:=HC.out
    rw[Bool.eq_iff_iff,List.contains_iff_mem,List.mem_append,List.mem_singleton,← hq,beq_iff_eq]
    constructor
    ·rintro (h2 | h2)
     ·rw[← List.contains_iff_mem,h1] at h2;cases h2
     ·exact h2.symm
    ·exact fun h2=>Or.inr h2.symm
   have HT2:Hid ((rs.take (k+1)).contains r=true→rs.contains r=true):=fun h2=>by
    rw[List.contains_iff_mem] at h2 ⊢
    exact List.mem_of_mem_take h2
   generalize vs[k]=u at *
   generalize rs[k]=x at *
   clear hcs hxa
   cases hq:(x==r)
   ·have HN:=zAa (HT.out false hq)
    go_wp2_with (first
     | (go_at_call 26;refine (zFw _ _ x r _ HU.out HV2.out HS1.out).mono ?_;rw[hq];rintro e w1 ⟨rfl,hb1⟩;have B1:=zAa (zAn HB.out (Nat.le_refl _) hb1);clear hb1))
    go_roundw
    case rel=>exact⟨k+1,by omega,by go_num,HN,B1⟩
    case measure=>simp[intOf];omega
   ·have HN:=zAa (HT2.out (HT.out true hq))
    go_wp2_with (first
     | (go_at_call 26;refine (zFw _ _ x r _ HU.out HV2.out HS1.out).mono ?_;rw[hq];rintro e w1 ⟨rfl,hb1⟩;have B1:=zAa (zAn HB.out (Nat.le_refl _) hb1);clear hb1))
    go_ret
    rw[HN.out];exact⟨rfl,B1.out⟩
  ·have hnlt:decide ((k:Int)<(rs.length:Int))=false:=decide_eq_false (by omega)
   have HE:Hid (rs.contains r=false):=by
    have h1:=HC.out
    rw[List.take_of_length_le (by omega)] at h1
    exact h1
   go_wp2
   go_ret
   rw[HE.out];exact⟨rfl,HB.out⟩
theorem zCs (B B2:Nat) (v v2:Value) (rs ss:List (List Int)) (vs us:List Value) (w:World) (h:RowsI w B v rs vs) (h2:RowsI w B2 v2 ss us) (hs:∀ x∈ss,x.length<1000) (hn:rs.length<100000000) (hn2:ss.length<100000000) :
  Calls Tryz.prog 21 #[v,v2] w fun e w'=>e=.returned (.bool (rs.all fun x=>ss.contains x))∧Below w.heap.size w w':=by
 obtain⟨xa,ca,rfl,hxa⟩:=h.form
 have HR:=zAa h
 have HV:=zAa h2
 have HS:=zAa hs
 clear h h2 hs
 go_enter Tryz.func21,Tryz.ntmps21
 go_wp2
 go_loopw [5] (fun j wr=>∃ k:Nat,k≤rs.length∧j=.int .i64 k∧Hid (((rs.take k).all fun x=>ss.contains x)=true)∧Hid (Below w.heap.size w wr)) (fun j _=>rs.length-(intOf j).toNat)
 case atStart=>exact⟨0,Nat.zero_le _,rfl,by simp[Hid],Below.refl _ _⟩
 case round =>
  obtain⟨k,hk,rfl,HC,HB⟩:=hrel
  by_cases hlt:k<rs.length
  ·have hin:(k:Int)<(rs.length:Int):=by omega
   obtain⟨b,rfl,hB,hb,hcs⟩:=hxa (by omega)
   have hiv:k<vs.length:=by rw[HR.out.len];exact hlt
   have cu:=(HB.out.cell (p:=⟨b,k,none⟩) hb).trans (hcs k hiv)
   have lb:=Nat.lt_of_lt_of_le hb HB.out.size
   have HU:=zAa ((HR.out.rows k hlt vs[k] (List.getElem?_eq_getElem hiv)).below HB.out)
   have HV2:=zAa (HV.out.below HB.out)
   have HT:Hid (ss.contains rs[k]=true→((rs.take (k+1)).all fun x=>ss.contains x)=true):=fun hq=>by
    rw[List.take_succ_eq_append_getElem hlt,List.all_append,HC.out]
    simp only[List.all_cons,List.all_nil,hq];rfl
   have HT2:Hid (ss.contains rs[k]=false→(rs.all fun x=>ss.contains x)=false):=fun hq=>by
    rw[List.all_eq_false]
    exact⟨rs[k],List.getElem_mem hlt,by rw[hq];simp⟩
   generalize vs[k]=u at *
   generalize rs[k]=x at *
   clear hcs hxa
   cases hq:(ss.contains x)
   ·have HN:=zAa (HT2.out hq)
    go_wp2_with (first
     | (go_at_call 16;refine (zFx B2 _ _ ss us x _ HV2.out HU.out HS.out hn2).mono ?_;rw[hq];rintro e w1 ⟨rfl,hb1⟩;have B1:=zAa (zAn HB.out (Nat.le_refl _) hb1);clear hb1))
    go_ret
    rw[HN.out];exact⟨rfl,B1.out⟩
   ·have HN:=zAa (HT.out hq)
    go_wp2_with (first
     | (go_at_call 16;refine (zFx B2 _ _ ss us x _ HV2.out HU.out HS.out hn2).mono ?_;rw[hq];rintro e w1 ⟨rfl,hb1⟩;have B1:=zAa (zAn HB.out (Nat.le_refl _) hb1);clear hb1))
    go_roundw
    case rel=>exact⟨k+1,by omega,by go_num,HN,B1⟩
    case measure=>simp[intOf];omega
  ·have hnlt:decide ((k:Int)<(rs.length:Int))=false:=decide_eq_false (by omega)
   have HE:Hid ((rs.all fun x=>ss.contains x)=true):=by
    have h1:=HC.out
    rw[List.take_of_length_le (by omega)] at h1
    exact h1
   go_wp2
   go_ret
   rw[HE.out];exact⟨rfl,HB.out⟩
theorem zFV (s:ByteArray) (w:World) (hs:s.size≤10000000) :
  Calls Tryz.prog 17 #[.string s] w fun e w'=>∃ v,∃ ws:List ByteArray,e=.returned v∧ws.map ByteArray.toList=(P.zIk 10 s.toList).dropLast∧(∀ x∈ws,x.size≤s.size)∧w'.ownsRow w.heap.size 9 1 v ws.length (ws.map Value.string)∧Below w.heap.size w w':=by
 obtain⟨i0,hi,hz0,hz1,hz2⟩:=info_parts Tryz.infoStr
 go_enter Tryz.func17,Tryz.ntmps17
 go_wp2
 go_loopw [3,4,5] (fun v f i wr=>∃ k m:Nat,∃ bs:List ByteArray,∃ v',v=v'∧k≤s.size∧m≤k∧i=.int .i64 k∧f=.int .i64 m∧bs.length≤k∧Hid (P.zIk 10 (s.toList.take k)=bs.map ByteArray.toList++[(s.toList.take k).drop m]) ∧
   Hid (∀ x∈bs,x.size≤s.size)∧Hid (wr.ownsRow w.heap.size 9 1 v' bs.length (bs.map Value.string))∧Hid (Below w.heap.size w wr)) (fun _ _ i _=>s.size-(intOf i).toNat)
 case atStart=>exact⟨0,0,[],_,rfl,Nat.zero_le _,Nat.le_refl _,rfl,rfl,Nat.le_refl _,by unfold Hid;simp[P.zIk],fun x hx=>by simp at hx,World.ownsRow_nil _ _ _ _,Below.refl _ _⟩
 case round =>
  obtain⟨k,m,bs,v',hv,hk,hm,rfl,rfl,hbl,HS,HXS,HO,HB⟩:=hrel
  have hv:=hv.symm
  subst hv
  have hmk:(m:Int)≤(k:Int):=by omega
  by_cases hlt:k<s.size
  ·have hlt':(k:Int)<(s.size:Int):=by omega
   have hk0:(0:Int)≤(k:Int):=by omega
   have hle':(k:Int)≤(s.size:Int):=by omega
   have hm0:(0:Int)≤(m:Int):=by omega
   by_cases hc:s[k]=10
   ·have hq:((s[k].toNat:Int)==10)=true:=by rw[hc];rfl
    have HC:=zAa hc
    clear hc
    have hsl:=HB.out.size
    have hex:∀ wx,(Instr.slice 9 (.string s) (some (.int .i64 (m:Int))) (some (.int .i64 (k:Int))) none).run Tryz.prog wx=.ok (.string (s.extract m k)) wx:=fun wx=>by
     rw[run_slice_string wx 9 s .i64 .i64 _ _ Tryz.underlying9 (by omega) (by omega) (by omega),show ((k:Int)).toNat=k by omega,show ((m:Int)).toNat=m by omega]
    have HO2:Hid ((wr.alloc (.cells #[.string (s.extract m k)] 9)).ownsRow w.heap.size 9 1 v' bs.length (bs.map Value.string)):=HO.out.alloc _
    have HN2:Hid (∀ j u,[Value.string (s.extract m k)][j]?=some u→(wr.alloc (.cells #[.string (s.extract m k)] 9)).cell? ((⟨wr.heap.size,0,none⟩:Addr).add j)=some u):=World.news_of_block (cs:=#[.string (s.extract m k)]) (t:=9) (fr:=(0,0)) (heap_alloc_new wr _)
    go_wp2_with (first
     | (at_builtin;refine wpList_append_lies _ rfl (.tmp 16) (.tmp 21) 35 rfl w.heap.size 9 i0 (.string ByteArray.empty) 1 16 Tryz.underlying35 hi hz0 hz1 hz2 rfl (by decide) _ bs.length (bs.map Value.string) rfl (by exact HO2.out) ⟨wr.heap.size,0,none⟩ 1 1 [.string (s.extract m k)] rfl rfl (by exact HN2.out) (by simp[Value.oneCell']) (by decide) (by unfold maxLen;omega) (by omega) (by simp;omega) _ rfl ?_;intro g cap w1 hown' hgrow hat hglt))
    have HR:=zAa (zDK 10 s k m bs hlt HS.out HC.out)
    have hb1:Hid (Below w.heap.size w w1):=(HB.out.alloc HB.out.size _).grown hgrow (by have:=HB.out.size;simp;omega) (fun j hj=>(HO.out.lt j hj).1)
    have HO3:Hid (w1.ownsRow w.heap.size 9 1 (.slice (some ⟨g,0,none⟩) (bs.length+1) cap) (bs++[s.extract m k]).length ((bs++[s.extract m k]).map Value.string)):=by unfold Hid;simpa using hown'
    have HXS2:Hid (∀ x∈bs++[s.extract m k],x.size≤s.size):=fun x hx=>by
     rcases List.mem_append.1 hx with hx | hx
     ·exact HXS.out x hx
     ·simp at hx
      subst hx
      rw[ByteArray.size_extract];omega
    clear hown' hgrow hat HS
    (try go_wp2)
    go_roundw
    case rel=>exact⟨k+1,k+1,bs++[s.extract m k],_,rfl,by omega,Nat.le_refl _,by go_num,by go_num,by simp;omega,HR,HXS2,HO3,hb1⟩
    case measure=>simp[intOf];omega
   ·have hq:((s[k].toNat:Int)==10)=false:=by
     rw[beq_eq_false_iff_ne]
     intro e
     apply hc
     apply UInt8.toNat_inj.1
     have:s[k].toNat=10:=by omega
     rw[this];rfl
    have HR:=zAa (zDL 10 s k m bs hlt hm HS.out hc)
    clear HS hc
    go_wp2
    go_roundw
    case rel=>exact⟨k+1,m,bs,_,rfl,by omega,by omega,by go_num,rfl,by omega,HR,HXS,HO,HB⟩
    case measure=>simp[intOf];omega
  ·have hnlt:decide ((k:Int)<(s.size:Int))=false:=decide_eq_false (by omega)
   have HS2:Hid (bs.map ByteArray.toList=(P.zIk 10 s.toList).dropLast):=by
    have hks:k=s.size:=by omega
    subst hks
    unfold Hid
    have:=HS.out
    rw[List.take_of_length_le (by rw[zAD];exact Nat.le_refl _)] at this
    rw[this];simp
   clear HS
   go_wp2
   go_ret
   exact⟨_,rfl,bs,HS2.out,HXS.out,HO.out,HB.out⟩
namespace P
end P
namespace P
end P
end Go.Proofs.YtkmebkbpfmoeaaaGreat
namespace Go.Proofs.YtkmebkbpfmoeaaaGreat
namespace P
theorem splitAt_app (c:UInt8) (r:List UInt8):∀ p:List UInt8,zIk c (p++c::r)=zIk c p++zIk c r
 | []=>by rw[List.nil_append,splitAt_cons_eq];rfl
 | x::p=>by
  have ih:=splitAt_app c r p
  by_cases hx:x=c
  ·subst hx
   rw[List.cons_append,splitAt_cons_eq,splitAt_cons_eq,ih];rfl
  ·cases hs:zIk c p with
   | nil=>exact absurd hs (zJi _ _)
   | cons a b =>
    rw[List.cons_append,splitAt_cons_ne c x p hx a b hs,splitAt_cons_ne c x (p++c::r) hx a (b++zIk c r) (by rw[ih,hs];rfl)];rfl
theorem splitAt_none (c:UInt8):∀ l:List UInt8,c ∉ l→zIk c l=[l]
 | [],_=>rfl
 | x::l,h=>by
  have h1:x≠c:=fun e=>h (by rw[e];simp)
  have h2:=splitAt_none c l (fun e=>h (List.mem_cons_of_mem _ e))
  exact splitAt_cons_ne c x l h1 l [] h2
def joinC (c:UInt8):List (List UInt8)→List UInt8
 | []=>[]
 | [a]=>a
 | a::b::r=>a++c::joinC c (b::r)
theorem joinC_cons (c:UInt8) (a:List UInt8) (l:List (List UInt8)) (h:l≠[]):joinC c (a::l)=a++c::joinC c l:=by
 cases l with
 | nil=>exact absurd rfl h
 | cons b r=>rfl
theorem join_split (c:UInt8):∀ l:List UInt8,joinC c (zIk c l)=l
 | []=>rfl
 | x::l=>by
  have ih:=join_split c l
  by_cases hx:x=c
  ·subst hx
   rw[splitAt_cons_eq,joinC_cons _ _ _ (zJi _ _),ih];rfl
  ·cases hs:zIk c l with
   | nil=>exact absurd hs (zJi _ _)
   | cons a b =>
    rw[splitAt_cons_ne c x l hx a b hs]
    rw[hs] at ih
    cases b with
    | nil=>simp only[joinC] at ih ⊢;rw[ih]
    | cons b1 b2=>simp only[joinC] at ih ⊢;rw[← ih];rfl
end P
namespace P
theorem varOf_word {p:List UInt8} (h:(varOf p).2=true):p=[120]∨p=[121]∨p=[122]:=by
 unfold varOf at h
 split at h
 ·rename_i e;exact Or.inl (by simpa using e)
 ·split at h
  ·rename_i e;exact Or.inr (Or.inl (by simpa using e))
  ·split at h
   ·rename_i e;exact Or.inr (Or.inr (by simpa using e))
   ·simp at h
theorem register_word {p:List UInt8} (h:(zIg p).2=true):∃ d,p=[114,d]:=by
 match p,h with
 | [],h=>simp[zIg] at h
 | [_],h=>simp[zIg] at h
 | [c,d],h =>
  simp only[zIg] at h
  split at h
  ·rename_i e;exact⟨d,by rw[e]⟩
  ·simp at h
 | _::_::_::_,h=>simp[zIg] at h
theorem operand_word {p:List UInt8} (h:(zIs p).2=true):p.length≤2:=by
 match p,h with
 | [],_=>simp
 | [_],_=>simp
 | [_,_],_=>simp
 | a::b::c::r,h =>
  simp only[zIs] at h
  obtain⟨d,hd⟩:=register_word h
  simp at hd
theorem sign_word {p:List UInt8} (h:(sign p).2=true):p.length≤2:=by
 unfold sign at h
 split at h
 ·rename_i e;rw[show p=[43] by simpa using e];simp
 ·split at h
  ·rename_i e;rw[show p=[45] by simpa using e];simp
  ·split at h
   ·rename_i e;rw[show p=[61,61] by simpa using e];simp
   ·simp at h
def ordW (o:Int):List UInt8:=if o==0 then [119,101,97,107] else if o==1 then [114,101,108,97,120,101,100] else if o==2 then [97,99,113,117,105,114,101] else if o==3 then [114,101,108,101,97,115,101] else if o==4 then [97,99,113,114,101,108] else [115,99]
theorem order_word {o:List UInt8} (h:(order o).2=true):o=ordW (order o).1∧((order o).1=0∨(order o).1=1∨(order o).1=2∨(order o).1=3∨(order o).1=4∨(order o).1=5):=by
 unfold order at h ⊢
 repeat' split at h
 all_goals first
  | (simp at h;done)
  | (rename_i e;have e2:=eq_of_beq e;subst e2;decide)
theorem ordering_word {st st':Stm} {r:List (List UInt8)} (h:zIW st r=(st',true)):(∃ o,r=[o]∧o=ordW 0∧st'={ st with order:=0 })∨∃ o s,r=[o,s]∧(order o).2=true∧(scope s).2=true∧(order o).1≠0∧st'={ st with order:=(order o).1,scope:=(scope s).1 }∧zKd st.kind (order o).1=true:=by
 cases r with
 | nil=>simp[zIW] at h
 | cons o r =>
  simp only[zIW] at h
  split at h
  ·rename_i hc
   simp only[Bool.and_eq_true] at hc
   split at h
   ·rename_i h0
    simp only[Prod.mk.injEq] at h
    have hr:r=[]:=by simpa using h.2
    subst hr
    have h1:=(order_word hc.1).1
    rw[show (order o).1=0 by simpa using h0] at h1
    exact Or.inl ⟨o,rfl,h1,h.1.symm⟩
   ·rename_i h0
    match r,h with
    | [],h=>simp at h
    | [s],h =>
     simp only[Prod.mk.injEq] at h
     exact Or.inr ⟨o,s,rfl,hc.1,h.2,by simpa using h0,h.1.symm,hc.2⟩
    | _::_::_,h=>simp at h
  ·simp at h
def wordOf (o:Int) (ws:List (List UInt8)):Bool:=(ws.tail.dropLast).contains (ordW o)
structure Says (ws:List (List UInt8)) (st:Stm):Prop where
 w2:wordOf 2 ws=(st.order==2)
 w3:wordOf 3 ws=(st.order==3)
 w4:wordOf 4 ws=(st.order==4)
 fen:st.kind=4→ws.head?=some [102,101,110,99,101]
 nof:st.kind≠4→∃ c r q,ws=(c::r)::q∧c≠102
 none:isAcc st.kind=false→st.kind≠4→st.order=0
 weak:isAcc st.kind=true→st.order=0→∃ a l,ws=a::(l++[ordW 0])
 blk:isAcc st.kind=true→st.order≠0→st.scope=0→∃ a l,ws=a::(l++[[98,108,111,99,107]])
 frel:st.kind=4→st.order=4∨st.order=5
end P
namespace P
end P
namespace P
def textOf:List (List UInt8)→List UInt8
 | []=>[]
 | x::r=>x++10::textOf r
theorem split_text:∀ {xs:List (List UInt8)},(∀ x∈xs,(10:UInt8) ∉ x)→zIk 10 (textOf xs)=xs++[[]]
 | [],_=>rfl
 | x::xs,h=>by
  rw[textOf,splitAt_app,splitAt_none 10 x (h x (by simp)),split_text (fun y hy=>h y (List.mem_cons_of_mem _ hy))];rfl
theorem join_text:∀ (xs:List (List UInt8)),joinC 10 (xs++[[]])=textOf xs
 | []=>rfl
 | x::xs=>by rw[List.cons_append,joinC_cons 10 x _ (by simp),join_text xs];rfl
theorem text_split {s:List UInt8} (h:(zIk 10 s).getLast?=some []):s=textOf (zIk 10 s).dropLast:=by
 have h1:=join_split 10 s
 have h2:=(List.dropLast_concat_getLast (zJi 10 s)).symm
 rw[List.getLast?_eq_some_getLast (zJi 10 s)] at h
 rw[Option.some.inj h] at h2
 conv=>lhs;rw[← h1,h2]
 exact join_text _
theorem split_free (c:UInt8):∀ (l w:List UInt8),w∈zIk c l→c ∉ w
 | [],w,h=>by simp[zIk] at h;rw[h];simp
 | x::l,w,h=>by
  by_cases hx:x=c
  ·subst hx
   rw[splitAt_cons_eq] at h
   rcases List.mem_cons.1 h with rfl | h
   ·simp
   ·exact split_free x l w h
  ·cases hs:zIk c l with
   | nil=>exact absurd hs (zJi _ _)
   | cons a b =>
    rw[splitAt_cons_ne c x l hx a b hs] at h
    rcases List.mem_cons.1 h with rfl | h
    ·have:=split_free c l a (by rw[hs];simp)
     intro hm
     rcases List.mem_cons.1 hm with e | hm
     ·exact hx e.symm
     ·exact this hm
    ·exact split_free c l w (by rw[hs];exact List.mem_cons_of_mem _ h)
def All2 {α β:Type} (R:α→β→Prop):List α→List β→Prop
 | [],[]=>True
 | a::x,b::y=>R a b∧All2 R x y
 | _,_=>False
theorem all2_len {α β:Type} {R:α→β→Prop}:∀ {x:List α} {y:List β},All2 R x y→y.length=x.length
 | [],[],_=>rfl
 | a::x,b::y,h=>by rw[List.length_cons,List.length_cons,all2_len h.2]
 | [],b::y,h=>by simp[All2] at h
 | a::x,[],h=>by simp[All2] at h
theorem all2_app {α β:Type} {R:α→β→Prop}:∀ {x:List α} {y:List β} {u:List α} {v:List β},All2 R x y→All2 R u v→All2 R (x++u) (y++v)
 | [],[],_,_,_,h=>h
 | a::x,b::y,_,_,h,k=>⟨h.1,all2_app h.2 k⟩
 | [],b::y,_,_,h,_=>by simp[All2] at h
 | a::x,[],_,_,h,_=>by simp[All2] at h
structure StR (R:Stm→Stm→Prop):Prop where
 kind:∀ s t,R s t→t.kind=s.kind
 line:∀ s t,R s t→t.line=s.line
 fen:∀ s t,R s t→s.kind=4→t.order=s.order
 sl:∀ s t l,R s t→R { s with line:=l } { t with line:=l }
 sb:∀ s t l,R s t→R { s with label:=l } { t with label:=l }
structure ThR (R:Stm→Stm→Prop) (t t':Thr):Prop where
 block:t'.block=t.block
 line:t'.line=t.line
 sts:All2 R t.stmts t'.stmts
structure RdR (R:Stm→Stm→Prop) (r r':Rd):Prop where
 th:All2 (ThR R) r.threads r'.threads
 line:r'.line=r.line
 count:r'.count=r.count
 ifs:r'.ifs=r.ifs
 opn:r'.opn=r.opn
 most:r'.most=r.most
theorem putLast_R {R:Stm→Stm→Prop} {s s':Stm} (hs:R s s'):∀ {x y:List Thr},All2 (ThR R) x y→All2 (ThR R) (putLast x s) (putLast y s')
 | [],[],_=>trivial
 | [a],[b],h=>⟨⟨h.1.block,h.1.line,all2_app h.1.sts ⟨hs,trivial⟩⟩,trivial⟩
 | a::a2::x,b::b2::y,h=>⟨h.1,putLast_R hs (x:=a2::x) (y:=b2::y) h.2⟩
 | [],b::y,h=>by simp[All2] at h
 | a::x,[],h=>by simp[All2] at h
 | [a],b::b2::y,h=>by have:=h.2;simp[All2] at this
 | a::a2::x,[b],h=>by have:=h.2;simp[All2] at this
section
variable {R:Stm→Stm→Prop}
theorem RdR.put {r r':Rd} (h:RdR R r r') {s s':Stm} (hs:R s s'):RdR R (put r s) (put r' s') :=
 ⟨putLast_R hs h.th,h.line,h.count,h.ifs,h.opn,h.most⟩
theorem RdR.ends (hR:StR R) {r r' r1:Rd} (h:RdR R r r') {s s':Stm} (hs:R s s') (e:ends r s=(r1,true)):∃ r1',ends r' s'=(r1',true)∧RdR R r1 r1':=by
 unfold P.ends at e ⊢
 rw[h.opn]
 split at e
 ·simp at e
 ·rename_i l hl
  simp only[Prod.mk.injEq,and_true] at e
  refine⟨_,rfl,?_⟩
  rw[← e]
  refine RdR.put ?_ (hR.sb _ _ l hs)
  exact⟨h.th,h.line,h.count,h.ifs,rfl,h.most⟩
theorem RdR.branch (hR:StR R) {r r' r1:Rd} (h:RdR R r r') {s s':Stm} (hs:R s s') (e:branch r s=(r1,true)):∃ r1',branch r' s'=(r1',true)∧RdR R r1 r1':=by
 unfold P.branch at e ⊢
 rw[h.opn,h.ifs]
 split at e
 ·simp at e
 ·rename_i hn
  rw[if_neg hn]
  simp only[Prod.mk.injEq,and_true] at e
  refine⟨_,rfl,?_⟩
  rw[← e]
  refine RdR.put ?_ (hR.sb _ _ _ hs)
  exact⟨h.th,h.line,h.count,rfl,rfl,h.most⟩
theorem RdR.putD (hR:StR R) {r r' r1:Rd} (h:RdR R r r') {s s':Stm} (hs:R s s') (e:putD r s=(r1,true)):∃ r1',putD r' s'=(r1',true)∧RdR R r1 r1':=by
 unfold P.putD at e ⊢
 have hemp:r'.threads.isEmpty=r.threads.isEmpty:=by
  have:=all2_len h.th
  cases h1:r.threads<;>cases h2:r'.threads<;>simp_all
 rw[hemp,hR.kind _ _ hs,h.most,h.count,h.opn]
 split at e
 ·simp at e
 ·rename_i h0
  rw[if_neg h0]
  split at e
  ·rename_i h1
   rw[if_pos h1]
   exact h.ends hR hs e
  ·rename_i h1
   rw[if_neg h1]
   split at e
   ·simp at e
   ·rename_i h2
    rw[if_neg h2]
    split at e
    ·rename_i h3
     rw[if_pos h3]
     split at e
     ·simp at e
     ·rename_i h4
      rw[if_neg h4]
      exact RdR.branch hR (r:={ r with count:=r.count+1 }) (r':={ r' with count:=r.count+1,opn:=r.opn,most:=r.most }) ⟨h.th,h.line,rfl,h.ifs,rfl,rfl⟩ hs e
    ·rename_i h3
     rw[if_neg h3]
     simp only[Prod.mk.injEq,and_true] at e
     refine⟨_,rfl,?_⟩
     rw[← e]
     exact RdR.put (r:={ r with count:=r.count+1 }) (r':={ r' with count:=r.count+1,opn:=r.opn,most:=r.most }) ⟨h.th,h.line,rfl,h.ifs,rfl,rfl⟩ hs
theorem RdR.beginD {r r' r1:Rd} (h:RdR R r r') {b l:Int} (e:beginD r b l=(r1,true)):∃ r1',beginD r' b l=(r1',true)∧RdR R r1 r1':=by
 unfold P.beginD at e ⊢
 rw[all2_len h.th,h.opn]
 split at e
 ·simp at e
 ·rename_i h0
  rw[if_neg h0]
  simp only[Prod.mk.injEq,and_true] at e
  refine⟨_,rfl,?_⟩
  rw[← e]
  exact⟨all2_app h.th ⟨⟨rfl,rfl,trivial⟩,trivial⟩,h.line,rfl,h.ifs,rfl,h.most⟩
abbrev thrW:List UInt8:=[116,104,114,101,97,100]
theorem takes_true {r r1:Rd} {ws:List (List UInt8)} (hm:r.most=8) (h:takes r ws=(r1,true)):(∃ c:UInt8,ws=[thrW,[c]]∧(digit c 2).2=true∧beginD r (digit c 2).1 r.line=(r1,true))∨∃ st,zIn ws=(st,true)∧putD r { st with line:=r.line }=(r1,true)∧∃ c q,ws=c::q∧(c==thrW)=false:=by
 cases ws with
 | nil =>
  unfold takes at h
  simp[zIn] at h
 | cons c q =>
  cases hc:(c==thrW)
  ·rw[takes_D r c q hc hm] at h
   split at h
   ·rename_i hs
    exact Or.inr ⟨(zIn (c::q)).1,by rw[← hs],h,c,q,rfl,hc⟩
   ·simp at h
  ·have hc2:=eq_of_beq hc
   subst hc2
   have e:takes r (thrW::q)=zIR r (thrW::q):=by unfold takes;simp
   rw[e] at h
   match q,h with
   | [],h=>unfold zIR at h;split at h<;>simp at h
   | [[]],h=>unfold zIR at h;split at h<;>simp at h
   | [[d]],h =>
    rw[begins_D] at h
    split at h
    ·rename_i hd
     exact Or.inl ⟨d,rfl,hd,h⟩
    ·simp at h
   | [d::d2::d3],h=>unfold zIR at h;split at h<;>simp at h
   | _::_::_,h=>unfold zIR at h;split at h<;>simp at h
end
theorem kernel_rows {s:List UInt8} (h:(kernel s).2.1=0):∃ r1,s.length≤2000∧zJq Rd.zero (zIk 10 s).dropLast=(r1,true)∧(zIk 10 s).getLast?=some []∧r1.opn=[]∧r1.threads≠[]∧(kernel s)=(r1.threads,0,0)∧zIF r1.threads=0∧zIp r1.threads r1.threads=0∧over r1.threads=false:=by
 unfold kernel at h ⊢
 split at h
 ·simp at h
 ·rename_i h0
  split at h
  ·simp at h
  ·rename_i h1
   split at h
   ·simp at h
   ·rename_i h2
    split at h
    ·simp at h
    ·rename_i h3
     split at h
     ·simp at h
     ·rename_i h4
      rw[if_neg h0,if_neg h1,if_neg h2,if_neg h3,if_neg h4]
      have hl:(lines s).2=0:=by simpa using h1
      obtain⟨g1,g2,g3⟩:=good_run (zIk 10 s).dropLast 0 Rd.zero good_zero
      have z:Rd.zero.line=0:=rfl
      unfold lines at hl h2 h3 h4 ⊢
      simp only[] at hl h2 h3 h4 ⊢
      cases hq:(zJq Rd.zero (zIk 10 s).dropLast).2
      ·have:=g3 hq
       simp[hq] at hl
       omega
      ·simp only[hq,if_true] at hl h2 h3 h4 ⊢
       split at hl
       ·simp at hl;omega
       ·rename_i hno
        rw[if_neg hno] at h2 h3 h4 ⊢
        have hn1:(zIk 10 s).getLast?=some []:=Decidable.byContradiction fun c=>hno (Or.inl c)
        have hn2:(zJq Rd.zero (zIk 10 s).dropLast).1.opn=[]:=Decidable.byContradiction fun c=>hno (Or.inr (Or.inl c))
        exact⟨(zJq Rd.zero (zIk 10 s).dropLast).1,by omega,by rw[← hq],hn1,hn2,fun c=>hno (Or.inr (Or.inr c)),rfl,by simpa using h2,by simpa using h3,by simpa using h4⟩
end P
namespace P
def isSep (c:UInt8):Bool:=c==32||c==10
def sepAt:List UInt8→Bool
 | []=>false
 | c::_=>isSep c
def matchB (a l:List UInt8):Bool:=(l.take a.length==a)&&sepAt (l.drop a.length)
def sw (a b:List UInt8):Nat→Bool→List UInt8→List UInt8
 | _,_,[]=>[]
 | n+1,_,_::r=>sw a b n false r
 | 0,front,x::r=>if front&&matchB a (x::r) then b++sw a b (a.length-1) false r else x::sw a b 0 (isSep x) r
def swapW (a b w:List UInt8):List UInt8:=if w==a then b else w
def free (w:List UInt8):Prop:=∀ c∈w,isSep c=false
end P
end Go.Proofs.YtkmebkbpfmoeaaaGreat
namespace Go.Proofs.YtkmebkbpfmoeaaaGreat
open Go Go.RowKit
set_option maxRecDepth 100000
namespace P
end P
end Go.Proofs.YtkmebkbpfmoeaaaGreat
