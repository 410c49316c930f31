import Derived.Test.YtgceflcbckjjiaaGreatDoorC42
set_option linter.unusedVariables false
set_option linter.unusedSimpArgs false
set_option maxHeartbeats 12800000
namespace Go.Proofs.YtgceflcbckjjiaaGreatDoor
open Go Go.RowKit
set_option maxRecDepth 100000
theorem zHi (st:P.Stm) (c:UInt8) (l:List UInt8):(P.partR st c l).1.label=st.label:=by
 unfold P.partR
 split
 ·rfl
 split
 ·rfl
 split
 ·rfl
 split<;>rfl
theorem zHj (st:P.Stm) (cs:List UInt8) (ws:List (List UInt8)) (k:Nat) (h1:k<cs.length) (h2:k<ws.length) :
  P.zPQ st (cs.drop k) (ws.drop k)=if (P.partR st cs[k] ws[k]).2 then P.zPQ (P.partR st cs[k] ws[k]).1 (cs.drop (k+1)) (ws.drop (k+1)) else (P.Stm.zero,false):=by
 rw[List.drop_eq_getElem_cons h1,List.drop_eq_getElem_cons h2];rfl
theorem zIw (st:P.Stm) (cs:List UInt8) (ws:List (List UInt8)) (k:Nat) (h:ws.length≤k):P.zPQ st (cs.drop k) (ws.drop k)=(st,true):=by
 rw[List.drop_of_length_le (l:=ws) h]
 cases cs.drop k<;>rfl
theorem zAB.below' {w w':World} {b off:Nat} {ws:List ByteArray} (h:zAB w b off ws) (hb:Below w.heap.size w w'):zAB w' b off ws:=h.below hb
theorem zKp (w:World):zAv (w.alloc (.cells #[.int .i64 0,.int .i64 0,.int .i64 0,.int .i64 0,.bool false,.int .i64 0,.bool false,.int .i64 0,.int .i64 0,.int .i64 0,.int .i64 0] 96)) w.heap.size P.Stm.zero:=zAv.new w P.Stm.zero
theorem zHk (st:P.Stm) (l:ByteArray) (v:Value) (ws:List ByteArray) (w:World) (h:zIr w v ws) (hl0:0≤st.label) (hl1:st.label<100) (hz:l.size≤3) (hn:ws.length≤8193) :
  Calls Tryz.prog 167 #[.agg (zAb st),.string l,v] w fun e w'=>e=.returned (zBA (P.zOv st l.toList (ws.map ByteArray.toList)))∧Below w.heap.size w w':=by
 obtain⟨a,cap,rfl,hcap,hw⟩:=h
 have HW:=zAa hw
 clear hw
 cases hlen:((l.size:Int) != (ws.length:Int))
 rotate_left
 ·have HE:Hid (P.zOv st l.toList (ws.map ByteArray.toList)=(P.Stm.zero,false)):=by
   unfold Hid P.zOv
   have:(l.toList.length != (ws.map ByteArray.toList).length)=true:=by
    rw[zAr,List.length_map,bne_iff_ne];rw[bne_iff_ne] at hlen;intro e;exact hlen (by rw[e])
   rw[this];rfl
  simp only[zAb]
  go_enter Tryz.func167,Tryz.ntmps167
  go_wp2
  rw[HE.out]
  refine zAT (p:=6) (u:=7) (w.heap.size+1) P.Stm.zero false (by kernel_rfl) rfl rfl ?_ rfl ⟨rfl,((Below.refl _ _).alloc (Nat.le_refl _) _).alloc (by simp) _⟩
  have h9:zAv ((w.alloc (.cells (zAb st) 96)).alloc (.cells (zAb P.Stm.zero) 96)) (w.heap.size+1) P.Stm.zero:=by
   have:=zAv.new (w.alloc (.cells (zAb st) 96)) P.Stm.zero
   simpa using this
  exact h9
 ·have hlw:l.size=ws.length:=by have h9:=hlen;simp at h9;omega
  have HLW:=zAa hlw
  have HE:Hid (P.zOv st l.toList (ws.map ByteArray.toList)=P.zPQ st l.toList (ws.map ByteArray.toList)):=by
   unfold Hid P.zOv
   have:(l.toList.length != (ws.map ByteArray.toList).length)=false:=by rw[zAr,List.length_map,hlw];simp
   rw[this];rfl
  have hs0:Hid (zAv ((w.alloc (.cells (zAb st) 96)).alloc (.cells (zAb P.Stm.zero) 96)) w.heap.size st):=(zAv.new w st).alloc _
  have hr0:Hid (zAv ((w.alloc (.cells (zAb st) 96)).alloc (.cells (zAb P.Stm.zero) 96)) (w.heap.size+1) P.Stm.zero):=by
   unfold Hid
   have:=zAv.new (w.alloc (.cells (zAb st) 96)) P.Stm.zero
   simpa using this
  have hb0:Hid (Below w.heap.size w ((w.alloc (.cells (zAb st) 96)).alloc (.cells (zAb P.Stm.zero) 96))):=((Below.refl _ _).alloc (Nat.le_refl _) _).alloc (by simp) _
  clear hlw
  simp only[zAb]
  go_enter Tryz.func167,Tryz.ntmps167
  go_wp2
  go_loopw [19] (fun i wr=>∃ (k:Nat) (q:P.Stm),k≤ws.length∧i=.int .i64 k∧Hid (q.label=st.label)∧Hid (P.zPQ st l.toList (ws.map ByteArray.toList)=P.zPQ q (l.toList.drop k) ((ws.map ByteArray.toList).drop k))∧Hid (zAv wr w.heap.size q)∧Hid (zAv wr (w.heap.size+1) P.Stm.zero)∧Below w.heap.size w wr) (fun i _=>ws.length-(intOf i).toNat)
  case atStart=>exact⟨0,st,Nat.zero_le _,rfl,rfl,rfl,hs0,hr0,hb0.out⟩
  case round =>
   obtain⟨k,q,hk,rfl,HL,HP,HS,HR,hbel⟩:=hrel
   have hws:=hbel.size
   obtain⟨f1,f2,r0,r1,r2,r3,r4,r5,r6,r7,r8,r9,r10⟩:=HR.out.facts
   by_cases hlt:k<ws.length
   ·have hin:(k:Int)<(ws.length:Int):=by omega
    obtain⟨b,rfl,hwa,hblt⟩:=HW.out (by intro e;rw[e] at hlt;simp at hlt)
    have hck:=(hwa.below' hbel) k ws[k] (by simp[hlt])
    simp only[Nat.zero_add] at hck
    have hkl:k<l.size:=by rw[HLW.out];exact hlt
    have hki:(k:Int)<(l.size:Int):=by omega
    have HST:=zAa (zHj q l.toList (ws.map ByteArray.toList) k (by rw[zAr];exact hkl) (by simpa using hlt))
    have HLG:=zAa (zFh l k hkl)
    have hmg:(ws.map ByteArray.toList)[k]'(by simpa using hlt)=ws[k].toList:=by simp
    have HMG:=zAa hmg
    generalize hx:ws[k]=x at *
    clear hx hmg hwa
    cases hp:(P.partR q l[k] x.toList).2
    ·have HN:Hid (P.zOv st l.toList (ws.map ByteArray.toList)=(P.Stm.zero,false)):=by
      unfold Hid;rw[HE.out,HP.out,HST.out,HLG.out,HMG.out,hp];rfl
     go_wp2_with (first | (go_at_call 189;refine (zDV w.heap.size q l[k] x _ HS.out (by rw[HL.out];exact hl0) (by rw[HL.out];exact hl1)).mono ?_;rintro e w1 ⟨rfl,hs1,hg1⟩;rw[hp];have HR1:=zAa (HR.out.of_block (hg1.block _ f1 (by simp)));obtain⟨f1,f2,r0,r1,r2,r3,r4,r5,r6,r7,r8,r9,r10⟩:=HR1.out.facts;have hb1:=zAa (zAu hbel hg1 (Nat.le_refl _));clear hg1 hs1) | (refine zAo (.tmp 6) (.tmp 31) rfl rfl (w.heap.size+1) P.Stm.zero P.Stm.zero rfl rfl HR1.out ?_;intro w2 hs2 hg2;have HS2:=zAa hs2;have HB2:=zAa (zAu hb1.out hg2 (by omega))))
     rw[HN.out]
     exact zAT (p:=6) (u:=7) (w.heap.size+1) P.Stm.zero false (by kernel_rfl) rfl rfl HS2.out rfl ⟨rfl,HB2.out⟩
    ·have HN:Hid (P.zPQ st l.toList (ws.map ByteArray.toList)=P.zPQ (P.partR q l[k] x.toList).1 (l.toList.drop (k+1)) ((ws.map ByteArray.toList).drop (k+1))):=by
      unfold Hid;rw[HP.out,HST.out,HLG.out,HMG.out,hp];rfl
     have HL2:Hid ((P.partR q l[k] x.toList).1.label=st.label):=by unfold Hid;rw[zHi,HL.out]
     go_wp2_with (first | (go_at_call 189;refine (zDV w.heap.size q l[k] x _ HS.out (by rw[HL.out];exact hl0) (by rw[HL.out];exact hl1)).mono ?_;rintro e w1 ⟨rfl,hs1,hg1⟩;rw[hp];have HS1:=zAa hs1;have HR1:=zAa (HR.out.of_block (hg1.block _ f1 (by simp)));have hb1:=zAa (zAu hbel hg1 (Nat.le_refl _));clear hg1 hs1))
     go_roundw
     case rel=>exact⟨k+1,_,by omega,by go_num,HL2,HN,HS1,HR1,hb1.out⟩
     case measure=>simp[intOf];omega
   ·have HN:Hid (P.zOv st l.toList (ws.map ByteArray.toList)=(q,true)):=by
     unfold Hid;rw[HE.out,HP.out,zIw _ _ _ _ (by simp;omega)]
    go_wp2_with (first | (refine zAs (.tmp 3) rfl rfl w.heap.size q rfl HS.out ?_) | (refine zAo (.tmp 6) (.tmp 33) rfl rfl (w.heap.size+1) P.Stm.zero q rfl rfl HR.out ?_;intro w2 hs2 hg2;have HS2:=zAa hs2;have HB2:=zAa (zAu hbel hg2 (by omega))))
    rw[HN.out]
    exact zAT (p:=6) (u:=7) (w.heap.size+1) q true (by kernel_rfl) rfl rfl HS2.out rfl ⟨rfl,HB2.out⟩
theorem zHC (L f:List UInt8) (h:L.length≤f.length):L.isPrefixOf f=(f.take L.length==L):=by
 cases h1:(f.take L.length==L)
 ·cases h2:L.isPrefixOf f
  ·rfl
  ·rw[List.isPrefixOf_iff_prefix,List.prefix_iff_eq_take] at h2
   rw[← h2] at h1;simp at h1
 ·rw[List.isPrefixOf_iff_prefix,List.prefix_iff_eq_take]
  simpa using (by simpa using h1:f.take L.length=L).symm
theorem zJv (L f:List UInt8) (h:f.length<L.length):L.isPrefixOf f=false:=by
 cases h2:L.isPrefixOf f
 ·rfl
 ·rw[List.isPrefixOf_iff_prefix] at h2
  have:=h2.length_le;omega
def zCH (k next:Int):P.Stm:=if k==10 then { P.Stm.zero with kind:=k,label:=next } else { P.Stm.zero with kind:=k }
theorem zIx (first:List UInt8) (ops:List (List UInt8)) (next:Int) (f:Nat) (k:Int):P.stmGo first ops next (f+1) k =
  if (P.layT k).1.isPrefixOf first then (if (P.zOt (zCH k next) (first.drop (P.layT k).1.length)).2 then P.zOv (P.zOt (zCH k next) (first.drop (P.layT k).1.length)).1 (P.layT k).2 ops else P.stmGo first ops next f (k+1)) else P.stmGo first ops next f (k+1):=by
 rw[P.stmGo];rfl
theorem zFC (st:P.Stm) (l:List UInt8):(P.zOt st l).1.label=st.label:=by
 unfold P.zOt
 split
 ·split<;>rfl
 ·rfl
theorem zHl (k next:Int) (h0:0≤next) (h1:next<100):0≤(zCH k next).label∧(zCH k next).label<100:=by
 unfold zCH;split
 ·exact⟨h0,h1⟩
 ·exact⟨by simp[P.Stm.zero],by simp[P.Stm.zero]⟩
theorem zFi (w:World) (k next:Int) (h:(k==10)=true):zAv (w.alloc (.cells #[.int .i64 k,.int .i64 0,.int .i64 0,.int .i64 0,.bool false,.int .i64 0,.bool false,.int .i64 0,.int .i64 0,.int .i64 0,.int .i64 next] 96)) w.heap.size (zCH k next):=by
 have e:zCH k next={ P.Stm.zero with kind:=k,label:=next }:=by unfold zCH;rw[h];rfl
 rw[e];exact zAv.new w { P.Stm.zero with kind:=k,label:=next }
theorem zFj (w:World) (k next:Int) (h:(k==10)=false):zAv (w.alloc (.cells #[.int .i64 k,.int .i64 0,.int .i64 0,.int .i64 0,.bool false,.int .i64 0,.bool false,.int .i64 0,.int .i64 0,.int .i64 0,.int .i64 0] 96)) w.heap.size (zCH k next):=by
 have e:zCH k next={ P.Stm.zero with kind:=k }:=by unfold zCH;rw[h];rfl
 rw[e];exact zAv.new w { P.Stm.zero with kind:=k }
theorem zIr.below {w w':World} {v:Value} {ws:List ByteArray} (h:zIr w v ws) (hb:Below w.heap.size w w'):zIr w' v ws:=by
 obtain⟨a,cap,e,hc,hw⟩:=h
 refine⟨a,cap,e,hc,fun hne=>?_⟩
 obtain⟨g,e1,h1,h2⟩:=hw hne
 exact⟨g,e1,h1.below hb,Nat.lt_of_lt_of_le h2 hb.size⟩
theorem zDd (s:ByteArray) (next:Int) (w:World) (hs:s.size≤8192) (h0:0≤next) (h1:next<100) :
  Calls Tryz.prog 141 #[.string s,.int .i64 next] w fun e w'=>e=.returned (zBA (P.stmA s.toList next))∧Below w.heap.size w w':=by
 go_enter Tryz.func141,Tryz.ntmps141
 go_wp2_with (first | (go_at_call 165;refine (zKX s _ hs).mono ?_;rintro e w1 ⟨f,v,ws,rfl,hf,hws,hops,hfz,hwl,hb1⟩;obtain⟨va,vc,rfl,hvc,hvw⟩:=hops))
 have HOPS:Hid (zIr w1 (.slice va ws.length vc) ws):=⟨va,vc,rfl,hvc,hvw⟩
 have HF:=zAa hf
 have HWS:=zAa hws
 have HZ1:Hid (zAv w1 w.heap.size P.Stm.zero):=(zKp w).below hb1
 have HB1:Hid (Below w.heap.size w w1):=((Below.refl _ _).alloc (Nat.le_refl _) _).trans (hb1.mono (by simp))
 have hw1:w.heap.size<w1.heap.size:=HZ1.out.lt
 have HE:Hid (P.stmA s.toList next=P.stmGo f.toList (ws.map ByteArray.toList) next 11 0):=by unfold Hid P.stmA;rw[hf,hws]
 clear hf hws hvw hb1
 go_loopw [8] (fun i wr=>∃ k:Nat,k≤11∧i=.int .i64 k∧Hid (P.stmA s.toList next=P.stmGo f.toList (ws.map ByteArray.toList) next (11-k) (k:Int))∧Hid (zAv wr w.heap.size P.Stm.zero)∧Below w1.heap.size w1 wr) (fun i _=>11-(intOf i).toNat)
 case atStart=>exact⟨0,by omega,rfl,HE,HZ1,Below.refl _ _⟩
 case round =>
  obtain⟨k,hk,rfl,HG,HZ,hbel⟩:=hrel
  have hws:=hbel.size
  obtain⟨f1,f2,r0,r1,r2,r3,r4,r5,r6,r7,r8,r9,r10⟩:=HZ.out.facts
  by_cases hlt:k<11
  ·have hin:(k:Int)≤10:=by omega
   have HST:Hid (P.stmA s.toList next=if (P.layT (k:Int)).1.isPrefixOf f.toList then (if (P.zOt (zCH k next) (f.toList.drop (P.layT (k:Int)).1.length)).2 then P.zOv (P.zOt (zCH k next) (f.toList.drop (P.layT (k:Int)).1.length)).1 (P.layT (k:Int)).2 (ws.map ByteArray.toList) else P.stmGo f.toList (ws.map ByteArray.toList) next (11-(k+1)) ((k+1:Nat):Int)) else P.stmGo f.toList (ws.map ByteArray.toList) next (11-(k+1)) ((k+1:Nat):Int)):=by
    unfold Hid;rw[HG.out,show 11-k=(11-(k+1))+1 by omega,zIx];rfl
   have HLN:Hid (f.toList.length=f.size):=zAr f
   clear HG
   by_cases hA:f.size<(P.layT (k:Int)).1.length
   ·have HN:Hid (P.stmA s.toList next=P.stmGo f.toList (ws.map ByteArray.toList) next (11-(k+1)) ((k+1:Nat):Int)):=by
     unfold Hid;rw[HST.out,zJv _ _ (by rw[HLN.out];exact hA)];rfl
    go_wp2_with (first | (go_at_call 85;refine (zDr _ _).mono ?_;rintro e w' ⟨b,t,rfl,hb,ht,hw'⟩;have hw':=hw'.symm;subst hw';have hbz:b.size=(P.layT (k:Int)).1.length:=(by rw[← zAr,hb.1]);have hc:(f.size:Int)<(b.size:Int):=(by omega)))
    go_roundw
    case rel=>exact⟨k+1,by omega,by go_num,HN,HZ,hbel⟩
    case measure=>simp[intOf];omega
   cases hB:(f.toList.take (P.layT (k:Int)).1.length==(P.layT (k:Int)).1)
   ·have HN:Hid (P.stmA s.toList next=P.stmGo f.toList (ws.map ByteArray.toList) next (11-(k+1)) ((k+1:Nat):Int)):=by
     unfold Hid;rw[HST.out,zHC _ _ (by rw[HLN.out];omega),hB];rfl
    have HB:=zAa hB
    clear hB
    go_wp2_with (first | (go_at_call 85;refine (zDr _ _).mono ?_;rintro e w' ⟨b,t,rfl,hb,ht,hw'⟩;have hw':=hw'.symm;subst hw';have hbz:b.size=(P.layT (k:Int)).1.length:=(by rw[← zAr,hb.1]);have hc:¬ (f.size:Int)<(b.size:Int):=(by omega);have hcd:decide ((f.size:Int)<(b.size:Int))=false:=decide_eq_false hc;have hci:(b.size:Int)≤(f.size:Int):=(by omega);have hq:((f.extract 0 b.size).toList==b.toList)=false:=(by rw[zAL,hb.1,hbz,List.drop_zero];exact HB.out);have hsl:∀ wx,(Instr.slice 9 (.string f) none (some (.int .i64 (b.size:Int))) none).run Tryz.prog wx=.ok (.string (f.extract 0 b.size)) wx:=(fun wx=>by rw[run_slice_string_to_if _ _ _ _ _ Tryz.underlying9,if_pos (by omega)];rfl);clear hbz))
    go_roundw
    case rel=>exact⟨k+1,by omega,by go_num,HN,HZ,hbel⟩
    case measure=>simp[intOf];omega
   ·have HPRE:Hid ((P.layT (k:Int)).1.isPrefixOf f.toList=true):=by unfold Hid;rw[zHC _ _ (by rw[HLN.out];omega),hB]
    have HB:=zAa hB
    clear hB
    have HKL:=zAa (zHl (k:Int) next h0 h1)
    cases ho:(P.zOt (zCH k next) (f.toList.drop (P.layT (k:Int)).1.length)).2
    ·have HN:Hid (P.stmA s.toList next=P.stmGo f.toList (ws.map ByteArray.toList) next (11-(k+1)) ((k+1:Nat):Int)):=by
      unfold Hid;rw[HST.out,HPRE.out,ho];rfl
     cases h10:((k:Int)==10)
     all_goals
      go_wp2_with (first | (go_at_call 85;refine (zDr _ _).mono ?_;rintro e w' ⟨b,t,rfl,hb,ht,hw'⟩;have hw':=hw'.symm;subst hw';have hbz:b.size=(P.layT (k:Int)).1.length:=(by rw[← zAr,hb.1]);have hc:¬ (f.size:Int)<(b.size:Int):=(by omega);have hcd:decide ((f.size:Int)<(b.size:Int))=false:=decide_eq_false hc;have hci:(b.size:Int)≤(f.size:Int):=(by omega);have hq:((f.extract 0 b.size).toList==b.toList)=true:=(by rw[zAL,hb.1,hbz,List.drop_zero];exact HB.out);have hsl:∀ wx,(Instr.slice 9 (.string f) none (some (.int .i64 (b.size:Int))) none).run Tryz.prog wx=.ok (.string (f.extract 0 b.size)) wx:=(fun wx=>by rw[run_slice_string_to_if _ _ _ _ _ Tryz.underlying9,if_pos (by omega)];rfl);have HRST:Hid ((f.extract b.size f.size).toList=f.toList.drop (P.layT (k:Int)).1.length):=(by unfold Hid;rw[zAL,hbz,List.take_of_length_le (by rw[HLN.out];exact Nat.le_refl _)]);have hsl2:∀ wx,(Instr.slice 9 (.string f) (some (.int .i64 (b.size:Int))) none none).run Tryz.prog wx=.ok (.string (f.extract b.size f.size)) wx:=(fun wx=>by rw[run_slice_string_from_if _ _ _ _ _ Tryz.underlying9,if_pos (by omega)];rfl);clear hbz) | (go_at_call 166;refine (zEI wr.heap.size (zCH (k:Int) next) (f.extract b.size f.size) _ (by first | exact zFi _ _ _ h10 | exact zFj _ _ _ h10)).mono ?_;rw[HRST.out,ho];rintro e w2 ⟨rfl,hs2,hg2⟩;have HS2:=zAa hs2;have HZ2:=zAa ((HZ.out.alloc _).of_block (hg2.block w.heap.size (by simp;omega) (by simp;omega)));have HB2:=zAa (zAu (hbel.alloc hws _) hg2 hws);have hsz2:=hg2.size;clear hs2 hg2))
      go_roundw
      case rel=>exact⟨k+1,by omega,by go_num,HN,HZ2,HB2.out⟩
      case measure=>simp[intOf];omega
    ·have HN:Hid (P.stmA s.toList next=P.zOv (P.zOt (zCH k next) (f.toList.drop (P.layT (k:Int)).1.length)).1 (P.layT (k:Int)).2 (ws.map ByteArray.toList)):=by
      unfold Hid;rw[HST.out,HPRE.out,ho];rfl
     have HLB:Hid ((P.zOt (zCH k next) (f.toList.drop (P.layT (k:Int)).1.length)).1.label=(zCH k next).label):=zFC _ _
     generalize hst:(P.zOt (zCH k next) (f.toList.drop (P.layT (k:Int)).1.length)).1=st at *
     cases h10:((k:Int)==10)
     all_goals
      go_wp2_with (first | (go_at_call 85;refine (zDr _ _).mono ?_;rintro e w' ⟨b,t,rfl,hb,ht,hw'⟩;have hw':=hw'.symm;subst hw';have hbz:b.size=(P.layT (k:Int)).1.length:=(by rw[← zAr,hb.1]);have hc:¬ (f.size:Int)<(b.size:Int):=(by omega);have hcd:decide ((f.size:Int)<(b.size:Int))=false:=decide_eq_false hc;have hci:(b.size:Int)≤(f.size:Int):=(by omega);have hq:((f.extract 0 b.size).toList==b.toList)=true:=(by rw[zAL,hb.1,hbz,List.drop_zero];exact HB.out);have hsl:∀ wx,(Instr.slice 9 (.string f) none (some (.int .i64 (b.size:Int))) none).run Tryz.prog wx=.ok (.string (f.extract 0 b.size)) wx:=(fun wx=>by rw[run_slice_string_to_if _ _ _ _ _ Tryz.underlying9,if_pos (by omega)];rfl);have HRST:Hid ((f.extract b.size f.size).toList=f.toList.drop (P.layT (k:Int)).1.length):=(by unfold Hid;rw[zAL,hbz,List.take_of_length_le (by rw[HLN.out];exact Nat.le_refl _)]);have hsl2:∀ wx,(Instr.slice 9 (.string f) (some (.int .i64 (b.size:Int))) none none).run Tryz.prog wx=.ok (.string (f.extract b.size f.size)) wx:=(fun wx=>by rw[run_slice_string_from_if _ _ _ _ _ Tryz.underlying9,if_pos (by omega)];rfl);clear hbz) | (go_at_call 166;refine (zEI wr.heap.size (zCH (k:Int) next) (f.extract b.size f.size) _ (by first | exact zFi _ _ _ h10 | exact zFj _ _ _ h10)).mono ?_;rw[HRST.out,ho];rintro e w2 ⟨rfl,hs2,hg2⟩;have HS2:=zAa (hst ▸ hs2);have HZ2:=zAa ((HZ.out.alloc _).of_block (hg2.block w.heap.size (by simp;omega) (by simp;omega)));have HB2:=zAa (zAu (hbel.alloc hws _) hg2 hws);have hsz2:=hg2.size;clear hs2 hg2) | (refine zAs (.tmp 11) rfl rfl wr.heap.size st rfl HS2.out ?_) | (go_at_call 167;refine (zHk st t _ ws _ (HOPS.out.below HB2.out) (by rw[HLB.out];exact HKL.out.1) (by rw[HLB.out];exact HKL.out.2) ht.2 hwl).mono ?_;rw[ht.1];rintro e w3 ⟨rfl,hb3⟩;simp only[zBA];have HZ3:=zAa (HZ2.out.below hb3);have HB3:=zAa (HB2.out.trans (hb3.mono (by have:=HB2.out.size;omega)))) | (refine zAo (.tmp 4) (.tmp 56) rfl rfl w.heap.size P.Stm.zero (P.zOv st (P.layT (k:Int)).2 (ws.map ByteArray.toList)).1 rfl rfl HZ3.out ?_;intro w4 hs4 hg4;have HS4:=zAa hs4;have HB4:=zAa (zAu (HB1.out.trans (HB3.out.mono (Nat.le_of_lt hw1))) hg4 (Nat.le_refl _))))
      rw[HN.out]
      exact zAT (p:=4) (u:=5) w.heap.size _ _ (by kernel_rfl) rfl rfl HS4.out rfl ⟨rfl,HB4.out⟩
  ·have h11:k=11:=by omega
   have HN:Hid (P.stmA s.toList next=(P.Stm.zero,false)):=by unfold Hid;rw[HG.out,h11];rfl
   have HB2:=zAa (HB1.out.trans (hbel.mono (Nat.le_of_lt hw1)))
   go_wp2_with (first | (refine zAo (.tmp 4) (.tmp 58) rfl rfl w.heap.size P.Stm.zero P.Stm.zero rfl rfl HZ.out ?_;intro w4 hs4 hg4;have HS4:=zAa hs4;have HB4:=zAa (zAu HB2.out hg4 (Nat.le_refl _))))
   rw[HN.out]
   exact zAT (p:=4) (u:=5) w.heap.size _ _ (by kernel_rfl) rfl rfl HS4.out rfl ⟨rfl,HB4.out⟩
theorem zCi (B g:Nat) (r:P.Rd) (w:World) (h:zCk w B g r) (ho:r.opn.length<10) :
  Calls Tryz.prog 139 #[.pointer (some ⟨g,0,none⟩)] w fun e w'=>e=.returned (.int .i64 (P.openL r))∧w'=w:=by
 obtain⟨tv,ov,vs,h⟩:=h
 by_cases he:r.opn=[]
 ·have hov:ov=.slice none 0 0∨∃ k c,ov=.slice (some ⟨k,0,none⟩) 0 c:=by
   have:=h.opn
   rw[he] at this
   rcases this.2 with ⟨e,_⟩ | ⟨k,c,cur,e,_⟩
   ·exact .inl e
   ·exact .inr ⟨k,c,e⟩
  obtain⟨glt,gfr,g0,g1,g2,g3,g4⟩:=h.facts
  have HE:Hid (P.openL r=0):=by unfold Hid;simp[P.openL,he]
  clear h
  rcases hov with rfl | ⟨k,c,rfl⟩
  all_goals
   go_enter Tryz.func139,Tryz.ntmps139
   go_wp2
   go_ret
   rw[zAD HE]
   exact⟨rfl,rfl⟩
 ·obtain⟨os,o,hos⟩:=zDF r.opn he
  have hown:=h.opn
  rw[hos] at hown
  simp only[List.length_append,List.length_cons,List.length_nil,Nat.zero_add,List.map_append,List.map_cons,List.map_nil] at hown
  obtain⟨k,cap,rfl,hBk,hklt⟩:=hown.form (by omega)
  have hc:w.cell? ⟨k,os.length,none⟩=some (.int .i64 o):=by
   rw[hown.cellAt _ (by omega),List.getElem?_append_right (by simp)];simp
  obtain⟨glt,gfr,g0,g1,g2,g3,g4⟩:=h.facts
  have hol:os.length<10:=by rw[hos] at ho;simp at ho;omega
  have HE:Hid (P.openL r=o):=by unfold Hid;simp[P.openL,hos]
  clear h hown hos he ho
  go_enter Tryz.func139,Tryz.ntmps139
  go_wp2
  go_ret
  rw[zAD HE]
  exact⟨rfl,rfl⟩
theorem zCI (B g:Nat) (r:P.Rd) (w:World) (h:zCk w B g r) (h0:0≤r.ifs) (h1:r.ifs<10000) :
  Calls Tryz.prog 140 #[.pointer (some ⟨g,0,none⟩)] w fun e w'=>e=.returned (.int .i64 (r.ifs+1))∧w'=w:=by
 obtain⟨tv,ov,vs,h⟩:=h
 obtain⟨glt,gfr,g0,g1,g2,g3,g4⟩:=h.facts
 clear h
 go_enter Tryz.func140,Tryz.ntmps140
 go_wp2
 go_ret
 first | exact⟨rfl,rfl⟩ | exact⟨by go_num,rfl⟩
theorem zJw (r:P.Rd) (l:List UInt8) (k:Nat) (h:k<2) (hn:∀ j,j<k→(l==P.thrT (j:Int))=false) (ht:(l==P.thrT (k:Int))=true):P.takeA r l=P.zPd r (k:Int) r.line:=by
 have e:l=P.thrT (k:Int):=by simpa using ht
 unfold P.takeA
 match k,h with
 | 0,_ =>
  have e0:l=P.thrT 0:=e
  rw[if_pos e0];rfl
 | 1,_ =>
  have h0:¬ l=P.thrT 0:=by have:=hn 0 (by omega);simpa using this
  have e1:l=P.thrT 1:=e
  rw[if_neg h0,if_pos e1];rfl
theorem zIy (r:P.Rd) (l:List UInt8) (hn:∀ j,j<2→(l==P.thrT ((j:Nat):Int))=false):P.takeA r l=if P.openL r != 0&&l==P.labT (P.openL r)++[58] then P.putD r { P.Stm.zero with kind:=11,line:=r.line }
 else if !(P.stmA l (r.ifs+1)).2||((P.stmA l (r.ifs+1)).1.kind==5&&P.openL r != 0) then (r,false)
 else P.putD r { (P.stmA l (r.ifs+1)).1 with line:=r.line }:=by
 have h0:¬ l=P.thrT 0:=by have:=hn 0 (by omega);simpa using this
 have h1:¬ l=P.thrT 1:=by have:=hn 1 (by omega);simpa using this
 conv=>lhs;unfold P.takeA
 rw[if_neg h0,if_neg h1]
theorem zJx (B g N:Nat) (r:P.Rd) (s:ByteArray) (w:World) (h:zCk w B g r) (hs:s.size≤8192)
  (hF:Few N r) (hN:N<10000) (hB:B≤w.heap.size) (ho9:r.opn.length<10) (hi0:0≤r.ifs) (hi1:r.ifs<99) (hc0:0≤r.count) (hc1:r.count<10000) (hL0:0≤P.openL r) (hL1:P.openL r<100) :
  Calls Tryz.prog 89 #[.pointer (some ⟨g,0,none⟩),.string s,.int .i64 r.line] w fun e w'=>e=.returned (.bool (P.takeA r s.toList).2)∧zCk w' B g (P.takeA r s.toList).1∧BelowX B g w w':=by
 have hA:=zAa h
 clear h
 go_enter Tryz.func89,Tryz.ntmps89
 go_wp2
 go_loop [7] (fun i=>∃ k:Nat,k≤2∧i=.int .i64 k∧Hid (∀ j:Nat,j<k→(s.toList==P.thrT (j:Int))=false)) (fun i=>2-(intOf i).toNat)
 case atStart=>exact⟨0,by omega,rfl,fun j hj=>absurd hj (by omega)⟩
 case round =>
  obtain⟨k,hk,rfl,HK⟩:=hrel
  by_cases hlt:k<2
  ·have hin:(k:Int)<2:=by omega
   cases ht:(s.toList==P.thrT (k:Int))
   ·have HN:Hid (∀ j:Nat,j<k+1→(s.toList==P.thrT (j:Int))=false):=fun j hj=>by
     rcases Nat.lt_succ_iff_lt_or_eq.1 hj with h | h
     ·exact HK.out j h
     ·rw[h];exact ht
    have HT:=zAa ht
    clear ht
    go_wp2_with (first | (go_at_call 44;refine (zFr _ _ (by omega) (by omega)).mono ?_;rintro e w' ⟨t,rfl,ht,hw'⟩;have hw':=hw'.symm;subst hw';have hq:(s.toList==t.toList)=false:=(by rw[ht.1];exact HT.out)))
    go_round
    case rel=>exact⟨k+1,by omega,by go_num,HN⟩
    case measure=>simp[intOf];omega
   ·have HE:=zAa (zJw r s.toList k hlt HK.out ht)
    have HT:=zAa ht
    clear ht
    go_wp2_with (first | (go_at_call 44;refine (zFr _ _ (by omega) (by omega)).mono ?_;rintro e w' ⟨t,rfl,ht,hw'⟩;have hw':=hw'.symm;subst hw';have hq:(s.toList==t.toList)=true:=(by rw[ht.1];exact HT.out)) | (go_at_call 138;refine (zER B g r (k:Int) r.line _ hA.out hB (by have:=hF.1;omega) ho9).mono ?_;rintro e w2 ⟨rfl,hr1,hb1⟩))
    go_ret
    rw[HE.out];exact⟨rfl,hr1,hb1⟩
  ·have hk2:k=2:=by omega
   have hin:¬ (k:Int)<2:=by omega
   have HT:=zAa (zIy r s.toList (fun j hj=>HK.out j (by omega)))
   clear HK
   cases ho:(P.openL r != 0)
   ·have HT2:Hid (P.takeA r s.toList=if !(P.stmA s.toList (r.ifs+1)).2||((P.stmA s.toList (r.ifs+1)).1.kind==5&&P.openL r != 0) then (r,false) else P.putD r { (P.stmA s.toList (r.ifs+1)).1 with line:=r.line }):=by unfold Hid;rw[HT.out,ho];rfl
    clear HT
    cases hok:(P.stmA s.toList (r.ifs+1)).2
    ·have HE:Hid (P.takeA r s.toList=(r,false)):=by unfold Hid;rw[HT2.out,hok];rfl
     go_wp2_with (first | (go_at_call 139;refine (zCi B g r _ hA.out ho9).mono ?_;rintro e w' ⟨rfl,hw'⟩;have hw':=hw'.symm;subst hw') | (go_at_call 140;refine (zCI B g r _ hA.out hi0 (by omega)).mono ?_;rintro e w' ⟨rfl,hw'⟩;have hw':=hw'.symm;subst hw') | (go_at_call 141;refine (zDd s (r.ifs+1) _ hs (by omega) (by omega)).mono ?_;rintro e w1 ⟨he,hb⟩;simp only[zBA,zAb] at he;subst he))
     go_ret
     rw[HE.out];exact⟨rfl,(hA.out.below hb).alloc _,BelowX.of ((hb.mono hB).alloc (by have:=hb.size;omega) _)⟩
    cases h5:((P.stmA s.toList (r.ifs+1)).1.kind==5)
    rotate_left
    ·have HE:Hid (P.takeA r s.toList=P.putD r { (P.stmA s.toList (r.ifs+1)).1 with line:=r.line }):=by unfold Hid;rw[HT2.out,hok,h5,ho];rfl
     go_wp2_with (first | (go_at_call 139;refine (zCi B g r _ hA.out ho9).mono ?_;rintro e w' ⟨rfl,hw'⟩;have hw':=hw'.symm;subst hw') | (go_at_call 140;refine (zCI B g r _ hA.out hi0 (by omega)).mono ?_;rintro e w' ⟨rfl,hw'⟩;have hw':=hw'.symm;subst hw') | (go_at_call 141;refine (zDd s (r.ifs+1) _ hs (by omega) (by omega)).mono ?_;rintro e w1 ⟨he,hb⟩;simp only[zBA,zAb] at he;subst he) | (go_at_call 101;refine (zDm B g N r { (P.stmA s.toList (r.ifs+1)).1 with line:=r.line } _ (by exact (hA.out.below hb).alloc (.cells (zAb { (P.stmA s.toList (r.ifs+1)).1 with line:=r.line }) 96)) hF hN (by have:=hb.size;simp;omega) ho9 hi0 (by omega) hc0 hc1).mono ?_;rintro e w2 ⟨rfl,hr1,hb1⟩))
     go_ret
     rw[HE.out];exact⟨rfl,hr1,(BelowX.of ((hb.mono hB).alloc (by have:=hb.size;omega) _)).trans hb1⟩
    ·have HE:Hid (P.takeA r s.toList=P.putD r { (P.stmA s.toList (r.ifs+1)).1 with line:=r.line }):=by unfold Hid;rw[HT2.out,hok,h5];rfl
     go_wp2_with (first | (go_at_call 139;refine (zCi B g r _ hA.out ho9).mono ?_;rintro e w' ⟨rfl,hw'⟩;have hw':=hw'.symm;subst hw') | (go_at_call 140;refine (zCI B g r _ hA.out hi0 (by omega)).mono ?_;rintro e w' ⟨rfl,hw'⟩;have hw':=hw'.symm;subst hw') | (go_at_call 141;refine (zDd s (r.ifs+1) _ hs (by omega) (by omega)).mono ?_;rintro e w1 ⟨he,hb⟩;simp only[zBA,zAb] at he;subst he) | (go_at_call 101;refine (zDm B g N r { (P.stmA s.toList (r.ifs+1)).1 with line:=r.line } _ (by exact (hA.out.below hb).alloc (.cells (zAb { (P.stmA s.toList (r.ifs+1)).1 with line:=r.line }) 96)) hF hN (by have:=hb.size;simp;omega) ho9 hi0 (by omega) hc0 hc1).mono ?_;rintro e w2 ⟨rfl,hr1,hb1⟩))
     go_ret
     rw[HE.out];exact⟨rfl,hr1,(BelowX.of ((hb.mono hB).alloc (by have:=hb.size;omega) _)).trans hb1⟩
   ·cases hl:(s.toList==P.labT (P.openL r)++[58])
    ·have HT2:Hid (P.takeA r s.toList=if !(P.stmA s.toList (r.ifs+1)).2||((P.stmA s.toList (r.ifs+1)).1.kind==5&&P.openL r != 0) then (r,false) else P.putD r { (P.stmA s.toList (r.ifs+1)).1 with line:=r.line }):=by unfold Hid;rw[HT.out,ho,hl];rfl
     have HL:=zAa hl
     clear HT hl
     cases hok:(P.stmA s.toList (r.ifs+1)).2
     ·have HE:Hid (P.takeA r s.toList=(r,false)):=by unfold Hid;rw[HT2.out,hok];rfl
      go_wp2_with (first | (go_at_call 139;refine (zCi B g r _ hA.out ho9).mono ?_;rintro e w' ⟨rfl,hw'⟩;have hw':=hw'.symm;subst hw') | (go_at_call 84;refine (zCN _ _ hL0 hL1).mono ?_;rintro e w' ⟨t,rfl,ht,hw'⟩;have hw':=hw'.symm;subst hw';have htz:=ht.size;have hq:(s.toList==(t++⟨#[58]⟩).toList)=false:=(by rw[zAt,ht.1,show (⟨#[58]⟩:ByteArray).toList=[58] from zAf #[58]];exact HL.out)) | (go_at_call 140;refine (zCI B g r _ hA.out hi0 (by omega)).mono ?_;rintro e w' ⟨rfl,hw'⟩;have hw':=hw'.symm;subst hw') | (go_at_call 141;refine (zDd s (r.ifs+1) _ hs (by omega) (by omega)).mono ?_;rintro e w1 ⟨he,hb⟩;simp only[zBA,zAb] at he;subst he))
      go_ret
      rw[HE.out];exact⟨rfl,(hA.out.below hb).alloc _,BelowX.of ((hb.mono hB).alloc (by have:=hb.size;omega) _)⟩
     cases h5:((P.stmA s.toList (r.ifs+1)).1.kind==5)
     rotate_left
     ·have HE:Hid (P.takeA r s.toList=(r,false)):=by unfold Hid;rw[HT2.out,hok,h5,ho];rfl
      go_wp2_with (first | (go_at_call 139;refine (zCi B g r _ hA.out ho9).mono ?_;rintro e w' ⟨rfl,hw'⟩;have hw':=hw'.symm;subst hw') | (go_at_call 84;refine (zCN _ _ hL0 hL1).mono ?_;rintro e w' ⟨t,rfl,ht,hw'⟩;have hw':=hw'.symm;subst hw';have htz:=ht.size;have hq:(s.toList==(t++⟨#[58]⟩).toList)=false:=(by rw[zAt,ht.1,show (⟨#[58]⟩:ByteArray).toList=[58] from zAf #[58]];exact HL.out)) | (go_at_call 140;refine (zCI B g r _ hA.out hi0 (by omega)).mono ?_;rintro e w' ⟨rfl,hw'⟩;have hw':=hw'.symm;subst hw') | (go_at_call 141;refine (zDd s (r.ifs+1) _ hs (by omega) (by omega)).mono ?_;rintro e w1 ⟨he,hb⟩;simp only[zBA,zAb] at he;subst he))
      go_ret
      rw[HE.out];exact⟨rfl,(hA.out.below hb).alloc _,BelowX.of ((hb.mono hB).alloc (by have:=hb.size;omega) _)⟩
     ·have HE:Hid (P.takeA r s.toList=P.putD r { (P.stmA s.toList (r.ifs+1)).1 with line:=r.line }):=by unfold Hid;rw[HT2.out,hok,h5];rfl
      go_wp2_with (first | (go_at_call 139;refine (zCi B g r _ hA.out ho9).mono ?_;rintro e w' ⟨rfl,hw'⟩;have hw':=hw'.symm;subst hw') | (go_at_call 84;refine (zCN _ _ hL0 hL1).mono ?_;rintro e w' ⟨t,rfl,ht,hw'⟩;have hw':=hw'.symm;subst hw';have htz:=ht.size;have hq:(s.toList==(t++⟨#[58]⟩).toList)=false:=(by rw[zAt,ht.1,show (⟨#[58]⟩:ByteArray).toList=[58] from zAf #[58]];exact HL.out)) | (go_at_call 140;refine (zCI B g r _ hA.out hi0 (by omega)).mono ?_;rintro e w' ⟨rfl,hw'⟩;have hw':=hw'.symm;subst hw') | (go_at_call 141;refine (zDd s (r.ifs+1) _ hs (by omega) (by omega)).mono ?_;rintro e w1 ⟨he,hb⟩;simp only[zBA,zAb] at he;subst he) | (go_at_call 101;refine (zDm B g N r { (P.stmA s.toList (r.ifs+1)).1 with line:=r.line } _ (by exact (hA.out.below hb).alloc (.cells (zAb { (P.stmA s.toList (r.ifs+1)).1 with line:=r.line }) 96)) hF hN (by have:=hb.size;simp;omega) ho9 hi0 (by omega) hc0 hc1).mono ?_;rintro e w2 ⟨rfl,hr1,hb1⟩))
      go_ret
      rw[HE.out];exact⟨rfl,hr1,(BelowX.of ((hb.mono hB).alloc (by have:=hb.size;omega) _)).trans hb1⟩
    ·have HE:Hid (P.takeA r s.toList=P.putD r { P.Stm.zero with kind:=11,line:=r.line }):=by unfold Hid;rw[HT.out,ho,hl];rfl
     have HL:=zAa hl
     clear HT hl
     go_wp2_with (first | (go_at_call 139;refine (zCi B g r _ hA.out ho9).mono ?_;rintro e w' ⟨rfl,hw'⟩;have hw':=hw'.symm;subst hw') | (go_at_call 84;refine (zCN _ _ hL0 hL1).mono ?_;rintro e w' ⟨t,rfl,ht,hw'⟩;have hw':=hw'.symm;subst hw';have htz:=ht.size;have hq:(s.toList==(t++⟨#[58]⟩).toList)=true:=(by rw[zAt,ht.1,show (⟨#[58]⟩:ByteArray).toList=[58] from zAf #[58]];exact HL.out)) | (go_at_call 101;refine (zDm B g N r { P.Stm.zero with kind:=11,line:=r.line } _ (by exact hA.out) hF hN (by omega) ho9 hi0 (by omega) hc0 hc1).mono ?_;rintro e w2 ⟨rfl,hr1,hb1⟩))
     go_ret
     rw[HE.out];exact⟨rfl,hr1,hb1⟩
end Go.Proofs.YtgceflcbckjjiaaGreatDoor
