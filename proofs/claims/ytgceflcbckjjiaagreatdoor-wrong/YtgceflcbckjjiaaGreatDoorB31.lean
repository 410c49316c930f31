import Derived.Test.YtgceflcbckjjiaaGreatDoorB30
set_option linter.unusedVariables false
set_option linter.unusedSimpArgs false
namespace Go.Proofs.YtgceflcbckjjiaaGreatDoor
open Go Go.RowKit
set_option maxRecDepth 100000
theorem pre_take (L f:List UInt8) (h:L.length≤f.length):L.isPrefixOf f=(f.take L.length==L):=by
 cases h1:(f.take L.length==L)
 ·cases h2:L.isPrefixOf f
  ·rfl
  ·rw[List.isPrefixOf_iff_prefix,List.prefix_iff_eq_take] at h2
   rw[← h2] at h1;simp at h1
 ·rw[List.isPrefixOf_iff_prefix,List.prefix_iff_eq_take]
  simpa using (by simpa using h1:f.take L.length=L).symm
theorem pre_short (L f:List UInt8) (h:f.length<L.length):L.isPrefixOf f=false:=by
 cases h2:L.isPrefixOf f
 ·rfl
 ·rw[List.isPrefixOf_iff_prefix] at h2
  have:=h2.length_le;omega
def kindS (k next:Int):P.Stm:=if k==10 then { P.Stm.zero with kind:=k,label:=next } else { P.Stm.zero with kind:=k }
theorem stmGo_step (first:List UInt8) (ops:List (List UInt8)) (next:Int) (f:Nat) (k:Int):P.stmGo first ops next (f+1) k =
  if (P.layT k).1.isPrefixOf first then (if (P.readOrd (kindS k next) (first.drop (P.layT k).1.length)).2 then P.operandsR (P.readOrd (kindS k next) (first.drop (P.layT k).1.length)).1 (P.layT k).2 ops else P.stmGo first ops next f (k+1)) else P.stmGo first ops next f (k+1):=by
 rw[P.stmGo];rfl
theorem readOrd_label (st:P.Stm) (l:List UInt8):(P.readOrd st l).1.label=st.label:=by
 unfold P.readOrd
 split
 ·split<;>rfl
 ·rfl
theorem kindS_label (k next:Int) (h0:0≤next) (h1:next<100):0≤(kindS k next).label∧(kindS k next).label<100:=by
 unfold kindS;split
 ·exact⟨h0,h1⟩
 ·exact⟨by simp[P.Stm.zero],by simp[P.Stm.zero]⟩
theorem kindS_new1 (w:World) (k next:Int) (h:(k==10)=true):StmAt (w.alloc (.cells #[.int .i64 k,.int .i64 0,.int .i64 0,.int .i64 0,.bool false,.int .i64 0,.bool false,.int .i64 0,.int .i64 0,.int .i64 0,.int .i64 next] 96)) w.heap.size (kindS k next):=by
 have e:kindS k next={ P.Stm.zero with kind:=k,label:=next }:=by unfold kindS;rw[h];rfl
 rw[e];exact StmAt.new w { P.Stm.zero with kind:=k,label:=next }
theorem kindS_new2 (w:World) (k next:Int) (h:(k==10)=false):StmAt (w.alloc (.cells #[.int .i64 k,.int .i64 0,.int .i64 0,.int .i64 0,.bool false,.int .i64 0,.bool false,.int .i64 0,.int .i64 0,.int .i64 0,.int .i64 0] 96)) w.heap.size (kindS k next):=by
 have e:kindS k next={ P.Stm.zero with kind:=k }:=by unfold kindS;rw[h];rfl
 rw[e];exact StmAt.new w { P.Stm.zero with kind:=k }
theorem OpsAt.below {w w':World} {v:Value} {ws:List ByteArray} (h:OpsAt w v ws) (hb:Below w.heap.size w w'):OpsAt w' v ws:=by
 obtain⟨a,cap,e,hc,hw⟩:=h
 refine⟨a,cap,e,hc,fun hne=>?_⟩
 obtain⟨g,e1,h1,h2⟩:=hw hne
 exact⟨g,e1,h1.below hb,Nat.lt_of_lt_of_le h2 hb.size⟩
set_option maxHeartbeats 6400000 in
theorem stmA_any (s:ByteArray) (next:Int) (w:World) (hs:s.size≤8192) (h0:0≤next) (h1:next<100) :
  Calls Tryz.prog 141 #[.string s,.int .i64 next] w fun e w'=>e=.returned (stmVal (P.stmA s.toList next))∧Below w.heap.size w w':=by
 go_enter Tryz.func141,Tryz.ntmps141
 go_wp2_with (first | (go_at_call 165;refine (cut_any s _ hs).mono ?_;rintro e w1 ⟨f,v,ws,rfl,hf,hws,hops,hfz,hwl,hb1⟩;obtain⟨va,vc,rfl,hvc,hvw⟩:=hops))
 have HOPS:Hid (OpsAt w1 (.slice va ws.length vc) ws):=⟨va,vc,rfl,hvc,hvw⟩
 have HF:=hide hf
 have HWS:=hide hws
 have HZ1:Hid (StmAt w1 w.heap.size P.Stm.zero):=(zero_new w).below hb1
 have HB1:Hid (Below w.heap.size w w1):=((Below.refl _ _).alloc (Nat.le_refl _) _).trans (hb1.mono (by simp))
 have hw1:w.heap.size<w1.heap.size:=HZ1.out.lt
 have HE:Hid (P.stmA s.toList next=P.stmGo f.toList (ws.map ByteArray.toList) next 11 0):=by unfold Hid P.stmA;rw[hf,hws]
 clear hf hws hvw hb1
 go_loopw [8] (fun i wr=>∃ k:Nat,k≤11∧i=.int .i64 k∧Hid (P.stmA s.toList next=P.stmGo f.toList (ws.map ByteArray.toList) next (11-k) (k:Int))∧Hid (StmAt wr w.heap.size P.Stm.zero)∧Below w1.heap.size w1 wr) (fun i _=>11-(intOf i).toNat)
 case atStart=>exact⟨0,by omega,rfl,HE,HZ1,Below.refl _ _⟩
 case round =>
  obtain⟨k,hk,rfl,HG,HZ,hbel⟩:=hrel
  have hws:=hbel.size
  obtain⟨f1,f2,r0,r1,r2,r3,r4,r5,r6,r7,r8,r9,r10⟩:=HZ.out.facts
  by_cases hlt:k<11
  ·have hin:(k:Int)≤10:=by omega
   have HST:Hid (P.stmA s.toList next=if (P.layT (k:Int)).1.isPrefixOf f.toList then (if (P.readOrd (kindS k next) (f.toList.drop (P.layT (k:Int)).1.length)).2 then P.operandsR (P.readOrd (kindS k next) (f.toList.drop (P.layT (k:Int)).1.length)).1 (P.layT (k:Int)).2 (ws.map ByteArray.toList) else P.stmGo f.toList (ws.map ByteArray.toList) next (11-(k+1)) ((k+1:Nat):Int)) else P.stmGo f.toList (ws.map ByteArray.toList) next (11-(k+1)) ((k+1:Nat):Int)):=by
    unfold Hid;rw[HG.out,show 11-k=(11-(k+1))+1 by omega,stmGo_step];rfl
   have HLN:Hid (f.toList.length=f.size):=size_toList f
   clear HG
   by_cases hA:f.size<(P.layT (k:Int)).1.length
   ·have HN:Hid (P.stmA s.toList next=P.stmGo f.toList (ws.map ByteArray.toList) next (11-(k+1)) ((k+1:Nat):Int)):=by
     unfold Hid;rw[HST.out,pre_short _ _ (by rw[HLN.out];exact hA)];rfl
    go_wp2_with (first | (go_at_call 85;refine (layA_any _ _).mono ?_;rintro e w' ⟨b,t,rfl,hb,ht,hw'⟩;have hw':=hw'.symm;subst hw';have hbz:b.size=(P.layT (k:Int)).1.length:=(by rw[← size_toList,hb.1]);have hc:(f.size:Int)<(b.size:Int):=(by omega)))
    go_roundw
    case rel=>exact⟨k+1,by omega,by go_num,HN,HZ,hbel⟩
    case measure=>simp[intOf];omega
   cases hB:(f.toList.take (P.layT (k:Int)).1.length==(P.layT (k:Int)).1)
   ·have HN:Hid (P.stmA s.toList next=P.stmGo f.toList (ws.map ByteArray.toList) next (11-(k+1)) ((k+1:Nat):Int)):=by
     unfold Hid;rw[HST.out,pre_take _ _ (by rw[HLN.out];omega),hB];rfl
    have HB:=hide hB
    clear hB
    go_wp2_with (first | (go_at_call 85;refine (layA_any _ _).mono ?_;rintro e w' ⟨b,t,rfl,hb,ht,hw'⟩;have hw':=hw'.symm;subst hw';have hbz:b.size=(P.layT (k:Int)).1.length:=(by rw[← size_toList,hb.1]);have hc:¬ (f.size:Int)<(b.size:Int):=(by omega);have hcd:decide ((f.size:Int)<(b.size:Int))=false:=decide_eq_false hc;have hci:(b.size:Int)≤(f.size:Int):=(by omega);have hq:((f.extract 0 b.size).toList==b.toList)=false:=(by rw[extract_toList,hb.1,hbz,List.drop_zero];exact HB.out);have hsl:∀ wx,(Instr.slice 9 (.string f) none (some (.int .i64 (b.size:Int))) none).run Tryz.prog wx=.ok (.string (f.extract 0 b.size)) wx:=(fun wx=>by rw[run_slice_string_to_if _ _ _ _ _ Tryz.underlying9,if_pos (by omega)];rfl);clear hbz))
    go_roundw
    case rel=>exact⟨k+1,by omega,by go_num,HN,HZ,hbel⟩
    case measure=>simp[intOf];omega
   ·have HPRE:Hid ((P.layT (k:Int)).1.isPrefixOf f.toList=true):=by unfold Hid;rw[pre_take _ _ (by rw[HLN.out];omega),hB]
    have HB:=hide hB
    clear hB
    have HKL:=hide (kindS_label (k:Int) next h0 h1)
    cases ho:(P.readOrd (kindS k next) (f.toList.drop (P.layT (k:Int)).1.length)).2
    ·have HN:Hid (P.stmA s.toList next=P.stmGo f.toList (ws.map ByteArray.toList) next (11-(k+1)) ((k+1:Nat):Int)):=by
      unfold Hid;rw[HST.out,HPRE.out,ho];rfl
     cases h10:((k:Int)==10)
     all_goals
      go_wp2_with (first | (go_at_call 85;refine (layA_any _ _).mono ?_;rintro e w' ⟨b,t,rfl,hb,ht,hw'⟩;have hw':=hw'.symm;subst hw';have hbz:b.size=(P.layT (k:Int)).1.length:=(by rw[← size_toList,hb.1]);have hc:¬ (f.size:Int)<(b.size:Int):=(by omega);have hcd:decide ((f.size:Int)<(b.size:Int))=false:=decide_eq_false hc;have hci:(b.size:Int)≤(f.size:Int):=(by omega);have hq:((f.extract 0 b.size).toList==b.toList)=true:=(by rw[extract_toList,hb.1,hbz,List.drop_zero];exact HB.out);have hsl:∀ wx,(Instr.slice 9 (.string f) none (some (.int .i64 (b.size:Int))) none).run Tryz.prog wx=.ok (.string (f.extract 0 b.size)) wx:=(fun wx=>by rw[run_slice_string_to_if _ _ _ _ _ Tryz.underlying9,if_pos (by omega)];rfl);have HRST:Hid ((f.extract b.size f.size).toList=f.toList.drop (P.layT (k:Int)).1.length):=(by unfold Hid;rw[extract_toList,hbz,List.take_of_length_le (by rw[HLN.out];exact Nat.le_refl _)]);have hsl2:∀ wx,(Instr.slice 9 (.string f) (some (.int .i64 (b.size:Int))) none none).run Tryz.prog wx=.ok (.string (f.extract b.size f.size)) wx:=(fun wx=>by rw[run_slice_string_from_if _ _ _ _ _ Tryz.underlying9,if_pos (by omega)];rfl);clear hbz) | (go_at_call 166;refine (readOrd_any wr.heap.size (kindS (k:Int) next) (f.extract b.size f.size) _ (by first | exact kindS_new1 _ _ _ h10 | exact kindS_new2 _ _ _ h10)).mono ?_;rw[HRST.out,ho];rintro e w2 ⟨rfl,hs2,hg2⟩;have HS2:=hide hs2;have HZ2:=hide ((HZ.out.alloc _).of_block (hg2.block w.heap.size (by simp;omega) (by simp;omega)));have HB2:=hide (below_of_new (hbel.alloc hws _) hg2 hws);have hsz2:=hg2.size;clear hs2 hg2))
      go_roundw
      case rel=>exact⟨k+1,by omega,by go_num,HN,HZ2,HB2.out⟩
      case measure=>simp[intOf];omega
    ·have HN:Hid (P.stmA s.toList next=P.operandsR (P.readOrd (kindS k next) (f.toList.drop (P.layT (k:Int)).1.length)).1 (P.layT (k:Int)).2 (ws.map ByteArray.toList)):=by
      unfold Hid;rw[HST.out,HPRE.out,ho];rfl
     have HLB:Hid ((P.readOrd (kindS k next) (f.toList.drop (P.layT (k:Int)).1.length)).1.label=(kindS k next).label):=readOrd_label _ _
     generalize hst:(P.readOrd (kindS k next) (f.toList.drop (P.layT (k:Int)).1.length)).1=st at *
     cases h10:((k:Int)==10)
     all_goals
      go_wp2_with (first | (go_at_call 85;refine (layA_any _ _).mono ?_;rintro e w' ⟨b,t,rfl,hb,ht,hw'⟩;have hw':=hw'.symm;subst hw';have hbz:b.size=(P.layT (k:Int)).1.length:=(by rw[← size_toList,hb.1]);have hc:¬ (f.size:Int)<(b.size:Int):=(by omega);have hcd:decide ((f.size:Int)<(b.size:Int))=false:=decide_eq_false hc;have hci:(b.size:Int)≤(f.size:Int):=(by omega);have hq:((f.extract 0 b.size).toList==b.toList)=true:=(by rw[extract_toList,hb.1,hbz,List.drop_zero];exact HB.out);have hsl:∀ wx,(Instr.slice 9 (.string f) none (some (.int .i64 (b.size:Int))) none).run Tryz.prog wx=.ok (.string (f.extract 0 b.size)) wx:=(fun wx=>by rw[run_slice_string_to_if _ _ _ _ _ Tryz.underlying9,if_pos (by omega)];rfl);have HRST:Hid ((f.extract b.size f.size).toList=f.toList.drop (P.layT (k:Int)).1.length):=(by unfold Hid;rw[extract_toList,hbz,List.take_of_length_le (by rw[HLN.out];exact Nat.le_refl _)]);have hsl2:∀ wx,(Instr.slice 9 (.string f) (some (.int .i64 (b.size:Int))) none none).run Tryz.prog wx=.ok (.string (f.extract b.size f.size)) wx:=(fun wx=>by rw[run_slice_string_from_if _ _ _ _ _ Tryz.underlying9,if_pos (by omega)];rfl);clear hbz) | (go_at_call 166;refine (readOrd_any wr.heap.size (kindS (k:Int) next) (f.extract b.size f.size) _ (by first | exact kindS_new1 _ _ _ h10 | exact kindS_new2 _ _ _ h10)).mono ?_;rw[HRST.out,ho];rintro e w2 ⟨rfl,hs2,hg2⟩;have HS2:=hide (hst ▸ hs2);have HZ2:=hide ((HZ.out.alloc _).of_block (hg2.block w.heap.size (by simp;omega) (by simp;omega)));have HB2:=hide (below_of_new (hbel.alloc hws _) hg2 hws);have hsz2:=hg2.size;clear hs2 hg2) | (refine wpList_load_stm (.tmp 11) rfl rfl wr.heap.size st rfl HS2.out ?_) | (go_at_call 167;refine (readOps_any st t _ ws _ (HOPS.out.below HB2.out) (by rw[HLB.out];exact HKL.out.1) (by rw[HLB.out];exact HKL.out.2) ht.2 hwl).mono ?_;rw[ht.1];rintro e w3 ⟨rfl,hb3⟩;simp only[stmVal];have HZ3:=hide (HZ2.out.below hb3);have HB3:=hide (HB2.out.trans (hb3.mono (by have:=HB2.out.size;omega)))) | (refine wpList_store_stm (.tmp 4) (.tmp 56) rfl rfl w.heap.size P.Stm.zero (P.operandsR st (P.layT (k:Int)).2 (ws.map ByteArray.toList)).1 rfl rfl HZ3.out ?_;intro w4 hs4 hg4;have HS4:=hide hs4;have HB4:=hide (below_of_new (HB1.out.trans (HB3.out.mono (Nat.le_of_lt hw1))) hg4 (Nat.le_refl _))))
      rw[HN.out]
      exact ret_stm (p:=4) (u:=5) w.heap.size _ _ (by kernel_rfl) rfl rfl HS4.out rfl ⟨rfl,HB4.out⟩
  ·have h11:k=11:=by omega
   have HN:Hid (P.stmA s.toList next=(P.Stm.zero,false)):=by unfold Hid;rw[HG.out,h11];rfl
   have HB2:=hide (HB1.out.trans (hbel.mono (Nat.le_of_lt hw1)))
   go_wp2_with (first | (refine wpList_store_stm (.tmp 4) (.tmp 58) rfl rfl w.heap.size P.Stm.zero P.Stm.zero rfl rfl HZ.out ?_;intro w4 hs4 hg4;have HS4:=hide hs4;have HB4:=hide (below_of_new HB2.out hg4 (Nat.le_refl _))))
   rw[HN.out]
   exact ret_stm (p:=4) (u:=5) w.heap.size _ _ (by kernel_rfl) rfl rfl HS4.out rfl ⟨rfl,HB4.out⟩
end Go.Proofs.YtgceflcbckjjiaaGreatDoor
