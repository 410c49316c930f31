import Derived.Test.YtgceflcbckjjiaaGreatDoorB29
set_option linter.unusedVariables false
set_option linter.unusedSimpArgs false
namespace Go.Proofs.YtgceflcbckjjiaaGreatDoor
open Go Go.RowKit
set_option maxRecDepth 100000
theorem partR_label (st:P.Stm) (c:UInt8) (l:List UInt8):(P.partR st c l).1.label=st.label:=by
 unfold P.partR
 split
 ·rfl
 split
 ·rfl
 split
 ·rfl
 split<;>rfl
theorem partsR_step (st:P.Stm) (cs:List UInt8) (ws:List (List UInt8)) (k:Nat) (h1:k<cs.length) (h2:k<ws.length) :
  P.partsR st (cs.drop k) (ws.drop k)=if (P.partR st cs[k] ws[k]).2 then P.partsR (P.partR st cs[k] ws[k]).1 (cs.drop (k+1)) (ws.drop (k+1)) else (P.Stm.zero,false):=by
 rw[List.drop_eq_getElem_cons h1,List.drop_eq_getElem_cons h2];rfl
theorem partsR_end (st:P.Stm) (cs:List UInt8) (ws:List (List UInt8)) (k:Nat) (h:ws.length≤k):P.partsR st (cs.drop k) (ws.drop k)=(st,true):=by
 rw[List.drop_of_length_le (l:=ws) h]
 cases cs.drop k<;>rfl
theorem WordsAt.below' {w w':World} {b off:Nat} {ws:List ByteArray} (h:WordsAt w b off ws) (hb:Below w.heap.size w w'):WordsAt w' b off ws:=h.below hb
theorem zero_new (w:World):StmAt (w.alloc (.cells #[.int .i64 0,.int .i64 0,.int .i64 0,.int .i64 0,.bool false,.int .i64 0,.bool false,.int .i64 0,.int .i64 0,.int .i64 0,.int .i64 0] 96)) w.heap.size P.Stm.zero:=StmAt.new w P.Stm.zero
set_option maxHeartbeats 3200000 in
theorem readOps_any (st:P.Stm) (l:ByteArray) (v:Value) (ws:List ByteArray) (w:World) (h:OpsAt w v ws) (hl0:0≤st.label) (hl1:st.label<100) (hz:l.size≤3) (hn:ws.length≤8193) :
  Calls Tryz.prog 167 #[.agg (stmCells st),.string l,v] w fun e w'=>e=.returned (stmVal (P.operandsR st l.toList (ws.map ByteArray.toList)))∧Below w.heap.size w w':=by
 obtain⟨a,cap,rfl,hcap,hw⟩:=h
 have HW:=hide hw
 clear hw
 cases hlen:((l.size:Int) != (ws.length:Int))
 rotate_left
 ·have HE:Hid (P.operandsR st l.toList (ws.map ByteArray.toList)=(P.Stm.zero,false)):=by
   unfold Hid P.operandsR
   have:(l.toList.length != (ws.map ByteArray.toList).length)=true:=by
    rw[size_toList,List.length_map,bne_iff_ne];rw[bne_iff_ne] at hlen;intro e;exact hlen (by rw[e])
   rw[this];rfl
  simp only[stmCells]
  go_enter Tryz.func167,Tryz.ntmps167
  go_wp2
  rw[HE.out]
  refine ret_stm (p:=6) (u:=7) (w.heap.size+1) P.Stm.zero false (by kernel_rfl) rfl rfl ?_ rfl ⟨rfl,((Below.refl _ _).alloc (Nat.le_refl _) _).alloc (by simp) _⟩
  have h9:StmAt ((w.alloc (.cells (stmCells st) 96)).alloc (.cells (stmCells P.Stm.zero) 96)) (w.heap.size+1) P.Stm.zero:=by
   have:=StmAt.new (w.alloc (.cells (stmCells st) 96)) P.Stm.zero
   simpa using this
  exact h9
 ·have hlw:l.size=ws.length:=by have h9:=hlen;simp at h9;omega
  have HLW:=hide hlw
  have HE:Hid (P.operandsR st l.toList (ws.map ByteArray.toList)=P.partsR st l.toList (ws.map ByteArray.toList)):=by
   unfold Hid P.operandsR
   have:(l.toList.length != (ws.map ByteArray.toList).length)=false:=by rw[size_toList,List.length_map,hlw];simp
   rw[this];rfl
  have hs0:Hid (StmAt ((w.alloc (.cells (stmCells st) 96)).alloc (.cells (stmCells P.Stm.zero) 96)) w.heap.size st):=(StmAt.new w st).alloc _
  have hr0:Hid (StmAt ((w.alloc (.cells (stmCells st) 96)).alloc (.cells (stmCells P.Stm.zero) 96)) (w.heap.size+1) P.Stm.zero):=by
   unfold Hid
   have:=StmAt.new (w.alloc (.cells (stmCells st) 96)) P.Stm.zero
   simpa using this
  have hb0:Hid (Below w.heap.size w ((w.alloc (.cells (stmCells st) 96)).alloc (.cells (stmCells P.Stm.zero) 96))):=((Below.refl _ _).alloc (Nat.le_refl _) _).alloc (by simp) _
  clear hlw
  simp only[stmCells]
  go_enter Tryz.func167,Tryz.ntmps167
  go_wp2
  go_loopw [19] (fun i wr=>∃ (k:Nat) (q:P.Stm),k≤ws.length∧i=.int .i64 k∧Hid (q.label=st.label)∧Hid (P.partsR st l.toList (ws.map ByteArray.toList)=P.partsR q (l.toList.drop k) ((ws.map ByteArray.toList).drop k))∧Hid (StmAt wr w.heap.size q)∧Hid (StmAt wr (w.heap.size+1) P.Stm.zero)∧Below w.heap.size w wr) (fun i _=>ws.length-(intOf i).toNat)
  case atStart=>exact⟨0,st,Nat.zero_le _,rfl,rfl,rfl,hs0,hr0,hb0.out⟩
  case round =>
   obtain⟨k,q,hk,rfl,HL,HP,HS,HR,hbel⟩:=hrel
   have hws:=hbel.size
   obtain⟨f1,f2,r0,r1,r2,r3,r4,r5,r6,r7,r8,r9,r10⟩:=HR.out.facts
   by_cases hlt:k<ws.length
   ·have hin:(k:Int)<(ws.length:Int):=by omega
    obtain⟨b,rfl,hwa,hblt⟩:=HW.out (by intro e;rw[e] at hlt;simp at hlt)
    have hck:=(hwa.below' hbel) k ws[k] (by simp[hlt])
    simp only[Nat.zero_add] at hck
    have hkl:k<l.size:=by rw[HLW.out];exact hlt
    have hki:(k:Int)<(l.size:Int):=by omega
    have HST:=hide (partsR_step q l.toList (ws.map ByteArray.toList) k (by rw[size_toList];exact hkl) (by simpa using hlt))
    have HLG:=hide (toList_get l k hkl)
    have hmg:(ws.map ByteArray.toList)[k]'(by simpa using hlt)=ws[k].toList:=by simp
    have HMG:=hide hmg
    generalize hx:ws[k]=x at *
    clear hx hmg hwa
    cases hp:(P.partR q l[k] x.toList).2
    ·have HN:Hid (P.operandsR st l.toList (ws.map ByteArray.toList)=(P.Stm.zero,false)):=by
      unfold Hid;rw[HE.out,HP.out,HST.out,HLG.out,HMG.out,hp];rfl
     go_wp2_with (first | (go_at_call 189;refine (readPart_any w.heap.size q l[k] x _ HS.out (by rw[HL.out];exact hl0) (by rw[HL.out];exact hl1)).mono ?_;rintro e w1 ⟨rfl,hs1,hg1⟩;rw[hp];have HR1:=hide (HR.out.of_block (hg1.block _ f1 (by simp)));obtain⟨f1,f2,r0,r1,r2,r3,r4,r5,r6,r7,r8,r9,r10⟩:=HR1.out.facts;have hb1:=hide (below_of_new hbel hg1 (Nat.le_refl _));clear hg1 hs1) | (refine wpList_store_stm (.tmp 6) (.tmp 31) rfl rfl (w.heap.size+1) P.Stm.zero P.Stm.zero rfl rfl HR1.out ?_;intro w2 hs2 hg2;have HS2:=hide hs2;have HB2:=hide (below_of_new hb1.out hg2 (by omega))))
     rw[HN.out]
     exact ret_stm (p:=6) (u:=7) (w.heap.size+1) P.Stm.zero false (by kernel_rfl) rfl rfl HS2.out rfl ⟨rfl,HB2.out⟩
    ·have HN:Hid (P.partsR st l.toList (ws.map ByteArray.toList)=P.partsR (P.partR q l[k] x.toList).1 (l.toList.drop (k+1)) ((ws.map ByteArray.toList).drop (k+1))):=by
      unfold Hid;rw[HP.out,HST.out,HLG.out,HMG.out,hp];rfl
     have HL2:Hid ((P.partR q l[k] x.toList).1.label=st.label):=by unfold Hid;rw[partR_label,HL.out]
     go_wp2_with (first | (go_at_call 189;refine (readPart_any w.heap.size q l[k] x _ HS.out (by rw[HL.out];exact hl0) (by rw[HL.out];exact hl1)).mono ?_;rintro e w1 ⟨rfl,hs1,hg1⟩;rw[hp];have HS1:=hide hs1;have HR1:=hide (HR.out.of_block (hg1.block _ f1 (by simp)));have hb1:=hide (below_of_new hbel hg1 (Nat.le_refl _));clear hg1 hs1))
     go_roundw
     case rel=>exact⟨k+1,_,by omega,by go_num,HL2,HN,HS1,HR1,hb1.out⟩
     case measure=>simp[intOf];omega
   ·have HN:Hid (P.operandsR st l.toList (ws.map ByteArray.toList)=(q,true)):=by
     unfold Hid;rw[HE.out,HP.out,partsR_end _ _ _ _ (by simp;omega)]
    go_wp2_with (first | (refine wpList_load_stm (.tmp 3) rfl rfl w.heap.size q rfl HS.out ?_) | (refine wpList_store_stm (.tmp 6) (.tmp 33) rfl rfl (w.heap.size+1) P.Stm.zero q rfl rfl HR.out ?_;intro w2 hs2 hg2;have HS2:=hide hs2;have HB2:=hide (below_of_new hbel hg2 (by omega))))
    rw[HN.out]
    exact ret_stm (p:=6) (u:=7) (w.heap.size+1) q true (by kernel_rfl) rfl rfl HS2.out rfl ⟨rfl,HB2.out⟩
end Go.Proofs.YtgceflcbckjjiaaGreatDoor
