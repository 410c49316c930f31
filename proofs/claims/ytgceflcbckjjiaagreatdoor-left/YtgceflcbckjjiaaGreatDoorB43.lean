import Derived.Test.YtgceflcbckjjiaaGreatDoorB42
set_option linter.unusedVariables false
set_option linter.unusedSimpArgs false
namespace Go.Proofs.YtgceflcbckjjiaaGreatDoor
open Go Go.RowKit
set_option maxRecDepth 100000
theorem ordGo_step (kind:Int) (l:List UInt8) (f o sc:Nat) (hs:sc<2):P.ordGo kind l (f+1) (2*o+sc)=if P.allows kind (o:Int)&&l==P.sufO (o:Int) (sc:Int) then some ((o:Int),(sc:Int)) else P.ordGo kind l f (2*o+sc+1):=by
 rw[P.ordGo]
 have h1:(2*o+sc) / 2=o:=by omega
 have h2:(2*o+sc) % 2=sc:=by omega
 rw[h1,h2]
set_option maxHeartbeats 1600000 in
theorem readOrd_any (g:Nat) (st:P.Stm) (s:ByteArray) (w:World) (h:StmAt w g st) :
  Calls Tryz.prog 166 #[.pointer (some ⟨g,0,none⟩),.string s] w fun e w'=>e=.returned (.bool (P.readOrd st s.toList).2)∧StmAt w' g (P.readOrd st s.toList).1∧w.grownBy w' (some g):=by
 obtain⟨glt,gfr,g0,g1,g2,g3,g4,g5,g6,g7,g8,g9,g10⟩:=h.facts
 have HA:=hide h
 clear h
 cases ho:P.isOrd st.kind
 ·have HE:Hid (P.readOrd st s.toList=(st,s.toList==[])):=by unfold Hid P.readOrd;rw[ho];rfl
  cases hs:s.toList.isEmpty
  all_goals
   have hs2:(s.toList==[])=s.toList.isEmpty:=by cases s.toList<;>rfl
   go_enter Tryz.func166,Tryz.ntmps166
   go_wp2_with (first | (go_at_call 86;refine (isOrd_any _ _).mono ?_;rintro e w' ⟨rfl,rfl⟩;rw[ho]))
   go_ret
   rw[HE.out,hs2,hs];exact⟨rfl,HA.out,grown_refl _ _⟩
 ·have HE:Hid (P.readOrd st s.toList=match P.ordGo st.kind s.toList 12 0 with | some (o,sc)=>({ st with order:=o,scope:=sc },true) | none=>(st,false)):=by unfold Hid P.readOrd;rw[ho];rfl
  go_enter Tryz.func166,Tryz.ntmps166
  go_wp2_with (first | (go_at_call 86;refine (isOrd_any _ _).mono ?_;rintro e w' ⟨rfl,rfl⟩;rw[ho]))
  go_loop [5] (fun i=>∃ o:Nat,o≤6∧i=.int .i64 o∧Hid (P.ordGo st.kind s.toList 12 0=P.ordGo st.kind s.toList (12-2*o) (2*o))) (fun i=>6-(intOf i).toNat)
  case atStart=>exact⟨0,by omega,rfl,rfl⟩
  case round =>
   obtain⟨o,hoo,rfl,HO⟩:=hrel
   by_cases hlt:o<6
   ·have hin:(o:Int)≤5:=by omega
    go_wp2
    go_loop [6] (fun i=>∃ sc:Nat,sc≤2∧i=.int .i64 sc∧Hid (P.ordGo st.kind s.toList 12 0=P.ordGo st.kind s.toList (12-2*o-sc) (2*o+sc))) (fun i=>2-(intOf i).toNat)
    case atStart=>exact⟨0,by omega,rfl,HO⟩
    case round =>
     obtain⟨sc,hsc,rfl,HS⟩:=hrel
     by_cases hls:sc<2
     ·have his:(sc:Int)≤1:=by omega
      have HST:Hid (P.ordGo st.kind s.toList 12 0=if P.allows st.kind (o:Int)&&s.toList==P.sufO (o:Int) (sc:Int) then some ((o:Int),(sc:Int)) else P.ordGo st.kind s.toList (12-2*o-(sc+1)) (2*o+(sc+1))):=by
       unfold Hid;rw[HS.out,show 12-2*o-sc=(12-2*o-(sc+1))+1 by omega,ordGo_step _ _ _ _ _ hls];rfl
      cases ha:P.allows st.kind (o:Int)
      ·have HN:Hid (P.ordGo st.kind s.toList 12 0=P.ordGo st.kind s.toList (12-2*o-(sc+1)) (2*o+(sc+1))):=by unfold Hid;rw[HST.out,ha];rfl
       clear HST HS
       go_wp2_with (first | (go_at_call 188;refine (allows_any _ _ _).mono ?_;rintro e w' ⟨rfl,rfl⟩;rw[ha]))
       go_round
       case rel=>exact⟨sc+1,by omega,by go_num,HN⟩
       case measure=>simp[intOf];omega
      ·cases hb:(s.toList==P.sufO (o:Int) (sc:Int))
       ·have HN:Hid (P.ordGo st.kind s.toList 12 0=P.ordGo st.kind s.toList (12-2*o-(sc+1)) (2*o+(sc+1))):=by unfold Hid;rw[HST.out,ha,hb];rfl
        have HB:=hide hb
        clear HST HS hb
        go_wp2_with (first | (go_at_call 188;refine (allows_any _ _ _).mono ?_;rintro e w' ⟨rfl,rfl⟩;rw[ha]) | (go_at_call 87;refine (sufA_any _ _ _).mono ?_;rintro e w' ⟨t,rfl,ht,rfl⟩;have hq:(s.toList==t.toList)=false:=(by rw[ht.1];exact HB.out)))
        go_round
        case rel=>exact⟨sc+1,by omega,by go_num,HN⟩
        case measure=>simp[intOf];omega
       ·have HN:Hid (P.readOrd st s.toList=({ st with order:=(o:Int),scope:=(sc:Int) },true)):=by unfold Hid;rw[HE.out,HST.out,ha,hb];rfl
        have HB:=hide hb
        have HF:=hide ((HA.out.setOrder (o:Int)).setScope (sc:Int))
        clear HST HS hb
        go_wp2_with (first | (go_at_call 188;refine (allows_any _ _ _).mono ?_;rintro e w' ⟨rfl,rfl⟩;rw[ha]) | (go_at_call 87;refine (sufA_any _ _ _).mono ?_;rintro e w' ⟨t,rfl,ht,rfl⟩;have hq:(s.toList==t.toList)=true:=(by rw[ht.1];exact HB.out)))
        go_ret
        rw[HN.out];exact⟨rfl,HF.out,grown_setCell (grown_setCell (grown_refl _ _) _ _) _ _⟩
     ·have hs2:sc=2:=by omega
      have HN:Hid (P.ordGo st.kind s.toList 12 0=P.ordGo st.kind s.toList (12-2*(o+1)) (2*(o+1))):=by
       unfold Hid;rw[HS.out,hs2,show 12-2*o-2=12-2*(o+1) by omega,show 2*o+2=2*(o+1) by omega]
      clear HS
      go_wp2
      go_round
      case rel=>exact⟨o+1,by omega,by go_num,HN⟩
      case measure=>simp[intOf];omega
   ·have ho6:o=6:=by omega
    have HN:Hid (P.readOrd st s.toList=(st,false)):=by unfold Hid;rw[HE.out,HO.out,ho6];rfl
    go_wp2
    go_ret
    rw[HN.out];exact⟨rfl,HA.out,grown_refl _ _⟩
set_option maxHeartbeats 3200000 in
theorem readPart_any (g:Nat) (st:P.Stm) (c:UInt8) (s:ByteArray) (w:World) (h:StmAt w g st) (hl0:0≤st.label) (hl1:st.label<100) :
  Calls Tryz.prog 189 #[.pointer (some ⟨g,0,none⟩),.int .u8 (c.toNat:Int),.string s] w fun e w'=>e=.returned (.bool (P.partR st c s.toList).2)∧StmAt w' g (P.partR st c s.toList).1∧w.grownBy w' (some g):=by
 obtain⟨glt,gfr,g0,g1,g2,g3,g4,g5,g6,g7,g8,g9,g10⟩:=h.facts
 have HA:=hide h
 clear h
 cases h1:((c.toNat:Int)==100)
 rotate_left
 ·have hc:c=100:=(byte_eq c 100 (by omega)).1 h1
  have HE:Hid (P.partR st c s.toList=({ st with dest:=(P.readReg s.toList).1 },(P.readReg s.toList).2)):=by unfold Hid P.partR;rw[if_pos hc]
  have HF:Hid (StmAt (w.setCell ⟨g,2,none⟩ (.int .i64 (P.readReg s.toList).1)) g { st with dest:=(P.readReg s.toList).1 }):=HA.out.set _ 2 _ rfl
  clear hc
  go_enter Tryz.func189,Tryz.ntmps189
  go_wp2_with (first | (go_at_call 209;refine (readReg_any s _).mono ?_;rintro e w' ⟨rfl,rfl⟩))
  go_ret
  rw[HE.out];exact⟨rfl,HF.out,grown_setCell (grown_refl _ _) _ _⟩
 have n1:¬ c=100:=fun e=>by subst e;simp at h1
 cases h2:((c.toNat:Int)==118)
 rotate_left
 ·have hc:c=118:=(byte_eq c 118 (by omega)).1 h2
  have HE:Hid (P.partR st c s.toList=({ st with var:=(P.readVar s.toList).1 },(P.readVar s.toList).2)):=by unfold Hid P.partR;rw[if_neg n1,if_pos hc]
  have HF:=hide (HA.out.setVar (P.readVar s.toList).1)
  clear hc n1
  go_enter Tryz.func189,Tryz.ntmps189
  go_wp2_with (first | (go_at_call 210;refine (readVar_any s _).mono ?_;rintro e w' ⟨rfl,rfl⟩))
  go_ret
  rw[HE.out];exact⟨rfl,HF.out,grown_setCell (grown_refl _ _) _ _⟩
 have n2:¬ c=118:=fun e=>by subst e;simp at h2
 cases h3:((c.toNat:Int)==97)
 rotate_left
 ·have hc:c=97:=(byte_eq c 97 (by omega)).1 h3
  have HE:Hid (P.partR st c s.toList=({ st with a:=(P.readOpd s.toList).1 },(P.readOpd s.toList).2)):=by unfold Hid P.partR;rw[if_neg n1,if_neg n2,if_pos hc]
  clear hc n1 n2
  go_enter Tryz.func189,Tryz.ntmps189
  go_wp2_with (first | (go_at_call 211;refine (readOpd_any s _).mono ?_;rintro e w1 ⟨rfl,hb1⟩;have HA1:=hide (HA.out.below hb1);have HF:=hide ((HA1.out.setA (P.readOpd s.toList).1).alloc (.cells #[.bool (P.readOpd s.toList).1.reg,.int .i64 (P.readOpd s.toList).1.n] 94));obtain⟨glt,gfr,g0,g1,g2,g3,g4,g5,g6,g7,g8,g9,g10⟩:=HA1.out.facts))
  go_ret
  rw[HE.out];exact⟨rfl,HF.out,grown_alloc (grown_setCell (grown_setCell (grown_of_below hb1 _) _ _) _ _) _⟩
 have n3:¬ c=97:=fun e=>by subst e;simp at h3
 cases h4:((c.toNat:Int)==98)
 rotate_left
 ·have hc:c=98:=(byte_eq c 98 (by omega)).1 h4
  have HE:Hid (P.partR st c s.toList=({ st with b:=(P.readOpd s.toList).1 },(P.readOpd s.toList).2)):=by unfold Hid P.partR;rw[if_neg n1,if_neg n2,if_neg n3,if_pos hc]
  clear hc n1 n2 n3
  go_enter Tryz.func189,Tryz.ntmps189
  go_wp2_with (first | (go_at_call 211;refine (readOpd_any s _).mono ?_;rintro e w1 ⟨rfl,hb1⟩;have HA1:=hide (HA.out.below hb1);have HF:=hide ((HA1.out.setB (P.readOpd s.toList).1).alloc (.cells #[.bool (P.readOpd s.toList).1.reg,.int .i64 (P.readOpd s.toList).1.n] 94));obtain⟨glt,gfr,g0,g1,g2,g3,g4,g5,g6,g7,g8,g9,g10⟩:=HA1.out.facts))
  go_ret
  rw[HE.out];exact⟨rfl,HF.out,grown_alloc (grown_setCell (grown_setCell (grown_of_below hb1 _) _ _) _ _) _⟩
 have n4:¬ c=98:=fun e=>by subst e;simp at h4
 have HE:Hid (P.partR st c s.toList=(st,s.toList==P.labT st.label)):=by unfold Hid P.partR;rw[if_neg n1,if_neg n2,if_neg n3,if_neg n4]
 clear n1 n2 n3 n4
 cases hb:(s.toList==P.labT st.label)
 all_goals
  have HB:=hide hb
  clear hb
  go_enter Tryz.func189,Tryz.ntmps189
  go_wp2_with (first | (go_at_call 84;refine (labA_any _ _ hl0 hl1).mono ?_;rintro e w' ⟨t,rfl,ht,rfl⟩;have hq:=(show (s.toList==t.toList)=(s.toList==P.labT st.label) by rw[ht.1]).trans HB.out))
  go_ret
  rw[HE.out,HB.out];exact⟨rfl,HA.out,grown_refl _ _⟩
theorem partR_label (st:P.Stm) (c:UInt8) (l:List UInt8):(P.partR st c l).1.label=st.label:=by
 unfold P.partR
 split
 ·rfl
 split
 ·rfl
 split
 ·rfl
 split<;>rfl
theorem partsR_step (st:P.Stm) (cs:List UInt8) (ws:List (List UInt8)) (k:Nat) (h1:k<cs.length) (h2:k<ws.length) :
  P.partsR st (cs.drop k) (ws.drop k)=if (P.partR st cs[k] ws[k]).2 then P.partsR (P.partR st cs[k] ws[k]).1 (cs.drop (k+1)) (ws.drop (k+1)) else (P.Stm.zero,false):=by
 rw[List.drop_eq_getElem_cons h1,List.drop_eq_getElem_cons h2];rfl
theorem partsR_end (st:P.Stm) (cs:List UInt8) (ws:List (List UInt8)) (k:Nat) (h:ws.length≤k):P.partsR st (cs.drop k) (ws.drop k)=(st,true):=by
 rw[List.drop_of_length_le (l:=ws) h]
 cases cs.drop k<;>rfl
theorem WordsAt.below' {w w':World} {b off:Nat} {ws:List ByteArray} (h:WordsAt w b off ws) (hb:Below w.heap.size w w'):WordsAt w' b off ws:=h.below hb
theorem zero_new (w:World):StmAt (w.alloc (.cells #[.int .i64 0,.int .i64 0,.int .i64 0,.int .i64 0,.bool false,.int .i64 0,.bool false,.int .i64 0,.int .i64 0,.int .i64 0,.int .i64 0] 96)) w.heap.size P.Stm.zero:=StmAt.new w P.Stm.zero
set_option maxHeartbeats 3200000 in
theorem readOps_any (st:P.Stm) (l:ByteArray) (v:Value) (ws:List ByteArray) (w:World) (h:OpsAt w v ws) (hl0:0≤st.label) (hl1:st.label<100) (hz:l.size≤3) (hn:ws.length≤8193) :
  Calls Tryz.prog 167 #[.agg (stmCells st),.string l,v] w fun e w'=>e=.returned (stmVal (P.operandsR st l.toList (ws.map ByteArray.toList)))∧Below w.heap.size w w':=by
 obtain⟨a,cap,rfl,hcap,hw⟩:=h
 have HW:=hide hw
 clear hw
 cases hlen:((l.size:Int) != (ws.length:Int))
 rotate_left
 ·have HE:Hid (P.operandsR st l.toList (ws.map ByteArray.toList)=(P.Stm.zero,false)):=by
   unfold Hid P.operandsR
   have:(l.toList.length != (ws.map ByteArray.toList).length)=true:=by
    rw[size_toList,List.length_map,bne_iff_ne];rw[bne_iff_ne] at hlen;intro e;exact hlen (by rw[e])
   rw[this];rfl
  simp only[stmCells]
  go_enter Tryz.func167,Tryz.ntmps167
  go_wp2
  rw[HE.out]
  refine ret_stm (p:=6) (u:=7) (w.heap.size+1) P.Stm.zero false (by kernel_rfl) rfl rfl ?_ rfl ⟨rfl,((Below.refl _ _).alloc (Nat.le_refl _) _).alloc (by simp) _⟩
  have h9:StmAt ((w.alloc (.cells (stmCells st) 96)).alloc (.cells (stmCells P.Stm.zero) 96)) (w.heap.size+1) P.Stm.zero:=by
   have:=StmAt.new (w.alloc (.cells (stmCells st) 96)) P.Stm.zero
   simpa using this
  exact h9
 ·have hlw:l.size=ws.length:=by have h9:=hlen;simp at h9;omega
  have HLW:=hide hlw
  have HE:Hid (P.operandsR st l.toList (ws.map ByteArray.toList)=P.partsR st l.toList (ws.map ByteArray.toList)):=by
   unfold Hid P.operandsR
   have:(l.toList.length != (ws.map ByteArray.toList).length)=false:=by rw[size_toList,List.length_map,hlw];simp
   rw[this];rfl
  have hs0:Hid (StmAt ((w.alloc (.cells (stmCells st) 96)).alloc (.cells (stmCells P.Stm.zero) 96)) w.heap.size st):=(StmAt.new w st).alloc _
  have hr0:Hid (StmAt ((w.alloc (.cells (stmCells st) 96)).alloc (.cells (stmCells P.Stm.zero) 96)) (w.heap.size+1) P.Stm.zero):=by
   unfold Hid
   have:=StmAt.new (w.alloc (.cells (stmCells st) 96)) P.Stm.zero
   simpa using this
  have hb0:Hid (Below w.heap.size w ((w.alloc (.cells (stmCells st) 96)).alloc (.cells (stmCells P.Stm.zero) 96))):=((Below.refl _ _).alloc (Nat.le_refl _) _).alloc (by simp) _
  clear hlw
  simp only[stmCells]
  go_enter Tryz.func167,Tryz.ntmps167
  go_wp2
  go_loopw [19] (fun i wr=>∃ (k:Nat) (q:P.Stm),k≤ws.length∧i=.int .i64 k∧Hid (q.label=st.label)∧Hid (P.partsR st l.toList (ws.map ByteArray.toList)=P.partsR q (l.toList.drop k) ((ws.map ByteArray.toList).drop k))∧Hid (StmAt wr w.heap.size q)∧Hid (StmAt wr (w.heap.size+1) P.Stm.zero)∧Below w.heap.size w wr) (fun i _=>ws.length-(intOf i).toNat)
  case atStart=>exact⟨0,st,Nat.zero_le _,rfl,rfl,rfl,hs0,hr0,hb0.out⟩
  case round =>
   obtain⟨k,q,hk,rfl,HL,HP,HS,HR,hbel⟩:=hrel
   have hws:=hbel.size
   obtain⟨f1,f2,r0,r1,r2,r3,r4,r5,r6,r7,r8,r9,r10⟩:=HR.out.facts
   by_cases hlt:k<ws.length
   ·have hin:(k:Int)<(ws.length:Int):=by omega
    obtain⟨b,rfl,hwa,hblt⟩:=HW.out (by intro e;rw[e] at hlt;simp at hlt)
    have hck:=(hwa.below' hbel) k ws[k] (by simp[hlt])
    simp only[Nat.zero_add] at hck
    have hkl:k<l.size:=by rw[HLW.out];exact hlt
    have hki:(k:Int)<(l.size:Int):=by omega
    have HST:=hide (partsR_step q l.toList (ws.map ByteArray.toList) k (by rw[size_toList];exact hkl) (by simpa using hlt))
    have HLG:=hide (toList_get l k hkl)
    have hmg:(ws.map ByteArray.toList)[k]'(by simpa using hlt)=ws[k].toList:=by simp
    have HMG:=hide hmg
    generalize hx:ws[k]=x at *
    clear hx hmg hwa
    cases hp:(P.partR q l[k] x.toList).2
    ·have HN:Hid (P.operandsR st l.toList (ws.map ByteArray.toList)=(P.Stm.zero,false)):=by
      unfold Hid;rw[HE.out,HP.out,HST.out,HLG.out,HMG.out,hp];rfl
     go_wp2_with (first | (go_at_call 189;refine (readPart_any w.heap.size q l[k] x _ HS.out (by rw[HL.out];exact hl0) (by rw[HL.out];exact hl1)).mono ?_;rintro e w1 ⟨rfl,hs1,hg1⟩;rw[hp];have HR1:=hide (HR.out.of_block (hg1.block _ f1 (by simp)));obtain⟨f1,f2,r0,r1,r2,r3,r4,r5,r6,r7,r8,r9,r10⟩:=HR1.out.facts;have hb1:=hide (below_of_new hbel hg1 (Nat.le_refl _));clear hg1 hs1) | (refine wpList_store_stm (.tmp 6) (.tmp 31) rfl rfl (w.heap.size+1) P.Stm.zero P.Stm.zero rfl rfl HR1.out ?_;intro w2 hs2 hg2;have HS2:=hide hs2;have HB2:=hide (below_of_new hb1.out hg2 (by omega))))
     rw[HN.out]
     exact ret_stm (p:=6) (u:=7) (w.heap.size+1) P.Stm.zero false (by kernel_rfl) rfl rfl HS2.out rfl ⟨rfl,HB2.out⟩
    ·have HN:Hid (P.partsR st l.toList (ws.map ByteArray.toList)=P.partsR (P.partR q l[k] x.toList).1 (l.toList.drop (k+1)) ((ws.map ByteArray.toList).drop (k+1))):=by
      unfold Hid;rw[HP.out,HST.out,HLG.out,HMG.out,hp];rfl
     have HL2:Hid ((P.partR q l[k] x.toList).1.label=st.label):=by unfold Hid;rw[partR_label,HL.out]
     go_wp2_with (first | (go_at_call 189;refine (readPart_any w.heap.size q l[k] x _ HS.out (by rw[HL.out];exact hl0) (by rw[HL.out];exact hl1)).mono ?_;rintro e w1 ⟨rfl,hs1,hg1⟩;rw[hp];have HS1:=hide hs1;have HR1:=hide (HR.out.of_block (hg1.block _ f1 (by simp)));have hb1:=hide (below_of_new hbel hg1 (Nat.le_refl _));clear hg1 hs1))
     go_roundw
     case rel=>exact⟨k+1,_,by omega,by go_num,HL2,HN,HS1,HR1,hb1.out⟩
     case measure=>simp[intOf];omega
   ·have HN:Hid (P.operandsR st l.toList (ws.map ByteArray.toList)=(q,true)):=by
     unfold Hid;rw[HE.out,HP.out,partsR_end _ _ _ _ (by simp;omega)]
    go_wp2_with (first | (refine wpList_load_stm (.tmp 3) rfl rfl w.heap.size q rfl HS.out ?_) | (refine wpList_store_stm (.tmp 6) (.tmp 33) rfl rfl (w.heap.size+1) P.Stm.zero q rfl rfl HR.out ?_;intro w2 hs2 hg2;have HS2:=hide hs2;have HB2:=hide (below_of_new hbel hg2 (by omega))))
    rw[HN.out]
    exact ret_stm (p:=6) (u:=7) (w.heap.size+1) q true (by kernel_rfl) rfl rfl HS2.out rfl ⟨rfl,HB2.out⟩
theorem pre_take (L f:List UInt8) (h:L.length≤f.length):L.isPrefixOf f=(f.take L.length==L):=by
 cases h1:(f.take L.length==L)
 ·cases h2:L.isPrefixOf f
  ·rfl
  ·rw[List.isPrefixOf_iff_prefix,List.prefix_iff_eq_take] at h2
   rw[← h2] at h1;simp at h1
 ·rw[List.isPrefixOf_iff_prefix,List.prefix_iff_eq_take]
  simpa using (by simpa using h1:f.take L.length=L).symm
theorem pre_short (L f:List UInt8) (h:f.length<L.length):L.isPrefixOf f=false:=by
 cases h2:L.isPrefixOf f
 ·rfl
 ·rw[List.isPrefixOf_iff_prefix] at h2
  have:=h2.length_le;omega
def kindS (k next:Int):P.Stm:=if k==10 then { P.Stm.zero with kind:=k,label:=next } else { P.Stm.zero with kind:=k }
theorem stmGo_step (first:List UInt8) (ops:List (List UInt8)) (next:Int) (f:Nat) (k:Int):P.stmGo first ops next (f+1) k =
  if (P.layT k).1.isPrefixOf first then (if (P.readOrd (kindS k next) (first.drop (P.layT k).1.length)).2 then P.operandsR (P.readOrd (kindS k next) (first.drop (P.layT k).1.length)).1 (P.layT k).2 ops else P.stmGo first ops next f (k+1)) else P.stmGo first ops next f (k+1):=by
 rw[P.stmGo];rfl
theorem readOrd_label (st:P.Stm) (l:List UInt8):(P.readOrd st l).1.label=st.label:=by
 unfold P.readOrd
 split
 ·split<;>rfl
 ·rfl
theorem kindS_label (k next:Int) (h0:0≤next) (h1:next<100):0≤(kindS k next).label∧(kindS k next).label<100:=by
 unfold kindS;split
 ·exact⟨h0,h1⟩
 ·exact⟨by simp[P.Stm.zero],by simp[P.Stm.zero]⟩
theorem kindS_new1 (w:World) (k next:Int) (h:(k==10)=true):StmAt (w.alloc (.cells #[.int .i64 k,.int .i64 0,.int .i64 0,.int .i64 0,.bool false,.int .i64 0,.bool false,.int .i64 0,.int .i64 0,.int .i64 0,.int .i64 next] 96)) w.heap.size (kindS k next):=by
 have e:kindS k next={ P.Stm.zero with kind:=k,label:=next }:=by unfold kindS;rw[h];rfl
 rw[e];exact StmAt.new w { P.Stm.zero with kind:=k,label:=next }
theorem kindS_new2 (w:World) (k next:Int) (h:(k==10)=false):StmAt (w.alloc (.cells #[.int .i64 k,.int .i64 0,.int .i64 0,.int .i64 0,.bool false,.int .i64 0,.bool false,.int .i64 0,.int .i64 0,.int .i64 0,.int .i64 0] 96)) w.heap.size (kindS k next):=by
 have e:kindS k next={ P.Stm.zero with kind:=k }:=by unfold kindS;rw[h];rfl
 rw[e];exact StmAt.new w { P.Stm.zero with kind:=k }
theorem OpsAt.below {w w':World} {v:Value} {ws:List ByteArray} (h:OpsAt w v ws) (hb:Below w.heap.size w w'):OpsAt w' v ws:=by
 obtain⟨a,cap,e,hc,hw⟩:=h
 refine⟨a,cap,e,hc,fun hne=>?_⟩
 obtain⟨g,e1,h1,h2⟩:=hw hne
 exact⟨g,e1,h1.below hb,Nat.lt_of_lt_of_le h2 hb.size⟩
set_option maxHeartbeats 6400000 in
theorem stmA_any (s:ByteArray) (next:Int) (w:World) (hs:s.size≤8192) (h0:0≤next) (h1:next<100) :
  Calls Tryz.prog 141 #[.string s,.int .i64 next] w fun e w'=>e=.returned (stmVal (P.stmA s.toList next))∧Below w.heap.size w w':=by
 go_enter Tryz.func141,Tryz.ntmps141
 go_wp2_with (first | (go_at_call 165;refine (cut_any s _ hs).mono ?_;rintro e w1 ⟨f,v,ws,rfl,hf,hws,hops,hfz,hwl,hb1⟩;obtain⟨va,vc,rfl,hvc,hvw⟩:=hops))
 have HOPS:Hid (OpsAt w1 (.slice va ws.length vc) ws):=⟨va,vc,rfl,hvc,hvw⟩
 have HF:=hide hf
 have HWS:=hide hws
 have HZ1:Hid (StmAt w1 w.heap.size P.Stm.zero):=(zero_new w).below hb1
 have HB1:Hid (Below w.heap.size w w1):=((Below.refl _ _).alloc (Nat.le_refl _) _).trans (hb1.mono (by simp))
 have hw1:w.heap.size<w1.heap.size:=HZ1.out.lt
 have HE:Hid (P.stmA s.toList next=P.stmGo f.toList (ws.map ByteArray.toList) next 11 0):=by unfold Hid P.stmA;rw[hf,hws]
 clear hf hws hvw hb1
 go_loopw [8] (fun i wr=>∃ k:Nat,k≤11∧i=.int .i64 k∧Hid (P.stmA s.toList next=P.stmGo f.toList (ws.map ByteArray.toList) next (11-k) (k:Int))∧Hid (StmAt wr w.heap.size P.Stm.zero)∧Below w1.heap.size w1 wr) (fun i _=>11-(intOf i).toNat)
 case atStart=>exact⟨0,by omega,rfl,HE,HZ1,Below.refl _ _⟩
 case round =>
  obtain⟨k,hk,rfl,HG,HZ,hbel⟩:=hrel
  have hws:=hbel.size
  obtain⟨f1,f2,r0,r1,r2,r3,r4,r5,r6,r7,r8,r9,r10⟩:=HZ.out.facts
  by_cases hlt:k<11
  ·have hin:(k:Int)≤10:=by omega
   have HST:Hid (P.stmA s.toList next=if (P.layT (k:Int)).1.isPrefixOf f.toList then (if (P.readOrd (kindS k next) (f.toList.drop (P.layT (k:Int)).1.length)).2 then P.operandsR (P.readOrd (kindS k next) (f.toList.drop (P.layT (k:Int)).1.length)).1 (P.layT (k:Int)).2 (ws.map ByteArray.toList) else P.stmGo f.toList (ws.map ByteArray.toList) next (11-(k+1)) ((k+1:Nat):Int)) else P.stmGo f.toList (ws.map ByteArray.toList) next (11-(k+1)) ((k+1:Nat):Int)):=by
    unfold Hid;rw[HG.out,show 11-k=(11-(k+1))+1 by omega,stmGo_step];rfl
   have HLN:Hid (f.toList.length=f.size):=size_toList f
   clear HG
   by_cases hA:f.size<(P.layT (k:Int)).1.length
   ·have HN:Hid (P.stmA s.toList next=P.stmGo f.toList (ws.map ByteArray.toList) next (11-(k+1)) ((k+1:Nat):Int)):=by
     unfold Hid;rw[HST.out,pre_short _ _ (by rw[HLN.out];exact hA)];rfl
    go_wp2_with (first | (go_at_call 85;refine (layA_any _ _).mono ?_;rintro e w' ⟨b,t,rfl,hb,ht,hw'⟩;have hw':=hw'.symm;subst hw';have hbz:b.size=(P.layT (k:Int)).1.length:=(by rw[← size_toList,hb.1]);have hc:(f.size:Int)<(b.size:Int):=(by omega)))
    go_roundw
    case rel=>exact⟨k+1,by omega,by go_num,HN,HZ,hbel⟩
    case measure=>simp[intOf];omega
   cases hB:(f.toList.take (P.layT (k:Int)).1.length==(P.layT (k:Int)).1)
   ·have HN:Hid (P.stmA s.toList next=P.stmGo f.toList (ws.map ByteArray.toList) next (11-(k+1)) ((k+1:Nat):Int)):=by
     unfold Hid;rw[HST.out,pre_take _ _ (by rw[HLN.out];omega),hB];rfl
    have HB:=hide hB
    clear hB
    go_wp2_with (first | (go_at_call 85;refine (layA_any _ _).mono ?_;rintro e w' ⟨b,t,rfl,hb,ht,hw'⟩;have hw':=hw'.symm;subst hw';have hbz:b.size=(P.layT (k:Int)).1.length:=(by rw[← size_toList,hb.1]);have hc:¬ (f.size:Int)<(b.size:Int):=(by omega);have hcd:decide ((f.size:Int)<(b.size:Int))=false:=decide_eq_false hc;have hci:(b.size:Int)≤(f.size:Int):=(by omega);have hq:((f.extract 0 b.size).toList==b.toList)=false:=(by rw[extract_toList,hb.1,hbz,List.drop_zero];exact HB.out);have hsl:∀ wx,(Instr.slice 9 (.string f) none (some (.int .i64 (b.size:Int))) none).run Tryz.prog wx=.ok (.string (f.extract 0 b.size)) wx:=(fun wx=>by rw[run_slice_string_to_if _ _ _ _ _ Tryz.underlying9,if_pos (by omega)];rfl);clear hbz))
    go_roundw
    case rel=>exact⟨k+1,by omega,by go_num,HN,HZ,hbel⟩
    case measure=>simp[intOf];omega
   ·have HPRE:Hid ((P.layT (k:Int)).1.isPrefixOf f.toList=true):=by unfold Hid;rw[pre_take _ _ (by rw[HLN.out];omega),hB]
    have HB:=hide hB
    clear hB
    have HKL:=hide (kindS_label (k:Int) next h0 h1)
    cases ho:(P.readOrd (kindS k next) (f.toList.drop (P.layT (k:Int)).1.length)).2
    ·have HN:Hid (P.stmA s.toList next=P.stmGo f.toList (ws.map ByteArray.toList) next (11-(k+1)) ((k+1:Nat):Int)):=by
      unfold Hid;rw[HST.out,HPRE.out,ho];rfl
     cases h10:((k:Int)==10)
     all_goals
      go_wp2_with (first | (go_at_call 85;refine (layA_any _ _).mono ?_;rintro e w' ⟨b,t,rfl,hb,ht,hw'⟩;have hw':=hw'.symm;subst hw';have hbz:b.size=(P.layT (k:Int)).1.length:=(by rw[← size_toList,hb.1]);have hc:¬ (f.size:Int)<(b.size:Int):=(by omega);have hcd:decide ((f.size:Int)<(b.size:Int))=false:=decide_eq_false hc;have hci:(b.size:Int)≤(f.size:Int):=(by omega);have hq:((f.extract 0 b.size).toList==b.toList)=true:=(by rw[extract_toList,hb.1,hbz,List.drop_zero];exact HB.out);have hsl:∀ wx,(Instr.slice 9 (.string f) none (some (.int .i64 (b.size:Int))) none).run Tryz.prog wx=.ok (.string (f.extract 0 b.size)) wx:=(fun wx=>by rw[run_slice_string_to_if _ _ _ _ _ Tryz.underlying9,if_pos (by omega)];rfl);have HRST:Hid ((f.extract b.size f.size).toList=f.toList.drop (P.layT (k:Int)).1.length):=(by unfold Hid;rw[extract_toList,hbz,List.take_of_length_le (by rw[HLN.out];exact Nat.le_refl _)]);have hsl2:∀ wx,(Instr.slice 9 (.string f) (some (.int .i64 (b.size:Int))) none none).run Tryz.prog wx=.ok (.string (f.extract b.size f.size)) wx:=(fun wx=>by rw[run_slice_string_from_if _ _ _ _ _ Tryz.underlying9,if_pos (by omega)];rfl);clear hbz) | (go_at_call 166;refine (readOrd_any wr.heap.size (kindS (k:Int) next) (f.extract b.size f.size) _ (by first | exact kindS_new1 _ _ _ h10 | exact kindS_new2 _ _ _ h10)).mono ?_;rw[HRST.out,ho];rintro e w2 ⟨rfl,hs2,hg2⟩;have HS2:=hide hs2;have HZ2:=hide ((HZ.out.alloc _).of_block (hg2.block w.heap.size (by simp;omega) (by simp;omega)));have HB2:=hide (below_of_new (hbel.alloc hws _) hg2 hws);have hsz2:=hg2.size;clear hs2 hg2))
      go_roundw
      case rel=>exact⟨k+1,by omega,by go_num,HN,HZ2,HB2.out⟩
      case measure=>simp[intOf];omega
    ·have HN:Hid (P.stmA s.toList next=P.operandsR (P.readOrd (kindS k next) (f.toList.drop (P.layT (k:Int)).1.length)).1 (P.layT (k:Int)).2 (ws.map ByteArray.toList)):=by
      unfold Hid;rw[HST.out,HPRE.out,ho];rfl
     have HLB:Hid ((P.readOrd (kindS k next) (f.toList.drop (P.layT (k:Int)).1.length)).1.label=(kindS k next).label):=readOrd_label _ _
     generalize hst:(P.readOrd (kindS k next) (f.toList.drop (P.layT (k:Int)).1.length)).1=st at *
     cases h10:((k:Int)==10)
     all_goals
      go_wp2_with (first | (go_at_call 85;refine (layA_any _ _).mono ?_;rintro e w' ⟨b,t,rfl,hb,ht,hw'⟩;have hw':=hw'.symm;subst hw';have hbz:b.size=(P.layT (k:Int)).1.length:=(by rw[← size_toList,hb.1]);have hc:¬ (f.size:Int)<(b.size:Int):=(by omega);have hcd:decide ((f.size:Int)<(b.size:Int))=false:=decide_eq_false hc;have hci:(b.size:Int)≤(f.size:Int):=(by omega);have hq:((f.extract 0 b.size).toList==b.toList)=true:=(by rw[extract_toList,hb.1,hbz,List.drop_zero];exact HB.out);have hsl:∀ wx,(Instr.slice 9 (.string f) none (some (.int .i64 (b.size:Int))) none).run Tryz.prog wx=.ok (.string (f.extract 0 b.size)) wx:=(fun wx=>by rw[run_slice_string_to_if _ _ _ _ _ Tryz.underlying9,if_pos (by omega)];rfl);have HRST:Hid ((f.extract b.size f.size).toList=f.toList.drop (P.layT (k:Int)).1.length):=(by unfold Hid;rw[extract_toList,hbz,List.take_of_length_le (by rw[HLN.out];exact Nat.le_refl _)]);have hsl2:∀ wx,(Instr.slice 9 (.string f) (some (.int .i64 (b.size:Int))) none none).run Tryz.prog wx=.ok (.string (f.extract b.size f.size)) wx:=(fun wx=>by rw[run_slice_string_from_if _ _ _ _ _ Tryz.underlying9,if_pos (by omega)];rfl);clear hbz) | (go_at_call 166;refine (readOrd_any wr.heap.size (kindS (k:Int) next) (f.extract b.size f.size) _ (by first | exact kindS_new1 _ _ _ h10 | exact kindS_new2 _ _ _ h10)).mono ?_;rw[HRST.out,ho];rintro e w2 ⟨rfl,hs2,hg2⟩;have HS2:=hide (hst ▸ hs2);have HZ2:=hide ((HZ.out.alloc _).of_block (hg2.block w.heap.size (by simp;omega) (by simp;omega)));have HB2:=hide (below_of_new (hbel.alloc hws _) hg2 hws);have hsz2:=hg2.size;clear hs2 hg2) | (refine wpList_load_stm (.tmp 11) rfl rfl wr.heap.size st rfl HS2.out ?_) | (go_at_call 167;refine (readOps_any st t _ ws _ (HOPS.out.below HB2.out) (by rw[HLB.out];exact HKL.out.1) (by rw[HLB.out];exact HKL.out.2) ht.2 hwl).mono ?_;rw[ht.1];rintro e w3 ⟨rfl,hb3⟩;simp only[stmVal];have HZ3:=hide (HZ2.out.below hb3);have HB3:=hide (HB2.out.trans (hb3.mono (by have:=HB2.out.size;omega)))) | (refine wpList_store_stm (.tmp 4) (.tmp 56) rfl rfl w.heap.size P.Stm.zero (P.operandsR st (P.layT (k:Int)).2 (ws.map ByteArray.toList)).1 rfl rfl HZ3.out ?_;intro w4 hs4 hg4;have HS4:=hide hs4;have HB4:=hide (below_of_new (HB1.out.trans (HB3.out.mono (Nat.le_of_lt hw1))) hg4 (Nat.le_refl _))))
      rw[HN.out]
      exact ret_stm (p:=4) (u:=5) w.heap.size _ _ (by kernel_rfl) rfl rfl HS4.out rfl ⟨rfl,HB4.out⟩
  ·have h11:k=11:=by omega
   have HN:Hid (P.stmA s.toList next=(P.Stm.zero,false)):=by unfold Hid;rw[HG.out,h11];rfl
   have HB2:=hide (HB1.out.trans (hbel.mono (Nat.le_of_lt hw1)))
   go_wp2_with (first | (refine wpList_store_stm (.tmp 4) (.tmp 58) rfl rfl w.heap.size P.Stm.zero P.Stm.zero rfl rfl HZ.out ?_;intro w4 hs4 hg4;have HS4:=hide hs4;have HB4:=hide (below_of_new HB2.out hg4 (Nat.le_refl _))))
   rw[HN.out]
   exact ret_stm (p:=4) (u:=5) w.heap.size _ _ (by kernel_rfl) rfl rfl HS4.out rfl ⟨rfl,HB4.out⟩
end Go.Proofs.YtgceflcbckjjiaaGreatDoor
