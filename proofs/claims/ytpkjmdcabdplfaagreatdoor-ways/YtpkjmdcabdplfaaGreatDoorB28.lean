import Derived.Test.YtpkjmdcabdplfaaGreatDoorB27
set_option linter.unusedVariables false
set_option linter.unusedSimpArgs false
namespace Go.Proofs.YtpkjmdcabdplfaaGreatDoor
open Go Go.RowKit
set_option maxRecDepth 100000
theorem isAccA_any (k:Int) (w:World) :
  Calls Tryz.prog 56 #[.int .i64 k] w fun e w'=>e=.returned (.bool (k==0||k==1||k==2||k==3))∧w'=w:=by
 go_enter Tryz.func56,Tryz.ntmps56
 go_wp2
 all_goals go_ret
 all_goals simp[*]
set_option maxHeartbeats 400000 in
theorem isOrd_any (k:Int) (w:World) :
  Calls Tryz.prog 63 #[.int .i64 k] w fun e w'=>e=.returned (.bool (P.isOrd k))∧w'=w:=by
 cases h1:(k==0||k==1||k==2||k==3)
 ·go_enter Tryz.func63,Tryz.ntmps63
  go_wp2_with (first | (go_at_call 56;refine (isAccA_any _ _).mono ?_;rintro e w' ⟨rfl,rfl⟩;rw[h1]))
  go_ret
  refine⟨?_,rfl⟩
  simp[P.isOrd,h1]
 ·go_enter Tryz.func63,Tryz.ntmps63
  go_wp2_with (first | (go_at_call 56;refine (isAccA_any _ _).mono ?_;rintro e w' ⟨rfl,rfl⟩;rw[h1]))
  go_ret
  refine⟨?_,rfl⟩
  simp[P.isOrd,h1]
set_option maxHeartbeats 1600000 in
theorem partA_any (st:P.Stm) (c:UInt8) (w:World) (hS:P.Small st) :
  Calls Tryz.prog 65 #[.agg (stmCells st),.int .u8 (c.toNat:Int)] w fun e w'=>∃ s,e=.returned (.string s)∧Txt 10 s (P.partT st c)∧Below w.heap.size w w':=by
 have hc:c.toNat<256:=UInt8.toNat_lt c
 simp only[stmCells]
 cases h1:((c.toNat:Int)==100)
 rotate_left
 ·have HE:Hid (P.partT st c=P.regT st.dest):=by unfold Hid P.partT;rw[if_pos (show c=100 from (byte_eq c 100 (by omega)).1 h1)]
  go_enter Tryz.func65,Tryz.ntmps65
  go_wp2_with (first | (go_at_call 77;refine (regA_any _ _ hS.d0 hS.d1).mono ?_;rintro e w' ⟨s,rfl,hs,rfl⟩))
  go_ret
  rw[unhide HE]
  exact⟨_,rfl,⟨hs.1,by have:=hs.size;omega⟩,(Below.refl _ _).alloc (Nat.le_refl _) _⟩
 have n1:¬ c=100:=fun e=>by subst e;simp at h1
 cases h2:((c.toNat:Int)==118)
 rotate_left
 ·have HE:Hid (P.partT st c=P.celT st.var):=by unfold Hid P.partT;rw[if_neg n1,if_pos (show c=118 from (byte_eq c 118 (by omega)).1 h2)]
  go_enter Tryz.func65,Tryz.ntmps65
  go_wp2_with (first | (go_at_call 78;refine (varA_any _ _).mono ?_;rintro e w' ⟨s,rfl,hs,rfl⟩))
  go_ret
  rw[unhide HE]
  exact⟨_,rfl,⟨hs.1,by have:=hs.size;omega⟩,(Below.refl _ _).alloc (Nat.le_refl _) _⟩
 have n2:¬ c=118:=fun e=>by subst e;simp at h2
 cases h3:((c.toNat:Int)==97)
 rotate_left
 ·have HE:Hid (P.partT st c=P.opdT st.a):=by unfold Hid P.partT;rw[if_neg n1,if_neg n2,if_pos (show c=97 from (byte_eq c 97 (by omega)).1 h3)]
  go_enter Tryz.func65,Tryz.ntmps65
  go_wp2_with (first | (go_at_call 79;refine (opdA_any st.a _ hS.a0 hS.a1).mono ?_;rintro e w1 ⟨s,rfl,hs,hb⟩))
  go_ret
  rw[unhide HE]
  exact⟨_,rfl,⟨hs.1,by have:=hs.size;omega⟩,((Below.refl _ _).alloc (Nat.le_refl _) _).trans (hb.mono (by simp))⟩
 have n3:¬ c=97:=fun e=>by subst e;simp at h3
 cases h4:((c.toNat:Int)==98)
 rotate_left
 ·have HE:Hid (P.partT st c=P.opdT st.b):=by unfold Hid P.partT;rw[if_neg n1,if_neg n2,if_neg n3,if_pos (show c=98 from (byte_eq c 98 (by omega)).1 h4)]
  go_enter Tryz.func65,Tryz.ntmps65
  go_wp2_with (first | (go_at_call 79;refine (opdA_any st.b _ hS.b0 hS.b1).mono ?_;rintro e w1 ⟨s,rfl,hs,hb⟩))
  go_ret
  rw[unhide HE]
  exact⟨_,rfl,⟨hs.1,by have:=hs.size;omega⟩,((Below.refl _ _).alloc (Nat.le_refl _) _).trans (hb.mono (by simp))⟩
 have n4:¬ c=98:=fun e=>by subst e;simp at h4
 have HE:Hid (P.partT st c=P.labT st.label):=by unfold Hid P.partT;rw[if_neg n1,if_neg n2,if_neg n3,if_neg n4]
 go_enter Tryz.func65,Tryz.ntmps65
 go_wp2_with (first | (go_at_call 61;refine (labA_any _ _ hS.l0 hS.l1).mono ?_;rintro e w' ⟨s,rfl,hs,rfl⟩))
 go_ret
 rw[unhide HE]
 exact⟨_,rfl,⟨hs.1,by have:=hs.size;omega⟩,(Below.refl _ _).alloc (Nat.le_refl _) _⟩
set_option maxHeartbeats 3200000 in
theorem instr_any (st:P.Stm) (w:World) (hS:P.Small st) :
  Calls Tryz.prog 33 #[.agg (stmCells st)] w fun e w'=>∃ s,e=.returned (.string s)∧Txt 80 s (P.instr st)∧Below w.heap.size w w':=by
 cases hk:(st.kind==11)
 rotate_left
 ·have HE:=hide (P.instr_end st hk)
  simp only[stmCells]
  go_enter Tryz.func33,Tryz.ntmps33
  go_wp2_with (first | (go_at_call 61;refine (labA_any _ _ hS.l0 hS.l1).mono ?_;rintro e w' ⟨s,rfl,hs,rfl⟩;have hsz:=hs.size))
  go_ret
  rw[unhide HE]
  refine⟨_,rfl,⟨?_,?_⟩,(Below.refl _ _).alloc (Nat.le_refl _) _⟩
  ·simp[app_toList,lit_toList,hs.1]
  ·simp[lit_size];omega
 have HE:=hide (P.instr_lay st hk)
 have hSt:=hide (StmAt.new w st)
 have hBl:Hid (Below w.heap.size w (w.alloc (.cells (stmCells st) 80))):=(Below.refl _ _).alloc (Nat.le_refl _) _
 cases ho:P.isOrd st.kind
 all_goals
  simp only[stmCells]
  go_enter Tryz.func33,Tryz.ntmps33
  go_wp2_with (first
   | (go_at_call 62;refine (layA_any _ _).mono ?_;rintro e w' ⟨sl,so,rfl,hsl,hso,rfl⟩;have hz1:=hsl.size;have hz2:=hso.size)
   | (go_at_call 63;refine (isOrd_any _ _).mono ?_;rintro e w' ⟨rfl,rfl⟩;rw[ho])
   | (go_at_call 64;refine (sufA_any _ _ _).mono ?_;rintro e w' ⟨ss,rfl,hss,rfl⟩;have hz3:=hss.size))
 ·have HB:Hid (sl.toList=(P.layT st.kind).1++(if P.isOrd st.kind then P.sufO st.order st.scope else [])):=by unfold Hid;rw[ho,hsl.1];simp
  have hz4:sl.size≤40:=by omega
  go_loopw [3,5,6] (fun a b i wr=>∃ k:Nat,∃ ln bt:ByteArray,k≤so.size∧i=.int .i64 k∧a=.string ln∧b=.string bt∧ln.size≤40+k*12∧bt.size≤2∧Hid (ln.toList=(P.layT st.kind).1++(if P.isOrd st.kind then P.sufO st.order st.scope else [])++P.joinT st (so.toList.take k))∧Hid (bt.toList=P.betT (so.toList.take k)) ∧
    Hid (StmAt wr w.heap.size st)∧Hid (Below w.heap.size w wr)) (fun _ _ i _=>so.size-(intOf i).toNat)
  case atStart=>exact⟨0,_,_,Nat.zero_le _,rfl,rfl,rfl,by omega,by simp[lit_size],by unfold Hid;rw[HB.out];simp[P.joinT],by unfold Hid;simp[P.betT,lit_toList],hSt,hBl⟩
  case round =>
   obtain⟨k,ln,bt,hk,rfl,rfl,rfl,hlz,hbz,HL,HT,HS1,HB1⟩:=hrel
   by_cases hlt:k<so.size
   ·have HSn:=hide (take_snoc so k hlt)
    obtain⟨f1,f2,c0,c1,c2,c3,c4,c5,c6,c7,c8,c9,c10⟩:=HS1.out.facts
    go_wp2
    go_region_with (go_at_call 65;refine (partA_any st so[k] _ hS).mono ?_;rintro e w3 ⟨sp,rfl,hsp,hb3⟩;have hz5:=hsp.size;have G3:=hide (HS1.out.drew.below hb3);have B3:=hide ((HB1.out.drew).trans (hb3.mono (by have:=HB1.out.size;simp;omega))))
    all_goals
     go_wp2
     go_roundw
     case rel =>
      refine⟨k+1,_,_,by omega,by go_num,rfl,rfl,?_,by simp[lit_size],?_,?_,G3,B3⟩
      ·simp;omega
      ·unfold Hid;rw[HSn.out,P.joinT_snoc];simp[app_toList,HL.out,HT.out,hsp.1]
      ·unfold Hid;rw[HSn.out];simp[lit_toList,P.betT]
     case measure=>simp[intOf];omega
   ·have hks:k=so.size:=by omega
    have HX:Hid (so.toList.take k=(P.layT st.kind).2):=by unfold Hid;rw[List.take_of_length_le (by rw[size_toList];omega),hso.1]
    go_wp2
    go_ret
    rw[unhide HE]
    refine⟨_,rfl,⟨?_,by omega⟩,HB1.out⟩
    rw[HL.out,HX.out]
 ·have HB:Hid ((sl++ss).toList=(P.layT st.kind).1++(if P.isOrd st.kind then P.sufO st.order st.scope else [])):=by unfold Hid;rw[ho,app_toList,hsl.1,hss.1];simp
  have hz4:(sl++ss).size≤40:=by simp;omega
  go_loopw [3,5,6] (fun a b i wr=>∃ k:Nat,∃ ln bt:ByteArray,k≤so.size∧i=.int .i64 k∧a=.string ln∧b=.string bt∧ln.size≤40+k*12∧bt.size≤2∧Hid (ln.toList=(P.layT st.kind).1++(if P.isOrd st.kind then P.sufO st.order st.scope else [])++P.joinT st (so.toList.take k))∧Hid (bt.toList=P.betT (so.toList.take k)) ∧
    Hid (StmAt wr w.heap.size st)∧Hid (Below w.heap.size w wr)) (fun _ _ i _=>so.size-(intOf i).toNat)
  case atStart=>exact⟨0,_,_,Nat.zero_le _,rfl,rfl,rfl,by omega,by simp[lit_size],by unfold Hid;rw[HB.out];simp[P.joinT],by unfold Hid;simp[P.betT,lit_toList],hSt,hBl⟩
  case round =>
   obtain⟨k,ln,bt,hk,rfl,rfl,rfl,hlz,hbz,HL,HT,HS1,HB1⟩:=hrel
   by_cases hlt:k<so.size
   ·have HSn:=hide (take_snoc so k hlt)
    obtain⟨f1,f2,c0,c1,c2,c3,c4,c5,c6,c7,c8,c9,c10⟩:=HS1.out.facts
    go_wp2
    go_region_with (go_at_call 65;refine (partA_any st so[k] _ hS).mono ?_;rintro e w3 ⟨sp,rfl,hsp,hb3⟩;have hz5:=hsp.size;have G3:=hide (HS1.out.drew.below hb3);have B3:=hide ((HB1.out.drew).trans (hb3.mono (by have:=HB1.out.size;simp;omega))))
    all_goals
     go_wp2
     go_roundw
     case rel =>
      refine⟨k+1,_,_,by omega,by go_num,rfl,rfl,?_,by simp[lit_size],?_,?_,G3,B3⟩
      ·simp;omega
      ·unfold Hid;rw[HSn.out,P.joinT_snoc];simp[app_toList,HL.out,HT.out,hsp.1]
      ·unfold Hid;rw[HSn.out];simp[lit_toList,P.betT]
     case measure=>simp[intOf];omega
   ·have hks:k=so.size:=by omega
    have HX:Hid (so.toList.take k=(P.layT st.kind).2):=by unfold Hid;rw[List.take_of_length_le (by rw[size_toList];omega),hso.1]
    go_wp2
    go_ret
    rw[unhide HE]
    refine⟨_,rfl,⟨?_,by omega⟩,HB1.out⟩
    rw[HL.out,HX.out]
namespace P
theorem write_append (a b:List Thr):write (a++b)=write a++write b:=by
 induction a with
 | nil=>rfl
 | cons t r ih=>simp[write,ih]
theorem write_snoc (l:List Thr) (k:Nat) (h:k<l.length):write (l.take (k+1))=write (l.take k)++writeT l[k]:=by
 rw[List.take_succ_eq_append_getElem h,write_append];simp[write]
theorem writeS_append (a b:List Stm):writeS (a++b)=writeS a++writeS b:=by
 induction a with
 | nil=>rfl
 | cons t r ih=>simp[writeS,ih]
theorem writeS_snoc (l:List Stm) (k:Nat) (h:k<l.length):writeS (l.take (k+1))=writeS (l.take k)++(instr l[k]++[10]):=by
 rw[List.take_succ_eq_append_getElem h,writeS_append];simp[writeS]
end P
set_option maxHeartbeats 3200000 in
theorem write_any (B bt n cap:Nat) (ts:List P.Thr) (w:World) (h:ThreadsAt w B (.slice (some ⟨bt,0,none⟩) n cap) ts) (hn:n=ts.length) (hnb:n<10) (hst:∀ t∈ts,t.stmts.length<10000) (hsm:∀ t∈ts,0≤t.block∧t.block<100∧∀ s∈t.stmts,P.Small s) :
  Calls Tryz.prog 12 #[.agg #[.slice (some ⟨bt,0,none⟩) n cap]] w fun e w'=>∃ s,e=.returned (.string s)∧Txt 10000000 s (P.write ts)∧Below w.heap.size w w':=by
 have HA:=hide h
 have HN:=hide hn
 have HS:=hide hst
 have HM:=hide hsm
 clear h hn hst hsm
 go_enter Tryz.func12,Tryz.ntmps12
 go_wp2
 go_loopw [3,11] (fun a i wr=>∃ k:Nat,∃ s:ByteArray,k≤n∧i=.int .i64 k∧a=.string s∧s.size≤k*1000000∧Hid (s.toList=P.write (ts.take k))∧Below w.heap.size w wr) (fun _ i _=>n-(intOf i).toNat)
 case atStart=>exact⟨0,⟨#[]⟩,Nat.zero_le _,rfl,rfl,by simp[lit_size],by unfold Hid;simp[lit_toList,P.write],(Below.refl _ _).alloc (Nat.le_refl _) _⟩
 case round =>
  obtain⟨k,s,hk,rfl,rfl,hsz,HW,hbel⟩:=hrel
  by_cases hlt:k<n
  ·have hkl:k<ts.length:=by rw[← HN.out];exact hlt
   obtain⟨hbt,sa,sc,c0,c1,c2,ho⟩:=thr_at HA.out HN.out k hkl
   have d0:=(hbel.cell (p:=⟨bt,k*3,none⟩) hbt).trans c0
   have d1:=(hbel.cell (p:=⟨bt,k*3+1,none⟩) hbt).trans c1
   have d2:=(hbel.cell (p:=⟨bt,k*3+2,none⟩) hbt).trans c2
   have hls:=HS.out ts[k] (List.getElem_mem hkl)
   obtain⟨hb0,hb1,hms⟩:=HM.out ts[k] (List.getElem_mem hkl)
   have HMS:=hide hms
   have HX:=hide (P.write_snoc ts k hkl)
   have HO:=hide ho
   generalize hst:ts[k]=t at *
   have hsa:0<t.stmts.length→∃ b,sa=some ⟨b,0,none⟩∧b<w.heap.size:=fun h0=>by
    rcases ho.2 with ⟨e,h0'⟩ | ⟨b',c',cur,e,hb',hg',_⟩
    ·omega
    ·simp only[Value.slice.injEq] at e
     exact⟨b',e.1,(Array.getElem?_eq_some_iff.1 hg').1⟩
   clear hst c0 c1 c2 ho hms
   have hws:w.heap.size≤wr.heap.size:=hbel.size
   have HB1:Hid (Below w.heap.size w (wr.alloc (.cells #[.int .i64 t.block,.int .i64 t.line,.slice sa t.stmts.length sc] 73))):=hbel.alloc hws _
   clear hbel
   go_wp2_with (first | (go_at_call 32;refine (thrA_any t.block _ hb0 hb1).mono ?_;rintro e w' ⟨sn,rfl,hsn,rfl⟩;have zn:=hsn.size))
   go_loopw [3,24] (fun a j w2=>∃ q:Nat,∃ u:ByteArray,q≤t.stmts.length∧j=.int .i64 q∧a=.string u∧u.size≤k*1000000+20+q*81∧Hid (u.toList=P.write (ts.take k)++([46,116,104,114,101,97,100,32]++P.dec t.block++[10])++P.writeS (t.stmts.take q))∧Below w.heap.size w w2) (fun _ j _=>t.stmts.length-(intOf j).toNat)
   case atStart =>
    refine⟨0,_,Nat.zero_le _,rfl,rfl,?_,?_,HB1.out⟩
    ·simp[lit_size];omega
    ·unfold Hid;simp[app_toList,lit_toList,hsn.1,HW.out,P.writeS]
   case round =>
    obtain⟨q,u,hq,rfl,rfl,husz,HU,hbel⟩:=hrel
    by_cases hql:q<t.stmts.length
    ·obtain⟨b,rfl,hblt⟩:=hsa (by omega)
     have hr:=hide (rangeAt_keep (range_stm HO.out rfl q hql) (hbel.block b hblt))
     have hsmq:=HMS.out t.stmts[q] (List.getElem_mem hql)
     have KS:=hide (P.writeS_snoc t.stmts q hql)
     generalize hst:t.stmts[q]=st at hr KS hsmq
     clear hst
     have hws2:=hbel.size
     go_wp2_with (first | (refine wpList_load_at (.tmp 26) rfl rfl b (q*11) st rfl hr.out ?_) | (go_at_call 33;refine (instr_any st _ hsmq).mono ?_;rintro e w3 ⟨si,rfl,hsi,hb3⟩;have zi:=hsi.size))
     go_roundw
     case rel =>
      refine⟨q+1,_,by omega,by go_num,rfl,?_,?_,(hbel.alloc hws2 _).trans (hb3.mono (by simp;omega))⟩
      ·simp[lit_size];omega
      ·unfold Hid;rw[KS.out];simp[app_toList,lit_toList,hsi.1,HU.out]
     case measure=>simp[intOf];omega
    ·have hqq:q=t.stmts.length:=by omega
     subst hqq
     have HT:Hid (t.stmts.take t.stmts.length=t.stmts):=List.take_length
     go_wp2
     go_roundw
     case rel =>
      refine⟨k+1,u,by omega,by go_num,rfl,by omega,?_,hbel⟩
      unfold Hid;rw[HX.out,HU.out,HT.out];simp[P.writeT]
     case measure=>simp[intOf];omega
  ·have hkn:k=n:=by omega
   subst hkn
   have HT:Hid (ts.take k=ts):=List.take_of_length_le (by have:=HN.out;omega)
   go_wp2
   go_ret
   exact⟨s,rfl,⟨by rw[HW.out,HT.out],by omega⟩,hbel⟩
namespace P
end P
theorem kernel_any (s:ByteArray) (w:World) (hs:s.size≤8192) :
  Calls Tryz.prog 9 #[.string s] w fun e w'=>∃ tv,e=.returned (.tuple #[.agg #[tv],.int .i64 (P.kernel s.toList).2.1,.int .i64 (P.kernel s.toList).2.2])∧(∃ a m c,tv=.slice a m c) ∧
   ((P.kernel s.toList).2.1=0→∃ bt tc,tv=.slice (some ⟨bt,0,none⟩) (P.kernel s.toList).1.length tc∧ThreadsAt w' w.heap.size tv (P.kernel s.toList).1∧(P.kernel s.toList).1.length≤4∧(∀ t∈(P.kernel s.toList).1,t.stmts.length<3000)∧∀ t∈(P.kernel s.toList).1,0≤t.block∧t.block<100∧∀ x∈t.stmts,P.Small x)∧Below w.heap.size w w':=by
 unfold P.kernel
 rw[size_toList]
 by_cases h1:2000<s.size
 ·rw[if_pos h1]
  refine (kernel_long s w hs h1).mono ?_
  rintro e w' ⟨rfl,hb⟩
  exact⟨_,rfl,⟨_,_,_,rfl⟩,fun h=>by simp at h,hb⟩
 rw[if_neg h1]
 cases h2:((P.lines s.toList).2 != 0)
 rotate_left
 ·refine (kernel_line2 s w hs (by omega) h2).mono ?_
  rintro e w' ⟨rfl,hb⟩
  exact⟨_,rfl,⟨_,_,_,rfl⟩,fun h=>by simp at h,hb⟩
 simp only[Bool.false_eq_true,if_false]
 cases h3:(P.innerB (P.lines s.toList).1 != 0)
 rotate_left
 ·refine (kernel_inner s w hs (by omega) h2 h3).mono ?_
  rintro e w' ⟨rfl,hb⟩
  exact⟨_,rfl,⟨_,_,_,rfl⟩,fun h=>by simp at h,hb⟩
 simp only[Bool.false_eq_true,if_false]
 cases h4:(P.unevenIn (P.lines s.toList).1 (P.lines s.toList).1 != 0)
 rotate_left
 ·refine (kernel_uneven s w hs (by omega) h2 h3 h4).mono ?_
  rintro e w' ⟨rfl,hb⟩
  exact⟨_,rfl,⟨_,_,_,rfl⟩,fun h=>by simp at h,hb⟩
 simp only[Bool.false_eq_true,if_false]
 cases h5:P.over (P.lines s.toList).1
 rotate_left
 ·refine (kernel_over s w hs (by omega) h2 h3 h4 h5).mono ?_
  rintro e w' ⟨rfl,hb⟩
  exact⟨_,rfl,⟨_,_,_,rfl⟩,fun h=>by simp at h,hb⟩
 ·refine (kernel_ok s w hs (by omega) h2 h3 h4 h5).mono ?_
  rintro e w' ⟨bt,tc,rfl,hth,hb⟩
  obtain⟨_,k2,k3⟩:=P.lines_ok s.toList (by simpa using h2)
  exact⟨_,rfl,⟨_,_,_,rfl⟩,fun _=>⟨bt,tc,rfl,hth,k2,fun t ht=>by have:=k3 t ht;rw[size_toList] at this;omega,P.lines_small s.toList⟩,hb⟩
end Go.Proofs.YtpkjmdcabdplfaaGreatDoor
namespace Go.Proofs.YtpkjmdcabdplfaaGreatDoor
open Go
theorem split_ne (c:UInt8) (x:List UInt8):P.splitAt c x≠[]:=by
 induction x with
 | nil=>simp[P.splitAt]
 | cons a r ih =>
  unfold P.splitAt
  split
  ·simp
  ·split<;>simp
theorem run_eq (xs:List (List UInt8)):∀ (r:P.Rd) (s:R.St) (i:Int),Rel r s→r.line=i→0≤i →
  (P.runLines r xs).1.line=(R.run s i xs).2∧(match (R.run s i xs).1 with
   | none=>(P.runLines r xs).2=false
   | some s'=>(P.runLines r xs).2=true∧Rel (P.runLines r xs).1 s'):=by
 induction xs with
 | nil=>intro r s i hr hi h0;exact⟨hi,rfl,hr⟩
 | cons x xs ih =>
  intro r s i hr hi h0
  have hr':Rel { r with line:=r.line+1 } s:=⟨hr.cnt,hr.few,hr.thr,hr.inn,hr.pos,hr.ths⟩
  simp only[P.runLines,R.run]
  cases hw:P.splitAt 32 x with
  | nil=>exact absurd hw (split_ne 32 x)
  | cons c w =>
   have A:=alike_takes { r with line:=r.line+1 } s (i+1) (R.mkB c) (w.map R.mkB) hr' (by simp only[hi]) (by omega)
   rw[R.mkB_toList,List.map_map,show (ByteArray.toList ∘ R.mkB)=id from funext R.mkB_toList,List.map_id] at A
   simp only[List.map_cons]
   generalize P.takes { r with line:=r.line+1 } (c::w)=p at A ⊢
   obtain⟨A1,A2⟩:=A
   cases hs:R.step s (i+1) (R.mkB c) (w.map R.mkB) with
   | none =>
    rw[hs] at A2
    simp only[] at A2
    simp only[A2,Bool.false_eq_true,if_false]
    exact⟨A1,trivial⟩
   | some s' =>
    rw[hs] at A2
    simp only[A2.1,if_true]
    exact ih _ _ _ A2.2 A1 (by omega)
theorem Flat.cnt {n m:Int} {l:List R.Tree} {ss:List P.Stm} (p:P.Stm→Bool) (q:R.Lh→Bool) (h:Flat n l ss m)
  (hT:∀ st x,Twin st x→q x=p st) (h10:∀ st,st.kind=10→p st=false) (h11:∀ st,st.kind=11→p st=false) (hI:∀ a,q (R.lIf a)=false):P.cnt p ss=R.numL q l:=by
 induction h using Flat.ind with
 | nil=>simp[P.cnt,R.numL_nil]
 | leaf t _ _ ih=>simp[P.cnt,R.numL_nil,R.numL_cons,R.numT,hT _ _ t,ih]
 | node i _ e _ ih1 ih2=>simp[P.cnt,P.cnt_append,R.numL_nil,R.numL_cons,R.numT,h10 _ i.k,h11 _ e.k,hI,ih1,ih2]
theorem bars_cnt (l:List P.Stm):P.bars l=P.cnt (fun s=>s.kind==5) l:=by
 induction l with
 | nil=>rfl
 | cons s r ih=>simp only[P.bars,P.cnt,ih]
def ThrC (n:Int) (ts:List R.Th) (us:List P.Thr) (k:Int):Prop :=
 ∀ M:Int→List R.Th→List P.Thr→Int→Prop,(∀ n:Int,M n [] [] n) →
  (∀ (n m k:Int) (ts:List R.Th) (us:List P.Thr) (t:R.Th) (u:P.Thr),Flat n t.body u.stmts m→u.block=t.block→u.line=t.row→M m ts us k→M n (t::ts) (u::us) k)→M n ts us k
theorem ThrC.nil (n:Int):ThrC n [] [] n:=fun _ h1 _=>h1 n
theorem ThrC.cons {n m k:Int} {ts:List R.Th} {us:List P.Thr} {t:R.Th} {u:P.Thr} (f:Flat n t.body u.stmts m) (b:u.block=t.block) (l:u.line=t.row) (h:ThrC m ts us k):ThrC n (t::ts) (u::us) k :=
 fun M h1 h2=>h2 _ _ _ _ _ _ _ f b l (h M h1 h2)
theorem ThrC.ind {motive:∀ (n:Int) (ts:List R.Th) (us:List P.Thr) (k:Int),ThrC n ts us k→Prop} (nil:∀ n:Int,motive n [] [] n (ThrC.nil n))
  (cons:∀ {n m k:Int} {ts:List R.Th} {us:List P.Thr} {t:R.Th} {u:P.Thr} (f:Flat n t.body u.stmts m) (b:u.block=t.block) (l:u.line=t.row) (h:ThrC m ts us k),motive m ts us k h→motive n (t::ts) (u::us) k (ThrC.cons f b l h))
  {n:Int} {ts:List R.Th} {us:List P.Thr} {k:Int} (h:ThrC n ts us k):motive n ts us k h :=
 (h (fun n ts us k=>∃ h:ThrC n ts us k,motive n ts us k h) (fun n=>⟨_,nil n⟩) (fun _ _ _ _ _ _ _ f b l ⟨h,h'⟩=>⟨ThrC.cons f b l h,cons f b l h h'⟩)).2
theorem ThrC.append {n m k:Int} {ts vs:List R.Th} {us ws:List P.Thr} (h:ThrC n ts us m) (g:ThrC m vs ws k):ThrC n (ts++vs) (us++ws) k:=by
 induction h using ThrC.ind with
 | nil=>simpa using g
 | cons f b l _ ih=>simpa using ThrC.cons f b l (ih g)
theorem Thrs.toC {n k:Int} {ts:List R.Th} {us:List P.Thr} (h:Thrs n ts us k):ThrC n ts us k:=by
 induction h using Thrs.ind with
 | nil=>exact .nil _
 | snoc _ f b l ih=>exact ih.append (.cons f b l (.nil _))
theorem ThrC.tot {n k:Int} {ts:List R.Th} {us:List P.Thr} (p:P.Stm→Bool) (q:R.Lh→Bool) (h:ThrC n ts us k)
  (hT:∀ st x,Twin st x→q x=p st) (h10:∀ st,st.kind=10→p st=false) (h11:∀ st,st.kind=11→p st=false) (hI:∀ a,q (R.lIf a)=false):P.tot p us=R.totT q ts:=by
 induction h using ThrC.ind with
 | nil=>rfl
 | cons f _ _ _ ih=>simp only[P.tot,R.totT,f.cnt p q hT h10 h11 hI,ih]
theorem opIf (a:Int):(R.lIf a).op.toList=[105,102]:=by simp[R.lIf,R.sIf,lit_toList]
theorem within_eq {n k:Int} {ts:List R.Th} {us:List P.Thr} (h:ThrC n ts us k):R.within ts=!P.over us:=by
 have e1:P.tot P.isR us=R.totT R.isR ts:=h.tot _ _ (fun _ _ t=>t.rd) (fun st hk=>by simp[P.isR,P.reads,hk]) (fun st hk=>by simp[P.isR,P.reads,hk]) (fun a=>by simp[R.isR,opIf,R.sLoad,lit_toList,R.lAdd,R.lSwap])
 have e2:P.tot P.isW us=R.totT R.isW ts:=h.tot _ _ (fun _ _ t=>t.wr) (fun st hk=>by simp[P.isW,P.writes,hk]) (fun st hk=>by simp[P.isW,P.writes,hk]) (fun a=>by simp[R.isW,opIf,R.sStore,lit_toList,R.lAdd,R.lSwap])
 have e3:P.tot P.isF us=R.totT R.isF ts:=h.tot _ _ (fun _ _ t=>t.fn) (fun st hk=>by simp[P.isF,hk]) (fun st hk=>by simp[P.isF,hk]) (fun a=>by simp[R.isF,opIf,R.sFence,lit_toList])
 unfold R.within P.over
 rw[e1,e2,e3]
 have d:∀ a b:Int,decide (a≤b)=!decide (b<a):=fun a b=>by
  by_cases h:a≤b
  ·have:¬ b<a:=by omega
   simp[h,this]
  ·have:b<a:=by omega
   simp[h,this]
 rw[d,d,d]
 simp[Bool.not_or]
theorem bars_eq {n m:Int} {l:List R.Tree} {ss:List P.Stm} (h:Flat n l ss m):P.bars ss=R.numL R.isB l:=by
 rw[bars_cnt]
 exact h.cnt _ _ (fun _ _ t=>t.br) (fun st hk=>by simp[hk]) (fun st hk=>by simp[hk]) (fun a=>by simp[R.isB,opIf,R.sBarrier,lit_toList])
namespace P
def firstOf (b:Int):List Thr→Int
 | []=>-1
 | t::r=>if t.block==b then bars t.stmts else firstOf b r
theorem barsOf_first (b:Int) (l:List Thr):barsOf b l=if firstOf b l<0 then 0 else firstOf b l:=by
 induction l with
 | nil=>rfl
 | cons t r ih =>
  simp only[barsOf,firstOf]
  split
  ·have:=(bars_bd t.stmts).1
   rw[if_neg (by omega)]
  ·exact ih
theorem firstOf_lo (b:Int) (l:List Thr):-1≤firstOf b l:=by
 induction l with
 | nil=>simp[firstOf]
 | cons t r ih =>
  simp only[firstOf]
  split
  ·have:=(bars_bd t.stmts).1
   omega
  ·exact ih
theorem firstOf_append (b:Int) (l m:List Thr):firstOf b (l++m)=if firstOf b l<0 then firstOf b m else firstOf b l:=by
 induction l with
 | nil=>rfl
 | cons t r ih =>
  simp only[List.cons_append,firstOf]
  split
  ·have:=(bars_bd t.stmts).1
   rw[if_neg (by omega)]
  ·exact ih
end P
theorem uneven_go {n k:Int} {ts:List R.Th} {us:List P.Thr} (h:ThrC n ts us k):∀ pre:List P.Thr,(∀ u∈us,u.block=0∨u.block=1) →
  P.unevenIn (pre++us) us=R.unevenGo (P.firstOf 0 pre) (P.firstOf 1 pre) ts:=by
 induction h using ThrC.ind with
 | nil=>intro _ _;rfl
 | @cons n m k ts us t u f b l _ ih =>
  intro pre hb
  have hn:=bars_eq f
  have h0:=(P.bars_bd u.stmts).1
  have ih':=ih (pre++[u]) (fun v hv=>hb v (by simp[hv]))
  rw[List.append_assoc,List.singleton_append] at ih'
  have G:P.barsOf u.block (pre++u::us)=P.firstOf u.block (pre++[u]):=by
   rw[P.barsOf_first,P.firstOf_append,P.firstOf_append]
   simp only[P.firstOf,beq_self_eq_true,if_true]
   by_cases hp:P.firstOf u.block pre<0
   ·simp only[if_pos hp];rw[if_neg (by omega)]
   ·simp only[if_neg hp]
  simp only[P.unevenIn,R.unevenGo]
  rw[G,← hn,← b,← l,ih',P.firstOf_append,P.firstOf_append]
  rcases hb u (by simp) with e | e
  ·rw[e,P.firstOf_append]
   simp only[P.firstOf,e,beq_self_eq_true,if_true,show ((0:Int)==1)=false from rfl,Bool.false_eq_true,if_false]
   have e1:(if P.firstOf 1 pre<0 then (-1:Int) else P.firstOf 1 pre)=P.firstOf 1 pre:=by
    have:=P.firstOf_lo 1 pre
    split<;>omega
   rw[e1,bne_comm]
  ·rw[e,P.firstOf_append]
   simp only[P.firstOf,e,beq_self_eq_true,if_true,show ((1:Int)==0)=false from rfl,Bool.false_eq_true,if_false]
   have e1:(if P.firstOf 0 pre<0 then (-1:Int) else P.firstOf 0 pre)=P.firstOf 0 pre:=by
    have:=P.firstOf_lo 0 pre
    split<;>omega
   rw[e1,bne_comm]
theorem step_ne {s s':R.St} {i:Int} {c:ByteArray} {w:List ByteArray} (h:R.step s i c w=some s'):s'.ts≠[]:=by
 have al:∀ (l:List R.Th) x,l≠[]→R.addLast l x≠[]:=fun l x hl=>by
  match l,hl with
  | [],hl=>exact absurd rfl hl
  | [_],_=>simp[R.addLast]
  | _::_::_,_=>simp[R.addLast]
 have pu:∀ (s:R.St) x,s.ts≠[]→(R.put s x).ts≠[]:=fun s x hs=>by
  unfold R.put
  split
  ·exact al _ _ hs
  ·exact hs
 unfold R.step at h
 split at h
 ·unfold R.begins at h
  split at h
  ·split at h
   ·simp at h;rw[← h];simp
   ·simp at h
  ·simp at h
 ·split at h
  ·simp at h
  ·rename_i hne
   have hne:s.ts≠[]:=fun e=>hne (by rw[e];rfl)
   split at h
   ·unfold R.ends at h
    split at h
    ·simp at h
    ·split at h
     ·simp at h;rw[← h];exact pu _ _ hne
     ·simp at h
   ·split at h
    ·unfold R.branch at h
     split at h
     ·split at h
      ·simp at h;rw[← h];exact hne
      ·simp at h
     ·simp at h
    ·unfold R.one at h
     split at h
     ·simp at h;rw[← h];exact pu _ _ hne
     ·simp at h
theorem run_some (xs:List (List UInt8)):∀ (s s':R.St) (i:Int),(R.run s i xs).1=some s'→(R.run s i xs).2=i+xs.length∧(xs≠[]→s'.ts≠[]):=by
 induction xs with
 | nil=>intro s s' i _;exact⟨by simp[R.run],fun h=>absurd rfl h⟩
 | cons x xs ih =>
  intro s s' i h
  simp only[R.run] at h ⊢
  cases hw:(P.splitAt 32 x).map R.mkB with
  | nil=>rw[hw] at h;simp at h
  | cons c w =>
   rw[hw] at h
   simp only[] at h ⊢
   cases hs:R.step s (i+1) c w with
   | none=>rw[hs] at h;simp at h
   | some s2 =>
    rw[hs] at h
    simp only[] at h ⊢
    have:=ih _ _ _ h
    refine⟨by rw[this.1];simp;omega,fun _=>?_⟩
    by_cases hx:xs=[]
    ·subst hx
     simp[R.run] at h
     rw[← h];exact step_ne hs
    ·exact this.2 hx
theorem run_none (xs:List (List UInt8)):∀ (s:R.St) (i:Int),(R.run s i xs).1=none→i<(R.run s i xs).2:=by
 induction xs with
 | nil=>intro s i h;simp[R.run] at h
 | cons x xs ih =>
  intro s i h
  simp only[R.run] at h ⊢
  cases hw:(P.splitAt 32 x).map R.mkB with
  | nil=>simp only[];omega
  | cons c w =>
   rw[hw] at h
   simp only[] at h ⊢
   cases hs:R.step s (i+1) c w with
   | none=>simp only[];omega
   | some s2 =>
    rw[hs] at h
    simp only[] at h ⊢
    have:=ih _ _ h
    omega
theorem Rel.whole {r:P.Rd} {s:R.St} (h:Rel r s) (ho:s.opn=[]):∃ k,ThrC 0 s.ts r.threads k:=by
 rcases h.ths with ⟨h1,h2,_⟩ | ⟨ts,us,t,u,m,k,b,q,h1,h2,h3,h5,h6,h7,h8,h9⟩
 ·exact⟨0,by rw[h1,h2];exact .nil 0⟩
 ·obtain⟨e1,e2,e3⟩:=h6.none ho
  refine⟨k,?_⟩
  rw[h1,h2]
  refine h3.toC.append (.cons ?_ h8 h9 (.nil _))
  rw[h7,e1,List.append_nil];exact h5
theorem uneven_pos (all:List P.Thr) (l:List P.Thr) (h:∀ u∈l,0<u.line):0≤P.unevenIn all l:=by
 induction l with
 | nil=>simp[P.unevenIn]
 | cons t r ih =>
  simp only[P.unevenIn]
  split
  ·have:=h t (by simp);omega
  ·exact ih (fun u hu=>h u (by simp[hu]))
theorem kernel_read (l:List UInt8):(P.kernel l).2=(R.read l).2∧((R.read l).2.1=0→∃ k,ThrC 0 (R.read l).1 (P.kernel l).1 k∧P.innerO (P.kernel l).1=none∧∀ u∈(P.kernel l).1,u.block=0∨u.block=1):=by
 unfold P.kernel R.read
 by_cases hl:2000<l.length
 ·rw[if_pos hl,if_pos hl];exact⟨rfl,fun h=>by simp at h⟩
 rw[if_neg hl,if_neg hl]
 have E:=run_eq (P.splitAt 10 l).dropLast P.Rd.zero R.St.zero 0 rel_zero rfl (by omega)
 have S:=run_some (P.splitAt 10 l).dropLast R.St.zero
 have N:=run_none (P.splitAt 10 l).dropLast R.St.zero 0
 have Z:(P.splitAt 10 l).dropLast=[]→(P.runLines P.Rd.zero (P.splitAt 10 l).dropLast).1.threads=[]:=fun h=>by rw[h];rfl
 unfold P.lines
 generalize P.runLines P.Rd.zero (P.splitAt 10 l).dropLast=q at E Z ⊢
 have S':=fun s'=>S s' 0
 clear S
 generalize R.run R.St.zero 0 (P.splitAt 10 l).dropLast=o at E S' N ⊢
 obtain⟨o,n⟩:=o
 obtain⟨E1,E2⟩:=E
 cases o with
 | none =>
  have:=N rfl
  simp only[] at E1 E2 this ⊢
  have hn:(n != 0)=true:=by simp;omega
  simp only[E2,Bool.false_eq_true,if_false,E1,hn,if_true]
  exact⟨trivial,fun h=>by simp at h⟩
 | some s =>
  obtain⟨s1,s2⟩:=S' s rfl
  simp only[] at E1 E2 s1 ⊢
  obtain⟨E2,E3⟩:=E2
  simp only[E2,if_true]
  have hz:q.1.threads=[] ↔ n=0:=by
   constructor
   ·intro h
    have:s.ts=[]:=List.length_eq_zero_iff.1 (by rw[← E3.thsLen,h];rfl)
    have hx:(P.splitAt 10 l).dropLast=[]:=by
     by_cases hx:(P.splitAt 10 l).dropLast=[]
     ·exact hx
     ·exact absurd this (s2 hx)
    rw[s1,hx];rfl
   ·intro h
    refine Z (List.length_eq_zero_iff.1 ?_)
    omega
  have h0:0≤n:=by omega
  have ho:=E3.opnLen
  have hoz:q.1.opn=[] ↔ s.opn=[]:=by
   constructor
   ·intro h;exact List.length_eq_zero_iff.1 (by rw[← ho,h];rfl)
   ·intro h;exact List.length_eq_zero_iff.1 (by rw[ho,h];rfl)
  by_cases hb:(P.splitAt 10 l).getLast?≠some []∨n=0∨s.opn≠[]
  ·have hb':(P.splitAt 10 l).getLast?≠some []∨q.1.opn≠[]∨q.1.threads=[]:=by
    rcases hb with h | h | h
    ·exact Or.inl h
    ·exact Or.inr (Or.inr (hz.2 h))
    ·exact Or.inr (Or.inl (fun e=>h (hoz.1 e)))
   rw[if_pos hb,if_pos hb']
   have hn:(n+1 != 0)=true:=by simp;omega
   simp only[E1,hn,if_true]
   exact⟨trivial,fun h=>by simp at h⟩
  ·have hb':¬ ((P.splitAt 10 l).getLast?≠some []∨q.1.opn≠[]∨q.1.threads=[]):=by
    rintro (h | h | h)
    ·exact hb (Or.inl h)
    ·exact hb (Or.inr (Or.inr (fun e=>h (hoz.2 e))))
    ·exact hb (Or.inr (Or.inl (hz.1 h)))
   rw[if_neg hb,if_neg hb']
   have hopn:s.opn=[]:=Classical.byContradiction fun h=>hb (Or.inr (Or.inr h))
   obtain⟨k,W⟩:=E3.whole hopn
   have hin:P.innerB q.1.threads=s.inner:=by rw[P.innerO_get,E3.inn]
   have hun:P.unevenIn q.1.threads q.1.threads=R.uneven s.ts:=by
    have:=uneven_go W [] (fun u hu=>(E3.thr u hu).2)
    simpa [P.firstOf,R.uneven] using this
   have hup:0≤R.uneven s.ts:=by rw[← hun];exact uneven_pos _ _ (fun u hu=>(E3.thr u hu).1)
   have hip:0≤s.inner:=by
    rw[E3.inn]
    cases hx:P.innerO q.1.threads with
    | none=>simp
    | some v=>have:=E3.pos v hx;simp;omega
   have hwi:=within_eq W
   simp only[hin,hun,bne_self_eq_false,Bool.false_eq_true,if_false]
   by_cases hi:s.inner=0
   ·rw[hi]
    simp only[bne_self_eq_false,Bool.false_eq_true,if_false,beq_self_eq_true,if_true]
    by_cases hu:R.uneven s.ts=0
    ·rw[hu]
     simp only[bne_self_eq_false,Bool.false_eq_true,if_false,Int.lt_irrefl]
     rw[hwi]
     cases P.over q.1.threads
     ·simp only[Bool.false_eq_true,if_false,Bool.not_false,if_true]
      refine⟨trivial,fun _=>⟨k,W,?_,fun u hu=>(E3.thr u hu).2⟩⟩
      cases hx:P.innerO q.1.threads with
      | none=>rfl
      | some v=>have h5:=E3.pos v hx;have h6:=E3.inn;rw[hx,hi] at h6;simp at h6;omega
     ·simp
    ·have h1:(R.uneven s.ts != 0)=true:=by simpa using hu
     have h2:0<R.uneven s.ts:=by omega
     simp[h1,h2]
   ·have h1:(s.inner != 0)=true:=by simpa using hi
    have h3:(s.inner==0)=false:=by simpa using hi
    have h2:0<s.inner:=by omega
    simp[h1,h2,h3]
end Go.Proofs.YtpkjmdcabdplfaaGreatDoor
