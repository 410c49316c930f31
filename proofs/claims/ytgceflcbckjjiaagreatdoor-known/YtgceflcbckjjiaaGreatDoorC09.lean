import Derived.Test.YtgceflcbckjjiaaGreatDoorC08
set_option linter.unusedVariables false
set_option linter.unusedSimpArgs false
set_option maxHeartbeats 12800000
namespace Go.Proofs.YtgceflcbckjjiaaGreatDoor
open Go Go.RowKit
set_option maxRecDepth 100000
theorem zET (k:Int) (w:World) :
  Calls Tryz.prog 79 #[.int .i64 k] w fun e w'=>e=.returned (.bool (k==0||k==1||k==2||k==3))∧w'=w:=by
 go_enter Tryz.func79,Tryz.ntmps79
 go_wp2
 all_goals go_ret
 all_goals simp[*]
theorem zEp (k:Int) (w:World) :
  Calls Tryz.prog 86 #[.int .i64 k] w fun e w'=>e=.returned (.bool (P.isOrd k))∧w'=w:=by
 cases h1:(k==0||k==1||k==2||k==3)
 ·go_enter Tryz.func86,Tryz.ntmps86
  go_wp2_with (first | (go_at_call 79;refine (zET _ _).mono ?_;rintro e w' ⟨rfl,rfl⟩;rw[h1]))
  go_ret
  refine⟨?_,rfl⟩
  simp[P.isOrd,h1]
 ·go_enter Tryz.func86,Tryz.ntmps86
  go_wp2_with (first | (go_at_call 79;refine (zET _ _).mono ?_;rintro e w' ⟨rfl,rfl⟩;rw[h1]))
  go_ret
  refine⟨?_,rfl⟩
  simp[P.isOrd,h1]
theorem zGi (st:P.Stm) (c:UInt8) (w:World) (hS:P.Small st) :
  Calls Tryz.prog 88 #[.agg (zAb st),.int .u8 (c.toNat:Int)] w fun e w'=>∃ s,e=.returned (.string s)∧Txt 10 s (P.partT st c)∧Below w.heap.size w w':=by
 have hc:c.toNat<256:=UInt8.toNat_lt c
 simp only[zAb]
 cases h1:((c.toNat:Int)==100)
 rotate_left
 ·have HE:Hid (P.partT st c=P.regT st.dest):=by unfold Hid P.partT;rw[if_pos (show c=100 from (zCM c 100 (by omega)).1 h1)]
  go_enter Tryz.func88,Tryz.ntmps88
  go_wp2_with (first | (go_at_call 135;refine (zEg _ _ hS.d0 hS.d1).mono ?_;rintro e w' ⟨s,rfl,hs,rfl⟩))
  go_ret
  rw[zAD HE]
  exact⟨_,rfl,⟨hs.1,by have:=hs.size;omega⟩,(Below.refl _ _).alloc (Nat.le_refl _) _⟩
 have n1:¬ c=100:=fun e=>by subst e;simp at h1
 cases h2:((c.toNat:Int)==118)
 rotate_left
 ·have HE:Hid (P.partT st c=P.celT st.var):=by unfold Hid P.partT;rw[if_neg n1,if_pos (show c=118 from (zCM c 118 (by omega)).1 h2)]
  go_enter Tryz.func88,Tryz.ntmps88
  go_wp2_with (first | (go_at_call 136;refine (zFq _ _).mono ?_;rintro e w' ⟨s,rfl,hs,rfl⟩))
  go_ret
  rw[zAD HE]
  exact⟨_,rfl,⟨hs.1,by have:=hs.size;omega⟩,(Below.refl _ _).alloc (Nat.le_refl _) _⟩
 have n2:¬ c=118:=fun e=>by subst e;simp at h2
 cases h3:((c.toNat:Int)==97)
 rotate_left
 ·have HE:Hid (P.partT st c=P.opdT st.a):=by unfold Hid P.partT;rw[if_neg n1,if_neg n2,if_pos (show c=97 from (zCM c 97 (by omega)).1 h3)]
  go_enter Tryz.func88,Tryz.ntmps88
  go_wp2_with (first | (go_at_call 137;refine (zEh st.a _ hS.a0 hS.a1).mono ?_;rintro e w1 ⟨s,rfl,hs,hb⟩))
  go_ret
  rw[zAD HE]
  exact⟨_,rfl,⟨hs.1,by have:=hs.size;omega⟩,((Below.refl _ _).alloc (Nat.le_refl _) _).trans (hb.mono (by simp))⟩
 have n3:¬ c=97:=fun e=>by subst e;simp at h3
 cases h4:((c.toNat:Int)==98)
 rotate_left
 ·have HE:Hid (P.partT st c=P.opdT st.b):=by unfold Hid P.partT;rw[if_neg n1,if_neg n2,if_neg n3,if_pos (show c=98 from (zCM c 98 (by omega)).1 h4)]
  go_enter Tryz.func88,Tryz.ntmps88
  go_wp2_with (first | (go_at_call 137;refine (zEh st.b _ hS.b0 hS.b1).mono ?_;rintro e w1 ⟨s,rfl,hs,hb⟩))
  go_ret
  rw[zAD HE]
  exact⟨_,rfl,⟨hs.1,by have:=hs.size;omega⟩,((Below.refl _ _).alloc (Nat.le_refl _) _).trans (hb.mono (by simp))⟩
 have n4:¬ c=98:=fun e=>by subst e;simp at h4
 have HE:Hid (P.partT st c=P.labT st.label):=by unfold Hid P.partT;rw[if_neg n1,if_neg n2,if_neg n3,if_neg n4]
 go_enter Tryz.func88,Tryz.ntmps88
 go_wp2_with (first | (go_at_call 84;refine (zCN _ _ hS.l0 hS.l1).mono ?_;rintro e w' ⟨s,rfl,hs,rfl⟩))
 go_ret
 rw[zAD HE]
 exact⟨_,rfl,⟨hs.1,by have:=hs.size;omega⟩,(Below.refl _ _).alloc (Nat.le_refl _) _⟩
theorem zIZ (st:P.Stm) (w:World) (hS:P.Small st) :
  Calls Tryz.prog 45 #[.agg (zAb st)] w fun e w'=>∃ s,e=.returned (.string s)∧Txt 80 s (P.instr st)∧Below w.heap.size w w':=by
 cases hk:(st.kind==11)
 rotate_left
 ·have HE:=zAa (P.instr_end st hk)
  simp only[zAb]
  go_enter Tryz.func45,Tryz.ntmps45
  go_wp2_with (first | (go_at_call 84;refine (zCN _ _ hS.l0 hS.l1).mono ?_;rintro e w' ⟨s,rfl,hs,rfl⟩;have hsz:=hs.size))
  go_ret
  rw[zAD HE]
  refine⟨_,rfl,⟨?_,?_⟩,(Below.refl _ _).alloc (Nat.le_refl _) _⟩
  ·simp[zAt,zAf,hs.1]
  ·simp[zAR];omega
 have HE:=zAa (P.instr_lay st hk)
 have hSt:=zAa (zAv.new w st)
 have hBl:Hid (Below w.heap.size w (w.alloc (.cells (zAb st) 96))):=(Below.refl _ _).alloc (Nat.le_refl _) _
 cases ho:P.isOrd st.kind
 all_goals
  simp only[zAb]
  go_enter Tryz.func45,Tryz.ntmps45
  go_wp2_with (first
   | (go_at_call 85;refine (zDr _ _).mono ?_;rintro e w' ⟨sl,so,rfl,hsl,hso,rfl⟩;have hz1:=hsl.size;have hz2:=hso.size)
   | (go_at_call 86;refine (zEp _ _).mono ?_;rintro e w' ⟨rfl,rfl⟩;rw[ho])
   | (go_at_call 87;refine (zFs _ _ _).mono ?_;rintro e w' ⟨ss,rfl,hss,rfl⟩;have hz3:=hss.size))
 ·have HB:Hid (sl.toList=(P.layT st.kind).1++(if P.isOrd st.kind then P.sufO st.order st.scope else [])):=by unfold Hid;rw[ho,hsl.1];simp
  have hz4:sl.size≤40:=by omega
  go_loopw [3,5,6] (fun a b i wr=>∃ k:Nat,∃ ln bt:ByteArray,k≤so.size∧i=.int .i64 k∧a=.string ln∧b=.string bt∧ln.size≤40+k*12∧bt.size≤2∧Hid (ln.toList=(P.layT st.kind).1++(if P.isOrd st.kind then P.sufO st.order st.scope else [])++P.joinT st (so.toList.take k))∧Hid (bt.toList=P.betT (so.toList.take k)) ∧
    Hid (zAv wr w.heap.size st)∧Hid (Below w.heap.size w wr)) (fun _ _ i _=>so.size-(intOf i).toNat)
  case atStart=>exact⟨0,_,_,Nat.zero_le _,rfl,rfl,rfl,by omega,by simp[zAR],by unfold Hid;rw[HB.out];simp[P.joinT],by unfold Hid;simp[P.betT,zAf],hSt,hBl⟩
  case round =>
   obtain⟨k,ln,bt,hk,rfl,rfl,rfl,hlz,hbz,HL,HT,HS1,HB1⟩:=hrel
   by_cases hlt:k<so.size
   ·have HSn:=zAa (zCy so k hlt)
    obtain⟨f1,f2,c0,c1,c2,c3,c4,c5,c6,c7,c8,c9,c10⟩:=HS1.out.facts
    go_wp2
    go_region_with (go_at_call 88;refine (zGi st so[k] _ hS).mono ?_;rintro e w3 ⟨sp,rfl,hsp,hb3⟩;have hz5:=hsp.size;have G3:=zAa (HS1.out.drew.below hb3);have B3:=zAa ((HB1.out.drew).trans (hb3.mono (by have:=HB1.out.size;simp;omega))))
    all_goals
     go_wp2
     go_roundw
     case rel =>
      refine⟨k+1,_,_,by omega,by go_num,rfl,rfl,?_,by simp[zAR],?_,?_,G3,B3⟩
      ·simp;omega
      ·unfold Hid;rw[HSn.out,P.zQh];simp[zAt,HL.out,HT.out,hsp.1]
      ·unfold Hid;rw[HSn.out];simp[zAf,P.betT]
     case measure=>simp[intOf];omega
   ·have hks:k=so.size:=by omega
    have HX:Hid (so.toList.take k=(P.layT st.kind).2):=by unfold Hid;rw[List.take_of_length_le (by rw[zAr];omega),hso.1]
    go_wp2
    go_ret
    rw[zAD HE]
    refine⟨_,rfl,⟨?_,by omega⟩,HB1.out⟩
    rw[HL.out,HX.out]
 ·have HB:Hid ((sl++ss).toList=(P.layT st.kind).1++(if P.isOrd st.kind then P.sufO st.order st.scope else [])):=by unfold Hid;rw[ho,zAt,hsl.1,hss.1];simp
  have hz4:(sl++ss).size≤40:=by simp;omega
  go_loopw [3,5,6] (fun a b i wr=>∃ k:Nat,∃ ln bt:ByteArray,k≤so.size∧i=.int .i64 k∧a=.string ln∧b=.string bt∧ln.size≤40+k*12∧bt.size≤2∧Hid (ln.toList=(P.layT st.kind).1++(if P.isOrd st.kind then P.sufO st.order st.scope else [])++P.joinT st (so.toList.take k))∧Hid (bt.toList=P.betT (so.toList.take k)) ∧
    Hid (zAv wr w.heap.size st)∧Hid (Below w.heap.size w wr)) (fun _ _ i _=>so.size-(intOf i).toNat)
  case atStart=>exact⟨0,_,_,Nat.zero_le _,rfl,rfl,rfl,by omega,by simp[zAR],by unfold Hid;rw[HB.out];simp[P.joinT],by unfold Hid;simp[P.betT,zAf],hSt,hBl⟩
  case round =>
   obtain⟨k,ln,bt,hk,rfl,rfl,rfl,hlz,hbz,HL,HT,HS1,HB1⟩:=hrel
   by_cases hlt:k<so.size
   ·have HSn:=zAa (zCy so k hlt)
    obtain⟨f1,f2,c0,c1,c2,c3,c4,c5,c6,c7,c8,c9,c10⟩:=HS1.out.facts
    go_wp2
    go_region_with (go_at_call 88;refine (zGi st so[k] _ hS).mono ?_;rintro e w3 ⟨sp,rfl,hsp,hb3⟩;have hz5:=hsp.size;have G3:=zAa (HS1.out.drew.below hb3);have B3:=zAa ((HB1.out.drew).trans (hb3.mono (by have:=HB1.out.size;simp;omega))))
    all_goals
     go_wp2
     go_roundw
     case rel =>
      refine⟨k+1,_,_,by omega,by go_num,rfl,rfl,?_,by simp[zAR],?_,?_,G3,B3⟩
      ·simp;omega
      ·unfold Hid;rw[HSn.out,P.zQh];simp[zAt,HL.out,HT.out,hsp.1]
      ·unfold Hid;rw[HSn.out];simp[zAf,P.betT]
     case measure=>simp[intOf];omega
   ·have hks:k=so.size:=by omega
    have HX:Hid (so.toList.take k=(P.layT st.kind).2):=by unfold Hid;rw[List.take_of_length_le (by rw[zAr];omega),hso.1]
    go_wp2
    go_ret
    rw[zAD HE]
    refine⟨_,rfl,⟨?_,by omega⟩,HB1.out⟩
    rw[HL.out,HX.out]
namespace P
theorem write_append (a b:List Thr):write (a++b)=write a++write b:=by
 induction a with
 | nil=>rfl
 | cons t r ih=>simp[write,ih]
theorem write_snoc (l:List Thr) (k:Nat) (h:k<l.length):write (l.take (k+1))=write (l.take k)++writeT l[k]:=by
 rw[List.take_succ_eq_append_getElem h,write_append];simp[write]
theorem writeS_append (a b:List Stm):zQW (a++b)=zQW a++zQW b:=by
 induction a with
 | nil=>rfl
 | cons t r ih=>simp[zQW,ih]
theorem writeS_snoc (l:List Stm) (k:Nat) (h:k<l.length):zQW (l.take (k+1))=zQW (l.take k)++(instr l[k]++[10]):=by
 rw[List.take_succ_eq_append_getElem h,writeS_append];simp[zQW]
end P
theorem zDs (B bt n cap:Nat) (ts:List P.Thr) (w:World) (h:zAn w B (.slice (some ⟨bt,0,none⟩) n cap) ts) (hn:n=ts.length) (hnb:n<10) (hst:∀ t∈ts,t.stmts.length<10000) (hsm:∀ t∈ts,0≤t.block∧t.block<100∧∀ s∈t.stmts,P.Small s) :
  Calls Tryz.prog 27 #[.agg #[.slice (some ⟨bt,0,none⟩) n cap]] w fun e w'=>∃ s,e=.returned (.string s)∧Txt 10000000 s (P.write ts)∧Below w.heap.size w w':=by
 have HA:=zAa h
 have HN:=zAa hn
 have HS:=zAa hst
 have HM:=zAa hsm
 clear h hn hst hsm
 go_enter Tryz.func27,Tryz.ntmps27
 go_wp2
 go_loopw [3,11] (fun a i wr=>∃ k:Nat,∃ s:ByteArray,k≤n∧i=.int .i64 k∧a=.string s∧s.size≤k*1000000∧Hid (s.toList=P.write (ts.take k))∧Below w.heap.size w wr) (fun _ i _=>n-(intOf i).toNat)
 case atStart=>exact⟨0,⟨#[]⟩,Nat.zero_le _,rfl,rfl,by simp[zAR],by unfold Hid;simp[zAf,P.write],(Below.refl _ _).alloc (Nat.le_refl _) _⟩
 case round =>
  obtain⟨k,s,hk,rfl,rfl,hsz,HW,hbel⟩:=hrel
  by_cases hlt:k<n
  ·have hkl:k<ts.length:=by rw[← HN.out];exact hlt
   obtain⟨hbt,sa,sc,c0,c1,c2,ho⟩:=zCp HA.out HN.out k hkl
   have d0:=cfL hbel hbt c0
   have d1:=cfL hbel hbt c1
   have d2:=cfL hbel hbt c2
   have hls:=HS.out ts[k] (List.getElem_mem hkl)
   obtain⟨hb0,hb1,hms⟩:=HM.out ts[k] (List.getElem_mem hkl)
   have HMS:=zAa hms
   have HX:=zAa (P.write_snoc ts k hkl)
   have HO:=zAa ho
   generalize hst:ts[k]=t at *
   have hsa:0<t.stmts.length→∃ b,sa=some ⟨b,0,none⟩∧b<w.heap.size:=fun h0=>by
    rcases ho.2 with ⟨e,h0'⟩ | ⟨b',c',cur,e,hb',hg',_⟩
    ·omega
    ·simp only[Value.slice.injEq] at e
     exact⟨b',e.1,(Array.getElem?_eq_some_iff.1 hg').1⟩
   clear hst c0 c1 c2 ho hms
   have hws:w.heap.size≤wr.heap.size:=hbel.size
   have HB1:Hid (Below w.heap.size w (wr.alloc (.cells #[.int .i64 t.block,.int .i64 t.line,.slice sa t.stmts.length sc] 88))):=hbel.alloc hws _
   clear hbel
   go_wp2_with (first | (go_at_call 44;refine (zFr t.block _ hb0 hb1).mono ?_;rintro e w' ⟨sn,rfl,hsn,rfl⟩;have zn:=hsn.size))
   go_loopw [3,24] (fun a j w2=>∃ q:Nat,∃ u:ByteArray,q≤t.stmts.length∧j=.int .i64 q∧a=.string u∧u.size≤k*1000000+20+q*81∧Hid (u.toList=P.write (ts.take k)++([46,116,104,114,101,97,100,32]++P.dec t.block++[10])++P.zQW (t.stmts.take q))∧Below w.heap.size w w2) (fun _ j _=>t.stmts.length-(intOf j).toNat)
   case atStart =>
    refine⟨0,_,Nat.zero_le _,rfl,rfl,?_,?_,HB1.out⟩
    ·simp[zAR];omega
    ·unfold Hid;simp[zAt,zAf,hsn.1,HW.out,P.zQW]
   case round =>
    obtain⟨q,u,hq,rfl,rfl,husz,HU,hbel⟩:=hrel
    by_cases hql:q<t.stmts.length
    ·obtain⟨b,rfl,hblt⟩:=hsa (by omega)
     have hr:=zAa (zAy (zBd HO.out rfl q hql) (hbel.block b hblt))
     have hsmq:=HMS.out t.stmts[q] (List.getElem_mem hql)
     have KS:=zAa (P.writeS_snoc t.stmts q hql)
     generalize hst:t.stmts[q]=st at hr KS hsmq
     clear hst
     have hws2:=hbel.size
     go_wp2_with (first | (refine zAj (.tmp 26) rfl rfl b (q*11) st rfl hr.out ?_) | (go_at_call 45;refine (zIZ st _ hsmq).mono ?_;rintro e w3 ⟨si,rfl,hsi,hb3⟩;have zi:=hsi.size))
     go_roundw
     case rel =>
      refine⟨q+1,_,by omega,by go_num,rfl,?_,?_,(hbel.alloc hws2 _).trans (hb3.mono (by simp;omega))⟩
      ·simp[zAR];omega
      ·unfold Hid;rw[KS.out];simp[zAt,zAf,hsi.1,HU.out]
     case measure=>simp[intOf];omega
    ·have hqq:q=t.stmts.length:=by omega
     subst hqq
     have HT:Hid (t.stmts.take t.stmts.length=t.stmts):=List.take_length
     go_wp2
     go_roundw
     case rel =>
      refine⟨k+1,u,by omega,by go_num,rfl,by omega,?_,hbel⟩
      unfold Hid;rw[HX.out,HU.out,HT.out];simp[P.writeT]
     case measure=>simp[intOf];omega
  ·have hkn:k=n:=by omega
   subst hkn
   have HT:Hid (ts.take k=ts):=List.take_of_length_le (by have:=HN.out;omega)
   go_wp2
   go_ret
   exact⟨s,rfl,⟨by rw[HW.out,HT.out],by omega⟩,hbel⟩
end Go.Proofs.YtgceflcbckjjiaaGreatDoor
namespace Go.Proofs.YtgceflcbckjjiaaGreatDoor
open Go
namespace P
def zPW (v:Int) (st:Stm):Bool:=isAcc st.kind&&st.var==v
def zOc (ts:List Thr) (b v:Int):Bool:=ts.any fun t=>t.block==b&&t.stmts.any (zPW v)
def bothReach (ts:List Thr) (v:Int):Bool:=zOc ts 0 v&&zOc ts 1 v
def ofOne (ts:List Thr):Bool:=match ts with
 | []=>true
 | t::r=>(t::r).all fun u=>u.block==t.block
def stays (ts:List Thr) (st:Stm):Bool:=if st.kind==4 then ofOne ts else isAcc st.kind&&!bothReach ts st.var
def zPX (ts:List Thr) (st:Stm):Stm:=if stays ts st then { st with scope:=0 } else st
def zOw (ts:List Thr) (ss:List Stm):List Stm:=ss.map (zPX ts)
def ofReg (k:Int):Bool:=isReg k||k==10||k==11
def zOL (n:Int):List Stm→Bool
 | []=>true
 | s::r=>if s.kind==5 then zOL (n+1) r else if n==1&&!ofReg s.kind then false else zOL n r
def idleB (ts:List Thr) (b:Int):Bool:=ts.all fun t=>t.block != b||zOL 0 t.stmts
def zOl (n:Int):List Stm→List Stm
 | []=>[]
 | s::r=>if s.kind==5 then (if n+1==2 then zOl (n+1) r else s::zOl (n+1) r) else s::zOl n r
def zQu (a b:Stm):Bool:=a.kind==4&&b.kind==4&&(a.order==5||b.order==4)&&(a.scope==1||b.scope==0)
def covO (p:Option Stm) (s:Stm):Bool:=match p with
 | none=>false
 | some q=>zQu q s
def zOg (p:Option Stm):List Stm→List Stm
 | []=>[]
 | s::r=>if covO p s then zOg p r else s::zOg (some s) r
def zQB (ts:List Thr) (b:Int) (ss:List Stm):List Stm:=if idleB ts b then zOl 0 ss else ss
def trimT (ts:List Thr) (t:Thr):Thr:={ t with stmts:=zOg none (zQB ts t.block (zOw ts t.stmts)) }
def zOM (ts:List Thr):List Thr:=ts.map (trimT ts)
def needs (st:Stm) (shared:Bool):Bool:=st.order==0||(shared&&(st.scope==0||st.order==4))
def zPy (ts:List Thr) (v:Int):Bool:=ts.all fun t=>t.stmts.all fun st=>!(zPW v st&&needs st (bothReach ts v))
def acq (o:Int):Bool:=o==2||o==4
def rel (o:Int):Bool:=o==3||o==4
def zOh (st:Stm):Stm:=⟨4,st.line,0,0,Opd.zero,Opd.zero,4,st.scope,0⟩
def zON (pr:Int→Bool) (st:Stm):List Stm :=
 if isAcc st.kind&&pr st.var then (if rel st.order then [zOh st] else [])++[{ st with order:=1 }]++(if acq st.order then [zOh st] else []) else [st]
def zOo (pr:Int→Bool):List Stm→List Stm
 | []=>[]
 | s::r=>zON pr s++zOo pr r
def zPf (ts:List Thr) (t:Thr):Thr:={ t with stmts:=zOo (zPy ts) t.stmts }
def zPL (ts:List Thr):List Thr:=ts.map (zPf ts)
def ways (ts:List Thr) (opt fen:Bool):List Thr :=
 if fen then zPL (if opt then zOM ts else ts) else if opt then zOM ts else ts
end P
end Go.Proofs.YtgceflcbckjjiaaGreatDoor
namespace Go.Proofs.YtgceflcbckjjiaaGreatDoor
open Go Go.RowKit
set_option maxRecDepth 100000
theorem zBQ (k:Int) (w:World) :
  Calls Tryz.prog 79 #[.int .i64 k] w fun e w'=>e=.returned (.bool (P.isAcc k))∧w'=w:=by
 go_enter Tryz.func79,Tryz.ntmps79
 go_wp2
 all_goals go_ret
 all_goals simp[P.isAcc, *]
theorem zEq (k:Int) (w:World) :
  Calls Tryz.prog 82 #[.int .i64 k] w fun e w'=>e=.returned (.bool (P.acq k))∧w'=w:=by
 go_enter Tryz.func82,Tryz.ntmps82
 go_wp2
 all_goals go_ret
 all_goals simp[P.acq, *]
theorem zEr (k:Int) (w:World) :
  Calls Tryz.prog 81 #[.int .i64 k] w fun e w'=>e=.returned (.bool (P.rel k))∧w'=w:=by
 go_enter Tryz.func81,Tryz.ntmps81
 go_wp2
 all_goals go_ret
 all_goals simp[P.rel, *]
theorem zGj (k:Int) (w:World) :
  Calls Tryz.prog 130 #[.int .i64 k] w fun e w'=>e=.returned (.bool (P.ofReg k))∧w'=w:=by
 go_enter Tryz.func130,Tryz.ntmps130
 go_wp2
 all_goals go_ret
 all_goals simp[P.ofReg,P.isReg, *]
theorem zCe (st:P.Stm) (v:Int) (w:World) :
  Calls Tryz.prog 131 #[.agg (zAb st),.int .i64 v] w fun e w'=>e=.returned (.bool (P.zPW v st))∧Below w.heap.size w w':=by
 simp only[zAb]
 cases ha:P.isAcc st.kind<;>cases hv:(st.var==v)
 all_goals
  go_enter Tryz.func131,Tryz.ntmps131
  go_wp2_with (first | (go_at_call 79;refine (zBQ _ _).mono ?_;rintro e w' ⟨rfl,rfl⟩;rw[ha]))
  go_ret
  exact⟨by simp[P.zPW,ha,hv],(Below.refl _ _).alloc (Nat.le_refl _) _⟩
theorem zGk (st:P.Stm) (s:Bool) (w:World) :
  Calls Tryz.prog 132 #[.agg (zAb st),.bool s] w fun e w'=>e=.returned (.bool (P.needs st s))∧Below w.heap.size w w':=by
 simp only[zAb]
 cases h0:(st.order==0)<;>cases s<;>cases h1:(st.scope==0)<;>cases h4:(st.order==4)
 all_goals
  go_enter Tryz.func132,Tryz.ntmps132
  go_wp2
  go_ret
  exact⟨by simp[P.needs,h0,h1,h4],(Below.refl _ _).alloc (Nat.le_refl _) _⟩
def zAV (w:World) (g:Nat) (e:Q.Ev):Prop:=w.heap[g]?=some (.cells (zAd e) 158 (0,0))
theorem zAV.lt {w:World} {g:Nat} {e:Q.Ev} (h:zAV w g e):g<w.heap.size:=(Array.getElem?_eq_some_iff.1 h).1
theorem zAV.below {w w':World} {g:Nat} {e:Q.Ev} (h:zAV w g e) (hb:Below w.heap.size w w'):zAV w' g e:=by unfold zAV at *;rw[hb.block g (Array.getElem?_eq_some_iff.1 h).1];exact h
theorem zAV.alloc {w:World} {g:Nat} {e:Q.Ev} (h:zAV w g e) (o:Obj):zAV (w.alloc o) g e:=h.below ((Below.refl _ _).alloc (Nat.le_refl _) _)
theorem zAV.new (w:World) (e:Q.Ev):zAV (w.alloc (.cells (zAd e) 158)) w.heap.size e:=heap_alloc_new w _
theorem zAV.facts {w:World} {g:Nat} {e:Q.Ev} (h:zAV w g e):w.cell? ⟨g,0,none⟩=some (.int .i64 e.kind)∧w.cell? ⟨g,1,none⟩=some (.int .i64 e.thread)∧w.cell? ⟨g,2,none⟩=some (.int .i64 e.block)∧w.cell? ⟨g,3,none⟩=some (.int .i64 e.var)∧w.cell? ⟨g,4,none⟩=some (.int .i64 e.value)∧w.cell? ⟨g,5,none⟩=some (.int .i64 e.order)∧w.cell? ⟨g,6,none⟩=some (.int .i64 e.scope)∧w.cell? ⟨g,7,none⟩=some (.int .i64 e.bars)∧w.cell? ⟨g,8,none⟩=some (.bool e.step)∧w.cell? ⟨g,9,none⟩=some (.int .u64 (e.hangs:Nat))∧(∀ j,w.frozen? ⟨g,j,none⟩=false)∧g<w.heap.size:=by
 unfold zAV at h
 refine⟨?_,?_,?_,?_,?_,?_,?_,?_,?_,?_,?_,(Array.getElem?_eq_some_iff.1 h).1⟩
 all_goals first | (intro j;simp[World.frozen?,h]) | simp[World.cell?,h,zAd]
theorem zHY (a b:Q.Ev) (w:World) :
  Calls Tryz.prog 180 #[.agg (zAd a),.agg (zAd b)] w fun x w'=>x=.returned (.bool (Q.strong a b))∧Below w.heap.size w w':=by
 have HB:Hid (Below w.heap.size w ((w.alloc (.cells (zAd a) 158)).alloc (.cells (zAd b) 158))):=((Below.refl _ _).alloc (Nat.le_refl _) _).alloc (by simp) _
 have EA:Hid (zAV ((w.alloc (.cells (zAd a) 158)).alloc (.cells (zAd b) 158)) w.heap.size a):=(zAV.new w a).alloc _
 have EB:Hid (zAV ((w.alloc (.cells (zAd a) 158)).alloc (.cells (zAd b) 158)) (w.heap.size+1) b):=by
  have:=zAV.new (w.alloc (.cells (zAd a) 158)) b
  simpa [Hid] using this
 cases h0:(a.thread == -1||b.thread == -1)
 rotate_left
 ·have HE:=zAa (zIO h0)
  cases h1:(a.thread == -1)
  ·have h2:(b.thread == -1)=true:=by rw[h1] at h0;exact h0
   simp only[zAd]
   go_enter Tryz.func180,Tryz.ntmps180
   go_wp2
   go_ret
   rw[HE.out];exact⟨rfl,HB.out⟩
  ·simp only[zAd]
   go_enter Tryz.func180,Tryz.ntmps180
   go_wp2
   go_ret
   rw[HE.out];exact⟨rfl,HB.out⟩
 have h1:(a.thread == -1)=false:=(Bool.or_eq_false_iff.1 h0).1
 have h2:(b.thread == -1)=false:=(Bool.or_eq_false_iff.1 h0).2
 cases h3:(a.thread==b.thread)
 rotate_left
 ·have HE:=zAa (zGO h0 h3)
  clear h0
  simp only[zAd]
  go_enter Tryz.func180,Tryz.ntmps180
  go_wp2
  go_ret
  rw[HE.out];exact⟨rfl,HB.out⟩
 cases ha:Q.isOrdE a
 ·have HE:=zAa (zEm h0 h3 (by rw[ha];rfl))
  clear h0
  simp only[zAd]
  go_enter Tryz.func180,Tryz.ntmps180
  go_wp2_with (first | (go_at_call_of 203 (Value.agg #[.int .i64 a.kind,.int .i64 a.thread,.int .i64 a.block,.int .i64 a.var,.int .i64 a.value,.int .i64 a.order,.int .i64 a.scope,.int .i64 a.bars,.bool a.step,.int .u64 (a.hangs:Nat)]);refine (zCz a _).mono ?_;rintro x w1 ⟨rfl,hb1⟩;rw[ha];have EA1:=zAa (EA.out.below hb1);have EB1:=zAa (EB.out.below hb1);have B1:=zAa (HB.out.trans (hb1.mono (by simp;omega)));obtain⟨p0,p1,p2,p3,p4,p5,p6,p7,p8,p9,pf,pl⟩:=EA1.out.facts;obtain⟨q0,q1,q2,q3,q4,q5,q6,q7,q8,q9,qf,ql⟩:=EB1.out.facts))
  go_ret
  rw[HE.out];exact⟨rfl,B1.out⟩
 cases hb:Q.isOrdE b
 ·have HE:=zAa (zEm h0 h3 (by rw[ha,hb];rfl))
  clear h0
  simp only[zAd]
  go_enter Tryz.func180,Tryz.ntmps180
  go_wp2_with (first | (go_at_call_of 203 (Value.agg #[.int .i64 a.kind,.int .i64 a.thread,.int .i64 a.block,.int .i64 a.var,.int .i64 a.value,.int .i64 a.order,.int .i64 a.scope,.int .i64 a.bars,.bool a.step,.int .u64 (a.hangs:Nat)]);refine (zCz a _).mono ?_;rintro x w1 ⟨rfl,hb1⟩;rw[ha];have EA1:=zAa (EA.out.below hb1);have EB1:=zAa (EB.out.below hb1);have B1:=zAa (HB.out.trans (hb1.mono (by simp;omega)));obtain⟨p0,p1,p2,p3,p4,p5,p6,p7,p8,p9,pf,pl⟩:=EA1.out.facts;obtain⟨q0,q1,q2,q3,q4,q5,q6,q7,q8,q9,qf,ql⟩:=EB1.out.facts) | (go_at_call_of 203 (Value.agg #[.int .i64 b.kind,.int .i64 b.thread,.int .i64 b.block,.int .i64 b.var,.int .i64 b.value,.int .i64 b.order,.int .i64 b.scope,.int .i64 b.bars,.bool b.step,.int .u64 (b.hangs:Nat)]);refine (zCz b _).mono ?_;rintro x w2 ⟨rfl,hb2⟩;rw[hb];have EA2:=zAa (EA1.out.below hb2);have EB2:=zAa (EB1.out.below hb2);have B2:=zAa (B1.out.trans (hb2.mono (by have:=B1.out.size;omega)));obtain⟨p0,p1,p2,p3,p4,p5,p6,p7,p8,p9,pf,pl⟩:=EA2.out.facts;obtain⟨q0,q1,q2,q3,q4,q5,q6,q7,q8,q9,qf,ql⟩:=EB2.out.facts))
  go_ret
  rw[HE.out];exact⟨rfl,B2.out⟩
 have HE:=zAa (zGP h0 h3 (by rw[ha,hb];rfl))
 clear h0
 cases h4:(a.block==b.block)<;>cases h5:(a.scope==1)<;>cases h6:(b.scope==1)
 all_goals
  simp only[zAd]
  go_enter Tryz.func180,Tryz.ntmps180
  go_wp2_with (first | (go_at_call_of 203 (Value.agg #[.int .i64 a.kind,.int .i64 a.thread,.int .i64 a.block,.int .i64 a.var,.int .i64 a.value,.int .i64 a.order,.int .i64 a.scope,.int .i64 a.bars,.bool a.step,.int .u64 (a.hangs:Nat)]);refine (zCz a _).mono ?_;rintro x w1 ⟨rfl,hb1⟩;rw[ha];have EA1:=zAa (EA.out.below hb1);have EB1:=zAa (EB.out.below hb1);have B1:=zAa (HB.out.trans (hb1.mono (by simp;omega)));obtain⟨p0,p1,p2,p3,p4,p5,p6,p7,p8,p9,pf,pl⟩:=EA1.out.facts;obtain⟨q0,q1,q2,q3,q4,q5,q6,q7,q8,q9,qf,ql⟩:=EB1.out.facts) | (go_at_call_of 203 (Value.agg #[.int .i64 b.kind,.int .i64 b.thread,.int .i64 b.block,.int .i64 b.var,.int .i64 b.value,.int .i64 b.order,.int .i64 b.scope,.int .i64 b.bars,.bool b.step,.int .u64 (b.hangs:Nat)]);refine (zCz b _).mono ?_;rintro x w2 ⟨rfl,hb2⟩;rw[hb];have EA2:=zAa (EA1.out.below hb2);have EB2:=zAa (EB1.out.below hb2);have B2:=zAa (B1.out.trans (hb2.mono (by have:=B1.out.size;omega)));obtain⟨p0,p1,p2,p3,p4,p5,p6,p7,p8,p9,pf,pl⟩:=EA2.out.facts;obtain⟨q0,q1,q2,q3,q4,q5,q6,q7,q8,q9,qf,ql⟩:=EB2.out.facts))
  go_ret
  rw[HE.out,h4,h5,h6];exact⟨rfl,B2.out⟩
theorem zGl (e:Q.Ev) (w:World) :
  Calls Tryz.prog 182 #[.agg (zAd e)] w fun x w'=>x=.returned (.bool (e.kind==1&&P.rel e.order))∧Below w.heap.size w w':=by
 cases h0:(e.kind==1)
 all_goals
  simp only[zAd]
  go_enter Tryz.func182,Tryz.ntmps182
  go_wp2_with (first | (go_at_call 81;refine (zEr _ _).mono ?_;rintro x w' ⟨rfl,hw'⟩;have hw':=hw'.symm;subst hw'))
  go_ret
  exact⟨rfl,(Below.refl _ _).alloc (Nat.le_refl _) _⟩
theorem zGm (e:Q.Ev) (w:World) :
  Calls Tryz.prog 183 #[.agg (zAd e)] w fun x w'=>x=.returned (.bool (e.kind==0&&P.acq e.order))∧Below w.heap.size w w':=by
 cases h0:(e.kind==0)
 all_goals
  simp only[zAd]
  go_enter Tryz.func183,Tryz.ntmps183
  go_wp2_with (first | (go_at_call 82;refine (zEq _ _).mono ?_;rintro x w' ⟨rfl,hw'⟩;have hw':=hw'.symm;subst hw'))
  go_ret
  exact⟨rfl,(Below.refl _ _).alloc (Nat.le_refl _) _⟩
end Go.Proofs.YtgceflcbckjjiaaGreatDoor
