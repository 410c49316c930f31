import Derived.Test.YtgceflcbckjjiaaGreatDoorB26
set_option linter.unusedVariables false
set_option linter.unusedSimpArgs false
namespace Go.Proofs.YtgceflcbckjjiaaGreatDoor
open Go Go.RowKit
set_option maxRecDepth 100000
namespace P
theorem write_append (a b:List Thr):write (a++b)=write a++write b:=by
 induction a with
 | nil=>rfl
 | cons t r ih=>simp[write,ih]
theorem write_snoc (l:List Thr) (k:Nat) (h:k<l.length):write (l.take (k+1))=write (l.take k)++writeT l[k]:=by
 rw[List.take_succ_eq_append_getElem h,write_append];simp[write]
theorem writeS_append (a b:List Stm):writeS (a++b)=writeS a++writeS b:=by
 induction a with
 | nil=>rfl
 | cons t r ih=>simp[writeS,ih]
theorem writeS_snoc (l:List Stm) (k:Nat) (h:k<l.length):writeS (l.take (k+1))=writeS (l.take k)++(instr l[k]++[10]):=by
 rw[List.take_succ_eq_append_getElem h,writeS_append];simp[writeS]
end P
set_option maxHeartbeats 3200000 in
theorem write_any (B bt n cap:Nat) (ts:List P.Thr) (w:World) (h:ThreadsAt w B (.slice (some ⟨bt,0,none⟩) n cap) ts) (hn:n=ts.length) (hnb:n<10) (hst:∀ t∈ts,t.stmts.length<10000) (hsm:∀ t∈ts,0≤t.block∧t.block<100∧∀ s∈t.stmts,P.Small s) :
  Calls Tryz.prog 27 #[.agg #[.slice (some ⟨bt,0,none⟩) n cap]] w fun e w'=>∃ s,e=.returned (.string s)∧Txt 10000000 s (P.write ts)∧Below w.heap.size w w':=by
 have HA:=hide h
 have HN:=hide hn
 have HS:=hide hst
 have HM:=hide hsm
 clear h hn hst hsm
 go_enter Tryz.func27,Tryz.ntmps27
 go_wp2
 go_loopw [3,11] (fun a i wr=>∃ k:Nat,∃ s:ByteArray,k≤n∧i=.int .i64 k∧a=.string s∧s.size≤k*1000000∧Hid (s.toList=P.write (ts.take k))∧Below w.heap.size w wr) (fun _ i _=>n-(intOf i).toNat)
 case atStart=>exact⟨0,⟨#[]⟩,Nat.zero_le _,rfl,rfl,by simp[lit_size],by unfold Hid;simp[lit_toList,P.write],(Below.refl _ _).alloc (Nat.le_refl _) _⟩
 case round =>
  obtain⟨k,s,hk,rfl,rfl,hsz,HW,hbel⟩:=hrel
  by_cases hlt:k<n
  ·have hkl:k<ts.length:=by rw[← HN.out];exact hlt
   obtain⟨hbt,sa,sc,c0,c1,c2,ho⟩:=thr_at HA.out HN.out k hkl
   have d0:=(hbel.cell (p:=⟨bt,k*3,none⟩) hbt).trans c0
   have d1:=(hbel.cell (p:=⟨bt,k*3+1,none⟩) hbt).trans c1
   have d2:=(hbel.cell (p:=⟨bt,k*3+2,none⟩) hbt).trans c2
   have hls:=HS.out ts[k] (List.getElem_mem hkl)
   obtain⟨hb0,hb1,hms⟩:=HM.out ts[k] (List.getElem_mem hkl)
   have HMS:=hide hms
   have HX:=hide (P.write_snoc ts k hkl)
   have HO:=hide ho
   generalize hst:ts[k]=t at *
   have hsa:0<t.stmts.length→∃ b,sa=some ⟨b,0,none⟩∧b<w.heap.size:=fun h0=>by
    rcases ho.2 with ⟨e,h0'⟩ | ⟨b',c',cur,e,hb',hg',_⟩
    ·omega
    ·simp only[Value.slice.injEq] at e
     exact⟨b',e.1,(Array.getElem?_eq_some_iff.1 hg').1⟩
   clear hst c0 c1 c2 ho hms
   have hws:w.heap.size≤wr.heap.size:=hbel.size
   have HB1:Hid (Below w.heap.size w (wr.alloc (.cells #[.int .i64 t.block,.int .i64 t.line,.slice sa t.stmts.length sc] 88))):=hbel.alloc hws _
   clear hbel
   go_wp2_with (first | (go_at_call 44;refine (thrA_any t.block _ hb0 hb1).mono ?_;rintro e w' ⟨sn,rfl,hsn,rfl⟩;have zn:=hsn.size))
   go_loopw [3,24] (fun a j w2=>∃ q:Nat,∃ u:ByteArray,q≤t.stmts.length∧j=.int .i64 q∧a=.string u∧u.size≤k*1000000+20+q*81∧Hid (u.toList=P.write (ts.take k)++([46,116,104,114,101,97,100,32]++P.dec t.block++[10])++P.writeS (t.stmts.take q))∧Below w.heap.size w w2) (fun _ j _=>t.stmts.length-(intOf j).toNat)
   case atStart =>
    refine⟨0,_,Nat.zero_le _,rfl,rfl,?_,?_,HB1.out⟩
    ·simp[lit_size];omega
    ·unfold Hid;simp[app_toList,lit_toList,hsn.1,HW.out,P.writeS]
   case round =>
    obtain⟨q,u,hq,rfl,rfl,husz,HU,hbel⟩:=hrel
    by_cases hql:q<t.stmts.length
    ·obtain⟨b,rfl,hblt⟩:=hsa (by omega)
     have hr:=hide (rangeAt_keep (range_stm HO.out rfl q hql) (hbel.block b hblt))
     have hsmq:=HMS.out t.stmts[q] (List.getElem_mem hql)
     have KS:=hide (P.writeS_snoc t.stmts q hql)
     generalize hst:t.stmts[q]=st at hr KS hsmq
     clear hst
     have hws2:=hbel.size
     go_wp2_with (first | (refine wpList_load_at (.tmp 26) rfl rfl b (q*11) st rfl hr.out ?_) | (go_at_call 45;refine (instr_any st _ hsmq).mono ?_;rintro e w3 ⟨si,rfl,hsi,hb3⟩;have zi:=hsi.size))
     go_roundw
     case rel =>
      refine⟨q+1,_,by omega,by go_num,rfl,?_,?_,(hbel.alloc hws2 _).trans (hb3.mono (by simp;omega))⟩
      ·simp[lit_size];omega
      ·unfold Hid;rw[KS.out];simp[app_toList,lit_toList,hsi.1,HU.out]
     case measure=>simp[intOf];omega
    ·have hqq:q=t.stmts.length:=by omega
     subst hqq
     have HT:Hid (t.stmts.take t.stmts.length=t.stmts):=List.take_length
     go_wp2
     go_roundw
     case rel =>
      refine⟨k+1,u,by omega,by go_num,rfl,by omega,?_,hbel⟩
      unfold Hid;rw[HX.out,HU.out,HT.out];simp[P.writeT]
     case measure=>simp[intOf];omega
  ·have hkn:k=n:=by omega
   subst hkn
   have HT:Hid (ts.take k=ts):=List.take_of_length_le (by have:=HN.out;omega)
   go_wp2
   go_ret
   exact⟨s,rfl,⟨by rw[HW.out,HT.out],by omega⟩,hbel⟩
end Go.Proofs.YtgceflcbckjjiaaGreatDoor
namespace Go.Proofs.YtgceflcbckjjiaaGreatDoor
namespace P
def isAcc (k:Int):Bool:=k==0||k==1||k==2||k==3
def isReg (k:Int):Bool:=k==6||k==7||k==8||k==9
end P
end Go.Proofs.YtgceflcbckjjiaaGreatDoor
namespace Go.Proofs.YtgceflcbckjjiaaGreatDoor
open Go
namespace P
def reachS (v:Int) (st:Stm):Bool:=isAcc st.kind&&st.var==v
def blockReaches (ts:List Thr) (b v:Int):Bool:=ts.any fun t=>t.block==b&&t.stmts.any (reachS v)
def bothReach (ts:List Thr) (v:Int):Bool:=blockReaches ts 0 v&&blockReaches ts 1 v
def ofOne (ts:List Thr):Bool:=match ts with
 | []=>true
 | t::r=>(t::r).all fun u=>u.block==t.block
def stays (ts:List Thr) (st:Stm):Bool:=if st.kind==4 then ofOne ts else isAcc st.kind&&!bothReach ts st.var
def narrowS (ts:List Thr) (st:Stm):Stm:=if stays ts st then { st with scope:=0 } else st
def narrowed (ts:List Thr) (ss:List Stm):List Stm:=ss.map (narrowS ts)
def ofReg (k:Int):Bool:=isReg k||k==10||k==11
def idlesGo (n:Int):List Stm→Bool
 | []=>true
 | s::r=>if s.kind==5 then idlesGo (n+1) r else if n==1&&!ofReg s.kind then false else idlesGo n r
def idleB (ts:List Thr) (b:Int):Bool:=ts.all fun t=>t.block != b||idlesGo 0 t.stmts
def dropGo (n:Int):List Stm→List Stm
 | []=>[]
 | s::r=>if s.kind==5 then (if n+1==2 then dropGo (n+1) r else s::dropGo (n+1) r) else s::dropGo n r
def covers (a b:Stm):Bool:=a.kind==4&&b.kind==4&&(a.order==5||b.order==4)&&(a.scope==1||b.scope==0)
def covO (p:Option Stm) (s:Stm):Bool:=match p with
 | none=>false
 | some q=>covers q s
def thinGo (p:Option Stm):List Stm→List Stm
 | []=>[]
 | s::r=>if covO p s then thinGo p r else s::thinGo (some s) r
def secondT (ts:List Thr) (b:Int) (ss:List Stm):List Stm:=if idleB ts b then dropGo 0 ss else ss
def trimT (ts:List Thr) (t:Thr):Thr:={ t with stmts:=thinGo none (secondT ts t.block (narrowed ts t.stmts)) }
def trimmed (ts:List Thr):List Thr:=ts.map (trimT ts)
def needs (st:Stm) (shared:Bool):Bool:=st.order==0||(shared&&(st.scope==0||st.order==4))
def isPure (ts:List Thr) (v:Int):Bool:=ts.all fun t=>t.stmts.all fun st=>!(reachS v st&&needs st (bothReach ts v))
def acq (o:Int):Bool:=o==2||o==4
def rel (o:Int):Bool:=o==3||o==4
def fenceS (st:Stm):Stm:=⟨4,st.line,0,0,Opd.zero,Opd.zero,4,st.scope,0⟩
def fenced1 (pr:Int→Bool) (st:Stm):List Stm :=
 if isAcc st.kind&&pr st.var then (if rel st.order then [fenceS st] else [])++[{ st with order:=1 }]++(if acq st.order then [fenceS st] else []) else [st]
def fencedS (pr:Int→Bool):List Stm→List Stm
 | []=>[]
 | s::r=>fenced1 pr s++fencedS pr r
def fencedT (ts:List Thr) (t:Thr):Thr:={ t with stmts:=fencedS (isPure ts) t.stmts }
def fenced (ts:List Thr):List Thr:=ts.map (fencedT ts)
def ways (ts:List Thr) (opt fen:Bool):List Thr :=
 if fen then fenced (if opt then trimmed ts else ts) else if opt then trimmed ts else ts
end P
end Go.Proofs.YtgceflcbckjjiaaGreatDoor
namespace Go.Proofs.YtgceflcbckjjiaaGreatDoor
open Go Go.RowKit
set_option maxRecDepth 100000
set_option maxHeartbeats 400000 in
theorem isAcc_any (k:Int) (w:World) :
  Calls Tryz.prog 79 #[.int .i64 k] w fun e w'=>e=.returned (.bool (P.isAcc k))∧w'=w:=by
 go_enter Tryz.func79,Tryz.ntmps79
 go_wp2
 all_goals go_ret
 all_goals simp[P.isAcc, *]
set_option maxHeartbeats 400000 in
theorem acq_any (k:Int) (w:World) :
  Calls Tryz.prog 82 #[.int .i64 k] w fun e w'=>e=.returned (.bool (P.acq k))∧w'=w:=by
 go_enter Tryz.func82,Tryz.ntmps82
 go_wp2
 all_goals go_ret
 all_goals simp[P.acq, *]
set_option maxHeartbeats 400000 in
theorem rel_any (k:Int) (w:World) :
  Calls Tryz.prog 81 #[.int .i64 k] w fun e w'=>e=.returned (.bool (P.rel k))∧w'=w:=by
 go_enter Tryz.func81,Tryz.ntmps81
 go_wp2
 all_goals go_ret
 all_goals simp[P.rel, *]
set_option maxHeartbeats 400000 in
theorem ofReg_any (k:Int) (w:World) :
  Calls Tryz.prog 130 #[.int .i64 k] w fun e w'=>e=.returned (.bool (P.ofReg k))∧w'=w:=by
 go_enter Tryz.func130,Tryz.ntmps130
 go_wp2
 all_goals go_ret
 all_goals simp[P.ofReg,P.isReg, *]
set_option maxHeartbeats 800000 in
theorem reaches_any (st:P.Stm) (v:Int) (w:World) :
  Calls Tryz.prog 131 #[.agg (stmCells st),.int .i64 v] w fun e w'=>e=.returned (.bool (P.reachS v st))∧Below w.heap.size w w':=by
 simp only[stmCells]
 cases ha:P.isAcc st.kind<;>cases hv:(st.var==v)
 all_goals
  go_enter Tryz.func131,Tryz.ntmps131
  go_wp2_with (first | (go_at_call 79;refine (isAcc_any _ _).mono ?_;rintro e w' ⟨rfl,rfl⟩;rw[ha]))
  go_ret
  exact⟨by simp[P.reachS,ha,hv],(Below.refl _ _).alloc (Nat.le_refl _) _⟩
set_option maxHeartbeats 800000 in
theorem needs_any (st:P.Stm) (s:Bool) (w:World) :
  Calls Tryz.prog 132 #[.agg (stmCells st),.bool s] w fun e w'=>e=.returned (.bool (P.needs st s))∧Below w.heap.size w w':=by
 simp only[stmCells]
 cases h0:(st.order==0)<;>cases s<;>cases h1:(st.scope==0)<;>cases h4:(st.order==4)
 all_goals
  go_enter Tryz.func132,Tryz.ntmps132
  go_wp2
  go_ret
  exact⟨by simp[P.needs,h0,h1,h4],(Below.refl _ _).alloc (Nat.le_refl _) _⟩
end Go.Proofs.YtgceflcbckjjiaaGreatDoor
