import Derived.Test.YtgceflcbckjjiaaGreatDoorD41
set_option linter.unusedVariables false
set_option linter.unusedSimpArgs false
set_option maxHeartbeats 12800000
namespace Go.Proofs.YtgceflcbckjjiaaGreatDoor
open Go Go.RowKit
set_option maxRecDepth 100000
theorem zHD (B n:Nat) (sa:Option Addr) (sc:Nat) (l:List P.Stm) (w:World) (hown:w.ownsRow B 96 11 (.slice sa n sc) n (zAA l)) (hn:n=l.length) (hnb:n<10000) :
  Calls Tryz.prog 77 #[.slice sa n sc] w fun e w'=>e=.returned (.bool (P.zKJ 0 l))∧Below w.heap.size w w':=by
 have HO:=zAa hown
 have HN:=zAa hn
 clear hown hn
 go_enter Tryz.func77,Tryz.ntmps77
 go_wp2
 go_loopw [3,8] (fun c i wr=>∃ (k:Nat) (q:Int),k≤n∧i=.int .i64 k∧c=.int .i64 q∧0≤q∧q≤k∧Hid (P.zKJ q (l.drop k)=P.zKJ 0 l)∧Below w.heap.size w wr) (fun _ i _=>n-(intOf i).toNat)
 case atStart=>exact⟨0,0,Nat.zero_le _,rfl,rfl,by omega,by omega,by unfold Hid;simp,Below.refl _ _⟩
 case round =>
  obtain⟨k,q,hk,rfl,rfl,hq0,hq1,HR,hbel⟩:=hrel
  have hws:=hbel.size
  by_cases hlt:k<n
  ·obtain⟨b,rfl,hblt⟩:=zBP HO.out (by omega)
   have hkl:k<l.length:=by rw[← HN.out];exact hlt
   have hr:=zAa (zAv (zBc HO.out HN.out k hkl) (hbel.block b hblt))
   have HD:=zAa (P.zKr l k hkl)
   generalize hst:l[k]=st at *
   clear hst
   cases h5:(st.kind==5)
   ·cases hq:(q==1)
    ·go_wp2_with (first | (refine zAi (.tmp 10) rfl rfl b (k*11) st rfl hr.out ?_))
     go_roundw
     case rel =>
      refine⟨k+1,q,by omega,by go_num,rfl,hq0,by omega,?_,hbel.alloc hws _⟩
      unfold Hid;rw[← HR.out,HD.out];simp[P.zKJ,h5,hq]
     case measure=>simp[intOf];omega
    ·cases hf:P.ofReg st.kind
     ·have HE:Hid (P.zKJ 0 l=false):=by
       unfold Hid;rw[← HR.out,HD.out];simp[P.zKJ,h5,hq,hf]
      go_wp2_with (first | (refine zAi (.tmp 10) rfl rfl b (k*11) st rfl hr.out ?_) | (go_at_call 130;refine (zET _ _).mono ?_;rintro e w' ⟨rfl,rfl⟩;rw[hf]))
      go_ret
      exact⟨by rw[HE.out];rfl,hbel.alloc hws _⟩
     ·go_wp2_with (first | (refine zAi (.tmp 10) rfl rfl b (k*11) st rfl hr.out ?_) | (go_at_call 130;refine (zET _ _).mono ?_;rintro e w' ⟨rfl,rfl⟩;rw[hf]))
      go_roundw
      case rel =>
       refine⟨k+1,q,by omega,by go_num,rfl,hq0,by omega,?_,hbel.alloc hws _⟩
       unfold Hid;rw[← HR.out,HD.out];simp[P.zKJ,h5,hq,hf]
      case measure=>simp[intOf];omega
   ·go_wp2_with (first | (refine zAi (.tmp 10) rfl rfl b (k*11) st rfl hr.out ?_))
    go_roundw
    case rel =>
     refine⟨k+1,q+1,by omega,by go_num,by go_num,by omega,by omega,?_,hbel.alloc hws _⟩
     unfold Hid;rw[← HR.out,HD.out];simp[P.zKJ,h5]
    case measure=>simp[intOf];omega
  ·have HE:Hid (P.zKJ 0 l=true):=by
    unfold Hid
    rw[← HR.out,List.drop_eq_nil_of_le (by have:=HN.out;omega)];rfl
   go_wp2
   go_ret
   exact⟨by rw[HE.out];rfl,hbel⟩
theorem zHE (B bt n cap:Nat) (bl:Int) (ts:List P.Thr) (w:World) (h:zAl w B (.slice (some ⟨bt,0,none⟩) n cap) ts) (hn:n=ts.length) (hnb:n<10) (hst:∀ t∈ts,t.stmts.length<10000) :
  Calls Tryz.prog 40 #[.agg #[.slice (some ⟨bt,0,none⟩) n cap],.int .i64 bl] w fun e w'=>e=.returned (.bool (P.idleB ts bl))∧Below w.heap.size w w':=by
 have HA:=zAa h
 have HN:=zAa hn
 have HS:=zAa hst
 clear h hn hst
 go_enter Tryz.func40,Tryz.ntmps40
 go_wp2
 go_loopw [10] (fun i wr=>∃ k:Nat,k≤n∧i=.int .i64 k∧Hid (P.idleB (ts.drop k) bl=P.idleB ts bl)∧Below w.heap.size w wr) (fun i _=>n-(intOf i).toNat)
 case atStart=>exact⟨0,Nat.zero_le _,rfl,by unfold Hid;simp,(Below.refl _ _).alloc (Nat.le_refl _) _⟩
 case round =>
  obtain⟨k,hk,rfl,HR,hbel⟩:=hrel
  have hws:w.heap.size≤wr.heap.size:=hbel.size
  by_cases hlt:k<n
  ·have hkl:k<ts.length:=by rw[← HN.out];exact hlt
   obtain⟨hbt,sa,sc,c0,c1,c2,ho⟩:=zCn HA.out HN.out k hkl
   have d0:=cfL hbel hbt c0
   have d1:=cfL hbel hbt c1
   have d2:=cfL hbel hbt c2
   have hls:=HS.out ts[k] (List.getElem_mem hkl)
   have HD:=zAa (P.zKr ts k hkl)
   generalize ts[k]=t at *
   have HC:Hid (∀ w2:World,Below w.heap.size w w2→Calls Tryz.prog 77 #[.slice sa t.stmts.length sc] w2 fun e w'=>e=.returned (.bool (P.zKJ 0 t.stmts))∧Below w2.heap.size w2 w'):=fun w2 hb=>zHD B _ sa sc t.stmts w2 (zAd ho (fun j hj=>hb.block j (ho.lt j hj).2)) rfl hls
   clear c0 c1 c2 ho
   by_cases hb:t.block=bl
   ·have nb:(t.block != bl)=false:=by simp[hb]
    cases hi:P.zKJ 0 t.stmts
    ·have HE:Hid (P.idleB ts bl=false):=by
      unfold Hid;rw[← HR.out,HD.out];simp[P.idleB,hb,hi]
     go_wp2_with (first | (go_at_call 77;refine (HC.out _ (hbel.alloc hws _)).mono ?_;rintro e w3 ⟨rfl,hb3⟩;rw[hi]))
     go_ret
     exact⟨by rw[HE.out];rfl,(hbel.alloc hws _).trans (hb3.mono (by simp;omega))⟩
    ·have HE:Hid (P.idleB (ts.drop (k+1)) bl=P.idleB ts bl):=by
      unfold Hid;rw[← HR.out,HD.out];simp[P.idleB,hb,hi]
     go_wp2_with (first | (go_at_call 77;refine (HC.out _ (hbel.alloc hws _)).mono ?_;rintro e w3 ⟨rfl,hb3⟩;rw[hi]))
     go_roundw
     case rel=>exact⟨k+1,by omega,by go_num,HE,(hbel.alloc hws _).trans (hb3.mono (by simp;omega))⟩
     case measure=>simp[intOf];omega
   ·have nb:(t.block != bl)=true:=by simp[hb]
    have HE:Hid (P.idleB (ts.drop (k+1)) bl=P.idleB ts bl):=by
     unfold Hid;rw[← HR.out,HD.out];simp[P.idleB,hb]
    go_wp2
    go_roundw
    case rel=>exact⟨k+1,by omega,by go_num,HE,hbel.alloc hws _⟩
    case measure=>simp[intOf];omega
  ·have HE:Hid (P.idleB ts bl=true):=by
    unfold Hid
    rw[← HR.out,List.drop_eq_nil_of_le (by have:=HN.out;omega)];rfl
   go_wp2
   go_ret
   exact⟨by rw[HE.out];rfl,hbel⟩
theorem zGR (B2 m sc:Nat) (sa:Option Addr) (l:List P.Stm) (w:World)
  (hown:w.ownsRow B2 96 11 (.slice sa m sc) m (zAA l)) (hm:m=l.length) (hmb:m<10000) :
  Calls Tryz.prog 41 #[.slice sa m sc] w fun e w'=>∃ v,e=.returned v∧w'.ownsRow w.heap.size 96 11 v (P.zKn 0 l).length (zAA (P.zKn 0 l))∧Below w.heap.size w w':=by
 obtain⟨i0,hi,hz0,hz1,hz2⟩:=info_parts Tryz.infoStm
 have HO:=zAa hown
 have HN:=zAa hm
 clear hown hm
 go_enter Tryz.func41,Tryz.ntmps41
 go_wp2
 go_loopw [3,4,9] (fun c o i wr=>∃ (k:Nat) (q:Int) (acc:List P.Stm),k≤m∧i=.int .i64 k∧c=.int .i64 q∧0≤q∧q≤k∧acc.length≤k∧Hid (acc++P.zKn q (l.drop k)=P.zKn 0 l)∧wr.ownsRow w.heap.size 96 11 o acc.length (zAA acc)∧Below w.heap.size w wr) (fun _ _ i _=>m-(intOf i).toNat)
 case atStart=>exact⟨0,0,[],Nat.zero_le _,rfl,rfl,by omega,by omega,by simp,by unfold Hid;simp,by simpa [zAA] using World.ownsRow_nil _ _ _ _,Below.refl _ _⟩
 case round =>
  obtain⟨k,q,acc,hk,rfl,rfl,hq0,hq1,hac,HR,hrow,hbel⟩:=hrel
  have hws:=hbel.size
  by_cases hlt:k<m
  ·obtain⟨b,rfl,hblt⟩:=zBP HO.out (by omega)
   have hkl:k<l.length:=by rw[← HN.out];exact hlt
   have hr:=zAa (zAv (zBc HO.out HN.out k hkl) (hbel.block b hblt))
   have HD:=zAa (P.zKr l k hkl)
   have HOW:=zAa hrow
   have HBL:=zAa hbel
   generalize hst:l[k]=st at *
   clear hst hrow hbel
   have step:∀ q':Int,P.zKn q (st::l.drop (k+1))=st::P.zKn q' (l.drop (k+1))→(acc++[st])++P.zKn q' (l.drop (k+1))=P.zKn 0 l:=fun q' h=>by
    rw[← HR.out,HD.out,h];simp
   have HST:=zAa step
   clear step
   by_cases h5:st.kind=5
   ·by_cases hq:q+1=2
    ·have HF:Hid (acc++P.zKn (q+1) (l.drop (k+1))=P.zKn 0 l):=by
      unfold Hid;rw[← HR.out,HD.out];simp[P.zKn,h5,hq]
     have b5:(st.kind==5)=true:=by simp[h5]
     have bq:(q+1==2)=true:=by simp[hq]
     clear h5 hq HST
     go_wp2_with (first | (refine zAi (.tmp 11) rfl rfl b (k*11) st rfl hr.out ?_))
     go_roundw
     case rel=>exact⟨k+1,q+1,acc,by omega,by go_num,by go_num,by omega,by omega,by omega,HF,HOW.out.alloc _,HBL.out.alloc hws _⟩
     case measure=>simp[intOf];omega
    ·have b5:(st.kind==5)=true:=by simp[h5]
     have bq:(q+1==2)=false:=by simp[hq]
     have HF:Hid ((acc++[st])++P.zKn (q+1) (l.drop (k+1))=P.zKn 0 l):=HST.out (q+1) (by simp[P.zKn,h5,hq])
     clear h5 hq HST
     go_wp2_with (first
      | (refine zAi (.tmp 11) rfl rfl b (k*11) st rfl hr.out ?_)
      | (at_builtin;refine wpList_append_lies _ rfl (.tmp 20) (.tmp 22) 86 rfl w.heap.size 96 i0 (.agg (zAb P.Stm.zero)) 11 88 Tryz.underlying86 hi hz0 hz1 hz2 rfl (by decide) _ _ _ rfl ((HOW.out.alloc _).alloc _) ⟨wr.heap.size+1,0,none⟩ 1 1 (zAb st).toList (by simp[Act.eval]) rfl ?c1 ?c2 (by decide) ?c3 ?c4 ?c5 _ rfl ?_))
     case c1=>exact zIU wr (zAb st) _ _
     case c2=>simp[zAb,Value.oneCell']
     case c3=>unfold maxLen;omega
     case c4=>omega
     case c5=>simp;omega
     intro g1 cap1 w1 hown1 hgrow hat hlt1
     have hW':Below wr.heap.size wr ((wr.alloc (.cells (zAb st) 96)).alloc (.cells (zAb st) 96)):=((Below.refl _ _).alloc (Nat.le_refl _) _).alloc (by simp) _
     have FIN:=zAa (zBq HBL.out hW' HOW.out hgrow)
     have FOW:Hid (w1.ownsRow w.heap.size 96 11 (.slice (some ⟨g1,0,none⟩) (acc.length+1) cap1) (acc++[st]).length (zAA (acc++[st]))):=by
      unfold Hid;rw[zAY];simpa using hown1
     clear hown1 hgrow hat HOW HBL hW'
     go_wp2
     go_roundw
     case rel=>exact⟨k+1,q+1,acc++[st],by omega,by go_num,by go_num,by omega,by omega,by simp;omega,HF,FOW.out,FIN.out⟩
     case measure=>simp[intOf];omega
   ·have b5:(st.kind==5)=false:=by simp[h5]
    have HF:Hid ((acc++[st])++P.zKn q (l.drop (k+1))=P.zKn 0 l):=HST.out q (by simp[P.zKn,h5])
    clear h5 HST
    go_wp2_with (first
     | (refine zAi (.tmp 11) rfl rfl b (k*11) st rfl hr.out ?_)
     | (at_builtin;refine wpList_append_lies _ rfl (.tmp 20) (.tmp 22) 86 rfl w.heap.size 96 i0 (.agg (zAb P.Stm.zero)) 11 88 Tryz.underlying86 hi hz0 hz1 hz2 rfl (by decide) _ _ _ rfl ((HOW.out.alloc _).alloc _) ⟨wr.heap.size+1,0,none⟩ 1 1 (zAb st).toList (by simp[Act.eval]) rfl ?c1 ?c2 (by decide) ?c3 ?c4 ?c5 _ rfl ?_))
    case c1=>exact zIU wr (zAb st) _ _
    case c2=>simp[zAb,Value.oneCell']
    case c3=>unfold maxLen;omega
    case c4=>omega
    case c5=>simp;omega
    intro g1 cap1 w1 hown1 hgrow hat hlt1
    have hW':Below wr.heap.size wr ((wr.alloc (.cells (zAb st) 96)).alloc (.cells (zAb st) 96)):=((Below.refl _ _).alloc (Nat.le_refl _) _).alloc (by simp) _
    have FIN:=zAa (zBq HBL.out hW' HOW.out hgrow)
    have FOW:Hid (w1.ownsRow w.heap.size 96 11 (.slice (some ⟨g1,0,none⟩) (acc.length+1) cap1) (acc++[st]).length (zAA (acc++[st]))):=by
     unfold Hid;rw[zAY];simpa using hown1
    clear hown1 hgrow hat HOW HBL hW'
    go_wp2
    go_roundw
    case rel=>exact⟨k+1,q,acc++[st],by omega,by go_num,rfl,by omega,by omega,by simp;omega,HF,FOW.out,FIN.out⟩
    case measure=>simp[intOf];omega
  ·have HE:Hid (P.zKn 0 l=acc):=by
    unfold Hid
    rw[← HR.out,List.drop_eq_nil_of_le (by have:=HN.out;omega)];simp[P.zKn]
   go_wp2
   go_ret
   exact⟨_,rfl,by rw[HE.out];exact hrow,hbel⟩
theorem zEr (a b:P.Stm) (w:World) :
  Calls Tryz.prog 78 #[.agg (zAb a),.agg (zAb b)] w fun e w'=>e=.returned (.bool (P.zMh a b))∧Below w.heap.size w w':=by
 simp only[zAb]
 by_cases h1:a.kind=4
 ·by_cases h2:b.kind=4
  ·have n1:(a.kind != 4)=false:=by simp[h1]
   have n2:(b.kind != 4)=false:=by simp[h2]
   cases h3:(a.order==5)<;>cases h4:(b.order==4)<;>cases h5:(a.scope==1)<;>cases h6:(b.scope==0)
   all_goals
    go_enter Tryz.func78,Tryz.ntmps78
    go_wp2
    go_ret
    exact⟨by simp[P.zMh,h1,h2,h3,h4,h5,h6],((Below.refl _ _).alloc (Nat.le_refl _) _).alloc (by simp) _⟩
  ·have n1:(a.kind != 4)=false:=by simp[h1]
   have n2:(b.kind != 4)=true:=by simp[h2]
   go_enter Tryz.func78,Tryz.ntmps78
   go_wp2
   go_ret
   exact⟨by simp[P.zMh,h1,h2],((Below.refl _ _).alloc (Nat.le_refl _) _).alloc (by simp) _⟩
 ·have n1:(a.kind != 4)=true:=by simp[h1]
  go_enter Tryz.func78,Tryz.ntmps78
  go_wp2
  go_ret
  exact⟨by simp[P.zMh,h1],((Below.refl _ _).alloc (Nat.le_refl _) _).alloc (by simp) _⟩
theorem zGq (B2 m sc:Nat) (sa:Option Addr) (l:List P.Stm) (w:World)
  (hown:w.ownsRow B2 96 11 (.slice sa m sc) m (zAA l)) (hm:m=l.length) (hmb:m<10000) :
  Calls Tryz.prog 42 #[.slice sa m sc] w fun e w'=>∃ v,e=.returned v∧w'.ownsRow w.heap.size 96 11 v (P.zKj none l).length (zAA (P.zKj none l))∧Below w.heap.size w w':=by
 obtain⟨i0,hi,hz0,hz1,hz2⟩:=info_parts Tryz.infoStm
 have HO:=zAa hown
 have HN:=zAa hm
 clear hown hm
 go_enter Tryz.func42,Tryz.ntmps42
 go_wp2
 go_loopw [3,9] (fun o i wr=>∃ (k:Nat) (acc:List P.Stm),k≤m∧i=.int .i64 k∧acc.length≤k∧Hid (acc++P.zKj acc.getLast? (l.drop k)=P.zKj none l)∧wr.ownsRow w.heap.size 96 11 o acc.length (zAA acc)∧Below w.heap.size w wr) (fun _ i _=>m-(intOf i).toNat)
 case atStart=>exact⟨0,[],Nat.zero_le _,rfl,by simp,by unfold Hid;simp,by simpa [zAA] using World.ownsRow_nil _ _ _ _,Below.refl _ _⟩
 case round =>
  obtain⟨k,acc,hk,rfl,hac,HR,hrow,hbel⟩:=hrel
  have hws:=hbel.size
  by_cases hlt:k<m
  ·obtain⟨b,rfl,hblt⟩:=zBP HO.out (by omega)
   have hkl:k<l.length:=by rw[← HN.out];exact hlt
   have hr:=zAa (zAv (zBc HO.out HN.out k hkl) (hbel.block b hblt))
   have HD:=zAa (P.zKr l k hkl)
   have HOW:=zAa hrow
   have HBL:=zAa hbel
   generalize hst:l[k]=st at *
   clear hst hrow hbel
   obtain⟨oa,oc,rfl⟩:∃ oa oc,u3=.slice oa acc.length oc:=by
    rcases HOW.out.2 with ⟨e,h0⟩ | ⟨k,c,cur,e,_⟩
    ·exact⟨none,0,by rw[e,h0]⟩
    ·exact⟨_,c,e⟩
   by_cases ha:acc=[]
   ·subst ha
    have HF:Hid (([]++[st])++P.zKj ([]++[st]).getLast? (l.drop (k+1))=P.zKj none l):=by
     unfold Hid;rw[← HR.out,HD.out];simp[P.zKj,P.covO]
    have HOW:Hid (wr.ownsRow w.heap.size 96 11 (.slice oa 0 oc) 0 (zAA [])):=HOW
    simp only[List.length_nil]
    go_wp2_with (first
     | (refine zAi (.tmp 11) rfl rfl b (k*11) st rfl hr.out ?_))
    go_quiet (fail)
    have hW:Below wr.heap.size wr ((wr.alloc (.cells (zAb st) 96)).drewN nq):=zCM ((Below.refl wr.heap.size wr).alloc (Nat.le_refl _) _) _
    have GS:zAw ((wr.alloc (.cells (zAb st) 96)).drewN nq) wr.heap.size st:=zAw.new wr st
    simp only[zAb] at hW GS
    generalize (wr.alloc (.cells #[.int .i64 st.kind,.int .i64 st.line,.int .i64 st.dest,.int .i64 st.var,.bool st.a.reg,.int .i64 st.a.n,.bool st.b.reg,.int .i64 st.b.n,.int .i64 st.order,.int .i64 st.scope,.int .i64 st.label] 96)).drewN nq=w3 at *
    obtain⟨f1,f2,s0,s1,s2,s3,s4,s5,s6,s7,s8,s9,s10⟩:=GS.facts
    have hw3:=hW.size
    go_wp2_with (first
     | (at_builtin;refine wpList_append_lies _ rfl (.tmp 26) (.tmp 28) 86 rfl w.heap.size 96 i0 (.agg (zAb P.Stm.zero)) 11 88 Tryz.underlying86 hi hz0 hz1 hz2 rfl (by decide) _ _ _ rfl ((zAd HOW.out (fun j hj=>hW.block j (HOW.out.lt j hj).2)).alloc _) ⟨w3.heap.size,0,none⟩ 1 1 (zAb st).toList rfl rfl ?c1 ?c2 (by decide) ?c3 ?c4 ?c5 _ rfl ?_))
    case c1=>exact World.news_of_block (t:=96) (fr:=(0,0)) (heap_alloc_new w3 _)
    case c2=>simp[zAb,Value.oneCell']
    case c3=>unfold maxLen;omega
    case c4=>omega
    case c5=>simp;omega
    intro g1 cap1 w1 hown1 hgrow hat hlt1
    have hW':Below wr.heap.size wr (w3.alloc (.cells (zAb st) 96)):=hW.alloc hw3 _
    have FIN:=zAa (zBq HBL.out hW' HOW.out hgrow)
    have FOW:Hid (w1.ownsRow w.heap.size 96 11 (.slice (some ⟨g1,0,none⟩) (0+1) cap1) ([]++[st]).length (zAA ([]++[st]))):=by
     unfold Hid;rw[zAY,List.length_append];exact hown1
    clear hown1 hgrow hat HOW HBL hW hW' GS
    go_wp2
    go_roundw
    case rel=>exact⟨k+1,[]++[st],by omega,by go_num,by simp,HF,FOW.out,FIN.out⟩
    case measure=>simp[intOf];omega
   ·obtain⟨ac,p,rfl⟩:=zDI acc ha
    obtain⟨g,rfl,hglt⟩:=zBP HOW.out (by simp)
    have hq:=zBc HOW.out rfl ac.length (by simp)
    have hgc:(ac++[p])[ac.length]'(by simp)=p:=by simp
    rw[hgc] at hq
    have z0:wr.cell? ⟨g,ac.length*11,none⟩=some (.int .i64 p.kind):=hq 0 _ rfl
    have z1:wr.cell? ⟨g,ac.length*11+1,none⟩=some (.int .i64 p.line):=hq 1 _ rfl
    have z2:wr.cell? ⟨g,ac.length*11+2,none⟩=some (.int .i64 p.dest):=hq 2 _ rfl
    have z3:wr.cell? ⟨g,ac.length*11+3,none⟩=some (.int .i64 p.var):=hq 3 _ rfl
    have z4:wr.cell? ⟨g,ac.length*11+4,none⟩=some (.bool p.a.reg):=hq 4 _ rfl
    have z5:wr.cell? ⟨g,ac.length*11+5,none⟩=some (.int .i64 p.a.n):=hq 5 _ rfl
    have z6:wr.cell? ⟨g,ac.length*11+6,none⟩=some (.bool p.b.reg):=hq 6 _ rfl
    have z7:wr.cell? ⟨g,ac.length*11+7,none⟩=some (.int .i64 p.b.n):=hq 7 _ rfl
    have z8:wr.cell? ⟨g,ac.length*11+8,none⟩=some (.int .i64 p.order):=hq 8 _ rfl
    have z9:wr.cell? ⟨g,ac.length*11+9,none⟩=some (.int .i64 p.scope):=hq 9 _ rfl
    have z10:wr.cell? ⟨g,ac.length*11+10,none⟩=some (.int .i64 p.label):=hq 10 _ rfl
    have hal:ac.length<10000:=by simp at hac;omega
    clear hq hgc ha
    have el:(ac++[p]).length=ac.length+1:=by simp
    rw[el] at HOW hac
    rw[el]
    generalize hna:ac.length=na at *
    have HNA:=zAa hna
    clear hna
    have hin:((na:Int)<(na:Int)+1):=by omega
    have hn0:(0:Int)≤(na:Int):=by omega
    have hgd:decide ((0:Int)<(na:Int)+1)=true:=decide_eq_true (by omega)
    have hgt:(0:Int)<(na:Int)+1:=by omega
    have hwp:IntKind.i64.wrap (na:Int)=(na:Int):=by simp[IntKind.wrap,IntKind.signed,IntKind.bits];omega
    cases hcv:P.zMh p st
    ·have HF:Hid (((ac++[p])++[st])++P.zKj ((ac++[p])++[st]).getLast? (l.drop (k+1))=P.zKj none l):=by
      unfold Hid;rw[← HR.out,HD.out];simp[P.zKj,P.covO,hcv]
     go_wp2_with (first
      | (refine zAi (.tmp 11) rfl rfl b (k*11) st rfl hr.out ?_))
     go_region_with (go_at_call 78;refine (zEr p st _).mono ?_;rintro e w3 ⟨rfl,hb3⟩;rw[hcv];have hW:Below wr.heap.size wr w3:=((Below.refl wr.heap.size wr).alloc (Nat.le_refl _) _).drew.trans (hb3.mono (by simp));have GS:=((zAw.new wr st).drew).below hb3;obtain⟨f1,f2,s0,s1,s2,s3,s4,s5,s6,s7,s8,s9,s10⟩:=GS.facts;have hw3:=hW.size)
     all_goals
      go_wp2_with (first
       | (at_builtin;refine wpList_append_lies _ rfl (.tmp 26) (.tmp 28) 86 rfl w.heap.size 96 i0 (.agg (zAb P.Stm.zero)) 11 88 Tryz.underlying86 hi hz0 hz1 hz2 rfl (by decide) _ _ _ rfl ((zAd HOW.out (fun j hj=>hW.block j (HOW.out.lt j hj).2)).alloc _) ⟨w3.heap.size,0,none⟩ 1 1 (zAb st).toList rfl rfl ?c1 ?c2 (by decide) ?c3 ?c4 ?c5 _ rfl ?_))
      case c1=>exact World.news_of_block (t:=96) (fr:=(0,0)) (heap_alloc_new w3 _)
      case c2=>simp[zAb,Value.oneCell']
      case c3=>unfold maxLen;omega
      case c4=>omega
      case c5=>simp;omega
      intro g1 cap1 w1 hown1 hgrow hat hlt1
      have hW':Below wr.heap.size wr (w3.alloc (.cells (zAb st) 96)):=hW.alloc hw3 _
      have FIN:=zAa (zBq HBL.out hW' HOW.out hgrow)
      have FOW:Hid (w1.ownsRow w.heap.size 96 11 (.slice (some ⟨g1,0,none⟩) (na+1+1) cap1) (ac++[p]++[st]).length (zAA (ac++[p]++[st]))):=by
       unfold Hid;rw[zAY,List.length_append,el];exact hown1
      clear hown1 hgrow hat HOW HBL hW hW' GS
      go_wp2
      go_roundw
      case rel=>exact⟨k+1,ac++[p]++[st],by omega,by go_num,by rw[List.length_append,el];simp;omega,HF,FOW.out,FIN.out⟩
      case measure=>simp[intOf];omega
    ·have HF:Hid ((ac++[p])++P.zKj (ac++[p]).getLast? (l.drop (k+1))=P.zKj none l):=by
      unfold Hid;rw[← HR.out,HD.out];simp[P.zKj,P.covO,hcv]
     go_wp2_with (first
      | (refine zAi (.tmp 11) rfl rfl b (k*11) st rfl hr.out ?_))
     go_region_with (go_at_call 78;refine (zEr p st _).mono ?_;rintro e w3 ⟨rfl,hb3⟩;rw[hcv];have hW:Below wr.heap.size wr w3:=((Below.refl wr.heap.size wr).alloc (Nat.le_refl _) _).drew.trans (hb3.mono (by simp)))
     all_goals
      go_wp2
      go_roundw
      case rel=>exact⟨k+1,ac++[p],by omega,by go_num,by rw[el];omega,HF,by rw[el];exact zAd HOW.out (fun j hj=>hW.block j (HOW.out.lt j hj).2),HBL.out.trans (hW.mono hws)⟩
      case measure=>simp[intOf];omega
  ·have HE:Hid (P.zKj none l=acc):=by
    unfold Hid
    rw[← HR.out,List.drop_eq_nil_of_le (by have:=HN.out;omega)];simp[P.zKj]
   go_wp2
   go_ret
   exact⟨_,rfl,by rw[HE.out];exact hrow,hbel⟩
end Go.Proofs.YtgceflcbckjjiaaGreatDoor
