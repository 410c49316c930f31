import Derived.Test.YtgceflcbckjjiaaGreatDoorC45
set_option linter.unusedVariables false
set_option linter.unusedSimpArgs false
set_option maxHeartbeats 12800000
namespace Go.Proofs.YtgceflcbckjjiaaGreatDoor
open Go Go.RowKit
set_option maxRecDepth 100000
theorem zJB (B n:Nat) (sa:Option Addr) (sc:Nat) (l:List P.Stm) (w:World) (hown:w.ownsRow B 96 11 (.slice sa n sc) n (zAE l)) (hn:n=l.length) (hnb:n<10000) :
  Calls Tryz.prog 77 #[.slice sa n sc] w fun e w'=>e=.returned (.bool (P.zOL 0 l))∧Below w.heap.size w w':=by
 have HO:=zAa hown
 have HN:=zAa hn
 clear hown hn
 go_enter Tryz.func77,Tryz.ntmps77
 go_wp2
 go_loopw [3,8] (fun c i wr=>∃ (k:Nat) (q:Int),k≤n∧i=.int .i64 k∧c=.int .i64 q∧0≤q∧q≤k∧Hid (P.zOL q (l.drop k)=P.zOL 0 l)∧Below w.heap.size w wr) (fun _ i _=>n-(intOf i).toNat)
 case atStart=>exact⟨0,0,Nat.zero_le _,rfl,rfl,by omega,by omega,by unfold Hid;simp,Below.refl _ _⟩
 case round =>
  obtain⟨k,q,hk,rfl,rfl,hq0,hq1,HR,hbel⟩:=hrel
  have hws:=hbel.size
  by_cases hlt:k<n
  ·obtain⟨b,rfl,hblt⟩:=zBX HO.out (by omega)
   have hkl:k<l.length:=by rw[← HN.out];exact hlt
   have hr:=zAa (zAy (zBd HO.out HN.out k hkl) (hbel.block b hblt))
   have HD:=zAa (P.zOq l k hkl)
   generalize hst:l[k]=st at *
   clear hst
   cases h5:(st.kind==5)
   ·cases hq:(q==1)
    ·go_wp2_with (first | (refine zAj (.tmp 10) rfl rfl b (k*11) st rfl hr.out ?_))
     go_roundw
     case rel =>
      refine⟨k+1,q,by omega,by go_num,rfl,hq0,by omega,?_,hbel.alloc hws _⟩
      unfold Hid;rw[← HR.out,HD.out];simp[P.zOL,h5,hq]
     case measure=>simp[intOf];omega
    ·cases hf:P.ofReg st.kind
     ·have HE:Hid (P.zOL 0 l=false):=by
       unfold Hid;rw[← HR.out,HD.out];simp[P.zOL,h5,hq,hf]
      go_wp2_with (first | (refine zAj (.tmp 10) rfl rfl b (k*11) st rfl hr.out ?_) | (go_at_call 130;refine (zGj _ _).mono ?_;rintro e w' ⟨rfl,rfl⟩;rw[hf]))
      go_ret
      exact⟨by rw[HE.out];rfl,hbel.alloc hws _⟩
     ·go_wp2_with (first | (refine zAj (.tmp 10) rfl rfl b (k*11) st rfl hr.out ?_) | (go_at_call 130;refine (zGj _ _).mono ?_;rintro e w' ⟨rfl,rfl⟩;rw[hf]))
      go_roundw
      case rel =>
       refine⟨k+1,q,by omega,by go_num,rfl,hq0,by omega,?_,hbel.alloc hws _⟩
       unfold Hid;rw[← HR.out,HD.out];simp[P.zOL,h5,hq,hf]
      case measure=>simp[intOf];omega
   ·go_wp2_with (first | (refine zAj (.tmp 10) rfl rfl b (k*11) st rfl hr.out ?_))
    go_roundw
    case rel =>
     refine⟨k+1,q+1,by omega,by go_num,by go_num,by omega,by omega,?_,hbel.alloc hws _⟩
     unfold Hid;rw[← HR.out,HD.out];simp[P.zOL,h5]
    case measure=>simp[intOf];omega
  ·have HE:Hid (P.zOL 0 l=true):=by
    unfold Hid
    rw[← HR.out,List.drop_eq_nil_of_le (by have:=HN.out;omega)];rfl
   go_wp2
   go_ret
   exact⟨by rw[HE.out];rfl,hbel⟩
theorem zJC (B bt n cap:Nat) (bl:Int) (ts:List P.Thr) (w:World) (h:zAn w B (.slice (some ⟨bt,0,none⟩) n cap) ts) (hn:n=ts.length) (hnb:n<10) (hst:∀ t∈ts,t.stmts.length<10000) :
  Calls Tryz.prog 40 #[.agg #[.slice (some ⟨bt,0,none⟩) n cap],.int .i64 bl] w fun e w'=>e=.returned (.bool (P.idleB ts bl))∧Below w.heap.size w w':=by
 have HA:=zAa h
 have HN:=zAa hn
 have HS:=zAa hst
 clear h hn hst
 go_enter Tryz.func40,Tryz.ntmps40
 go_wp2
 go_loopw [10] (fun i wr=>∃ k:Nat,k≤n∧i=.int .i64 k∧Hid (P.idleB (ts.drop k) bl=P.idleB ts bl)∧Below w.heap.size w wr) (fun i _=>n-(intOf i).toNat)
 case atStart=>exact⟨0,Nat.zero_le _,rfl,by unfold Hid;simp,(Below.refl _ _).alloc (Nat.le_refl _) _⟩
 case round =>
  obtain⟨k,hk,rfl,HR,hbel⟩:=hrel
  have hws:w.heap.size≤wr.heap.size:=hbel.size
  by_cases hlt:k<n
  ·have hkl:k<ts.length:=by rw[← HN.out];exact hlt
   obtain⟨hbt,sa,sc,c0,c1,c2,ho⟩:=zCp HA.out HN.out k hkl
   have d0:=cfL hbel hbt c0
   have d1:=cfL hbel hbt c1
   have d2:=cfL hbel hbt c2
   have hls:=HS.out ts[k] (List.getElem_mem hkl)
   have HD:=zAa (P.zOq ts k hkl)
   generalize ts[k]=t at *
   have HC:Hid (∀ w2:World,Below w.heap.size w w2→Calls Tryz.prog 77 #[.slice sa t.stmts.length sc] w2 fun e w'=>e=.returned (.bool (P.zOL 0 t.stmts))∧Below w2.heap.size w2 w'):=fun w2 hb=>zJB B _ sa sc t.stmts w2 (zAc ho (fun j hj=>hb.block j (ho.lt j hj).2)) rfl hls
   clear c0 c1 c2 ho
   by_cases hb:t.block=bl
   ·have nb:(t.block != bl)=false:=by simp[hb]
    cases hi:P.zOL 0 t.stmts
    ·have HE:Hid (P.idleB ts bl=false):=by
      unfold Hid;rw[← HR.out,HD.out];simp[P.idleB,hb,hi]
     go_wp2_with (first | (go_at_call 77;refine (HC.out _ (hbel.alloc hws _)).mono ?_;rintro e w3 ⟨rfl,hb3⟩;rw[hi]))
     go_ret
     exact⟨by rw[HE.out];rfl,(hbel.alloc hws _).trans (hb3.mono (by simp;omega))⟩
    ·have HE:Hid (P.idleB (ts.drop (k+1)) bl=P.idleB ts bl):=by
      unfold Hid;rw[← HR.out,HD.out];simp[P.idleB,hb,hi]
     go_wp2_with (first | (go_at_call 77;refine (HC.out _ (hbel.alloc hws _)).mono ?_;rintro e w3 ⟨rfl,hb3⟩;rw[hi]))
     go_roundw
     case rel=>exact⟨k+1,by omega,by go_num,HE,(hbel.alloc hws _).trans (hb3.mono (by simp;omega))⟩
     case measure=>simp[intOf];omega
   ·have nb:(t.block != bl)=true:=by simp[hb]
    have HE:Hid (P.idleB (ts.drop (k+1)) bl=P.idleB ts bl):=by
     unfold Hid;rw[← HR.out,HD.out];simp[P.idleB,hb]
    go_wp2
    go_roundw
    case rel=>exact⟨k+1,by omega,by go_num,HE,hbel.alloc hws _⟩
    case measure=>simp[intOf];omega
  ·have HE:Hid (P.idleB ts bl=true):=by
    unfold Hid
    rw[← HR.out,List.drop_eq_nil_of_le (by have:=HN.out;omega)];rfl
   go_wp2
   go_ret
   exact⟨by rw[HE.out];rfl,hbel⟩
theorem zIC (B2 m sc:Nat) (sa:Option Addr) (l:List P.Stm) (w:World)
  (hown:w.ownsRow B2 96 11 (.slice sa m sc) m (zAE l)) (hm:m=l.length) (hmb:m<10000) :
  Calls Tryz.prog 41 #[.slice sa m sc] w fun e w'=>∃ v,e=.returned v∧w'.ownsRow w.heap.size 96 11 v (P.zOl 0 l).length (zAE (P.zOl 0 l))∧Below w.heap.size w w':=by
 obtain⟨i0,hi,hz0,hz1,hz2⟩:=info_parts Tryz.infoStm
 have HO:=zAa hown
 have HN:=zAa hm
 clear hown hm
 go_enter Tryz.func41,Tryz.ntmps41
 go_wp2
 go_loopw [3,4,9] (fun c o i wr=>∃ (k:Nat) (q:Int) (acc:List P.Stm),k≤m∧i=.int .i64 k∧c=.int .i64 q∧0≤q∧q≤k∧acc.length≤k∧Hid (acc++P.zOl q (l.drop k)=P.zOl 0 l)∧wr.ownsRow w.heap.size 96 11 o acc.length (zAE acc)∧Below w.heap.size w wr) (fun _ _ i _=>m-(intOf i).toNat)
 case atStart=>exact⟨0,0,[],Nat.zero_le _,rfl,rfl,by omega,by omega,by simp,by unfold Hid;simp,by simpa [zAE] using World.ownsRow_nil _ _ _ _,Below.refl _ _⟩
 case round =>
  obtain⟨k,q,acc,hk,rfl,rfl,hq0,hq1,hac,HR,hrow,hbel⟩:=hrel
  have hws:=hbel.size
  by_cases hlt:k<m
  ·obtain⟨b,rfl,hblt⟩:=zBX HO.out (by omega)
   have hkl:k<l.length:=by rw[← HN.out];exact hlt
   have hr:=zAa (zAy (zBd HO.out HN.out k hkl) (hbel.block b hblt))
   have HD:=zAa (P.zOq l k hkl)
   have HOW:=zAa hrow
   have HBL:=zAa hbel
   generalize hst:l[k]=st at *
   clear hst hrow hbel
   have step:∀ q':Int,P.zOl q (st::l.drop (k+1))=st::P.zOl q' (l.drop (k+1))→(acc++[st])++P.zOl q' (l.drop (k+1))=P.zOl 0 l:=fun q' h=>by
    rw[← HR.out,HD.out,h];simp
   have HST:=zAa step
   clear step
   by_cases h5:st.kind=5
   ·by_cases hq:q+1=2
    ·have HF:Hid (acc++P.zOl (q+1) (l.drop (k+1))=P.zOl 0 l):=by
      unfold Hid;rw[← HR.out,HD.out];simp[P.zOl,h5,hq]
     have b5:(st.kind==5)=true:=by simp[h5]
     have bq:(q+1==2)=true:=by simp[hq]
     clear h5 hq HST
     go_wp2_with (first | (refine zAj (.tmp 11) rfl rfl b (k*11) st rfl hr.out ?_))
     go_roundw
     case rel=>exact⟨k+1,q+1,acc,by omega,by go_num,by go_num,by omega,by omega,by omega,HF,HOW.out.alloc _,HBL.out.alloc hws _⟩
     case measure=>simp[intOf];omega
    ·have b5:(st.kind==5)=true:=by simp[h5]
     have bq:(q+1==2)=false:=by simp[hq]
     have HF:Hid ((acc++[st])++P.zOl (q+1) (l.drop (k+1))=P.zOl 0 l):=HST.out (q+1) (by simp[P.zOl,h5,hq])
     clear h5 hq HST
     go_wp2_with (first
      | (refine zAj (.tmp 11) rfl rfl b (k*11) st rfl hr.out ?_)
      | (at_builtin;refine wpList_append_lies _ rfl (.tmp 20) (.tmp 22) 86 rfl w.heap.size 96 i0 (.agg (zAb P.Stm.zero)) 11 88 Tryz.underlying86 hi hz0 hz1 hz2 rfl (by decide) _ _ _ rfl ((HOW.out.alloc _).alloc _) ⟨wr.heap.size+1,0,none⟩ 1 1 (zAb st).toList (by simp[Act.eval]) rfl ?c1 ?c2 (by decide) ?c3 ?c4 ?c5 _ rfl ?_))
     case c1=>exact zKZ wr (zAb st) _ _
     case c2=>simp[zAb,Value.oneCell']
     case c3=>unfold maxLen;omega
     case c4=>omega
     case c5=>simp;omega
     intro g1 cap1 w1 hown1 hgrow hat hlt1
     have hW':Below wr.heap.size wr ((wr.alloc (.cells (zAb st) 96)).alloc (.cells (zAb st) 96)):=((Below.refl _ _).alloc (Nat.le_refl _) _).alloc (by simp) _
     have FIN:=zAa (zBx HBL.out hW' HOW.out hgrow)
     have FOW:Hid (w1.ownsRow w.heap.size 96 11 (.slice (some ⟨g1,0,none⟩) (acc.length+1) cap1) (acc++[st]).length (zAE (acc++[st]))):=by
      unfold Hid;rw[zBb];simpa using hown1
     clear hown1 hgrow hat HOW HBL hW'
     go_wp2
     go_roundw
     case rel=>exact⟨k+1,q+1,acc++[st],by omega,by go_num,by go_num,by omega,by omega,by simp;omega,HF,FOW.out,FIN.out⟩
     case measure=>simp[intOf];omega
   ·have b5:(st.kind==5)=false:=by simp[h5]
    have HF:Hid ((acc++[st])++P.zOl q (l.drop (k+1))=P.zOl 0 l):=HST.out q (by simp[P.zOl,h5])
    clear h5 HST
    go_wp2_with (first
     | (refine zAj (.tmp 11) rfl rfl b (k*11) st rfl hr.out ?_)
     | (at_builtin;refine wpList_append_lies _ rfl (.tmp 20) (.tmp 22) 86 rfl w.heap.size 96 i0 (.agg (zAb P.Stm.zero)) 11 88 Tryz.underlying86 hi hz0 hz1 hz2 rfl (by decide) _ _ _ rfl ((HOW.out.alloc _).alloc _) ⟨wr.heap.size+1,0,none⟩ 1 1 (zAb st).toList (by simp[Act.eval]) rfl ?c1 ?c2 (by decide) ?c3 ?c4 ?c5 _ rfl ?_))
    case c1=>exact zKZ wr (zAb st) _ _
    case c2=>simp[zAb,Value.oneCell']
    case c3=>unfold maxLen;omega
    case c4=>omega
    case c5=>simp;omega
    intro g1 cap1 w1 hown1 hgrow hat hlt1
    have hW':Below wr.heap.size wr ((wr.alloc (.cells (zAb st) 96)).alloc (.cells (zAb st) 96)):=((Below.refl _ _).alloc (Nat.le_refl _) _).alloc (by simp) _
    have FIN:=zAa (zBx HBL.out hW' HOW.out hgrow)
    have FOW:Hid (w1.ownsRow w.heap.size 96 11 (.slice (some ⟨g1,0,none⟩) (acc.length+1) cap1) (acc++[st]).length (zAE (acc++[st]))):=by
     unfold Hid;rw[zBb];simpa using hown1
    clear hown1 hgrow hat HOW HBL hW'
    go_wp2
    go_roundw
    case rel=>exact⟨k+1,q,acc++[st],by omega,by go_num,rfl,by omega,by omega,by simp;omega,HF,FOW.out,FIN.out⟩
    case measure=>simp[intOf];omega
  ·have HE:Hid (P.zOl 0 l=acc):=by
    unfold Hid
    rw[← HR.out,List.drop_eq_nil_of_le (by have:=HN.out;omega)];simp[P.zOl]
   go_wp2
   go_ret
   exact⟨_,rfl,by rw[HE.out];exact hrow,hbel⟩
theorem zFk (a b:P.Stm) (w:World) :
  Calls Tryz.prog 78 #[.agg (zAb a),.agg (zAb b)] w fun e w'=>e=.returned (.bool (P.zQu a b))∧Below w.heap.size w w':=by
 simp only[zAb]
 by_cases h1:a.kind=4
 ·by_cases h2:b.kind=4
  ·have n1:(a.kind != 4)=false:=by simp[h1]
   have n2:(b.kind != 4)=false:=by simp[h2]
   cases h3:(a.order==5)<;>cases h4:(b.order==4)<;>cases h5:(a.scope==1)<;>cases h6:(b.scope==0)
   all_goals
    go_enter Tryz.func78,Tryz.ntmps78
    go_wp2
    go_ret
    exact⟨by simp[P.zQu,h1,h2,h3,h4,h5,h6],((Below.refl _ _).alloc (Nat.le_refl _) _).alloc (by simp) _⟩
  ·have n1:(a.kind != 4)=false:=by simp[h1]
   have n2:(b.kind != 4)=true:=by simp[h2]
   go_enter Tryz.func78,Tryz.ntmps78
   go_wp2
   go_ret
   exact⟨by simp[P.zQu,h1,h2],((Below.refl _ _).alloc (Nat.le_refl _) _).alloc (by simp) _⟩
 ·have n1:(a.kind != 4)=true:=by simp[h1]
  go_enter Tryz.func78,Tryz.ntmps78
  go_wp2
  go_ret
  exact⟨by simp[P.zQu,h1],((Below.refl _ _).alloc (Nat.le_refl _) _).alloc (by simp) _⟩
theorem zHD (B2 m sc:Nat) (sa:Option Addr) (l:List P.Stm) (w:World)
  (hown:w.ownsRow B2 96 11 (.slice sa m sc) m (zAE l)) (hm:m=l.length) (hmb:m<10000) :
  Calls Tryz.prog 42 #[.slice sa m sc] w fun e w'=>∃ v,e=.returned v∧w'.ownsRow w.heap.size 96 11 v (P.zOg none l).length (zAE (P.zOg none l))∧Below w.heap.size w w':=by
 obtain⟨i0,hi,hz0,hz1,hz2⟩:=info_parts Tryz.infoStm
 have HO:=zAa hown
 have HN:=zAa hm
 clear hown hm
 go_enter Tryz.func42,Tryz.ntmps42
 go_wp2
 go_loopw [3,9] (fun o i wr=>∃ (k:Nat) (acc:List P.Stm),k≤m∧i=.int .i64 k∧acc.length≤k∧Hid (acc++P.zOg acc.getLast? (l.drop k)=P.zOg none l)∧wr.ownsRow w.heap.size 96 11 o acc.length (zAE acc)∧Below w.heap.size w wr) (fun _ i _=>m-(intOf i).toNat)
 case atStart=>exact⟨0,[],Nat.zero_le _,rfl,by simp,by unfold Hid;simp,by simpa [zAE] using World.ownsRow_nil _ _ _ _,Below.refl _ _⟩
 case round =>
  obtain⟨k,acc,hk,rfl,hac,HR,hrow,hbel⟩:=hrel
  have hws:=hbel.size
  by_cases hlt:k<m
  ·obtain⟨b,rfl,hblt⟩:=zBX HO.out (by omega)
   have hkl:k<l.length:=by rw[← HN.out];exact hlt
   have hr:=zAa (zAy (zBd HO.out HN.out k hkl) (hbel.block b hblt))
   have HD:=zAa (P.zOq l k hkl)
   have HOW:=zAa hrow
   have HBL:=zAa hbel
   generalize hst:l[k]=st at *
   clear hst hrow hbel
   obtain⟨oa,oc,rfl⟩:∃ oa oc,u3=.slice oa acc.length oc:=by
    rcases HOW.out.2 with ⟨e,h0⟩ | ⟨k,c,cur,e,_⟩
    ·exact⟨none,0,by rw[e,h0]⟩
    ·exact⟨_,c,e⟩
   by_cases ha:acc=[]
   ·subst ha
    have HF:Hid (([]++[st])++P.zOg ([]++[st]).getLast? (l.drop (k+1))=P.zOg none l):=by
     unfold Hid;rw[← HR.out,HD.out];simp[P.zOg,P.covO]
    have HOW:Hid (wr.ownsRow w.heap.size 96 11 (.slice oa 0 oc) 0 (zAE [])):=HOW
    simp only[List.length_nil]
    go_wp2_with (first
     | (refine zAj (.tmp 11) rfl rfl b (k*11) st rfl hr.out ?_))
    go_quiet (fail)
    have hW:Below wr.heap.size wr ((wr.alloc (.cells (zAb st) 96)).drewN nq):=zDk ((Below.refl wr.heap.size wr).alloc (Nat.le_refl _) _) _
    have GS:zAv ((wr.alloc (.cells (zAb st) 96)).drewN nq) wr.heap.size st:=zAv.new wr st
    simp only[zAb] at hW GS
    generalize (wr.alloc (.cells #[.int .i64 st.kind,.int .i64 st.line,.int .i64 st.dest,.int .i64 st.var,.bool st.a.reg,.int .i64 st.a.n,.bool st.b.reg,.int .i64 st.b.n,.int .i64 st.order,.int .i64 st.scope,.int .i64 st.label] 96)).drewN nq=w3 at *
    obtain⟨f1,f2,s0,s1,s2,s3,s4,s5,s6,s7,s8,s9,s10⟩:=GS.facts
    have hw3:=hW.size
    go_wp2_with (first
     | (at_builtin;refine wpList_append_lies _ rfl (.tmp 26) (.tmp 28) 86 rfl w.heap.size 96 i0 (.agg (zAb P.Stm.zero)) 11 88 Tryz.underlying86 hi hz0 hz1 hz2 rfl (by decide) _ _ _ rfl ((zAc HOW.out (fun j hj=>hW.block j (HOW.out.lt j hj).2)).alloc _) ⟨w3.heap.size,0,none⟩ 1 1 (zAb st).toList rfl rfl ?c1 ?c2 (by decide) ?c3 ?c4 ?c5 _ rfl ?_))
    case c1=>exact World.news_of_block (t:=96) (fr:=(0,0)) (heap_alloc_new w3 _)
    case c2=>simp[zAb,Value.oneCell']
    case c3=>unfold maxLen;omega
    case c4=>omega
    case c5=>simp;omega
    intro g1 cap1 w1 hown1 hgrow hat hlt1
    have hW':Below wr.heap.size wr (w3.alloc (.cells (zAb st) 96)):=hW.alloc hw3 _
    have FIN:=zAa (zBx HBL.out hW' HOW.out hgrow)
    have FOW:Hid (w1.ownsRow w.heap.size 96 11 (.slice (some ⟨g1,0,none⟩) (0+1) cap1) ([]++[st]).length (zAE ([]++[st]))):=by
     unfold Hid;rw[zBb,List.length_append];exact hown1
    clear hown1 hgrow hat HOW HBL hW hW' GS
    go_wp2
    go_roundw
    case rel=>exact⟨k+1,[]++[st],by omega,by go_num,by simp,HF,FOW.out,FIN.out⟩
    case measure=>simp[intOf];omega
   ·obtain⟨ac,p,rfl⟩:=zDF acc ha
    obtain⟨g,rfl,hglt⟩:=zBX HOW.out (by simp)
    have hq:=zBd HOW.out rfl ac.length (by simp)
    have hgc:(ac++[p])[ac.length]'(by simp)=p:=by simp
    rw[hgc] at hq
    have z0:wr.cell? ⟨g,ac.length*11,none⟩=some (.int .i64 p.kind):=hq 0 _ rfl
    have z1:wr.cell? ⟨g,ac.length*11+1,none⟩=some (.int .i64 p.line):=hq 1 _ rfl
    have z2:wr.cell? ⟨g,ac.length*11+2,none⟩=some (.int .i64 p.dest):=hq 2 _ rfl
    have z3:wr.cell? ⟨g,ac.length*11+3,none⟩=some (.int .i64 p.var):=hq 3 _ rfl
    have z4:wr.cell? ⟨g,ac.length*11+4,none⟩=some (.bool p.a.reg):=hq 4 _ rfl
    have z5:wr.cell? ⟨g,ac.length*11+5,none⟩=some (.int .i64 p.a.n):=hq 5 _ rfl
    have z6:wr.cell? ⟨g,ac.length*11+6,none⟩=some (.bool p.b.reg):=hq 6 _ rfl
    have z7:wr.cell? ⟨g,ac.length*11+7,none⟩=some (.int .i64 p.b.n):=hq 7 _ rfl
    have z8:wr.cell? ⟨g,ac.length*11+8,none⟩=some (.int .i64 p.order):=hq 8 _ rfl
    have z9:wr.cell? ⟨g,ac.length*11+9,none⟩=some (.int .i64 p.scope):=hq 9 _ rfl
    have z10:wr.cell? ⟨g,ac.length*11+10,none⟩=some (.int .i64 p.label):=hq 10 _ rfl
    have hal:ac.length<10000:=by simp at hac;omega
    clear hq hgc ha
    have el:(ac++[p]).length=ac.length+1:=by simp
    rw[el] at HOW hac
    rw[el]
    generalize hna:ac.length=na at *
    have HNA:=zAa hna
    clear hna
    have hin:((na:Int)<(na:Int)+1):=by omega
    have hn0:(0:Int)≤(na:Int):=by omega
    have hgd:decide ((0:Int)<(na:Int)+1)=true:=decide_eq_true (by omega)
    have hgt:(0:Int)<(na:Int)+1:=by omega
    have hwp:IntKind.i64.wrap (na:Int)=(na:Int):=by simp[IntKind.wrap,IntKind.signed,IntKind.bits];omega
    cases hcv:P.zQu p st
    ·have HF:Hid (((ac++[p])++[st])++P.zOg ((ac++[p])++[st]).getLast? (l.drop (k+1))=P.zOg none l):=by
      unfold Hid;rw[← HR.out,HD.out];simp[P.zOg,P.covO,hcv]
     go_wp2_with (first
      | (refine zAj (.tmp 11) rfl rfl b (k*11) st rfl hr.out ?_))
     go_region_with (go_at_call 78;refine (zFk p st _).mono ?_;rintro e w3 ⟨rfl,hb3⟩;rw[hcv];have hW:Below wr.heap.size wr w3:=((Below.refl wr.heap.size wr).alloc (Nat.le_refl _) _).drew.trans (hb3.mono (by simp));have GS:=((zAv.new wr st).drew).below hb3;obtain⟨f1,f2,s0,s1,s2,s3,s4,s5,s6,s7,s8,s9,s10⟩:=GS.facts;have hw3:=hW.size)
     all_goals
      go_wp2_with (first
       | (at_builtin;refine wpList_append_lies _ rfl (.tmp 26) (.tmp 28) 86 rfl w.heap.size 96 i0 (.agg (zAb P.Stm.zero)) 11 88 Tryz.underlying86 hi hz0 hz1 hz2 rfl (by decide) _ _ _ rfl ((zAc HOW.out (fun j hj=>hW.block j (HOW.out.lt j hj).2)).alloc _) ⟨w3.heap.size,0,none⟩ 1 1 (zAb st).toList rfl rfl ?c1 ?c2 (by decide) ?c3 ?c4 ?c5 _ rfl ?_))
      case c1=>exact World.news_of_block (t:=96) (fr:=(0,0)) (heap_alloc_new w3 _)
      case c2=>simp[zAb,Value.oneCell']
      case c3=>unfold maxLen;omega
      case c4=>omega
      case c5=>simp;omega
      intro g1 cap1 w1 hown1 hgrow hat hlt1
      have hW':Below wr.heap.size wr (w3.alloc (.cells (zAb st) 96)):=hW.alloc hw3 _
      have FIN:=zAa (zBx HBL.out hW' HOW.out hgrow)
      have FOW:Hid (w1.ownsRow w.heap.size 96 11 (.slice (some ⟨g1,0,none⟩) (na+1+1) cap1) (ac++[p]++[st]).length (zAE (ac++[p]++[st]))):=by
       unfold Hid;rw[zBb,List.length_append,el];exact hown1
      clear hown1 hgrow hat HOW HBL hW hW' GS
      go_wp2
      go_roundw
      case rel=>exact⟨k+1,ac++[p]++[st],by omega,by go_num,by rw[List.length_append,el];simp;omega,HF,FOW.out,FIN.out⟩
      case measure=>simp[intOf];omega
    ·have HF:Hid ((ac++[p])++P.zOg (ac++[p]).getLast? (l.drop (k+1))=P.zOg none l):=by
      unfold Hid;rw[← HR.out,HD.out];simp[P.zOg,P.covO,hcv]
     go_wp2_with (first
      | (refine zAj (.tmp 11) rfl rfl b (k*11) st rfl hr.out ?_))
     go_region_with (go_at_call 78;refine (zFk p st _).mono ?_;rintro e w3 ⟨rfl,hb3⟩;rw[hcv];have hW:Below wr.heap.size wr w3:=((Below.refl wr.heap.size wr).alloc (Nat.le_refl _) _).drew.trans (hb3.mono (by simp)))
     all_goals
      go_wp2
      go_roundw
      case rel=>exact⟨k+1,ac++[p],by omega,by go_num,by rw[el];omega,HF,by rw[el];exact zAc HOW.out (fun j hj=>hW.block j (HOW.out.lt j hj).2),HBL.out.trans (hW.mono hws)⟩
      case measure=>simp[intOf];omega
  ·have HE:Hid (P.zOg none l=acc):=by
    unfold Hid
    rw[← HR.out,List.drop_eq_nil_of_le (by have:=HN.out;omega)];simp[P.zOg]
   go_wp2
   go_ret
   exact⟨_,rfl,by rw[HE.out];exact hrow,hbel⟩
theorem zCK {w:World} {B:Nat} {v:Value} {n:Nat} {xs:List Value} {e:TypeId} {sz:Nat} (h:w.ownsRow B e sz v n xs):∃ a c,v=.slice a n c:=by
 rcases h.2 with ⟨e,h0⟩ | ⟨k,c,cur,e,_⟩
 ·exact⟨none,0,by rw[e,h0]⟩
 ·exact⟨_,c,e⟩
theorem zHp {w wr W w1:World} {o v:Value} {outs:List P.Thr} {vs:List Value} {t:P.Thr} {g1 cap1 n B':Nat} (hb:Below w.heap.size w wr) (hrow:wr.ownsRow w.heap.size 88 3 o n (zAH outs vs)) (hn:outs.length=n) (hst:zAM wr w.heap.size outs vs) (hW:Below wr.heap.size wr W)
  (hB:wr.heap.size≤B') (hv:W.ownsRow B' 96 11 v t.stmts.length (zAE t.stmts)) (hgrow:W.grownBy w1 o.ownBlock) (hown1:w1.ownsRow w.heap.size 88 3 (.slice (some ⟨g1,0,none⟩) (n+1) cap1) (n+1) (zAH outs vs++[.int .i64 t.block,.int .i64 t.line,v])) :
  w1.ownsRow w.heap.size 88 3 (.slice (some ⟨g1,0,none⟩) (n+1) cap1) (n+1) (zAH (outs++[t]) (vs++[v]))∧zAM w1 w.heap.size (outs++[t]) (vs++[v]):=by
 have hl:=hst.length
 have h1:=hb.size
 have h2:=hW.size
 refine⟨by rw[zBz _ _ _ _ hl];exact hown1,(zBK _ _ _ _).2 ⟨hst.keep (fun u hu k hk=>?_),?_,fun u hu=>?_⟩⟩
 ·obtain⟨n',xs',hu'⟩:=hst.mem u hu
  have hlt:=(hu'.lt k hk).2
  rw[hgrow.block k (by omega) (Ne.symm (own_ne hu' hrow (by decide) hk)),hW.block k hlt]
 ·have hv2:W.ownsRow w.heap.size 96 11 v t.stmts.length (zAE t.stmts):=zBV hv (by omega)
  refine zAc hv2 (fun k hk=>hgrow.block k (hv.lt k hk).2 (fun e=>?_))
  have h3:=(hv.lt k hk).1
  have h4:=(hrow.lt k e.symm).2
  omega
 ·obtain⟨n',xs',hu'⟩:=hst.mem u hu
  cases hk:u.ownBlock with
  | none=>exact .inl rfl
  | some k =>
   refine .inr (fun e=>?_)
   have h3:=(hv.lt k e.symm).1
   have h4:=(hu'.lt k hk).2
   omega
theorem zCj {ops:Array Oper} {rest:List Oper} {op:Oper} {a:Act} {w:World} {Q:Exit→Act→World→Prop} (x:Operand) (hgd:op.guard=none) (ho:op.op=.load 88 x)
  (g:Nat) (b l:Int) (v:Value) (hx:a.eval x=.pointer (some ⟨g,0,none⟩)) (hg:w.heap[g]?=some (.cells #[.int .i64 b,.int .i64 l,v] 88 (0,0)))
  (h:wpList Tryz.prog ops Q rest (a.put op.dst (.agg #[.int .i64 b,.int .i64 l,v])) w):wpList Tryz.prog ops Q (op::rest) a w :=
 zBP hgd _ x ho g hx _ _ hg _ Tryz.underlying88 rfl (by kernel_rfl) h
theorem zCL {w:World} {g:Nat} {b l:Int} {v:Value} (h:w.heap[g]?=some (.cells #[.int .i64 b,.int .i64 l,v] 88 (0,0))):g<w.heap.size∧w.cell? ⟨g,0,none⟩=some (.int .i64 b)∧w.cell? ⟨g,1,none⟩=some (.int .i64 l)∧w.cell? ⟨g,2,none⟩=some v∧w.frozen? ⟨g,0,none⟩=false∧w.frozen? ⟨g,1,none⟩=false∧w.frozen? ⟨g,2,none⟩=false:=by
 refine⟨(Array.getElem?_eq_some_iff.1 h).1,?_,?_,?_,?_,?_,?_⟩<;>simp[World.cell?,World.frozen?,h]
theorem zFE {w:World} {g:Nat} {b l:Int} {v:Value} (h:w.heap[g]?=some (.cells #[.int .i64 b,.int .i64 l,v] 88 (0,0))) (u:Value):(w.setCell ⟨g,2,none⟩ u).heap[g]?=some (.cells #[.int .i64 b,.int .i64 l,u] 88 (0,0)):=by
 rw[zAe h];rfl
theorem zGG {fn:Func} {R:Ending→World→Prop} {a:Act} {w:World} {p:Tmp} (g:Nat) (tv:Value) (hres:fn.results=#[.cell p 48])
  (hp:a.tmps.getD p undef=.pointer (some ⟨g,0,none⟩)) (h:w.heap[g]?=some (.cells #[tv] 48 (0,0))) (hd:a.defers=[]) (hR:R (.returned (.agg #[tv])) w):bodyPost Tryz.prog fn R .ret a w:=by
 refine bodyPost_ret (v:=.agg #[tv]) ?_ hd hR
 have e:(results fn a.tmps).run Tryz.prog w=((asAddr (a.tmps.getD p undef)).run Tryz.prog w).andThen fun a w₁=>((loadVar 48 a).run Tryz.prog w₁):=by
  simp only[results,hres]
  simp[Sem.run_bind,Result.andThen]
 rw[e,hp]
 have:(asAddr (.pointer (some ⟨g,0,none⟩))).run Tryz.prog w=.ok ⟨g,0,none⟩ w:=rfl
 rw[this,Result.andThen_ok,zBc w g _ _ _ h _ Tryz.underlying48 rfl (by kernel_rfl)]
theorem zJD (ts:List P.Thr) (k:Nat) (h:k<ts.length):(ts.take (k+1)).map (P.trimT ts)=(ts.take k).map (P.trimT ts)++[P.trimT ts ts[k]]:=by
 rw[List.take_succ_eq_append_getElem h,List.map_append];rfl
theorem zHE (l:List P.Stm):∀ c,(P.zOl c l).length≤l.length:=by
 induction l with
 | nil=>intro c;simp[P.zOl]
 | cons s r ih =>
  intro c
  simp only[P.zOl]
  have h1:=ih (c+1)
  have h2:=ih c
  repeat' split
  all_goals simp only[List.length_cons];omega
theorem zKr (l:List P.Stm):∀ p,(P.zOg p l).length≤l.length:=by
 induction l with
 | nil=>intro p;simp[P.zOg]
 | cons s r ih =>
  intro p
  simp only[P.zOg]
  have h1:=ih p
  have h2:=ih (some s)
  split
  all_goals simp only[List.length_cons];omega
theorem zEJ (B bt n cap:Nat) (ts:List P.Thr) (w:World) (h:zAn w B (.slice (some ⟨bt,0,none⟩) n cap) ts) (hn:n=ts.length) (hnb:n<10) (h0:0<n) (hst:∀ t∈ts,t.stmts.length<10000) :
  Calls Tryz.prog 25 #[.agg #[.slice (some ⟨bt,0,none⟩) n cap]] w fun e w'=>∃ bt' cap',e=.returned (.agg #[.slice (some ⟨bt',0,none⟩) n cap'])∧zAn w' w.heap.size (.slice (some ⟨bt',0,none⟩) n cap') (P.zOM ts)∧Below w.heap.size w w':=by
 obtain⟨i0,hi,hz0,hz1,hz2⟩:=info_parts Tryz.infoThr
 have HA:=zAa h
 have HN:=zAa hn
 have HS:=zAa hst
 clear h hn hst
 go_enter Tryz.func25,Tryz.ntmps25
 go_wp2
 go_loopw [3,10] (fun o i wr=>∃ (k:Nat) (vs:List Value),k≤n∧i=.int .i64 k∧wr.ownsRow w.heap.size 88 3 o k (zAH ((ts.take k).map (P.trimT ts)) vs)∧Hid (zAM wr w.heap.size ((ts.take k).map (P.trimT ts)) vs)∧Below w.heap.size w wr∧wr.heap[w.heap.size]?=some (.cells #[.slice (some ⟨bt,0,none⟩) n cap] 48 (0,0))∧wr.heap[w.heap.size+1]?=some (.cells #[.slice none 0 0] 48 (0,0))) (fun _ i _=>n-(intOf i).toNat)
 case atStart =>
  refine⟨0,[],Nat.zero_le _,rfl,by simpa [zAH] using World.ownsRow_nil _ _ _ _,by unfold Hid;simp[zAM],((Below.refl _ _).alloc (Nat.le_refl _) _).alloc (by simp) _,?_,?_⟩
  ·rw[Below.heap_alloc _ _ _ (by simp)];exact heap_alloc_new w _
  ·have:=heap_alloc_new (w.alloc (.cells #[.slice (some ⟨bt,0,none⟩) n cap] 48)) (.cells #[.slice none 0 0] 48);simpa using this
 case round =>
  obtain⟨k,vs,hk,rfl,hrow,HST,hbel,hbox,hres⟩:=hrel
  have e0:=ceL hbox 0 _ rfl
  have hwlt:w.heap.size<wr.heap.size:=(Array.getElem?_eq_some_iff.1 hbox).1
  have hrlt:w.heap.size+1<wr.heap.size:=(Array.getElem?_eq_some_iff.1 hres).1
  by_cases hlt:k<n
  ·have hkl:k<ts.length:=by rw[← HN.out];exact hlt
   obtain⟨hbt,sa,sc,c0,c1,c2,ho⟩:=zCp HA.out HN.out k hkl
   have d0:=cfL hbel hbt c0
   have d1:=cfL hbel hbt c1
   have d2:=cfL hbel hbt c2
   have hls:=HS.out ts[k] (List.getElem_mem hkl)
   have HSN:=zAa (zJD ts k hkl)
   have HLT:Hid (((ts.take k).map (P.trimT ts)).length=k):=by unfold Hid;simp;omega
   generalize ts[k]=t at *
   have HTR:Hid (P.trimT ts t={ t with stmts:=P.zOg none (P.zQB ts t.block (P.zOw ts t.stmts)) }):=rfl
   have HCN:Hid (∀ w2:World,Below w.heap.size w w2→Calls Tryz.prog 39 #[.agg #[.slice (some ⟨bt,0,none⟩) n cap],.slice sa t.stmts.length sc] w2 fun e w'=>∃ v,e=.returned v∧w'.ownsRow w2.heap.size 96 11 v t.stmts.length (zAE (P.zOw ts t.stmts))∧Below w2.heap.size w2 w'):=fun w2 hb=>zGE B bt n cap B t.stmts.length sc sa ts t.stmts w2 (HA.out.keep (fun k hk=>hb.block k hk)) HN.out hnb h0 HS.out (zAc ho (fun j hj=>hb.block j (ho.lt j hj).2)) rfl hls
   have HCI:Hid (∀ w2:World,Below w.heap.size w w2→Calls Tryz.prog 40 #[.agg #[.slice (some ⟨bt,0,none⟩) n cap],.int .i64 t.block] w2 fun e w'=>e=.returned (.bool (P.idleB ts t.block))∧Below w2.heap.size w2 w'):=fun w2 hb=>zJC B bt n cap t.block ts w2 (HA.out.keep (fun k hk=>hb.block k hk)) HN.out hnb HS.out
   have HROW:=zAa hrow
   have HBL:=zAa hbel
   have HNL:Hid ((P.zOw ts t.stmts).length=t.stmts.length):=by unfold Hid;simp[P.zOw]
   generalize hnl:P.zOw ts t.stmts=nl at *
   clear c0 c1 c2 ho hrow hbel hnl
   cases hid:P.idleB ts t.block
   ·skip
    have HT2:Hid (P.trimT ts t={ t with stmts:=P.zOg none (nl) }):=by unfold Hid;rw[HTR.out];simp[P.zQB,hid]
    go_wp2_with (first
     | (go_at_call 39;refine (HCN.out _ (HBL.out.alloc (by omega) _)).mono ?_;rintro e w3 ⟨v3,rfl,hr3,hb3⟩;obtain⟨a3,c3,rfl⟩:=zCK hr3;have hW3:Below wr.heap.size wr w3:=((Below.refl wr.heap.size wr).alloc (Nat.le_refl _) _).trans (hb3.mono (by simp));have hB3:Below w.heap.size w w3:=HBL.out.trans (hW3.mono (by omega));have TB3:w3.heap[wr.heap.size]?=some (.cells #[.int .i64 t.block,.int .i64 t.line,.slice sa t.stmts.length sc] 88 (0,0)):=(hb3.block _ (by simp)).trans (heap_alloc_new wr _);obtain⟨p1,p2,p3,p4,p5,p6,p7⟩:=zCL TB3;have e3:=cfL hW3 hwlt e0;have HR3:=zAa hr3;have hw3:=hW3.size)
     | (go_at_call 40;refine (HCI.out _ hB3).mono ?_;rintro e w4 ⟨rfl,hb4⟩;rw[hid];have hW4:Below wr.heap.size wr w4:=hW3.trans (hb4.mono hw3);have hw4:=hb4.size;have TB4:=(hb4.block _ p1).trans TB3;have HR4:Hid (w4.ownsRow (wr.heap.size+1) 96 11 (.slice a3 t.stmts.length c3) t.stmts.length (zAE nl)):=zAc (zBV HR3.out (by simp)) (fun j hj=>hb4.block j (HR3.out.lt j hj).2))
     | (go_at_call 42;refine (zHD _ t.stmts.length c3 a3 nl _ HR4.out HNL.out.symm hls).mono ?_;rintro e w6 ⟨v6,rfl,hr6,hb6⟩;obtain⟨a6,c6,rfl⟩:=zCK hr6;have hW6:Below wr.heap.size wr w6:=hW4.trans (hb6.mono (by omega));have hw6:=hb6.size;have TB6:=(hb6.block _ (by omega)).trans TB4;obtain⟨q1,q2,q3,q4,q5,q6,q7⟩:=zCL TB6;have TS:=zAa (zFE TB6 (.slice a6 (P.zOg none nl).length c6));have WS:=zAa (hW6.setCell (p:=⟨wr.heap.size,2,none⟩) (Nat.le_refl _) (.slice a6 (P.zOg none nl).length c6));have VS:Hid ((w6.setCell ⟨wr.heap.size,2,none⟩ (.slice a6 (P.zOg none nl).length c6)).ownsRow (wr.heap.size+1) 96 11 (.slice a6 (P.zOg none nl).length c6) (P.zOg none nl).length (zAE (P.zOg none nl))):=(zAc (zBV hr6 (by omega)) (fun j hj=>Below.heap_setCell _ _ _ _ (fun ej=>by have h1:=(hr6.lt j hj).1;have h2:j=wr.heap.size:=ej;omega)));have hws6:=WS.out.size;clear hr6)
     | (generalize w6.setCell ⟨wr.heap.size,2,none⟩ (.slice a6 (P.zOg none nl).length c6)=W at *;refine zCj (.tmp 5) rfl rfl wr.heap.size t.block t.line (.slice a6 (P.zOg none nl).length c6) rfl (by exact TS.out) ?_)
     | (at_builtin;refine wpList_append_lies _ rfl (.tmp 27) (.tmp 29) 46 rfl w.heap.size 88 i0 (.agg #[.int .i64 0,.int .i64 0,.slice none 0 0]) 3 40 Tryz.underlying46 hi hz0 hz1 hz2 rfl (by decide) _ _ _ rfl ((zAc HROW.out (fun j hj=>WS.out.block j (HROW.out.lt j hj).2)).alloc _) ⟨W.heap.size,0,none⟩ 1 1 [Value.int .i64 t.block,.int .i64 t.line,(.slice a6 (P.zOg none nl).length c6)] rfl rfl ?c1 ?c2 (by decide) ?c3 ?c4 ?c5 _ rfl ?_))
    case c1=>exact World.news_of_block (t:=88) (fr:=(0,0)) (heap_alloc_new W _)
    case c2=>simp[Value.oneCell']
    case c3=>unfold maxLen;omega
    case c4=>omega
    case c5=>simp;omega
    intro g1 cap1 w1 hown1 hgrow hat hlt1
    have hW':Below wr.heap.size wr (W.alloc (.cells #[.int .i64 t.block,.int .i64 t.line,(.slice a6 (P.zOg none nl).length c6)] 88)):=WS.out.alloc (by omega) _
    have FIN:=zAa (zBx HBL.out hW' HROW.out hgrow)
    have FBX:=zAa (zBj hW' HROW.out hgrow hbox (by decide))
    have FRS:=zAa (zBj hW' HROW.out hgrow hres (by decide))
    have FTH:=zAa (zHp (t:=P.trimT ts t) HBL.out HROW.out HLT.out HST.out hW' (Nat.le_succ _) (by rw[HT2.out];exact VS.out.alloc _) hgrow (by rw[HT2.out];rw[← List.map_take] at hown1;exact hown1))
    rw[← HSN.out] at FTH
    clear hown1 hgrow hat HROW HBL hW' TS WS VS TB3 hW3 hb3 HST
    go_wp2
    go_roundw
    case rel=>exact⟨k+1,_,by omega,by go_num,FTH.out.1,FTH.out.2,FIN.out,FBX.out,FRS.out⟩
    case measure=>simp[intOf];omega
   ·skip
    have HT2:Hid (P.trimT ts t={ t with stmts:=P.zOg none (P.zOl 0 nl) }):=by unfold Hid;rw[HTR.out];simp[P.zQB,hid]
    go_wp2_with (first
     | (go_at_call 39;refine (HCN.out _ (HBL.out.alloc (by omega) _)).mono ?_;rintro e w3 ⟨v3,rfl,hr3,hb3⟩;obtain⟨a3,c3,rfl⟩:=zCK hr3;have hW3:Below wr.heap.size wr w3:=((Below.refl wr.heap.size wr).alloc (Nat.le_refl _) _).trans (hb3.mono (by simp));have hB3:Below w.heap.size w w3:=HBL.out.trans (hW3.mono (by omega));have TB3:w3.heap[wr.heap.size]?=some (.cells #[.int .i64 t.block,.int .i64 t.line,.slice sa t.stmts.length sc] 88 (0,0)):=(hb3.block _ (by simp)).trans (heap_alloc_new wr _);obtain⟨p1,p2,p3,p4,p5,p6,p7⟩:=zCL TB3;have e3:=cfL hW3 hwlt e0;have HR3:=zAa hr3;have hw3:=hW3.size)
     | (go_at_call 40;refine (HCI.out _ hB3).mono ?_;rintro e w4 ⟨rfl,hb4⟩;rw[hid];have hW4:Below wr.heap.size wr w4:=hW3.trans (hb4.mono hw3);have hw4:=hb4.size;have TB4:=(hb4.block _ p1).trans TB3;have HR4:Hid (w4.ownsRow (wr.heap.size+1) 96 11 (.slice a3 t.stmts.length c3) t.stmts.length (zAE nl)):=zAc (zBV HR3.out (by simp)) (fun j hj=>hb4.block j (HR3.out.lt j hj).2))
     | (go_at_call 41;refine (zIC _ t.stmts.length c3 a3 nl _ HR4.out HNL.out.symm hls).mono ?_;rintro e w5 ⟨v5,rfl,hr5,hb5⟩;obtain⟨a5,c5,rfl⟩:=zCK hr5;have hW5:Below wr.heap.size wr w5:=hW4.trans (hb5.mono (by omega));have hw5:=hb5.size;have TB5:=(hb5.block _ (by omega)).trans TB4;have HR5:=zAa hr5)
     | (go_at_call 42;refine (zHD _ (P.zOl 0 nl).length c5 a5 (P.zOl 0 nl) _ HR5.out rfl (by have:=zHE nl 0;have:=HNL.out;omega)).mono ?_;rintro e w6 ⟨v6,rfl,hr6,hb6⟩;obtain⟨a6,c6,rfl⟩:=zCK hr6;have hW6:Below wr.heap.size wr w6:=hW5.trans (hb6.mono (by omega));have hw6:=hb6.size;have TB6:=(hb6.block _ (by omega)).trans TB5;obtain⟨q1,q2,q3,q4,q5,q6,q7⟩:=zCL TB6;have TS:=zAa (zFE TB6 (.slice a6 (P.zOg none (P.zOl 0 nl)).length c6));have WS:=zAa (hW6.setCell (p:=⟨wr.heap.size,2,none⟩) (Nat.le_refl _) (.slice a6 (P.zOg none (P.zOl 0 nl)).length c6));have VS:Hid ((w6.setCell ⟨wr.heap.size,2,none⟩ (.slice a6 (P.zOg none (P.zOl 0 nl)).length c6)).ownsRow (wr.heap.size+1) 96 11 (.slice a6 (P.zOg none (P.zOl 0 nl)).length c6) (P.zOg none (P.zOl 0 nl)).length (zAE (P.zOg none (P.zOl 0 nl)))):=(zAc (zBV hr6 (by omega)) (fun j hj=>Below.heap_setCell _ _ _ _ (fun ej=>by have h1:=(hr6.lt j hj).1;have h2:j=wr.heap.size:=ej;omega)));have hws6:=WS.out.size;clear hr6)
     | (generalize w6.setCell ⟨wr.heap.size,2,none⟩ (.slice a6 (P.zOg none (P.zOl 0 nl)).length c6)=W at *;refine zCj (.tmp 5) rfl rfl wr.heap.size t.block t.line (.slice a6 (P.zOg none (P.zOl 0 nl)).length c6) rfl (by exact TS.out) ?_)
     | (at_builtin;refine wpList_append_lies _ rfl (.tmp 27) (.tmp 29) 46 rfl w.heap.size 88 i0 (.agg #[.int .i64 0,.int .i64 0,.slice none 0 0]) 3 40 Tryz.underlying46 hi hz0 hz1 hz2 rfl (by decide) _ _ _ rfl ((zAc HROW.out (fun j hj=>WS.out.block j (HROW.out.lt j hj).2)).alloc _) ⟨W.heap.size,0,none⟩ 1 1 [Value.int .i64 t.block,.int .i64 t.line,(.slice a6 (P.zOg none (P.zOl 0 nl)).length c6)] rfl rfl ?c1 ?c2 (by decide) ?c3 ?c4 ?c5 _ rfl ?_))
    case c1=>exact World.news_of_block (t:=88) (fr:=(0,0)) (heap_alloc_new W _)
    case c2=>simp[Value.oneCell']
    case c3=>unfold maxLen;omega
    case c4=>omega
    case c5=>simp;omega
    intro g1 cap1 w1 hown1 hgrow hat hlt1
    have hW':Below wr.heap.size wr (W.alloc (.cells #[.int .i64 t.block,.int .i64 t.line,(.slice a6 (P.zOg none (P.zOl 0 nl)).length c6)] 88)):=WS.out.alloc (by omega) _
    have FIN:=zAa (zBx HBL.out hW' HROW.out hgrow)
    have FBX:=zAa (zBj hW' HROW.out hgrow hbox (by decide))
    have FRS:=zAa (zBj hW' HROW.out hgrow hres (by decide))
    have FTH:=zAa (zHp (t:=P.trimT ts t) HBL.out HROW.out HLT.out HST.out hW' (Nat.le_succ _) (by rw[HT2.out];exact VS.out.alloc _) hgrow (by rw[HT2.out];rw[← List.map_take] at hown1;exact hown1))
    rw[← HSN.out] at FTH
    clear hown1 hgrow hat HROW HBL hW' TS WS VS TB3 hW3 hb3 HST
    go_wp2
    go_roundw
    case rel=>exact⟨k+1,_,by omega,by go_num,FTH.out.1,FTH.out.2,FIN.out,FBX.out,FRS.out⟩
    case measure=>simp[intOf];omega
  ·have hkn:k=n:=by omega
   subst hkn
   have HT:Hid (ts.take k=ts):=List.take_of_length_le (by have:=HN.out;omega)
   obtain⟨g1,cap1,rfl,hg1,hg2⟩:=hrow.form h0
   have r0:=ceL hres 0 _ rfl
   have r1:wr.frozen? ⟨w.heap.size+1,0,none⟩=false:=by simp[World.frozen?,hres]
   have FIN:Hid (zAn (wr.setCell ⟨w.heap.size+1,0,none⟩ (.slice (some ⟨g1,0,none⟩) k cap1)) w.heap.size (.slice (some ⟨g1,0,none⟩) k cap1) (P.zOM ts)∧Below w.heap.size w (wr.setCell ⟨w.heap.size+1,0,none⟩ (.slice (some ⟨g1,0,none⟩) k cap1))):=by
    have hST:=HST.out
    rw[HT.out] at hrow hST
    refine⟨⟨vs,?_,?_⟩,hbel.setCell (p:=⟨w.heap.size+1,0,none⟩) (by simp) _⟩
    ·have e1:(P.zOM ts).length=k:=by unfold P.zOM;rw[List.length_map,← HN.out]
     rw[e1]
     exact zAc hrow (fun j hj=>Below.heap_setCell _ _ _ _ (fun e=>zAZ hrow hres (by decide) (by rw[hj,e])))
    ·exact hST.keep (fun u hu j hj=>Below.heap_setCell _ _ _ _ (fun e=>by
      obtain⟨n',xs',hu'⟩:=hST.mem u hu
      exact zAZ hu' hres (by decide) (by rw[hj,e])))
   clear HST hrow hbel
   go_wp2
   refine zGG (w.heap.size+1) (.slice (some ⟨g1,0,none⟩) k cap1) rfl rfl (by rw[zAe hres];rfl) rfl ⟨g1,cap1,rfl,FIN.out⟩
end Go.Proofs.YtgceflcbckjjiaaGreatDoor
