import Derived.Deep.Draws
import Derived.Laws.AppendOwnNone
import Derived.Test.YtgceflcbckjjiaaGreatDoorD40
set_option linter.unusedVariables false
set_option linter.unusedSimpArgs false
set_option maxHeartbeats 12800000
namespace Go.Proofs.YtgceflcbckjjiaaGreatDoor
open Go Go.RowKit
set_option maxRecDepth 100000


namespace Q
end Q

structure RelsIn (w:World) (v:Value) (n:Nat) (ls:List (List Nat)) (gs:List Nat):Prop where
 own:w.ownsRow 0 68 1 v ls.length (gs.map fun g=>.slice (some ⟨g,0,none⟩) n n)
 len:gs.length=ls.length
 rel:∀ i (h:i<ls.length) (g:Nat),gs[i]?=some g→RelAt w g n ls[i]
namespace Q
end Q
theorem RelsIn.below {w w':World} {v:Value} {n:Nat} {ls:List (List Nat)} {gs:List Nat} (h:RelsIn w v n ls gs) (hb:Below w.heap.size w w'):RelsIn w' v n ls gs :=
 ⟨zAd h.own (fun k e=>hb.block k (h.own.lt k e).2),h.len,fun i hi g hg=>(h.rel i hi g hg).below hb⟩
theorem RelsIn.nil (w:World) (n:Nat):RelsIn w (.slice none 0 0) n [] []:=⟨by simpa using World.ownsRow_nil w 0 68 1,rfl,fun i h=>by simp at h⟩
theorem RelsIn.tick {w w':World} {v:Value} {n:Nat} {ls:List (List Nat)} {gs:List Nat} {go o gb gd:Nat} {bs ds:List Int} {b:Bool} (h:RelsIn w v n ls gs) (hT:Ticked w w' go o gd) (hv:∀ k,v.ownBlock=some k→k≠go∧k≠gd) {tg:TypeId} {cg:Array Value} (hc:CtrAt w go o gb gd bs ds b) (hg:w.heap[go]?=some (.cells cg tg (0,0))) (htg:156≠tg):RelsIn w' v n ls gs :=
 ⟨zAd h.own (fun k e=>hT.block k (hv k e).1 (hv k e).2),h.len,fun i hi g hg2=>by
  have q:=h.rel i hi g hg2
  exact⟨q.at_.of_block (hT.block g (zCG q.at_ hg htg) (zCG q.at_ (t:=3) hc.digits (by decide))),q.len,q.fits⟩⟩

namespace Q
end Q
theorem RelsIn.wr {w W:World} {g:Nat} {a:Q.Ans} {ov:Value} {vs:List Value} {fp:List Nat} {v:Value} {n:Nat} {ls:List (List Nat)} {gs:List Nat} (h:RelsIn w v n ls gs) (hA:AnsOn w g a ov vs fp) (hk:∀ k,k<w.heap.size→¬ Wr g ov k→W.heap[k]?=w.heap[k]?):RelsIn W v n ls gs:=by
 obtain⟨c,hty⟩:=hA.out.ty
 refine⟨zAd h.own (fun k e=>hk k (h.own.lt k e).2 (fun e2=>?_)),h.len,fun i hi g' hg=>(h.rel i hi g' hg).wr hA hk⟩
 rcases e2 with e2 | e2
 ·subst e2
  rcases hty with hty | hty<;>exact zAx h.own hty (by decide) e
 ·rcases hA.out.rows.own.2 with ⟨e3,_⟩ | ⟨b,c2,cur,e3,_,hb,_⟩
  ·rw[e3] at e2;simp[Value.ownBlock] at e2
  ·rw[e3] at e2;simp[Value.ownBlock] at e2
   subst e2
   exact zAx h.own hb (by decide) e
namespace Q
end Q
namespace P
end P
end Go.Proofs.YtgceflcbckjjiaaGreatDoor
namespace Go.Proofs.YtgceflcbckjjiaaGreatDoor
namespace P
end P
end Go.Proofs.YtgceflcbckjjiaaGreatDoor
namespace Go.Proofs.YtgceflcbckjjiaaGreatDoor
open Go Go.RowKit
set_option maxRecDepth 100000

def zIT (w:World) (v:Value) (ws:List ByteArray):Prop:=∃ a cap,v=.slice a ws.length cap∧ws.length≤cap∧(ws≠[]→∃ g,a=some ⟨g,0,none⟩∧zAz w g 0 ws∧g<w.heap.size)



theorem zIT.below {w w':World} {v:Value} {ws:List ByteArray} (h:zIT w v ws) (hb:Below w.heap.size w w'):zIT w' v ws:=by
 obtain⟨a,cap,e,hc,hw⟩:=h
 refine⟨a,cap,e,hc,fun hne=>?_⟩
 obtain⟨g,e1,h1,h2⟩:=hw hne
 exact⟨g,e1,h1.below hb,Nat.lt_of_lt_of_le h2 hb.size⟩

end Go.Proofs.YtgceflcbckjjiaaGreatDoor
namespace Go.Proofs.YtgceflcbckjjiaaGreatDoor
namespace P
end P
end Go.Proofs.YtgceflcbckjjiaaGreatDoor
namespace Go.Proofs.YtgceflcbckjjiaaGreatDoor
open Go Go.RowKit
set_option maxRecDepth 100000

theorem zBP {w:World} {B:Nat} {sa:Option Addr} {sc n:Nat} {xs:List Value} {e:TypeId} {sz:Nat} (h:w.ownsRow B e sz (.slice sa n sc) n xs):0<n→∃ b,sa=some ⟨b,0,none⟩∧b<w.heap.size:=fun h0=>by
 rcases h.2 with ⟨e,h0'⟩ | ⟨b',c',cur,e,hb',hg',_⟩
 ·omega
 ·simp only[Value.slice.injEq] at e
  exact⟨b',e.1,(Array.getElem?_eq_some_iff.1 hg').1⟩
theorem zDy (B bt n cap:Nat) (bl v:Int) (ts:List P.Thr) (w:World) (h:zAl w B (.slice (some ⟨bt,0,none⟩) n cap) ts) (hn:n=ts.length) (hnb:n<10) (hst:∀ t∈ts,t.stmts.length<10000) :
  Calls Tryz.prog 163 #[.agg #[.slice (some ⟨bt,0,none⟩) n cap],.int .i64 bl,.int .i64 v] w fun e w'=>e=.returned (.bool (P.zKf ts bl v))∧Below w.heap.size w w':=by
 have HA:=zAa h
 have HN:=zAa hn
 have HS:=zAa hst
 clear h hn hst
 go_enter Tryz.func163,Tryz.ntmps163
 go_wp2
 go_loopw [14] (fun i wr=>∃ k:Nat,k≤n∧i=.int .i64 k∧Hid (P.zKf (ts.drop k) bl v=P.zKf ts bl v)∧Below w.heap.size w wr) (fun i _=>n-(intOf i).toNat)
 case atStart=>exact⟨0,Nat.zero_le _,rfl,by unfold Hid;simp,(Below.refl _ _).alloc (Nat.le_refl _) _⟩
 case round =>
  obtain⟨k,hk,rfl,HR,hbel⟩:=hrel
  by_cases hlt:k<n
  ·have hkl:k<ts.length:=by rw[← HN.out];exact hlt
   obtain⟨hbt,sa,sc,c0,c1,c2,ho⟩:=zCn HA.out HN.out k hkl
   have d0:=cfL hbel hbt c0
   have d1:=cfL hbel hbt c1
   have d2:=cfL hbel hbt c2
   have hls:=HS.out ts[k] (List.getElem_mem hkl)
   have HD:=zAa (P.zKr ts k hkl)
   have HO:=zAa ho
   have hws:w.heap.size≤wr.heap.size:=hbel.size
   generalize ts[k]=t at *
   clear c0 c1 c2 ho
   by_cases hb:t.block=bl
   ·have nb:(t.block != bl)=false:=by simp[hb]
    go_wp2
    go_loopw [25] (fun j w2=>∃ q:Nat,q≤t.stmts.length∧j=.int .i64 q∧Hid ((t.stmts.drop q).any (P.zLH v)=t.stmts.any (P.zLH v))∧Below w.heap.size w w2) (fun j _=>t.stmts.length-(intOf j).toNat)
    case atStart=>exact⟨0,Nat.zero_le _,rfl,by unfold Hid;simp,hbel.alloc hws _⟩
    case round =>
     obtain⟨q,hq,rfl,HQ,hbel2⟩:=hrel
     by_cases hql:q<t.stmts.length
     ·obtain⟨b,rfl,hblt⟩:=zBP HO.out (by omega)
      have hr:=zAa (zAv (zBc HO.out rfl q hql) (hbel2.block b hblt))
      have HDQ:=zAa (P.zKr t.stmts q hql)
      generalize t.stmts[q]=st at *
      have hws2:=hbel2.size
      cases hrs:P.zLH v st
      ·go_wp2_with (first | (refine zAi (.tmp 27) rfl rfl b (q*11) st rfl hr.out ?_) | (go_at_call 131;refine (zBX st v _).mono ?_;rintro e w3 ⟨rfl,hb3⟩;rw[hrs]))
       go_roundw
       case rel =>
        refine⟨q+1,by omega,by go_num,?_,(hbel2.alloc hws2 _).trans (hb3.mono (by simp;omega))⟩
        have:=HQ.out
        unfold Hid;rw[← this,HDQ.out];simp[hrs]
       case measure=>simp[intOf];omega
      ·have HE:Hid (P.zKf ts bl v=true):=by
        unfold Hid
        rw[← HR.out,HD.out]
        have:=HQ.out
        rw[HDQ.out] at this
        simp[P.zKf,hb,← this,hrs]
       go_wp2_with (first | (refine zAi (.tmp 27) rfl rfl b (q*11) st rfl hr.out ?_) | (go_at_call 131;refine (zBX st v _).mono ?_;rintro e w3 ⟨rfl,hb3⟩;rw[hrs]))
       go_ret
       exact⟨by rw[HE.out];rfl,(hbel2.alloc hws2 _).trans (hb3.mono (by simp;omega))⟩
     ·have hqq:q=t.stmts.length:=by omega
      have HE:Hid (P.zKf (ts.drop (k+1)) bl v=P.zKf ts bl v):=by
       have h1:t.stmts.any (P.zLH v)=false:=by rw[← HQ.out,hqq,List.drop_length];rfl
       unfold Hid
       rw[← HR.out,HD.out]
       simp only[P.zKf,List.any_cons,h1,Bool.and_false,Bool.false_or]
      go_wp2
      go_roundw
      case rel=>exact⟨k+1,by omega,by go_num,HE,hbel2⟩
      case measure=>simp[intOf];omega
   ·have nb:(t.block != bl)=true:=by simp[hb]
    have HE:Hid (P.zKf (ts.drop (k+1)) bl v=P.zKf ts bl v):=by
     unfold Hid
     rw[← HR.out,HD.out]
     simp[P.zKf,hb]
    go_wp2
    go_roundw
    case rel=>exact⟨k+1,by omega,by go_num,HE,hbel.alloc hws _⟩
    case measure=>simp[intOf];omega
  ·have HE:Hid (P.zKf ts bl v=false):=by
    unfold Hid
    rw[← HR.out,List.drop_eq_nil_of_le (by have:=HN.out;omega)];rfl
   go_wp2
   go_ret
   exact⟨by rw[HE.out];rfl,hbel⟩
end Go.Proofs.YtgceflcbckjjiaaGreatDoor
namespace Go.Proofs.YtgceflcbckjjiaaGreatDoor
open Go Go.RowKit
theorem zCM {B:Nat} {a w:World} (h:Below B a w) (n:Nat):Below B a (w.drewN n):=⟨h.os,h.tape,h.output,h.size,h.block⟩
end Go.Proofs.YtgceflcbckjjiaaGreatDoor
namespace Go.Proofs.YtgceflcbckjjiaaGreatDoor
open Go Go.RowKit
set_option maxRecDepth 100000
theorem zDa (B bt n cap:Nat) (v:Int) (ts:List P.Thr) (w:World) (h:zAl w B (.slice (some ⟨bt,0,none⟩) n cap) ts) (hn:n=ts.length) (hnb:n<10) (hst:∀ t∈ts,t.stmts.length<10000) :
  Calls Tryz.prog 129 #[.agg #[.slice (some ⟨bt,0,none⟩) n cap],.int .i64 v] w fun e w'=>e=.returned (.bool (P.bothReach ts v))∧Below w.heap.size w w':=by
 have HC:Hid (∀ (w2:World) (bl:Int),Below w.heap.size w w2→Calls Tryz.prog 163 #[.agg #[.slice (some ⟨bt,0,none⟩) n cap],.int .i64 bl,.int .i64 v] w2 fun e w'=>e=.returned (.bool (P.zKf ts bl v))∧Below w2.heap.size w2 w'):=fun w2 bl hb=>zDy B bt n cap bl v ts w2 (h.keep (fun k hk=>hb.block k hk)) hn hnb hst
 clear h hn hst
 go_enter Tryz.func129,Tryz.ntmps129
 go_wp2
 go_loopw [5] (fun i wr=>∃ k:Nat,k≤2∧i=.int .i64 k∧Hid ((0<k→P.zKf ts 0 v=true)∧(1<k→P.zKf ts 1 v=true))∧Below w.heap.size w wr∧wr.heap[w.heap.size]?=some (.cells #[.slice (some ⟨bt,0,none⟩) n cap] 48 (0,0))) (fun i _=>2-(intOf i).toNat)
 case atStart=>exact⟨0,by omega,rfl,⟨fun h=>by omega,fun h=>by omega⟩,(Below.refl _ _).alloc (Nat.le_refl _) _,heap_alloc_new w _⟩
 case round =>
  obtain⟨k,hk,rfl,HR,hbel,hbox⟩:=hrel
  have e0:=ceL hbox 0 _ rfl
  have hwlt:w.heap.size<wr.heap.size:=(Array.getElem?_eq_some_iff.1 hbox).1
  have hk3:k=0∨k=1∨k=2:=by omega
  have hws:=hbel.size
  rcases hk3 with rfl | rfl | rfl
  ·cases h0:P.zKf ts 0 v
   ·have HE:Hid (P.bothReach ts v=false):=by unfold Hid;simp[P.bothReach,h0]
    go_wp2_with (first | (go_at_call 163;refine (HC.out _ 0 hbel).mono ?_;rintro e w3 ⟨rfl,hb3⟩;rw[h0]))
    go_ret
    exact⟨by rw[HE.out];rfl,hbel.trans (hb3.mono hws)⟩
   ·go_wp2_with (first | (go_at_call 163;refine (HC.out _ 0 hbel).mono ?_;rintro e w3 ⟨rfl,hb3⟩;rw[h0]))
    go_roundw
    case rel=>exact⟨1,by omega,by go_num,⟨fun _=>by first | trivial | exact h0,fun h=>by omega⟩,hbel.trans (hb3.mono hws),by rw[hb3.block _ hwlt];exact hbox⟩
    case measure=>simp[intOf]
  ·cases h1:P.zKf ts 1 v
   ·have HE:Hid (P.bothReach ts v=false):=by unfold Hid;simp[P.bothReach,h1]
    go_wp2_with (first | (go_at_call 163;refine (HC.out _ 1 hbel).mono ?_;rintro e w3 ⟨rfl,hb3⟩;rw[h1]))
    go_ret
    exact⟨by rw[HE.out];rfl,hbel.trans (hb3.mono hws)⟩
   ·have HE:Hid (P.zKf ts 0 v=true):=HR.out.1 (by omega)
    go_wp2_with (first | (go_at_call 163;refine (HC.out _ 1 hbel).mono ?_;rintro e w3 ⟨rfl,hb3⟩;rw[h1]))
    go_roundw
    case rel=>exact⟨2,by omega,by go_num,⟨fun _=>by first | trivial | exact HE.out,fun _=>by first | trivial | exact h1⟩,hbel.trans (hb3.mono hws),by rw[hb3.block _ hwlt];exact hbox⟩
    case measure=>simp[intOf]
  ·have HE:Hid (P.bothReach ts v=true):=by unfold Hid;simp[P.bothReach,HR.out.1 (by omega),HR.out.2 (by omega)]
   go_wp2
   go_ret
   exact⟨by rw[HE.out];rfl,hbel⟩
theorem zHB (B bt n cap:Nat) (ts:List P.Thr) (w:World) (h:zAl w B (.slice (some ⟨bt,0,none⟩) n cap) ts) (hn:n=ts.length) (hnb:n<10) (h0:0<n) :
  Calls Tryz.prog 128 #[.agg #[.slice (some ⟨bt,0,none⟩) n cap]] w fun e w'=>e=.returned (.bool (P.ofOne ts))∧Below w.heap.size w w':=by
 obtain⟨u,us,rfl⟩:∃ u us,ts=u::us:=by
  cases ts with
  | nil=>simp at hn;omega
  | cons u us=>exact⟨u,us,rfl⟩
 obtain⟨hbt0,sa0,sc0,z0,z1,z2,ho0⟩:=zCn h hn 0 (by simp)
 have Z0:Hid (w.cell? ⟨bt,0,none⟩=some (.int .i64 u.block)):=by unfold Hid;simpa using z0
 clear z0 z1 z2 ho0
 have HA:=zAa h
 have HN:=zAa hn
 have HU:Hid (P.ofOne (u::us)=(u::us).all (fun t=>t.block==u.block)):=rfl
 clear h hn
 generalize hts:u::us=ts at *
 go_enter Tryz.func128,Tryz.ntmps128
 go_wp2
 go_loopw [8] (fun i wr=>∃ k:Nat,k≤n∧i=.int .i64 k∧Hid ((ts.drop k).all (fun t=>t.block==u.block)=ts.all (fun t=>t.block==u.block))∧Below w.heap.size w wr∧wr.heap[w.heap.size]?=some (.cells #[.slice (some ⟨bt,0,none⟩) n cap] 48 (0,0))) (fun i _=>n-(intOf i).toNat)
 case atStart=>exact⟨0,Nat.zero_le _,rfl,by unfold Hid;simp,(Below.refl _ _).alloc (Nat.le_refl _) _,heap_alloc_new w _⟩
 case round =>
  obtain⟨k,hk,rfl,HR,hbel,hbox⟩:=hrel
  have e0:=ceL hbox 0 _ rfl
  have hwlt:w.heap.size<wr.heap.size:=(Array.getElem?_eq_some_iff.1 hbox).1
  by_cases hlt:k<n
  ·have hkl:k<ts.length:=by rw[← HN.out];exact hlt
   obtain⟨hbt,sa,sc,c0,c1,c2,ho⟩:=zCn HA.out HN.out k hkl
   have d0:=cfL hbel hbt c0
   have d1:=cfL hbel hbt c1
   have d2:=cfL hbel hbt c2
   have f0:=(hbel.cell (p:=⟨bt,0,none⟩) hbt).trans Z0.out
   have hbtr:bt<wr.heap.size:=by have:=hbel.size;omega
   have HD:=zAa (P.zKr ts k hkl)
   generalize hgt:ts[k]=t at *
   clear c0 c1 c2 ho hgt
   by_cases hb:t.block=u.block
   ·have nb:(t.block != u.block)=false:=by simp[hb]
    go_wp2_with fail
    go_quiet (fail)
    go_wp2_with fail
    go_roundw
    case rel =>
     refine⟨k+1,by omega,by go_num,?_,zCM (hbel.alloc (by omega) _) _,?_⟩
     ·unfold Hid;rw[← HR.out,HD.out];simp[hb]
     ·exact (Below.heap_alloc _ _ _ hwlt).trans hbox
    case measure=>simp[intOf];omega
   ·have nb:(t.block != u.block)=true:=by simp[hb]
    have HE:Hid (P.ofOne ts=false):=by
     unfold Hid
     rw[HU.out,← HR.out,HD.out];simp[hb]
    go_wp2_with fail
    go_quiet (fail)
    go_wp2_with fail
    go_ret
    exact⟨by rw[HE.out];rfl,zCM (hbel.alloc (by omega) _) _⟩
  ·have HE:Hid (P.ofOne ts=true):=by
    unfold Hid
    rw[HU.out,← HR.out,List.drop_eq_nil_of_le (by have:=HN.out;omega)];rfl
   go_wp2
   go_ret
   exact⟨by rw[HE.out];rfl,hbel⟩
theorem zIq (w:World) (v:Value) (T:TypeId):(w.alloc (.cells #[v] T (0,0))).cell? ⟨w.heap.size,0,none⟩=some v:=by
 have h:=heap_alloc_new w (.cells #[v] T (0,0))
 simp only[World.cell?]
 rw[h];rfl
theorem zHC (B bt n cap:Nat) (ts:List P.Thr) (st:P.Stm) (w:World) (h:zAl w B (.slice (some ⟨bt,0,none⟩) n cap) ts) (hn:n=ts.length) (hnb:n<10) (h0:0<n) (hst:∀ t∈ts,t.stmts.length<10000) :
  Calls Tryz.prog 76 #[.agg #[.slice (some ⟨bt,0,none⟩) n cap],.agg (zAb st)] w fun e w'=>e=.returned (.bool (P.stays ts st))∧Below w.heap.size w w':=by
 have HB:Hid (∀ (w2:World) (v:Int),Below w.heap.size w w2→Calls Tryz.prog 129 #[.agg #[.slice (some ⟨bt,0,none⟩) n cap],.int .i64 v] w2 fun e w'=>e=.returned (.bool (P.bothReach ts v))∧Below w2.heap.size w2 w'):=fun w2 v hb=>zDa B bt n cap v ts w2 (h.keep (fun k hk=>hb.block k hk)) hn hnb hst
 have HO:Hid (∀ (w2:World),Below w.heap.size w w2→Calls Tryz.prog 128 #[.agg #[.slice (some ⟨bt,0,none⟩) n cap]] w2 fun e w'=>e=.returned (.bool (P.ofOne ts))∧Below w2.heap.size w2 w'):=fun w2 hb=>zHB B bt n cap ts w2 (h.keep (fun k hk=>hb.block k hk)) hn hnb h0
 clear h hn hst
 have b2:∀ o1 o2:Obj,Below w.heap.size w ((w.alloc o1).alloc o2):=fun o1 o2=>((Below.refl _ _).alloc (Nat.le_refl _) _).alloc (by simp) _
 simp only[zAb]
 cases h4:(st.kind==4)
 ·cases ha:P.isAcc st.kind
  ·have HE:Hid (P.stays ts st=false):=by unfold Hid;simp[P.stays,h4,ha]
   go_enter Tryz.func76,Tryz.ntmps76
   go_wp2_with (first | (go_at_call 79;refine (zBE _ _).mono ?_;rintro e w' ⟨rfl,rfl⟩;rw[ha]))
   go_ret
   exact⟨by rw[HE.out];rfl,b2 _ _⟩
  ·cases hr:P.bothReach ts st.var
   all_goals
    have HE:Hid (P.stays ts st=!P.bothReach ts st.var):=by unfold Hid;simp[P.stays,h4,ha]
    go_enter Tryz.func76,Tryz.ntmps76
    go_wp2_with (first | (go_at_call 79;refine (zBE _ _).mono ?_;rintro e w' ⟨rfl,rfl⟩;rw[ha]) | (go_at_call 129;refine (HB.out _ _ (b2 _ _)).mono ?_;rintro e w3 ⟨rfl,hb3⟩;rw[hr]))
    go_ret
    exact⟨by rw[HE.out,hr];rfl,(b2 _ _).trans (hb3.mono (by simp;omega))⟩
 ·have HE:Hid (P.stays ts st=P.ofOne ts):=by unfold Hid;simp[P.stays,h4]
  go_enter Tryz.func76,Tryz.ntmps76
  go_wp2_with (first | (go_at_call 128;refine (HO.out _ (b2 _ _)).mono ?_;rintro e w3 ⟨rfl,hb3⟩))
  go_ret
  exact⟨by rw[HE.out];rfl,(b2 _ _).trans (hb3.mono (by simp;omega))⟩
namespace P
def bad (v:Int) (s:Bool) (st:Stm):Bool:=zLH v st&&needs st s
def pureG (v:Int) (s:Bool) (ts:List Thr):Bool:=ts.all fun t=>t.stmts.all fun st=>!bad v s st
theorem isPure_eq (ts:List Thr) (v:Int):zLp ts v=pureG v (bothReach ts v) ts:=rfl
end P
theorem zGQ (B bt n cap:Nat) (v:Int) (ts:List P.Thr) (w:World) (h:zAl w B (.slice (some ⟨bt,0,none⟩) n cap) ts) (hn:n=ts.length) (hnb:n<10) (hst:∀ t∈ts,t.stmts.length<10000) :
  Calls Tryz.prog 80 #[.agg #[.slice (some ⟨bt,0,none⟩) n cap],.int .i64 v] w fun e w'=>e=.returned (.bool (P.zLp ts v))∧Below w.heap.size w w':=by
 have HB:Hid (∀ (w2:World),Below w.heap.size w w2→Calls Tryz.prog 129 #[.agg #[.slice (some ⟨bt,0,none⟩) n cap],.int .i64 v] w2 fun e w'=>e=.returned (.bool (P.bothReach ts v))∧Below w2.heap.size w2 w'):=fun w2 hb=>zDa B bt n cap v ts w2 (h.keep (fun k hk=>hb.block k hk)) hn hnb hst
 have HA:=zAa h
 have HN:=zAa hn
 have HS:=zAa hst
 clear h hn hst
 rw[P.isPure_eq]
 generalize P.bothReach ts v=s at *
 go_enter Tryz.func80,Tryz.ntmps80
 go_wp2_with (first | (go_at_call 129;refine (HB.out _ ((Below.refl _ _).alloc (Nat.le_refl _) _)).mono ?_;rintro e w0 ⟨rfl,hb0⟩;have hbz:Below w.heap.size w w0:=((Below.refl w.heap.size w).alloc (Nat.le_refl _) _).trans (hb0.mono (by simp));have e0:w0.cell? ⟨w.heap.size,0,none⟩=some (.slice (some ⟨bt,0,none⟩) n cap):=(hb0.cell (p:=⟨w.heap.size,0,none⟩) (by simp)).trans (zIq w _ _)))
 have HB0:=zAa hbz
 go_loopw [16] (fun i wr=>∃ k:Nat,k≤n∧i=.int .i64 k∧Hid (P.pureG v s (ts.drop k)=P.pureG v s ts)∧Below w.heap.size w wr) (fun i _=>n-(intOf i).toNat)
 case atStart=>exact⟨0,Nat.zero_le _,rfl,by unfold Hid;simp,HB0.out⟩
 case round =>
  obtain⟨k,hk,rfl,HR,hbel⟩:=hrel
  by_cases hlt:k<n
  ·have hkl:k<ts.length:=by rw[← HN.out];exact hlt
   obtain⟨hbt,sa,sc,c0,c1,c2,ho⟩:=zCn HA.out HN.out k hkl
   have d0:=cfL hbel hbt c0
   have d1:=cfL hbel hbt c1
   have d2:=cfL hbel hbt c2
   have hls:=HS.out ts[k] (List.getElem_mem hkl)
   have HD:=zAa (P.zKr ts k hkl)
   have HO:=zAa ho
   have hws:w.heap.size≤wr.heap.size:=hbel.size
   generalize ts[k]=t at *
   clear c0 c1 c2 ho
   go_wp2
   go_loopw [23] (fun j w2=>∃ q:Nat,q≤t.stmts.length∧j=.int .i64 q∧Hid ((t.stmts.drop q).all (fun st=>!P.bad v s st)=t.stmts.all (fun st=>!P.bad v s st))∧Below w.heap.size w w2) (fun j _=>t.stmts.length-(intOf j).toNat)
   case atStart=>exact⟨0,Nat.zero_le _,rfl,by unfold Hid;simp,hbel.alloc hws _⟩
   case round =>
    obtain⟨q,hq,rfl,HQ,hbel2⟩:=hrel
    by_cases hql:q<t.stmts.length
    ·obtain⟨b,rfl,hblt⟩:=zBP HO.out (by omega)
     have hr:=zAa (zAv (zBc HO.out rfl q hql) (hbel2.block b hblt))
     have HDQ:=zAa (P.zKr t.stmts q hql)
     generalize t.stmts[q]=st at *
     have hws2:=hbel2.size
     cases hrs:P.zLH v st
     ·go_wp2_with (first | (refine zAi (.tmp 25) rfl rfl b (q*11) st rfl hr.out ?_) | (go_at_call 131;refine (zBX st v _).mono ?_;rintro e w3 ⟨rfl,hb3⟩;rw[hrs]))
      go_roundw
      case rel =>
       refine⟨q+1,by omega,by go_num,?_,(hbel2.alloc hws2 _).trans (hb3.mono (by simp;omega))⟩
       unfold Hid;rw[← HQ.out,HDQ.out];simp[P.bad,hrs]
      case measure=>simp[intOf];omega
     ·cases hnd:P.needs st s
      ·go_wp2_with (first | (refine zAi (.tmp 25) rfl rfl b (q*11) st rfl hr.out ?_) | (go_at_call 131;refine (zBX st v _).mono ?_;rintro e w3 ⟨rfl,hb3⟩;rw[hrs];have GS:=(zAw.new wr st).below hb3;obtain⟨f1,f2,s0,s1,s2,s3,s4,s5,s6,s7,s8,s9,s10⟩:=GS.facts) | (go_at_call 132;refine (zEU st s _).mono ?_;rintro e w4 ⟨rfl,hb4⟩;rw[hnd]))
       go_roundw
       case rel =>
        refine⟨q+1,by omega,by go_num,?_,((hbel2.alloc hws2 _).trans (hb3.mono (by simp;omega))).trans (hb4.mono (by have:=hb3.size;simp at this;omega))⟩
        unfold Hid;rw[← HQ.out,HDQ.out];simp[P.bad,hrs,hnd]
       case measure=>simp[intOf];omega
      ·have HE:Hid (P.pureG v s ts=false):=by
        unfold Hid
        rw[← HR.out,HD.out]
        have:=HQ.out
        rw[HDQ.out] at this
        simp only[P.pureG,List.all_cons,← this]
        simp[P.bad,hrs,hnd]
       go_wp2_with (first | (refine zAi (.tmp 25) rfl rfl b (q*11) st rfl hr.out ?_) | (go_at_call 131;refine (zBX st v _).mono ?_;rintro e w3 ⟨rfl,hb3⟩;rw[hrs];have GS:=(zAw.new wr st).below hb3;obtain⟨f1,f2,s0,s1,s2,s3,s4,s5,s6,s7,s8,s9,s10⟩:=GS.facts) | (go_at_call 132;refine (zEU st s _).mono ?_;rintro e w4 ⟨rfl,hb4⟩;rw[hnd]))
       go_ret
       exact⟨by rw[HE.out];rfl,((hbel2.alloc hws2 _).trans (hb3.mono (by simp;omega))).trans (hb4.mono (by have:=hb3.size;simp at this;omega))⟩
    ·have hqq:q=t.stmts.length:=by omega
     have HE:Hid (P.pureG v s (ts.drop (k+1))=P.pureG v s ts):=by
      have h1:t.stmts.all (fun st=>!P.bad v s st)=true:=by rw[← HQ.out,hqq,List.drop_length];rfl
      unfold Hid
      rw[← HR.out,HD.out]
      simp only[P.pureG,List.all_cons,h1,Bool.true_and]
     go_wp2
     go_roundw
     case rel=>exact⟨k+1,by omega,by go_num,HE,hbel2⟩
     case measure=>simp[intOf];omega
  ·have HE:Hid (P.pureG v s ts=true):=by
    unfold Hid
    rw[← HR.out,List.drop_eq_nil_of_le (by have:=HN.out;omega)];rfl
   go_wp2
   go_ret
   exact⟨by rw[HE.out];rfl,hbel⟩
theorem zBq {w wr W w1:World} {o:Value} {n:Nat} {xs:List Value} {e:TypeId} {sz:Nat} (hb:Below w.heap.size w wr) (hW:Below wr.heap.size wr W) (hown:wr.ownsRow w.heap.size e sz o n xs) (hgrow:W.grownBy w1 o.ownBlock):Below w.heap.size w w1 :=
 (hb.trans (hW.mono hb.size)).grown hgrow (Nat.le_trans hb.size hW.size) (fun j hj=>(hown.lt j hj).1)
theorem zBf {w wr W w1:World} {o:Value} {n g:Nat} {xs:List Value} {e e':TypeId} {sz:Nat} {c:Array Value} {fr:Nat × Nat} (hW:Below wr.heap.size wr W) (hown:wr.ownsRow w.heap.size e sz o n xs) (hgrow:W.grownBy w1 o.ownBlock) (hg:wr.heap[g]?=some (.cells c e' fr)) (hne:e'≠e):w1.heap[g]?=some (.cells c e' fr):=by
 have hlt:g<wr.heap.size:=(Array.getElem?_eq_some_iff.1 hg).1
 rw[hgrow.block g (Nat.lt_of_lt_of_le hlt hW.size) (Ne.symm (zAV hown hg (Ne.symm hne))),hW.block g hlt,hg]
theorem zIU (w:World) (c:Array Value) (o:Obj) (T:TypeId):∀ (j:Nat) (u:Value),c.toList[j]?=some u→((w.alloc o).alloc (.cells c T (0,0))).cell? ((⟨w.heap.size+1,0,none⟩:Addr).add j)=some u :=
 World.news_of_block (t:=T) (fr:=(0,0)) (by have:=heap_alloc_new (w.alloc o) (.cells c T (0,0));simpa using this)
theorem zEE (ts:List P.Thr) (l:List P.Stm) (k:Nat) (h:k<l.length):P.zKu ts (l.take (k+1))=P.zKu ts (l.take k)++[P.zLI ts l[k]]:=by
 rw[List.take_succ_eq_append_getElem h];simp only[P.zKu,List.map_append,List.map_cons,List.map_nil]
theorem zFi (B bt n cap B2 m sc:Nat) (sa:Option Addr) (ts:List P.Thr) (l:List P.Stm) (w:World) (h:zAl w B (.slice (some ⟨bt,0,none⟩) n cap) ts) (hn:n=ts.length) (hnb:n<10) (h0:0<n) (hst:∀ t∈ts,t.stmts.length<10000)
  (hown:w.ownsRow B2 96 11 (.slice sa m sc) m (zAA l)) (hm:m=l.length) (hmb:m<10000) :
  Calls Tryz.prog 39 #[.agg #[.slice (some ⟨bt,0,none⟩) n cap],.slice sa m sc] w fun e w'=>∃ v,e=.returned v∧w'.ownsRow w.heap.size 96 11 v m (zAA (P.zKu ts l))∧Below w.heap.size w w':=by
 obtain⟨i0,hi,hz0,hz1,hz2⟩:=info_parts Tryz.infoStm
 have HC:Hid (∀ (w2:World) (st:P.Stm),Below w.heap.size w w2→Calls Tryz.prog 76 #[.agg #[.slice (some ⟨bt,0,none⟩) n cap],.agg (zAb st)] w2 fun e w'=>e=.returned (.bool (P.stays ts st))∧Below w2.heap.size w2 w'):=fun w2 st hb=>zHC B bt n cap ts st w2 (h.keep (fun k hk=>hb.block k hk)) hn hnb h0 hst
 have HO:=zAa hown
 have HN:=zAa hm
 clear h hn hst hown hm
 go_enter Tryz.func39,Tryz.ntmps39
 go_wp2
 go_loopw [5,10] (fun o i wr=>∃ k:Nat,k≤m∧i=.int .i64 k∧wr.ownsRow w.heap.size 96 11 o k (zAA (P.zKu ts (l.take k)))∧Below w.heap.size w wr∧wr.heap[w.heap.size]?=some (.cells #[.slice (some ⟨bt,0,none⟩) n cap] 48 (0,0))) (fun _ i _=>m-(intOf i).toNat)
 case atStart=>exact⟨0,Nat.zero_le _,rfl,by simpa [P.zKu,zAA] using World.ownsRow_nil _ _ _ _,(Below.refl _ _).alloc (Nat.le_refl _) _,heap_alloc_new w _⟩
 case round =>
  obtain⟨k,hk,rfl,hrow,hbel,hbox⟩:=hrel
  have e0:=ceL hbox 0 _ rfl
  have hwlt:w.heap.size<wr.heap.size:=(Array.getElem?_eq_some_iff.1 hbox).1
  by_cases hlt:k<m
  ·obtain⟨b,rfl,hblt⟩:=zBP HO.out (by omega)
   have hkl:k<l.length:=by rw[← HN.out];exact hlt
   have hr:=zAa (zAv (zBc HO.out HN.out k hkl) (hbel.block b hblt))
   have HS:=zAa (zEE ts l k hkl)
   have HOW:=zAa hrow
   have HBL:=zAa hbel
   generalize hst:l[k]=st at *
   clear hst hrow hbel
   cases hsy:P.stays ts st
   ·have HE:Hid (P.zLI ts st=st):=by unfold Hid;simp[P.zLI,hsy]
    go_wp2_with (first
     | (refine zAi (.tmp 12) rfl rfl b (k*11) st rfl hr.out ?_)
     | (go_at_call 76;refine (HC.out _ st (HBL.out.alloc (by omega) _)).mono ?_;rintro e w3 ⟨rfl,hb3⟩;rw[hsy];have hW:Below wr.heap.size wr w3:=((Below.refl wr.heap.size wr).alloc (Nat.le_refl _) _).trans (hb3.mono (by simp));have GS:=(zAw.new wr st).below hb3;obtain⟨f1,f2,s0,s1,s2,s3,s4,s5,s6,s7,s8,s9,s10⟩:=GS.facts;have hw3:=hW.size)
     | (at_builtin;refine wpList_append_lies _ rfl (.tmp 18) (.tmp 20) 86 rfl w.heap.size 96 i0 (.agg (zAb P.Stm.zero)) 11 88 Tryz.underlying86 hi hz0 hz1 hz2 rfl (by decide) _ _ _ rfl ((zAd HOW.out (fun j hj=>hW.block j (HOW.out.lt j hj).2)).alloc _) ⟨w3.heap.size,0,none⟩ 1 1 (zAb st).toList rfl rfl ?c1 ?c2 (by decide) ?c3 ?c4 ?c5 _ rfl ?_))
    case c1=>exact World.news_of_block (t:=96) (fr:=(0,0)) (heap_alloc_new w3 _)
    case c2=>simp[zAb,Value.oneCell']
    case c3=>unfold maxLen;omega
    case c4=>omega
    case c5=>simp;omega
    intro g1 cap1 w1 hown1 hgrow hat hlt1
    have hW':Below wr.heap.size wr (w3.alloc (.cells (zAb st) 96)):=hW.alloc hw3 _
    have FIN:=zAa (zBq HBL.out hW' HOW.out hgrow)
    have FBX:=zAa (zBf hW' HOW.out hgrow hbox (by decide))
    have FOW:Hid (w1.ownsRow w.heap.size 96 11 (.slice (some ⟨g1,0,none⟩) (k+1) cap1) (k+1) (zAA (P.zKu ts (l.take (k+1))))):=by
     unfold Hid;rw[HS.out,HE.out,zAY];exact hown1
    clear hown1 hgrow hat HOW HBL hW hW' GS
    go_wp2
    go_roundw
    case rel=>exact⟨k+1,by omega,by go_num,FOW.out,FIN.out,FBX.out⟩
    case measure=>simp[intOf];omega
   ·have HE:Hid (P.zLI ts st={ st with scope:=0 }):=by unfold Hid;simp[P.zLI,hsy]
    go_wp2_with (first
     | (refine zAi (.tmp 12) rfl rfl b (k*11) st rfl hr.out ?_)
     | (go_at_call 76;refine (HC.out _ st (HBL.out.alloc (by omega) _)).mono ?_;rintro e w3 ⟨rfl,hb3⟩;rw[hsy];have hW:Below wr.heap.size wr w3:=((Below.refl wr.heap.size wr).alloc (Nat.le_refl _) _).trans (hb3.mono (by simp));have GS:=(zAw.new wr st).below hb3;obtain⟨f1,f2,s0,s1,s2,s3,s4,s5,s6,s7,s8,s9,s10⟩:=GS.facts;have hw3:=hW.size;have GS2:=zAa (GS.setScope 0);have hW2:=zAa (hW.setCell (p:=⟨wr.heap.size,9,none⟩) (Nat.le_refl _) (.int .i64 0));have hsz2:=hW2.out.size)
     | (generalize w3.setCell ⟨wr.heap.size,9,none⟩ (.int .i64 0)=W at *;refine zAp (.tmp 7) rfl rfl wr.heap.size { st with scope:=0 } rfl (by exact GS2.out) ?_;simp only[zAb])
     | (at_builtin;refine wpList_append_lies _ rfl (.tmp 18) (.tmp 20) 86 rfl w.heap.size 96 i0 (.agg (zAb P.Stm.zero)) 11 88 Tryz.underlying86 hi hz0 hz1 hz2 rfl (by decide) _ _ _ rfl ((zAd HOW.out (fun j hj=>hW2.out.block j (HOW.out.lt j hj).2)).alloc _) ⟨W.heap.size,0,none⟩ 1 1 (zAb { st with scope:=0 }).toList rfl rfl ?c1 ?c2 (by decide) ?c3 ?c4 ?c5 _ rfl ?_))
    case c1=>exact World.news_of_block (t:=96) (fr:=(0,0)) (heap_alloc_new W _)
    case c2=>simp[zAb,Value.oneCell']
    case c3=>unfold maxLen;omega
    case c4=>omega
    case c5=>simp;omega
    intro g1 cap1 w1 hown1 hgrow hat hlt1
    have hW':Below wr.heap.size wr (W.alloc (.cells (zAb { st with scope:=0 }) 96)):=hW2.out.alloc hsz2 _
    have FIN:=zAa (zBq HBL.out hW' HOW.out hgrow)
    have FBX:=zAa (zBf hW' HOW.out hgrow hbox (by decide))
    have FOW:Hid (w1.ownsRow w.heap.size 96 11 (.slice (some ⟨g1,0,none⟩) (k+1) cap1) (k+1) (zAA (P.zKu ts (l.take (k+1))))):=by
     unfold Hid;rw[HS.out,HE.out,zAY];exact hown1
    clear hown1 hgrow hat HOW HBL hW hW' GS hW2 GS2
    go_wp2
    go_roundw
    case rel=>exact⟨k+1,by omega,by go_num,FOW.out,FIN.out,FBX.out⟩
    case measure=>simp[intOf];omega
  ·have hkn:k=m:=by omega
   subst hkn
   have HT:Hid (l.take k=l):=List.take_of_length_le (by have:=HN.out;omega)
   go_wp2
   go_ret
   exact⟨_,rfl,by rw[HT.out] at hrow;exact hrow,hbel⟩
end Go.Proofs.YtgceflcbckjjiaaGreatDoor
