import Derived.Test.YtgceflcbckjjiaaGreatDoorB38
import Derived.Test.YtgceflcbckjjiaaGreatDoorB41
set_option linter.unusedVariables false
set_option linter.unusedSimpArgs false
namespace Go.Proofs.YtgceflcbckjjiaaGreatDoor
open Go Go.RowKit
set_option maxRecDepth 100000
theorem fencT_snoc (ts:List P.Thr) (k:Nat) (h:k<ts.length):(ts.take (k+1)).map (P.fencedT ts)=(ts.take k).map (P.fencedT ts)++[P.fencedT ts ts[k]]:=by
 rw[List.take_succ_eq_append_getElem h,List.map_append];rfl
set_option maxHeartbeats 12800000 in
theorem fenced_any (B bt n cap:Nat) (ts:List P.Thr) (w:World) (h:ThreadsAt w B (.slice (some ⟨bt,0,none⟩) n cap) ts) (hn:n=ts.length) (hnb:n<10) (h0:0<n) (hst:∀ t∈ts,t.stmts.length<10000) :
  Calls Tryz.prog 26 #[.agg #[.slice (some ⟨bt,0,none⟩) n cap]] w fun e w'=>∃ bt' cap',e=.returned (.agg #[.slice (some ⟨bt',0,none⟩) n cap'])∧ThreadsAt w' w.heap.size (.slice (some ⟨bt',0,none⟩) n cap') (P.fenced ts)∧Below w.heap.size w w':=by
 obtain⟨i0,hi,hz0,hz1,hz2⟩:=info_parts Tryz.infoThr
 have HA:=hide h
 have HN:=hide hn
 have HS:=hide hst
 clear h hn hst
 go_enter Tryz.func26,Tryz.ntmps26
 go_wp2
 go_loopw [3,9] (fun o i wr=>∃ (k:Nat) (vs:List Value),k≤n∧i=.int .i64 k∧wr.ownsRow w.heap.size 88 3 o k (thrCells ((ts.take k).map (P.fencedT ts)) vs)∧Hid (StmtsAt wr w.heap.size ((ts.take k).map (P.fencedT ts)) vs)∧Below w.heap.size w wr∧wr.heap[w.heap.size]?=some (.cells #[.slice (some ⟨bt,0,none⟩) n cap] 48 (0,0))∧wr.heap[w.heap.size+1]?=some (.cells #[.slice none 0 0] 48 (0,0))) (fun _ i _=>n-(intOf i).toNat)
 case atStart =>
  refine⟨0,[],Nat.zero_le _,rfl,by simpa [thrCells] using World.ownsRow_nil _ _ _ _,by unfold Hid;simp[StmtsAt],((Below.refl _ _).alloc (Nat.le_refl _) _).alloc (by simp) _,?_,?_⟩
  ·rw[Below.heap_alloc _ _ _ (by simp)];exact heap_alloc_new w _
  ·have:=heap_alloc_new (w.alloc (.cells #[.slice (some ⟨bt,0,none⟩) n cap] 48)) (.cells #[.slice none 0 0] 48);simpa using this
 case round =>
  obtain⟨k,vs,hk,rfl,hrow,HST,hbel,hbox,hres⟩:=hrel
  have e0:wr.cell? ⟨w.heap.size,0,none⟩=some (.slice (some ⟨bt,0,none⟩) n cap):=by simp[World.cell?,hbox]
  have hwlt:w.heap.size<wr.heap.size:=(Array.getElem?_eq_some_iff.1 hbox).1
  have hrlt:w.heap.size+1<wr.heap.size:=(Array.getElem?_eq_some_iff.1 hres).1
  by_cases hlt:k<n
  ·have hkl:k<ts.length:=by rw[← HN.out];exact hlt
   obtain⟨hbt,sa,sc,c0,c1,c2,ho⟩:=thr_at HA.out HN.out k hkl
   have d0:=(hbel.cell (p:=⟨bt,k*3,none⟩) hbt).trans c0
   have d1:=(hbel.cell (p:=⟨bt,k*3+1,none⟩) hbt).trans c1
   have d2:=(hbel.cell (p:=⟨bt,k*3+2,none⟩) hbt).trans c2
   have hls:=HS.out ts[k] (List.getElem_mem hkl)
   have HSN:=hide (fencT_snoc ts k hkl)
   have HLT:Hid (((ts.take k).map (P.fencedT ts)).length=k):=by unfold Hid;simp;omega
   generalize ts[k]=t at *
   have HT2:Hid (P.fencedT ts t={ t with stmts:=P.fencedS (P.isPure ts) t.stmts }):=rfl
   have HCN:Hid (∀ w2:World,Below w.heap.size w w2→Calls Tryz.prog 43 #[.agg #[.slice (some ⟨bt,0,none⟩) n cap],.slice sa t.stmts.length sc] w2 fun e w'=>∃ v,e=.returned v∧w'.ownsRow w2.heap.size 96 11 v (P.fencedS (P.isPure ts) t.stmts).length (flatStm (P.fencedS (P.isPure ts) t.stmts))∧Below w2.heap.size w2 w'):=fun w2 hb=>fencedS_any B bt n cap B t.stmts.length sc sa ts t.stmts w2 (HA.out.keep (fun k hk=>hb.block k hk)) HN.out hnb HS.out (ownsRow_keep ho (fun j hj=>hb.block j (ho.lt j hj).2)) rfl hls
   have HROW:=hide hrow
   have HBL:=hide hbel
   generalize hnl:P.fencedS (P.isPure ts) t.stmts=nl at *
   clear c0 c1 c2 ho hrow hbel hnl
   go_wp2_with (first
    | (go_at_call 43;refine (HCN.out _ (HBL.out.alloc (by omega) _)).mono ?_;rintro e w6 ⟨v3,rfl,hr6,hb6⟩;obtain⟨a6,c6,rfl⟩:=own_formS hr6;have hW6:Below wr.heap.size wr w6:=((Below.refl wr.heap.size wr).alloc (Nat.le_refl _) _).trans (hb6.mono (by simp));have TB6:w6.heap[wr.heap.size]?=some (.cells #[.int .i64 t.block,.int .i64 t.line,.slice sa t.stmts.length sc] 88 (0,0)):=(hb6.block _ (by simp)).trans (heap_alloc_new wr _);obtain⟨q1,q2,q3,q4,q5,q6,q7⟩:=thrB_facts TB6;have TS:=hide (thrB_set TB6 (.slice a6 nl.length c6));have WS:=hide (hW6.setCell (p:=⟨wr.heap.size,2,none⟩) (Nat.le_refl _) (.slice a6 nl.length c6));have VS:Hid ((w6.setCell ⟨wr.heap.size,2,none⟩ (.slice a6 nl.length c6)).ownsRow (wr.heap.size+1) 96 11 (.slice a6 nl.length c6) nl.length (flatStm nl)):=(ownsRow_keep (own_base hr6 (by simp)) (fun j hj=>Below.heap_setCell _ _ _ _ (fun ej=>by have h1:=(hr6.lt j hj).1;have h2:j=wr.heap.size:=ej;simp at h1;omega)));have hws6:=WS.out.size;clear hr6)
    | (generalize w6.setCell ⟨wr.heap.size,2,none⟩ (.slice a6 nl.length c6)=W at *;refine wpList_load_thr (.tmp 5) rfl rfl wr.heap.size t.block t.line (.slice a6 nl.length c6) rfl (by exact TS.out) ?_)
    | (at_builtin;refine wpList_append_lies _ rfl (.tmp 18) (.tmp 20) 46 rfl w.heap.size 88 i0 (.agg #[.int .i64 0,.int .i64 0,.slice none 0 0]) 3 40 Tryz.underlying46 hi hz0 hz1 hz2 rfl (by decide) _ _ _ rfl ((ownsRow_keep HROW.out (fun j hj=>WS.out.block j (HROW.out.lt j hj).2)).alloc _) ⟨W.heap.size,0,none⟩ 1 1 [Value.int .i64 t.block,.int .i64 t.line,.slice a6 nl.length c6] rfl rfl ?c1 ?c2 (by decide) ?c3 ?c4 ?c5 _ rfl ?_))
   case c1=>exact World.news_of_block (t:=88) (fr:=(0,0)) (heap_alloc_new W _)
   case c2=>simp[Value.oneCell']
   case c3=>unfold maxLen;omega
   case c4=>omega
   case c5=>simp;omega
   intro g1 cap1 w1 hown1 hgrow hat hlt1
   have hW':Below wr.heap.size wr (W.alloc (.cells #[.int .i64 t.block,.int .i64 t.line,.slice a6 nl.length c6] 88)):=WS.out.alloc (by omega) _
   have FIN:=hide (grown_row HBL.out hW' HROW.out hgrow)
   have FBX:=hide (grown_other hW' HROW.out hgrow hbox (by decide))
   have FRS:=hide (grown_other hW' HROW.out hgrow hres (by decide))
   have FTH:=hide (thr_app (t:=P.fencedT ts t) HBL.out HROW.out HLT.out HST.out hW' (Nat.le_succ _) (by rw[HT2.out];exact VS.out.alloc _) hgrow (by rw[HT2.out];rw[← List.map_take] at hown1;exact hown1))
   rw[← HSN.out] at FTH
   clear hown1 hgrow hat HROW HBL hW' TS WS VS HST
   go_wp2
   go_roundw
   case rel=>exact⟨k+1,_,by omega,by go_num,FTH.out.1,FTH.out.2,FIN.out,FBX.out,FRS.out⟩
   case measure=>simp[intOf];omega
  ·have hkn:k=n:=by omega
   subst hkn
   have HT:Hid (ts.take k=ts):=List.take_of_length_le (by have:=HN.out;omega)
   obtain⟨g1,cap1,rfl,hg1,hg2⟩:=hrow.form h0
   have r0:wr.cell? ⟨w.heap.size+1,0,none⟩=some (.slice none 0 0):=by simp[World.cell?,hres]
   have r1:wr.frozen? ⟨w.heap.size+1,0,none⟩=false:=by simp[World.frozen?,hres]
   have FIN:Hid (ThreadsAt (wr.setCell ⟨w.heap.size+1,0,none⟩ (.slice (some ⟨g1,0,none⟩) k cap1)) w.heap.size (.slice (some ⟨g1,0,none⟩) k cap1) (P.fenced ts)∧Below w.heap.size w (wr.setCell ⟨w.heap.size+1,0,none⟩ (.slice (some ⟨g1,0,none⟩) k cap1))):=by
    have hST:=HST.out
    rw[HT.out] at hrow hST
    refine⟨⟨vs,?_,?_⟩,hbel.setCell (p:=⟨w.heap.size+1,0,none⟩) (by simp) _⟩
    ·have e1:(P.fenced ts).length=k:=by unfold P.fenced;rw[List.length_map,← HN.out]
     rw[e1]
     exact ownsRow_keep hrow (fun j hj=>Below.heap_setCell _ _ _ _ (fun e=>own_ne_blk hrow hres (by decide) (by rw[hj,e])))
    ·exact hST.keep (fun u hu j hj=>Below.heap_setCell _ _ _ _ (fun e=>by
      obtain⟨n',xs',hu'⟩:=hST.mem u hu
      exact own_ne_blk hu' hres (by decide) (by rw[hj,e])))
   clear HST hrow hbel
   go_wp2
   refine ret_prog1 (w.heap.size+1) (.slice (some ⟨g1,0,none⟩) k cap1) rfl rfl (by rw[setCell_block hres];rfl) rfl ⟨g1,cap1,rfl,FIN.out⟩
end Go.Proofs.YtgceflcbckjjiaaGreatDoor
