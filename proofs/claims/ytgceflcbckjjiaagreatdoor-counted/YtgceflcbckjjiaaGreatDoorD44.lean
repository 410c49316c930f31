import Derived.Test.YtgceflcbckjjiaaGreatDoorD43
import Derived.Test.YtgceflcbckjjiaaGreatDoorD42
set_option linter.unusedVariables false
set_option linter.unusedSimpArgs false
set_option maxHeartbeats 12800000
namespace Go.Proofs.YtgceflcbckjjiaaGreatDoor
open Go Go.RowKit
set_option maxRecDepth 100000
theorem zCt {w:World} {B:Nat} {v:Value} {n:Nat} {xs:List Value} {e:TypeId} {sz:Nat} (h:w.ownsRow B e sz v n xs):∃ a c,v=.slice a n c:=by
 rcases h.2 with ⟨e,h0⟩ | ⟨k,c,cur,e,_⟩
 ·exact⟨none,0,by rw[e,h0]⟩
 ·exact⟨_,c,e⟩
theorem zFT {w wr W w1:World} {o v:Value} {outs:List P.Thr} {vs:List Value} {t:P.Thr} {g1 cap1 n B':Nat} (hb:Below w.heap.size w wr) (hrow:wr.ownsRow w.heap.size 88 3 o n (zAH outs vs)) (hn:outs.length=n) (hst:zAL wr w.heap.size outs vs) (hW:Below wr.heap.size wr W)
  (hB:wr.heap.size≤B') (hv:W.ownsRow B' 96 11 v t.stmts.length (zAA t.stmts)) (hgrow:W.grownBy w1 o.ownBlock) (hown1:w1.ownsRow w.heap.size 88 3 (.slice (some ⟨g1,0,none⟩) (n+1) cap1) (n+1) (zAH outs vs++[.int .i64 t.block,.int .i64 t.line,v])) :
  w1.ownsRow w.heap.size 88 3 (.slice (some ⟨g1,0,none⟩) (n+1) cap1) (n+1) (zAH (outs++[t]) (vs++[v]))∧zAL w1 w.heap.size (outs++[t]) (vs++[v]):=by
 have hl:=hst.length
 have h1:=hb.size
 have h2:=hW.size
 refine⟨by rw[zBs _ _ _ _ hl];exact hown1,(zBA _ _ _ _).2 ⟨hst.keep (fun u hu k hk=>?_),?_,fun u hu=>?_⟩⟩
 ·obtain⟨n',xs',hu'⟩:=hst.mem u hu
  have hlt:=(hu'.lt k hk).2
  rw[hgrow.block k (by omega) (Ne.symm (own_ne hu' hrow (by decide) hk)),hW.block k hlt]
 ·have hv2:W.ownsRow w.heap.size 96 11 v t.stmts.length (zAA t.stmts):=zBM hv (by omega)
  refine zAd hv2 (fun k hk=>hgrow.block k (hv.lt k hk).2 (fun e=>?_))
  have h3:=(hv.lt k hk).1
  have h4:=(hrow.lt k e.symm).2
  omega
 ·obtain⟨n',xs',hu'⟩:=hst.mem u hu
  cases hk:u.ownBlock with
  | none=>exact .inl rfl
  | some k =>
   refine .inr (fun e=>?_)
   have h3:=(hv.lt k e.symm).1
   have h4:=(hu'.lt k hk).2
   omega
theorem zBZ {ops:Array Oper} {rest:List Oper} {op:Oper} {a:Act} {w:World} {Q:Exit→Act→World→Prop} (x:Operand) (hgd:op.guard=none) (ho:op.op=.load 88 x)
  (g:Nat) (b l:Int) (v:Value) (hx:a.eval x=.pointer (some ⟨g,0,none⟩)) (hg:w.heap[g]?=some (.cells #[.int .i64 b,.int .i64 l,v] 88 (0,0)))
  (h:wpList Tryz.prog ops Q rest (a.put op.dst (.agg #[.int .i64 b,.int .i64 l,v])) w):wpList Tryz.prog ops Q (op::rest) a w :=
 zBD hgd _ x ho g hx _ _ hg _ Tryz.underlying88 rfl (by kernel_rfl) h
theorem zCu {w:World} {g:Nat} {b l:Int} {v:Value} (h:w.heap[g]?=some (.cells #[.int .i64 b,.int .i64 l,v] 88 (0,0))):g<w.heap.size∧w.cell? ⟨g,0,none⟩=some (.int .i64 b)∧w.cell? ⟨g,1,none⟩=some (.int .i64 l)∧w.cell? ⟨g,2,none⟩=some v∧w.frozen? ⟨g,0,none⟩=false∧w.frozen? ⟨g,1,none⟩=false∧w.frozen? ⟨g,2,none⟩=false:=by
 refine⟨(Array.getElem?_eq_some_iff.1 h).1,?_,?_,?_,?_,?_,?_⟩<;>simp[World.cell?,World.frozen?,h]
theorem zEF {w:World} {g:Nat} {b l:Int} {v:Value} (h:w.heap[g]?=some (.cells #[.int .i64 b,.int .i64 l,v] 88 (0,0))) (u:Value):(w.setCell ⟨g,2,none⟩ u).heap[g]?=some (.cells #[.int .i64 b,.int .i64 l,u] 88 (0,0)):=by
 rw[zAf h];rfl
theorem zFk {fn:Func} {R:Ending→World→Prop} {a:Act} {w:World} {p:Tmp} (g:Nat) (tv:Value) (hres:fn.results=#[.cell p 48])
  (hp:a.tmps.getD p undef=.pointer (some ⟨g,0,none⟩)) (h:w.heap[g]?=some (.cells #[tv] 48 (0,0))) (hd:a.defers=[]) (hR:R (.returned (.agg #[tv])) w):bodyPost Tryz.prog fn R .ret a w:=by
 refine bodyPost_ret (v:=.agg #[tv]) ?_ hd hR
 have e:(results fn a.tmps).run Tryz.prog w=((asAddr (a.tmps.getD p undef)).run Tryz.prog w).andThen fun a w₁=>((loadVar 48 a).run Tryz.prog w₁):=by
  simp only[results,hres]
  simp[Sem.run_bind,Result.andThen]
 rw[e,hp]
 have:(asAddr (.pointer (some ⟨g,0,none⟩))).run Tryz.prog w=.ok ⟨g,0,none⟩ w:=rfl
 rw[this,Result.andThen_ok,zBh w g _ _ _ h _ Tryz.underlying48 rfl (by kernel_rfl)]
theorem zHF (ts:List P.Thr) (k:Nat) (h:k<ts.length):(ts.take (k+1)).map (P.trimT ts)=(ts.take k).map (P.trimT ts)++[P.trimT ts ts[k]]:=by
 rw[List.take_succ_eq_append_getElem h,List.map_append];rfl
theorem zGr (l:List P.Stm):∀ c,(P.zKn c l).length≤l.length:=by
 induction l with
 | nil=>intro c;simp[P.zKn]
 | cons s r ih =>
  intro c
  simp only[P.zKn]
  have h1:=ih (c+1)
  have h2:=ih c
  repeat' split
  all_goals simp only[List.length_cons];omega
theorem zIr (l:List P.Stm):∀ p,(P.zKj p l).length≤l.length:=by
 induction l with
 | nil=>intro p;simp[P.zKj]
 | cons s r ih =>
  intro p
  simp only[P.zKj]
  have h1:=ih p
  have h2:=ih (some s)
  split
  all_goals simp only[List.length_cons];omega
theorem zDZ (B bt n cap:Nat) (ts:List P.Thr) (w:World) (h:zAl w B (.slice (some ⟨bt,0,none⟩) n cap) ts) (hn:n=ts.length) (hnb:n<10) (h0:0<n) (hst:∀ t∈ts,t.stmts.length<10000) :
  Calls Tryz.prog 25 #[.agg #[.slice (some ⟨bt,0,none⟩) n cap]] w fun e w'=>∃ bt' cap',e=.returned (.agg #[.slice (some ⟨bt',0,none⟩) n cap'])∧zAl w' w.heap.size (.slice (some ⟨bt',0,none⟩) n cap') (P.zKM ts)∧Below w.heap.size w w':=by
 obtain⟨i0,hi,hz0,hz1,hz2⟩:=info_parts Tryz.infoThr
 have HA:=zAa h
 have HN:=zAa hn
 have HS:=zAa hst
 clear h hn hst
 go_enter Tryz.func25,Tryz.ntmps25
 go_wp2
 go_loopw [3,10] (fun o i wr=>∃ (k:Nat) (vs:List Value),k≤n∧i=.int .i64 k∧wr.ownsRow w.heap.size 88 3 o k (zAH ((ts.take k).map (P.trimT ts)) vs)∧Hid (zAL wr w.heap.size ((ts.take k).map (P.trimT ts)) vs)∧Below w.heap.size w wr∧wr.heap[w.heap.size]?=some (.cells #[.slice (some ⟨bt,0,none⟩) n cap] 48 (0,0))∧wr.heap[w.heap.size+1]?=some (.cells #[.slice none 0 0] 48 (0,0))) (fun _ i _=>n-(intOf i).toNat)
 case atStart =>
  refine⟨0,[],Nat.zero_le _,rfl,by simpa [zAH] using World.ownsRow_nil _ _ _ _,by unfold Hid;simp[zAL],((Below.refl _ _).alloc (Nat.le_refl _) _).alloc (by simp) _,?_,?_⟩
  ·rw[Below.heap_alloc _ _ _ (by simp)];exact heap_alloc_new w _
  ·have:=heap_alloc_new (w.alloc (.cells #[.slice (some ⟨bt,0,none⟩) n cap] 48)) (.cells #[.slice none 0 0] 48);simpa using this
 case round =>
  obtain⟨k,vs,hk,rfl,hrow,HST,hbel,hbox,hres⟩:=hrel
  have e0:=ceL hbox 0 _ rfl
  have hwlt:w.heap.size<wr.heap.size:=(Array.getElem?_eq_some_iff.1 hbox).1
  have hrlt:w.heap.size+1<wr.heap.size:=(Array.getElem?_eq_some_iff.1 hres).1
  by_cases hlt:k<n
  ·have hkl:k<ts.length:=by rw[← HN.out];exact hlt
   obtain⟨hbt,sa,sc,c0,c1,c2,ho⟩:=zCn HA.out HN.out k hkl
   have d0:=cfL hbel hbt c0
   have d1:=cfL hbel hbt c1
   have d2:=cfL hbel hbt c2
   have hls:=HS.out ts[k] (List.getElem_mem hkl)
   have HSN:=zAa (zHF ts k hkl)
   have HLT:Hid (((ts.take k).map (P.trimT ts)).length=k):=by unfold Hid;simp;omega
   generalize ts[k]=t at *
   have HTR:Hid (P.trimT ts t={ t with stmts:=P.zKj none (P.zMn ts t.block (P.zKu ts t.stmts)) }):=rfl
   have HCN:Hid (∀ w2:World,Below w.heap.size w w2→Calls Tryz.prog 39 #[.agg #[.slice (some ⟨bt,0,none⟩) n cap],.slice sa t.stmts.length sc] w2 fun e w'=>∃ v,e=.returned v∧w'.ownsRow w2.heap.size 96 11 v t.stmts.length (zAA (P.zKu ts t.stmts))∧Below w2.heap.size w2 w'):=fun w2 hb=>zFi B bt n cap B t.stmts.length sc sa ts t.stmts w2 (HA.out.keep (fun k hk=>hb.block k hk)) HN.out hnb h0 HS.out (zAd ho (fun j hj=>hb.block j (ho.lt j hj).2)) rfl hls
   have HCI:Hid (∀ w2:World,Below w.heap.size w w2→Calls Tryz.prog 40 #[.agg #[.slice (some ⟨bt,0,none⟩) n cap],.int .i64 t.block] w2 fun e w'=>e=.returned (.bool (P.idleB ts t.block))∧Below w2.heap.size w2 w'):=fun w2 hb=>zHE B bt n cap t.block ts w2 (HA.out.keep (fun k hk=>hb.block k hk)) HN.out hnb HS.out
   have HROW:=zAa hrow
   have HBL:=zAa hbel
   have HNL:Hid ((P.zKu ts t.stmts).length=t.stmts.length):=by unfold Hid;simp[P.zKu]
   generalize hnl:P.zKu ts t.stmts=nl at *
   clear c0 c1 c2 ho hrow hbel hnl
   cases hid:P.idleB ts t.block
   ·skip
    have HT2:Hid (P.trimT ts t={ t with stmts:=P.zKj none (nl) }):=by unfold Hid;rw[HTR.out];simp[P.zMn,hid]
    go_wp2_with (first
     | (go_at_call 39;refine (HCN.out _ (HBL.out.alloc (by omega) _)).mono ?_;rintro e w3 ⟨v3,rfl,hr3,hb3⟩;obtain⟨a3,c3,rfl⟩:=zCt hr3;have hW3:Below wr.heap.size wr w3:=((Below.refl wr.heap.size wr).alloc (Nat.le_refl _) _).trans (hb3.mono (by simp));have hB3:Below w.heap.size w w3:=HBL.out.trans (hW3.mono (by omega));have TB3:w3.heap[wr.heap.size]?=some (.cells #[.int .i64 t.block,.int .i64 t.line,.slice sa t.stmts.length sc] 88 (0,0)):=(hb3.block _ (by simp)).trans (heap_alloc_new wr _);obtain⟨p1,p2,p3,p4,p5,p6,p7⟩:=zCu TB3;have e3:=cfL hW3 hwlt e0;have HR3:=zAa hr3;have hw3:=hW3.size)
     | (go_at_call 40;refine (HCI.out _ hB3).mono ?_;rintro e w4 ⟨rfl,hb4⟩;rw[hid];have hW4:Below wr.heap.size wr w4:=hW3.trans (hb4.mono hw3);have hw4:=hb4.size;have TB4:=(hb4.block _ p1).trans TB3;have HR4:Hid (w4.ownsRow (wr.heap.size+1) 96 11 (.slice a3 t.stmts.length c3) t.stmts.length (zAA nl)):=zAd (zBM HR3.out (by simp)) (fun j hj=>hb4.block j (HR3.out.lt j hj).2))
     | (go_at_call 42;refine (zGq _ t.stmts.length c3 a3 nl _ HR4.out HNL.out.symm hls).mono ?_;rintro e w6 ⟨v6,rfl,hr6,hb6⟩;obtain⟨a6,c6,rfl⟩:=zCt hr6;have hW6:Below wr.heap.size wr w6:=hW4.trans (hb6.mono (by omega));have hw6:=hb6.size;have TB6:=(hb6.block _ (by omega)).trans TB4;obtain⟨q1,q2,q3,q4,q5,q6,q7⟩:=zCu TB6;have TS:=zAa (zEF TB6 (.slice a6 (P.zKj none nl).length c6));have WS:=zAa (hW6.setCell (p:=⟨wr.heap.size,2,none⟩) (Nat.le_refl _) (.slice a6 (P.zKj none nl).length c6));have VS:Hid ((w6.setCell ⟨wr.heap.size,2,none⟩ (.slice a6 (P.zKj none nl).length c6)).ownsRow (wr.heap.size+1) 96 11 (.slice a6 (P.zKj none nl).length c6) (P.zKj none nl).length (zAA (P.zKj none nl))):=(zAd (zBM hr6 (by omega)) (fun j hj=>Below.heap_setCell _ _ _ _ (fun ej=>by have h1:=(hr6.lt j hj).1;have h2:j=wr.heap.size:=ej;omega)));have hws6:=WS.out.size;clear hr6)
     | (generalize w6.setCell ⟨wr.heap.size,2,none⟩ (.slice a6 (P.zKj none nl).length c6)=W at *;refine zBZ (.tmp 5) rfl rfl wr.heap.size t.block t.line (.slice a6 (P.zKj none nl).length c6) rfl (by exact TS.out) ?_)
     | (at_builtin;refine wpList_append_lies _ rfl (.tmp 27) (.tmp 29) 46 rfl w.heap.size 88 i0 (.agg #[.int .i64 0,.int .i64 0,.slice none 0 0]) 3 40 Tryz.underlying46 hi hz0 hz1 hz2 rfl (by decide) _ _ _ rfl ((zAd HROW.out (fun j hj=>WS.out.block j (HROW.out.lt j hj).2)).alloc _) ⟨W.heap.size,0,none⟩ 1 1 [Value.int .i64 t.block,.int .i64 t.line,(.slice a6 (P.zKj none nl).length c6)] rfl rfl ?c1 ?c2 (by decide) ?c3 ?c4 ?c5 _ rfl ?_))
    case c1=>exact World.news_of_block (t:=88) (fr:=(0,0)) (heap_alloc_new W _)
    case c2=>simp[Value.oneCell']
    case c3=>unfold maxLen;omega
    case c4=>omega
    case c5=>simp;omega
    intro g1 cap1 w1 hown1 hgrow hat hlt1
    have hW':Below wr.heap.size wr (W.alloc (.cells #[.int .i64 t.block,.int .i64 t.line,(.slice a6 (P.zKj none nl).length c6)] 88)):=WS.out.alloc (by omega) _
    have FIN:=zAa (zBq HBL.out hW' HROW.out hgrow)
    have FBX:=zAa (zBf hW' HROW.out hgrow hbox (by decide))
    have FRS:=zAa (zBf hW' HROW.out hgrow hres (by decide))
    have FTH:=zAa (zFT (t:=P.trimT ts t) HBL.out HROW.out HLT.out HST.out hW' (Nat.le_succ _) (by rw[HT2.out];exact VS.out.alloc _) hgrow (by rw[HT2.out];rw[← List.map_take] at hown1;exact hown1))
    rw[← HSN.out] at FTH
    clear hown1 hgrow hat HROW HBL hW' TS WS VS TB3 hW3 hb3 HST
    go_wp2
    go_roundw
    case rel=>exact⟨k+1,_,by omega,by go_num,FTH.out.1,FTH.out.2,FIN.out,FBX.out,FRS.out⟩
    case measure=>simp[intOf];omega
   ·skip
    have HT2:Hid (P.trimT ts t={ t with stmts:=P.zKj none (P.zKn 0 nl) }):=by unfold Hid;rw[HTR.out];simp[P.zMn,hid]
    go_wp2_with (first
     | (go_at_call 39;refine (HCN.out _ (HBL.out.alloc (by omega) _)).mono ?_;rintro e w3 ⟨v3,rfl,hr3,hb3⟩;obtain⟨a3,c3,rfl⟩:=zCt hr3;have hW3:Below wr.heap.size wr w3:=((Below.refl wr.heap.size wr).alloc (Nat.le_refl _) _).trans (hb3.mono (by simp));have hB3:Below w.heap.size w w3:=HBL.out.trans (hW3.mono (by omega));have TB3:w3.heap[wr.heap.size]?=some (.cells #[.int .i64 t.block,.int .i64 t.line,.slice sa t.stmts.length sc] 88 (0,0)):=(hb3.block _ (by simp)).trans (heap_alloc_new wr _);obtain⟨p1,p2,p3,p4,p5,p6,p7⟩:=zCu TB3;have e3:=cfL hW3 hwlt e0;have HR3:=zAa hr3;have hw3:=hW3.size)
     | (go_at_call 40;refine (HCI.out _ hB3).mono ?_;rintro e w4 ⟨rfl,hb4⟩;rw[hid];have hW4:Below wr.heap.size wr w4:=hW3.trans (hb4.mono hw3);have hw4:=hb4.size;have TB4:=(hb4.block _ p1).trans TB3;have HR4:Hid (w4.ownsRow (wr.heap.size+1) 96 11 (.slice a3 t.stmts.length c3) t.stmts.length (zAA nl)):=zAd (zBM HR3.out (by simp)) (fun j hj=>hb4.block j (HR3.out.lt j hj).2))
     | (go_at_call 41;refine (zGR _ t.stmts.length c3 a3 nl _ HR4.out HNL.out.symm hls).mono ?_;rintro e w5 ⟨v5,rfl,hr5,hb5⟩;obtain⟨a5,c5,rfl⟩:=zCt hr5;have hW5:Below wr.heap.size wr w5:=hW4.trans (hb5.mono (by omega));have hw5:=hb5.size;have TB5:=(hb5.block _ (by omega)).trans TB4;have HR5:=zAa hr5)
     | (go_at_call 42;refine (zGq _ (P.zKn 0 nl).length c5 a5 (P.zKn 0 nl) _ HR5.out rfl (by have:=zGr nl 0;have:=HNL.out;omega)).mono ?_;rintro e w6 ⟨v6,rfl,hr6,hb6⟩;obtain⟨a6,c6,rfl⟩:=zCt hr6;have hW6:Below wr.heap.size wr w6:=hW5.trans (hb6.mono (by omega));have hw6:=hb6.size;have TB6:=(hb6.block _ (by omega)).trans TB5;obtain⟨q1,q2,q3,q4,q5,q6,q7⟩:=zCu TB6;have TS:=zAa (zEF TB6 (.slice a6 (P.zKj none (P.zKn 0 nl)).length c6));have WS:=zAa (hW6.setCell (p:=⟨wr.heap.size,2,none⟩) (Nat.le_refl _) (.slice a6 (P.zKj none (P.zKn 0 nl)).length c6));have VS:Hid ((w6.setCell ⟨wr.heap.size,2,none⟩ (.slice a6 (P.zKj none (P.zKn 0 nl)).length c6)).ownsRow (wr.heap.size+1) 96 11 (.slice a6 (P.zKj none (P.zKn 0 nl)).length c6) (P.zKj none (P.zKn 0 nl)).length (zAA (P.zKj none (P.zKn 0 nl)))):=(zAd (zBM hr6 (by omega)) (fun j hj=>Below.heap_setCell _ _ _ _ (fun ej=>by have h1:=(hr6.lt j hj).1;have h2:j=wr.heap.size:=ej;omega)));have hws6:=WS.out.size;clear hr6)
     | (generalize w6.setCell ⟨wr.heap.size,2,none⟩ (.slice a6 (P.zKj none (P.zKn 0 nl)).length c6)=W at *;refine zBZ (.tmp 5) rfl rfl wr.heap.size t.block t.line (.slice a6 (P.zKj none (P.zKn 0 nl)).length c6) rfl (by exact TS.out) ?_)
     | (at_builtin;refine wpList_append_lies _ rfl (.tmp 27) (.tmp 29) 46 rfl w.heap.size 88 i0 (.agg #[.int .i64 0,.int .i64 0,.slice none 0 0]) 3 40 Tryz.underlying46 hi hz0 hz1 hz2 rfl (by decide) _ _ _ rfl ((zAd HROW.out (fun j hj=>WS.out.block j (HROW.out.lt j hj).2)).alloc _) ⟨W.heap.size,0,none⟩ 1 1 [Value.int .i64 t.block,.int .i64 t.line,(.slice a6 (P.zKj none (P.zKn 0 nl)).length c6)] rfl rfl ?c1 ?c2 (by decide) ?c3 ?c4 ?c5 _ rfl ?_))
    case c1=>exact World.news_of_block (t:=88) (fr:=(0,0)) (heap_alloc_new W _)
    case c2=>simp[Value.oneCell']
    case c3=>unfold maxLen;omega
    case c4=>omega
    case c5=>simp;omega
    intro g1 cap1 w1 hown1 hgrow hat hlt1
    have hW':Below wr.heap.size wr (W.alloc (.cells #[.int .i64 t.block,.int .i64 t.line,(.slice a6 (P.zKj none (P.zKn 0 nl)).length c6)] 88)):=WS.out.alloc (by omega) _
    have FIN:=zAa (zBq HBL.out hW' HROW.out hgrow)
    have FBX:=zAa (zBf hW' HROW.out hgrow hbox (by decide))
    have FRS:=zAa (zBf hW' HROW.out hgrow hres (by decide))
    have FTH:=zAa (zFT (t:=P.trimT ts t) HBL.out HROW.out HLT.out HST.out hW' (Nat.le_succ _) (by rw[HT2.out];exact VS.out.alloc _) hgrow (by rw[HT2.out];rw[← List.map_take] at hown1;exact hown1))
    rw[← HSN.out] at FTH
    clear hown1 hgrow hat HROW HBL hW' TS WS VS TB3 hW3 hb3 HST
    go_wp2
    go_roundw
    case rel=>exact⟨k+1,_,by omega,by go_num,FTH.out.1,FTH.out.2,FIN.out,FBX.out,FRS.out⟩
    case measure=>simp[intOf];omega
  ·have hkn:k=n:=by omega
   subst hkn
   have HT:Hid (ts.take k=ts):=List.take_of_length_le (by have:=HN.out;omega)
   obtain⟨g1,cap1,rfl,hg1,hg2⟩:=hrow.form h0
   have r0:=ceL hres 0 _ rfl
   have r1:wr.frozen? ⟨w.heap.size+1,0,none⟩=false:=by simp[World.frozen?,hres]
   have FIN:Hid (zAl (wr.setCell ⟨w.heap.size+1,0,none⟩ (.slice (some ⟨g1,0,none⟩) k cap1)) w.heap.size (.slice (some ⟨g1,0,none⟩) k cap1) (P.zKM ts)∧Below w.heap.size w (wr.setCell ⟨w.heap.size+1,0,none⟩ (.slice (some ⟨g1,0,none⟩) k cap1))):=by
    have hST:=HST.out
    rw[HT.out] at hrow hST
    refine⟨⟨vs,?_,?_⟩,hbel.setCell (p:=⟨w.heap.size+1,0,none⟩) (by simp) _⟩
    ·have e1:(P.zKM ts).length=k:=by unfold P.zKM;rw[List.length_map,← HN.out]
     rw[e1]
     exact zAd hrow (fun j hj=>Below.heap_setCell _ _ _ _ (fun e=>zAV hrow hres (by decide) (by rw[hj,e])))
    ·exact hST.keep (fun u hu j hj=>Below.heap_setCell _ _ _ _ (fun e=>by
      obtain⟨n',xs',hu'⟩:=hST.mem u hu
      exact zAV hu' hres (by decide) (by rw[hj,e])))
   clear HST hrow hbel
   go_wp2
   refine zFk (w.heap.size+1) (.slice (some ⟨g1,0,none⟩) k cap1) rfl rfl (by rw[zAf hres];rfl) rfl ⟨g1,cap1,rfl,FIN.out⟩
theorem zGS (ts:List P.Thr) (k:Nat) (h:k<ts.length):(ts.take (k+1)).map (P.zKZ ts)=(ts.take k).map (P.zKZ ts)++[P.zKZ ts ts[k]]:=by
 rw[List.take_succ_eq_append_getElem h,List.map_append];rfl
theorem zEs (B bt n cap:Nat) (ts:List P.Thr) (w:World) (h:zAl w B (.slice (some ⟨bt,0,none⟩) n cap) ts) (hn:n=ts.length) (hnb:n<10) (h0:0<n) (hst:∀ t∈ts,t.stmts.length<10000) :
  Calls Tryz.prog 26 #[.agg #[.slice (some ⟨bt,0,none⟩) n cap]] w fun e w'=>∃ bt' cap',e=.returned (.agg #[.slice (some ⟨bt',0,none⟩) n cap'])∧zAl w' w.heap.size (.slice (some ⟨bt',0,none⟩) n cap') (P.zLv ts)∧Below w.heap.size w w':=by
 obtain⟨i0,hi,hz0,hz1,hz2⟩:=info_parts Tryz.infoThr
 have HA:=zAa h
 have HN:=zAa hn
 have HS:=zAa hst
 clear h hn hst
 go_enter Tryz.func26,Tryz.ntmps26
 go_wp2
 go_loopw [3,9] (fun o i wr=>∃ (k:Nat) (vs:List Value),k≤n∧i=.int .i64 k∧wr.ownsRow w.heap.size 88 3 o k (zAH ((ts.take k).map (P.zKZ ts)) vs)∧Hid (zAL wr w.heap.size ((ts.take k).map (P.zKZ ts)) vs)∧Below w.heap.size w wr∧wr.heap[w.heap.size]?=some (.cells #[.slice (some ⟨bt,0,none⟩) n cap] 48 (0,0))∧wr.heap[w.heap.size+1]?=some (.cells #[.slice none 0 0] 48 (0,0))) (fun _ i _=>n-(intOf i).toNat)
 case atStart =>
  refine⟨0,[],Nat.zero_le _,rfl,by simpa [zAH] using World.ownsRow_nil _ _ _ _,by unfold Hid;simp[zAL],((Below.refl _ _).alloc (Nat.le_refl _) _).alloc (by simp) _,?_,?_⟩
  ·rw[Below.heap_alloc _ _ _ (by simp)];exact heap_alloc_new w _
  ·have:=heap_alloc_new (w.alloc (.cells #[.slice (some ⟨bt,0,none⟩) n cap] 48)) (.cells #[.slice none 0 0] 48);simpa using this
 case round =>
  obtain⟨k,vs,hk,rfl,hrow,HST,hbel,hbox,hres⟩:=hrel
  have e0:=ceL hbox 0 _ rfl
  have hwlt:w.heap.size<wr.heap.size:=(Array.getElem?_eq_some_iff.1 hbox).1
  have hrlt:w.heap.size+1<wr.heap.size:=(Array.getElem?_eq_some_iff.1 hres).1
  by_cases hlt:k<n
  ·have hkl:k<ts.length:=by rw[← HN.out];exact hlt
   obtain⟨hbt,sa,sc,c0,c1,c2,ho⟩:=zCn HA.out HN.out k hkl
   have d0:=cfL hbel hbt c0
   have d1:=cfL hbel hbt c1
   have d2:=cfL hbel hbt c2
   have hls:=HS.out ts[k] (List.getElem_mem hkl)
   have HSN:=zAa (zGS ts k hkl)
   have HLT:Hid (((ts.take k).map (P.zKZ ts)).length=k):=by unfold Hid;simp;omega
   generalize ts[k]=t at *
   have HT2:Hid (P.zKZ ts t={ t with stmts:=P.zKo (P.zLp ts) t.stmts }):=rfl
   have HCN:Hid (∀ w2:World,Below w.heap.size w w2→Calls Tryz.prog 43 #[.agg #[.slice (some ⟨bt,0,none⟩) n cap],.slice sa t.stmts.length sc] w2 fun e w'=>∃ v,e=.returned v∧w'.ownsRow w2.heap.size 96 11 v (P.zKo (P.zLp ts) t.stmts).length (zAA (P.zKo (P.zLp ts) t.stmts))∧Below w2.heap.size w2 w'):=fun w2 hb=>zFS B bt n cap B t.stmts.length sc sa ts t.stmts w2 (HA.out.keep (fun k hk=>hb.block k hk)) HN.out hnb HS.out (zAd ho (fun j hj=>hb.block j (ho.lt j hj).2)) rfl hls
   have HROW:=zAa hrow
   have HBL:=zAa hbel
   generalize hnl:P.zKo (P.zLp ts) t.stmts=nl at *
   clear c0 c1 c2 ho hrow hbel hnl
   go_wp2_with (first
    | (go_at_call 43;refine (HCN.out _ (HBL.out.alloc (by omega) _)).mono ?_;rintro e w6 ⟨v3,rfl,hr6,hb6⟩;obtain⟨a6,c6,rfl⟩:=zCt hr6;have hW6:Below wr.heap.size wr w6:=((Below.refl wr.heap.size wr).alloc (Nat.le_refl _) _).trans (hb6.mono (by simp));have TB6:w6.heap[wr.heap.size]?=some (.cells #[.int .i64 t.block,.int .i64 t.line,.slice sa t.stmts.length sc] 88 (0,0)):=(hb6.block _ (by simp)).trans (heap_alloc_new wr _);obtain⟨q1,q2,q3,q4,q5,q6,q7⟩:=zCu TB6;have TS:=zAa (zEF TB6 (.slice a6 nl.length c6));have WS:=zAa (hW6.setCell (p:=⟨wr.heap.size,2,none⟩) (Nat.le_refl _) (.slice a6 nl.length c6));have VS:Hid ((w6.setCell ⟨wr.heap.size,2,none⟩ (.slice a6 nl.length c6)).ownsRow (wr.heap.size+1) 96 11 (.slice a6 nl.length c6) nl.length (zAA nl)):=(zAd (zBM hr6 (by simp)) (fun j hj=>Below.heap_setCell _ _ _ _ (fun ej=>by have h1:=(hr6.lt j hj).1;have h2:j=wr.heap.size:=ej;simp at h1;omega)));have hws6:=WS.out.size;clear hr6)
    | (generalize w6.setCell ⟨wr.heap.size,2,none⟩ (.slice a6 nl.length c6)=W at *;refine zBZ (.tmp 5) rfl rfl wr.heap.size t.block t.line (.slice a6 nl.length c6) rfl (by exact TS.out) ?_)
    | (at_builtin;refine wpList_append_lies _ rfl (.tmp 18) (.tmp 20) 46 rfl w.heap.size 88 i0 (.agg #[.int .i64 0,.int .i64 0,.slice none 0 0]) 3 40 Tryz.underlying46 hi hz0 hz1 hz2 rfl (by decide) _ _ _ rfl ((zAd HROW.out (fun j hj=>WS.out.block j (HROW.out.lt j hj).2)).alloc _) ⟨W.heap.size,0,none⟩ 1 1 [Value.int .i64 t.block,.int .i64 t.line,.slice a6 nl.length c6] rfl rfl ?c1 ?c2 (by decide) ?c3 ?c4 ?c5 _ rfl ?_))
   case c1=>exact World.news_of_block (t:=88) (fr:=(0,0)) (heap_alloc_new W _)
   case c2=>simp[Value.oneCell']
   case c3=>unfold maxLen;omega
   case c4=>omega
   case c5=>simp;omega
   intro g1 cap1 w1 hown1 hgrow hat hlt1
   have hW':Below wr.heap.size wr (W.alloc (.cells #[.int .i64 t.block,.int .i64 t.line,.slice a6 nl.length c6] 88)):=WS.out.alloc (by omega) _
   have FIN:=zAa (zBq HBL.out hW' HROW.out hgrow)
   have FBX:=zAa (zBf hW' HROW.out hgrow hbox (by decide))
   have FRS:=zAa (zBf hW' HROW.out hgrow hres (by decide))
   have FTH:=zAa (zFT (t:=P.zKZ ts t) HBL.out HROW.out HLT.out HST.out hW' (Nat.le_succ _) (by rw[HT2.out];exact VS.out.alloc _) hgrow (by rw[HT2.out];rw[← List.map_take] at hown1;exact hown1))
   rw[← HSN.out] at FTH
   clear hown1 hgrow hat HROW HBL hW' TS WS VS HST
   go_wp2
   go_roundw
   case rel=>exact⟨k+1,_,by omega,by go_num,FTH.out.1,FTH.out.2,FIN.out,FBX.out,FRS.out⟩
   case measure=>simp[intOf];omega
  ·have hkn:k=n:=by omega
   subst hkn
   have HT:Hid (ts.take k=ts):=List.take_of_length_le (by have:=HN.out;omega)
   obtain⟨g1,cap1,rfl,hg1,hg2⟩:=hrow.form h0
   have r0:=ceL hres 0 _ rfl
   have r1:wr.frozen? ⟨w.heap.size+1,0,none⟩=false:=by simp[World.frozen?,hres]
   have FIN:Hid (zAl (wr.setCell ⟨w.heap.size+1,0,none⟩ (.slice (some ⟨g1,0,none⟩) k cap1)) w.heap.size (.slice (some ⟨g1,0,none⟩) k cap1) (P.zLv ts)∧Below w.heap.size w (wr.setCell ⟨w.heap.size+1,0,none⟩ (.slice (some ⟨g1,0,none⟩) k cap1))):=by
    have hST:=HST.out
    rw[HT.out] at hrow hST
    refine⟨⟨vs,?_,?_⟩,hbel.setCell (p:=⟨w.heap.size+1,0,none⟩) (by simp) _⟩
    ·have e1:(P.zLv ts).length=k:=by unfold P.zLv;rw[List.length_map,← HN.out]
     rw[e1]
     exact zAd hrow (fun j hj=>Below.heap_setCell _ _ _ _ (fun e=>zAV hrow hres (by decide) (by rw[hj,e])))
    ·exact hST.keep (fun u hu j hj=>Below.heap_setCell _ _ _ _ (fun e=>by
      obtain⟨n',xs',hu'⟩:=hST.mem u hu
      exact zAV hu' hres (by decide) (by rw[hj,e])))
   clear HST hrow hbel
   go_wp2
   refine zFk (w.heap.size+1) (.slice (some ⟨g1,0,none⟩) k cap1) rfl rfl (by rw[zAf hres];rfl) rfl ⟨g1,cap1,rfl,FIN.out⟩
end Go.Proofs.YtgceflcbckjjiaaGreatDoor
