import Derived.Test.YtpkjmdcabdplfaaGreatDoorB47
import Derived.Test.YtpkjmdcabdplfaaGreatDoorB45
set_option linter.unusedVariables false
set_option linter.unusedSimpArgs false
namespace Go.Proofs.YtpkjmdcabdplfaaGreatDoor
open Go Go.RowKit
set_option maxRecDepth 100000
theorem fencT_snoc (ts:List P.Thr) (k:Nat) (h:k<ts.length):(ts.take (k+1)).map (P.fencedT ts)=(ts.take k).map (P.fencedT ts)++[P.fencedT ts ts[k]]:=by
 rw[List.take_succ_eq_append_getElem h,List.map_append];rfl
set_option maxHeartbeats 12800000 in
theorem fenced_any (B bt n cap:Nat) (ts:List P.Thr) (w:World) (h:ThreadsAt w B (.slice (some ⟨bt,0,none⟩) n cap) ts) (hn:n=ts.length) (hnb:n<10) (h0:0<n) (hst:∀ t∈ts,t.stmts.length<10000) :
  Calls Tryz.prog 11 #[.agg #[.slice (some ⟨bt,0,none⟩) n cap]] w fun e w'=>∃ bt' cap',e=.returned (.agg #[.slice (some ⟨bt',0,none⟩) n cap'])∧ThreadsAt w' w.heap.size (.slice (some ⟨bt',0,none⟩) n cap') (P.fenced ts)∧Below w.heap.size w w':=by
 obtain⟨i0,hi,hz0,hz1,hz2⟩:=info_parts Tryz.infoThr
 have HA:=hide h
 have HN:=hide hn
 have HS:=hide hst
 clear h hn hst
 go_enter Tryz.func11,Tryz.ntmps11
 go_wp2
 go_loopw [3,9] (fun o i wr=>∃ (k:Nat) (vs:List Value),k≤n∧i=.int .i64 k∧wr.ownsRow w.heap.size 73 3 o k (thrCells ((ts.take k).map (P.fencedT ts)) vs)∧Hid (StmtsAt wr w.heap.size ((ts.take k).map (P.fencedT ts)) vs)∧Below w.heap.size w wr∧wr.heap[w.heap.size]?=some (.cells #[.slice (some ⟨bt,0,none⟩) n cap] 35 (0,0))∧wr.heap[w.heap.size+1]?=some (.cells #[.slice none 0 0] 35 (0,0))) (fun _ i _=>n-(intOf i).toNat)
 case atStart =>
  refine⟨0,[],Nat.zero_le _,rfl,by simpa [thrCells] using World.ownsRow_nil _ _ _ _,by unfold Hid;simp[StmtsAt],((Below.refl _ _).alloc (Nat.le_refl _) _).alloc (by simp) _,?_,?_⟩
  ·rw[Below.heap_alloc _ _ _ (by simp)];exact heap_alloc_new w _
  ·have:=heap_alloc_new (w.alloc (.cells #[.slice (some ⟨bt,0,none⟩) n cap] 35)) (.cells #[.slice none 0 0] 35);simpa using this
 case round =>
  obtain⟨k,vs,hk,rfl,hrow,HST,hbel,hbox,hres⟩:=hrel
  have e0:wr.cell? ⟨w.heap.size,0,none⟩=some (.slice (some ⟨bt,0,none⟩) n cap):=by simp[World.cell?,hbox]
  have hwlt:w.heap.size<wr.heap.size:=(Array.getElem?_eq_some_iff.1 hbox).1
  have hrlt:w.heap.size+1<wr.heap.size:=(Array.getElem?_eq_some_iff.1 hres).1
  by_cases hlt:k<n
  ·have hkl:k<ts.length:=by rw[← HN.out];exact hlt
   obtain⟨hbt,sa,sc,c0,c1,c2,ho⟩:=thr_at HA.out HN.out k hkl
   have d0:=(hbel.cell (p:=⟨bt,k*3,none⟩) hbt).trans c0
   have d1:=(hbel.cell (p:=⟨bt,k*3+1,none⟩) hbt).trans c1
   have d2:=(hbel.cell (p:=⟨bt,k*3+2,none⟩) hbt).trans c2
   have hls:=HS.out ts[k] (List.getElem_mem hkl)
   have HSN:=hide (fencT_snoc ts k hkl)
   have HLT:Hid (((ts.take k).map (P.fencedT ts)).length=k):=by unfold Hid;simp;omega
   generalize ts[k]=t at *
   have HT2:Hid (P.fencedT ts t={ t with stmts:=P.fencedS (P.isPure ts) t.stmts }):=rfl
   have HCN:Hid (∀ w2:World,Below w.heap.size w w2→Calls Tryz.prog 31 #[.agg #[.slice (some ⟨bt,0,none⟩) n cap],.slice sa t.stmts.length sc] w2 fun e w'=>∃ v,e=.returned v∧w'.ownsRow w2.heap.size 80 11 v (P.fencedS (P.isPure ts) t.stmts).length (flatStm (P.fencedS (P.isPure ts) t.stmts))∧Below w2.heap.size w2 w'):=fun w2 hb=>fencedS_any B bt n cap B t.stmts.length sc sa ts t.stmts w2 (HA.out.keep (fun k hk=>hb.block k hk)) HN.out hnb HS.out (ownsRow_keep ho (fun j hj=>hb.block j (ho.lt j hj).2)) rfl hls
   have HROW:=hide hrow
   have HBL:=hide hbel
   generalize hnl:P.fencedS (P.isPure ts) t.stmts=nl at *
   clear c0 c1 c2 ho hrow hbel hnl
   go_wp2_with (first
    | (go_at_call 31;refine (HCN.out _ (HBL.out.alloc (by omega) _)).mono ?_;rintro e w6 ⟨v3,rfl,hr6,hb6⟩;obtain⟨a6,c6,rfl⟩:=own_formS hr6;have hW6:Below wr.heap.size wr w6:=((Below.refl wr.heap.size wr).alloc (Nat.le_refl _) _).trans (hb6.mono (by simp));have TB6:w6.heap[wr.heap.size]?=some (.cells #[.int .i64 t.block,.int .i64 t.line,.slice sa t.stmts.length sc] 73 (0,0)):=(hb6.block _ (by simp)).trans (heap_alloc_new wr _);obtain⟨q1,q2,q3,q4,q5,q6,q7⟩:=thrB_facts TB6;have TS:=hide (thrB_set TB6 (.slice a6 nl.length c6));have WS:=hide (hW6.setCell (p:=⟨wr.heap.size,2,none⟩) (Nat.le_refl _) (.slice a6 nl.length c6));have VS:Hid ((w6.setCell ⟨wr.heap.size,2,none⟩ (.slice a6 nl.length c6)).ownsRow (wr.heap.size+1) 80 11 (.slice a6 nl.length c6) nl.length (flatStm nl)):=(ownsRow_keep (own_base hr6 (by simp)) (fun j hj=>Below.heap_setCell _ _ _ _ (fun ej=>by have h1:=(hr6.lt j hj).1;have h2:j=wr.heap.size:=ej;simp at h1;omega)));have hws6:=WS.out.size;clear hr6)
    | (generalize w6.setCell ⟨wr.heap.size,2,none⟩ (.slice a6 nl.length c6)=W at *;refine wpList_load_thr (.tmp 5) rfl rfl wr.heap.size t.block t.line (.slice a6 nl.length c6) rfl (by exact TS.out) ?_)
    | (at_builtin;refine wpList_append_lies _ rfl (.tmp 18) (.tmp 20) 33 rfl w.heap.size 73 i0 (.agg #[.int .i64 0,.int .i64 0,.slice none 0 0]) 3 40 Tryz.underlying33 hi hz0 hz1 hz2 rfl (by decide) _ _ _ rfl ((ownsRow_keep HROW.out (fun j hj=>WS.out.block j (HROW.out.lt j hj).2)).alloc _) ⟨W.heap.size,0,none⟩ 1 1 [Value.int .i64 t.block,.int .i64 t.line,.slice a6 nl.length c6] rfl rfl ?c1 ?c2 (by decide) ?c3 ?c4 ?c5 _ rfl ?_))
   case c1=>exact World.news_of_block (t:=73) (fr:=(0,0)) (heap_alloc_new W _)
   case c2=>simp[Value.oneCell']
   case c3=>unfold maxLen;omega
   case c4=>omega
   case c5=>simp;omega
   intro g1 cap1 w1 hown1 hgrow hat hlt1
   have hW':Below wr.heap.size wr (W.alloc (.cells #[.int .i64 t.block,.int .i64 t.line,.slice a6 nl.length c6] 73)):=WS.out.alloc (by omega) _
   have FIN:=hide (grown_row HBL.out hW' HROW.out hgrow)
   have FBX:=hide (grown_other hW' HROW.out hgrow hbox (by decide))
   have FRS:=hide (grown_other hW' HROW.out hgrow hres (by decide))
   have FTH:=hide (thr_app (t:=P.fencedT ts t) HBL.out HROW.out HLT.out HST.out hW' (Nat.le_succ _) (by rw[HT2.out];exact VS.out.alloc _) hgrow (by rw[HT2.out];rw[← List.map_take] at hown1;exact hown1))
   rw[← HSN.out] at FTH
   clear hown1 hgrow hat HROW HBL hW' TS WS VS HST
   go_wp2
   go_roundw
   case rel=>exact⟨k+1,_,by omega,by go_num,FTH.out.1,FTH.out.2,FIN.out,FBX.out,FRS.out⟩
   case measure=>simp[intOf];omega
  ·have hkn:k=n:=by omega
   subst hkn
   have HT:Hid (ts.take k=ts):=List.take_of_length_le (by have:=HN.out;omega)
   obtain⟨g1,cap1,rfl,hg1,hg2⟩:=hrow.form h0
   have r0:wr.cell? ⟨w.heap.size+1,0,none⟩=some (.slice none 0 0):=by simp[World.cell?,hres]
   have r1:wr.frozen? ⟨w.heap.size+1,0,none⟩=false:=by simp[World.frozen?,hres]
   have FIN:Hid (ThreadsAt (wr.setCell ⟨w.heap.size+1,0,none⟩ (.slice (some ⟨g1,0,none⟩) k cap1)) w.heap.size (.slice (some ⟨g1,0,none⟩) k cap1) (P.fenced ts)∧Below w.heap.size w (wr.setCell ⟨w.heap.size+1,0,none⟩ (.slice (some ⟨g1,0,none⟩) k cap1))):=by
    have hST:=HST.out
    rw[HT.out] at hrow hST
    refine⟨⟨vs,?_,?_⟩,hbel.setCell (p:=⟨w.heap.size+1,0,none⟩) (by simp) _⟩
    ·have e1:(P.fenced ts).length=k:=by unfold P.fenced;rw[List.length_map,← HN.out]
     rw[e1]
     exact ownsRow_keep hrow (fun j hj=>Below.heap_setCell _ _ _ _ (fun e=>own_ne_blk hrow hres (by decide) (by rw[hj,e])))
    ·exact hST.keep (fun u hu j hj=>Below.heap_setCell _ _ _ _ (fun e=>by
      obtain⟨n',xs',hu'⟩:=hST.mem u hu
      exact own_ne_blk hu' hres (by decide) (by rw[hj,e])))
   clear HST hrow hbel
   go_wp2
   refine ret_prog1 (w.heap.size+1) (.slice (some ⟨g1,0,none⟩) k cap1) rfl rfl (by rw[setCell_block hres];rfl) rfl ⟨g1,cap1,rfl,FIN.out⟩
namespace P
def isOpt (way:Int):Bool:=way==2||way==3
def isFen (way:Int):Bool:=way==1||way==3
def compileW (l:List UInt8) (way:Int):List UInt8 × Int × Int :=
 if way<0∨4≤way then ([],5,0) else if (kernel l).2.1 != 0 then ([],(kernel l).2.1,(kernel l).2.2) else (write (ways (kernel l).1 (isOpt way) (isFen way)),0,0)
structure OkT (n:Nat) (ts:List Thr):Prop where
 len:∀ t∈ts,t.stmts.length<n
 sm:∀ t∈ts,0≤t.block∧t.block<100∧∀ x∈t.stmts,Small x
theorem small_os {st:Stm} (h:Small st) (o s:Int):Small { st with order:=o,scope:=s }:=⟨h.d0,h.d1,h.a0,h.a1,h.b0,h.b1,h.l0,h.l1⟩
theorem small_narrow {st:Stm} (h:Small st) (ts:List Thr):Small (narrowS ts st):=by
 unfold narrowS;split
 ·exact small_os h st.order 0
 ·exact h
theorem small_fence (st:Stm):Small (fenceS st):=⟨by simp[fenceS],by simp[fenceS],by simp[fenceS,Opd.zero],by simp[fenceS,Opd.zero],by simp[fenceS,Opd.zero],by simp[fenceS,Opd.zero],by simp[fenceS],by simp[fenceS]⟩
theorem drop_sub (l:List Stm):∀ c,∀ x∈dropGo c l,x∈l:=by
 induction l with
 | nil=>intro c x h;simp[dropGo] at h
 | cons s r ih =>
  intro c x h
  simp only[dropGo] at h
  split at h
  ·split at h
   ·exact List.mem_cons_of_mem _ (ih _ x h)
   ·rcases List.mem_cons.1 h with h | h
    ·simp[h]
    ·exact List.mem_cons_of_mem _ (ih _ x h)
  ·rcases List.mem_cons.1 h with h | h
   ·simp[h]
   ·exact List.mem_cons_of_mem _ (ih _ x h)
theorem thin_sub (l:List Stm):∀ p,∀ x∈thinGo p l,x∈l:=by
 induction l with
 | nil=>intro c x h;simp[thinGo] at h
 | cons s r ih =>
  intro c x h
  simp only[thinGo] at h
  split at h
  ·exact List.mem_cons_of_mem _ (ih _ x h)
  ·rcases List.mem_cons.1 h with h | h
   ·simp[h]
   ·exact List.mem_cons_of_mem _ (ih _ x h)
theorem OkT.trim {n:Nat} {ts:List Thr} (h:OkT n ts):OkT n (trimmed ts):=by
 refine⟨fun t ht=>?_,fun t ht=>?_⟩
 ·obtain⟨u,hu,rfl⟩:=List.mem_map.1 ht
  have h1:=h.len u hu
  have h2:=thin_len (secondT ts u.block (narrowed ts u.stmts)) none
  have h3:(secondT ts u.block (narrowed ts u.stmts)).length≤u.stmts.length:=by
   unfold secondT
   have e:(narrowed ts u.stmts).length=u.stmts.length:=by simp[narrowed]
   split
   ·have:=drop_len (narrowed ts u.stmts) 0;omega
   ·omega
  simp only[trimT];omega
 ·obtain⟨u,hu,rfl⟩:=List.mem_map.1 ht
  obtain⟨h1,h2,h3⟩:=h.sm u hu
  refine⟨h1,h2,fun x hx=>?_⟩
  have hx:=thin_sub _ _ x hx
  have hy:x∈narrowed ts u.stmts:=by
   unfold secondT at hx
   split at hx
   ·exact drop_sub _ _ x hx
   ·exact hx
  obtain⟨y,hy2,rfl⟩:=List.mem_map.1 hy
  exact small_narrow (h3 y hy2) ts
theorem OkT.fence {n:Nat} {ts:List Thr} (h:OkT n ts):OkT (3*n) (fenced ts):=by
 refine⟨fun t ht=>?_,fun t ht=>?_⟩
 ·obtain⟨u,hu,rfl⟩:=List.mem_map.1 ht
  have h1:=h.len u hu
  have h2:=fencedS_len (isPure ts) u.stmts
  simp only[fencedT];omega
 ·obtain⟨u,hu,rfl⟩:=List.mem_map.1 ht
  obtain⟨h1,h2,h3⟩:=h.sm u hu
  refine⟨h1,h2,?_⟩
  simp only[fencedT]
  generalize isPure ts=pr
  generalize u.stmts=l at h3
  induction l with
  | nil=>intro x hx;simp[fencedS] at hx
  | cons s r ih =>
   intro x hx
   simp only[fencedS,List.mem_append] at hx
   rcases hx with hx | hx
   ·have hs:=h3 s (by simp)
    unfold fenced1 at hx
    split at hx
    ·simp only[List.mem_append] at hx
     rcases hx with (hx | hx) | hx
     ·split at hx
      ·simp at hx;rw[hx];exact small_fence s
      ·simp at hx
     ·simp at hx;rw[hx];exact small_os hs 1 s.scope
     ·split at hx
      ·simp at hx;rw[hx];exact small_fence s
      ·simp at hx
    ·simp at hx;rw[hx];exact hs
   ·exact ih (fun y hy=>h3 y (by simp[hy])) x hx
end P
theorem kernel_ne (l:List UInt8) (h:(P.kernel l).2.1=0):0<(P.kernel l).1.length:=by
 unfold P.kernel at h ⊢
 split at h
 ·simp at h
 ·rename_i h1
  rw[if_neg h1]
  split at h
  ·simp at h
  ·rename_i h2
   rw[if_neg h2]
   split at h
   ·simp at h
   ·rename_i h3
    rw[if_neg h3]
    split at h
    ·simp at h
    ·rename_i h4
     rw[if_neg h4]
     split at h
     ·simp at h
     ·rename_i h5
      rw[if_neg h5]
      have:=(P.lines_ok l (by simpa using h2)).1
      exact List.length_pos_iff.2 this
theorem wpList_load_prog {ops:Array Oper} {rest:List Oper} {op:Oper} {a:Act} {w:World} {Q:Exit→Act→World→Prop} (x:Operand) (hgd:op.guard=none) (ho:op.op=.load 35 x)
  (g:Nat) (v:Value) (hx:a.eval x=.pointer (some ⟨g,0,none⟩)) (hg:w.heap[g]?=some (.cells #[v] 35 (0,0)))
  (h:wpList Tryz.prog ops Q rest (a.put op.dst (.agg #[v])) w):wpList Tryz.prog ops Q (op::rest) a w :=
 wpList_load_row hgd _ x ho g hx _ _ hg _ Tryz.underlying35 rfl (by kernel_rfl) h
theorem progB {w:World} {g:Nat} {v:Value} (h:w.heap[g]?=some (.cells #[v] 35 (0,0))):g<w.heap.size∧w.cell? ⟨g,0,none⟩=some v∧w.frozen? ⟨g,0,none⟩=false:=by
 refine⟨(Array.getElem?_eq_some_iff.1 h).1,?_,?_⟩<;>simp[World.cell?,World.frozen?,h]
theorem boxed {w W w2:World} {g bt n cap:Nat} {v:Value} {ts:List P.Thr} (hbw:Below w.heap.size w W) (hg:W.heap[g]?=some (.cells #[v] 35 (0,0))) (hwg:w.heap.size≤g) (hth:ThreadsAt w2 W.heap.size (.slice (some ⟨bt,0,none⟩) n cap) ts) (hb:Below W.heap.size W w2) :
  ThreadsAt (w2.setCell ⟨g,0,none⟩ (.slice (some ⟨bt,0,none⟩) n cap)) g (.slice (some ⟨bt,0,none⟩) n cap) ts∧Below w.heap.size w (w2.setCell ⟨g,0,none⟩ (.slice (some ⟨bt,0,none⟩) n cap))∧(w2.setCell ⟨g,0,none⟩ (.slice (some ⟨bt,0,none⟩) n cap)).heap[g]?=some (.cells #[.slice (some ⟨bt,0,none⟩) n cap] 35 (0,0))∧w2.cell? ⟨g,0,none⟩=some v∧w2.frozen? ⟨g,0,none⟩=false∧g<w2.heap.size:=by
 have hlt:g<W.heap.size:=(Array.getElem?_eq_some_iff.1 hg).1
 have h2:=(hb.block g hlt).trans hg
 obtain⟨p1,p2,p3⟩:=progB h2
 refine⟨(hth.base (by omega)).set _,(hbw.trans (hb.mono hbw.size)).setCell (p:=⟨g,0,none⟩) hwg _,?_,p2,p3,p1⟩
 rw[setCell_block h2];rfl
set_option maxHeartbeats 6400000 in
theorem compileW_any (s:ByteArray) (way:Int) (w:World) (hs:s.size≤8192) :
  Calls Tryz.prog 6 #[.string s,.int .i64 way] w fun e w'=>∃ t,e=.returned (.tuple #[.string t,.int .i64 (P.compileW s.toList way).2.1,.int .i64 (P.compileW s.toList way).2.2])∧Txt 10000000 t (P.compileW s.toList way).1∧Below w.heap.size w w':=by
 by_cases h1:way<0
 ·have HE:Hid (P.compileW s.toList way=([],5,0)):=by unfold Hid P.compileW;rw[if_pos (Or.inl h1)]
  have hd:decide (way<0)=true:=by simpa using h1
  go_enter Tryz.func6,Tryz.ntmps6
  go_wp2
  go_ret3
  rw[HE.out]
  exact⟨_,rfl,⟨by rw[lit_toList],by simp[lit_size]⟩,Below.refl _ _⟩
 by_cases h2:4≤way
 ·have HE:Hid (P.compileW s.toList way=([],5,0)):=by unfold Hid P.compileW;rw[if_pos (Or.inr h2)]
  have hd:decide (way<0)=false:=by simpa using h1
  have hd2:decide (4≤way)=true:=by simpa using h2
  go_enter Tryz.func6,Tryz.ntmps6
  go_wp2
  go_ret3
  rw[HE.out]
  exact⟨_,rfl,⟨by rw[lit_toList],by simp[lit_size]⟩,Below.refl _ _⟩
 have h3:¬ (way<0∨4≤way):=by omega
 cases hf:((P.kernel s.toList).2.1 != 0)
 rotate_left
 ·have HE:Hid (P.compileW s.toList way=([],(P.kernel s.toList).2.1,(P.kernel s.toList).2.2)):=by unfold Hid P.compileW;rw[if_neg h3,hf];rfl
  have hd:decide (way<0)=false:=by simpa using h1
  have hd2:decide (4≤way)=false:=by simpa using h2
  go_enter Tryz.func6,Tryz.ntmps6
  go_wp2_with (first
   | (go_at_call 9;refine (kernel_any s _ hs).mono ?_;rintro e w1 ⟨tv,rfl,⟨ta,tm,tc,rfl⟩,h2,hb⟩;clear h2))
  go_ret3
  rw[HE.out]
  exact⟨_,rfl,⟨by rw[lit_toList],by simp[lit_size]⟩,hb.alloc hb.size _⟩
 have hf0:(P.kernel s.toList).2.1=0:=by simpa using hf
 have HE:Hid (P.compileW s.toList way=(P.write (P.ways (P.kernel s.toList).1 (P.isOpt way) (P.isFen way)),0,0)):=by unfold Hid P.compileW;rw[if_neg h3,hf];rfl
 have hw4:way=0∨way=1∨way=2∨way=3:=by omega
 clear h1 h2 h3
 have HNE:Hid (0<(P.kernel s.toList).1.length):=kernel_ne s.toList hf0
 rcases hw4 with rfl | rfl | rfl | rfl
 ·go_enter Tryz.func6,Tryz.ntmps6
  go_wp2_with (first
   | (go_at_call 9;refine (kernel_any s _ hs).mono ?_;rintro e w1 ⟨tv,rfl,h1,h2,hb⟩;obtain⟨bt,tc,rfl,hth,k1,k2,k3⟩:=h2 hf0;have HT:=hide hth;have OK0:Hid (P.OkT 3000 (P.kernel s.toList).1):=⟨k2,k3⟩;have hn0:0<(P.kernel s.toList).1.length:=HNE.out;have hB0:Below w.heap.size w (w1.alloc (.cells #[.slice (some ⟨bt,0,none⟩) (P.kernel s.toList).1.length tc] 35)):=hb.alloc hb.size _;have BX0:(w1.alloc (.cells #[.slice (some ⟨bt,0,none⟩) (P.kernel s.toList).1.length tc] 35)).heap[w1.heap.size]?=some (.cells #[.slice (some ⟨bt,0,none⟩) (P.kernel s.toList).1.length tc] 35 (0,0)):=heap_alloc_new w1 _;have TH0:Hid (ThreadsAt (w1.alloc (.cells #[.slice (some ⟨bt,0,none⟩) (P.kernel s.toList).1.length tc] 35)) w.heap.size (.slice (some ⟨bt,0,none⟩) (P.kernel s.toList).1.length tc) (P.kernel s.toList).1):=HT.out.keep (fun k hk=>Below.heap_alloc _ _ _ hk);have hw1:=hb.size;have HBX0:=hide BX0;have HB0:=hide hB0;clear hth k2 k3 h2 BX0 hB0 HT h1)
   | (go_at_call 12;refine (write_any w.heap.size bt _ tc (P.kernel s.toList).1 _ (by exact TH0.out) rfl (by omega) (fun t ht=>by have:=OK0.out.len t ht;omega) OK0.out.sm).mono ?_;rintro e wz ⟨t,rfl,ht,hbz⟩))
  go_ret3
  rw[HE.out]
  exact⟨t,rfl,ht,HB0.out.trans (hbz.mono HB0.out.size)⟩
 ·go_enter Tryz.func6,Tryz.ntmps6
  go_wp2_with (first
   | (go_at_call 9;refine (kernel_any s _ hs).mono ?_;rintro e w1 ⟨tv,rfl,h1,h2,hb⟩;obtain⟨bt,tc,rfl,hth,k1,k2,k3⟩:=h2 hf0;have HT:=hide hth;have OK0:Hid (P.OkT 3000 (P.kernel s.toList).1):=⟨k2,k3⟩;have hn0:0<(P.kernel s.toList).1.length:=HNE.out;have hB0:Below w.heap.size w (w1.alloc (.cells #[.slice (some ⟨bt,0,none⟩) (P.kernel s.toList).1.length tc] 35)):=hb.alloc hb.size _;have BX0:(w1.alloc (.cells #[.slice (some ⟨bt,0,none⟩) (P.kernel s.toList).1.length tc] 35)).heap[w1.heap.size]?=some (.cells #[.slice (some ⟨bt,0,none⟩) (P.kernel s.toList).1.length tc] 35 (0,0)):=heap_alloc_new w1 _;have TH0:Hid (ThreadsAt (w1.alloc (.cells #[.slice (some ⟨bt,0,none⟩) (P.kernel s.toList).1.length tc] 35)) w.heap.size (.slice (some ⟨bt,0,none⟩) (P.kernel s.toList).1.length tc) (P.kernel s.toList).1):=HT.out.keep (fun k hk=>Below.heap_alloc _ _ _ hk);have hw1:=hb.size;have HBX0:=hide BX0;have HB0:=hide hB0;clear hth k2 k3 h2 BX0 hB0 HT h1)
   | (go_at_call 11;refine (fenced_any w.heap.size bt _ tc (P.kernel s.toList).1 _ (by exact TH0.out) rfl (by omega) hn0 (fun t ht=>by have:=OK0.out.len t ht;omega)).mono ?_;rintro e w2 ⟨bt2,tc2,rfl,hth2,hb2⟩;obtain⟨g1,g2,g3,g4,g5,g6⟩:=boxed HB0.out HBX0.out hw1 hth2 hb2;have TH2:=hide g1;have HB2:=hide g2;have BX2:=hide g3;clear g1 g2 g3 hth2)
   | (generalize w2.setCell ⟨w1.heap.size,0,none⟩ (.slice (some ⟨bt2,0,none⟩) (P.kernel s.toList).1.length tc2)=W2 at *;refine wpList_load_prog (.tmp 7) rfl rfl w1.heap.size _ rfl (by exact BX2.out) ?_)
   | (go_at_call 12;refine (write_any w1.heap.size bt2 _ tc2 (P.fenced (P.kernel s.toList).1) _ (by exact TH2.out) (by simp[P.fenced]) (by omega) (fun t ht=>by have:=OK0.out.fence.len t ht;omega) OK0.out.fence.sm).mono ?_;rintro e wz ⟨t,rfl,ht,hbz⟩))
  go_ret3
  rw[HE.out]
  exact⟨t,rfl,ht,HB2.out.trans (hbz.mono HB2.out.size)⟩
 ·go_enter Tryz.func6,Tryz.ntmps6
  go_wp2_with (first
   | (go_at_call 9;refine (kernel_any s _ hs).mono ?_;rintro e w1 ⟨tv,rfl,h1,h2,hb⟩;obtain⟨bt,tc,rfl,hth,k1,k2,k3⟩:=h2 hf0;have HT:=hide hth;have OK0:Hid (P.OkT 3000 (P.kernel s.toList).1):=⟨k2,k3⟩;have hn0:0<(P.kernel s.toList).1.length:=HNE.out;have hB0:Below w.heap.size w (w1.alloc (.cells #[.slice (some ⟨bt,0,none⟩) (P.kernel s.toList).1.length tc] 35)):=hb.alloc hb.size _;have BX0:(w1.alloc (.cells #[.slice (some ⟨bt,0,none⟩) (P.kernel s.toList).1.length tc] 35)).heap[w1.heap.size]?=some (.cells #[.slice (some ⟨bt,0,none⟩) (P.kernel s.toList).1.length tc] 35 (0,0)):=heap_alloc_new w1 _;have TH0:Hid (ThreadsAt (w1.alloc (.cells #[.slice (some ⟨bt,0,none⟩) (P.kernel s.toList).1.length tc] 35)) w.heap.size (.slice (some ⟨bt,0,none⟩) (P.kernel s.toList).1.length tc) (P.kernel s.toList).1):=HT.out.keep (fun k hk=>Below.heap_alloc _ _ _ hk);have hw1:=hb.size;have HBX0:=hide BX0;have HB0:=hide hB0;clear hth k2 k3 h2 BX0 hB0 HT h1)
   | (go_at_call 10;refine (trimmed_any w.heap.size bt _ tc (P.kernel s.toList).1 _ (by exact TH0.out) rfl (by omega) hn0 (fun t ht=>by have:=OK0.out.len t ht;omega)).mono ?_;rintro e w2 ⟨bt2,tc2,rfl,hth2,hb2⟩;obtain⟨g1,g2,g3,g4,g5,g6⟩:=boxed HB0.out HBX0.out hw1 hth2 hb2;have TH2:=hide g1;have HB2:=hide g2;have BX2:=hide g3;clear g1 g2 g3 hth2)
   | (generalize w2.setCell ⟨w1.heap.size,0,none⟩ (.slice (some ⟨bt2,0,none⟩) (P.kernel s.toList).1.length tc2)=W2 at *;refine wpList_load_prog (.tmp 7) rfl rfl w1.heap.size _ rfl (by exact BX2.out) ?_)
   | (go_at_call 12;refine (write_any w1.heap.size bt2 _ tc2 (P.trimmed (P.kernel s.toList).1) _ (by exact TH2.out) (by simp[P.trimmed]) (by omega) (fun t ht=>by have:=OK0.out.trim.len t ht;omega) OK0.out.trim.sm).mono ?_;rintro e wz ⟨t,rfl,ht,hbz⟩))
  go_ret3
  rw[HE.out]
  exact⟨t,rfl,ht,HB2.out.trans (hbz.mono HB2.out.size)⟩
 ·go_enter Tryz.func6,Tryz.ntmps6
  go_wp2_with (first
   | (go_at_call 9;refine (kernel_any s _ hs).mono ?_;rintro e w1 ⟨tv,rfl,h1,h2,hb⟩;obtain⟨bt,tc,rfl,hth,k1,k2,k3⟩:=h2 hf0;have HT:=hide hth;have OK0:Hid (P.OkT 3000 (P.kernel s.toList).1):=⟨k2,k3⟩;have hn0:0<(P.kernel s.toList).1.length:=HNE.out;have hB0:Below w.heap.size w (w1.alloc (.cells #[.slice (some ⟨bt,0,none⟩) (P.kernel s.toList).1.length tc] 35)):=hb.alloc hb.size _;have BX0:(w1.alloc (.cells #[.slice (some ⟨bt,0,none⟩) (P.kernel s.toList).1.length tc] 35)).heap[w1.heap.size]?=some (.cells #[.slice (some ⟨bt,0,none⟩) (P.kernel s.toList).1.length tc] 35 (0,0)):=heap_alloc_new w1 _;have TH0:Hid (ThreadsAt (w1.alloc (.cells #[.slice (some ⟨bt,0,none⟩) (P.kernel s.toList).1.length tc] 35)) w.heap.size (.slice (some ⟨bt,0,none⟩) (P.kernel s.toList).1.length tc) (P.kernel s.toList).1):=HT.out.keep (fun k hk=>Below.heap_alloc _ _ _ hk);have hw1:=hb.size;have HBX0:=hide BX0;have HB0:=hide hB0;clear hth k2 k3 h2 BX0 hB0 HT h1)
   | (go_at_call 10;refine (trimmed_any w.heap.size bt _ tc (P.kernel s.toList).1 _ (by exact TH0.out) rfl (by omega) hn0 (fun t ht=>by have:=OK0.out.len t ht;omega)).mono ?_;rintro e w2 ⟨bt2,tc2,rfl,hth2,hb2⟩;obtain⟨g1,g2,g3,g4,g5,g6⟩:=boxed HB0.out HBX0.out hw1 hth2 hb2;have TH2:=hide g1;have HB2:=hide g2;have BX2:=hide g3;clear g1 g2 g3 hth2)
   | (generalize w2.setCell ⟨w1.heap.size,0,none⟩ (.slice (some ⟨bt2,0,none⟩) (P.kernel s.toList).1.length tc2)=W2 at *;refine wpList_load_prog (.tmp 7) rfl rfl w1.heap.size _ rfl (by exact BX2.out) ?_)
   | (go_at_call 11;refine (fenced_any w1.heap.size bt2 _ tc2 (P.trimmed (P.kernel s.toList).1) _ (by exact TH2.out) (by simp[P.trimmed]) (by omega) hn0 (fun t ht=>by have:=OK0.out.trim.len t ht;omega)).mono ?_;rintro e w3 ⟨bt3,tc3,rfl,hth3,hb3⟩;obtain⟨g1,g2,g3,g7,g8,g9⟩:=boxed HB2.out BX2.out hw1 hth3 hb3;have TH3:=hide g1;have HB3:=hide g2;have BX3:=hide g3;clear g1 g2 g3 hth3)
   | (generalize w3.setCell ⟨w1.heap.size,0,none⟩ (.slice (some ⟨bt3,0,none⟩) (P.kernel s.toList).1.length tc3)=W3 at *;refine wpList_load_prog (.tmp 7) rfl rfl w1.heap.size _ rfl (by exact BX3.out) ?_)
   | (go_at_call 12;refine (write_any w1.heap.size bt3 _ tc3 (P.fenced (P.trimmed (P.kernel s.toList).1)) _ (by exact TH3.out) (by simp[P.trimmed,P.fenced]) (by omega) (fun t ht=>by have:=OK0.out.trim.fence.len t ht;omega) OK0.out.trim.fence.sm).mono ?_;rintro e wz ⟨t,rfl,ht,hbz⟩))
  go_ret3
  rw[HE.out]
  exact⟨t,rfl,ht,HB3.out.trans (hbz.mono HB3.out.size)⟩
theorem compileW_read (l:List UInt8) (way:Int) (h0:0≤way) (h1:way<4):P.compileW l way=if (R.read l).2.1 != 0 then ([],(R.read l).2.1,(R.read l).2.2) else (R.compW (R.read l).1 (P.isOpt way) (P.isFen way),0,0):=by
 have h:=kernel_read l
 unfold P.compileW
 rw[if_neg (by omega),h.1]
 cases hx:((R.read l).2.1 != 0)
 ·obtain⟨k,a,b,c⟩:=h.2 (by simpa using hx)
  simp only[Bool.false_eq_true,if_false]
  rw[ways_text a b c (R.read_sz l).blk]
 ·rfl
theorem read_pos (l:List UInt8) (h:(R.read l).2.1=0):0<(R.read l).1.length:=by
 obtain⟨k,a,b,c⟩:=(kernel_read l).2 h
 have hk:(P.kernel l).2.1=0:=by rw[(kernel_read l).1];exact h
 have hne:(P.kernel l).1≠[]:=by
  unfold P.kernel at hk ⊢
  by_cases h1:2000<l.length
  ·rw[if_pos h1] at hk;simp at hk
  rw[if_neg h1] at hk ⊢
  cases h2:((P.lines l).2 != 0)
  rotate_left
  ·rw[h2,if_pos rfl] at hk;simp at hk
  have h3:=(P.lines_ok l (by simpa using h2)).1
  simp only[h2,Bool.false_eq_true,if_false] at hk ⊢
  split at hk
  ·simp at hk
  split at hk
  ·simp at hk
  split at hk
  ·simp at hk
  rename_i h4 h5 h6
  rw[if_neg h4,if_neg h5,if_neg h6]
  exact h3
 have hl:(R.read l).1.length=(P.kernel l).1.length:=by
  clear hk hne b c h
  generalize (R.read l).1=x at *
  generalize (P.kernel l).1=y at *
  generalize (0:Int)=z at *
  induction a using ThrC.ind with
  | nil=>rfl
  | cons f b l _ ih=>simp[ih]
 rw[hl]
 exact List.length_pos_iff.2 hne
theorem fen_eq (way:Int) (h0:0≤way) (h1:way<4):(way % 2==1)=P.isFen way:=by
 have:way=0∨way=1∨way=2∨way=3:=by omega
 rcases this with rfl | rfl | rfl | rfl<;>rfl
theorem compiledW_any (B bt cap:Nat) (way:Int) (ts:List R.Th) (vs:List Value) (Fs:List (List Nat)) (w:World) (h:ThsAt w B (.slice (some ⟨bt,0,none⟩) ts.length cap) ts vs Fs) (hm:R.Sm ts) (hok:∀ t∈ts,R.okL t.body) (hn:0<ts.length) (h0:0≤way) (h1:way<4) :
  Calls Tryz.prog 8 #[.slice (some ⟨bt,0,none⟩) ts.length cap,.int .i64 way] w fun e w'=>∃ s,e=.returned (.string s)∧s.toList=R.compW ts (P.isOpt way) (P.isFen way)∧Below w.heap.size w w':=by
 by_cases h2:way<2
 ·have e:R.compW ts (P.isOpt way) (P.isFen way)=R.textPs (fun v=>P.isFen way&&R.pureV ts v) 0 ts:=by
   unfold R.compW R.bettered;rw[show P.isOpt way=false by simp[P.isOpt];omega];rfl
  rw[e]
  exact compiledLo_any B bt _ cap way (P.isFen way) ts vs Fs w h (GT.start rfl hm hok) hn hm.nth h0 h2 (fen_eq way h0 h1)
 ·have e:R.compW ts (P.isOpt way) (P.isFen way)=R.textPs (fun v=>P.isFen way&&R.pureV (R.better ts) v) 0 (R.better ts):=by
   unfold R.compW R.bettered;rw[show P.isOpt way=true by simp[P.isOpt];omega];rfl
  rw[e]
  exact compiledHi_any B bt _ cap way (P.isFen way) ts vs Fs w h hm hok rfl hn (by omega) h1 (fen_eq way h0 h1)
set_option maxHeartbeats 6400000 in
theorem lawW_any (s:ByteArray) (way:Int) (w:World) (hs:s.size≤8192) :
  Calls Tryz.prog 5 #[.string s,.int .i64 way] w fun e w'=>∃ t,e=.returned (.tuple #[.string t,.bool true])∧Below w.heap.size w w':=by
 by_cases hw0:way<0
 ·have HP:Hid (P.compileW s.toList way=([],5,0)):=by unfold Hid P.compileW;rw[if_pos (Or.inl hw0)]
  go_enter Tryz.func5,Tryz.ntmps5
  go_wp2_with (first
   | (go_at_call 6;refine (compileW_any s way _ hs).mono ?_;rw[HP.out];rintro e w1 ⟨t,rfl,ht,hb1⟩;have htl:(t.toList==[])=true:=(by rw[ht.1];rfl);have hte:t.toList.isEmpty=true:=(by rw[ht.1];rfl);dsimp only))
  go_ret2
  exact⟨⟨_,rfl⟩,hb1⟩
 by_cases hw4:4≤way
 ·have HP:Hid (P.compileW s.toList way=([],5,0)):=by unfold Hid P.compileW;rw[if_pos (Or.inr hw4)]
  have hd:decide (way<0)=false:=by simpa using hw0
  go_enter Tryz.func5,Tryz.ntmps5
  go_wp2_with (first
   | (go_at_call 6;refine (compileW_any s way _ hs).mono ?_;rw[HP.out];rintro e w1 ⟨t,rfl,ht,hb1⟩;have htl:(t.toList==[])=true:=(by rw[ht.1];rfl);have hte:t.toList.isEmpty=true:=(by rw[ht.1];rfl);dsimp only))
  go_ret2
  exact⟨⟨_,rfl⟩,hb1⟩
 have hd:decide (way<0)=false:=by simpa using hw0
 have HC:=hide (compileW_read s.toList way (by omega) (by omega))
 have HSM:=hide (R.read_sz s.toList)
 have HOK:=hide (R.read_ok s.toList)
 by_cases hf:(R.read s.toList).2.1=0
 ·have HP:Hid (P.compileW s.toList way=(R.compW (R.read s.toList).1 (P.isOpt way) (P.isFen way),0,0)):=by unfold Hid;rw[HC.out,hf];rfl
  have HPOS:=hide (read_pos s.toList hf)
  go_enter Tryz.func5,Tryz.ntmps5
  go_wp2_with (first
   | (go_at_call 6;refine (compileW_any s way _ hs).mono ?_;rw[HP.out];rintro e w1 ⟨t,rfl,ht,hb1⟩;dsimp only)
   | (go_at_call 7;refine (read_any s _ hs).mono ?_;rintro e w2 ⟨tv,rfl,hth,_,hb2⟩;obtain⟨bt,cap,B,vs,Fs,rfl,hT⟩:=hth hf;have HT:=hide hT;have hb3:=hb1.trans (hb2.mono hb1.size);rw[hf];clear hth hT;dsimp only)
   | (go_at_call 8;refine (compiledW_any B bt cap way (R.read s.toList).1 vs Fs _ HT.out HSM.out HOK.out HPOS.out (by omega) (by omega)).mono ?_;rintro e w3 ⟨u,rfl,hu,hb4⟩;have htt:=ht.1;have hb5:=hb3.trans (hb4.mono hb3.size);dsimp only))
  go_ret2
  exact⟨⟨t,rfl⟩,hb5⟩
 ·have HP:Hid (P.compileW s.toList way=([],(R.read s.toList).2.1,(R.read s.toList).2.2)):=by
   unfold Hid;rw[HC.out,if_pos (by simpa using hf)]
  have hfb:((R.read s.toList).2.1==0)=false:=by simpa using hf
  have hfn:((R.read s.toList).2.1 != 0)=true:=by simpa using hf
  go_enter Tryz.func5,Tryz.ntmps5
  go_wp2_with (first
   | (go_at_call 6;refine (compileW_any s way _ hs).mono ?_;rw[HP.out];rintro e w1 ⟨t,rfl,ht,hb1⟩;have htl:(t.toList==[])=true:=(by rw[ht.1];rfl);dsimp only)
   | (go_at_call 7;refine (read_any s _ hs).mono ?_;rintro e w2 ⟨tv,rfl,hth,⟨ta,q,tc,rfl⟩,hb2⟩;have hb3:=hb1.trans (hb2.mono hb1.size);clear hth;dsimp only))
  go_ret2
  exact⟨⟨_,rfl⟩,hb3⟩
set_option maxHeartbeats 1600000 in
theorem ways_any (s:ByteArray) (way:Int) (w:World) :
  Calls Tryz.prog 4 #[.string s,.int .i64 way] w fun e w'=>e=.returned (.bool true)∧Below w.heap.size w w':=by
 by_cases hs:s.size≤8192
 ·have h':¬ (8192:Int)<(s.size:Int):=by omega
  go_enter Tryz.func4,Tryz.ntmps4
  go_wp2_with (first | (go_at_call 5;refine (lawW_any s way _ hs).mono ?_;rintro e w1 ⟨t,rfl,hb⟩;dsimp only))
  go_ret
  exact⟨rfl,hb⟩
 ·have h':(8192:Int)<(s.size:Int):=by omega
  go_enter Tryz.func4,Tryz.ntmps4
  go_wp2
  go_ret
  exact⟨rfl,Below.refl _ _⟩
end Go.Proofs.YtpkjmdcabdplfaaGreatDoor
