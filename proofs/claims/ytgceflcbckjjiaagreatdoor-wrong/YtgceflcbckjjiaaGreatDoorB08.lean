import Derived.Test.YtgceflcbckjjiaaGreatDoorB07
set_option linter.unusedVariables false
set_option linter.unusedSimpArgs false
namespace Go.Proofs.YtgceflcbckjjiaaGreatDoor
open Go Go.RowKit
set_option maxRecDepth 100000
theorem Tryz.infoThr:(Tryz.prog.info? 88).map (fun i=>(i.zero,i.size,i.bytes))=some (some (.agg #[.int .i64 0,.int .i64 0,.slice none 0 0]),3,40):=by kernel_rfl
theorem thr_mem {w W0 w1:World} {B g g1 cap1:Nat} {r:P.Rd} {tv ov:Value} {vs:List Value} {b l:Int}
  (h:RdIn w B g r tv ov vs) (hk:∀ k,k<w.heap.size→W0.heap[k]?=w.heap[k]?) (hsz:w.heap.size≤W0.heap.size)
  (hown:w1.ownsRow B 88 3 (.slice (some ⟨g1,0,none⟩) (r.threads.length+1) cap1) (r.threads.length+1) (thrCells r.threads vs++[.int .i64 b,.int .i64 l,.slice none 0 0])) (hgrow:W0.grownBy w1 tv.ownBlock) :
  RdIn ((w1.setCell ⟨g,0,none⟩ (.slice (some ⟨g1,0,none⟩) (r.threads.length+1) cap1)).setCell ⟨g,2,none⟩ (.int .i64 0)) B g { r with threads:=r.threads++[⟨b,l,[]⟩],count:=0 } (.slice (some ⟨g1,0,none⟩) (r.threads.length+1) cap1) ov (vs++[.slice none 0 0]):=by
 have nt:∀ k,(∃ (c:Array Value) (e:TypeId),w.heap[k]?=some (Obj.cells c e (0,0))∧e≠88)→tv.ownBlock≠some k:=fun k ⟨c,e,hc,hne⟩=>own_ne_blk h.threads hc (Ne.symm hne)
 have keep:∀ k,k<w.heap.size→(∃ (c:Array Value) (e:TypeId),w.heap[k]?=some (Obj.cells c e (0,0))∧e≠88)→w1.heap[k]?=w.heap[k]?:=fun k h1 h2=>by
  rw[hgrow.block k (by omega) (Ne.symm (nt k h2)),hk k h1]
 have hg1:w1.heap[g]?=w.heap[g]?:=keep g h.lt ⟨_,_,h.cells,by decide⟩
 have out:∀ k,k≠g→((w1.setCell ⟨g,0,none⟩ (.slice (some ⟨g1,0,none⟩) (r.threads.length+1) cap1)).setCell ⟨g,2,none⟩ (.int .i64 0)).heap[k]?=w1.heap[k]?:=fun k hk'=>by
  rw[Below.heap_setCell _ _ _ _ hk',Below.heap_setCell _ _ _ _ hk']
 refine⟨?_,?_,?_,?_⟩
 ·have:=h.cells
  rw[← hg1] at this
  rw[setCell_block (setCell_block this _ _)];rfl
 ·have hh:=hown
  rw[← thrCells_snoc r.threads vs ⟨b,l,[]⟩ (.slice none 0 0) h.stmts.length] at hh
  refine ownsRow_keep (by simpa using hh) (fun k hk'=>out k (fun e=>?_))
  subst e
  obtain⟨c,hc⟩:=own_type hown hk'
  rw[hg1,h.cells] at hc;simp at hc
 ·refine ownsRow_keep h.opn (fun k hk'=>?_)
  obtain⟨c,hc⟩:=own_type h.opn hk'
  rw[out k (fun e=>by subst e;rw[h.cells] at hc;simp at hc)]
  exact keep k (h.opn.lt k hk').2 ⟨c,_,hc,by decide⟩
 ·rw[StmtsAt_snoc]
  refine⟨h.stmts.keep (fun v hv k hk'=>?_),World.ownsRow_nil _ _ _ _,fun u _=>?_⟩
  ·obtain⟨n,xs,hv'⟩:=h.stmts.mem v hv
   obtain⟨c,hc⟩:=own_type hv' hk'
   rw[out k (fun e=>by subst e;rw[h.cells] at hc;simp at hc)]
   exact keep k (hv'.lt k hk').2 ⟨c,_,hc,by decide⟩
  ·cases hu:u.ownBlock with
   | none=>exact .inl rfl
   | some k=>right;simp[Value.ownBlock]
theorem beginD_full (r:P.Rd) (b l:Int) (h:4≤r.threads.length∨0<r.opn.length):P.beginD r b l=(r,false):=by
 unfold P.beginD;exact if_pos h
theorem digit_val (x:UInt8) (n:Int) (w:World) :
  Calls Tryz.prog 146 #[.int .u8 (x.toNat:Int),.int .i64 n] w fun e w'=>e=.returned (.tuple #[.int .i64 (P.digit x n).1,.bool (P.digit x n).2])∧w'=w :=
 digit_any _ _ _ (by omega) (by have:=UInt8.toNat_lt x;omega)
theorem begins_words (r:P.Rd) (ws:List (List UInt8)) (h:¬ (∃ a c,ws=[a,[c]])):P.begins r ws=(r,false):=by
 unfold P.begins
 split
 ·rfl
 ·split
  ·rename_i a c
   exact absurd ⟨a,c,rfl⟩ h
  ·rfl
set_option maxHeartbeats 3200000 in
theorem beginD_any (B g:Nat) (r:P.Rd) (b l:Int) (w:World) (h:RdAt w B g r) (hB:B≤w.heap.size) (ht5:r.threads.length<6) (ho9:r.opn.length<10) :
  Calls Tryz.prog 138 #[.pointer (some ⟨g,0,none⟩),.int .i64 b,.int .i64 l] w fun e w'=>e=.returned (.bool (P.beginD r b l).2)∧RdAt w' B g (P.beginD r b l).1∧BelowX B g w w':=by
 have hA:=hide h
 obtain⟨tv,ov,vs,h⟩:=h
 obtain⟨i0,hi,hz0,hz1,hz2⟩:=info_parts Tryz.infoThr
 have hov:∃ a c,ov=.slice a r.opn.length c:=by
  rcases h.opn.2 with ⟨e,h0⟩ | ⟨k,c,cur,e,_⟩
  ·exact⟨none,0,by rw[e,h0]⟩
  ·exact⟨_,c,e⟩
 obtain⟨oa,oc,rfl⟩:=hov
 have htv:∃ a c,tv=.slice a r.threads.length c:=by
  rcases h.threads.2 with ⟨e,h0⟩ | ⟨k,c,cur,e,_⟩
  ·exact⟨none,0,by rw[e,h0]⟩
  ·exact⟨_,c,e⟩
 obtain⟨ta,tc,rfl⟩:=htv
 obtain⟨glt,gfr,g0,g1,g2,g3,g4⟩:=h.facts
 by_cases h4:4≤r.threads.length
 ·have HE:Hid (P.beginD r b l=(r,false)):=beginD_full r _ _ (Or.inl h4)
  have h4':(4:Int)≤(r.threads.length:Int):=by omega
  clear h
  go_enter Tryz.func138,Tryz.ntmps138
  go_wp2
  go_ret
  rw[unhide HE]
  exact⟨rfl,hA.out,BelowX.refl _ _ _⟩
 have h4':¬ (4:Int)≤(r.threads.length:Int):=by omega
 have h4d:decide ((4:Int)≤(r.threads.length:Int))=false:=by simp;omega
 by_cases h0:0<r.opn.length
 ·have HE:Hid (P.beginD r b l=(r,false)):=beginD_full r _ _ (Or.inr h0)
  have h0':(0:Int)<(r.opn.length:Int):=by omega
  clear h
  go_enter Tryz.func138,Tryz.ntmps138
  go_wp2
  go_ret
  rw[unhide HE]
  exact⟨rfl,hA.out,BelowX.refl _ _ _⟩
 have h0':¬ (0:Int)<(r.opn.length:Int):=by omega
 have HE:Hid (P.beginD r b l=({ r with threads:=r.threads++[⟨b,l,[]⟩],count:=0 },true)):=by
  unfold Hid P.beginD;rw[if_neg (by omega)]
 have HO:Hid ((w.alloc (.cells #[Value.int .i64 b,.int .i64 l,.slice none 0 0] 88)).ownsRow B 88 3 (.slice ta r.threads.length tc) r.threads.length (thrCells r.threads vs)):=h.threads.alloc _
 have HN:Hid (∀ j u,[Value.int .i64 b,.int .i64 l,.slice none 0 0][j]?=some u→(w.alloc (.cells #[Value.int .i64 b,.int .i64 l,.slice none 0 0] 88)).cell? ((⟨w.heap.size,0,none⟩:Addr).add j)=some u) :=
  World.news_of_block (cs:=#[Value.int .i64 b,.int .i64 l,.slice none 0 0]) (t:=88) (fr:=(0,0)) (by have:=heap_alloc_new w (.cells #[Value.int .i64 b,.int .i64 l,.slice none 0 0] 88);simpa using this)
 have hgne:some g≠(Value.slice ta r.threads.length tc).ownBlock:=Ne.symm (own_ne_blk h.threads h.cells (by decide))
 have eb:(w.alloc (.cells #[Value.int .i64 b,.int .i64 l,.slice none 0 0] 88)).heap[g]?=w.heap[g]?:=Below.heap_alloc _ _ _ h.lt
 have HC:Hid (∀ i,(w.alloc (.cells #[Value.int .i64 b,.int .i64 l,.slice none 0 0] 88)).cell? ⟨g,i,none⟩=w.cell? ⟨g,i,none⟩):=fun i=>World.cell?_of_block (w:=w) (a:=⟨g,i,none⟩) eb
 have HF:Hid (∀ i,(w.alloc (.cells #[Value.int .i64 b,.int .i64 l,.slice none 0 0] 88)).frozen? ⟨g,i,none⟩=false):=fun i=>(World.frozen?_of_block (w:=w) (a:=⟨g,i,none⟩) eb).trans (gfr i)
 have fin:∀ gn cn w1,World.ownsRow w1 B 88 3 (.slice (some ⟨gn,0,none⟩) (r.threads.length+1) cn) (r.threads.length+1) (thrCells r.threads vs++[Value.int .i64 b,.int .i64 l,.slice none 0 0])→(w.alloc (.cells #[Value.int .i64 b,.int .i64 l,.slice none 0 0] 88)).grownBy w1 (Value.slice ta r.threads.length tc).ownBlock →
   RdAt ((w1.setCell ⟨g,0,none⟩ (.slice (some ⟨gn,0,none⟩) (r.threads.length+1) cn)).setCell ⟨g,2,none⟩ (.int .i64 0)) B g { r with threads:=r.threads++[⟨b,l,[]⟩],count:=0 }∧BelowX B g w ((w1.setCell ⟨g,0,none⟩ (.slice (some ⟨gn,0,none⟩) (r.threads.length+1) cn)).setCell ⟨g,2,none⟩ (.int .i64 0)):=fun gn cn w1 hown hgrow=>by
  refine⟨⟨_,_,_,thr_mem (W0:=(w.alloc (.cells #[Value.int .i64 b,.int .i64 l,.slice none 0 0] 88))) h (fun k hk=>Below.heap_alloc _ _ _ hk) (by simp) hown hgrow⟩,?_⟩
  refine BelowX.setCell (BelowX.setCell (BelowX.grown (((BelowX.refl B g w).alloc hB _)) hgrow (by simp;omega) (fun k hk=>(h.threads.lt k hk).1)) _) _
 have FIN:=hide fin
 clear h eb fin hA
 go_enter Tryz.func138,Tryz.ntmps138
 go_wp2_with (first | (at_builtin;refine wpList_append_lies _ rfl (.tmp 25) (.tmp 29) 46 rfl B 88 i0 (.agg #[.int .i64 0,.int .i64 0,.slice none 0 0]) 3 40 Tryz.underlying46 hi hz0 hz1 hz2 rfl (by decide) (.slice ta r.threads.length tc) r.threads.length (thrCells r.threads vs) rfl (by exact HO.out) ⟨w.heap.size,0,none⟩ 1 1 [Value.int .i64 b,.int .i64 l,.slice none 0 0] rfl rfl (by exact HN.out) (by simp[Value.oneCell']) (by decide) (by unfold maxLen;omega) (by omega) (by simp;omega) _ rfl ?_;intro gn cn w1 hown1 hgrow hat hlt1;have c0:=(hgrow.cell_far ⟨g,0,none⟩ (by simp;omega) hgne).trans ((HC.out 0).trans g0);have c2:=(hgrow.cell_far ⟨g,2,none⟩ (by simp;omega) hgne).trans ((HC.out 2).trans g2);have f0:=(hgrow.frozen_far ⟨g,0,none⟩ (by simp;omega) hgne).trans (HF.out 0);have f2:=(hgrow.frozen_far ⟨g,2,none⟩ (by simp;omega) hgne).trans (HF.out 2);obtain⟨q1,q3⟩:=FIN.out _ _ _ hown1 hgrow;have Q1:=hide q1;clear q1 hown1 hgrow))
 go_ret
 rw[unhide HE]
 exact⟨rfl,Q1.out,q3⟩
set_option maxHeartbeats 3200000 in
theorem begins_any (B g b off n cap:Nat) (r:P.Rd) (ws:List ByteArray) (w:World) (h:RdAt w B g r) (hw:WordsAt w b off ws) (hn:ws.length=n) (hnb:n<10000) (hB:B≤w.heap.size) (ht5:r.threads.length<6) (ho9:r.opn.length<10) :
  Calls Tryz.prog 99 #[.pointer (some ⟨g,0,none⟩),.slice (some ⟨b,off,none⟩) n cap,.int .i64 r.line] w fun e w'=>e=.returned (.bool (P.begins r (ws.map ByteArray.toList)).2)∧RdAt w' B g (P.begins r (ws.map ByteArray.toList)).1∧BelowX B g w w':=by
 have hA:=hide h
 by_cases h2:n=2
 case neg =>
  have HE:Hid (P.begins r (ws.map ByteArray.toList)=(r,false)):=begins_words r _ (by
   rintro ⟨a,c,e⟩
   have:=congrArg List.length e
   simp at this;omega)
  have hx:((n:Int) != 2)=true:=by rw[bne_iff_ne];omega
  clear h hw
  go_enter Tryz.func99,Tryz.ntmps99
  go_wp2
  go_ret
  rw[unhide HE]
  exact⟨rfl,hA.out,BelowX.refl _ _ _⟩
 subst h2
 match ws,hw,hn with
 | [a,c],hw,hn =>
 clear hn
 obtain⟨_,hblt,hw1⟩:=hw.head
 obtain⟨hd1,_,_⟩:=hw1.head
 by_cases hc1:c.size=1
 case neg =>
  have HE:Hid (P.begins r [a.toList,c.toList]=(r,false)):=begins_words r _ (by
   rintro ⟨a',c',e⟩
   have:=size_toList c
   simp at e
   rw[e.2] at this;simp at this;omega)
  have hx:((c.size:Int) != 1)=true:=by rw[bne_iff_ne];omega
  clear h hw
  go_enter Tryz.func99,Tryz.ntmps99
  go_wp2
  go_ret
  simp only[List.map_cons,List.map_nil]
  rw[unhide HE]
  exact⟨rfl,hA.out,BelowX.refl _ _ _⟩
 have hcb:c[0].toNat<256:=UInt8.toNat_lt _
 have hcl:=toList_one c hc1
 have HD:Hid (P.begins r [a.toList,c.toList]=if (P.digit c[0] 2).2 then P.beginD r (P.digit c[0] 2).1 r.line else (r,false)):=by
  unfold Hid;rw[hcl,P.begins_D]
 cases hdg:(P.digit c[0] 2).2
 ·have HE:Hid (P.begins r [a.toList,c.toList]=(r,false)):=by
   unfold Hid;rw[HD.out,hdg];rfl
  clear h hw hcl
  go_enter Tryz.func99,Tryz.ntmps99
  go_wp2_with (first | (go_at_call 146;refine (digit_val _ _ _).mono ?_;rintro e w' ⟨rfl,rfl⟩))
  all_goals go_ret
  all_goals try simp only[List.map_cons,List.map_nil]
  all_goals rw[unhide HE]
  all_goals exact⟨rfl,hA.out,BelowX.refl _ _ _⟩
 ·have HE:Hid (P.begins r [a.toList,c.toList]=P.beginD r (P.digit c[0] 2).1 r.line):=by
   unfold Hid;rw[HD.out,hdg];rfl
  clear h hw hcl HD
  go_enter Tryz.func99,Tryz.ntmps99
  go_wp2_with (first | (go_at_call 146;refine (digit_val _ _ _).mono ?_;rintro e w' ⟨rfl,rfl⟩) | (go_at_call 138;refine (beginD_any B g r _ _ _ hA.out hB ht5 ho9).mono ?_;rintro e w1 ⟨rfl,hr1,hb1⟩))
  all_goals go_ret
  all_goals try simp only[List.map_cons,List.map_nil]
  all_goals rw[unhide HE]
  all_goals exact⟨rfl,hr1,hb1⟩
end Go.Proofs.YtgceflcbckjjiaaGreatDoor
