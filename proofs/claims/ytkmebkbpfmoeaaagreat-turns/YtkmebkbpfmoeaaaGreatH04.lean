import Derived.Deep.RegionHeld3
import Derived.Test.YtkmebkbpfmoeaaaGreatH03
set_option linter.unusedVariables false
set_option linter.unusedSimpArgs false
set_option maxHeartbeats 12800000
namespace Go.Proofs.YtkmebkbpfmoeaaaGreat
open Go Go.RowKit
set_option maxRecDepth 100000
theorem Tryz.infoThr:(Tryz.prog.info? 93).map (fun i=>(i.zero,i.size,i.bytes))=some (some (.agg #[.int .i64 0,.int .i64 0,.slice none 0 0]),3,40):=by kernel_rfl
theorem zHC {w W0 w1:World} {B g g1 cap1:Nat} {r:P.Rd} {tv ov:Value} {vs:List Value} {b l:Int}
  (h:RdIn w B g r tv ov vs) (hk:∀ k,k<w.heap.size→W0.heap[k]?=w.heap[k]?) (hsz:w.heap.size≤W0.heap.size)
  (hown:w1.ownsRow B 93 3 (.slice (some ⟨g1,0,none⟩) (r.threads.length+1) cap1) (r.threads.length+1) (zAO r.threads vs++[.int .i64 b,.int .i64 l,.slice none 0 0])) (hgrow:W0.grownBy w1 tv.ownBlock) :
  RdIn ((w1.setCell ⟨g,0,none⟩ (.slice (some ⟨g1,0,none⟩) (r.threads.length+1) cap1)).setCell ⟨g,2,none⟩ (.int .i64 0)) B g { r with threads:=r.threads++[⟨b,l,[]⟩],count:=0 } (.slice (some ⟨g1,0,none⟩) (r.threads.length+1) cap1) ov (vs++[.slice none 0 0]):=by
 have nt:∀ k,(∃ (c:Array Value) (e:TypeId),w.heap[k]?=some (Obj.cells c e (0,0))∧e≠93)→tv.ownBlock≠some k:=fun k ⟨c,e,hc,hne⟩=>zBl h.threads hc (Ne.symm hne)
 have keep:∀ k,k<w.heap.size→(∃ (c:Array Value) (e:TypeId),w.heap[k]?=some (Obj.cells c e (0,0))∧e≠93)→w1.heap[k]?=w.heap[k]?:=fun k h1 h2=>by
  rw[hgrow.block k (by omega) (Ne.symm (nt k h2)),hk k h1]
 have hg1:w1.heap[g]?=w.heap[g]?:=keep g h.lt ⟨_,_,h.cells,by decide⟩
 have out:∀ k,k≠g→((w1.setCell ⟨g,0,none⟩ (.slice (some ⟨g1,0,none⟩) (r.threads.length+1) cap1)).setCell ⟨g,2,none⟩ (.int .i64 0)).heap[k]?=w1.heap[k]?:=fun k hk'=>by
  rw[Below.heap_setCell _ _ _ _ hk',Below.heap_setCell _ _ _ _ hk']
 refine⟨?_,?_,?_,?_⟩
 ·have:=h.cells
  rw[← hg1] at this
  rw[zAf (zAf this _ _)];rfl
 ·have hh:=hown
  rw[← zBu r.threads vs ⟨b,l,[]⟩ (.slice none 0 0) h.stmts.length] at hh
  refine zAc (by simpa using hh) (fun k hk'=>out k (fun e=>?_))
  subst e
  obtain⟨c,hc⟩:=zBh hown hk'
  rw[hg1,h.cells] at hc;simp at hc
 ·refine zAc h.opn (fun k hk'=>?_)
  obtain⟨c,hc⟩:=zBh h.opn hk'
  rw[out k (fun e=>by subst e;rw[h.cells] at hc;simp at hc)]
  exact keep k (h.opn.lt k hk').2 ⟨c,_,hc,by decide⟩
 ·rw[zBD]
  refine⟨h.stmts.keep (fun v hv k hk'=>?_),World.ownsRow_nil _ _ _ _,fun u _=>?_⟩
  ·obtain⟨n,xs,hv'⟩:=h.stmts.mem v hv
   obtain⟨c,hc⟩:=zBh hv' hk'
   rw[out k (fun e=>by subst e;rw[h.cells] at hc;simp at hc)]
   exact keep k (hv'.lt k hk').2 ⟨c,_,hc,by decide⟩
  ·cases hu:u.ownBlock with
   | none=>exact .inl rfl
   | some k=>right;simp[Value.ownBlock]
theorem zDp (r:P.Rd) (b l:Int) (h:4≤r.threads.length∨0<r.opn.length):P.beginD r b l=(r,false):=by
 unfold P.beginD;exact if_pos h
theorem zEk (x:UInt8) (n:Int) (w:World) :
  Calls Tryz.prog 93 #[.int .u8 (x.toNat:Int),.int .i64 n] w fun e w'=>e=.returned (.tuple #[.int .i64 (P.digit x n).1,.bool (P.digit x n).2])∧w'=w :=
 zDl _ _ _ (by omega) (by have:=UInt8.toNat_lt x;omega)
theorem zCY (r:P.Rd) (ws:List (List UInt8)) (h:¬ (∃ a c,ws=[a,[c]])):P.zIX r ws=(r,false):=by
 unfold P.zIX
 split
 ·rfl
 ·split
  ·rename_i a c
   exact absurd ⟨a,c,rfl⟩ h
  ·rfl
theorem zFO (B g:Nat) (r:P.Rd) (b l:Int) (w:World) (h:zCb w B g r) (hB:B≤w.heap.size) (ht5:r.threads.length<6) (ho9:r.opn.length<10) :
  Calls Tryz.prog 94 #[.pointer (some ⟨g,0,none⟩),.int .i64 b,.int .i64 l] w fun e w'=>e=.returned (.bool (P.beginD r b l).2)∧zCb w' B g (P.beginD r b l).1∧BelowX B g w w':=by
 have hA:=zAa h
 obtain⟨tv,ov,vs,h⟩:=h
 obtain⟨i0,hi,hz0,hz1,hz2⟩:=info_parts Tryz.infoThr
 have hov:∃ a c,ov=.slice a r.opn.length c:=by
  rcases h.opn.2 with ⟨e,h0⟩ | ⟨k,c,cur,e,_⟩
  ·exact⟨none,0,by rw[e,h0]⟩
  ·exact⟨_,c,e⟩
 obtain⟨oa,oc,rfl⟩:=hov
 have htv:∃ a c,tv=.slice a r.threads.length c:=by
  rcases h.threads.2 with ⟨e,h0⟩ | ⟨k,c,cur,e,_⟩
  ·exact⟨none,0,by rw[e,h0]⟩
  ·exact⟨_,c,e⟩
 obtain⟨ta,tc,rfl⟩:=htv
 obtain⟨glt,gfr,g0,g1,g2,g3,g4⟩:=h.facts
 by_cases h4:4≤r.threads.length
 ·have HE:Hid (P.beginD r b l=(r,false)):=zDp r _ _ (Or.inl h4)
  have h4':(4:Int)≤(r.threads.length:Int):=by omega
  clear h
  go_enter Tryz.func94,Tryz.ntmps94
  go_wp2
  go_ret
  rw[zAC HE]
  exact⟨rfl,hA.out,BelowX.refl _ _ _⟩
 have h4':¬ (4:Int)≤(r.threads.length:Int):=by omega
 have h4d:decide ((4:Int)≤(r.threads.length:Int))=false:=by simp;omega
 by_cases h0:0<r.opn.length
 ·have HE:Hid (P.beginD r b l=(r,false)):=zDp r _ _ (Or.inr h0)
  have h0':(0:Int)<(r.opn.length:Int):=by omega
  clear h
  go_enter Tryz.func94,Tryz.ntmps94
  go_wp2
  go_ret
  rw[zAC HE]
  exact⟨rfl,hA.out,BelowX.refl _ _ _⟩
 have h0':¬ (0:Int)<(r.opn.length:Int):=by omega
 have HE:Hid (P.beginD r b l=({ r with threads:=r.threads++[⟨b,l,[]⟩],count:=0 },true)):=by
  unfold Hid P.beginD;rw[if_neg (by omega)]
 have HO:Hid ((w.alloc (.cells #[Value.int .i64 b,.int .i64 l,.slice none 0 0] 93)).ownsRow B 93 3 (.slice ta r.threads.length tc) r.threads.length (zAO r.threads vs)):=h.threads.alloc _
 have HN:Hid (∀ j u,[Value.int .i64 b,.int .i64 l,.slice none 0 0][j]?=some u→(w.alloc (.cells #[Value.int .i64 b,.int .i64 l,.slice none 0 0] 93)).cell? ((⟨w.heap.size,0,none⟩:Addr).add j)=some u) :=
  World.news_of_block (cs:=#[Value.int .i64 b,.int .i64 l,.slice none 0 0]) (t:=93) (fr:=(0,0)) (by have:=heap_alloc_new w (.cells #[Value.int .i64 b,.int .i64 l,.slice none 0 0] 93);simpa using this)
 have hgne:some g≠(Value.slice ta r.threads.length tc).ownBlock:=Ne.symm (zBl h.threads h.cells (by decide))
 have eb:(w.alloc (.cells #[Value.int .i64 b,.int .i64 l,.slice none 0 0] 93)).heap[g]?=w.heap[g]?:=Below.heap_alloc _ _ _ h.lt
 have HC:Hid (∀ i,(w.alloc (.cells #[Value.int .i64 b,.int .i64 l,.slice none 0 0] 93)).cell? ⟨g,i,none⟩=w.cell? ⟨g,i,none⟩):=fun i=>World.cell?_of_block (w:=w) (a:=⟨g,i,none⟩) eb
 have HF:Hid (∀ i,(w.alloc (.cells #[Value.int .i64 b,.int .i64 l,.slice none 0 0] 93)).frozen? ⟨g,i,none⟩=false):=fun i=>(World.frozen?_of_block (w:=w) (a:=⟨g,i,none⟩) eb).trans (gfr i)
 have fin:∀ gn cn w1,World.ownsRow w1 B 93 3 (.slice (some ⟨gn,0,none⟩) (r.threads.length+1) cn) (r.threads.length+1) (zAO r.threads vs++[Value.int .i64 b,.int .i64 l,.slice none 0 0])→(w.alloc (.cells #[Value.int .i64 b,.int .i64 l,.slice none 0 0] 93)).grownBy w1 (Value.slice ta r.threads.length tc).ownBlock →
   zCb ((w1.setCell ⟨g,0,none⟩ (.slice (some ⟨gn,0,none⟩) (r.threads.length+1) cn)).setCell ⟨g,2,none⟩ (.int .i64 0)) B g { r with threads:=r.threads++[⟨b,l,[]⟩],count:=0 }∧BelowX B g w ((w1.setCell ⟨g,0,none⟩ (.slice (some ⟨gn,0,none⟩) (r.threads.length+1) cn)).setCell ⟨g,2,none⟩ (.int .i64 0)):=fun gn cn w1 hown hgrow=>by
  refine⟨⟨_,_,_,zHC (W0:=(w.alloc (.cells #[Value.int .i64 b,.int .i64 l,.slice none 0 0] 93))) h (fun k hk=>Below.heap_alloc _ _ _ hk) (by simp) hown hgrow⟩,?_⟩
  refine BelowX.setCell (BelowX.setCell (BelowX.grown (((BelowX.refl B g w).alloc hB _)) hgrow (by simp;omega) (fun k hk=>(h.threads.lt k hk).1)) _) _
 have FIN:=zAa fin
 clear h eb fin hA
 go_enter Tryz.func94,Tryz.ntmps94
 go_wp2_with (first | (at_builtin;refine wpList_append_lies _ rfl (.tmp 25) (.tmp 29) 43 rfl B 93 i0 (.agg #[.int .i64 0,.int .i64 0,.slice none 0 0]) 3 40 Tryz.underlying43 hi hz0 hz1 hz2 rfl (by decide) (.slice ta r.threads.length tc) r.threads.length (zAO r.threads vs) rfl (by exact HO.out) ⟨w.heap.size,0,none⟩ 1 1 [Value.int .i64 b,.int .i64 l,.slice none 0 0] rfl rfl (by exact HN.out) (by simp[Value.oneCell']) (by decide) (by unfold maxLen;omega) (by omega) (by simp;omega) _ rfl ?_;intro gn cn w1 hown1 hgrow hat hlt1;have c0:=(hgrow.cell_far ⟨g,0,none⟩ (by simp;omega) hgne).trans ((HC.out 0).trans g0);have c2:=(hgrow.cell_far ⟨g,2,none⟩ (by simp;omega) hgne).trans ((HC.out 2).trans g2);have f0:=(hgrow.frozen_far ⟨g,0,none⟩ (by simp;omega) hgne).trans (HF.out 0);have f2:=(hgrow.frozen_far ⟨g,2,none⟩ (by simp;omega) hgne).trans (HF.out 2);obtain⟨q1,q3⟩:=FIN.out _ _ _ hown1 hgrow;have Q1:=zAa q1;clear q1 hown1 hgrow))
 go_ret
 rw[zAC HE]
 exact⟨rfl,Q1.out,q3⟩
theorem zFP (B g b off n cap:Nat) (r:P.Rd) (ws:List ByteArray) (w:World) (h:zCb w B g r) (hw:zAt w b off ws) (hn:ws.length=n) (hnb:n<10000) (hB:B≤w.heap.size) (ht5:r.threads.length<6) (ho9:r.opn.length<10) :
  Calls Tryz.prog 62 #[.pointer (some ⟨g,0,none⟩),.slice (some ⟨b,off,none⟩) n cap,.int .i64 r.line] w fun e w'=>e=.returned (.bool (P.zIX r (ws.map ByteArray.toList)).2)∧zCb w' B g (P.zIX r (ws.map ByteArray.toList)).1∧BelowX B g w w':=by
 have hA:=zAa h
 by_cases h2:n=2
 case neg =>
  have HE:Hid (P.zIX r (ws.map ByteArray.toList)=(r,false)):=zCY r _ (by
   rintro ⟨a,c,e⟩
   have:=congrArg List.length e
   simp at this;omega)
  have hx:((n:Int) != 2)=true:=by rw[bne_iff_ne];omega
  clear h hw
  go_enter Tryz.func62,Tryz.ntmps62
  go_wp2
  go_ret
  rw[zAC HE]
  exact⟨rfl,hA.out,BelowX.refl _ _ _⟩
 subst h2
 match ws,hw,hn with
 | [a,c],hw,hn =>
 clear hn
 obtain⟨_,hblt,hw1⟩:=hw.head
 obtain⟨hd1,_,_⟩:=hw1.head
 by_cases hc1:c.size=1
 case neg =>
  have HE:Hid (P.zIX r [a.toList,c.toList]=(r,false)):=zCY r _ (by
   rintro ⟨a',c',e⟩
   have:=zAB c
   simp at e
   rw[e.2] at this;simp at this;omega)
  have hx:((c.size:Int) != 1)=true:=by rw[bne_iff_ne];omega
  clear h hw
  go_enter Tryz.func62,Tryz.ntmps62
  go_wp2
  go_ret
  simp only[List.map_cons,List.map_nil]
  rw[zAC HE]
  exact⟨rfl,hA.out,BelowX.refl _ _ _⟩
 have hcb:c[0].toNat<256:=UInt8.toNat_lt _
 have hcl:=zDI c hc1
 have HD:Hid (P.zIX r [a.toList,c.toList]=if (P.digit c[0] 2).2 then P.beginD r (P.digit c[0] 2).1 r.line else (r,false)):=by
  unfold Hid;rw[hcl,P.begins_D]
 cases hdg:(P.digit c[0] 2).2
 ·have HE:Hid (P.zIX r [a.toList,c.toList]=(r,false)):=by
   unfold Hid;rw[HD.out,hdg];rfl
  clear h hw hcl
  go_enter Tryz.func62,Tryz.ntmps62
  go_wp2_with (first | (go_at_call 93;refine (zEk _ _ _).mono ?_;rintro e w' ⟨rfl,rfl⟩))
  all_goals go_ret
  all_goals try simp only[List.map_cons,List.map_nil]
  all_goals rw[zAC HE]
  all_goals exact⟨rfl,hA.out,BelowX.refl _ _ _⟩
 ·have HE:Hid (P.zIX r [a.toList,c.toList]=P.beginD r (P.digit c[0] 2).1 r.line):=by
   unfold Hid;rw[HD.out,hdg];rfl
  clear h hw hcl HD
  go_enter Tryz.func62,Tryz.ntmps62
  go_wp2_with (first | (go_at_call 93;refine (zEk _ _ _).mono ?_;rintro e w' ⟨rfl,rfl⟩) | (go_at_call 94;refine (zFO B g r _ _ _ hA.out hB ht5 ho9).mono ?_;rintro e w1 ⟨rfl,hr1,hb1⟩))
  all_goals go_ret
  all_goals try simp only[List.map_cons,List.map_nil]
  all_goals rw[zAC HE]
  all_goals exact⟨rfl,hr1,hb1⟩
theorem zBH (g:Nat) (st:P.Stm) (p v:ByteArray) (w:World) (hg:zAu w g st) :
  Calls Tryz.prog 112 #[.pointer (some ⟨g,0,none⟩),.string p,.string v] w fun e w'=>e=.returned (.bool (P.target st p.toList v.toList).2)∧zAu w' g (P.target st p.toList v.toList).1∧w.grownBy w' (some g):=by
 cases hv:(P.varOf p.toList).2
 ·go_enter Tryz.func112,Tryz.ntmps112
  go_wp2_with (first | (go_at_call 129;refine (zBC _ _).mono ?_;rintro e w' ⟨rfl,rfl⟩) | (go_at_call 114;refine (zBf _ _).mono ?_;rintro e w1 ⟨rfl,hb⟩))
  go_ret
  simp only[P.target,hv]
  exact⟨rfl,hg,zAA _ _⟩
 ·go_enter Tryz.func112,Tryz.ntmps112
  go_wp2_with (first | (go_at_call 129;refine (zBC _ _).mono ?_;rintro e w' ⟨rfl,rfl⟩) | (go_at_call 114;refine (zBf _ _).mono ?_;rintro e w1 ⟨rfl,hb⟩;have h1:=hg.below hb;obtain⟨hlt,hfr,hc0,hc1,hc2,hc3,hc4,hc5,hc6,hc7,hc8,hc9,hc10⟩:=h1.facts))
  go_ret
  have e:P.target st p.toList v.toList=({ st with var:=(P.varOf p.toList).1,a:=(P.zIz v.toList).1 },(P.zIz v.toList).2):=by simp[P.target,hv]
  rw[e]
  exact⟨rfl,((h1.setVar _).setA _).alloc _,zBr (zAj (zAj (zAj (zAZ hb _) _ _) _ _) _ _) _⟩
theorem zBe (g b off n cap:Nat) (st:P.Stm) (ws:List ByteArray) (w:World) (hg:zAu w g st) (hw:zAt w b off ws) (hn:ws.length=n) (hc:n≤cap) (hbg:b≠g) :
  Calls Tryz.prog 113 #[.pointer (some ⟨g,0,none⟩),.slice (some ⟨b,off,none⟩) n cap] w fun e w'=>e=.returned (.bool (P.zJd st (ws.map ByteArray.toList)).2)∧zAu w' g (P.zJd st (ws.map ByteArray.toList)).1∧w.grownBy w' (some g):=by
 obtain⟨hlt,hfr,hc0,hc1,hc2,hc3,hc4,hc5,hc6,hc7,hc8,hc9,hc10⟩:=hg.facts
 cases ws with
 | nil =>
  simp at hn;subst hn
  go_enter Tryz.func113,Tryz.ntmps113
  go_wp2
  go_ret
  exact⟨rfl,hg,zAA _ _⟩
 | cons o r =>
  obtain⟨hd,hblt,hw'⟩:=hw.head
  have hn1:1≤n:=by simp at hn;omega
  cases ho1:(P.order o.toList).2
  ·go_enter Tryz.func113,Tryz.ntmps113
   go_wp2_with (first | (go_at_call 130;refine (zBR _ _).mono ?_;rintro e w' ⟨rfl,rfl⟩) | (go_at_call 131;refine (zBG _ _ _).mono ?_;rintro e w' ⟨rfl,rfl⟩) | (go_at_call 132;refine (zBS _ _).mono ?_;rintro e w' ⟨rfl,rfl⟩))
   go_ret
   simp only[List.map_cons,P.ordering_no1 st _ _ ho1]
   exact⟨rfl,hg,zAA _ _⟩
  cases ho2:P.zKu st.kind (P.order o.toList).1
  ·go_enter Tryz.func113,Tryz.ntmps113
   go_wp2_with (first | (go_at_call 130;refine (zBR _ _).mono ?_;rintro e w' ⟨rfl,rfl⟩) | (go_at_call 131;refine (zBG _ _ _).mono ?_;rintro e w' ⟨rfl,rfl⟩) | (go_at_call 132;refine (zBS _ _).mono ?_;rintro e w' ⟨rfl,rfl⟩))
   go_ret
   simp only[List.map_cons,P.ordering_no2 st _ _ ho2]
   exact⟨rfl,hg,zAA _ _⟩
  cases h0:(P.order o.toList).1==0
  ·match r,hw',hn with
   | [],_,hn =>
    simp at hn;subst hn
    go_enter Tryz.func113,Tryz.ntmps113
    go_wp2_with (first | (go_at_call 130;refine (zBR _ _).mono ?_;rintro e w' ⟨rfl,rfl⟩) | (go_at_call 131;refine (zBG _ _ _).mono ?_;rintro e w' ⟨rfl,rfl⟩) | (go_at_call 132;refine (zBS _ _).mono ?_;rintro e w' ⟨rfl,rfl⟩))
    go_ret
    simp only[List.map_cons,List.map_nil,P.ordering_short st _ ho1 ho2 h0]
    exact⟨rfl,hg.setOrder _,zAj (zAA _ _) _ _⟩
   | [s],hw',hn =>
    obtain⟨hd2,_,_⟩:=hw'.head
    simp at hn;subst hn
    go_enter Tryz.func113,Tryz.ntmps113
    go_wp2_with (first | (go_at_call 130;refine (zBR _ _).mono ?_;rintro e w' ⟨rfl,rfl⟩) | (go_at_call 131;refine (zBG _ _ _).mono ?_;rintro e w' ⟨rfl,rfl⟩) | (go_at_call 132;refine (zBS _ _).mono ?_;rintro e w' ⟨rfl,rfl⟩))
    go_ret
    simp only[List.map_cons,List.map_nil,P.ordering_two st _ _ ho1 ho2 h0]
    exact⟨rfl,(hg.setOrder _).setScope _,zAj (zAj (zAA _ _) _ _) _ _⟩
   | s::t::q,hw',hn =>
    have hn3:3≤n:=by simp at hn;omega
    go_enter Tryz.func113,Tryz.ntmps113
    go_wp2_with (first | (go_at_call 130;refine (zBR _ _).mono ?_;rintro e w' ⟨rfl,rfl⟩) | (go_at_call 131;refine (zBG _ _ _).mono ?_;rintro e w' ⟨rfl,rfl⟩) | (go_at_call 132;refine (zBS _ _).mono ?_;rintro e w' ⟨rfl,rfl⟩))
    go_ret
    simp only[List.map_cons,P.ordering_long st _ _ _ _ ho1 ho2 h0]
    exact⟨rfl,hg.setOrder _,zAj (zAA _ _) _ _⟩
  ·have hz:(P.order o.toList).1=0:=by simpa using h0
   have HW:Hid (P.zJd st (o.toList::r.map ByteArray.toList)=({ st with order:=0 },(r.map ByteArray.toList).isEmpty)):=P.ordering_weak st _ _ ho1 ho2 hz
   rw[hz] at ho2
   clear h0
   have hr:((n:Int)==1)=r.isEmpty:=by
    cases r with
    | nil=>simp at hn;subst hn;rfl
    | cons a q=>simp at hn;simp;omega
   go_enter Tryz.func113,Tryz.ntmps113
   go_wp2_with (first | (go_at_call 130;refine (zBR _ _).mono ?_;rintro e w' ⟨rfl,rfl⟩) | (go_at_call 131;refine (zBG _ _ _).mono ?_;rintro e w' ⟨rfl,rfl⟩) | (go_at_call 132;refine (zBS _ _).mono ?_;rintro e w' ⟨rfl,rfl⟩))
   go_ret
   simp only[List.map_cons,HW.out]
   exact⟨by simp,hg.setOrder _,zAj (zAA _ _) _ _⟩
theorem zFs (g b off n cap:Nat) (st:P.Stm) (ws:List ByteArray) (w:World) (hg:zAu w g st) (hw:zAt w b off ws) (hn:ws.length=n) (hc:n≤cap) (hbg:b≠g) :
  Calls Tryz.prog 116 #[.pointer (some ⟨g,0,none⟩),.slice (some ⟨b,off,none⟩) n cap] w fun e w'=>e=.returned (.bool (P.load st (ws.map ByteArray.toList)).2)∧zAu w' g (P.load st (ws.map ByteArray.toList)).1∧w.grownBy w' (some g):=by
 obtain⟨hlt,hfr,hc0,hc1,hc2,hc3,hc4,hc5,hc6,hc7,hc8,hc9,hc10⟩:=hg.facts
 cases ws with
 | nil =>
  simp at hn;subst hn
  go_enter Tryz.func116,Tryz.ntmps116
  go_wp2
  go_ret
  exact⟨rfl,hg,zAA _ _⟩
 | cons o r =>
  obtain⟨hd,hblt,hw'⟩:=hw.head
  have hn1:1≤n:=by simp at hn;omega
  have hn2:r.length=n-1:=by simp at hn;omega
  cases ho1:(P.varOf o.toList).2
  ·go_enter Tryz.func116,Tryz.ntmps116
   go_wp2_with (first | (go_at_call 129;refine (zBC _ _).mono ?_;rintro e w' ⟨rfl,rfl⟩))
   go_ret
   simp only[List.map_cons,P.load_no st _ _ ho1]
   exact⟨rfl,hg,zAA _ _⟩
  have HL:=zAa (P.load_yes st o.toList (r.map ByteArray.toList) ho1)
  clear hn
  by_cases hcap:cap=1
  ·have hr:r=[]:=List.eq_nil_of_length_eq_zero (by omega)
   subst hr
   go_enter Tryz.func116,Tryz.ntmps116
   go_wp2_with (first | (go_at_call 129;refine (zBC _ _).mono ?_;rintro e w' ⟨rfl,rfl⟩) | (go_at_call 113;refine (zBe _ _ _ _ _ { st with kind:=0,var:=(P.varOf o.toList).1 } [] _ (by exact (hg.setKind _).setVar _) (zAt.nil _ _ _) (by simp;omega) (by omega) hbg).mono ?_;rintro e w1 ⟨rfl,hs1,hgr⟩))
   go_ret
   simp only[List.map_cons,zAC HL]
   exact⟨rfl,hs1,zAR (zAj (zAj (zAA _ _) _ _) _ _) hgr⟩
  ·go_enter Tryz.func116,Tryz.ntmps116
   go_wp2_with (first | (go_at_call 129;refine (zBC _ _).mono ?_;rintro e w' ⟨rfl,rfl⟩) | (go_at_call 113;refine (zBe _ _ _ _ _ { st with kind:=0,var:=(P.varOf o.toList).1 } r _ (by exact (hg.setKind _).setVar _) (by exact (hw'.set hbg _ _).set hbg _ _) hn2 (by omega) hbg).mono ?_;rintro e w1 ⟨rfl,hs1,hgr⟩))
   go_ret
   simp only[List.map_cons,zAC HL]
   exact⟨rfl,hs1,zAR (zAj (zAj (zAA _ _) _ _) _ _) hgr⟩
theorem zDh (g b off n cap:Nat) (k:Int) (st:P.Stm) (ws:List ByteArray) (w:World) (hg:zAu w g st) (hw:zAt w b off ws) (hn:ws.length=n) (hc:n≤cap) (hbg:b≠g) :
  Calls Tryz.prog 117 #[.pointer (some ⟨g,0,none⟩),.int .i64 k,.slice (some ⟨b,off,none⟩) n cap] w fun e w'=>e=.returned (.bool (P.step st k (ws.map ByteArray.toList)).2)∧zAu w' g (P.step st k (ws.map ByteArray.toList)).1∧w.grownBy w' (some g):=by
 obtain⟨hlt,hfr,hc0,hc1,hc2,hc3,hc4,hc5,hc6,hc7,hc8,hc9,hc10⟩:=hg.facts
 match ws,hw,hn with
 | [],_,hn =>
  simp at hn;subst hn
  go_enter Tryz.func117,Tryz.ntmps117
  go_wp2
  go_ret
  exact⟨rfl,hg,zAA _ _⟩
 | [_],_,hn =>
  simp at hn;subst hn
  go_enter Tryz.func117,Tryz.ntmps117
  go_wp2
  go_ret
  exact⟨rfl,hg,zAA _ _⟩
 | p::v::r,hw,hn =>
  obtain⟨hd,hblt,hw'⟩:=hw.head
  obtain⟨hd2,_,hw2⟩:=hw'.head
  have hn1:2≤n:=by simp at hn;omega
  have hn2:r.length=n-2:=by simp at hn;omega
  clear hn hw hw'
  have hi0:0<n:=by omega
  have hi1:(1:Int)<(n:Int):=by omega
  cases ht:(P.target { st with kind:=k } p.toList v.toList).2
  ·have HL:=zAa (P.step_no st k p.toList v.toList (r.map ByteArray.toList) ht)
   go_enter Tryz.func117,Tryz.ntmps117
   go_wp2_with fail
   go_region_held3 (fun w'=>w'.cell? ⟨b,off,none⟩=some (.string p)∧w'.cell? ⟨b,off+1,none⟩=some (.string v)) (first | exact⟨(zAh hbg).trans hd,(zAh hbg).trans hd2⟩ | exact⟨k1,k2⟩) (first | (go_at_call 112;refine (zBH g { st with kind:=k } _ _ _ ?_).mono ?_;(exact (hg.setKind _).drew);rintro e w1 ⟨rfl,hs1,hgr⟩;have k1:=hgr.cell (a:=⟨b,off,none⟩) (v:=.string p) ((zAh hbg).trans hd) (by simpa using hbg);have k2:=hgr.cell (a:=⟨b,off+1,none⟩) (v:=.string v) ((zAh hbg).trans hd2) (by simpa using hbg)))
   go_wp2
   go_ret
   simp only[List.map_cons,zAC HL]
   exact⟨rfl,hs1,zAR (zBT (zAj (zAA _ _) _ _)) hgr⟩
  have HL:=zAa (P.step_yes st k p.toList v.toList (r.map ByteArray.toList) ht)
  by_cases hcap:cap=2
  ·have hr:r=[]:=List.eq_nil_of_length_eq_zero (by omega)
   subst hr
   go_enter Tryz.func117,Tryz.ntmps117
   go_wp2_with fail
   go_region_held3 (fun w'=>w'.cell? ⟨b,off,none⟩=some (.string p)∧w'.cell? ⟨b,off+1,none⟩=some (.string v)) (first | exact⟨(zAh hbg).trans hd,(zAh hbg).trans hd2⟩ | exact⟨k1,k2⟩) (first | (go_at_call 112;refine (zBH g { st with kind:=k } _ _ _ ?_).mono ?_;(exact (hg.setKind _).drew);rintro e w1 ⟨rfl,hs1,hgr⟩;have k1:=hgr.cell (a:=⟨b,off,none⟩) (v:=.string p) ((zAh hbg).trans hd) (by simpa using hbg);have k2:=hgr.cell (a:=⟨b,off+1,none⟩) (v:=.string v) ((zAh hbg).trans hd2) (by simpa using hbg)))
   go_wp2_with (first | (go_at_call 113;refine (zBe _ _ _ _ _ _ [] _ hs1 (zAt.nil _ _ _) (by simp;omega) (by omega) hbg).mono ?_;rintro e w2 ⟨rfl,hs2,hgr2⟩))
   go_ret
   simp only[List.map_cons,zAC HL]
   exact⟨rfl,hs2,zAR (zAR (zBT (zAj (zAA _ _) _ _)) hgr) hgr2⟩
  ·go_enter Tryz.func117,Tryz.ntmps117
   go_wp2_with fail
   go_region_held3 (fun w'=>w'.cell? ⟨b,off,none⟩=some (.string p)∧w'.cell? ⟨b,off+1,none⟩=some (.string v)) (first | exact⟨(zAh hbg).trans hd,(zAh hbg).trans hd2⟩ | exact⟨k1,k2⟩) (first | (go_at_call 112;refine (zBH g { st with kind:=k } _ _ _ ?_).mono ?_;(exact (hg.setKind _).drew);rintro e w1 ⟨rfl,hs1,hgr⟩;have k1:=hgr.cell (a:=⟨b,off,none⟩) (v:=.string p) ((zAh hbg).trans hd) (by simpa using hbg);have k2:=hgr.cell (a:=⟨b,off+1,none⟩) (v:=.string v) ((zAh hbg).trans hd2) (by simpa using hbg)))
   go_wp2_with (first | (go_at_call 113;refine (zBe _ _ _ _ _ _ r _ hs1 (by exact ((hw2.set hbg _ _).drew).grown hgr hbg) hn2 (by omega) hbg).mono ?_;rintro e w2 ⟨rfl,hs2,hgr2⟩))
   go_ret
   simp only[List.map_cons,zAC HL]
   exact⟨rfl,hs2,zAR (zAR (zBT (zAj (zAA _ _) _ _)) hgr) hgr2⟩
theorem zHD (g b off n cap:Nat) (st:P.Stm) (ws:List ByteArray) (w:World) (hg:zAu w g st) (hw:zAt w b off ws) (hn:ws.length=n) (hbg:b≠g) :
  Calls Tryz.prog 118 #[.pointer (some ⟨g,0,none⟩),.slice (some ⟨b,off,none⟩) n cap] w fun e w'=>e=.returned (.bool (P.sum st (ws.map ByteArray.toList)).2)∧zAu w' g (P.sum st (ws.map ByteArray.toList)).1∧w.grownBy w' (some g):=by
 have hfr:=hg.free
 by_cases h1:n=1
 ·subst h1
  match ws,hw,hn with
  | [a],hw,hn =>
  clear hn
  obtain⟨hd,hblt,_⟩:=hw.head
  cases ha:(P.zIz a.toList).2
  ·have HL:=zAa (P.zKF st a.toList [] ha)
   go_enter Tryz.func118,Tryz.ntmps118
   go_wp2_with (first | (go_at_call 114;refine (zBf _ _).mono ?_;rintro e w1 ⟨rfl,hb⟩))
   go_ret
   simp only[List.map_cons,List.map_nil,zAC HL]
   exact⟨rfl,(hg.below hb).alloc _,zBr (zAZ hb _) _⟩
  ·have HL:=zAa (P.sum_one st a.toList ha)
   go_enter Tryz.func118,Tryz.ntmps118
   go_wp2_with (first | (go_at_call 114;refine (zBf _ _).mono ?_;rintro e w1 ⟨rfl,hb⟩;have hg1:=hg.below hb;obtain⟨hlt,hfr,hc0,hc1,hc2,hc3,hc4,hc5,hc6,hc7,hc8,hc9,hc10⟩:=hg1.facts))
   go_ret
   simp only[List.map_cons,List.map_nil,zAC HL]
   exact⟨rfl,((hg1.setKind _).setA _).alloc _,zBr (zAj (zAj (zAj (zAZ hb _) _ _) _ _) _ _) _⟩
 by_cases h3:n=3
 ·subst h3
  match ws,hw,hn with
  | [a,s,c],hw,hn =>
  clear hn
  obtain⟨hd,hblt,hw1⟩:=hw.head
  obtain⟨hd1,_,hw2⟩:=hw1.head
  obtain⟨hd2,_,_⟩:=hw2.head
  cases ha:(P.zIz a.toList).2
  ·have HL:=zAa (P.zKF st a.toList [s.toList,c.toList] ha)
   go_enter Tryz.func118,Tryz.ntmps118
   go_wp2_with (first | (go_at_call 114;refine (zBf _ _).mono ?_;rintro e w1 ⟨rfl,hb⟩))
   go_ret
   simp only[List.map_cons,List.map_nil,zAC HL]
   exact⟨rfl,(hg.below hb).alloc _,zBr (zAZ hb _) _⟩
  cases hs:(P.sign s.toList).2
  ·have HL:=zAa (P.sum_sign st a.toList s.toList c.toList ha hs)
   go_enter Tryz.func118,Tryz.ntmps118
   go_wp2_with (first | (go_at_call_of 114 (Value.string a);refine (zBf _ _).mono ?_;rintro e w1 ⟨rfl,hb⟩;have hg1:=hg.below hb;obtain⟨hlt,hfr,hc0,hc1,hc2,hc3,hc4,hc5,hc6,hc7,hc8,hc9,hc10⟩:=hg1.facts;have hb1:b<w1.heap.size:=Nat.lt_of_lt_of_le hblt hb.size;have e1:=cfL hb hblt hd1;have e2:=cfL hb hblt hd2) | (go_at_call 133;refine (zFo _ _).mono ?_;rintro e w2 ⟨rfl,rfl⟩))
   go_ret
   simp only[List.map_cons,List.map_nil,zAC HL]
   exact⟨rfl,((hg1.setKind _).setA _).alloc _,zBr (zAj (zAj (zAj (zAZ hb _) _ _) _ _) _ _) _⟩
  ·have HL:=zAa (P.sum_all st a.toList s.toList c.toList ha hs)
   go_enter Tryz.func118,Tryz.ntmps118
   go_wp2_with (first | (go_at_call_of 114 (Value.string a);refine (zBf _ _).mono ?_;rintro e w1 ⟨rfl,hb⟩;have hg1:=hg.below hb;obtain⟨hlt,hfr,hc0,hc1,hc2,hc3,hc4,hc5,hc6,hc7,hc8,hc9,hc10⟩:=hg1.facts;have hb1:b<w1.heap.size:=Nat.lt_of_lt_of_le hblt hb.size;have e1:=cfL hb hblt hd1;have e2:=cfL hb hblt hd2) | (go_at_call 133;refine (zFo _ _).mono ?_;rintro e w2 ⟨rfl,rfl⟩))
   have hgm:=((hg1.setKind 6).setA (P.zIz a.toList).1).alloc (.cells #[.bool (P.zIz a.toList).1.reg,.int .i64 (P.zIz a.toList).1.n] 95)
   refine (zBf _ _).mono ?_
   rintro e w2 ⟨rfl,hb2⟩
   have hg2:=hgm.below hb2
   have hgr:w.grownBy w2 (some g):=zAR (zBr (zAj (zAj (zAj (zAZ hb _) _ _) _ _) _ _) _) (zAZ hb2 _)
   clear hc0 hc1 hc2 hc3 hc4 hc5 hc6 hc7 hc8 hc9 hc10 hb2 hb hb1 e1 e2 hd hd1 hd2 hw hw1 hw2 hlt hgm hg1
   obtain⟨hlt,hfr,hc0,hc1,hc2,hc3,hc4,hc5,hc6,hc7,hc8,hc9,hc10⟩:=hg2.facts
   go_wp2
   go_ret
   simp only[List.map_cons,List.map_nil,zAC HL]
   exact⟨rfl,((hg2.setKind _).setB _).alloc _,zBr (zAj (zAj (zAj hgr _ _) _ _) _ _) _⟩
 ·have HL:=zAa (P.sum_len st (ws.map ByteArray.toList) (by simp;omega) (by simp;omega))
  have hx1:((n:Int) != 1)=true:=by rw[bne_iff_ne];omega
  have hx3:((n:Int) != 3)=true:=by rw[bne_iff_ne];omega
  go_enter Tryz.func118,Tryz.ntmps118
  go_wp2
  go_ret
  simp only[zAC HL]
  exact⟨rfl,hg,zAA _ _⟩
theorem zDX (b off n cap:Nat) (ws:List ByteArray) (w:World) (hw:zAt w b off ws) (hn:ws.length=n) :
  Calls Tryz.prog 97 #[.slice (some ⟨b,off,none⟩) n cap] w fun e w'=>e=.returned (zBU (P.zJF (ws.map ByteArray.toList)))∧Below w.heap.size w w':=by
 by_cases h2:n=2
 ·subst h2
  match ws,hw,hn with
  | [a,c],hw,hn =>
  clear hn
  obtain⟨hd,hblt,hw1⟩:=hw.head
  obtain⟨hd1,_,_⟩:=hw1.head
  go_enter Tryz.func97,Tryz.ntmps97
  go_wp2_with (first | (go_at_call 114;refine (zBf _ _).mono ?_;rintro e w1 ⟨rfl,hb⟩;have hr:=(zAu.new w P.Stm.zero).below hb) | (refine zAk (.tmp 2) (.tmp 18) rfl rfl w.heap.size _ { P.Stm.zero with kind:=10,a:=(P.zIz c.toList).1 } rfl rfl (by exact hr.alloc _) ?_;intro w2 hs2 hgr2))
  refine zAV (p:=2) (u:=3) w.heap.size { P.Stm.zero with kind:=10,a:=(P.zIz c.toList).1 } (P.zIz c.toList).2 (by kernel_rfl) rfl rfl hs2 rfl ⟨rfl,?_⟩
  exact zAs ((((Below.refl _ _).alloc (Nat.le_refl _) _).trans (hb.mono (by simp))).alloc (by have:=hb.size;simp at this;omega) _) hgr2 (Nat.le_refl _)
 ·have hx:((n:Int) != 2)=true:=by rw[bne_iff_ne];omega
  have e:P.zJF (ws.map ByteArray.toList)=(P.Stm.zero,false):=by
   match ws,hn with
   | [],_=>rfl
   | [_],_=>rfl
   | [_,_],hn=>simp at hn;omega
   | _::_::_::_,_=>rfl
  have HE:=zAa e
  clear e
  go_enter Tryz.func97,Tryz.ntmps97
  go_wp2_with (first | (refine zAk (.tmp 2) (.tmp 9) rfl rfl w.heap.size _ P.Stm.zero rfl rfl (by exact zAu.new _ P.Stm.zero) ?_;intro w2 hs2 hgr2))
  rw[zAC HE]
  refine zAV (p:=2) (u:=3) w.heap.size P.Stm.zero false (by kernel_rfl) rfl rfl hs2 rfl ⟨rfl,?_⟩
  exact zAs ((Below.refl _ _).alloc (Nat.le_refl _) _) hgr2 (Nat.le_refl _)
theorem zGo (b off n cap:Nat) (c:ByteArray) (r:List ByteArray) (w:World) (hw:zAt w b off (c::r)) (hn:r.length=n-1) (h1:1≤n) (hc:n≤cap) :
  Calls Tryz.prog 96 #[.slice (some ⟨b,off,none⟩) n cap] w fun e w'=>e=.returned (zBU (P.fence ((c::r).map ByteArray.toList)))∧Below w.heap.size w w':=by
 obtain⟨hd,hblt,hw1⟩:=hw.head
 have hS:∀ (w:World),zAu ((w.alloc (.cells (zAd P.Stm.zero) 97)).alloc (.cells (zAd { P.Stm.zero with kind:=4 }) 97)) (w.heap.size+1) { P.Stm.zero with kind:=4 }:=fun w=>by
  have:=zAu.new (w.alloc (.cells (zAd P.Stm.zero) 97)) { P.Stm.zero with kind:=4 }
  simpa using this
 have main:∀ (w1:World),zAu w1 (w.heap.size+1) (P.zJd { P.Stm.zero with kind:=4 } (r.map ByteArray.toList)).1→((w.alloc (.cells (zAd P.Stm.zero) 97)).alloc (.cells (zAd { P.Stm.zero with kind:=4 }) 97)).grownBy w1 (some (w.heap.size+1)) →
   zAu w1 w.heap.size P.Stm.zero∧Below w.heap.size w w1:=fun w1 _ hgr=>by
  refine⟨((zAu.new w P.Stm.zero).alloc _).of_block (hgr.block w.heap.size (by simp;omega) (by simp)),?_⟩
  exact zAs (((Below.refl _ _).alloc (Nat.le_refl _) _).alloc (by simp) _) hgr (by simp)
 by_cases hcap:cap=1
 ·have hr:r=[]:=List.eq_nil_of_length_eq_zero (by omega)
  subst hr
  go_enter Tryz.func96,Tryz.ntmps96
  go_wp2_with fail
  refine (zBe _ _ _ _ _ { P.Stm.zero with kind:=4 } [] _ (by exact hS w) (zAt.nil _ _ _) (by simp;omega) (by omega) (by omega)).mono ?_
  rintro e w1 ⟨rfl,hs1,hgr⟩
  obtain⟨hr,hb⟩:=main w1 hs1 hgr
  clear hgr main hS
  go_wp2_with (first | (refine zAy (.tmp 4) rfl rfl (w.heap.size+1) _ rfl hs1 ?_) | (refine zAk (.tmp 2) (.tmp 14) rfl rfl w.heap.size _ _ rfl rfl (by exact hr) ?_;intro w2 hs2 hgr2))
  refine zAV (p:=2) (u:=3) w.heap.size _ _ (by kernel_rfl) rfl rfl hs2 rfl ⟨rfl,zAs hb hgr2 (Nat.le_refl _)⟩
 ·go_enter Tryz.func96,Tryz.ntmps96
  go_wp2_with fail
  refine (zBe _ _ _ _ _ { P.Stm.zero with kind:=4 } r _ (by exact hS w) (by exact (hw1.alloc _).alloc _) hn (by omega) (by omega)).mono ?_
  rintro e w1 ⟨rfl,hs1,hgr⟩
  obtain⟨hr,hb⟩:=main w1 hs1 hgr
  clear hgr main hS
  go_wp2_with (first | (refine zAy (.tmp 4) rfl rfl (w.heap.size+1) _ rfl hs1 ?_) | (refine zAk (.tmp 2) (.tmp 14) rfl rfl w.heap.size _ _ rfl rfl (by exact hr) ?_;intro w2 hs2 hgr2))
  refine zAV (p:=2) (u:=3) w.heap.size _ _ (by kernel_rfl) rfl rfl hs2 rfl ⟨rfl,zAs hb hgr2 (Nat.le_refl _)⟩
end Go.Proofs.YtkmebkbpfmoeaaaGreat
