import Derived.Test.YtkmebkbpfmoeaaaGreatH22
set_option linter.unusedVariables false
set_option linter.unusedSimpArgs false
set_option maxHeartbeats 12800000
namespace Go.Proofs.YtkmebkbpfmoeaaaGreat
open Go Go.RowKit
set_option maxRecDepth 100000
def zAX:List Q.Run→List Value→List Value
 | r::rs,v::vs=>v::.int .i64 (r.regs.getD 0 0)::.int .i64 (r.regs.getD 1 0)::.int .i64 (r.regs.getD 2 0)::.int .i64 (r.regs.getD 3 0)::zAX rs vs
 | _,_=>[]
theorem zCF:∀ (rs:List Q.Run) (vs:List Value) (r:Q.Run) (v:Value),vs.length=rs.length→zAX (rs++[r]) (vs++[v])=zAX rs vs++[v,.int .i64 (r.regs.getD 0 0),.int .i64 (r.regs.getD 1 0),.int .i64 (r.regs.getD 2 0),.int .i64 (r.regs.getD 3 0)]
 | [],[],_,_,_=>rfl
 | [],_::_,_,_,h=>by simp at h
 | _::_,[],_,_,h=>by simp at h
 | a::rs,u::vs,r,v,h=>by
  simp only[List.cons_append,zAX]
  rw[zCF rs vs r v (by simpa using h)]
structure RunsIn (w:World) (B:Nat) (v:Value) (rs:List Q.Run) (vs:List Value):Prop where
 own:w.ownsRow B 150 5 v rs.length (zAX rs vs)
 len:vs.length=rs.length
 evs:∀ i (h:i<rs.length) (u:Value),vs[i]?=some u→zAW w u rs[i].events
theorem RunsIn.below {w w':World} {B:Nat} {v:Value} {rs:List Q.Run} {vs:List Value} (h:RunsIn w B v rs vs) (hb:Below w.heap.size w w'):RunsIn w' B v rs vs :=
 ⟨zAc h.own (fun k e=>hb.block k (h.own.lt k e).2),h.len,fun i hi u hu=>(h.evs i hi u hu).below hb⟩
theorem RunsIn.nil (w:World) (B:Nat):RunsIn w B (.slice none 0 0) [] []:=⟨by simpa [zAX] using World.ownsRow_nil w B 150 5,rfl,fun i h=>by simp at h⟩
theorem RunsIn.form {w:World} {B:Nat} {v:Value} {rs:List Q.Run} {vs:List Value} (h:RunsIn w B v rs vs):∃ a c,v=.slice a rs.length c:=by
 rcases h.own.2 with ⟨e,h0⟩ | ⟨k,c,cur,e,_⟩
 ·exact⟨none,0,by rw[e,h0]⟩
 ·exact⟨_,c,e⟩
theorem zAW.grownT {w w':World} {v u:Value} {es:List Q.Ev} {B n sz:Nat} {t:TypeId} {xs:List Value} (h:zAW w v es) (ho:w.ownsRow B t sz u n xs) (ht:t≠129) (hg:w.grownBy w' u.ownBlock):zAW w' v es:=by
 refine zAc h (fun k e=>hg.block k (h.lt k e).2 ?_)
 intro hk
 rcases h.2 with ⟨e1,_⟩ | ⟨g',cap,cur,e1,_,hh,_⟩
 ·rw[e1] at e;simp[Value.ownBlock] at e
 ·rw[e1] at e;simp[Value.ownBlock] at e
  subst e
  rcases ho.2 with ⟨e2,_⟩ | ⟨g2,cap2,cur2,e2,_,hh2,_⟩
  ·rw[e2] at hk;simp[Value.ownBlock] at hk
  ·rw[e2] at hk;simp[Value.ownBlock] at hk
   subst hk
   rw[hh] at hh2;simp at hh2;exact ht hh2.2.symm
theorem RunsIn.snoc {w w1:World} {B gn cn:Nat} {v:Value} {rs:List Q.Run} {vs:List Value} {r:Q.Run} {u:Value} (h:RunsIn w B v rs vs) (hu:zAW w u r.events)
  (hown:w1.ownsRow B 150 5 (.slice (some ⟨gn,0,none⟩) (rs.length+1) cn) (rs.length+1) (zAX rs vs++[u,.int .i64 (r.regs.getD 0 0),.int .i64 (r.regs.getD 1 0),.int .i64 (r.regs.getD 2 0),.int .i64 (r.regs.getD 3 0)])) (hg:w.grownBy w1 v.ownBlock) :
  RunsIn w1 B (.slice (some ⟨gn,0,none⟩) (rs.length+1) cn) (rs++[r]) (vs++[u]):=by
 refine⟨?_,by simp[h.len],fun i hi x hx=>?_⟩
 ·rw[zCF _ _ _ _ h.len];simpa using hown
 ·by_cases hlt:i<rs.length
  ·rw[List.getElem?_append_left (by rw[h.len];exact hlt)] at hx
   rw[List.getElem_append_left hlt]
   exact (h.evs i hlt x hx).grownT h.own (by decide) hg
  ·simp at hi
   have hie:i=rs.length:=by omega
   subst hie
   rw[List.getElem?_append_right (by rw[h.len];exact Nat.le_refl _),h.len] at hx
   simp at hx
   subst hx
   simp
   exact hu.grownT h.own (by decide) hg
namespace Q
theorem codes_take (ss:List P.Stm):∀ (c:Nat) (k:Nat),(ss.take k).foldl (fun c st=>if P.reads st.kind then c*4 else c) c≤ss.foldl (fun c st=>if P.reads st.kind then c*4 else c) c:=by
 have mono:∀ (l:List P.Stm) (c:Nat),c≤l.foldl (fun c st=>if P.reads st.kind then c*4 else c) c:=by
  intro l
  induction l with
  | nil=>intro c;exact Nat.le_refl _
  | cons s r ih =>
   intro c
   have h1:c≤(if P.reads s.kind then c*4 else c):=by split<;>omega
   exact Nat.le_trans h1 (ih _)
 induction ss with
 | nil=>intro c k;simp
 | cons s r ih =>
  intro c k
  cases k with
  | zero=>exact mono _ _
  | succ k=>exact ih _ k
theorem runsTo_succ (t:P.Thr) (i k:Nat):zIU t i (k+1)=zIU t i k++if (runAt t i k).unread==0 then [(runAt t i k).run] else []:=by
 unfold zIU
 rw[List.range_succ,List.filter_append,List.map_append]
 congr 1
 cases h:((runAt t i k).unread==0)<;>simp[List.filter,h]
theorem zJV (t:P.Thr) (i k:Nat):(zIU t i k).length≤k:=by
 unfold zIU
 rw[List.length_map]
 have:=List.length_filter_le (fun c=>(runAt t i c).unread==0) (List.range k)
 simpa using this
end Q
theorem Tryz.infoRun:(Tryz.prog.info? 150).map (fun i=>(i.zero,i.size,i.bytes))=some (some (.agg #[.slice none 0 0,.int .i64 0,.int .i64 0,.int .i64 0,.int .i64 0]),5,56):=by kernel_rfl
theorem MachIn.evsIn {w:World} {B g:Nat} {m:Q.Mach} {ev:Value} (h:MachIn w B g m ev):zAW w ev m.events:=by
 refine⟨h.evs.1,?_⟩
 rcases h.evs.2 with h0 | ⟨g',cap,cur,e,_,r⟩
 ·exact Or.inl h0
 ·exact Or.inr ⟨g',cap,cur,e,Nat.zero_le _,r⟩
theorem zGe (i:Nat) (t:P.Thr) (sv:Value) (w:World) (hown:w.ownsRow 0 97 11 sv t.stmts.length (zBa t.stmts)) (hi:i<100) (hst:∀ s∈t.stmts,Q.StOk s) (hn:t.stmts.length<900) (hc:Q.codes t.stmts<100000) :
  Calls Tryz.prog 65 #[.agg #[.int .i64 t.block,.int .i64 t.line,sv],.int .i64 (i:Int)] w fun e w'=>∃ v vs,e=.returned v∧RunsIn w' w.heap.size v (Q.zJS t i) vs∧Below w.heap.size w w':=by
 have hsv:∃ a c,sv=.slice a t.stmts.length c∧(0<t.stmts.length→∃ b,a=some ⟨b,0,none⟩∧b<w.heap.size):=by
  rcases hown.2 with ⟨e,h0⟩ | ⟨k,c,cur,e,_⟩
  ·exact⟨none,0,by rw[e,h0],fun h=>by omega⟩
  ·exact⟨_,c,e,fun _=>⟨k,rfl,(hown.lt k (by rw[e];rfl)).2⟩⟩
 obtain⟨sa,sc,rfl,hsa⟩:=hsv
 have HOW:=zAa hown
 obtain⟨bs,hss,hbs⟩:∃ bs,(0<t.stmts.length→sa=some ⟨bs,0,none⟩)∧(0<t.stmts.length→bs<w.heap.size):=by
  by_cases h0:0<t.stmts.length
  ·obtain⟨b,h1,h2⟩:=hsa h0;exact⟨b,fun _=>h1,fun _=>h2⟩
  ·exact⟨0,fun h=>absurd h h0,fun h=>absurd h h0⟩
 have HRS:Hid (∀ q (hq:q<t.stmts.length),w.rangeAt bs (q*11) (zAd t.stmts[q]).toList):=fun q hq=>by
  have e:=hss (by omega)
  have h1:=HOW.out
  rw[e] at h1
  exact zCj h1 rfl q hq
 obtain⟨i0,hi0,hz0,hz1,hz2⟩:=info_parts Tryz.infoRun
 have HCD:Hid (Q.codes t.stmts=t.stmts.foldl (fun c st=>if P.reads st.kind then c*4 else c) 1):=rfl
 obtain⟨k0,hsz,hbw⟩:=zBt w #[.int .i64 t.block,.int .i64 t.line,.slice sa t.stmts.length sc] 93
 have BW0:=zAa hbw
 clear hown hbw
 go_enter Tryz.func65,Tryz.ntmps65
 go_upto_region 1 with fail
 generalize hE:w.alloc (.cells #[.int .i64 t.block,.int .i64 t.line,.slice sa t.stmts.length sc] 93)=W0 at *
 have c0:=ceL k0 0 _ rfl
 have c2:=ceL k0 2 _ rfl
 have l0:w.heap.size<W0.heap.size:=by omega
 clear hE k0 hsz
 go_wp2
 go_loopw [5,14] (fun c j wr=>∃ (k n:Nat),k≤t.stmts.length∧j=.int .i64 k∧c=.int .i64 (n:Nat)∧Hid (n=(t.stmts.take k).foldl (fun c st=>if P.reads st.kind then c*4 else c) 1)∧Hid (Below W0.heap.size W0 wr)) (fun _ j _=>t.stmts.length-(intOf j).toNat)
 case atStart=>exact⟨0,1,Nat.zero_le _,rfl,rfl,by simp[Hid],Below.refl _ _⟩
 case round =>
  obtain⟨k,n,hk,rfl,rfl,HN,HB⟩:=hrel
  by_cases hlt:k<t.stmts.length
  ·have hin:(k:Int)<(t.stmts.length:Int):=by omega
   obtain⟨b,rfl,hb⟩:=hsa (by omega)
   have HR:=zAa (zAz (zCj HOW.out rfl k hlt) ((HB.out.block b (by omega)).trans (BW0.out.block b hb)))
   have hlb:b<wr.heap.size:=by have:=HB.out.size;omega
   have HNS:Hid ((t.stmts.take (k+1)).foldl (fun c st=>if P.reads st.kind then c*4 else c) 1=if P.reads t.stmts[k].kind then n*4 else n):=by
    unfold Hid;rw[List.take_succ_eq_append_getElem hlt,List.foldl_append,← HN.out];rfl
   have hnb:n<100000:=by have:=Q.codes_take t.stmts 1 k;rw[← HN.out,← HCD.out] at this;omega
   generalize t.stmts[k]=st at *
   have HB1:Hid (Below W0.heap.size W0 (wr.alloc (.cells (zAd st) 97))):=HB.out.alloc HB.out.size _
   cases hz:P.reads st.kind
   ·rw[hz] at HNS
    go_wp2_with (first | (refine zAE (.tmp 16) rfl rfl b (k*11) st rfl HR.out ?_) | (go_at_call 44;refine (zDm _ _).mono ?_;rintro e w' ⟨rfl,hw'⟩;have hw':=hw'.symm;subst hw';rw[hz]))
    go_roundw
    case rel=>exact⟨k+1,n,by omega,by go_num,rfl,HNS.out.symm,HB1⟩
    case measure=>simp[intOf];omega
   ·rw[hz] at HNS
    go_wp2_with (first | (refine zAE (.tmp 16) rfl rfl b (k*11) st rfl HR.out ?_) | (go_at_call 44;refine (zDm _ _).mono ?_;rintro e w' ⟨rfl,hw'⟩;have hw':=hw'.symm;subst hw';rw[hz]))
    go_roundw
    case rel=>exact⟨k+1,n*4,by omega,by go_num,by first | rfl | go_num | (congr 1),HNS.out.symm,HB1⟩
    case measure=>simp[intOf];omega
  ·have hkn:k=t.stmts.length:=by omega
   have HCE:Hid (n=Q.codes t.stmts):=by unfold Hid;rw[HCD.out,HN.out,hkn,List.take_length]
   have hnc:n<100000:=by rw[HCE.out];exact hc
   have HRE:Hid (Q.zJS t i=Q.zIU t i n):=by unfold Hid Q.zJS;rw[HCE.out]
   clear HN HCE hkn
   go_wp2
   clear hlt hk
   go_loopw [8,9] (fun a j wq=>∃ (q:Nat) (v:Value) (vs:List Value),q≤n∧j=.int .i64 q∧a=v∧Hid (RunsIn wq W0.heap.size v (Q.zIU t i q) vs)∧Hid (Below W0.heap.size W0 wq)) (fun _ j _=>n-(intOf j).toNat)
   case atStart=>exact⟨0,_,[],Nat.zero_le _,rfl,rfl,RunsIn.nil _ _,HB⟩
   case round =>
    clear HB
    obtain⟨q,v,vs,hq,rfl,hav,HRI,HB⟩:=hrel
    have hav:=hav.symm
    subst hav
    obtain⟨ra,rc,hrv⟩:=HRI.out.form
    subst hrv
    by_cases hql:q<n
    ·have hqi:(q:Int)<(n:Int):=by omega
     have d0:=cfL HB.out l0 c0
     have d2:=cfL HB.out l0 c2
     have lw:=Nat.lt_of_lt_of_le l0 HB.out.size
     have HMI:Hid (MachIn (wr.alloc (.cells #[.int .i64 (i:Int),.int .i64 t.block,.int .i64 (q:Int),.int .i64 0,.int .i64 0,.int .i64 0,.int .i64 0,.int .u64 0,.int .u64 0,.int .u64 0,.int .u64 0,.int .u64 0,.int .i64 0,.slice none 0 0] 147)) wr.heap.size wr.heap.size (Q.Mach.start i t.block q) (.slice none 0 0)):=⟨heap_alloc_new wr _,by simpa [Q.Mach.start,zAL] using World.ownsRow_nil _ _ _ _,Nat.le_refl _,rfl,rfl⟩
     have BX:Below wr.heap.size wr (wr.alloc (.cells #[.int .i64 (i:Int),.int .i64 t.block,.int .i64 (q:Int),.int .i64 0,.int .i64 0,.int .i64 0,.int .i64 0,.int .u64 0,.int .u64 0,.int .u64 0,.int .u64 0,.int .u64 0,.int .i64 0,.slice none 0 0] 147)):=(Below.refl _ _).alloc (Nat.le_refl _) _
     have BM:=zAa BX
     have hm2:=cfL BX lw d2
     have lw2:=Nat.lt_of_lt_of_le lw BX.size
     have hgm1:wr.heap.size≤(wr.alloc (.cells #[.int .i64 (i:Int),.int .i64 t.block,.int .i64 (q:Int),.int .i64 0,.int .i64 0,.int .i64 0,.int .i64 0,.int .u64 0,.int .u64 0,.int .u64 0,.int .u64 0,.int .u64 0,.int .i64 0,.slice none 0 0] 147)).heap.size:=BX.size
     have hWg:W0.heap.size≤wr.heap.size:=HB.out.size
     have HRM:Hid (∀ x (hx:x<t.stmts.length),(wr.alloc (.cells #[.int .i64 (i:Int),.int .i64 t.block,.int .i64 (q:Int),.int .i64 0,.int .i64 0,.int .i64 0,.int .i64 0,.int .u64 0,.int .u64 0,.int .u64 0,.int .u64 0,.int .u64 0,.int .i64 0,.slice none 0 0] 147)).rangeAt bs (x*11) (zAd t.stmts[x]).toList):=fun x hx=>by
      have hb:=hbs (by omega)
      exact zAz (HRS.out x hx) ((BX.block bs (by omega)).trans ((HB.out.block bs (by omega)).trans (BW0.out.block bs hb)))
     have HRR:Hid (Q.zJB (Q.Mach.start i t.block q) t.stmts=Q.runAt t i q):=rfl
     have HSO:=zAa (Q.start_ok i t.block q (by omega))
     have HTS:=zAa (Q.runsTo_succ t i q)
     clear BX
     go_upto_region 13 with fail
     generalize hMW:wr.alloc (.cells #[.int .i64 (i:Int),.int .i64 t.block,.int .i64 (q:Int),.int .i64 0,.int .i64 0,.int .i64 0,.int .i64 0,.int .u64 0,.int .u64 0,.int .u64 0,.int .u64 0,.int .u64 0,.int .i64 0,.slice none 0 0] 147)=M1 at *
     generalize hgm:wr.heap.size=gm at *
     clear hMW d0 d2
     go_upto_region 14 with (first | (go_at_call 102;refine (zEz gm gm bs sc (Q.Mach.start i t.block q) (.slice none 0 0) t.stmts sa _ HMI.out HSO.out hst hn (by omega) hss (fun h=>by have:=hbs h;omega) HRM.out).mono ?_;rintro e w3 ⟨rfl,ev3,hm3,hf3⟩))
     rw[HRR.out] at hm3
     have B3:Hid (Below gm wr w3):=BM.out.trans (hf3.below HMI.out (by omega))
     have hrl:(Q.runAt t i q).regs.length=4:=hm3.lr
     have HRI3:Hid (RunsIn w3 W0.heap.size (.slice ra (Q.zIU t i q).length rc) (Q.zIU t i q) vs):=HRI.out.below (by rw[hgm];exact B3.out)
     have HB3:Hid (Below W0.heap.size W0 w3):=HB.out.trans (B3.out.mono hWg)
     obtain⟨e0,e1,e2,e3,e4,e5,e6,e7,e8,e9,e10,e11,e12,e13,ef⟩:=hm3.facts
     have HEI:=zAa hm3.evsIn
     have hg3:=hm3.lt
     obtain⟨ea,ec,hev,_⟩:=hm3.form
     clear hm3 hf3 e0 e1 e7 e8 e9 e10 e11 e12 HRM HSO HMI BM hm2 lw2
     have HR1:Hid ((Q.runAt t i q).run=⟨(Q.runAt t i q).events,(Q.runAt t i q).regs⟩):=rfl
     generalize hRA:Q.runAt t i q=ra1 at *
     cases hz:((ra1.unread:Int)==0)
     ·have hz':(ra1.unread==0)=false:=by have h1:¬ ((ra1.unread:Int)=0):=(by simpa using hz);have h2:¬ (ra1.unread=0):=(by omega);simpa using h2
      have HN:Hid (Q.zIU t i (q+1)=Q.zIU t i q):=by unfold Hid;rw[HTS.out,hz'];simp
      go_wp2
      go_roundw
      case rel=>exact⟨q+1,_,vs,by omega,by go_num,rfl,by rw[HN.out];exact HRI3,HB3⟩
      case measure=>simp[intOf];omega
     ·have hz':(ra1.unread==0)=true:=by have h1:((ra1.unread:Int)=0):=(by simpa using hz);have h2:(ra1.unread=0):=(by omega);simpa using h2
      have HN:Hid (Q.zIU t i (q+1)=Q.zIU t i q++[⟨ra1.events,ra1.regs⟩]):=by unfold Hid;rw[HTS.out,hz'];rfl
      have hlen:=Q.zJV t i q
      generalize hx0:ra1.regs.getD 0 0=x0 at *
      generalize hx1:ra1.regs.getD 1 0=x1 at *
      generalize hx2:ra1.regs.getD 2 0=x2 at *
      generalize hx3:ra1.regs.getD 3 0=x3 at *
      subst hev
      have BA:Below w3.heap.size w3 (w3.alloc (.cells #[.slice ea ra1.events.length ec,.int .i64 x0,.int .i64 x1,.int .i64 x2,.int .i64 x3] 150)):=(Below.refl _ _).alloc (Nat.le_refl _) _
      have HO:=zAa (HRI3.out.below BA)
      have HEA:=zAa (HEI.out.below BA)
      have HN2:Hid (∀ j u,[Value.slice ea ra1.events.length ec,.int .i64 x0,.int .i64 x1,.int .i64 x2,.int .i64 x3][j]?=some u→(w3.alloc (.cells #[.slice ea ra1.events.length ec,.int .i64 x0,.int .i64 x1,.int .i64 x2,.int .i64 x3] 150)).cell? ((⟨w3.heap.size,0,none⟩:Addr).add j)=some u) :=
       World.news_of_block (cs:=#[.slice ea ra1.events.length ec,.int .i64 x0,.int .i64 x1,.int .i64 x2,.int .i64 x3]) (t:=150) (fr:=(0,0)) (heap_alloc_new w3 _)
      have HBA:Hid (Below W0.heap.size W0 (w3.alloc (.cells #[.slice ea ra1.events.length ec,.int .i64 x0,.int .i64 x1,.int .i64 x2,.int .i64 x3] 150))):=HB3.out.alloc HB3.out.size _
      have hWs:W0.heap.size≤w3.heap.size:=HB3.out.size
      have HX:Hid (x0=ra1.regs.getD 0 0∧x1=ra1.regs.getD 1 0∧x2=ra1.regs.getD 2 0∧x3=ra1.regs.getD 3 0):=⟨hx0.symm,hx1.symm,hx2.symm,hx3.symm⟩
      clear hx0 hx1 hx2 hx3 BA
      go_wp2_with (first | (at_builtin;(refine wpList_append_lies _ rfl (.tmp 40) (.tmp 46) 117 rfl W0.heap.size 150 i0 (.agg #[.slice none 0 0,.int .i64 0,.int .i64 0,.int .i64 0,.int .i64 0]) 5 56 Tryz.underlying117 hi0 hz0 hz1 hz2 rfl (by decide) _ (Q.zIU t i q).length (zAX (Q.zIU t i q) vs) rfl (by exact HO.out.own) ⟨w3.heap.size,0,none⟩ 1 1 [.slice ea ra1.events.length ec,.int .i64 x0,.int .i64 x1,.int .i64 x2,.int .i64 x3] rfl rfl (by exact HN2.out) (by simp[Value.oneCell']) (by decide) (by unfold maxLen;omega) (by omega) (by simp;omega) _ rfl ?_;intro gn cn w5 hown5 hgrow5 hat5 hlt5)))
      have HF5:Hid (RunsIn w5 W0.heap.size (.slice (some ⟨gn,0,none⟩) ((Q.zIU t i q).length+1) cn) (Q.zIU t i q++[⟨ra1.events,ra1.regs⟩]) (vs++[.slice ea ra1.events.length ec])):=by
       obtain⟨y0,y1,y2,y3⟩:=HX.out
       subst y0 y1 y2 y3
       exact HO.out.snoc (r:=⟨ra1.events,ra1.regs⟩) HEA.out hown5 hgrow5
      have HB5:Hid (Below W0.heap.size W0 w5):=HBA.out.trans ⟨hgrow5.os,hgrow5.tape,hgrow5.output,hgrow5.size,fun y hy=>hgrow5.block y (by simp;omega) (fun e=>by have:=(HO.out.own.lt y e.symm).1;omega)⟩
      clear hown5 hgrow5
      go_roundw
      case rel=>exact⟨q+1,_,_,by omega,by go_num,rfl,by rw[HN.out];exact HF5,HB5⟩
      case measure=>simp[intOf];omega
    ·have hqn:q=n:=by omega
     go_wp2
     go_ret
     refine⟨_,vs,rfl,?_,zAn BW0.out (Nat.le_refl _) HB.out⟩
     rw[HRE.out,← hqn]
     refine⟨?_,HRI.out.len,HRI.out.evs⟩
     have h1:=HRI.out.own
     refine⟨h1.1,?_⟩
     rcases h1.2 with h0 | ⟨g',cap,cur,e,hge,r⟩
     ·exact Or.inl h0
     ·exact Or.inr ⟨g',cap,cur,e,by omega,r⟩
theorem zHK {w:World} {B n c g:Nat} {es:List Q.Ev} (h:w.heap[g]?=some (.cells (zAL es).toArray 129 (0,0))) (hB:B≤g) (hn:n=es.length) (hl:es.length<100000):w.ownsRow B 129 10 (.slice (some ⟨g,0,none⟩) n n) n (zAL es):=by
 subst hn
 refine⟨by rw[zAJ],Or.inr ⟨g,es.length,_,rfl,hB,h,Nat.le_refl _,by unfold maxLen;omega,by simp[zAJ],by simp only[List.toList_toArray];exact List.take_of_length_le (by rw[zAJ];exact Nat.le_refl _)⟩⟩
theorem zBy {ops:Array Oper} {rest:List Oper} {op:Oper} {a:Act} {w:World} {R:Exit→Act→World→Prop} (x y:Operand) (hgd:op.guard=none) (ho:op.op=.store 129 x y)
  (g o:Nat) (e:Q.Ev) (hx:a.eval x=.pointer (some ⟨g,o,none⟩)) (hy:a.eval y=.agg (zAb e)) (ht:w.there g o 10)
  (h:wpList Tryz.prog ops R rest (a.put op.dst undef) (w.setCells g o (zAb e).toList)):wpList Tryz.prog ops R (op::rest) a w :=
 wpList_store_mid hgd _ x y ho g o (zAb e) hx hy ht (by kernel_rfl) (by simp[zAb,Value.oneCell']) h
def zHL:Nat→List Q.Ev
 | 0=>[Q.Ev.zero,Q.Ev.zero,Q.Ev.zero]
 | 1=>[Q.zIF 0,Q.Ev.zero,Q.Ev.zero]
 | 2=>[Q.zIF 0,Q.zIF 1,Q.Ev.zero]
 | _=>[Q.zIF 0,Q.zIF 1,Q.zIF 2]
theorem zCa {w:World} {g o n:Nat} {cs:Array Value} {e:TypeId} (hg:w.heap[g]?=some (.cells cs e (0,0))) (hn:o+n≤cs.size):w.there g o n:=by
 intro j hj
 simp[World.cell?,World.frozen?,hg]
 omega
theorem zDw (w:World) :
  Calls Tryz.prog 103 #[] w fun e w'=>∃ g,e=.returned (.slice (some ⟨g,0,none⟩) 3 3)∧w'.ownsRow w.heap.size 129 10 (.slice (some ⟨g,0,none⟩) 3 3) 3 (zAL Q.zIR)∧Below w.heap.size w w':=by
 obtain⟨iz,hi,hz0,hz1,hz2⟩:=info_parts Tryz.infoEvM
 have hmk:∀ w,(Instr.makeSlice 59 (.int .i64 3) (.int .i64 3)).run Tryz.prog w=.ok (.slice (some ⟨w.heap.size,0,none⟩) 3 3) (w.alloc (.cells (zAL [Q.Ev.zero,Q.Ev.zero,Q.Ev.zero]).toArray 129)):=fun w=>by
  have h:=run_makeSlice (P:=Tryz.prog) w 59 129 iz (.agg (zAb Q.Ev.zero)) Tryz.underlying59 hi hz0 .i64 .i64 3 3 (by omega) (Int.le_refl _) (by rw[hz1];decide) (by rw[hz2];decide) (by omega)
  rw[hz1] at h
  have e:madeCells (Value.agg (zAb Q.Ev.zero)).cells (Int.toNat 3*10)=(zAL [Q.Ev.zero,Q.Ev.zero,Q.Ev.zero]).toArray:=by kernel_rfl
  rw[e] at h
  exact h
 have H0:Hid (∀ W:World,(W.alloc (.cells (zAL [Q.Ev.zero,Q.Ev.zero,Q.Ev.zero]).toArray 129)).heap[W.heap.size]?=some (.cells (zAL [Q.Ev.zero,Q.Ev.zero,Q.Ev.zero]).toArray 129 (0,0))):=fun W=>heap_alloc_new W _
 clear hi hz0 hz1 hz2
 go_enter Tryz.func103,Tryz.ntmps103
 go_wp2
 go_loopw [6] (fun j wr=>∃ (k:Nat),k≤3∧j=.int .i64 k∧Hid (wr.heap[w.heap.size]?=some (.cells (zAL (zHL k)).toArray 129 (0,0)))∧Hid (Below w.heap.size w wr)) (fun j _=>3-(intOf j).toNat)
 case atStart=>exact⟨0,by omega,rfl,H0.out w,(Below.refl _ _).alloc (Nat.le_refl _) _⟩
 case round =>
  obtain⟨k,hk,rfl,HK,HB⟩:=hrel
  have hcs:k=0∨k=1∨k=2∨k=3:=by omega
  have hgl:=(Array.getElem?_eq_some_iff.1 HK.out).1
  rcases hcs with rfl | rfl | rfl | rfl
  ·have HT:Hid (wr.there w.heap.size 0 10):=zCa HK.out (by simp[zAJ,zHL])
   have HK2:=zAa (zBs w.heap.size 129 (0,0) (zAb (Q.zIF 0)).toList (zAL (zHL 0)) 0 wr HK.out)
   have HB2:Hid (Below w.heap.size w (wr.setCells w.heap.size 0 (zAb (Q.zIF 0)).toList)):=Below.setCells (Nat.le_refl _) _ _ _ HB.out
   go_wp2_with (first | (refine zBy (.tmp 13) (.tmp 12) rfl rfl w.heap.size 0 (Q.zIF 0) rfl rfl HT.out ?_;generalize hWW:wr.setCells w.heap.size 0 (zAb (Q.zIF 0)).toList=WW at *))
   go_roundw
   case rel=>exact⟨1,by omega,by go_num,HK2,HB2⟩
   case measure=>simp[intOf]
  ·have HT:Hid (wr.there w.heap.size 10 10):=zCa HK.out (by simp[zAJ,zHL])
   have HK2:=zAa (zBs w.heap.size 129 (0,0) (zAb (Q.zIF 1)).toList (zAL (zHL 1)) 10 wr HK.out)
   have HB2:Hid (Below w.heap.size w (wr.setCells w.heap.size 10 (zAb (Q.zIF 1)).toList)):=Below.setCells (Nat.le_refl _) _ _ _ HB.out
   go_wp2_with (first | (refine zBy (.tmp 13) (.tmp 12) rfl rfl w.heap.size 10 (Q.zIF 1) rfl rfl HT.out ?_;generalize hWW:wr.setCells w.heap.size 10 (zAb (Q.zIF 1)).toList=WW at *))
   go_roundw
   case rel=>exact⟨2,by omega,by go_num,HK2,HB2⟩
   case measure=>simp[intOf]
  ·have HT:Hid (wr.there w.heap.size 20 10):=zCa HK.out (by simp[zAJ,zHL])
   have HK2:=zAa (zBs w.heap.size 129 (0,0) (zAb (Q.zIF 2)).toList (zAL (zHL 2)) 20 wr HK.out)
   have HB2:Hid (Below w.heap.size w (wr.setCells w.heap.size 20 (zAb (Q.zIF 2)).toList)):=Below.setCells (Nat.le_refl _) _ _ _ HB.out
   go_wp2_with (first | (refine zBy (.tmp 13) (.tmp 12) rfl rfl w.heap.size 20 (Q.zIF 2) rfl rfl HT.out ?_;generalize hWW:wr.setCells w.heap.size 20 (zAb (Q.zIF 2)).toList=WW at *))
   go_roundw
   case rel=>exact⟨3,by omega,by go_num,HK2,HB2⟩
   case measure=>simp[intOf]
  ·go_wp2
   go_ret
   exact⟨w.heap.size,rfl,zHK (es:=Q.zIR) (c:=0) HK.out (Nat.le_refl _) rfl (by decide),HB.out⟩
end Go.Proofs.YtkmebkbpfmoeaaaGreat
