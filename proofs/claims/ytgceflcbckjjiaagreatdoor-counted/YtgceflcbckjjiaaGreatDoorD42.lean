import Derived.Test.YtgceflcbckjjiaaGreatDoorD41
set_option linter.unusedVariables false
set_option linter.unusedSimpArgs false
set_option maxHeartbeats 12800000
namespace Go.Proofs.YtgceflcbckjjiaaGreatDoor
open Go Go.RowKit
set_option maxRecDepth 100000
theorem zFj (pr:Int→Bool) (l:List P.Stm) (k:Nat) (h:k<l.length):P.zKo pr (l.take (k+1))=P.zKo pr (l.take k)++P.zKN pr l[k]:=by
 have app:∀ a b,P.zKo pr (a++b)=P.zKo pr a++P.zKo pr b:=fun a b=>by
  induction a with
  | nil=>rfl
  | cons s r ih=>simp[P.zKo,ih]
 rw[List.take_succ_eq_append_getElem h,app];simp[P.zKo]
theorem zFR (pr:Int→Bool) (l:List P.Stm):(P.zKo pr l).length≤3*l.length:=by
 induction l with
 | nil=>simp[P.zKo]
 | cons s r ih =>
  simp only[P.zKo,List.length_append,List.length_cons]
  have:(P.zKN pr s).length≤3:=by
   unfold P.zKN
   split
   ·cases P.rel s.order<;>cases P.acq s.order<;>simp
   ·simp
  omega
structure FI (w W:World) (o:Value) (acc:List P.Stm) (st f:P.Stm) (gs gf:Nat) (bx:Array Value):Prop where
 own:W.ownsRow w.heap.size 96 11 o acc.length (zAA acc)
 bel:Below w.heap.size w W
 s:zAw W gs st
 f:zAw W gf f
 ns:o.ownBlock≠some gs
 nf:o.ownBlock≠some gf
 hs:w.heap.size≤gs
 hf:w.heap.size≤gf
 ne:gf≠gs
 box:W.heap[w.heap.size]?=some (.cells bx 48 (0,0))
theorem FI.start {w wr w3:World} {o:Value} {acc:List P.Stm} {st f:P.Stm} {bx:Array Value} (hb:Below w.heap.size w wr) (hown:wr.ownsRow w.heap.size 96 11 o acc.length (zAA acc)) (hbox:wr.heap[w.heap.size]?=some (.cells bx 48 (0,0))) (hb3:Below (wr.alloc (.cells (zAb st) 96)).heap.size (wr.alloc (.cells (zAb st) 96)) w3) :
  FI w (w3.alloc (.cells (zAb f) 96)) o acc st f wr.heap.size w3.heap.size bx:=by
 have hW:Below wr.heap.size wr w3:=((Below.refl wr.heap.size wr).alloc (Nat.le_refl _) _).trans (hb3.mono (by simp))
 have h1:=hb.size
 have h2:=hW.size
 have hlt:w.heap.size<wr.heap.size:=(Array.getElem?_eq_some_iff.1 hbox).1
 have h3:wr.heap.size<w3.heap.size:=by have:=hb3.size;simp at this;omega
 refine⟨(zAd hown (fun j hj=>hW.block j (hown.lt j hj).2)).alloc _,(hb.trans (hW.mono h1)).alloc (by omega) _,((zAw.new wr st).below hb3).alloc _,zAw.new w3 f,fun e=>?_,fun e=>?_,h1,by omega,by omega,?_⟩
 ·have:=(hown.lt _ e).2;omega
 ·have:=(hown.lt _ e).2;omega
 ·rw[Below.heap_alloc _ _ _ (by omega),hW.block _ hlt];exact hbox
theorem FI.app {w W w1:World} {o:Value} {acc:List P.Stm} {st f:P.Stm} {gs gf g1 cap1:Nat} {bx:Array Value} (h:FI w W o acc st f gs gf bx) (x:P.Stm) (na:Nat) (hna:acc.length=na) (hgrow:(W.alloc (.cells (zAb x) 96)).grownBy w1 o.ownBlock) (hown1:w1.ownsRow w.heap.size 96 11 (.slice (some ⟨g1,0,none⟩) (na+1) cap1) (na+1) (zAA acc++(zAb x).toList)) (hat:o.ownBlock=some g1∨g1=W.heap.size+1) :
  FI w w1 (.slice (some ⟨g1,0,none⟩) (na+1) cap1) (acc++[x]) st f gs gf bx:=by
 subst hna
 have hlt:w.heap.size<W.heap.size:=(Array.getElem?_eq_some_iff.1 h.box).1
 have keep:∀ j,j<W.heap.size→o.ownBlock≠some j→w1.heap[j]?=W.heap[j]?:=fun j hj hn=>by
  rw[hgrow.block j (by simp;omega) (Ne.symm hn)];exact Below.heap_alloc _ _ _ hj
 have hsl:=h.s.lt
 have hfl:=h.f.lt
 have hnb:∀ g,g<W.heap.size→o.ownBlock≠some g→(Value.slice (some ⟨g1,0,none⟩) (acc.length+1) cap1).ownBlock≠some g:=fun g hg hn e=>by
  simp[Value.ownBlock] at e
  subst e
  rcases hat with ha | ha
  ·exact hn ha
  ·omega
 refine⟨by rw[zAY];simpa using hown1,(h.bel.alloc h.bel.size _).grown hgrow (by have:=h.bel.size;simp;omega) (fun j hj=>(h.own.lt j hj).1),h.s.of_block (keep gs hsl h.ns),h.f.of_block (keep gf hfl h.nf),hnb gs hsl h.ns,hnb gf hfl h.nf,h.hs,h.hf,h.ne,?_⟩
 rw[keep _ hlt (zAV h.own h.box (by decide))];exact h.box
theorem FI.setO {w W:World} {o:Value} {acc:List P.Stm} {st f:P.Stm} {gs gf:Nat} {bx:Array Value} (h:FI w W o acc st f gs gf bx):FI w (W.setCell ⟨gs,8,none⟩ (.int .i64 1)) o acc { st with order:=1 } f gs gf bx:=by
 have hne:w.heap.size≠gs:=fun e=>by
  have h1:=h.s
  rw[← e] at h1
  unfold zAw at h1
  rw[h.box] at h1
  simp at h1
 refine⟨zAd h.own (fun j hj=>Below.heap_setCell _ _ _ _ (fun e=>h.ns (by rw[hj,e]))),h.bel.setCell (p:=⟨gs,8,none⟩) h.hs _,h.s.setOrder 1,h.f.of_block (Below.heap_setCell _ _ _ _ h.ne),h.ns,h.nf,h.hs,h.hf,h.ne,?_⟩
 rw[Below.heap_setCell _ _ _ _ hne];exact h.box
theorem zFS (B bt n cap B2 m sc:Nat) (sa:Option Addr) (ts:List P.Thr) (l:List P.Stm) (w:World) (h:zAl w B (.slice (some ⟨bt,0,none⟩) n cap) ts) (hn:n=ts.length) (hnb:n<10) (hst:∀ t∈ts,t.stmts.length<10000)
  (hown:w.ownsRow B2 96 11 (.slice sa m sc) m (zAA l)) (hm:m=l.length) (hmb:m<10000) :
  Calls Tryz.prog 43 #[.agg #[.slice (some ⟨bt,0,none⟩) n cap],.slice sa m sc] w fun e w'=>∃ v,e=.returned v∧w'.ownsRow w.heap.size 96 11 v (P.zKo (P.zLp ts) l).length (zAA (P.zKo (P.zLp ts) l))∧Below w.heap.size w w':=by
 obtain⟨i0,hi,hz0,hz1,hz2⟩:=info_parts Tryz.infoStm
 have HC:Hid (∀ (w2:World) (v:Int),Below w.heap.size w w2→Calls Tryz.prog 80 #[.agg #[.slice (some ⟨bt,0,none⟩) n cap],.int .i64 v] w2 fun e w'=>e=.returned (.bool (P.zLp ts v))∧Below w2.heap.size w2 w'):=fun w2 v hb=>zGQ B bt n cap v ts w2 (h.keep (fun k hk=>hb.block k hk)) hn hnb hst
 have HO:=zAa hown
 have HN:=zAa hm
 clear h hn hst hown hm
 generalize P.zLp ts=pr at *
 go_enter Tryz.func43,Tryz.ntmps43
 go_wp2
 go_loopw [5,12] (fun o i wr=>∃ (k:Nat) (acc:List P.Stm),k≤m∧i=.int .i64 k∧acc.length≤3*k∧Hid (acc=P.zKo pr (l.take k))∧wr.ownsRow w.heap.size 96 11 o acc.length (zAA acc)∧Below w.heap.size w wr∧wr.heap[w.heap.size]?=some (.cells #[.slice (some ⟨bt,0,none⟩) n cap] 48 (0,0))) (fun _ i _=>m-(intOf i).toNat)
 case atStart=>exact⟨0,[],Nat.zero_le _,rfl,by simp,by unfold Hid;simp[P.zKo],by simpa [zAA] using World.ownsRow_nil _ _ _ _,(Below.refl _ _).alloc (Nat.le_refl _) _,heap_alloc_new w _⟩
 case round =>
  obtain⟨k,acc,hk,rfl,hac,HR,hrow,hbel,hbox⟩:=hrel
  have e0:=ceL hbox 0 _ rfl
  have hwlt:w.heap.size<wr.heap.size:=(Array.getElem?_eq_some_iff.1 hbox).1
  by_cases hlt:k<m
  ·obtain⟨b,rfl,hblt⟩:=zBP HO.out (by omega)
   have hkl:k<l.length:=by rw[← HN.out];exact hlt
   have hr:=zAa (zAv (zBc HO.out HN.out k hkl) (hbel.block b hblt))
   have HS:=zAa (zFj pr l k hkl)
   have HOW:=zAa hrow
   have HBL:=zAa hbel
   generalize hst:l[k]=st at *
   clear hst hrow hbel
   have plain:Hid (P.zKN pr st=[st]→True):=fun _=>trivial
   cases ha:P.isAcc st.kind
   ·have HF:Hid (acc++[st]=P.zKo pr (l.take (k+1))):=by
     unfold Hid;rw[HS.out,← HR.out];simp[P.zKN,ha]
    go_wp2_with (first
     | (refine zAi (.tmp 14) rfl rfl b (k*11) st rfl hr.out ?_)
     | (go_at_call 79;refine (zBE _ _).mono ?_;rintro e w' ⟨rfl,rfl⟩;rw[ha])
     | (at_builtin;refine wpList_append_lies _ rfl (.tmp 27) (.tmp 29) 86 rfl w.heap.size 96 i0 (.agg (zAb P.Stm.zero)) 11 88 Tryz.underlying86 hi hz0 hz1 hz2 rfl (by decide) _ _ _ rfl ((HOW.out.alloc _).alloc _) ⟨wr.heap.size+1,0,none⟩ 1 1 (zAb st).toList (by simp[Act.eval]) rfl ?c1 ?c2 (by decide) ?c3 ?c4 ?c5 _ rfl ?_))
    case c1=>exact zIU wr (zAb st) _ _
    case c2=>simp[zAb,Value.oneCell']
    case c3=>unfold maxLen;omega
    case c4=>omega
    case c5=>simp;omega
    intro g1 cap1 w1 hown1 hgrow hat hlt1
    have hW':Below wr.heap.size wr ((wr.alloc (.cells (zAb st) 96)).alloc (.cells (zAb st) 96)):=((Below.refl _ _).alloc (Nat.le_refl _) _).alloc (by simp) _
    have FIN:=zAa (zBq HBL.out hW' HOW.out hgrow)
    have FBX:=zAa (zBf hW' HOW.out hgrow hbox (by decide))
    have FOW:Hid (w1.ownsRow w.heap.size 96 11 (.slice (some ⟨g1,0,none⟩) (acc.length+1) cap1) (acc++[st]).length (zAA (acc++[st]))):=by
     unfold Hid;rw[zAY];simpa using hown1
    clear hown1 hgrow hat HOW HBL hW'
    go_wp2
    go_roundw
    case rel=>exact⟨k+1,acc++[st],by omega,by go_num,by simp;omega,HF,FOW.out,FIN.out,FBX.out⟩
    case measure=>simp[intOf];omega
   ·cases hp:pr st.var
    ·have HF:Hid (acc++[st]=P.zKo pr (l.take (k+1))):=by
      unfold Hid;rw[HS.out,← HR.out];simp[P.zKN,hp]
     go_wp2_with (first
      | (refine zAi (.tmp 14) rfl rfl b (k*11) st rfl hr.out ?_)
      | (go_at_call 79;refine (zBE _ _).mono ?_;rintro e w' ⟨rfl,rfl⟩;rw[ha])
      | (go_at_call 80;refine (HC.out _ _ (HBL.out.alloc (by omega) _)).mono ?_;rintro e w3 ⟨rfl,hb3⟩;rw[hp];have hW:Below wr.heap.size wr w3:=((Below.refl wr.heap.size wr).alloc (Nat.le_refl _) _).trans (hb3.mono (by simp));have GS:=(zAw.new wr st).below hb3;obtain⟨f1,f2,s0,s1,s2,s3,s4,s5,s6,s7,s8,s9,s10⟩:=GS.facts;have hw3:=hW.size)
      | (at_builtin;refine wpList_append_lies _ rfl (.tmp 27) (.tmp 29) 86 rfl w.heap.size 96 i0 (.agg (zAb P.Stm.zero)) 11 88 Tryz.underlying86 hi hz0 hz1 hz2 rfl (by decide) _ _ _ rfl ((zAd HOW.out (fun j hj=>hW.block j (HOW.out.lt j hj).2)).alloc _) ⟨w3.heap.size,0,none⟩ 1 1 (zAb st).toList rfl rfl ?c1 ?c2 (by decide) ?c3 ?c4 ?c5 _ rfl ?_))
     case c1=>exact World.news_of_block (t:=96) (fr:=(0,0)) (heap_alloc_new w3 _)
     case c2=>simp[zAb,Value.oneCell']
     case c3=>unfold maxLen;omega
     case c4=>omega
     case c5=>simp;omega
     intro g1 cap1 w1 hown1 hgrow hat hlt1
     have hW':Below wr.heap.size wr (w3.alloc (.cells (zAb st) 96)):=hW.alloc hw3 _
     have FIN:=zAa (zBq HBL.out hW' HOW.out hgrow)
     have FBX:=zAa (zBf hW' HOW.out hgrow hbox (by decide))
     have FOW:Hid (w1.ownsRow w.heap.size 96 11 (.slice (some ⟨g1,0,none⟩) (acc.length+1) cap1) (acc++[st]).length (zAA (acc++[st]))):=by
      unfold Hid;rw[zAY];simpa using hown1
     clear hown1 hgrow hat HOW HBL hW hW' GS
     go_wp2
     go_roundw
     case rel=>exact⟨k+1,acc++[st],by omega,by go_num,by simp;omega,HF,FOW.out,FIN.out,FBX.out⟩
     case measure=>simp[intOf];omega
    ·cases hrl:P.rel st.order<;>cases hac2:P.acq st.order
     ·have HF:Hid (acc++[{ st with order:=1 }]=P.zKo pr (l.take (k+1))):=by
       unfold Hid;rw[HS.out,← HR.out];simp[P.zKN,ha,hp,hrl,hac2]
      go_wp2_with (first
       | (refine zAi (.tmp 14) rfl rfl b (k*11) st rfl hr.out ?_)
       | (go_at_call 79;refine (zBE _ _).mono ?_;rintro e w' ⟨rfl,rfl⟩;rw[ha])
       | (go_at_call 80;refine (HC.out _ _ (HBL.out.alloc (by omega) _)).mono ?_;rintro e w3 ⟨rfl,hb3⟩;rw[hp];have GS:=(zAw.new wr st).below hb3;obtain⟨f1,f2,s0,s1,s2,s3,s4,s5,s6,s7,s8,s9,s10⟩:=GS.facts;have GF:FI w (w3.alloc (.cells (zAb (P.zKk st)) 96)) u5 acc st (P.zKk st) wr.heap.size w3.heap.size #[.slice (some ⟨bt,0,none⟩) n cap]:=(FI.start HBL.out HOW.out hbox hb3);rw[show zAb (P.zKk st)=#[.int .i64 4,.int .i64 st.line,.int .i64 0,.int .i64 0,.bool false,.int .i64 0,.bool false,.int .i64 0,.int .i64 4,.int .i64 st.scope,.int .i64 0] from rfl] at GF;have GF:=zAa GF;clear GS)
       | (go_at_call 81;generalize w3.alloc (.cells #[.int .i64 4,.int .i64 st.line,.int .i64 0,.int .i64 0,.bool false,.int .i64 0,.bool false,.int .i64 0,.int .i64 4,.int .i64 st.scope,.int .i64 0] 96)=W at *;clear f1 f2 s0 s1 s2 s3 s4 s5 s6 s7 s8 s9 s10;obtain⟨f1,f2,s0,s1,s2,s3,s4,s5,s6,s7,s8,s9,s10⟩:=GF.out.s.facts;have G2:=zAa GF.out.setO;refine (zDL _ _).mono ?_;rintro e w' ⟨rfl,hww⟩;have hww:=hww.symm;subst hww;rw[hrl])
       | (generalize W.setCell ⟨wr.heap.size,8,none⟩ (.int .i64 1)=W2 at *;refine zAp (.tmp 7) rfl rfl wr.heap.size { st with order:=1 } rfl (by exact G2.out.s) ?_;simp only[zAb])
       | (at_builtin;refine wpList_append_lies _ rfl (.tmp 45) (.tmp 47) 86 rfl w.heap.size 96 i0 (.agg (zAb P.Stm.zero)) 11 88 Tryz.underlying86 hi hz0 hz1 hz2 rfl (by decide) _ _ _ rfl (G2.out.own.alloc _) ⟨W2.heap.size,0,none⟩ 1 1 (zAb { st with order:=1 }).toList rfl rfl ?c1 ?c2 (by decide) ?c3 ?c4 ?c5 _ rfl ?_))
      case c1=>exact World.news_of_block (t:=96) (fr:=(0,0)) (heap_alloc_new W2 _)
      case c2=>simp[zAb,P.zKk,P.Opd.zero,Value.oneCell']
      case c3=>unfold maxLen;first | omega | (simp;omega)
      case c4=>first | omega | (simp;omega)
      case c5=>have:=G2.out.bel.size;simp;omega
      intro gwB capwB wB hown1 hgrow hat hlt1
      have GB:=zAa (FI.app G2.out { st with order:=1 } acc.length (by first | rfl | simp) (by exact hgrow) (by first | exact hown1 | simpa using hown1) (by exact hat))
      clear hown1 hgrow hat hlt1
      go_wp2_with (first | (go_at_call 82;refine (zDK _ _).mono ?_;rintro e w' ⟨rfl,hww⟩;have hww:=hww.symm;subst hww;rw[hac2]))
      go_roundw
      case rel=>exact⟨k+1,_,by omega,by go_num,by simp;omega,HF,by simpa using GB.out.own,GB.out.bel,GB.out.box⟩
      case measure=>simp[intOf];omega
     ·have HF:Hid (acc++[{ st with order:=1 }]++[P.zKk st]=P.zKo pr (l.take (k+1))):=by
       unfold Hid;rw[HS.out,← HR.out];simp[P.zKN,ha,hp,hrl,hac2]
      go_wp2_with (first
       | (refine zAi (.tmp 14) rfl rfl b (k*11) st rfl hr.out ?_)
       | (go_at_call 79;refine (zBE _ _).mono ?_;rintro e w' ⟨rfl,rfl⟩;rw[ha])
       | (go_at_call 80;refine (HC.out _ _ (HBL.out.alloc (by omega) _)).mono ?_;rintro e w3 ⟨rfl,hb3⟩;rw[hp];have GS:=(zAw.new wr st).below hb3;obtain⟨f1,f2,s0,s1,s2,s3,s4,s5,s6,s7,s8,s9,s10⟩:=GS.facts;have GF:FI w (w3.alloc (.cells (zAb (P.zKk st)) 96)) u5 acc st (P.zKk st) wr.heap.size w3.heap.size #[.slice (some ⟨bt,0,none⟩) n cap]:=(FI.start HBL.out HOW.out hbox hb3);rw[show zAb (P.zKk st)=#[.int .i64 4,.int .i64 st.line,.int .i64 0,.int .i64 0,.bool false,.int .i64 0,.bool false,.int .i64 0,.int .i64 4,.int .i64 st.scope,.int .i64 0] from rfl] at GF;have GF:=zAa GF;clear GS)
       | (go_at_call 81;generalize w3.alloc (.cells #[.int .i64 4,.int .i64 st.line,.int .i64 0,.int .i64 0,.bool false,.int .i64 0,.bool false,.int .i64 0,.int .i64 4,.int .i64 st.scope,.int .i64 0] 96)=W at *;clear f1 f2 s0 s1 s2 s3 s4 s5 s6 s7 s8 s9 s10;obtain⟨f1,f2,s0,s1,s2,s3,s4,s5,s6,s7,s8,s9,s10⟩:=GF.out.s.facts;have G2:=zAa GF.out.setO;refine (zDL _ _).mono ?_;rintro e w' ⟨rfl,hww⟩;have hww:=hww.symm;subst hww;rw[hrl])
       | (generalize W.setCell ⟨wr.heap.size,8,none⟩ (.int .i64 1)=W2 at *;refine zAp (.tmp 7) rfl rfl wr.heap.size { st with order:=1 } rfl (by exact G2.out.s) ?_;simp only[zAb])
       | (at_builtin;refine wpList_append_lies _ rfl (.tmp 45) (.tmp 47) 86 rfl w.heap.size 96 i0 (.agg (zAb P.Stm.zero)) 11 88 Tryz.underlying86 hi hz0 hz1 hz2 rfl (by decide) _ _ _ rfl (G2.out.own.alloc _) ⟨W2.heap.size,0,none⟩ 1 1 (zAb { st with order:=1 }).toList rfl rfl ?c1 ?c2 (by decide) ?c3 ?c4 ?c5 _ rfl ?_))
      case c1=>exact World.news_of_block (t:=96) (fr:=(0,0)) (heap_alloc_new W2 _)
      case c2=>simp[zAb,P.zKk,P.Opd.zero,Value.oneCell']
      case c3=>unfold maxLen;first | omega | (simp;omega)
      case c4=>first | omega | (simp;omega)
      case c5=>have:=G2.out.bel.size;simp;omega
      intro gwB capwB wB hown1 hgrow hat hlt1
      have GB:=zAa (FI.app G2.out { st with order:=1 } acc.length (by first | rfl | simp) (by exact hgrow) (by first | exact hown1 | simpa using hown1) (by exact hat))
      clear hown1 hgrow hat hlt1
      go_wp2_with (first
       | (go_at_call 82;refine (zDK _ _).mono ?_;rintro e w' ⟨rfl,hww⟩;have hww:=hww.symm;subst hww;rw[hac2])
       | (refine zAp (.tmp 9) rfl rfl w3.heap.size (P.zKk st) rfl (by exact GB.out.f) ?_;simp only[zAb,P.zKk,P.Opd.zero])
       | (at_builtin;refine wpList_append_lies _ rfl (.tmp 51) (.tmp 53) 86 rfl w.heap.size 96 i0 (.agg (zAb P.Stm.zero)) 11 88 Tryz.underlying86 hi hz0 hz1 hz2 rfl (by decide) _ _ _ rfl (GB.out.own.alloc _) ⟨wB.heap.size,0,none⟩ 1 1 (zAb (P.zKk st)).toList rfl rfl ?c1 ?c2 (by decide) ?c3 ?c4 ?c5 _ rfl ?_))
      case c1=>exact World.news_of_block (t:=96) (fr:=(0,0)) (heap_alloc_new wB _)
      case c2=>simp[zAb,P.zKk,P.Opd.zero,Value.oneCell']
      case c3=>unfold maxLen;first | omega | (simp;omega)
      case c4=>first | omega | (simp;omega)
      case c5=>have:=GB.out.bel.size;simp;omega
      intro gwC capwC wC hown1 hgrow hat hlt1
      have GC:=zAa (FI.app GB.out (P.zKk st) (acc.length+1) (by first | rfl | simp) (by exact hgrow) (by first | exact hown1 | simpa using hown1) (by exact hat))
      clear hown1 hgrow hat hlt1
      go_wp2
      go_roundw
      case rel=>exact⟨k+1,_,by omega,by go_num,by simp;omega,HF,by simpa using GC.out.own,GC.out.bel,GC.out.box⟩
      case measure=>simp[intOf];omega
     ·have HF:Hid (acc++[P.zKk st]++[{ st with order:=1 }]=P.zKo pr (l.take (k+1))):=by
       unfold Hid;rw[HS.out,← HR.out];simp[P.zKN,ha,hp,hrl,hac2]
      go_wp2_with (first
       | (refine zAi (.tmp 14) rfl rfl b (k*11) st rfl hr.out ?_)
       | (go_at_call 79;refine (zBE _ _).mono ?_;rintro e w' ⟨rfl,rfl⟩;rw[ha])
       | (go_at_call 80;refine (HC.out _ _ (HBL.out.alloc (by omega) _)).mono ?_;rintro e w3 ⟨rfl,hb3⟩;rw[hp];have GS:=(zAw.new wr st).below hb3;obtain⟨f1,f2,s0,s1,s2,s3,s4,s5,s6,s7,s8,s9,s10⟩:=GS.facts;have GF:FI w (w3.alloc (.cells (zAb (P.zKk st)) 96)) u5 acc st (P.zKk st) wr.heap.size w3.heap.size #[.slice (some ⟨bt,0,none⟩) n cap]:=(FI.start HBL.out HOW.out hbox hb3);rw[show zAb (P.zKk st)=#[.int .i64 4,.int .i64 st.line,.int .i64 0,.int .i64 0,.bool false,.int .i64 0,.bool false,.int .i64 0,.int .i64 4,.int .i64 st.scope,.int .i64 0] from rfl] at GF;have GF:=zAa GF;clear GS)
       | (go_at_call 81;generalize w3.alloc (.cells #[.int .i64 4,.int .i64 st.line,.int .i64 0,.int .i64 0,.bool false,.int .i64 0,.bool false,.int .i64 0,.int .i64 4,.int .i64 st.scope,.int .i64 0] 96)=W at *;clear f1 f2 s0 s1 s2 s3 s4 s5 s6 s7 s8 s9 s10;obtain⟨f1,f2,s0,s1,s2,s3,s4,s5,s6,s7,s8,s9,s10⟩:=GF.out.s.facts;refine (zDL _ _).mono ?_;rintro e w' ⟨rfl,hww⟩;have hww:=hww.symm;subst hww;rw[hrl])
       | (refine zAp (.tmp 9) rfl rfl w3.heap.size (P.zKk st) rfl (by exact GF.out.f) ?_;simp only[zAb,P.zKk,P.Opd.zero])
       | (at_builtin;refine wpList_append_lies _ rfl (.tmp 40) (.tmp 42) 86 rfl w.heap.size 96 i0 (.agg (zAb P.Stm.zero)) 11 88 Tryz.underlying86 hi hz0 hz1 hz2 rfl (by decide) _ _ _ rfl (GF.out.own.alloc _) ⟨W.heap.size,0,none⟩ 1 1 (zAb (P.zKk st)).toList rfl rfl ?c1 ?c2 (by decide) ?c3 ?c4 ?c5 _ rfl ?_))
      case c1=>exact World.news_of_block (t:=96) (fr:=(0,0)) (heap_alloc_new W _)
      case c2=>simp[zAb,P.zKk,P.Opd.zero,Value.oneCell']
      case c3=>unfold maxLen;first | omega | (simp;omega)
      case c4=>first | omega | (simp;omega)
      case c5=>have:=GF.out.bel.size;simp;omega
      intro gwA capwA wA hown1 hgrow hat hlt1
      have GA:=zAa (FI.app GF.out (P.zKk st) acc.length (by first | rfl | simp) (by exact hgrow) (by first | exact hown1 | simpa using hown1) (by exact hat))
      clear hown1 hgrow hat hlt1
      clear f1 f2 s0 s1 s2 s3 s4 s5 s6 s7 s8 s9 s10
      obtain⟨f1,f2,s0,s1,s2,s3,s4,s5,s6,s7,s8,s9,s10⟩:=GA.out.s.facts
      have G2:=zAa GA.out.setO
      go_wp2_with (first
       | (generalize wA.setCell ⟨wr.heap.size,8,none⟩ (.int .i64 1)=W2 at *;refine zAp (.tmp 7) rfl rfl wr.heap.size { st with order:=1 } rfl (by exact G2.out.s) ?_;simp only[zAb])
       | (at_builtin;refine wpList_append_lies _ rfl (.tmp 45) (.tmp 47) 86 rfl w.heap.size 96 i0 (.agg (zAb P.Stm.zero)) 11 88 Tryz.underlying86 hi hz0 hz1 hz2 rfl (by decide) _ _ _ rfl (G2.out.own.alloc _) ⟨W2.heap.size,0,none⟩ 1 1 (zAb { st with order:=1 }).toList rfl rfl ?c1 ?c2 (by decide) ?c3 ?c4 ?c5 _ rfl ?_))
      case c1=>exact World.news_of_block (t:=96) (fr:=(0,0)) (heap_alloc_new W2 _)
      case c2=>simp[zAb,P.zKk,P.Opd.zero,Value.oneCell']
      case c3=>unfold maxLen;first | omega | (simp;omega)
      case c4=>first | omega | (simp;omega)
      case c5=>have:=G2.out.bel.size;simp;omega
      intro gwB capwB wB hown1 hgrow hat hlt1
      have GB:=zAa (FI.app G2.out { st with order:=1 } (acc.length+1) (by first | rfl | simp) (by exact hgrow) (by first | exact hown1 | simpa using hown1) (by exact hat))
      clear hown1 hgrow hat hlt1
      go_wp2_with (first | (go_at_call 82;refine (zDK _ _).mono ?_;rintro e w' ⟨rfl,hww⟩;have hww:=hww.symm;subst hww;rw[hac2]))
      go_roundw
      case rel=>exact⟨k+1,_,by omega,by go_num,by simp;omega,HF,by simpa using GB.out.own,GB.out.bel,GB.out.box⟩
      case measure=>simp[intOf];omega
     ·have HF:Hid (acc++[P.zKk st]++[{ st with order:=1 }]++[P.zKk st]=P.zKo pr (l.take (k+1))):=by
       unfold Hid;rw[HS.out,← HR.out];simp[P.zKN,ha,hp,hrl,hac2]
      go_wp2_with (first
       | (refine zAi (.tmp 14) rfl rfl b (k*11) st rfl hr.out ?_)
       | (go_at_call 79;refine (zBE _ _).mono ?_;rintro e w' ⟨rfl,rfl⟩;rw[ha])
       | (go_at_call 80;refine (HC.out _ _ (HBL.out.alloc (by omega) _)).mono ?_;rintro e w3 ⟨rfl,hb3⟩;rw[hp];have GS:=(zAw.new wr st).below hb3;obtain⟨f1,f2,s0,s1,s2,s3,s4,s5,s6,s7,s8,s9,s10⟩:=GS.facts;have GF:FI w (w3.alloc (.cells (zAb (P.zKk st)) 96)) u5 acc st (P.zKk st) wr.heap.size w3.heap.size #[.slice (some ⟨bt,0,none⟩) n cap]:=(FI.start HBL.out HOW.out hbox hb3);rw[show zAb (P.zKk st)=#[.int .i64 4,.int .i64 st.line,.int .i64 0,.int .i64 0,.bool false,.int .i64 0,.bool false,.int .i64 0,.int .i64 4,.int .i64 st.scope,.int .i64 0] from rfl] at GF;have GF:=zAa GF;clear GS)
       | (go_at_call 81;generalize w3.alloc (.cells #[.int .i64 4,.int .i64 st.line,.int .i64 0,.int .i64 0,.bool false,.int .i64 0,.bool false,.int .i64 0,.int .i64 4,.int .i64 st.scope,.int .i64 0] 96)=W at *;clear f1 f2 s0 s1 s2 s3 s4 s5 s6 s7 s8 s9 s10;obtain⟨f1,f2,s0,s1,s2,s3,s4,s5,s6,s7,s8,s9,s10⟩:=GF.out.s.facts;refine (zDL _ _).mono ?_;rintro e w' ⟨rfl,hww⟩;have hww:=hww.symm;subst hww;rw[hrl])
       | (refine zAp (.tmp 9) rfl rfl w3.heap.size (P.zKk st) rfl (by exact GF.out.f) ?_;simp only[zAb,P.zKk,P.Opd.zero])
       | (at_builtin;refine wpList_append_lies _ rfl (.tmp 40) (.tmp 42) 86 rfl w.heap.size 96 i0 (.agg (zAb P.Stm.zero)) 11 88 Tryz.underlying86 hi hz0 hz1 hz2 rfl (by decide) _ _ _ rfl (GF.out.own.alloc _) ⟨W.heap.size,0,none⟩ 1 1 (zAb (P.zKk st)).toList rfl rfl ?c1 ?c2 (by decide) ?c3 ?c4 ?c5 _ rfl ?_))
      case c1=>exact World.news_of_block (t:=96) (fr:=(0,0)) (heap_alloc_new W _)
      case c2=>simp[zAb,P.zKk,P.Opd.zero,Value.oneCell']
      case c3=>unfold maxLen;first | omega | (simp;omega)
      case c4=>first | omega | (simp;omega)
      case c5=>have:=GF.out.bel.size;simp;omega
      intro gwA capwA wA hown1 hgrow hat hlt1
      have GA:=zAa (FI.app GF.out (P.zKk st) acc.length (by first | rfl | simp) (by exact hgrow) (by first | exact hown1 | simpa using hown1) (by exact hat))
      clear hown1 hgrow hat hlt1
      clear f1 f2 s0 s1 s2 s3 s4 s5 s6 s7 s8 s9 s10
      obtain⟨f1,f2,s0,s1,s2,s3,s4,s5,s6,s7,s8,s9,s10⟩:=GA.out.s.facts
      have G2:=zAa GA.out.setO
      go_wp2_with (first
       | (generalize wA.setCell ⟨wr.heap.size,8,none⟩ (.int .i64 1)=W2 at *;refine zAp (.tmp 7) rfl rfl wr.heap.size { st with order:=1 } rfl (by exact G2.out.s) ?_;simp only[zAb])
       | (at_builtin;refine wpList_append_lies _ rfl (.tmp 45) (.tmp 47) 86 rfl w.heap.size 96 i0 (.agg (zAb P.Stm.zero)) 11 88 Tryz.underlying86 hi hz0 hz1 hz2 rfl (by decide) _ _ _ rfl (G2.out.own.alloc _) ⟨W2.heap.size,0,none⟩ 1 1 (zAb { st with order:=1 }).toList rfl rfl ?c1 ?c2 (by decide) ?c3 ?c4 ?c5 _ rfl ?_))
      case c1=>exact World.news_of_block (t:=96) (fr:=(0,0)) (heap_alloc_new W2 _)
      case c2=>simp[zAb,P.zKk,P.Opd.zero,Value.oneCell']
      case c3=>unfold maxLen;first | omega | (simp;omega)
      case c4=>first | omega | (simp;omega)
      case c5=>have:=G2.out.bel.size;simp;omega
      intro gwB capwB wB hown1 hgrow hat hlt1
      have GB:=zAa (FI.app G2.out { st with order:=1 } (acc.length+1) (by first | rfl | simp) (by exact hgrow) (by first | exact hown1 | simpa using hown1) (by exact hat))
      clear hown1 hgrow hat hlt1
      go_wp2_with (first
       | (go_at_call 82;refine (zDK _ _).mono ?_;rintro e w' ⟨rfl,hww⟩;have hww:=hww.symm;subst hww;rw[hac2])
       | (refine zAp (.tmp 9) rfl rfl w3.heap.size (P.zKk st) rfl (by exact GB.out.f) ?_;simp only[zAb,P.zKk,P.Opd.zero])
       | (at_builtin;refine wpList_append_lies _ rfl (.tmp 51) (.tmp 53) 86 rfl w.heap.size 96 i0 (.agg (zAb P.Stm.zero)) 11 88 Tryz.underlying86 hi hz0 hz1 hz2 rfl (by decide) _ _ _ rfl (GB.out.own.alloc _) ⟨wB.heap.size,0,none⟩ 1 1 (zAb (P.zKk st)).toList rfl rfl ?c1 ?c2 (by decide) ?c3 ?c4 ?c5 _ rfl ?_))
      case c1=>exact World.news_of_block (t:=96) (fr:=(0,0)) (heap_alloc_new wB _)
      case c2=>simp[zAb,P.zKk,P.Opd.zero,Value.oneCell']
      case c3=>unfold maxLen;first | omega | (simp;omega)
      case c4=>first | omega | (simp;omega)
      case c5=>have:=GB.out.bel.size;simp;omega
      intro gwC capwC wC hown1 hgrow hat hlt1
      have GC:=zAa (FI.app GB.out (P.zKk st) (acc.length+2) (by first | rfl | simp) (by exact hgrow) (by first | exact hown1 | simpa using hown1) (by exact hat))
      clear hown1 hgrow hat hlt1
      go_wp2
      go_roundw
      case rel=>exact⟨k+1,_,by omega,by go_num,by simp;omega,HF,by simpa using GC.out.own,GC.out.bel,GC.out.box⟩
      case measure=>simp[intOf];omega
  ·have HE:Hid (P.zKo pr l=acc):=by
    unfold Hid
    rw[HR.out,List.take_of_length_le (by have:=HN.out;omega)]
   go_wp2
   go_ret
   exact⟨_,rfl,by rw[HE.out];exact hrow,hbel⟩
end Go.Proofs.YtgceflcbckjjiaaGreatDoor
