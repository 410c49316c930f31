import Derived.Test.YtkmebkbpfmoeaaaGreatH23
set_option linter.unusedVariables false
set_option linter.unusedSimpArgs false
set_option maxHeartbeats 12800000
namespace Go.Proofs.YtkmebkbpfmoeaaaGreat
open Go Go.RowKit
set_option maxRecDepth 100000
structure WM (w:World) (B g:Nat) (wd:Q.Wd) (ev rg:Value):Prop where
 box:w.heap[g]?=some (.cells #[ev,rg] 61 (0,0))
 evs:w.ownsRow B 129 10 ev wd.events.length (zAL wd.events)
 rgs:w.ownsRow B 3 1 rg wd.regs.length (wd.regs.map (Value.int .i64))
 ge:B≤g
theorem WM.lt {w:World} {B g:Nat} {wd:Q.Wd} {ev rg:Value} (h:WM w B g wd ev rg):g<w.heap.size:=(Array.getElem?_eq_some_iff.1 h.box).1
theorem WM.below {w w':World} {B g:Nat} {wd:Q.Wd} {ev rg:Value} (h:WM w B g wd ev rg) (hb:Below w.heap.size w w'):WM w' B g wd ev rg :=
 ⟨(hb.block g h.lt).trans h.box,zAc h.evs (fun k e=>hb.block k (h.evs.lt k e).2),zAc h.rgs (fun k e=>hb.block k (h.rgs.lt k e).2),h.ge⟩
theorem WM.facts {w:World} {B g:Nat} {wd:Q.Wd} {ev rg:Value} (h:WM w B g wd ev rg):w.cell? ⟨g,0,none⟩=some ev∧w.cell? ⟨g,1,none⟩=some rg∧(∀ j,w.frozen? ⟨g,j,none⟩=false):=by
 refine⟨?_,?_,fun j=>?_⟩<;>simp[World.cell?,World.frozen?,h.box]
theorem zAr {w:World} {B g n sz:Nat} {t t':TypeId} {v:Value} {xs:List Value} {c:Array Value} (h:w.ownsRow B t sz v n xs) (hg:w.heap[g]?=some (.cells c t' (0,0))) (ht:t≠t'):v.ownBlock≠some g:=fun e=>by
 rcases h.2 with ⟨e1,_⟩ | ⟨g',cap,cur,e1,_,hh,_⟩
 ·rw[e1] at e;simp[Value.ownBlock] at e
 ·rw[e1] at e;simp[Value.ownBlock] at e
  subst e
  rw[hg] at hh;simp at hh;exact ht hh.2.symm
theorem WM.form {w:World} {B g:Nat} {wd:Q.Wd} {ev rg:Value} (h:WM w B g wd ev rg):(∃ a c,ev=.slice a wd.events.length c)∧∃ a c,rg=.slice a wd.regs.length c:=by
 constructor
 ·rcases h.evs.2 with ⟨e,h0⟩ | ⟨k,c,cur,e,_⟩
  ·exact⟨none,0,by rw[e,h0]⟩
  ·exact⟨_,c,e⟩
 ·rcases h.rgs.2 with ⟨e,h0⟩ | ⟨k,c,cur,e,_⟩
  ·exact⟨none,0,by rw[e,h0]⟩
  ·exact⟨_,c,e⟩
theorem WM.addEv {w w1:World} {B g gn cn:Nat} {wd:Q.Wd} {ev rg:Value} {e:Q.Ev} (h:WM w B g wd ev rg) (hown:w1.ownsRow B 129 10 (.slice (some ⟨gn,0,none⟩) (wd.events.length+1) cn) (wd.events.length+1) (zAL wd.events++(zAb e).toList)) (hg:w.grownBy w1 ev.ownBlock) :
  WM (w1.setCell ⟨g,0,none⟩ (.slice (some ⟨gn,0,none⟩) (wd.events.length+1) cn)) B g ⟨wd.events++[e],wd.regs⟩ (.slice (some ⟨gn,0,none⟩) (wd.events.length+1) cn) rg:=by
 have hne:=zAr h.evs h.box (by decide)
 have hb1:w1.heap[g]?=some (.cells #[ev,rg] 61 (0,0)):=(hg.block g h.lt (fun e=>hne e.symm)).trans h.box
 have hR:=zBx h.rgs h.evs (by decide) hg
 refine⟨by rw[zAf hb1];rfl,?_,zAc hR.1 (fun k e=>Below.heap_setCell _ _ _ _ (fun e2=>zAr hR.1 hb1 (by decide) (by rw[e,e2]))),h.ge⟩
 have e2:zAL (wd.events++[e])=zAL wd.events++(zAb e).toList:=by rw[zCB,zDM]
 simp only[List.length_append,List.length_singleton]
 rw[e2]
 exact zAc hown (fun k e=>Below.heap_setCell _ _ _ _ (fun e2=>zAr hown hb1 (by decide) (by rw[e,e2])))
theorem WM.addRg {w w1:World} {B g gn cn:Nat} {wd:Q.Wd} {ev rg:Value} {x:Int} (h:WM w B g wd ev rg) (hown:w1.ownsRow B 3 1 (.slice (some ⟨gn,0,none⟩) (wd.regs.length+1) cn) (wd.regs.length+1) (wd.regs.map (Value.int .i64)++[.int .i64 x])) (hg:w.grownBy w1 rg.ownBlock) :
  WM (w1.setCell ⟨g,1,none⟩ (.slice (some ⟨gn,0,none⟩) (wd.regs.length+1) cn)) B g ⟨wd.events,wd.regs++[x]⟩ ev (.slice (some ⟨gn,0,none⟩) (wd.regs.length+1) cn):=by
 have hne:=zAr h.rgs h.box (by decide)
 have hb1:w1.heap[g]?=some (.cells #[ev,rg] 61 (0,0)):=(hg.block g h.lt (fun e=>hne e.symm)).trans h.box
 have hR:=zBx h.evs h.rgs (by decide) hg
 refine⟨by rw[zAf hb1];rfl,zAc hR.1 (fun k e=>Below.heap_setCell _ _ _ _ (fun e2=>zAr hR.1 hb1 (by decide) (by rw[e,e2]))),?_,h.ge⟩
 simp only[List.length_append,List.length_singleton,List.map_append,List.map_cons,List.map_nil]
 exact zAc hown (fun k e=>Below.heap_setCell _ _ _ _ (fun e2=>zAr hown hb1 (by decide) (by rw[e,e2])))
theorem WM.bel {w w1:World} {B g j:Nat} {v u:Value} {t:TypeId} {sz n:Nat} {xs:List Value} (ho:w.ownsRow B t sz v n xs) (hB:B≤g) (hBw:B≤w.heap.size) (hg:w.grownBy w1 v.ownBlock):Below B w (w1.setCell ⟨g,j,none⟩ u) :=
 Below.setCell (p:=⟨g,j,none⟩) ⟨hg.os,hg.tape,hg.output,hg.size,fun k hk=>hg.block k (by omega) (fun e=>by have:=(ho.lt k e.symm).1;omega)⟩ hB _
theorem zFd (a b c d:Int) (W:World):(Instr.index 144 (.agg #[.int .i64 a,.int .i64 b,.int .i64 c,.int .i64 d]) (.int .i64 0)).run Tryz.prog W=.ok (.int .i64 a) W:=by kernel_rfl
theorem zFe (a b c d:Int) (W:World):(Instr.index 144 (.agg #[.int .i64 a,.int .i64 b,.int .i64 c,.int .i64 d]) (.int .i64 1)).run Tryz.prog W=.ok (.int .i64 b) W:=by kernel_rfl
theorem zFf (a b c d:Int) (W:World):(Instr.index 144 (.agg #[.int .i64 a,.int .i64 b,.int .i64 c,.int .i64 d]) (.int .i64 2)).run Tryz.prog W=.ok (.int .i64 c) W:=by kernel_rfl
theorem zFg (a b c d:Int) (W:World):(Instr.index 144 (.agg #[.int .i64 a,.int .i64 b,.int .i64 c,.int .i64 d]) (.int .i64 3)).run Tryz.prog W=.ok (.int .i64 d) W:=by kernel_rfl
theorem zHh (B g:Nat) (wd:Q.Wd) (ev rg evv:Value) (r:Q.Run) (w:World) (h:WM w B g wd ev rg) (hr:zAW w evv r.events) (hrb:∀ k,evv.ownBlock=some k→k<B) (hB:B≤w.heap.size) (hl:r.regs.length=4) (hn:wd.events.length+r.events.length≤64) (hrl:wd.regs.length<100) (hok:∀ e∈r.events,e.hangs<Q.M64) :
  Calls Tryz.prog 104 #[.pointer (some ⟨g,0,none⟩),.agg #[evv,.int .i64 (r.regs.getD 0 0),.int .i64 (r.regs.getD 1 0),.int .i64 (r.regs.getD 2 0),.int .i64 (r.regs.getD 3 0)]] w fun x w'=>x=.returned (.tuple #[])∧(∃ ev' rg',WM w' B g (wd.join r) ev' rg')∧Below B w w':=by
 obtain⟨i0,hi0,hz0,hz1,hz2⟩:=info_parts Tryz.infoIntM
 obtain⟨j0,hj0,hy0,hy1,hy2⟩:=info_parts Tryz.infoEvM
 obtain⟨va,vc,rfl,hva⟩:=hr.form
 obtain⟨r0,r1,r2,r3,hrr⟩:∃ a b c d,r.regs=[a,b,c,d]:=by
  match hq:r.regs,hl with
  | [a,b,c,d],_=>exact⟨a,b,c,d,rfl⟩
 rw[hrr]
 simp only[List.getD_cons_zero,List.getD_cons_succ]
 have HJ:Hid (wd.join r=⟨wd.events++r.events.map (Q.zJh wd.events.length),wd.regs++[r0,r1,r2,r3]⟩):=by unfold Hid Q.Wd.join;rw[hrr]
 obtain⟨k0,hsz,hbw⟩:=zBt w #[.slice va r.events.length vc,.int .i64 r0,.int .i64 r1,.int .i64 r2,.int .i64 r3] 150
 have HM0:=zAa (h.below hbw)
 have HR0:=zAa hr
 have HOK:=zAa hok
 have BW0:=zAa hbw
 have hgw:=h.lt
 clear h hbw hr hok
 go_enter Tryz.func104,Tryz.ntmps104
 go_upto_region 1 with fail
 generalize hE:w.alloc (.cells #[.slice va r.events.length vc,.int .i64 r0,.int .i64 r1,.int .i64 r2,.int .i64 r3] 150)=W0 at *
 have K0:=zAa k0
 have hszl:w.heap.size+1≤W0.heap.size:=by omega
 have c0:=ceL k0 0 _ rfl
 have l0:w.heap.size<W0.heap.size:=by omega
 obtain⟨⟨ea,ec,hev⟩,⟨ra,rc,hrg⟩⟩:=HM0.out.form
 obtain⟨m0,m1,mf⟩:=HM0.out.facts
 have hg0:=HM0.out.lt
 subst hev hrg
 clear hE k0 hsz
 go_wp2
 go_loopw [17] (fun j wr=>∃ (k:Nat) (evk:Value),k≤r.events.length∧j=.int .i64 k∧Hid (WM wr B g ⟨wd.events++(r.events.take k).map (Q.zJh wd.events.length),wd.regs⟩ evk (.slice ra wd.regs.length rc))∧Hid (wr.heap[w.heap.size]?=some (.cells #[.slice va r.events.length vc,.int .i64 r0,.int .i64 r1,.int .i64 r2,.int .i64 r3] 150 (0,0)))∧Hid (Below B w wr)) (fun j _=>r.events.length-(intOf j).toNat)
 case atStart=>exact⟨0,_,Nat.zero_le _,rfl,by simpa [Hid] using HM0.out,K0,BW0.out.mono hB⟩
 case round =>
  obtain⟨k,evk,hk,rfl,HM,HK,HB⟩:=hrel
  by_cases hlt:k<r.events.length
  ·have hin:(k:Int)<(r.events.length:Int):=by omega
   obtain⟨be,rfl,hbe⟩:=hva (by omega)
   have hbB:=hrb be rfl
   have HR1:Hid (wr.rangeAt be (k*10) (zAb (Q.ev r.events k)).toList):=zAz (HR0.out.range' rfl k hlt) (HB.out.block be hbB)
   have lbe:be<wr.heap.size:=by have:=HB.out.size;omega
   have hh:(Q.ev r.events k).hangs<Q.M64:=by rw[zDO r.events k hlt];exact HOK.out _ (List.getElem_mem hlt)
   have HTS:Hid ((r.events.take (k+1)).map (Q.zJh wd.events.length)=(r.events.take k).map (Q.zJh wd.events.length)++[Q.zJh wd.events.length (Q.ev r.events k)]):=by
    unfold Hid;rw[List.take_succ_eq_append_getElem hlt,List.map_append,zDO r.events k hlt];rfl
   have HJE:Hid (Q.zJh wd.events.length (Q.ev r.events k)={ Q.ev r.events k with hangs:=Q.moved (Q.ev r.events k).hangs (wd.events.length:Int) }):=rfl
   generalize Q.ev r.events k=e1 at *
   generalize hmv:Q.moved e1.hangs (wd.events.length:Int)=mv at *
   have HMV:=zAa hmv
   clear hmv
   go_upto_region 6 with (first | (refine zAg (.tmp 19) rfl rfl be (k*10) e1 rfl HR1.out ?_) | (go_at_call 122;refine (zGl e1.hangs (wd.events.length:Int) _ hh).mono ?_;rintro e w' ⟨rfl,hw'⟩;have hw':=hw'.symm;subst hw';rw[HMV.out]))
   have E1:Hid (zAQ (wr.alloc (.cells #[.int .i64 e1.kind,.int .i64 e1.thread,.int .i64 e1.block,.int .i64 e1.var,.int .i64 e1.value,.int .i64 e1.order,.int .i64 e1.scope,.int .i64 e1.bars,.bool e1.step,.int .u64 (mv:Nat)] 129)) wr.heap.size { e1 with hangs:=mv }):=heap_alloc_new wr _
   have BX:Below wr.heap.size wr (wr.alloc (.cells #[.int .i64 e1.kind,.int .i64 e1.thread,.int .i64 e1.block,.int .i64 e1.var,.int .i64 e1.value,.int .i64 e1.order,.int .i64 e1.scope,.int .i64 e1.bars,.bool e1.step,.int .u64 (mv:Nat)] 129)):=(Below.refl _ _).alloc (Nat.le_refl _) _
   have HM1:=zAa (HM.out.below BX)
   have HK1:=zAa ((BX.block _ (Array.getElem?_eq_some_iff.1 HK.out).1).trans HK.out)
   have hBwr:B≤wr.heap.size:=by have:=HB.out.size;omega
   have HB1:Hid (Below B w (wr.alloc (.cells #[.int .i64 e1.kind,.int .i64 e1.thread,.int .i64 e1.block,.int .i64 e1.var,.int .i64 e1.value,.int .i64 e1.order,.int .i64 e1.scope,.int .i64 e1.bars,.bool e1.step,.int .u64 (mv:Nat)] 129))):=HB.out.trans (BX.mono hBwr)
   have hwl:wr.heap.size+1≤(wr.alloc (.cells #[.int .i64 e1.kind,.int .i64 e1.thread,.int .i64 e1.block,.int .i64 e1.var,.int .i64 e1.value,.int .i64 e1.order,.int .i64 e1.scope,.int .i64 e1.bars,.bool e1.step,.int .u64 (mv:Nat)] 129)).heap.size:=by simp
   obtain⟨x0,x1,x2,x3,x4,x5,x6,x7,x8,x9,xf,xl⟩:=zAM (heap_alloc_new wr (.cells #[.int .i64 e1.kind,.int .i64 e1.thread,.int .i64 e1.block,.int .i64 e1.var,.int .i64 e1.value,.int .i64 e1.order,.int .i64 e1.scope,.int .i64 e1.bars,.bool e1.step,.int .u64 (mv:Nat)] 129))
   generalize hW1:wr.alloc (.cells #[.int .i64 e1.kind,.int .i64 e1.thread,.int .i64 e1.block,.int .i64 e1.var,.int .i64 e1.value,.int .i64 e1.order,.int .i64 e1.scope,.int .i64 e1.bars,.bool e1.step,.int .u64 (mv:Nat)] 129)=W1 at *
   generalize hb1:wr.heap.size=b1 at *
   clear hW1 BX
   have hlen:(wd.events++(r.events.take k).map (Q.zJh wd.events.length)).length=wd.events.length+k:=by simp;omega
   obtain⟨⟨ka,kc,hevk⟩,_⟩:=HM1.out.form
   simp only at hevk
   have HMo:=HM1.out.evs
   simp only at HMo
   generalize hES:wd.events++(r.events.take k).map (Q.zJh wd.events.length)=ES at *
   subst hevk
   obtain⟨c0',c1',cf'⟩:=HM1.out.facts
   have hg:=HM1.out.lt
   have hge:=HM1.out.ge
   have hne:=zAr HMo HM1.out.box (by decide)
   have HO:Hid ((W1.drew.alloc (.cells #[.int .i64 e1.kind,.int .i64 e1.thread,.int .i64 e1.block,.int .i64 e1.var,.int .i64 e1.value,.int .i64 e1.order,.int .i64 e1.scope,.int .i64 e1.bars,.bool e1.step,.int .u64 (mv:Nat)] 129)).ownsRow B 129 10 (.slice ka ES.length kc) ES.length (zAL ES)):=zAc HMo (fun k hk=>Below.heap_alloc _ _ _ (HMo.lt k hk).2)
   have HN:Hid (∀ j u,([.int .i64 e1.kind,.int .i64 e1.thread,.int .i64 e1.block,.int .i64 e1.var,.int .i64 e1.value,.int .i64 e1.order,.int .i64 e1.scope,.int .i64 e1.bars,.bool e1.step,.int .u64 (mv:Nat)]:List Value)[j]?=some u→(W1.drew.alloc (.cells #[.int .i64 e1.kind,.int .i64 e1.thread,.int .i64 e1.block,.int .i64 e1.var,.int .i64 e1.value,.int .i64 e1.order,.int .i64 e1.scope,.int .i64 e1.bars,.bool e1.step,.int .u64 (mv:Nat)] 129)).cell? ((⟨W1.heap.size,0,none⟩:Addr).add j)=some u) :=
    World.news_of_block (cs:=#[.int .i64 e1.kind,.int .i64 e1.thread,.int .i64 e1.block,.int .i64 e1.var,.int .i64 e1.value,.int .i64 e1.order,.int .i64 e1.scope,.int .i64 e1.bars,.bool e1.step,.int .u64 (mv:Nat)]) (t:=129) (fr:=(0,0)) (heap_alloc_new W1.drew _)
   have HC:Hid ((W1.drew.alloc (.cells #[.int .i64 e1.kind,.int .i64 e1.thread,.int .i64 e1.block,.int .i64 e1.var,.int .i64 e1.value,.int .i64 e1.order,.int .i64 e1.scope,.int .i64 e1.bars,.bool e1.step,.int .u64 (mv:Nat)] 129)).cell? ⟨g,0,none⟩=some (.slice ka ES.length kc)):=(zAx (w:=W1.drew) hg).trans c0'
   have HFZ:Hid ((W1.drew.alloc (.cells #[.int .i64 e1.kind,.int .i64 e1.thread,.int .i64 e1.block,.int .i64 e1.var,.int .i64 e1.value,.int .i64 e1.order,.int .i64 e1.scope,.int .i64 e1.bars,.bool e1.step,.int .u64 (mv:Nat)] 129)).frozen? ⟨g,0,none⟩=false):=by
    unfold Hid;rw[World.frozen?_of_block (w:=W1.drew) (a:=⟨g,0,none⟩) (Below.heap_alloc _ _ _ hg)];exact cf' 0
   have hBW1:B≤W1.heap.size:=by omega
   have hES64:ES.length≤64:=by omega
   clear hlen
   go_region_law (refine step_append_lies _ rfl (.tmp 30) (.tmp 32) 59 rfl B 129 j0 (.agg (zAb Q.Ev.zero)) 10 80 Tryz.underlying59 hj0 hy0 hy1 hy2 rfl (by decide) (.slice ka ES.length kc) ES.length (zAL ES) (by simp[Act.eval]) (by exact HO.out) ⟨W1.heap.size,0,none⟩ 1 1 [.int .i64 e1.kind,.int .i64 e1.thread,.int .i64 e1.block,.int .i64 e1.var,.int .i64 e1.value,.int .i64 e1.order,.int .i64 e1.scope,.int .i64 e1.bars,.bool e1.step,.int .u64 (mv:Nat)] (by simp[Act.eval]) rfl (by exact HN.out) (by simp[Value.oneCell']) (by decide) (by unfold maxLen;omega) (by omega) (by simp;omega) (W1.heap.size+1) (by simp) ?_;intro gn cn w1 hown1 hgrow hat hlt1;have c1:=(hgrow.cell_far ⟨g,0,none⟩ (by simp;omega) (fun e=>hne e.symm)).trans HC.out;have f1:=(hgrow.frozen_far ⟨g,0,none⟩ (by simp;omega) (fun e=>hne e.symm)).trans HFZ.out;have hgw1:g<w1.heap.size:=by have:=hgrow.size;simp at this;omega)
   all_goals
    have BD:Below W1.heap.size W1 (W1.drew.alloc (.cells #[.int .i64 e1.kind,.int .i64 e1.thread,.int .i64 e1.block,.int .i64 e1.var,.int .i64 e1.value,.int .i64 e1.order,.int .i64 e1.scope,.int .i64 e1.bars,.bool e1.step,.int .u64 (mv:Nat)] 129)):=((Below.refl _ _).drew).alloc (by simp) _
    have Q1:=zAa (WM.addEv (e:={ e1 with hangs:=mv }) (HM1.out.below BD) hown1 hgrow)
    have Q2:Hid (Below B w (w1.setCell ⟨g,0,none⟩ (.slice (some ⟨gn,0,none⟩) (ES.length+1) cn))):=(HB1.out.trans (BD.mono hBW1)).trans (WM.bel HO.out hge (by simp;omega) hgrow)
    have Q3:Hid ((w1.setCell ⟨g,0,none⟩ (.slice (some ⟨gn,0,none⟩) (ES.length+1) cn)).heap[w.heap.size]?=some (.cells #[.slice (some ⟨be,0,none⟩) r.events.length vc,.int .i64 r0,.int .i64 r1,.int .i64 r2,.int .i64 r3] 150 (0,0))):=by
     have h1:=(BD.block _ (Array.getElem?_eq_some_iff.1 HK1.out).1).trans HK1.out
     have h2:=zAr HO.out h1 (by decide)
     unfold Hid
     rw[Below.heap_setCell _ _ _ _ (by simp;omega),hgrow.block _ (Array.getElem?_eq_some_iff.1 h1).1 (fun e=>h2 e.symm)];exact h1
    clear hown1 hgrow BD
    (try go_wp2)
    go_roundw
    case rel =>
     refine⟨k+1,.slice (some ⟨gn,0,none⟩) (ES.length+1) cn,by omega,by go_num,?_,Q3,Q2⟩
     have h1:=Q1.out
     unfold Hid
     rw[HTS.out,HJE.out,← List.append_assoc,hES]
     exact h1
    case measure=>simp[intOf];omega
  ·have hkn:k=r.events.length:=by omega
   have HM2:Hid (WM wr B g ⟨wd.events++r.events.map (Q.zJh wd.events.length),wd.regs⟩ evk (.slice ra wd.regs.length rc)):=by
    have h1:=HM.out
    rw[hkn,List.take_length] at h1
    exact h1
   obtain⟨⟨ka,kc,hevk⟩,_⟩:=HM2.out.form
   simp only at hevk
   generalize hES:wd.events++r.events.map (Q.zJh wd.events.length)=ES at *
   have b1:wr.cell? ⟨w.heap.size,1,none⟩=some (.int .i64 r0):=by simp[World.cell?,HK.out]
   have b2:wr.cell? ⟨w.heap.size,2,none⟩=some (.int .i64 r1):=by simp[World.cell?,HK.out]
   have b3:wr.cell? ⟨w.heap.size,3,none⟩=some (.int .i64 r2):=by simp[World.cell?,HK.out]
   have b4:wr.cell? ⟨w.heap.size,4,none⟩=some (.int .i64 r3):=by simp[World.cell?,HK.out]
   have lb:=(Array.getElem?_eq_some_iff.1 HK.out).1
   clear HM hES hkn
   go_wp2
   clear b1 b2 b3 b4 lb hlt hk
   go_loopw [39] (fun j wq=>∃ (q:Nat) (ev2 rg2:Value),q≤4∧j=.int .i64 q∧Hid (WM wq B g ⟨ES,wd.regs++[r0,r1,r2,r3].take q⟩ ev2 rg2)∧Hid (Below B w wq)) (fun j _=>4-(intOf j).toNat)
   case atStart=>exact⟨0,_,_,by omega,rfl,by simpa [Hid] using HM2.out,HB⟩
   case round =>
    clear HM2 HB HK
    obtain⟨q,ev2,rg2,hq,rfl,HM,HB⟩:=hrel
    have hcs:q=0∨q=1∨q=2∨q=3∨q=4:=by omega
    have hBwr:B≤wr.heap.size:=by have:=HB.out.size;omega
    have hge:=HM.out.ge
    have hg:=HM.out.lt
    obtain⟨c0',c1',cf'⟩:=HM.out.facts
    have hne:=zAr HM.out.rgs HM.out.box (by decide)
    have HMo:=HM.out.rgs
    obtain⟨_,qa,qc,hrg2⟩:=HM.out.form
    have hx0:=zFd r0 r1 r2 r3
    have hx1:=zFe r0 r1 r2 r3
    have hx2:=zFf r0 r1 r2 r3
    have hx3:=zFg r0 r1 r2 r3
    rcases hcs with rfl | rfl | rfl | rfl | rfl
    all_goals
     simp only[List.take_succ_cons,List.take_zero,List.append_nil,List.length_append,List.length_cons,List.length_nil,Nat.zero_add,Nat.reduceAdd,Nat.add_zero] at hrg2 HMo
     subst hrg2
    ·have HO:Hid ((wr.alloc (.cells #[.int .i64 r0] 3)).ownsRow B 3 1 (.slice qa wd.regs.length qc) wd.regs.length (wd.regs.map (Value.int .i64))):=zAc HMo (fun k hk=>Below.heap_alloc _ _ _ (HMo.lt k hk).2)
     have HN:Hid (∀ j u,[Value.int .i64 r0][j]?=some u→(wr.alloc (.cells #[.int .i64 r0] 3)).cell? ((⟨wr.heap.size,0,none⟩:Addr).add j)=some u):=World.news_of_block (cs:=#[.int .i64 r0]) (t:=3) (fr:=(0,0)) (heap_alloc_new wr _)
     have BD:Below wr.heap.size wr (wr.alloc (.cells #[.int .i64 r0] 3)):=(Below.refl _ _).alloc (Nat.le_refl _) _
     have HMD:=zAa (HM.out.below BD)
     have HBD:=zAa (HB.out.trans (BD.mono hBwr))
     have HC:Hid ((wr.alloc (.cells #[.int .i64 r0] 3)).cell? ⟨g,1,none⟩=some (.slice qa wd.regs.length qc)):=(zAx hg).trans c1'
     have HFZ:Hid ((wr.alloc (.cells #[.int .i64 r0] 3)).frozen? ⟨g,1,none⟩=false):=by
      unfold Hid;rw[World.frozen?_of_block (w:=wr) (a:=⟨g,1,none⟩) (Below.heap_alloc _ _ _ hg)];exact cf' 1
     clear BD
     go_wp2_with (first | (at_builtin;(refine wpList_append_lies _ rfl (.tmp 46) (.tmp 48) 31 rfl B 3 i0 (.int .i64 0) 1 8 Tryz.underlying31 hi0 hz0 hz1 hz2 rfl (by decide) (.slice qa wd.regs.length qc) wd.regs.length (wd.regs.map (Value.int .i64)) rfl (by exact HO.out) ⟨wr.heap.size,0,none⟩ 1 1 [.int .i64 r0] rfl rfl (by exact HN.out) (by simp[Value.oneCell']) (by decide) (by unfold maxLen;omega) (by omega) (by simp;omega) _ rfl ?_;intro gn cn w1 hown1 hgrow hat hlt1;have c1:=(hgrow.cell_far ⟨g,1,none⟩ (by simp;omega) (fun e=>hne e.symm)).trans HC.out;have f1:=(hgrow.frozen_far ⟨g,1,none⟩ (by simp;omega) (fun e=>hne e.symm)).trans HFZ.out;have hgw1:g<w1.heap.size:=(by have:=hgrow.size;simp at this;omega);have Q1:=zAa (WM.addRg (x:=r0) HMD.out (by simpa using hown1) hgrow);have Q2:=zAa (HBD.out.trans (WM.bel (g:=g) (j:=1) (u:=.slice (some ⟨gn,0,none⟩) (wd.regs.length+1) cn) HO.out hge (by simp;omega) hgrow));clear hown1 hgrow hat)))
     go_roundw
     case rel =>
      refine⟨1,ev2,.slice (some ⟨gn,0,none⟩) (wd.regs.length+1) cn,by omega,by go_num,?_,Q2⟩
      have h1:=Q1.out
      simp only[List.length_append,List.append_assoc,List.length_cons,List.length_nil,List.cons_append,List.nil_append] at h1
      exact h1
     case measure=>simp[intOf]
    ·have HO:Hid ((wr.alloc (.cells #[.int .i64 r1] 3)).ownsRow B 3 1 (.slice qa (wd.regs.length+1) qc) (wd.regs.length+1) ((wd.regs++[r0]).map (Value.int .i64))):=zAc HMo (fun k hk=>Below.heap_alloc _ _ _ (HMo.lt k hk).2)
     have HN:Hid (∀ j u,[Value.int .i64 r1][j]?=some u→(wr.alloc (.cells #[.int .i64 r1] 3)).cell? ((⟨wr.heap.size,0,none⟩:Addr).add j)=some u):=World.news_of_block (cs:=#[.int .i64 r1]) (t:=3) (fr:=(0,0)) (heap_alloc_new wr _)
     have BD:Below wr.heap.size wr (wr.alloc (.cells #[.int .i64 r1] 3)):=(Below.refl _ _).alloc (Nat.le_refl _) _
     have HMD:=zAa (HM.out.below BD)
     have HBD:=zAa (HB.out.trans (BD.mono hBwr))
     have HC:Hid ((wr.alloc (.cells #[.int .i64 r1] 3)).cell? ⟨g,1,none⟩=some (.slice qa (wd.regs.length+1) qc)):=(zAx hg).trans c1'
     have HFZ:Hid ((wr.alloc (.cells #[.int .i64 r1] 3)).frozen? ⟨g,1,none⟩=false):=by
      unfold Hid;rw[World.frozen?_of_block (w:=wr) (a:=⟨g,1,none⟩) (Below.heap_alloc _ _ _ hg)];exact cf' 1
     clear BD
     go_wp2_with (first | (at_builtin;(refine wpList_append_lies _ rfl (.tmp 46) (.tmp 48) 31 rfl B 3 i0 (.int .i64 0) 1 8 Tryz.underlying31 hi0 hz0 hz1 hz2 rfl (by decide) (.slice qa (wd.regs.length+1) qc) (wd.regs.length+1) ((wd.regs++[r0]).map (Value.int .i64)) rfl (by exact HO.out) ⟨wr.heap.size,0,none⟩ 1 1 [.int .i64 r1] rfl rfl (by exact HN.out) (by simp[Value.oneCell']) (by decide) (by unfold maxLen;omega) (by omega) (by simp;omega) _ rfl ?_;intro gn cn w1 hown1 hgrow hat hlt1;have c1:=(hgrow.cell_far ⟨g,1,none⟩ (by simp;omega) (fun e=>hne e.symm)).trans HC.out;have f1:=(hgrow.frozen_far ⟨g,1,none⟩ (by simp;omega) (fun e=>hne e.symm)).trans HFZ.out;have hgw1:g<w1.heap.size:=(by have:=hgrow.size;simp at this;omega);have Q1:=zAa (WM.addRg (x:=r1) HMD.out (by simpa using hown1) hgrow);have Q2:=zAa (HBD.out.trans (WM.bel (g:=g) (j:=1) (u:=.slice (some ⟨gn,0,none⟩) (wd.regs.length+1+1) cn) HO.out hge (by simp;omega) hgrow));clear hown1 hgrow hat)))
     go_roundw
     case rel =>
      refine⟨2,ev2,.slice (some ⟨gn,0,none⟩) (wd.regs.length+1+1) cn,by omega,by go_num,?_,Q2⟩
      have h1:=Q1.out
      simp only[List.length_append,List.append_assoc,List.length_cons,List.length_nil,List.cons_append,List.nil_append] at h1
      exact h1
     case measure=>simp[intOf]
    ·have HO:Hid ((wr.alloc (.cells #[.int .i64 r2] 3)).ownsRow B 3 1 (.slice qa (wd.regs.length+2) qc) (wd.regs.length+2) ((wd.regs++[r0,r1]).map (Value.int .i64))):=zAc HMo (fun k hk=>Below.heap_alloc _ _ _ (HMo.lt k hk).2)
     have HN:Hid (∀ j u,[Value.int .i64 r2][j]?=some u→(wr.alloc (.cells #[.int .i64 r2] 3)).cell? ((⟨wr.heap.size,0,none⟩:Addr).add j)=some u):=World.news_of_block (cs:=#[.int .i64 r2]) (t:=3) (fr:=(0,0)) (heap_alloc_new wr _)
     have BD:Below wr.heap.size wr (wr.alloc (.cells #[.int .i64 r2] 3)):=(Below.refl _ _).alloc (Nat.le_refl _) _
     have HMD:=zAa (HM.out.below BD)
     have HBD:=zAa (HB.out.trans (BD.mono hBwr))
     have HC:Hid ((wr.alloc (.cells #[.int .i64 r2] 3)).cell? ⟨g,1,none⟩=some (.slice qa (wd.regs.length+2) qc)):=(zAx hg).trans c1'
     have HFZ:Hid ((wr.alloc (.cells #[.int .i64 r2] 3)).frozen? ⟨g,1,none⟩=false):=by
      unfold Hid;rw[World.frozen?_of_block (w:=wr) (a:=⟨g,1,none⟩) (Below.heap_alloc _ _ _ hg)];exact cf' 1
     clear BD
     go_wp2_with (first | (at_builtin;(refine wpList_append_lies _ rfl (.tmp 46) (.tmp 48) 31 rfl B 3 i0 (.int .i64 0) 1 8 Tryz.underlying31 hi0 hz0 hz1 hz2 rfl (by decide) (.slice qa (wd.regs.length+2) qc) (wd.regs.length+2) ((wd.regs++[r0,r1]).map (Value.int .i64)) rfl (by exact HO.out) ⟨wr.heap.size,0,none⟩ 1 1 [.int .i64 r2] rfl rfl (by exact HN.out) (by simp[Value.oneCell']) (by decide) (by unfold maxLen;omega) (by omega) (by simp;omega) _ rfl ?_;intro gn cn w1 hown1 hgrow hat hlt1;have c1:=(hgrow.cell_far ⟨g,1,none⟩ (by simp;omega) (fun e=>hne e.symm)).trans HC.out;have f1:=(hgrow.frozen_far ⟨g,1,none⟩ (by simp;omega) (fun e=>hne e.symm)).trans HFZ.out;have hgw1:g<w1.heap.size:=(by have:=hgrow.size;simp at this;omega);have Q1:=zAa (WM.addRg (x:=r2) HMD.out (by simpa using hown1) hgrow);have Q2:=zAa (HBD.out.trans (WM.bel (g:=g) (j:=1) (u:=.slice (some ⟨gn,0,none⟩) (wd.regs.length+2+1) cn) HO.out hge (by simp;omega) hgrow));clear hown1 hgrow hat)))
     go_roundw
     case rel =>
      refine⟨3,ev2,.slice (some ⟨gn,0,none⟩) (wd.regs.length+2+1) cn,by omega,by go_num,?_,Q2⟩
      have h1:=Q1.out
      simp only[List.length_append,List.append_assoc,List.length_cons,List.length_nil,List.cons_append,List.nil_append] at h1
      exact h1
     case measure=>simp[intOf]
    ·have HO:Hid ((wr.alloc (.cells #[.int .i64 r3] 3)).ownsRow B 3 1 (.slice qa (wd.regs.length+3) qc) (wd.regs.length+3) ((wd.regs++[r0,r1,r2]).map (Value.int .i64))):=zAc HMo (fun k hk=>Below.heap_alloc _ _ _ (HMo.lt k hk).2)
     have HN:Hid (∀ j u,[Value.int .i64 r3][j]?=some u→(wr.alloc (.cells #[.int .i64 r3] 3)).cell? ((⟨wr.heap.size,0,none⟩:Addr).add j)=some u):=World.news_of_block (cs:=#[.int .i64 r3]) (t:=3) (fr:=(0,0)) (heap_alloc_new wr _)
     have BD:Below wr.heap.size wr (wr.alloc (.cells #[.int .i64 r3] 3)):=(Below.refl _ _).alloc (Nat.le_refl _) _
     have HMD:=zAa (HM.out.below BD)
     have HBD:=zAa (HB.out.trans (BD.mono hBwr))
     have HC:Hid ((wr.alloc (.cells #[.int .i64 r3] 3)).cell? ⟨g,1,none⟩=some (.slice qa (wd.regs.length+3) qc)):=(zAx hg).trans c1'
     have HFZ:Hid ((wr.alloc (.cells #[.int .i64 r3] 3)).frozen? ⟨g,1,none⟩=false):=by
      unfold Hid;rw[World.frozen?_of_block (w:=wr) (a:=⟨g,1,none⟩) (Below.heap_alloc _ _ _ hg)];exact cf' 1
     clear BD
     go_wp2_with (first | (at_builtin;(refine wpList_append_lies _ rfl (.tmp 46) (.tmp 48) 31 rfl B 3 i0 (.int .i64 0) 1 8 Tryz.underlying31 hi0 hz0 hz1 hz2 rfl (by decide) (.slice qa (wd.regs.length+3) qc) (wd.regs.length+3) ((wd.regs++[r0,r1,r2]).map (Value.int .i64)) rfl (by exact HO.out) ⟨wr.heap.size,0,none⟩ 1 1 [.int .i64 r3] rfl rfl (by exact HN.out) (by simp[Value.oneCell']) (by decide) (by unfold maxLen;omega) (by omega) (by simp;omega) _ rfl ?_;intro gn cn w1 hown1 hgrow hat hlt1;have c1:=(hgrow.cell_far ⟨g,1,none⟩ (by simp;omega) (fun e=>hne e.symm)).trans HC.out;have f1:=(hgrow.frozen_far ⟨g,1,none⟩ (by simp;omega) (fun e=>hne e.symm)).trans HFZ.out;have hgw1:g<w1.heap.size:=(by have:=hgrow.size;simp at this;omega);have Q1:=zAa (WM.addRg (x:=r3) HMD.out (by simpa using hown1) hgrow);have Q2:=zAa (HBD.out.trans (WM.bel (g:=g) (j:=1) (u:=.slice (some ⟨gn,0,none⟩) (wd.regs.length+3+1) cn) HO.out hge (by simp;omega) hgrow));clear hown1 hgrow hat)))
     go_roundw
     case rel =>
      refine⟨4,ev2,.slice (some ⟨gn,0,none⟩) (wd.regs.length+3+1) cn,by omega,by go_num,?_,Q2⟩
      have h1:=Q1.out
      simp only[List.length_append,List.append_assoc,List.length_cons,List.length_nil,List.cons_append,List.nil_append] at h1
      exact h1
     case measure=>simp[intOf]
    ·go_wp2
     go_end0
     refine⟨rfl,⟨ev2,.slice qa (wd.regs.length+4) qc,?_⟩,HB.out⟩
     rw[HJ.out]
     have h1:=HM.out
     simp only[List.take_succ_cons,List.take_zero] at h1
     exact h1
structure RunsAll (w:World) (B:Nat) (v:Value) (rss:List (List Q.Run)) (vs:List Value) (wss:List (List Value)):Prop where
 own:w.ownsRow B 117 1 v rss.length vs
 lv:vs.length=rss.length
 lw:wss.length=rss.length
 runs:∀ i (h:i<rss.length) (u:Value) (us:List Value),vs[i]?=some u→wss[i]?=some us→RunsIn w 0 u rss[i] us
theorem RunsAll.below {w w':World} {B:Nat} {v:Value} {rss:List (List Q.Run)} {vs:List Value} {wss:List (List Value)} (h:RunsAll w B v rss vs wss) (hb:Below w.heap.size w w'):RunsAll w' B v rss vs wss :=
 ⟨zAc h.own (fun k e=>hb.block k (h.own.lt k e).2),h.lv,h.lw,fun i hi u us h1 h2=>(h.runs i hi u us h1 h2).below hb⟩
structure WsOn (w:World) (g o:Nat) (rv:Value) (vs:List Value) (wss:List (List Value)) (gb gd:Nat) (rss:List (List Q.Run)) (ds:List Int) (rest:List (List Int)):Prop where
 c0:w.cell? ⟨g,o,none⟩=some rv
 runs:RunsAll w 0 rv rss vs wss
 ctr:zDe w g (o+1) gb gd (rss.map fun r=>(r.length:Int)) ds rest
theorem WsOn.below {w w':World} {g o:Nat} {rv:Value} {vs:List Value} {wss:List (List Value)} {gb gd:Nat} {rss:List (List Q.Run)} {ds:List Int} {rest:List (List Int)} (h:WsOn w g o rv vs wss gb gd rss ds rest) (hb:Below w.heap.size w w'):WsOn w' g o rv vs wss gb gd rss ds rest:=by
 obtain⟨b,hc⟩:=h.ctr.ctr
 exact⟨(hb.cell hc.lt).trans h.c0,h.runs.below hb,h.ctr.below hb⟩
theorem zCG {w w':World} {B g o gd n sz:Nat} {t:TypeId} {v:Value} {xs:List Value} {c:Array Value} {tg:TypeId} {cd:Array Value} (h:w.ownsRow B t sz v n xs) (hT:Ticked w w' g o gd) (hg:w.heap[g]?=some (.cells c tg (0,0))) (htg:t≠tg) (hd:w.heap[gd]?=some (.cells cd 3 (0,0))) (hti:t≠3):w'.ownsRow B t sz v n xs :=
 zAc h (fun k e=>hT.block k (fun e2=>zAr h hg htg (by rw[e,e2])) (fun e2=>zAr h hd hti (by rw[e,e2])))
theorem RunsAll.ticked {w w':World} {B g o gd:Nat} {v:Value} {rss:List (List Q.Run)} {vs:List Value} {wss:List (List Value)} {c:Array Value} {tg:TypeId} {cd:Array Value} (h:RunsAll w B v rss vs wss) (hT:Ticked w w' g o gd) (hg:w.heap[g]?=some (.cells c tg (0,0))) (h1:117≠tg) (h2:150≠tg) (h3:129≠tg) (hd:w.heap[gd]?=some (.cells cd 3 (0,0))):RunsAll w' B v rss vs wss :=
 ⟨zCG h.own hT hg h1 hd (by decide),h.lv,h.lw,fun i hi u us hu hus=>by
  have hr:=h.runs i hi u us hu hus
  exact⟨zCG hr.own hT hg h2 hd (by decide),hr.len,fun j hj x hx=>zCG (hr.evs j hj x hx) hT hg h3 hd (by decide)⟩⟩
theorem zDS (g o:Nat) (rv:Value) (vs:List Value) (wss:List (List Value)) (gb gd:Nat) (rss:List (List Q.Run)) (ds:List Int) (rest:List (List Int)) (c:Array Value) (tg:TypeId) (w:World) (h:WsOn w g o rv vs wss gb gd rss ds rest) (hg:w.heap[g]?=some (.cells c tg (0,0))) (h1:117≠tg) (h2:150≠tg) (h3:129≠tg) (hn:rss.length<10000) (hb:∀ r∈rss,r.length<100000000) :
  Calls Tryz.prog 68 #[.pointer (some ⟨g,o,none⟩)] w fun e w'=>((rest=[]∧e=.returned (.bool false))∨∃ r q,rest=r::q∧e=.returned (.bool true)∧WsOn w' g o rv vs wss gb gd rss r q∧Q.DigOk (rss.map fun r=>(r.length:Int)) r)∧Ticked w w' g (o+1) gd:=by
 have H:=zAa h
 have HG:=zAa hg
 obtain⟨b,hc⟩:=h.ctr.ctr
 have hl:=hc.lt
 have HDG:=zAa hc.digits
 clear h hc hg
 go_enter Tryz.func68,Tryz.ntmps68
 go_wp2_with (first | (go_at_call 80;refine (zFa g (o+1) gb gd _ ds rest _ H.out.ctr (by simpa using hn) (by intro b hb2;simp at hb2;obtain⟨r,hr,rfl⟩:=hb2;have:=hb r hr;omega)).mono ?_;rintro e w' ⟨h1,hT⟩;have HT:=zAa hT;rcases h1 with ⟨hr,rfl⟩ | ⟨r,q,hr,rfl,hc,hd⟩))
 ·go_ret
  exact⟨Or.inl ⟨hr,rfl⟩,HT.out⟩
 ·go_ret
  have T:=HT.out
  exact⟨Or.inr ⟨r,q,hr,rfl,⟨(T.cell o (by omega)).trans H.out.c0,H.out.runs.ticked T HG.out (by assumption) h2 h3 HDG.out,hc⟩,hd⟩,T⟩
end Go.Proofs.YtkmebkbpfmoeaaaGreat
