import Derived.Test.YtonodfjdiepglaaGreatDoorL30
import Derived.Test.YtonodfjdiepglaaGreatDoorL32
set_option linter.unusedVariables false
set_option linter.unusedSimpArgs false
set_option maxHeartbeats 12800000
namespace Go.Proofs.YtonodfjdiepglaaGreatDoor
open Go Go.RowKit Go.Proofs.Tryz P Q R
set_option maxRecDepth 1000000
variable {w w' w1:World} {B cn g gd gn n o sz:Nat} {wd:Wd} {rg v:Value} {t tg:TypeId} {vs xs:List Value} {c cd:Array Value} {rss:List (List Run)} {wss:List (List Value)}
open Go.Value renaming int→xF,oneCell'→xh,ownBlock→xp
open Go.RowKit.Below renaming heap_alloc→xR,refl→xa,heap_setCell→xc
open List renaming length_append→xW,append_assoc→xi,length_cons→xj,length_nil→xk,cons_append→xn,nil_append→xo,length_singleton→xq,map_append→xr,take_succ_cons→xt
open Go.World renaming cell?→xb,news_of_block→xe,frozen?_of_block→xg
open Nat renaming le_refl→xd
open Go.Instr renaming index→xm
structure WM (w:World) (B g:Nat) (wd:Wd) (ev rg:Value):Prop where
 box:w.heap[g]?=some (.cells #[ev,rg] 70 (0,0))
 evs:w.ownsRow B 146 10 ev wd.Ea.length (zAG wd.Ea)
 rgs:w.ownsRow B 3 1 rg wd.regs.length (wd.regs.map (xF .i64))
 ge:B<=g
theorem WM.lt {ev:Value} (h:WM w B g wd ev rg):g<w.heap.size:=(Array.getElem?_eq_some_iff.1 h.box).1
theorem WM.below {ev:Value} (h:WM w B g wd ev rg) (a:Below w.heap.size w w'):WM w' B g wd ev rg :=
 ⟨(a.block g h.lt).trans h.box,aX h.evs (fun k e=>a.block k (h.evs.lt k e).2),aX h.rgs (fun k e=>a.block k (h.rgs.lt k e).2),h.ge⟩
theorem WM.facts {ev:Value} (h:WM w B g wd ev rg):w.cell? ⟨g,0,none⟩=some ev/\w.cell? ⟨g,1,none⟩=some rg/\(∀ j,w.frozen? ⟨g,j,none⟩=false):=by
 refine⟨?_,?_,fun j=>?_⟩<;>simp[xb,World.frozen?,h.box]
theorem eD {d:TypeId} (h:w.ownsRow B t sz v n xs) (j:w.heap[g]?=some (.cells c d (0,0))) (k:t≠d):v.ownBlock≠some g:=fun e=>by
 rcases h.2 with ⟨a,_⟩ | ⟨l,f,i,a,_,b,_⟩
 ·rw[a] at e;simp[xp] at e
 ·rw[a] at e;simp[xp] at e;subst e;rw[j] at b;simp at b;exact k b.2.symm
theorem WM.form {ev:Value} (h:WM w B g wd ev rg):(∃ a c,ev=.slice a wd.Ea.length c)/\∃ a c,rg=.slice a wd.regs.length c:=by
 constructor
 ·rcases h.evs.2 with ⟨e,d⟩ | ⟨k,c,b,e,_⟩
  ·exact⟨none,0,by rw[e,d]⟩
  ·exact⟨_,c,e⟩
 ·rcases h.rgs.2 with ⟨e,d⟩ | ⟨k,c,b,e,_⟩
  ·exact⟨none,0,by rw[e,d]⟩
  ·exact⟨_,c,e⟩
theorem WM.uF {ev:Value} {e:Ev} (h:WM w B g wd ev rg) (a:w1.ownsRow B 146 10 (.slice (some ⟨gn,0,none⟩) (wd.Ea.length+1) cn) (wd.Ea.length+1) (zAG wd.Ea++(aI e).toList)) (j:w.grownBy w1 ev.ownBlock) :
  WM (w1.setCell ⟨g,0,none⟩ (.slice (some ⟨gn,0,none⟩) (wd.Ea.length+1) cn)) B g ⟨wd.Ea++[e],wd.regs⟩ (.slice (some ⟨gn,0,none⟩) (wd.Ea.length+1) cn) rg:=by
 have f:=eD h.evs h.box (by decide);have b:w1.heap[g]?=some (.cells #[ev,rg] 70 (0,0)):=(j.block g h.lt (fun e=>f e.symm)).trans h.box;have i:=qA h.rgs h.evs (by decide) j;refine⟨by rw[bH b];rfl,?_,aX i.1 (fun k e=>xc _ _ _ _ (fun d=>eD i.1 b (by decide) (by rw[e,d]))),h.ge⟩;have d:zAG (wd.Ea++[e])=zAG wd.Ea++(aI e).toList:=by rw[zDk,zEO]
 simp only[xW,xq];rw[d];exact aX a (fun k e=>xc _ _ _ _ (fun d=>eD a b (by decide) (by rw[e,d])))
theorem WM.kG {ev:Value} {x:Int} (h:WM w B g wd ev rg) (a:w1.ownsRow B 3 1 (.slice (some ⟨gn,0,none⟩) (wd.regs.length+1) cn) (wd.regs.length+1) (wd.regs.map (xF .i64)++[.int .i64 x])) (j:w.grownBy w1 rg.ownBlock) :
  WM (w1.setCell ⟨g,1,none⟩ (.slice (some ⟨gn,0,none⟩) (wd.regs.length+1) cn)) B g ⟨wd.Ea,wd.regs++[x]⟩ ev (.slice (some ⟨gn,0,none⟩) (wd.regs.length+1) cn):=by
 have f:=eD h.rgs h.box (by decide);have b:w1.heap[g]?=some (.cells #[ev,rg] 70 (0,0)):=(j.block g h.lt (fun e=>f e.symm)).trans h.box;have i:=qA h.evs h.rgs (by decide) j;refine⟨by rw[bH b];rfl,aX i.1 (fun k e=>xc _ _ _ _ (fun d=>eD i.1 b (by decide) (by rw[e,d]))),?_,h.ge⟩;simp only[xW,xq,xr,List.map_cons,List.map_nil];exact aX a (fun k e=>xc _ _ _ _ (fun d=>eD a b (by decide) (by rw[e,d])))
theorem WM.bel {j:Nat} {u:Value} (f:w.ownsRow B t sz v n xs) (b:B<=g) (d:B<=w.heap.size) (a:w.grownBy w1 v.ownBlock):Below B w (w1.setCell ⟨g,j,none⟩ u) :=
 Below.setCell (p:=⟨g,j,none⟩) ⟨a.os,a.tape,a.output,a.size,fun k i=>a.block k (by omega) (fun e=>by have:=(f.lt k e.symm).1;omega)⟩ b _
theorem zGM (a b c d:Int) (W:World):(xm 161 (.agg #[.int .i64 a,.int .i64 b,.int .i64 c,.int .i64 d]) (.int .i64 0)).run prog W=.ok (.int .i64 a) W:=by kernel_rfl
theorem zGN (a b c d:Int) (W:World):(xm 161 (.agg #[.int .i64 a,.int .i64 b,.int .i64 c,.int .i64 d]) (.int .i64 1)).run prog W=.ok (.int .i64 b) W:=by kernel_rfl
theorem zGO (a b c d:Int) (W:World):(xm 161 (.agg #[.int .i64 a,.int .i64 b,.int .i64 c,.int .i64 d]) (.int .i64 2)).run prog W=.ok (.int .i64 c) W:=by kernel_rfl
theorem zGP (a b c d:Int) (W:World):(xm 161 (.agg #[.int .i64 a,.int .i64 b,.int .i64 c,.int .i64 d]) (.int .i64 3)).run prog W=.ok (.int .i64 d) W:=by kernel_rfl
theorem zKv (B g:Nat) (wd:Wd) (ev rg aj:Value) (r:Run) (w:World) (h:WM w B g wd ev rg) (hr:zAV w aj r.Ea) (aO:∀ k,aj.ownBlock=some k->k<B) (hB:B<=w.heap.size) (hl:r.regs.length=4) (hn:wd.Ea.length+r.Ea.length<=64) (bd:wd.regs.length<100) (av:∀ e∈r.Ea,e.Ef<M64) :
  Calls prog 106 #[.pointer (some ⟨g,0,none⟩),.agg #[aj,.int .i64 (r.regs.getD 0 0),.int .i64 (r.regs.getD 1 0),.int .i64 (r.regs.getD 2 0),.int .i64 (r.regs.getD 3 0)]] w fun x w'=>x=.returned (.tuple #[])/\(∃ ev' rg',WM w' B g (wd.join r) ev' rg')/\Below B w w':=by
 obtain⟨i0,ac,ad,ae,af⟩:=info_parts Tryz.infoIntM;obtain⟨j0,aN,aS,aU,aV⟩:=info_parts Tryz.infoEvM;obtain⟨va,vc,rfl,aR⟩:=hr.form;obtain⟨p,s,A,E,aw⟩:∃ a b c d,r.regs=[a,b,c,d]:=by
  match hq:r.regs,hl with
  | [a,b,c,d],_=>exact⟨a,b,c,d,rfl⟩
 rw[aw];simp only[List.getD_cons_zero,List.getD_cons_succ];have HJ:Hid (wd.join r=⟨wd.Ea++r.Ea.map (zNI wd.Ea.length),wd.regs++[p,s,A,E]⟩):=by unfold Hid Wd.join;rw[aw]
 obtain⟨k0,aQ,al⟩:=jE w #[.slice va r.Ea.length vc,.int .i64 p,.int .i64 s,.int .i64 A,.int .i64 E] 167;have ab:=zAa (h.below al);have aE:=zAa hr;have aC:=zAa av;have ay:=zAa al;have bb:=h.lt;clear h al hr av;go_enter func106,ntmps106;go_upto_region 1 with fail
 generalize hE:w.alloc (.cells #[.slice va r.Ea.length vc,.int .i64 p,.int .i64 s,.int .i64 A,.int .i64 E] 167)=W0 at *;have K0:=zAa k0;have aW:w.heap.size+1<=W0.heap.size:=by omega
 have c0:=aD k0 0 _ rfl;have l0:w.heap.size<W0.heap.size:=by omega
 obtain⟨⟨ea,ec,aM⟩,⟨ra,rc,aP⟩⟩:=ab.out.form;obtain⟨m0,m1,mf⟩:=ab.out.facts;have ba:=ab.out.lt;subst aM aP;clear hE k0 aQ;go_wp2;go_loopw [17] (fun j wr=>∃ (k:Nat) (ai:Value),k<=r.Ea.length/\j=.int .i64 k/\Hid (WM wr B g ⟨wd.Ea++(r.Ea.take k).map (zNI wd.Ea.length),wd.regs⟩ ai (.slice ra wd.regs.length rc))/\Hid (wr.heap[w.heap.size]?=some (.cells #[.slice va r.Ea.length vc,.int .i64 p,.int .i64 s,.int .i64 A,.int .i64 E] 167 (0,0)))/\Hid (Below B w wr)) (fun j _=>r.Ea.length-(intOf j).toNat)
 case atStart=>exact⟨0,_,Nat.zero_le _,rfl,by simpa [Hid] using ab.out,K0,ay.out.mono hB⟩
 case round =>
  obtain⟨k,ai,hk,rfl,H,HK,HB⟩:=hrel;by_cases hlt:k<r.Ea.length
  ·have bc:(k:Int)<(r.Ea.length:Int):=by omega
   obtain⟨be,rfl,aZ⟩:=aR (by omega);have aK:=aO be rfl;have aF:Hid (wr.rangeAt be (k*10) (aI (Q.ev r.Ea k)).toList):=fY (aE.out.cM rfl k hlt) (HB.out.block be aK);have bk:be<wr.heap.size:=by have:=HB.out.size;omega
   have hh:(Q.ev r.Ea k).Ef<M64:=by rw[tE r.Ea k hlt];exact aC.out _ (List.getElem_mem hlt)
   have aG:Hid ((r.Ea.take (k+1)).map (zNI wd.Ea.length)=(r.Ea.take k).map (zNI wd.Ea.length)++[zNI wd.Ea.length (Q.ev r.Ea k)]):=by
    unfold Hid;rw[List.take_succ_eq_append_getElem hlt,xr,tE r.Ea k hlt];rfl
   have aA:Hid (zNI wd.Ea.length (Q.ev r.Ea k)={ Q.ev r.Ea k with Ef:=kBu (Q.ev r.Ea k).Ef (wd.Ea.length:Int) }):=rfl;generalize Q.ev r.Ea k=i at *;generalize au:kBu i.Ef (wd.Ea.length:Int)=I at *;have aB:=zAa au;clear au;go_upto_region 6 with (first | (refine cQ (.tmp 19) rfl rfl be (k*10) i rfl aF.out ?_) | (go_at_call 123;refine (zIQ i.Ef (wd.Ea.length:Int) _ hh).mono ?_;rintro e w' ⟨rfl,am⟩;have am:=am.symm;subst am;rw[aB.out]))
   have E1:Hid (zAP (wr.alloc (.cells #[.int .i64 i.kind,.int .i64 i.thread,.int .i64 i.block,.int .i64 i.var,.int .i64 i.value,.int .i64 i.order,.int .i64 i.scope,.int .i64 i.bars,.bool i.step,.int .u64 (I:Nat)] 146)) wr.heap.size { i with Ef:=I }):=heap_alloc_new wr _;have BX:Below wr.heap.size wr (wr.alloc (.cells #[.int .i64 i.kind,.int .i64 i.thread,.int .i64 i.block,.int .i64 i.var,.int .i64 i.value,.int .i64 i.order,.int .i64 i.scope,.int .i64 i.bars,.bool i.step,.int .u64 (I:Nat)] 146)):=(xa _ _).alloc (xd _) _;have K:=zAa (H.out.below BX);have an:=zAa ((BX.block _ (Array.getElem?_eq_some_iff.1 HK.out).1).trans HK.out);have D:B<=wr.heap.size:=by have:=HB.out.size;omega
   have az:Hid (Below B w (wr.alloc (.cells #[.int .i64 i.kind,.int .i64 i.thread,.int .i64 i.block,.int .i64 i.var,.int .i64 i.value,.int .i64 i.order,.int .i64 i.scope,.int .i64 i.bars,.bool i.step,.int .u64 (I:Nat)] 146))):=HB.out.trans (BX.mono D);have bf:wr.heap.size+1<=(wr.alloc (.cells #[.int .i64 i.kind,.int .i64 i.thread,.int .i64 i.block,.int .i64 i.var,.int .i64 i.value,.int .i64 i.order,.int .i64 i.scope,.int .i64 i.bars,.bool i.step,.int .u64 (I:Nat)] 146)).heap.size:=by simp
   obtain⟨x0,x1,x2,x3,x4,x5,x6,x7,x8,x9,xf,xl⟩:=gH (heap_alloc_new wr (.cells #[.int .i64 i.kind,.int .i64 i.thread,.int .i64 i.block,.int .i64 i.var,.int .i64 i.value,.int .i64 i.order,.int .i64 i.scope,.int .i64 i.bars,.bool i.step,.int .u64 (I:Nat)] 146));generalize aJ:wr.alloc (.cells #[.int .i64 i.kind,.int .i64 i.thread,.int .i64 i.block,.int .i64 i.var,.int .i64 i.value,.int .i64 i.order,.int .i64 i.scope,.int .i64 i.bars,.bool i.step,.int .u64 (I:Nat)] 146)=O at *;generalize aY:wr.heap.size=b1 at *;clear aJ BX;have ar:(wd.Ea++(r.Ea.take k).map (zNI wd.Ea.length)).length=wd.Ea.length+k:=by simp;omega
   obtain⟨⟨ka,kc,S⟩,_⟩:=K.out.form;simp only at S;have m:=K.out.evs;simp only at m;generalize ak:wd.Ea++(r.Ea.take k).map (zNI wd.Ea.length)=V at *;subst S;obtain⟨ao,aa,W⟩:=K.out.facts;have hg:=K.out.lt;have X:=K.out.ge;have z:=eD m K.out.box (by decide);have M:Hid ((O.drew.alloc (.cells #[.int .i64 i.kind,.int .i64 i.thread,.int .i64 i.block,.int .i64 i.var,.int .i64 i.value,.int .i64 i.order,.int .i64 i.scope,.int .i64 i.bars,.bool i.step,.int .u64 (I:Nat)] 146)).ownsRow B 146 10 (.slice ka V.length kc) V.length (zAG V)):=aX m (fun k hk=>xR _ _ _ (m.lt k hk).2);have HN:Hid (∀ j u,([.int .i64 i.kind,.int .i64 i.thread,.int .i64 i.block,.int .i64 i.var,.int .i64 i.value,.int .i64 i.order,.int .i64 i.scope,.int .i64 i.bars,.bool i.step,.int .u64 (I:Nat)]:List Value)[j]?=some u->(O.drew.alloc (.cells #[.int .i64 i.kind,.int .i64 i.thread,.int .i64 i.block,.int .i64 i.var,.int .i64 i.value,.int .i64 i.order,.int .i64 i.scope,.int .i64 i.bars,.bool i.step,.int .u64 (I:Nat)] 146)).cell? ((⟨O.heap.size,0,none⟩:Addr).add j)=some u) :=
    xe (cs:=#[.int .i64 i.kind,.int .i64 i.thread,.int .i64 i.block,.int .i64 i.var,.int .i64 i.value,.int .i64 i.order,.int .i64 i.scope,.int .i64 i.bars,.bool i.step,.int .u64 (I:Nat)]) (t:=146) (fr:=(0,0)) (heap_alloc_new O.drew _)
   have HC:Hid ((O.drew.alloc (.cells #[.int .i64 i.kind,.int .i64 i.thread,.int .i64 i.block,.int .i64 i.var,.int .i64 i.value,.int .i64 i.order,.int .i64 i.scope,.int .i64 i.bars,.bool i.step,.int .u64 (I:Nat)] 146)).cell? ⟨g,0,none⟩=some (.slice ka V.length kc)):=(aT (w:=O.drew) hg).trans ao;have F:Hid ((O.drew.alloc (.cells #[.int .i64 i.kind,.int .i64 i.thread,.int .i64 i.block,.int .i64 i.var,.int .i64 i.value,.int .i64 i.order,.int .i64 i.scope,.int .i64 i.bars,.bool i.step,.int .u64 (I:Nat)] 146)).frozen? ⟨g,0,none⟩=false):=by
    unfold Hid;rw[xg (w:=O.drew) (a:=⟨g,0,none⟩) (xR _ _ _ hg)];exact W 0
   have ap:B<=O.heap.size:=by omega
   have aH:V.length<=64:=by omega
   clear ar;go_region_law (refine step_append_lies _ rfl (.tmp 30) (.tmp 32) 67 rfl B 146 j0 (.agg (aI Ev.zero)) 10 80 underlying67 aN aS aU aV rfl (by decide) (.slice ka V.length kc) V.length (zAG V) (by simp[Act.eval]) (by exact M.out) ⟨O.heap.size,0,none⟩ 1 1 [.int .i64 i.kind,.int .i64 i.thread,.int .i64 i.block,.int .i64 i.var,.int .i64 i.value,.int .i64 i.order,.int .i64 i.scope,.int .i64 i.bars,.bool i.step,.int .u64 (I:Nat)] (by simp[Act.eval]) rfl (by exact HN.out) (by simp[xh]) (by decide) (by unfold maxLen;omega) (by omega) (by simp;omega) (O.heap.size+1) (by simp) ?_;intro gn cn w1 l f G U;have c1:=(f.cell_far ⟨g,0,none⟩ (by simp;omega) (fun e=>z e.symm)).trans HC.out;have f1:=(f.frozen_far ⟨g,0,none⟩ (by simp;omega) (fun e=>z e.symm)).trans F.out;have T:g<w1.heap.size:=by have:=f.size;simp at this;omega)
   all_goals
    have C:Below O.heap.size O (O.drew.alloc (.cells #[.int .i64 i.kind,.int .i64 i.thread,.int .i64 i.block,.int .i64 i.var,.int .i64 i.value,.int .i64 i.order,.int .i64 i.scope,.int .i64 i.bars,.bool i.step,.int .u64 (I:Nat)] 146)):=((xa _ _).drew).alloc (by simp) _;have Q1:=zAa (WM.uF (e:={ i with Ef:=I }) (K.out.below C) l f);have Q2:Hid (Below B w (w1.setCell ⟨g,0,none⟩ (.slice (some ⟨gn,0,none⟩) (V.length+1) cn))):=(az.out.trans (C.mono ap)).trans (WM.bel M.out X (by simp;omega) f);have Q3:Hid ((w1.setCell ⟨g,0,none⟩ (.slice (some ⟨gn,0,none⟩) (V.length+1) cn)).heap[w.heap.size]?=some (.cells #[.slice (some ⟨be,0,none⟩) r.Ea.length vc,.int .i64 p,.int .i64 s,.int .i64 A,.int .i64 E] 167 (0,0))):=by
     have y:=(C.block _ (Array.getElem?_eq_some_iff.1 an.out).1).trans an.out;have h2:=eD M.out y (by decide);unfold Hid;rw[xc _ _ _ _ (by simp;omega),f.block _ (Array.getElem?_eq_some_iff.1 y).1 (fun e=>h2 e.symm)];exact y
    clear l f C
    (try go_wp2)
    go_roundw
    case rel =>
     refine⟨k+1,.slice (some ⟨gn,0,none⟩) (V.length+1) cn,by omega,by go_num,?_,Q3,Q2⟩;have y:=Q1.out;unfold Hid;rw[aG.out,aA.out,<- xi,ak];exact y
    case measure=>simp[intOf];omega
  ·have aq:k=r.Ea.length:=by omega
   have ah:Hid (WM wr B g ⟨wd.Ea++r.Ea.map (zNI wd.Ea.length),wd.regs⟩ ai (.slice ra wd.regs.length rc)):=by
    have y:=H.out;rw[aq,List.take_length] at y;exact y
   obtain⟨⟨ka,kc,S⟩,_⟩:=ah.out.form;simp only at S;generalize ak:wd.Ea++r.Ea.map (zNI wd.Ea.length)=V at *;have b1:wr.cell? ⟨w.heap.size,1,none⟩=some (.int .i64 p):=by simp[xb,HK.out]
   have b2:wr.cell? ⟨w.heap.size,2,none⟩=some (.int .i64 s):=by simp[xb,HK.out]
   have b3:wr.cell? ⟨w.heap.size,3,none⟩=some (.int .i64 A):=by simp[xb,HK.out]
   have b4:wr.cell? ⟨w.heap.size,4,none⟩=some (.int .i64 E):=by simp[xb,HK.out]
   have lb:=(Array.getElem?_eq_some_iff.1 HK.out).1;clear H ak aq;go_wp2;clear b1 b2 b3 b4 lb hlt hk;go_loopw [39] (fun j wq=>∃ (q:Nat) (N ax:Value),q<=4/\j=.int .i64 q/\Hid (WM wq B g ⟨V,wd.regs++[p,s,A,E].take q⟩ N ax)/\Hid (Below B w wq)) (fun j _=>4-(intOf j).toNat)
   case atStart=>exact⟨0,_,_,by omega,rfl,by simpa [Hid] using ah.out,HB⟩
   case round =>
    clear ah HB HK;obtain⟨q,N,ax,hq,rfl,H,HB⟩:=hrel;have aL:q=0\/q=1\/q=2\/q=3\/q=4:=by omega
    have D:B<=wr.heap.size:=by have:=HB.out.size;omega
    have X:=H.out.ge;have hg:=H.out.lt;obtain⟨ao,aa,W⟩:=H.out.facts;have z:=eD H.out.rgs H.out.box (by decide);have m:=H.out.rgs;obtain⟨_,Y,Z,ag⟩:=H.out.form;have bg:=zGM p s A E;have bh:=zGN p s A E;have bi:=zGO p s A E;have bj:=zGP p s A E
    rcases aL with rfl | rfl | rfl | rfl | rfl
    all_goals
     simp only[xt,List.take_zero,List.append_nil,xW,xj,xk,Nat.zero_add,Nat.reduceAdd,Nat.add_zero] at ag m;subst ag
    ·have M:Hid ((wr.alloc (.cells #[.int .i64 p] 3)).ownsRow B 3 1 (.slice Y wd.regs.length Z) wd.regs.length (wd.regs.map (xF .i64))):=aX m (fun k hk=>xR _ _ _ (m.lt k hk).2);have HN:Hid (∀ j u,[xF .i64 p][j]?=some u->(wr.alloc (.cells #[.int .i64 p] 3)).cell? ((⟨wr.heap.size,0,none⟩:Addr).add j)=some u):=xe (cs:=#[.int .i64 p]) (t:=3) (fr:=(0,0)) (heap_alloc_new wr _);have C:Below wr.heap.size wr (wr.alloc (.cells #[.int .i64 p] 3)):=(xa _ _).alloc (xd _) _;have L:=zAa (H.out.below C);have J:=zAa (HB.out.trans (C.mono D));have HC:Hid ((wr.alloc (.cells #[.int .i64 p] 3)).cell? ⟨g,1,none⟩=some (.slice Y wd.regs.length Z)):=(aT hg).trans aa;have F:Hid ((wr.alloc (.cells #[.int .i64 p] 3)).frozen? ⟨g,1,none⟩=false):=by
      unfold Hid;rw[xg (w:=wr) (a:=⟨g,1,none⟩) (xR _ _ _ hg)];exact W 1
     clear C;go_wp2_with (first | (at_builtin;(refine wpList_append_lies _ rfl (.tmp 46) (.tmp 48) 68 rfl B 3 i0 (.int .i64 0) 1 8 underlying68 ac ad ae af rfl (by decide) (.slice Y wd.regs.length Z) wd.regs.length (wd.regs.map (xF .i64)) rfl (by exact M.out) ⟨wr.heap.size,0,none⟩ 1 1 [.int .i64 p] rfl rfl (by exact HN.out) (by simp[xh]) (by decide) (by unfold maxLen;omega) (by omega) (by simp;omega) _ rfl ?_;intro gn cn w1 l f G U;have c1:=(f.cell_far ⟨g,1,none⟩ (by simp;omega) (fun e=>z e.symm)).trans HC.out;have f1:=(f.frozen_far ⟨g,1,none⟩ (by simp;omega) (fun e=>z e.symm)).trans F.out;have T:g<w1.heap.size:=(by have:=f.size;simp at this;omega);have Q1:=zAa (WM.kG (x:=p) L.out (by simpa using l) f);have Q2:=zAa (J.out.trans (WM.bel (g:=g) (j:=1) (u:=.slice (some ⟨gn,0,none⟩) (wd.regs.length+1) cn) M.out X (by simp;omega) f));clear l f G)));go_roundw
     case rel =>
      refine⟨1,N,.slice (some ⟨gn,0,none⟩) (wd.regs.length+1) cn,by omega,by go_num,?_,Q2⟩;have y:=Q1.out;simp only[xW,xi,xj,xk,xn,xo] at y;exact y
     case measure=>simp[intOf]
    ·have M:Hid ((wr.alloc (.cells #[.int .i64 s] 3)).ownsRow B 3 1 (.slice Y (wd.regs.length+1) Z) (wd.regs.length+1) ((wd.regs++[p]).map (xF .i64))):=aX m (fun k hk=>xR _ _ _ (m.lt k hk).2);have HN:Hid (∀ j u,[xF .i64 s][j]?=some u->(wr.alloc (.cells #[.int .i64 s] 3)).cell? ((⟨wr.heap.size,0,none⟩:Addr).add j)=some u):=xe (cs:=#[.int .i64 s]) (t:=3) (fr:=(0,0)) (heap_alloc_new wr _);have C:Below wr.heap.size wr (wr.alloc (.cells #[.int .i64 s] 3)):=(xa _ _).alloc (xd _) _;have L:=zAa (H.out.below C);have J:=zAa (HB.out.trans (C.mono D));have HC:Hid ((wr.alloc (.cells #[.int .i64 s] 3)).cell? ⟨g,1,none⟩=some (.slice Y (wd.regs.length+1) Z)):=(aT hg).trans aa;have F:Hid ((wr.alloc (.cells #[.int .i64 s] 3)).frozen? ⟨g,1,none⟩=false):=by
      unfold Hid;rw[xg (w:=wr) (a:=⟨g,1,none⟩) (xR _ _ _ hg)];exact W 1
     clear C;go_wp2_with (first | (at_builtin;(refine wpList_append_lies _ rfl (.tmp 46) (.tmp 48) 68 rfl B 3 i0 (.int .i64 0) 1 8 underlying68 ac ad ae af rfl (by decide) (.slice Y (wd.regs.length+1) Z) (wd.regs.length+1) ((wd.regs++[p]).map (xF .i64)) rfl (by exact M.out) ⟨wr.heap.size,0,none⟩ 1 1 [.int .i64 s] rfl rfl (by exact HN.out) (by simp[xh]) (by decide) (by unfold maxLen;omega) (by omega) (by simp;omega) _ rfl ?_;intro gn cn w1 l f G U;have c1:=(f.cell_far ⟨g,1,none⟩ (by simp;omega) (fun e=>z e.symm)).trans HC.out;have f1:=(f.frozen_far ⟨g,1,none⟩ (by simp;omega) (fun e=>z e.symm)).trans F.out;have T:g<w1.heap.size:=(by have:=f.size;simp at this;omega);have Q1:=zAa (WM.kG (x:=s) L.out (by simpa using l) f);have Q2:=zAa (J.out.trans (WM.bel (g:=g) (j:=1) (u:=.slice (some ⟨gn,0,none⟩) (wd.regs.length+1+1) cn) M.out X (by simp;omega) f));clear l f G)));go_roundw
     case rel =>
      refine⟨2,N,.slice (some ⟨gn,0,none⟩) (wd.regs.length+1+1) cn,by omega,by go_num,?_,Q2⟩;have y:=Q1.out;simp only[xW,xi,xj,xk,xn,xo] at y;exact y
     case measure=>simp[intOf]
    ·have M:Hid ((wr.alloc (.cells #[.int .i64 A] 3)).ownsRow B 3 1 (.slice Y (wd.regs.length+2) Z) (wd.regs.length+2) ((wd.regs++[p,s]).map (xF .i64))):=aX m (fun k hk=>xR _ _ _ (m.lt k hk).2);have HN:Hid (∀ j u,[xF .i64 A][j]?=some u->(wr.alloc (.cells #[.int .i64 A] 3)).cell? ((⟨wr.heap.size,0,none⟩:Addr).add j)=some u):=xe (cs:=#[.int .i64 A]) (t:=3) (fr:=(0,0)) (heap_alloc_new wr _);have C:Below wr.heap.size wr (wr.alloc (.cells #[.int .i64 A] 3)):=(xa _ _).alloc (xd _) _;have L:=zAa (H.out.below C);have J:=zAa (HB.out.trans (C.mono D));have HC:Hid ((wr.alloc (.cells #[.int .i64 A] 3)).cell? ⟨g,1,none⟩=some (.slice Y (wd.regs.length+2) Z)):=(aT hg).trans aa;have F:Hid ((wr.alloc (.cells #[.int .i64 A] 3)).frozen? ⟨g,1,none⟩=false):=by
      unfold Hid;rw[xg (w:=wr) (a:=⟨g,1,none⟩) (xR _ _ _ hg)];exact W 1
     clear C;go_wp2_with (first | (at_builtin;(refine wpList_append_lies _ rfl (.tmp 46) (.tmp 48) 68 rfl B 3 i0 (.int .i64 0) 1 8 underlying68 ac ad ae af rfl (by decide) (.slice Y (wd.regs.length+2) Z) (wd.regs.length+2) ((wd.regs++[p,s]).map (xF .i64)) rfl (by exact M.out) ⟨wr.heap.size,0,none⟩ 1 1 [.int .i64 A] rfl rfl (by exact HN.out) (by simp[xh]) (by decide) (by unfold maxLen;omega) (by omega) (by simp;omega) _ rfl ?_;intro gn cn w1 l f G U;have c1:=(f.cell_far ⟨g,1,none⟩ (by simp;omega) (fun e=>z e.symm)).trans HC.out;have f1:=(f.frozen_far ⟨g,1,none⟩ (by simp;omega) (fun e=>z e.symm)).trans F.out;have T:g<w1.heap.size:=(by have:=f.size;simp at this;omega);have Q1:=zAa (WM.kG (x:=A) L.out (by simpa using l) f);have Q2:=zAa (J.out.trans (WM.bel (g:=g) (j:=1) (u:=.slice (some ⟨gn,0,none⟩) (wd.regs.length+2+1) cn) M.out X (by simp;omega) f));clear l f G)));go_roundw
     case rel =>
      refine⟨3,N,.slice (some ⟨gn,0,none⟩) (wd.regs.length+2+1) cn,by omega,by go_num,?_,Q2⟩;have y:=Q1.out;simp only[xW,xi,xj,xk,xn,xo] at y;exact y
     case measure=>simp[intOf]
    ·have M:Hid ((wr.alloc (.cells #[.int .i64 E] 3)).ownsRow B 3 1 (.slice Y (wd.regs.length+3) Z) (wd.regs.length+3) ((wd.regs++[p,s,A]).map (xF .i64))):=aX m (fun k hk=>xR _ _ _ (m.lt k hk).2);have HN:Hid (∀ j u,[xF .i64 E][j]?=some u->(wr.alloc (.cells #[.int .i64 E] 3)).cell? ((⟨wr.heap.size,0,none⟩:Addr).add j)=some u):=xe (cs:=#[.int .i64 E]) (t:=3) (fr:=(0,0)) (heap_alloc_new wr _);have C:Below wr.heap.size wr (wr.alloc (.cells #[.int .i64 E] 3)):=(xa _ _).alloc (xd _) _;have L:=zAa (H.out.below C);have J:=zAa (HB.out.trans (C.mono D));have HC:Hid ((wr.alloc (.cells #[.int .i64 E] 3)).cell? ⟨g,1,none⟩=some (.slice Y (wd.regs.length+3) Z)):=(aT hg).trans aa;have F:Hid ((wr.alloc (.cells #[.int .i64 E] 3)).frozen? ⟨g,1,none⟩=false):=by
      unfold Hid;rw[xg (w:=wr) (a:=⟨g,1,none⟩) (xR _ _ _ hg)];exact W 1
     clear C;go_wp2_with (first | (at_builtin;(refine wpList_append_lies _ rfl (.tmp 46) (.tmp 48) 68 rfl B 3 i0 (.int .i64 0) 1 8 underlying68 ac ad ae af rfl (by decide) (.slice Y (wd.regs.length+3) Z) (wd.regs.length+3) ((wd.regs++[p,s,A]).map (xF .i64)) rfl (by exact M.out) ⟨wr.heap.size,0,none⟩ 1 1 [.int .i64 E] rfl rfl (by exact HN.out) (by simp[xh]) (by decide) (by unfold maxLen;omega) (by omega) (by simp;omega) _ rfl ?_;intro gn cn w1 l f G U;have c1:=(f.cell_far ⟨g,1,none⟩ (by simp;omega) (fun e=>z e.symm)).trans HC.out;have f1:=(f.frozen_far ⟨g,1,none⟩ (by simp;omega) (fun e=>z e.symm)).trans F.out;have T:g<w1.heap.size:=(by have:=f.size;simp at this;omega);have Q1:=zAa (WM.kG (x:=E) L.out (by simpa using l) f);have Q2:=zAa (J.out.trans (WM.bel (g:=g) (j:=1) (u:=.slice (some ⟨gn,0,none⟩) (wd.regs.length+3+1) cn) M.out X (by simp;omega) f));clear l f G)));go_roundw
     case rel =>
      refine⟨4,N,.slice (some ⟨gn,0,none⟩) (wd.regs.length+3+1) cn,by omega,by go_num,?_,Q2⟩;have y:=Q1.out;simp only[xW,xi,xj,xk,xn,xo] at y;exact y
     case measure=>simp[intOf]
    ·go_wp2;go_end0;refine⟨rfl,⟨N,.slice Y (wd.regs.length+4) Z,?_⟩,HB.out⟩;rw[HJ.out];have y:=H.out;simp only[xt,List.take_zero] at y;exact y
structure Er (w:World) (B:Nat) (v:Value) (rss:List (List Run)) (vs:List Value) (wss:List (List Value)):Prop where
 own:w.ownsRow B 133 1 v rss.length vs
 lv:vs.length=rss.length
 lw:wss.length=rss.length
 runs:∀ i (h:i<rss.length) (u:Value) (us:List Value),vs[i]?=some u->wss[i]?=some us->Es w 0 u rss[i] us
theorem Er.below (h:Er w B v rss vs wss) (a:Below w.heap.size w w'):Er w' B v rss vs wss :=
 ⟨aX h.own (fun k e=>a.block k (h.own.lt k e).2),h.lv,h.lw,fun i f u j b d=>(h.runs i f u j b d).below a⟩
structure WsOn (w:World) (g o:Nat) (rv:Value) (vs:List Value) (wss:List (List Value)) (gb gd:Nat) (rss:List (List Run)) (ds:List Int) (rest:List (List Int)):Prop where
 c0:w.cell? ⟨g,o,none⟩=some rv
 runs:Er w 0 rv rss vs wss
 ctr:zDS w g (o+1) gb gd (rss.map fun r=>(r.length:Int)) ds rest
theorem WsOn.below {f:Value} {e:Nat} {d:List Int} {rest:List (List Int)} (h:WsOn w g o f vs wss e gd rss d rest) (a:Below w.heap.size w w'):WsOn w' g o f vs wss e gd rss d rest:=by
 obtain⟨b,i⟩:=h.ctr.ctr;exact⟨(a.cell i.lt).trans h.c0,h.runs.below a,h.ctr.below a⟩
theorem uG (h:w.ownsRow B t sz v n xs) (f:Eu w w' g o gd) (j:w.heap[g]?=some (.cells c tg (0,0))) (b:t≠tg) (i:w.heap[gd]?=some (.cells cd 3 (0,0))) (d:t≠3):w'.ownsRow B t sz v n xs :=
 aX h (fun k e=>f.block k (fun a=>eD h j b (by rw[e,a])) (fun a=>eD h i d (by rw[e,a])))
theorem Er.cG (h:Er w B v rss vs wss) (a:Eu w w' g o gd) (d:w.heap[g]?=some (.cells c tg (0,0))) (k:133≠tg) (l:167≠tg) (m:146≠tg) (b:w.heap[gd]?=some (.cells cd 3 (0,0))):Er w' B v rss vs wss :=
 ⟨uG h.own a d k b (by decide),h.lv,h.lw,fun i p u y r f=>by
  have e:=h.runs i p u y r f;exact⟨uG e.own a d l b (by decide),e.len,fun j q x s=>uG (e.evs j q x s) a d m b (by decide)⟩⟩
theorem zFc (g o:Nat) (s:Value) (vs:List Value) (wss:List (List Value)) (j gd:Nat) (rss:List (List Run)) (l:List Int) (rest:List (List Int)) (c:Array Value) (tg:TypeId) (w:World) (h:WsOn w g o s vs wss j gd rss l rest) (p:w.heap[g]?=some (.cells c tg (0,0))) (m:133≠tg) (x:167≠tg) (y:146≠tg) (D:rss.length<10000) (A:∀ r∈rss,r.length<100000000) :
  Calls prog 70 #[.pointer (some ⟨g,o,none⟩)] w fun e w'=>((rest=[]/\e=.returned (.bool false))\/∃ r q,rest=r::q/\e=.returned (.bool true)/\WsOn w' g o s vs wss j gd rss r q/\kAy (rss.map fun r=>(r.length:Int)) r)/\Eu w w' g (o+1) gd:=by
 have H:=zAa h;have u:=zAa p;obtain⟨b,d⟩:=h.ctr.ctr;have E:=d.lt;have i:=zAa d.digits;clear h d p;go_enter func70,ntmps70;go_wp2_with (first | (go_at_call 84;refine (EX g (o+1) j gd _ l rest _ H.out.ctr (by simpa using D) (by intro b a;simp at a;obtain⟨r,f,rfl⟩:=a;have:=A r f;omega)).mono ?_;rintro e w' ⟨m,z⟩;have k:=zAa z;rcases m with ⟨f,rfl⟩ | ⟨r,q,f,rfl,d,C⟩))
 ·go_ret;exact⟨Or.inl ⟨f,rfl⟩,k.out⟩
 ·go_ret;have T:=k.out;exact⟨Or.inr ⟨r,q,f,rfl,⟨(T.cell o (by omega)).trans H.out.c0,H.out.runs.cG T u.out (by assumption) x y i.out,d⟩,C⟩,T⟩
end Go.Proofs.YtonodfjdiepglaaGreatDoor
