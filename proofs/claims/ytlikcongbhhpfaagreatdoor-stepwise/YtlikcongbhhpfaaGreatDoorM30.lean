import Derived.Test.YtlikcongbhhpfaaGreatDoorM29
set_option linter.unusedVariables false
set_option linter.unusedSimpArgs false
set_option maxHeartbeats 12800000
namespace Go.Proofs.YtlikcongbhhpfaaGreatDoor
open Go Go.RowKit Go.Proofs.Tryz P Q
set_option maxRecDepth 1000000
variable {w w' w1:World}{B cn g gd gn n o sz:Nat}{wd:Wd}{rg v:Value}{t tg:TypeId}{vs xs:List Value}{c cd:Array Value}{rss:List (List Run)}{wss:List (List Value)}
open List renaming length->L
open _root_.Array renaming size->D
open Go.World renaming heap->S
open Go.Value renaming int->Y,slice->N,bool->M
open Go.IntKind renaming i64->C
open Go.Obj renaming cells->O
open Option renaming none->I,some->G
open Go.Value renaming int->xF,oneCell'->xh,ownBlock->xp
open Go.RowKit.Below renaming heap_alloc->xR,refl->xa,heap_setCell->xc
open List renaming length_append->xW,append_assoc->xi,length_cons->xj,length_nil->xk,cons_append->xn,nil_append->xo,length_singleton->xq,map_append->xr,take_succ_cons->xt
open Go.World renaming cell?->xb,news_of_block->xe,frozen?_of_block->xg
open Nat renaming le_refl->xd
open Go.Instr renaming index->xm
structure WM(w:World)(B g:Nat)(wd:Wd)(ev rg:Value):Prop where
 box:w.heap[g]?=G (O #[ev,rg] 73 (0,0))
 K:w.ownsRow B 166 10 ev (L wd.E) (MY wd.E)
 rgs:w.ownsRow B 3 1 rg (L wd.g) (wd.g.map (xF C))
 ge:B<=g
theorem WM.lt{ev:Value}(h:WM w B g wd ev rg):g<D (S w):=(Array.getElem?_eq_some_iff.1 h.box).1
theorem WM.X{ev:Value}(h:WM w B g wd ev rg)(a:Below (D (S w)) w w'):WM w' B g wd ev rg :=
 ⟨(a.block g h.lt).trans h.box,aU h.K fun k e=>a.block k (h.K.lt k e).2,aU h.rgs fun k e=>a.block k (h.rgs.lt k e).2,h.ge⟩
theorem WM.F{ev:Value}(h:WM w B g wd ev rg):w.cell? ⟨g,0,I⟩=G ev/\w.cell? ⟨g,1,I⟩=G rg/\∀j,w.frozen? ⟨g,j,I⟩=false:=by
 refine⟨?_,?_,fun j=>?_⟩<;>simp[xb,World.frozen?,h.box]
theorem eD{d:TypeId}(h:w.ownsRow B t sz v n xs)(j:w.heap[g]?=G (O c d (0,0)))(k:t≠d):v.ownBlock≠G g:=fun e=>by
 rcases h.2 with⟨a,_⟩|⟨l,f,i,a,_,b,_⟩
 ·rw[a]at e;simp[xp]at e
 ·rw[a]at e;simp[xp]at e;subst e;rw[j]at b;simp at b;exact k b.2.symm
theorem WM.form{ev:Value}(h:WM w B g wd ev rg):(∃a c,ev=N a (L wd.E) c)/\∃a c,rg=N a (L wd.g) c:=by
 constructor
 ·rcases h.K.2 with⟨e,d⟩|⟨k,c,b,e,_⟩
  ·exact⟨I,0,by rw[e,d]⟩
  ·exact⟨_,c,e⟩
 ·rcases h.rgs.2 with⟨e,d⟩|⟨k,c,b,e,_⟩
  ·exact⟨I,0,by rw[e,d]⟩
  ·exact⟨_,c,e⟩
theorem WM.xE{ev:Value}{e:Ev}(h:WM w B g wd ev rg)(a:w1.ownsRow B 166 10 (JQ gn (L wd.E+1) cn) (L wd.E+1) (MY wd.E++(aD e).toList))(i:w.grownBy w1 ev.ownBlock):
  WM (w1.setCell ⟨g,0,I⟩ (JQ gn (L wd.E+1) cn)) B g ⟨wd.E++[e],wd.g⟩ (JQ gn (L wd.E+1) cn) rg:=by
 have b:w1.heap[g]?=G (O #[ev,rg] 73 (0,0)):=(i.block g h.lt fun e=>(eD h.K h.box (by decide)) e.symm).trans h.box;have f:=qI h.rgs h.K (by decide) i;refine⟨by rw[bC b];rfl,?_,aU f.1 fun k e=>xc _ _ _ _ fun d=>eD f.1 b (by decide) (by rw[e,d]),h.ge⟩;have d:MY (wd.E++[e])=MY wd.E++(aD e).toList:=by rw[XE,XG]
 simp only[xW,xq];rw[d];exact aU a fun k e=>xc _ _ _ _ fun d=>eD a b (by decide) (by rw[e,d])
theorem WM.kO{ev:Value}{x:Int}(h:WM w B g wd ev rg)(a:w1.ownsRow B 3 1 (JQ gn (L wd.g+1) cn) (L wd.g+1) (wd.g.map (xF C)++[Y C x]))(i:w.grownBy w1 rg.ownBlock):
  WM (w1.setCell ⟨g,1,I⟩ (JQ gn (L wd.g+1) cn)) B g ⟨wd.E,wd.g++[x]⟩ ev (JQ gn (L wd.g+1) cn):=by
 have b:w1.heap[g]?=G (O #[ev,rg] 73 (0,0)):=(i.block g h.lt fun e=>(eD h.rgs h.box (by decide)) e.symm).trans h.box;have f:=qI h.K h.rgs (by decide) i;refine⟨by rw[bC b];rfl,aU f.1 fun k e=>xc _ _ _ _ fun d=>eD f.1 b (by decide) (by rw[e,d]),?_,h.ge⟩;simp only[xW,xq,xr,List.map_cons,List.map_nil];exact aU a fun k e=>xc _ _ _ _ fun d=>eD a b (by decide) (by rw[e,d])
theorem WM.bel{j:Nat}{u:Value}(f:w.ownsRow B t sz v n xs)(b:B<=g)(d:B<=D (S w))(a:w.grownBy w1 v.ownBlock):Below B w (w1.setCell ⟨g,j,I⟩ u):=
 Below.setCell (p:=⟨g,j,I⟩) ⟨a.os,a.tape,a.output,a.size,fun k i=>a.block k (by omega) fun e=>by have:=(f.lt k e.symm).1;omega⟩ b _
theorem O6(a b c d:Int)(W:World):(xm 183 (.agg #[Y C a,Y C b,Y C c,Y C d]) (Y C 0)).run prog W=.ok (Y C a) W:=by kernel_rfl
theorem O7(a b c d:Int)(W:World):(xm 183 (.agg #[Y C a,Y C b,Y C c,Y C d]) (Y C 1)).run prog W=.ok (Y C b) W:=by kernel_rfl
theorem O8(a b c d:Int)(W:World):(xm 183 (.agg #[Y C a,Y C b,Y C c,Y C d]) (Y C 2)).run prog W=.ok (Y C c) W:=by kernel_rfl
theorem O9(a b c d:Int)(W:World):(xm 183 (.agg #[Y C a,Y C b,Y C c,Y C d]) (Y C 3)).run prog W=.ok (Y C d) W:=by kernel_rfl
theorem Pa(B g:Nat)(wd:Wd)(ev rg ar:Value)(r:Run)(w:World)(h:WM w B g wd ev rg)(hr:NC w ar r.E)(aY:∀k,ar.ownBlock=G k->k<B)(hB:B<=D (S w))(hl:L r.g=4)(hn:L wd.E+L r.E<=64)(bk:L wd.g<100)(aG:∀e∈r.E,e.h<MU):
  Calls prog 156 #[.pointer (G ⟨g,0,I⟩),.agg #[ar,Y C (r.g.getD 0 0),Y C (r.g.getD 1 0),Y C (r.g.getD 2 0),Y C (r.g.getD 3 0)]] w fun x w'=>x=.returned (.tuple #[])/\(∃ev' rg',WM w' B g (wd.join r) ev' rg')/\Below B w w':=by
 obtain⟨i0,ak,al,am,an⟩:=info_parts Tryz.NS;obtain⟨j0,aX,bc,bd,bf⟩:=info_parts Tryz.infoEvM;obtain⟨va,vc,rfl,bb⟩:=hr.form;obtain⟨p,s,A,T,aI⟩:∃a b c d,r.g=[a,b,c,d]:=by
  match hq:r.g,hl with
  |[a,b,c,d],_=>exact⟨a,b,c,d,Z⟩
 rw[aI];simp only[List.getD_cons_zero,List.getD_cons_succ];have HJ:JP (wd.join r=⟨wd.E++r.E.map (OO (L wd.E)),wd.g++[p,s,A,T]⟩):=by unfold JP Wd.join;rw[aI]
 obtain⟨k0,ba,av⟩:=gU w #[N va (L r.E) vc,Y C p,Y C s,Y C A,Y C T] 189;have ap:=JO (h.X av);have aP:=JO hr;have aO:=JO aG;have aK:=JO av;have bi:=h.lt;clear h av hr aG;go_enter func156,ntmps156;go_upto_region 1 with fail
 generalize hE:w.alloc (O #[N va (L r.E) vc,Y C p,Y C s,Y C A,Y C T] 189)=W0 at*;have K0:=JO k0;have c0:=aB k0 0 _ Z;obtain⟨⟨ea,ec,aW⟩,⟨ra,rc,aZ⟩⟩:=ap.o.form;obtain⟨m0,m1,mf⟩:=ap.o.F;subst aW aZ;clear hE k0 ba;go_wp2;go_loopw[17] (fun j wr=>∃(k:Nat) (aq:Value),k<=L r.E/\j=Y C k/\JP (WM wr B g ⟨wd.E++(r.E.take k).map (OO (L wd.E)),wd.g⟩ aq (N ra (L wd.g) rc))/\JP (wr.heap[D (S w)]?=G (O #[N va (L r.E) vc,Y C p,Y C s,Y C A,Y C T] 189 (0,0)))/\JP (Below B w wr)) fun j _=>L r.E-(intOf j).toNat
 case atStart=>exact⟨0,_,Nat.zero_le _,Z,by simpa[JP]using ap.o,K0,aK.o.mono hB⟩
 case round =>
  obtain⟨k,aq,hk,rfl,W,HK,HB⟩:=hrel;by_cases hlt:k<L r.E
  ·have bj:(k:Int)<(L r.E:Int):=by omega
   obtain⟨be,rfl,bh⟩:=bb (by omega);have aQ:JP (wr.rangeAt be (k*10) (aD (Q.ev r.E k)).toList):=eH (aP.o.bV Z k hlt) (HB.o.block be (aY be Z));have bq:be<D (S wr):=by have:=HB.o.size;omega
   have hh:(Q.ev r.E k).h<MU:=by rw[sX r.E k hlt];exact aO.o _ (List.getElem_mem hlt)
   have aR:JP ((r.E.take (k+1)).map (OO (L wd.E))=(r.E.take k).map (OO (L wd.E))++[OO (L wd.E) (Q.ev r.E k)]):=by
    unfold JP;rw[List.take_succ_eq_append_getElem hlt,xr,sX r.E k hlt];rfl
   have aM:JP (OO (L wd.E) (Q.ev r.E k)={Q.ev r.E k with h:=OT (Q.ev r.E k).h (L wd.E:Int)}):=Z;generalize Q.ev r.E k=f at*;generalize aF:OT f.h (L wd.E:Int)=mv at*;have aN:=JO aF;clear aF;go_upto_region 6 with(first|(refine cA (.tmp 19) Z Z be (k*10) f Z aQ.o ?_)|(go_at_call 178;refine(Hz f.h (L wd.E:Int) _ hh).mono ?_;rintro e w' ⟨rfl,aw⟩;have aw:=aw.symm;subst aw;rw[aN.o]))
   have E1:JP (KO (wr.alloc (O #[Y C f.k,Y C f.j,Y C f.block,Y C f.z,Y C f.value,Y C f.q,Y C f.scope,Y C f.u,M f.step,Y .u64 (mv:Nat)] 166)) (D (S wr)) {f with h:=mv}):=heap_alloc_new wr _;have BX:Below (D (S wr)) wr (wr.alloc (O #[Y C f.k,Y C f.j,Y C f.block,Y C f.z,Y C f.value,Y C f.q,Y C f.scope,Y C f.u,M f.step,Y .u64 (mv:Nat)] 166)):=(xa _ _).alloc (xd _) _;have ab:=JO (W.o.X BX);have ax:=JO ((BX.block _ (Array.getElem?_eq_some_iff.1 HK.o).1).trans HK.o);have J:B<=D (S wr):=by have:=HB.o.size;omega
   have aL:JP (Below B w (wr.alloc (O #[Y C f.k,Y C f.j,Y C f.block,Y C f.z,Y C f.value,Y C f.q,Y C f.scope,Y C f.u,M f.step,Y .u64 (mv:Nat)] 166))):=HB.o.trans (BX.mono J);have bl:D (S wr)+1<=(wr.alloc (O #[Y C f.k,Y C f.j,Y C f.block,Y C f.z,Y C f.value,Y C f.q,Y C f.scope,Y C f.u,M f.step,Y .u64 (mv:Nat)] 166)).heap.size:=by simp
   obtain⟨x0,x1,x2,x3,x4,x5,x6,x7,x8,x9,xf,xl⟩:=gL (heap_alloc_new wr (O #[Y C f.k,Y C f.j,Y C f.block,Y C f.z,Y C f.value,Y C f.q,Y C f.scope,Y C f.u,M f.step,Y .u64 (mv:Nat)] 166));generalize aT:wr.alloc (O #[Y C f.k,Y C f.j,Y C f.block,Y C f.z,Y C f.value,Y C f.q,Y C f.scope,Y C f.u,M f.step,Y .u64 (mv:Nat)] 166)=W1 at*;generalize bg:D (S wr)=b1 at*;clear aT BX;have aE:(wd.E++(r.E.take k).map (OO (L wd.E))).length=L wd.E+k:=by simp;omega
   obtain⟨⟨ka,kc,ae⟩,_⟩:=ab.o.form;simp only at ae;have m:=ab.o.K;simp only at m;generalize au:wd.E++(r.E.take k).map (OO (L wd.E))=ES at*;subst ae;obtain⟨az,ai,ag⟩:=ab.o.F;have hg:=ab.o.lt;have ah:=ab.o.ge;have y:=eD m ab.o.box (by decide);have HO:JP ((W1.drew.alloc (O #[Y C f.k,Y C f.j,Y C f.block,Y C f.z,Y C f.value,Y C f.q,Y C f.scope,Y C f.u,M f.step,Y .u64 (mv:Nat)] 166)).ownsRow B 166 10 (N ka ES.length kc) ES.length (MY ES)):=aU m fun k hk=>xR _ _ _ (m.lt k hk).2;have HN:JP (∀j u,([Y C f.k,Y C f.j,Y C f.block,Y C f.z,Y C f.value,Y C f.q,Y C f.scope,Y C f.u,M f.step,Y .u64 (mv:Nat)]:List Value)[j]?=G u->(W1.drew.alloc (O #[Y C f.k,Y C f.j,Y C f.block,Y C f.z,Y C f.value,Y C f.q,Y C f.scope,Y C f.u,M f.step,Y .u64 (mv:Nat)] 166)).cell? ((⟨D (S W1),0,I⟩:Addr).add j)=G u):=
    xe (cs:=#[Y C f.k,Y C f.j,Y C f.block,Y C f.z,Y C f.value,Y C f.q,Y C f.scope,Y C f.u,M f.step,Y .u64 (mv:Nat)]) (t:=166) (fr:=(0,0)) (heap_alloc_new W1.drew _)
   have HC:JP ((W1.drew.alloc (O #[Y C f.k,Y C f.j,Y C f.block,Y C f.z,Y C f.value,Y C f.q,Y C f.scope,Y C f.u,M f.step,Y .u64 (mv:Nat)] 166)).cell? ⟨g,0,I⟩=G (N ka ES.length kc)):=(aH (w:=W1.drew) hg).trans az;have U:JP ((W1.drew.alloc (O #[Y C f.k,Y C f.j,Y C f.block,Y C f.z,Y C f.value,Y C f.q,Y C f.scope,Y C f.u,M f.step,Y .u64 (mv:Nat)] 166)).frozen? ⟨g,0,I⟩=false):=by
    unfold JP;rw[xg (w:=W1.drew) (a:=⟨g,0,I⟩) (xR _ _ _ hg)];exact ag 0
   have aA:B<=D (S W1):=by omega
   have aS:ES.length<=64:=by omega
   clear aE;go_region_law(refine step_append_lies _ Z (.tmp 30) (.tmp 32) 71 Z B 166 j0 (.agg (aD Ev.zero)) 10 80 underlying71 aX bc bd bf Z (by decide) (N ka ES.length kc) ES.length (MY ES) (by simp[Act.eval]) (by exact HO.o) ⟨D (S W1),0,I⟩ 1 1 [Y C f.k,Y C f.j,Y C f.block,Y C f.z,Y C f.value,Y C f.q,Y C f.scope,Y C f.u,M f.step,Y .u64 (mv:Nat)] (by simp[Act.eval]) Z (by exact HN.o) (by simp[xh]) (by decide) (by unfold maxLen;omega) (by omega) (by simp;omega) (D (S W1)+1) (by simp) ?_;intro gn cn w1 l i aj af;have c1:=(i.cell_far ⟨g,0,I⟩ (by simp;omega) fun e=>y e.symm).trans HC.o;have f1:=(i.frozen_far ⟨g,0,I⟩ (by simp;omega) fun e=>y e.symm).trans U.o)
   all_goals
    have V:Below (D (S W1)) W1 (W1.drew.alloc (O #[Y C f.k,Y C f.j,Y C f.block,Y C f.z,Y C f.value,Y C f.q,Y C f.scope,Y C f.u,M f.step,Y .u64 (mv:Nat)] 166)):=((xa _ _).drew).alloc (by simp) _;have Q1:=JO (WM.xE (e:={f with h:=mv}) (ab.o.X V) l i);have Q2:JP (Below B w (w1.setCell ⟨g,0,I⟩ (JQ gn (ES.length+1) cn))):=(aL.o.trans (V.mono aA)).trans (WM.bel HO.o ah (by simp;omega) i);have Q3:JP ((w1.setCell ⟨g,0,I⟩ (JQ gn (ES.length+1) cn)).heap[D (S w)]?=G (O #[JQ be (L r.E) vc,Y C p,Y C s,Y C A,Y C T] 189 (0,0))):=by
     have H:=(V.block _ (Array.getElem?_eq_some_iff.1 ax.o).1).trans ax.o;unfold JP;rw[xc _ _ _ _ (by simp;omega),i.block _ (Array.getElem?_eq_some_iff.1 H).1 fun e=>(eD HO.o H (by decide)) e.symm];exact H
    clear l i V
    (try go_wp2)
    go_roundw
    case rel =>
     refine⟨k+1,JQ gn (ES.length+1) cn,by omega,by go_num,?_,Q3,Q2⟩;unfold JP;rw[aR.o,aM.o,<- xi,au];exact Q1.o
    case measure=>simp[intOf];omega
  ·have aC:k=L r.E:=by omega
   have ay:JP (WM wr B g ⟨wd.E++r.E.map (OO (L wd.E)),wd.g⟩ aq (N ra (L wd.g) rc)):=by
    have H:=W.o;rw[aC,List.take_length]at H;exact H
   obtain⟨⟨ka,kc,ae⟩,_⟩:=ay.o.form;simp only at ae;generalize au:wd.E++r.E.map (OO (L wd.E))=ES at*;have b1:wr.cell? ⟨D (S w),1,I⟩=G (Y C p):=by simp[xb,HK.o]
   have b2:wr.cell? ⟨D (S w),2,I⟩=G (Y C s):=by simp[xb,HK.o]
   have b3:wr.cell? ⟨D (S w),3,I⟩=G (Y C A):=by simp[xb,HK.o]
   have b4:wr.cell? ⟨D (S w),4,I⟩=G (Y C T):=by simp[xb,HK.o]
   clear W au aC;go_wp2;clear b1 b2 b3 b4 hlt hk;go_loopw[39] (fun j wq=>∃(q:Nat) (ad aJ:Value),q<=4/\j=Y C q/\JP (WM wq B g ⟨ES,wd.g++[p,s,A,T].take q⟩ ad aJ)/\JP (Below B w wq)) fun j _=>4-(intOf j).toNat
   case atStart=>exact⟨0,_,_,by omega,Z,by simpa[JP]using ay.o,HB⟩
   case round =>
    obtain⟨q,ad,aJ,hq,rfl,W,HB⟩:=hrel;have aV:q=0\/q=1\/q=2\/q=3\/q=4:=by omega
    have J:B<=D (S wr):=by have:=HB.o.size;omega
    have ah:=W.o.ge;have hg:=W.o.lt;obtain⟨az,ai,ag⟩:=W.o.F;have y:=eD W.o.rgs W.o.box (by decide);have m:=W.o.rgs;obtain⟨_,qa,qc,ao⟩:=W.o.form;have bm:=O6 p s A T;have bn:=O7 p s A T;have bo:=O8 p s A T;have bp:=O9 p s A T
    rcases aV with rfl|rfl|rfl|rfl|rfl
    all_goals
     simp only[xt,List.take_zero,List.append_nil,xW,xj,xk,Nat.zero_add,Nat.reduceAdd,Nat.add_zero]at ao m;subst ao
    ·have HO:JP ((wr.alloc (O #[Y C p] 3)).ownsRow B 3 1 (N qa (L wd.g) qc) (L wd.g) (wd.g.map (xF C))):=aU m fun k hk=>xR _ _ _ (m.lt k hk).2;have HN:JP (∀j u,[xF C p][j]?=G u->(wr.alloc (O #[Y C p] 3)).cell? ((⟨D (S wr),0,I⟩:Addr).add j)=G u):=xe (cs:=#[Y C p]) (t:=3) (fr:=(0,0)) (heap_alloc_new wr _);have V:Below (D (S wr)) wr (wr.alloc (O #[Y C p] 3)):=(xa _ _).alloc (xd _) _;have ac:=JO (W.o.X V);have aa:=JO (HB.o.trans (V.mono J));have HC:JP ((wr.alloc (O #[Y C p] 3)).cell? ⟨g,1,I⟩=G (N qa (L wd.g) qc)):=(aH hg).trans ai;have U:JP ((wr.alloc (O #[Y C p] 3)).frozen? ⟨g,1,I⟩=false):=by
      unfold JP;rw[xg (w:=wr) (a:=⟨g,1,I⟩) (xR _ _ _ hg)];exact ag 1
     go_wp2_with(first|(at_builtin;(refine wpList_append_lies _ Z (.tmp 46) (.tmp 48) 31 Z B 3 i0 (Y C 0) 1 8 underlying31 ak al am an Z (by decide) (N qa (L wd.g) qc) (L wd.g) (wd.g.map (xF C)) Z (by exact HO.o) ⟨D (S wr),0,I⟩ 1 1 [Y C p] Z Z (by exact HN.o) (by simp[xh]) (by decide) (by unfold maxLen;omega) (by omega) (by simp;omega) _ Z ?_;intro gn cn w1 l i aj af;have c1:=(i.cell_far ⟨g,1,I⟩ (by simp;omega) fun e=>y e.symm).trans HC.o;have f1:=(i.frozen_far ⟨g,1,I⟩ (by simp;omega) fun e=>y e.symm).trans U.o;have Q1:=JO (WM.kO (x:=p) ac.o (by simpa using l) i);have Q2:=JO (aa.o.trans (WM.bel (g:=g) (j:=1) (u:=JQ gn (L wd.g+1) cn) HO.o ah (by simp;omega) i)))));go_roundw
     case rel =>
      refine⟨1,ad,JQ gn (L wd.g+1) cn,by omega,by go_num,?_,Q2⟩;have H:=Q1.o;simp only[xW,xi,xj,xk,xn,xo]at H;exact H
     case measure=>simp[intOf]
    ·have HO:JP ((wr.alloc (O #[Y C s] 3)).ownsRow B 3 1 (N qa (L wd.g+1) qc) (L wd.g+1) ((wd.g++[p]).map (xF C))):=aU m fun k hk=>xR _ _ _ (m.lt k hk).2;have HN:JP (∀j u,[xF C s][j]?=G u->(wr.alloc (O #[Y C s] 3)).cell? ((⟨D (S wr),0,I⟩:Addr).add j)=G u):=xe (cs:=#[Y C s]) (t:=3) (fr:=(0,0)) (heap_alloc_new wr _);have V:Below (D (S wr)) wr (wr.alloc (O #[Y C s] 3)):=(xa _ _).alloc (xd _) _;have ac:=JO (W.o.X V);have aa:=JO (HB.o.trans (V.mono J));have HC:JP ((wr.alloc (O #[Y C s] 3)).cell? ⟨g,1,I⟩=G (N qa (L wd.g+1) qc)):=(aH hg).trans ai;have U:JP ((wr.alloc (O #[Y C s] 3)).frozen? ⟨g,1,I⟩=false):=by
      unfold JP;rw[xg (w:=wr) (a:=⟨g,1,I⟩) (xR _ _ _ hg)];exact ag 1
     go_wp2_with(first|(at_builtin;(refine wpList_append_lies _ Z (.tmp 46) (.tmp 48) 31 Z B 3 i0 (Y C 0) 1 8 underlying31 ak al am an Z (by decide) (N qa (L wd.g+1) qc) (L wd.g+1) ((wd.g++[p]).map (xF C)) Z (by exact HO.o) ⟨D (S wr),0,I⟩ 1 1 [Y C s] Z Z (by exact HN.o) (by simp[xh]) (by decide) (by unfold maxLen;omega) (by omega) (by simp;omega) _ Z ?_;intro gn cn w1 l i aj af;have c1:=(i.cell_far ⟨g,1,I⟩ (by simp;omega) fun e=>y e.symm).trans HC.o;have f1:=(i.frozen_far ⟨g,1,I⟩ (by simp;omega) fun e=>y e.symm).trans U.o;have Q1:=JO (WM.kO (x:=s) ac.o (by simpa using l) i);have Q2:=JO (aa.o.trans (WM.bel (g:=g) (j:=1) (u:=JQ gn (L wd.g+1+1) cn) HO.o ah (by simp;omega) i)))));go_roundw
     case rel =>
      refine⟨2,ad,JQ gn (L wd.g+1+1) cn,by omega,by go_num,?_,Q2⟩;have H:=Q1.o;simp only[xW,xi,xj,xk,xn,xo]at H;exact H
     case measure=>simp[intOf]
    ·have HO:JP ((wr.alloc (O #[Y C A] 3)).ownsRow B 3 1 (N qa (L wd.g+2) qc) (L wd.g+2) ((wd.g++[p,s]).map (xF C))):=aU m fun k hk=>xR _ _ _ (m.lt k hk).2;have HN:JP (∀j u,[xF C A][j]?=G u->(wr.alloc (O #[Y C A] 3)).cell? ((⟨D (S wr),0,I⟩:Addr).add j)=G u):=xe (cs:=#[Y C A]) (t:=3) (fr:=(0,0)) (heap_alloc_new wr _);have V:Below (D (S wr)) wr (wr.alloc (O #[Y C A] 3)):=(xa _ _).alloc (xd _) _;have ac:=JO (W.o.X V);have aa:=JO (HB.o.trans (V.mono J));have HC:JP ((wr.alloc (O #[Y C A] 3)).cell? ⟨g,1,I⟩=G (N qa (L wd.g+2) qc)):=(aH hg).trans ai;have U:JP ((wr.alloc (O #[Y C A] 3)).frozen? ⟨g,1,I⟩=false):=by
      unfold JP;rw[xg (w:=wr) (a:=⟨g,1,I⟩) (xR _ _ _ hg)];exact ag 1
     go_wp2_with(first|(at_builtin;(refine wpList_append_lies _ Z (.tmp 46) (.tmp 48) 31 Z B 3 i0 (Y C 0) 1 8 underlying31 ak al am an Z (by decide) (N qa (L wd.g+2) qc) (L wd.g+2) ((wd.g++[p,s]).map (xF C)) Z (by exact HO.o) ⟨D (S wr),0,I⟩ 1 1 [Y C A] Z Z (by exact HN.o) (by simp[xh]) (by decide) (by unfold maxLen;omega) (by omega) (by simp;omega) _ Z ?_;intro gn cn w1 l i aj af;have c1:=(i.cell_far ⟨g,1,I⟩ (by simp;omega) fun e=>y e.symm).trans HC.o;have f1:=(i.frozen_far ⟨g,1,I⟩ (by simp;omega) fun e=>y e.symm).trans U.o;have Q1:=JO (WM.kO (x:=A) ac.o (by simpa using l) i);have Q2:=JO (aa.o.trans (WM.bel (g:=g) (j:=1) (u:=JQ gn (L wd.g+2+1) cn) HO.o ah (by simp;omega) i)))));go_roundw
     case rel =>
      refine⟨3,ad,JQ gn (L wd.g+2+1) cn,by omega,by go_num,?_,Q2⟩;have H:=Q1.o;simp only[xW,xi,xj,xk,xn,xo]at H;exact H
     case measure=>simp[intOf]
    ·have HO:JP ((wr.alloc (O #[Y C T] 3)).ownsRow B 3 1 (N qa (L wd.g+3) qc) (L wd.g+3) ((wd.g++[p,s,A]).map (xF C))):=aU m fun k hk=>xR _ _ _ (m.lt k hk).2;have HN:JP (∀j u,[xF C T][j]?=G u->(wr.alloc (O #[Y C T] 3)).cell? ((⟨D (S wr),0,I⟩:Addr).add j)=G u):=xe (cs:=#[Y C T]) (t:=3) (fr:=(0,0)) (heap_alloc_new wr _);have V:Below (D (S wr)) wr (wr.alloc (O #[Y C T] 3)):=(xa _ _).alloc (xd _) _;have ac:=JO (W.o.X V);have aa:=JO (HB.o.trans (V.mono J));have HC:JP ((wr.alloc (O #[Y C T] 3)).cell? ⟨g,1,I⟩=G (N qa (L wd.g+3) qc)):=(aH hg).trans ai;have U:JP ((wr.alloc (O #[Y C T] 3)).frozen? ⟨g,1,I⟩=false):=by
      unfold JP;rw[xg (w:=wr) (a:=⟨g,1,I⟩) (xR _ _ _ hg)];exact ag 1
     go_wp2_with(first|(at_builtin;(refine wpList_append_lies _ Z (.tmp 46) (.tmp 48) 31 Z B 3 i0 (Y C 0) 1 8 underlying31 ak al am an Z (by decide) (N qa (L wd.g+3) qc) (L wd.g+3) ((wd.g++[p,s,A]).map (xF C)) Z (by exact HO.o) ⟨D (S wr),0,I⟩ 1 1 [Y C T] Z Z (by exact HN.o) (by simp[xh]) (by decide) (by unfold maxLen;omega) (by omega) (by simp;omega) _ Z ?_;intro gn cn w1 l i aj af;have c1:=(i.cell_far ⟨g,1,I⟩ (by simp;omega) fun e=>y e.symm).trans HC.o;have f1:=(i.frozen_far ⟨g,1,I⟩ (by simp;omega) fun e=>y e.symm).trans U.o;have Q1:=JO (WM.kO (x:=T) ac.o (by simpa using l) i);have Q2:=JO (aa.o.trans (WM.bel (g:=g) (j:=1) (u:=JQ gn (L wd.g+3+1) cn) HO.o ah (by simp;omega) i)))));go_roundw
     case rel =>
      refine⟨4,ad,JQ gn (L wd.g+3+1) cn,by omega,by go_num,?_,Q2⟩;have H:=Q1.o;simp only[xW,xi,xj,xk,xn,xo]at H;exact H
     case measure=>simp[intOf]
    ·go_wp2;go_end0;refine⟨Z,⟨ad,N qa (L wd.g+4) qc,?_⟩,HB.o⟩;rw[HJ.o];have H:=W.o;simp only[xt,List.take_zero]at H;exact H
structure Em(w:World)(B:Nat)(v:Value)(rss:List (List Run))(vs:List Value)(wss:List (List Value)):Prop where
 ow:w.ownsRow B 154 1 v (L rss) vs
 lv:L vs=L rss
 lw:L wss=L rss
 U:∀i (h:i<L rss) (u:Value) (us:List Value),vs[i]?=G u->wss[i]?=G us->En w 0 u rss[i] us
theorem Em.X(h:Em w B v rss vs wss)(a:Below (D (S w)) w w'):Em w' B v rss vs wss :=
 ⟨aU h.ow fun k e=>a.block k (h.ow.lt k e).2,h.lv,h.lw,fun i f u j b d=>(h.U i f u j b d).X a⟩
structure WsOn(w:World)(g o:Nat)(rv:Value)(vs:List Value)(wss:List (List Value))(gb gd:Nat)(rss:List (List Run))(ds:List Int)(rest:List (List Int)):Prop where
 c0:w.cell? ⟨g,o,I⟩=G rv
 U:Em w 0 rv rss vs wss
 ML:PH w g (o+1) gb gd (rss.map fun r=>(L r:Int)) ds rest
theorem WsOn.X{f:Value}{e:Nat}{d:List Int}{rest:List (List Int)}(h:WsOn w g o f vs wss e gd rss d rest)(a:Below (D (S w)) w w'):WsOn w' g o f vs wss e gd rss d rest:=by
 obtain⟨b,i⟩:=h.ML.ML;exact⟨(a.cell i.lt).trans h.c0,h.U.X a,h.ML.X a⟩
theorem wV(h:w.ownsRow B t sz v n xs)(f:Ep w w' g o gd)(j:w.heap[g]?=G (O c tg (0,0)))(b:t≠tg)(i:w.heap[gd]?=G (O cd 3 (0,0)))(d:t≠3):w'.ownsRow B t sz v n xs :=
 aU h fun k e=>f.block k (fun a=>eD h j b (by rw[e,a])) fun a=>eD h i d (by rw[e,a])
theorem Em.bS(h:Em w B v rss vs wss)(a:Ep w w' g o gd)(d:w.heap[g]?=G (O c tg (0,0)))(k:154≠tg)(l:189≠tg)(m:166≠tg)(b:w.heap[gd]?=G (O cd 3 (0,0))):Em w' B v rss vs wss :=
 ⟨wV h.ow a d k b (by decide),h.lv,h.lw,fun i p u y r f=>by
  have e:=h.U i p u y r f;exact⟨wV e.ow a d l b (by decide),e.len,fun j q x s=>wV (e.K j q x s) a d m b (by decide)⟩⟩
theorem ZL(g o:Nat)(p:Value)(vs:List Value)(wss:List (List Value))(i gd:Nat)(rss:List (List Run))(l:List Int)(rest:List (List Int))(c:Array Value)(tg:TypeId)(w:World)(h:WsOn w g o p vs wss i gd rss l rest)(E:w.heap[g]?=G (O c tg (0,0)))(m:154≠tg)(u:189≠tg)(x:166≠tg)(F:L rss<10000)(z:∀r∈rss,L r<100000000):
  Calls prog 105 #[.pointer (G ⟨g,o,I⟩)] w fun e w'=>(rest=[]/\e=.returned (M false)\/∃r q,rest=r::q/\e=.returned (M true)/\WsOn w' g o p vs wss i gd rss r q/\MV (rss.map fun r=>(L r:Int)) r)/\Ep w w' g (o+1) gd:=by
 have H:=JO h;have s:=JO E;obtain⟨b,j⟩:=h.ML.ML;have f:=JO j.digits;go_enter func105,ntmps105;go_wp2_with(first|(go_at_call 117;refine(GM g (o+1) i gd _ l rest _ H.o.ML (by simpa using F) (by intro b a;simp at a;obtain⟨r,d,rfl⟩:=a;have:=z r d;omega)).mono ?_;rintro e w' ⟨m,y⟩;have k:=JO y;rcases m with⟨d,rfl⟩|⟨r,q,d,rfl,j,A⟩))
 ·go_ret;exact⟨Or.inl ⟨d,Z⟩,k.o⟩
 ·go_ret;have T:=k.o;exact⟨Or.inr ⟨r,q,d,Z,⟨(T.cell o (by omega)).trans H.o.c0,H.o.U.bS T s.o (by assumption) u x f.o,j⟩,A⟩,T⟩
end Go.Proofs.YtlikcongbhhpfaaGreatDoor
