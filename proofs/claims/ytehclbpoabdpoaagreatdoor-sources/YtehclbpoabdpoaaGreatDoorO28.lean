import Derived.Test.YtehclbpoabdpoaaGreatDoorO27
import Derived.Test.YtehclbpoabdpoaaGreatDoorO24
set_option linter.all false
set_option maxHeartbeats 0
namespace Go.Proofs.YtehclbpoabdpoaaGreatDoor
open Go Go.RowKit Go.Proofs.Tryz P Q
open scoped Classical
set_option maxRecDepth 1000000
variable {w w' w1:World}{B B' cn g gn n n' o sz sz':Nat}{wd:Q.Wd}{rg u v:Value}{t t' tg:TypeId}{vs xs xs':List Value}{rss:List (List Run)}{wss:List (List Value)}{cd:Array Value}{rs:List Run}
open List renaming length->L
open _root_.Array renaming size->D
open Go.World renaming heap->A,cell?->J
open Go.Value renaming slice->Y,int->I
open Go.IntKind renaming i64->C
open Option renaming none->O,some->N
open Go.Obj renaming cells->G
open Go.Ending renaming returned->M
open Nat renaming le_refl->xF,zero_le->xb
open Go.Value renaming int->xR,oneCell'->xk,ownBlock->xn
open Go.RowKit.Below renaming heap_alloc->xW,refl->xc,heap_setCell->xd
open Go.World renaming cell?->xa,news_of_block->xj,ownsRow_nil->xm,frozen?_of_block->xq
open Or renaming inl->xe,inr->xg
open List renaming map_append->xh,getElem_mem->xi,length_append->xo,length_singleton->xp,append_assoc->xr,drop_eq_getElem_cons->xt,getElem?_eq_getElem->xu,drop_eq_nil_of_le->xv,getElem?_append_left->xw,getElem?_append_right->xx,take_of_length_le->xy
structure WM(w:World)(B g:Nat)(wd:Q.Wd)(ev rg:Value):Prop where
 box:w.heap[g]?=N (G #[ev,rg] 80 (0,0))
 K:w.ownsRow B 180 10 ev (L wd.E) (PB wd.E)
 rgs:w.ownsRow B 3 1 rg (L wd.g) (wd.g.map (xR C))
 ge:B<=g
def WM.lt{ev:Value}(h:WM w B g wd ev rg):g<D (A w):=(Array.getElem?_eq_some_iff.1 h.box).1
def WM.X{ev:Value}(h:WM w B g wd ev rg)(a:Below (D (A w)) w w'):WM w' B g wd ev rg :=
 ⟨(a.block g h.lt).trans h.box,bE h.K fun k e=>a.block k (h.K.lt k e).2,bE h.rgs fun k e=>a.block k (h.rgs.lt k e).2,h.ge⟩
def WM.F{ev:Value}(h:WM w B g wd ev rg):J w ⟨g,0,O⟩=N ev/\J w ⟨g,1,O⟩=N rg/\∀j,w.frozen? ⟨g,j,O⟩=false:=by
 refine⟨?_,?_,fun j=>?_⟩<;>simp[xa,World.frozen?,h.box]
def gB{c:Array Value}(h:w.ownsRow B t sz v n xs)(f:w.heap[g]?=N (G c t' (0,0)))(i:t≠t'):v.ownBlock≠N g:=fun e=>by
 rcases h.2 with⟨e1,_⟩|⟨j,b,d,e1,_,a,_⟩
 ·rw[e1]at e;simp[xn]at e
 ·rw[e1]at e;simp[xn]at e;subst e;rw[f]at a;simp at a;exact i a.2.symm
def WM.form{ev:Value}(h:WM w B g wd ev rg):(∃a c,ev=Y a (L wd.E) c)/\∃a c,rg=Y a (L wd.g) c:=by
 constructor
 ·rcases h.K.2 with⟨e,d⟩|⟨k,c,b,e,_⟩
  ·exact⟨O,0,by rw[e,d]⟩
  ·exact⟨_,c,e⟩
 ·rcases h.rgs.2 with⟨e,d⟩|⟨k,c,b,e,_⟩
  ·exact⟨O,0,by rw[e,d]⟩
  ·exact⟨_,c,e⟩
def WM.zO{ev:Value}{e:Ev}(h:WM w B g wd ev rg)(a:w1.ownsRow B 180 10 (MU gn (L wd.E+1) cn) (L wd.E+1) (PB wd.E++(aG e).toList))(d:w.grownBy w1 ev.ownBlock):
  WM (w1.setCell ⟨g,0,O⟩ (MU gn (L wd.E+1) cn)) B g ⟨wd.E++[e],wd.g⟩ (MU gn (L wd.E+1) cn) rg:=by
 have b:w1.heap[g]?=N (G #[ev,rg] 80 (0,0)):=(d.block g h.lt fun e=>(gB h.K h.box (by decide)) e.symm).trans h.box;have c:=tY h.rgs h.K (by decide) d;refine⟨by rw[bX b];rfl,?_,bE c.1 fun k e=>xd _ _ _ _ fun e2=>gB c.1 b (by decide) (by rw[e,e2]),h.ge⟩;have e2:PB (wd.E++[e])=PB wd.E++(aG e).toList:=by rw[YE,YF]
 simp only[xo,xp];rw[e2];exact bE a fun k e=>xd _ _ _ _ fun e2=>gB a b (by decide) (by rw[e,e2])
def WM.zX{ev:Value}{x:Int}(h:WM w B g wd ev rg)(a:w1.ownsRow B 3 1 (MU gn (L wd.g+1) cn) (L wd.g+1) (wd.g.map (xR C)++[I C x]))(d:w.grownBy w1 rg.ownBlock):
  WM (w1.setCell ⟨g,1,O⟩ (MU gn (L wd.g+1) cn)) B g ⟨wd.E,wd.g++[x]⟩ ev (MU gn (L wd.g+1) cn):=by
 have b:w1.heap[g]?=N (G #[ev,rg] 80 (0,0)):=(d.block g h.lt fun e=>(gB h.rgs h.box (by decide)) e.symm).trans h.box;have c:=tY h.K h.rgs (by decide) d;refine⟨by rw[bX b];rfl,bE c.1 fun k e=>xd _ _ _ _ fun e2=>gB c.1 b (by decide) (by rw[e,e2]),?_,h.ge⟩;simp only[xo,xp,xh,List.map_cons,List.map_nil];exact bE a fun k e=>xd _ _ _ _ fun e2=>gB a b (by decide) (by rw[e,e2])
def WM.bel{j:Nat}(d:w.ownsRow B t sz v n xs)(b:B<=g)(c:B<=D (A w))(a:w.grownBy w1 v.ownBlock):Below B w (w1.setCell ⟨g,j,O⟩ u):=
 Below.setCell (p:=⟨g,j,O⟩) ⟨a.os,a.tape,a.output,a.size,fun k f=>a.block k (by omega) fun e=>by have:=(d.lt k e.symm).1;omega⟩ b _
abbrev mT(e1:Ev)(mv:Nat):Array Value:=#[I C e1.B,I C e1.j,I C e1.block,I C e1.z,I C e1.value,I C e1.q,I C e1.scope,I C e1.u,.bool e1.step,I .u64 (mv:Nat)]
def Po(B g:Nat)(wd:Q.Wd)(ev rg ai:Value)(r:Run)(w:World)(h:WM w B g wd ev rg)(hr:PH w ai r.E)(aV:∀k,ai.ownBlock=N k->k<B)(hB:B<=D (A w))(hl:L r.g=4)(hn:L wd.E+L r.E<=64)(bm:L wd.g<100)(aU:∀e∈r.E,e.h<OW):
  Calls prog 136 #[.pointer (N ⟨g,0,O⟩),.agg #[ai,I C (r.g.getD 0 0),I C (r.g.getD 1 0),I C (r.g.getD 2 0),I C (r.g.getD 3 0)]] w fun x w'=>x=M (.tuple #[])/\(∃ev' rg',WM w' B g (wd.join r) ev' rg')/\Below B w w':=by
 obtain⟨i0,aP,bb,bc,bd⟩:=info_parts Tryz.PX;obtain⟨j0,aQ,aY,aZ,ba⟩:=info_parts Tryz.infoEvM;obtain⟨va,vc,rfl,aX⟩:=hr.form;obtain⟨H,S,T,U,aw⟩:∃a b c d,r.g=[a,b,c,d]:=by
  match hq:r.g,hl with
  |[a,b,c,d],_=>exact⟨a,b,c,d,Z⟩
 rw[aw];simp only[List.getD_cons_zero,List.getD_cons_succ];have HJ:MT (wd.join r=⟨wd.E++r.E.map (QT (L wd.E)),wd.g++[H,S,T,U]⟩):=by unfold MT Q.Wd.join;rw[aw]
 obtain⟨k0,bn,ar⟩:=lW w #[Y va (L r.E) vc,I C H,I C S,I C T,I C U] 209;have af:=MS (h.X ar);have aE:=MS hr;have aD:=MS aU;have ax:=MS ar;have bj:=h.lt;go_enter func136,ntmps136;go_upto_region 1 with fail
 generalize hE:w.alloc (G #[Y va (L r.E) vc,I C H,I C S,I C T,I C U] 209)=W0 at*;have K0:=MS k0;have c0:=jP k0 0 _ Z;obtain⟨⟨ea,ec,aN⟩,⟨ra,rc,aW⟩⟩:=af.form;obtain⟨m0,m1,mf⟩:=af.F;subst aN aW;go_wp2;go_loopw[17] (fun j wr=>∃(k:Nat) (ah:Value),k<=L r.E/\j=I C k/\MT (WM wr B g ⟨wd.E++(r.E.take k).map (QT (L wd.E)),wd.g⟩ ah (Y ra (L wd.g) rc))/\MT (wr.heap[D (A w)]?=N (G #[Y va (L r.E) vc,I C H,I C S,I C T,I C U] 209 (0,0)))/\MT (Below B w wr)) fun j _=>L r.E-(intOf j).toNat
 case atStart=>exact⟨0,_,xb _,Z,by simpa[MT]using af.o,K0,ax.mono hB⟩
 case round =>
  obtain⟨k,ah,hk,rfl,V,HK,HB⟩:=hrel;by_cases hlt:k<L r.E
  ·have bk:(k:Int)<(L r.E:Int):=by omega
   obtain⟨be,rfl,bi⟩:=aX (by omega);have aF:MT (wr.rangeAt be (k*10) (aG (Q.ev r.E k)).toList):=jM (aE.cN Z k hlt) (HB.block be (aV be Z));have bp:be<D (A wr):=by have:=HB.size;omega
   have hh:(Q.ev r.E k).h<OW:=by rw[eJ r.E k hlt];exact aD.o _ (xi hlt)
   have aI:MT ((r.E.take (k+1)).map (QT (L wd.E))=(r.E.take k).map (QT (L wd.E))++[QT (L wd.E) (Q.ev r.E k)]):=by
    unfold MT;rw[List.take_succ_eq_append_getElem hlt,xh,eJ r.E k hlt];rfl
   have aA:MT (QT (L wd.E) (Q.ev r.E k)={Q.ev r.E k with h:=QS (Q.ev r.E k).h (L wd.E:Int)}):=Z;generalize Q.ev r.E k=e1 at*;generalize aS:QS e1.h (L wd.E:Int)=m at*;have aC:=MS aS;go_upto_region 6 with(first|(refine fY (.tmp 19) Z Z be (k*10) e1 Z aF.o ?_)|(go_at_call 160;refine(Hd e1.h (L wd.E:Int) _ hh).mono ?_;rintro e w' ⟨rfl,aj⟩;have aj:=aj.symm;subst aj;rw[aC.o]))
   have E1:MT (NK (wr.alloc (G (mT e1 m) 180)) (D (A wr)) {e1 with h:=m}):=heap_alloc_new wr _;have BX:Below (D (A wr)) wr (wr.alloc (G (mT e1 m) 180)):=(xc _ _).alloc (xF _) _;have p:=MS (V.X BX);have al:=MS ((BX.block _ (Array.getElem?_eq_some_iff.1 HK.o).1).trans HK.o);have aa:B<=D (A wr):=by have:=HB.size;omega
   have ay:MT (Below B w (wr.alloc (G (mT e1 m) 180))):=HB.trans (BX.mono aa);have bo:D (A wr)+1<=(wr.alloc (G (mT e1 m) 180)).heap.size:=by simp
   obtain⟨x0,x1,x2,x3,x4,x5,x6,x7,x8,x9,xf,xl⟩:=MH (heap_alloc_new wr (G (mT e1 m) 180));generalize bg:wr.alloc (G (mT e1 m) 180)=s at*;generalize bh:D (A wr)=b1 at*;have au:(wd.E++(r.E.take k).map (QT (L wd.E))).length=L wd.E+k:=by simp;omega
   obtain⟨⟨ka,kc,y⟩,_⟩:=p.form;simp only at y;have l:=p.K;simp only at l;generalize aq:wd.E++(r.E.take k).map (QT (L wd.E))=z at*;subst y;obtain⟨an,ao,ag⟩:=p.F;have hg:=p.lt;have aO:=p.ge;have ab:=gB l p.box (by decide);have HO:MT ((s.drew.alloc (G (mT e1 m) 180)).ownsRow B 180 10 (Y ka z.length kc) z.length (PB z)):=bE l fun k hk=>xW _ _ _ (l.lt k hk).2;have HN:MT (∀j u,(mT e1 m).toList[j]?=N u->(s.drew.alloc (G (mT e1 m) 180)).cell? ((⟨D (A s),0,O⟩:Addr).add j)=N u):=
    xj (cs:=mT e1 m) (t:=180) (fr:=(0,0)) (heap_alloc_new s.drew _)
   have HC:MT ((s.drew.alloc (G (mT e1 m) 180)).cell? ⟨g,0,O⟩=N (Y ka z.length kc)):=(mP (w:=s.drew) hg).trans an;have ae:MT ((s.drew.alloc (G (mT e1 m) 180)).frozen? ⟨g,0,O⟩=false):=by
    unfold MT;rw[xq (w:=s.drew) (a:=⟨g,0,O⟩) (xW _ _ _ hg)];exact ag 0
   have ap:B<=D (A s):=by omega
   have aJ:z.length<=64:=by omega
   clear au;go_region_law(refine step_append_lies _ Z (.tmp 30) (.tmp 32) 78 Z B 180 j0 (.agg (aG Ev.zero)) 10 80 underlying78 aQ aY aZ ba Z (by decide) (Y ka z.length kc) z.length (PB z) (by simp[Act.eval]) (by exact HO.o) ⟨D (A s),0,O⟩ 1 1 (mT e1 m).toList (by simp[Act.eval]) Z (by exact HN.o) (by simp[xk]) (by decide) (by unfold maxLen;omega) (by omega) (by simp;omega) (D (A s)+1) (by simp) ?_;intro gn cn w1 i f aL av;have c1:=(f.cell_far ⟨g,0,O⟩ (by simp;omega) fun e=>ab e.symm).trans HC.o;have f1:=(f.frozen_far ⟨g,0,O⟩ (by simp;omega) fun e=>ab e.symm).trans ae.o)
   all_goals
    have BD:Below (D (A s)) s (s.drew.alloc (G (mT e1 m) 180)):=((xc _ _).drew).alloc (by simp) _;have Q1:=MS (WM.zO (e:={e1 with h:=m}) (p.X BD) i f);have Q2:MT (Below B w (w1.setCell ⟨g,0,O⟩ (MU gn (z.length+1) cn))):=(ay.trans (BD.mono ap)).trans (WM.bel HO.o aO (by simp;omega) f);have Q3:MT ((w1.setCell ⟨g,0,O⟩ (MU gn (z.length+1) cn)).heap[D (A w)]?=N (G #[MU be (L r.E) vc,I C H,I C S,I C T,I C U] 209 (0,0))):=by
     have h1:=(BD.block _ (Array.getElem?_eq_some_iff.1 al.o).1).trans al.o;unfold MT;rw[xd _ _ _ _ (by simp;omega),f.block _ (Array.getElem?_eq_some_iff.1 h1).1 fun e=>(gB HO.o h1 (by decide)) e.symm];exact h1
    clear i f BD
    (try go_wp2)
    go_roundw
    case rel =>
     refine⟨k+1,MU gn (z.length+1) cn,by omega,by go_num,?_,Q3,Q2⟩;unfold MT;rw[aI.o,aA.o,<- xr,aq];exact Q1.o
    case measure=>simp[intOf];omega
  ·have aR:k=L r.E:=by omega
   have am:MT (WM wr B g ⟨wd.E++r.E.map (QT (L wd.E)),wd.g⟩ ah (Y ra (L wd.g) rc)):=by
    have h1:=V.o;rw[aR,List.take_length]at h1;exact h1
   obtain⟨⟨ka,kc,y⟩,_⟩:=am.form;simp only at y;generalize aq:wd.E++r.E.map (QT (L wd.E))=z at*;have b1:J wr ⟨D (A w),1,O⟩=N (I C H):=by simp[xa,HK.o]
   have b2:J wr ⟨D (A w),2,O⟩=N (I C S):=by simp[xa,HK.o]
   have b3:J wr ⟨D (A w),3,O⟩=N (I C T):=by simp[xa,HK.o]
   have b4:J wr ⟨D (A w),4,O⟩=N (I C U):=by simp[xa,HK.o]
   go_wp2;go_loopw[39] (fun j wq=>∃(q:Nat) (ac ak:Value),q<=4/\j=I C q/\MT (WM wq B g ⟨z,wd.g++[H,S,T,U].take q⟩ ac ak)/\MT (Below B w wq)) fun j _=>4-(intOf j).toNat
   case atStart=>exact⟨0,_,_,by omega,Z,by simpa[MT]using am.o,HB⟩
   case round =>
    obtain⟨q,ac,ak,hq,rfl,V,HB⟩:=hrel;have aa:B<=D (A wr):=by have:=HB.size;omega
    have hg:=V.lt;by_cases hq4:q<4
    ·have bl:(q:Int)<4:=by omega
     obtain⟨x,hx,aT⟩:∃x:Int,(∀W,(Instr.index 203 (.agg #[I C H,I C S,I C T,I C U]) (I C (q:Int))).run prog W=.ok (I C x) W)/\MT ([H,S,T,U].take (q+1)=[H,S,T,U].take q++[x]):=by
      have aM:q=0\/q=1\/q=2\/q=3:=by omega
      rcases aM with rfl|rfl|rfl|rfl
      ·exact⟨H,fun W=>by kernel_rfl,Z⟩
      ·exact⟨S,fun W=>by kernel_rfl,Z⟩
      ·exact⟨T,fun W=>by kernel_rfl,Z⟩
      ·exact⟨U,fun W=>by kernel_rfl,Z⟩
     have bf:(wd.g++[H,S,T,U].take q).length<=L wd.g+4:=by simp;omega
     generalize aK:wd.g++[H,S,T,U].take q=RS at*;have aH:=MS aK;obtain⟨an,ao,ag⟩:=V.F;have ab:=gB V.rgs V.box (by decide);have l:=V.rgs;obtain⟨_,qa,qc,ad⟩:=V.form;simp only at ad l;subst ad;have HO:MT ((wr.alloc (G #[I C x] 3)).ownsRow B 3 1 (Y qa RS.length qc) RS.length (RS.map (xR C))):=bE l fun k hk=>xW _ _ _ (l.lt k hk).2;have HN:MT (∀j u,[xR C x][j]?=N u->(wr.alloc (G #[I C x] 3)).cell? ((⟨D (A wr),0,O⟩:Addr).add j)=N u):=xj (cs:=#[I C x]) (t:=3) (fr:=(0,0)) (heap_alloc_new wr _);have BD:Below (D (A wr)) wr (wr.alloc (G #[I C x] 3)):=(xc _ _).alloc (xF _) _;have aB:=MS (V.X BD);have az:=MS (HB.trans (BD.mono aa));have HC:MT ((wr.alloc (G #[I C x] 3)).cell? ⟨g,1,O⟩=N (Y qa RS.length qc)):=(mP hg).trans ao;have ae:MT ((wr.alloc (G #[I C x] 3)).frozen? ⟨g,1,O⟩=false):=by
      unfold MT;rw[xq (w:=wr) (a:=⟨g,1,O⟩) (xW _ _ _ hg)];exact ag 1
     go_wp2_with(first|(at_builtin;(refine wpList_append_lies _ Z (.tmp 46) (.tmp 48) 37 Z B 3 i0 (I C 0) 1 8 underlying37 aP bb bc bd Z (by decide) (Y qa RS.length qc) RS.length (RS.map (xR C)) Z (by exact HO.o) ⟨D (A wr),0,O⟩ 1 1 [I C x] Z Z (by exact HN.o) (by simp[xk]) (by decide) (by unfold maxLen;omega) (by omega) (by simp;omega) _ Z ?_;intro gn cn w1 i f aL av;have c1:=(f.cell_far ⟨g,1,O⟩ (by simp;omega) fun e=>ab e.symm).trans HC.o;have f1:=(f.frozen_far ⟨g,1,O⟩ (by simp;omega) fun e=>ab e.symm).trans ae.o;have Q1:=MS (WM.zX (x:=x) aB.o (by simpa using i) f);have Q2:=MS (az.trans (WM.bel (g:=g) (j:=1) (u:=MU gn (RS.length+1) cn) HO.o V.ge (by simp;omega) f)))));go_roundw
     case rel =>
      refine⟨q+1,ac,MU gn (RS.length+1) cn,by omega,by go_num,?_,Q2⟩;have h1:=Q1.o;unfold MT;rw[aT.o,<- xr,aH.o];exact h1
     case measure=>simp[intOf];omega
    ·obtain rfl:q=4:=by omega
     go_wp2;go_end0;refine⟨Z,⟨ac,ak,?_⟩,HB.o⟩;rw[HJ.o];exact V.o
structure Ek(w:World)(B:Nat)(v:Value)(rss:List (List Run))(vs:List Value)(wss:List (List Value)):Prop where
 own:w.ownsRow B 168 1 v (L rss) vs
 lv:L vs=L rss
 lw:L wss=L rss
 U:∀i (h:i<L rss) (u:Value) (us:List Value),vs[i]?=N u->wss[i]?=N us->El w 0 u rss[i] us
def Ek.X(h:Ek w B v rss vs wss)(a:Below (D (A w)) w w'):Ek w' B v rss vs wss :=
 ⟨bE h.own fun k e=>a.block k (h.own.lt k e).2,h.lv,h.lw,fun i d u f b c=>(h.U i d u f b c).X a⟩
structure WsOn(w:World)(g o:Nat)(rv:Value)(vs:List Value)(wss:List (List Value))(gb gd:Nat)(rss:List (List Run))(ds:List Int)(rest:List (List Int)):Prop where
 c0:J w ⟨g,o,O⟩=N rv
 U:Ek w 0 rv rss vs wss
 OS:RT w g (o+1) gb gd (rss.map fun r=>(L r:Int)) ds rest
def WsOn.X{e:Value}{d gd:Nat}{c:List Int}{rest:List (List Int)}(h:WsOn w g o e vs wss d gd rss c rest)(a:Below (D (A w)) w w'):WsOn w' g o e vs wss d gd rss c rest:=by
 obtain⟨b,f⟩:=h.OS.OS;exact⟨(a.cell f.lt).trans h.c0,h.U.X a,h.OS.X a⟩
def yO{gd:Nat}{c:Array Value}(h:w.ownsRow B t sz v n xs)(d:En w w' g o gd)(i:w.heap[g]?=N (G c tg (0,0)))(a:t≠tg)(f:w.heap[gd]?=N (G cd 3 (0,0)))(b:t≠3):w'.ownsRow B t sz v n xs :=
 bE h fun k e=>d.block k (fun e2=>gB h i a (by rw[e,e2])) fun e2=>gB h f b (by rw[e,e2])
def Ek.cL{gd:Nat}{c:Array Value}(h:Ek w B v rss vs wss)(a:En w w' g o gd)(d:w.heap[g]?=N (G c tg (0,0)))(k:168≠tg)(l:209≠tg)(m:180≠tg)(b:w.heap[gd]?=N (G cd 3 (0,0))):Ek w' B v rss vs wss :=
 ⟨yO h.own a d k b (by decide),h.lv,h.lw,fun i p u y r f=>by
  have e:=h.U i p u y r f;exact⟨yO e.own a d l b (by decide),e.len,fun j q x s=>yO (e.K j q x s) a d m b (by decide)⟩⟩
def ZS(g o:Nat)(p:Value)(vs:List Value)(wss:List (List Value))(i gd:Nat)(rss:List (List Run))(l:List Int)(rest:List (List Int))(c:Array Value)(tg:TypeId)(w:World)(h:WsOn w g o p vs wss i gd rss l rest)(K:w.heap[g]?=N (G c tg (0,0)))(m:168≠tg)(x:209≠tg)(y:180≠tg)(S:L rss<10000)(E:∀r∈rss,L r<100000000):
  Calls prog 94 #[.pointer (N ⟨g,o,O⟩)] w fun e w'=>(rest=[]/\e=M (.bool false)\/∃r q,rest=r::q/\e=M (.bool true)/\WsOn w' g o p vs wss i gd rss r q/\PE (rss.map fun r=>(L r:Int)) r)/\En w w' g (o+1) gd:=by
 have H:=MS h;have s:=MS K;obtain⟨b,j⟩:=h.OS.OS;have f:=MS j.digits;go_enter func94,ntmps94;go_wp2_with(first|(go_at_call 107;refine(IQ g (o+1) i gd _ l rest _ H.OS (by simpa using S) (by intro b a;simp at a;obtain⟨r,d,rfl⟩:=a;have:=E r d;omega)).mono ?_;rintro e w' ⟨m,z⟩;have k:=MS z;rcases m with⟨d,rfl⟩|⟨r,q,d,rfl,j,F⟩))
 ·go_ret;exact⟨xe ⟨d,Z⟩,k.o⟩
 ·go_ret;have T:=k.o;exact⟨xg ⟨r,q,d,Z,⟨(T.cell o (by omega)).trans H.c0,H.U.cL T s.o (by assumption) x y f.o,j⟩,F⟩,T⟩
namespace Q
def Pp(wd:Wd)(rss:List (List Run))(a:List Int)(k:Nat)(c:k<L rss)(b:k<L a)(h:(a.getD k 0).toNat<rss[k].length):iL wd (rss.drop k) (a.drop k)=iL (wd.join (rss[k][(a.getD k 0).toNat]'h)) (rss.drop (k+1)) (a.drop (k+1)):=by
 rw[xt c,xt b];rw[iL];have e:a[k]=a.getD k 0:=(gS a k b 0).symm;rw[dif_pos (by rw[e];exact h)]
 congr 2
 simp only[e]
def ZT:∀(wd:Wd) (rss:List (List Run)) (a:List Int),L wd.E<=(iL wd rss a).E.length
 |wd,rs::rest,d::a=>by
  rw[iL];refine Nat.le_trans ?_ (ZT _ rest a)
  split
  ·simp[Wd.join]
  ·exact xF _
 |wd,[],_=>xF _
 |wd,_::_,[]=>xF _
end Q
def ZU:∀(rs:List Run) (a:List Value),L a=L rs->∀(d:Nat) (h:d<L rs),∃u,a[d]?=N u/\(QZ rs a)[d*5]?=N u/\(QZ rs a)[d*5+1]?=N (I C (rs[d].g.getD 0 0))/\(QZ rs a)[d*5+2]?=N (I C (rs[d].g.getD 1 0))/\(QZ rs a)[d*5+3]?=N (I C (rs[d].g.getD 2 0))/\(QZ rs a)[d*5+4]?=N (I C (rs[d].g.getD 3 0))
 |[],a,_,d,h=>by simp at h
 |r::rs,[],hl,d,h=>by simp at hl
 |r::rs,u::a,hl,0,h=>⟨u,Z,Z,Z,Z,Z,Z⟩
 |r::rs,u::a,hl,d+1,h=>by
  obtain⟨x,b,c,e,f,i,j⟩:=ZU rs a (by simpa using hl) d (by simpa using h);refine⟨x,by simpa using b,?_,?_,?_,?_,?_⟩
  ·rw[show(d+1)*5=d*5+5 by omega];simpa[QZ]using c
  ·rw[show(d+1)*5+1=d*5+1+5 by omega];simpa[QZ]using e
  ·rw[show(d+1)*5+2=d*5+2+5 by omega];simpa[QZ]using f
  ·rw[show(d+1)*5+3=d*5+3+5 by omega];simpa[QZ]using i
  ·rw[show(d+1)*5+4=d*5+4+5 by omega];simpa[QZ]using j
def ZV(g o:Nat)(rv:Value)(vs:List Value)(wss:List (List Value))(gb gd:Nat)(rss:List (List Run))(l:List Int)(rest:List (List Int))(w:World)(h:WsOn w g o rv vs wss gb gd rss l rest)(hd:PE (rss.map fun r=>(L r:Int)) l)(hn:L rss<20)(ai:(NV rss l).E.length<=64)(aO:∀rs∈rss,∀r∈rs,L r.g=4/\∀e∈r.E,e.h<OW):
  Calls prog 95 #[.pointer (N ⟨g,o,O⟩)] w fun e w'=>∃ev rg,e=M (.agg #[ev,rg])/\PY w' ev rg (NV rss l)/\(∀k,rg.ownBlock=N k->D (A w)<=k)/\Below (D (A w)) w w':=by
 obtain⟨bg,hc⟩:=h.OS.OS;have aJ:L l=L rss:=by rw[hc.len];simp
 have am:=hc.lt;have c0:=h.c0;have c2:=hc.c1;have ap:=MS hc.digits;have aL:=hc.digits.lt;have s:=MS h.U;have ar:=MS aO;have aq:MT (∀i (hi:i<L rss),0<=l.getD i 0/\l.getD i 0<(rss[i].length:Int)):=fun i hi=>by
  have z:=hd.rng i (by omega);rw[gS _ _ (by simpa using hi)]at z;simp at z;rw[gS l i (by omega)];exact z
 obtain⟨ra,rc,aR⟩:∃a c,rv=Y a (L rss) c:=by
  rcases h.U.own.2 with⟨e,h0⟩|⟨k,c,V,e,_⟩
  ·exact⟨O,0,by rw[e,h0]⟩
  ·exact⟨_,c,e⟩
 have H:(rss.map fun r=>(L r:Int)).length=L rss:=by simp
 have aC:MT (NV rss l=iL ⟨QF,[]⟩ (rss.drop 0) (l.drop 0)):=Z;have ae:=MS ai;rw[aJ]at c2;obtain⟨k0,bo,aH⟩:=lW w #[Y O 0 0,Y O 0 0] 80;have ab:=MS aH;have ba:L l<=L rss:=by omega
 have bb:L rss<=L l:=by omega
 have aD:J w ⟨g,o+2,O⟩=N (MU gd (L rss) (L rss)):=c2;subst aR;go_enter func95,ntmps95;go_upto_region 1 with fail
 generalize hE:w.alloc (G #[Y O 0 0,Y O 0 0] 80)=W0 at*;have K0:=MS k0;have bd:D (A w)+1<=D (A W0):=by omega
 go_upto_region 2 with(first|(go_at_call 135;refine(Pn _).mono ?_;rintro e w1 ⟨g1,rfl,ao,H⟩))
 have aB:MT (WM (w1.alloc (G #[MU g1 3 3,Y O 0 0] 80)) (D (A W0)) (D (A w1)) ⟨QF,[]⟩ (MU g1 3 3) (Y O 0 0)):=
  ⟨heap_alloc_new w1 _,bE ao fun k e=>xW _ _ _ (ao.lt k e).2,by simpa using xm _ _ _ _,H.size⟩
 have ac:MT (Below (D (A W0)) W0 (w1.alloc (G #[MU g1 3 3,Y O 0 0] 80))):=H.alloc H.size _;have bi:D (A W0)<=D (A w1):=H.size;generalize be:w1.alloc (G #[MU g1 3 3,Y O 0 0] 80)=W1 at*;generalize bk:D (A w1)=g3 at*;have ad:MT (Below (D (A w)) w W1):=NE ab.o (xF _) ac.o;have d2:=(ad.cell (p:=⟨g,o+2,O⟩) am).trans aD;go_wp2;go_loopw[14] (fun j wr=>∃(k:Nat) (wd:Q.Wd) (ev rg:Value),k<=L rss/\j=I C k/\MT (NV rss l=iL wd (rss.drop k) (l.drop k))/\MT (L wd.g=4*k)/\MT (WM wr (D (A W0)) g3 wd ev rg)/\MT (Below (D (A W0)) W0 wr)) fun j _=>L rss-(intOf j).toNat
 case atStart=>exact⟨0,_,_,_,xb _,Z,aC,Z,aB,ac⟩
 case round =>
  obtain⟨k,wd,ev,rg,hk,rfl,HJ,au,HM,HB⟩:=hrel;have f:MT (Below (D (A w)) w wr):=NE ab.o (xF _) HB.o;by_cases hlt:k<L rss
  ·have bl:(k:Int)<(L rss:Int):=by omega
   have bh:=aq.o k hlt;obtain⟨d,al⟩:∃d:Nat,l.getD k 0=(d:Int):=⟨(l.getD k 0).toNat,by omega⟩;have S:d<rss[k].length:=by omega
   have af:MT (NV rss l=iL (wd.join rss[k][d]) (rss.drop (k+1)) (l.drop (k+1))):=by
    unfold MT;rw[HJ.o,Pp wd rss l k hlt (by omega) (by omega)]
    congr 2
    simp only[al,Int.toNat_natCast]
   have aI:(wd.join rss[k][d]).E.length<=64:=by
    have z:=ZT (wd.join rss[k][d]) (rss.drop (k+1)) (l.drop (k+1));rw[<- af.o]at z;have:=ae.o;omega
   have aj:L wd.E+rss[k][d].E.length<=64:=by simpa[Q.Wd.join]using aI
   have T:=ar.o rss[k] (xi hlt) rss[k][d] (xi S);have an:k<L vs:=by rw[s.lv];exact hlt
   have aM:k<L wss:=by rw[s.lw];exact hlt
   have b:=s.U k hlt vs[k] wss[k] (xu an) (xu aM);obtain⟨u,aW,q0,q1,q2,q3,q4⟩:=ZU rss[k] wss[k] b.len d S;have aa:=b.K d S u aW;obtain⟨gk,ck,aY,m⟩:∃gk ck,vs[k]=MU gk rss[k].length ck/\gk<D (A w):=by
    rcases b.own.2 with⟨e,h0⟩|⟨k',c,V,e,_⟩
    ·omega
    ·exact⟨k',c,e,(b.own.lt k' (by rw[e];rfl)).2⟩
   obtain⟨br,aP,ah,ak⟩:∃br,ra=N ⟨br,0,O⟩/\br<D (A w)/\J w ⟨br,k,O⟩=N vs[k]:=by
    rcases s.own.2 with⟨e,h0⟩|⟨k',c,V,e,_⟩
    ·omega
    ·simp only[Value.slice.injEq]at e;refine⟨k',e.1,(s.own.lt k' (by rw[e.1];rfl)).2,?_⟩;have z:=s.own;rw[e.1]at z;exact DT z an
   have x:=b.own;rw[aY]at x ak;have z0:J wr ⟨gk,d*5,O⟩=N u:=(f.cell (p:=⟨gk,d*5,O⟩) m).trans ((x.cellAt _ (by omega)).trans q0);have z1:J wr ⟨gk,d*5+1,O⟩=N (I C (rss[k][d].g.getD 0 0)):=(f.cell (p:=⟨gk,d*5+1,O⟩) m).trans ((x.cellAt _ (by omega)).trans q1);have z2:J wr ⟨gk,d*5+2,O⟩=N (I C (rss[k][d].g.getD 1 0)):=(f.cell (p:=⟨gk,d*5+2,O⟩) m).trans ((x.cellAt _ (by omega)).trans q2);have z3:J wr ⟨gk,d*5+3,O⟩=N (I C (rss[k][d].g.getD 2 0)):=(f.cell (p:=⟨gk,d*5+3,O⟩) m).trans ((x.cellAt _ (by omega)).trans q3);have z4:J wr ⟨gk,d*5+4,O⟩=N (I C (rss[k][d].g.getD 3 0)):=(f.cell (p:=⟨gk,d*5+4,O⟩) m).trans ((x.cellAt _ (by omega)).trans q4);have y0:=MZ f.o am c0;have yr:=MZ f.o ah ak;have yd:J wr ⟨gd,k,O⟩=N (I C (d:Int)):=by rw[<- al];exact(f.cell (p:=⟨gd,k,O⟩) aL).trans (ap.eC k (by omega))
   have aA:MT (PH wr u rss[k][d].E):=aa.X f.o;have az:MT (∀y,u.ownBlock=N y->y<D (A W0)):=fun y e=>by have:=(aa.lt y e).2;omega
   obtain⟨ua,uc,aX,_⟩:=aa.form;have bf:(d:Int)<(rss[k].length:Int):=by omega
   have bc:=au.o;have W:L wd.g<100:=by omega
   have ag:MT ((wd.join rss[k][d]).g.length=4*(k+1)):=by unfold MT Q.Wd.join;simp[T.1];omega
   generalize rss[k][d]=rr at*;generalize rss[k].length=nk at*;subst aP aX;generalize aS:rr.g.getD 0 0=t0 at*;generalize aT:rr.g.getD 1 0=t1 at*;generalize aU:rr.g.getD 2 0=t2 at*;generalize aV:rr.g.getD 3 0=t3 at*;have av:=MS aS;have aw:=MS aT;have ax:=MS aU;have ay:=MS aV;go_wp2_with(first|(go_at_call 136;have hj:=Po (D (A W0)) g3 wd ev rg (Y ua (L rr.E) uc) rr wr HM.o aA.o az.o HB.size T.1 aj W T.2;rw[av.o,aw.o,ax.o,ay.o]at hj;refine hj.mono ?_;rintro e w2 ⟨rfl,⟨aF,aZ,aN⟩,aG⟩));go_roundw
   case rel=>exact⟨k+1,wd.join rr,aF,aZ,by omega,by go_num,af,ag,aN,HB.trans aG⟩
   case measure=>simp[intOf];omega
  ·have bm:k=L rss:=by omega
   have HE:MT (wd=NV rss l):=by
    have z:=HJ.o;rw[xv (by omega),xv (by omega)]at z;unfold MT;rw[z];rfl
   obtain⟨⟨ea,ec,aK⟩,⟨qa,qc,aQ⟩⟩:=HM.form;obtain⟨m0,m1,mf⟩:=HM.F;have KR:=MS ((HB.block (D (A w)) (by omega)).trans K0.o);have r0:J wr ⟨D (A w),0,O⟩=N (Y O 0 0):=by simp[xa,KR.o]
   have r1:J wr ⟨D (A w),1,O⟩=N (Y O 0 0):=by simp[xa,KR.o]
   have rf:∀j,wr.frozen? ⟨D (A w),j,O⟩=false:=fun j=>by simp[World.frozen?,KR.o]
   subst aK aQ;have bn:¬(k:Int)<(L rss:Int):=by omega
   go_wp2;obtain⟨s0,s1,s2⟩:=DA [Y ea (L wd.E) ec,Y qa (L wd.g) qc] KR.o Z;refine qW (p:=2) (D (A w)) _ (by kernel_rfl) underlying80 Z (by kernel_rfl) Z (by exact s0) Z ⟨_,_,Z,?_,fun y e=>by have:=(HM.rgs.lt y e).1;omega,s2 _ _ (xF _) f.o⟩;rw[<- HE.o];have e1:=bE HM.K fun y e=>s1 y (by have:=(HM.K.lt y e).1;omega);refine⟨⟨e1.1,?_⟩,zS (bE HM.rgs fun y e=>s1 y (by have:=(HM.rgs.lt y e).1;omega)) Z⟩
   rcases e1.2 with h0|⟨g',aE,V,e,bj,q⟩
   ·exact xe h0
   ·exact xg ⟨g',aE,V,e,xb _,q⟩
def Tryz.infoRuns:(prog.info? 168).map (fun i=>(i.zero,i.size,i.bytes))=N (N (Y O 0 0),1,24):=by kernel_rfl
namespace Q
def ZW:∀(i:Nat) (a:List NB),(eF i a).length=L a
 |_,[]=>Z
 |i,t::a=>by simp[eF,ZW (i+1) a]
def ZX:∀(i:Nat) (a:List NB) (k:Nat) (h:k<L a),(eF i a).take (k+1)=(eF i a).take k++[gY a[k] (i+k)]
 |_,[],k,h=>by simp at h
 |i,t::a,0,h=>by simp[eF]
 |i,t::a,k+1,h=>by
  simp only[eF,List.take_succ_cons,List.cons_append,List.getElem_cons_succ];rw[ZX (i+1) a k (by simpa using h),show i+1+k=i+(k+1)by omega]
def Pq(a:List NB)(k:Nat)(h:k<L a):(NJ a).take (k+1)=(NJ a).take k++[gY a[k] k]:=by
 have:=ZX 0 a k h;simpa[NJ]using this
def LO(a:List NB):(NJ a).length=L a:=ZW 0 a
end Q
def El.cK(h:El w B v rs vs)(b:w.ownsRow B' t' sz' u n' xs')(c:209≠t')(d:180≠t')(a:w.grownBy w' u.ownBlock):El w' B v rs vs :=
 ⟨(tY h.own b c a).1,h.len,fun i e x f=>(tY (h.K i e x f) b d a).1⟩
def Ek.aY{j:Value}{f:List Value}(h:Ek w B v rss vs wss)(l:El w 0 u rs f)(b:w1.ownsRow B 168 1 j (L rss+1) (vs++[u]))(e:w.grownBy w1 v.ownBlock):Ek w1 B j (rss++[rs]) (vs++[u]) (wss++[f]):=by
 refine⟨by simpa using b,by simp[h.lv],by simp[h.lw],fun i k x xs c a=>?_⟩;by_cases hlt:i<L rss
 ·rw[xw (by rw[h.lv];exact hlt)]at c;rw[xw (by rw[h.lw];exact hlt)]at a;rw[List.getElem_append_left hlt];exact(h.U i hlt x xs c a).cK h.own (by decide) (by decide) e
 ·simp at k;have d:i=L rss:=by omega
  subst d;rw[xx (by rw[h.lv];exact xF _),h.lv]at c;rw[xx (by rw[h.lw];exact xF _),h.lw]at a;simp at c a;subst c a;simp;exact l.cK h.own (by decide) (by decide) e
def Ek.cK(h:Ek w B v rss vs wss)(c:w.ownsRow B' t' sz' u n' xs')(d:168≠t')(e:209≠t')(f:180≠t')(b:w.grownBy w' u.ownBlock):Ek w' B v rss vs wss :=
 ⟨(tY h.own c d b).1,h.lv,h.lw,fun i j x xs k a=>(h.U i j x xs k a).cK c e f b⟩
def El.base(h:El w B v rs vs):El w 0 v rs vs:=by
 refine⟨⟨h.own.1,?_⟩,h.len,h.K⟩
 rcases h.own.2 with d|⟨c,a,b,e,f,q⟩
 ·exact xe d
 ·exact xg ⟨c,a,b,e,xb _,q⟩
def PG(rss:List (List Run)):List Int:=rss.map fun r=>(L r:Int)
def Ps(w w':World)(rss:List (List Run))(e:Ending):Prop:=∃rv vs wss gb gd,e=M (.agg #[rv,MU gb (L rss) (L rss),MU gd (L rss) (L rss),.bool false])/\Ek w' 0 rv rss vs wss/\NM w' gb (PG rss)/\NM w' gd (fJ (L rss))/\D (A w)<=gb/\D (A w)<=gd/\gb≠gd/\Below (D (A w)) w w'
def Pt(B bt ab:Nat)(f:List NB)(w:World)(h:fN w B (MU bt (L f) ab) f)(hn:L f<20)(aM:∀t∈f,(∀s∈t.S,QK s)/\L t.S<900/\QX t.S<100000):
  Calls prog 54 #[.agg #[MU bt (L f) ab]] w fun e w'=>Ps w w' (NJ f) e:=by
 obtain⟨i0,aG,aR,aS,aT⟩:=info_parts Tryz.PX;obtain⟨j0,aJ,aO,aP,aQ⟩:=info_parts Tryz.infoRuns;obtain⟨k0,k1,bi,aE⟩:=mZ w #[MU bt (L f) ab] #[Y O 0 0,Y O 0 0,Y O 0 0,.bool false] 40 90;have HT:=MS h;have az:=MS aM;have an:=MS aE;go_enter func54,ntmps54;go_upto_region 1 with fail
 generalize hE:(w.alloc (G #[MU bt (L f) ab] 40)).alloc (G #[Y O 0 0,Y O 0 0,Y O 0 0,.bool false] 90)=W0 at*;have aZ:=jP k0 0 _ Z;have l1:D (A w)+1<D (A W0):=by omega
 have K1:=MS k1;go_wp2;go_loopw[3,4,11] (fun a b j wr=>∃(k:Nat) (cv bv:Value) (vs:List Value) (wss:List (List Value)),k<=L f/\j=I C k/\a=cv/\b=bv/\MT (Ek wr (D (A W0)) cv ((NJ f).take k) vs wss)/\MT (wr.ownsRow (D (A W0)) 3 1 bv k ((PG ((NJ f).take k)).map (xR C)))/\MT (Below (D (A W0)) W0 wr)) fun _ _ j _=>L f-(intOf j).toNat
 case atStart=>exact⟨0,_,_,[],[],xb _,Z,Z,Z,⟨by simpa using xm _ _ _ _,Z,Z,fun i h=>by simp at h⟩,by simpa[MT,PG]using xm _ _ _ _,xc _ _⟩
 case round =>
  obtain⟨k,cv,bv,vs,wss,hk,rfl,aj,ah,HC,HO,HB⟩:=hrel;have aj:=aj.symm;subst aj;have ah:=ah.symm;subst ah;by_cases hlt:k<L f
  ·have bf:(k:Int)<(L f:Int):=by omega
   obtain⟨ag,sa,sc,t0,t1,t2,au⟩:=AI HT.o Z k hlt;have F:MT (Below (D (A w)) w wr):=NE an.o (xF _) HB.o;have d0:=MZ F.o ag t0;have d1:=MZ F.o ag t1;have d2:=MZ F.o ag t2;have HS:=MS (Pq f k hlt);have ad:MT (w.ownsRow 0 137 11 (Y sa f[k].S.length sc) f[k].S.length (kQ f[k].S)):=by
    refine⟨au.1,?_⟩
    rcases au.2 with h0|⟨g',H,z,e,aF,q⟩
    ·exact xe h0
    ·exact xg ⟨g',H,z,e,xb _,q⟩
   have V:=az.o f[k] (xi hlt);have r:((NJ f).take k).length=k:=by simp[LO];omega
   generalize f[k]=t at*;have aA:MT ((wr.alloc (G #[I C t.block,I C t.i,Y sa (L t.S) sc] 132)).ownsRow 0 137 11 (Y sa (L t.S) sc) (L t.S) (kQ t.S)):=bE ad.o fun y e=>(xW _ _ _ (by have:=(ad.lt y e).2;have:=F.size;omega)).trans (F.block y (ad.lt y e).2);go_upto_region 7 with(first|(go_at_call 91;refine(Pl k t (Y sa (L t.S) sc) _ aA.o (by omega) V.1 V.2.1 V.2.2).mono ?_;rintro e w1 ⟨mv,us,rfl,ar,aD⟩))
   obtain⟨ma,mc,aK⟩:=ar.form;have av:Below (D (A wr)) wr (wr.alloc (G #[I C t.block,I C t.i,Y sa (L t.S) sc] 132)):=(xc _ _).alloc (xF _) _;have T:Below (D (A wr)) wr w1:=NE av (xF _) aD;have bh:(gY t k).length<100000:=by have:=ZR t k (QX t.S);unfold gY;omega
   generalize bg:gY t k=E at*;subst aK;have M1:=MS ar.base;have B1:MT (Below (D (A W0)) W0 w1):=NE HB.o (xF _) T;have C1:=MS (HC.X T);have O1:MT (w1.ownsRow (D (A W0)) 3 1 bv k ((PG ((NJ f).take k)).map (xR C))):=bE HO.o fun y e=>T.block y (HO.lt y e).2;have aB:D (A W0)<=D (A w1):=B1.size;have aw:MT (((NJ f).take k).length=k):=r;obtain⟨ca,cc,ai⟩:∃a c,cv=Y a k c:=by
    have m:=HC.own;rw[r]at m
    rcases m.2 with⟨e,h0⟩|⟨g',c,z,e,_⟩
    ·exact⟨O,0,by rw[e,h0]⟩
    ·exact⟨_,c,e⟩
   obtain⟨ba,bc,af⟩:∃a c,bv=Y a k c:=by
    rcases HO.2 with⟨e,h0⟩|⟨g',c,z,e,_⟩
    ·exact⟨O,0,by rw[e,h0]⟩
    ·exact⟨_,c,e⟩
   have ac:MT ((w1.alloc (G #[Y ma (L E) mc] 168)).ownsRow (D (A W0)) 168 1 cv k vs):=by
    have m:=C1.own;rw[r]at m;exact bE m fun y e=>xW _ _ _ (m.lt y e).2
   have ax:MT (∀j u,[Value.slice ma (L E) mc][j]?=N u->(w1.alloc (G #[Y ma (L E) mc] 168)).cell? ((⟨D (A w1),0,O⟩:Addr).add j)=N u):=xj (cs:=#[Y ma (L E) mc]) (t:=168) (fr:=(0,0)) (heap_alloc_new w1 _);subst ai af;go_upto_region 8 with(first|(at_builtin;refine wpList_append_lies _ Z (.tmp 19) (.tmp 21) 86 Z (D (A W0)) 168 j0 (Y O 0 0) 1 24 underlying86 aJ aO aP aQ Z (by decide) (Y ca k cc) k vs Z (by exact ac.o) ⟨D (A w1),0,O⟩ 1 1 [Y ma (L E) mc] Z Z (by exact ax.o) (by simp[xk]) (by decide) (by unfold maxLen;omega) (by omega) (by simp;omega) _ Z ?_;intro gn cn W al d aU aW))
   have BA:Below (D (A w1)) w1 (w1.alloc (G #[Y ma (L E) mc] 168)):=(xc _ _).alloc (xF _) _;have C2:MT (Ek W (D (A W0)) (MU gn (k+1) cn) ((NJ f).take (k+1)) (vs++[Y ma (L E) mc]) (wss++[us])):=by
    unfold MT;rw[HS.o];exact(C1.X BA).aY (M1.X BA) (by rw[aw.o];exact al) d
   have O2:=tY (bE O1.o fun y e=>BA.block y (O1.lt y e).2) ac.o (by decide) d;have bb:D (A w1)+1<=D (A W):=by have:=d.size;simp at this;omega
   have B2:MT (Below (D (A W0)) W0 W):=(B1.alloc aB _).trans ⟨d.os,d.tape,d.output,d.size,fun y hy=>d.block y (by simp;omega) fun e=>by have:=(ac.lt y e.symm).1;omega⟩;have ae:MT ((W.alloc (G #[I C (L E:Int)] 3)).ownsRow (D (A W0)) 3 1 (Y ba k bc) k ((PG ((NJ f).take k)).map (xR C))):=bE O2.1 fun y e=>xW _ _ _ (O2.1.lt y e).2;have ay:MT (∀j u,[xR C (L E:Int)][j]?=N u->(W.alloc (G #[I C (L E:Int)] 3)).cell? ((⟨D (A W),0,O⟩:Addr).add j)=N u):=xj (cs:=#[I C (L E:Int)]) (t:=3) (fr:=(0,0)) (heap_alloc_new W _);go_wp2_with(first|(at_builtin;refine wpList_append_lies _ Z (.tmp 23) (.tmp 26) 37 Z (D (A W0)) 3 i0 (I C 0) 1 8 underlying37 aG aR aS aT Z (by decide) (Y ba k bc) k ((PG ((NJ f).take k)).map (xR C)) Z (by exact ae.o) ⟨D (A W),0,O⟩ 1 1 [I C (L E:Int)] Z Z (by exact ay.o) (by simp[xk]) (by decide) (by unfold maxLen;omega) (by omega) (by simp;omega) _ Z ?_;intro g3 c3 w3 am l aV aX));have C3:=MS ((C2.X ((xc _ _).alloc (xF _) _)).cK ae.o (by decide) (by decide) (by decide) l);have O3:MT (w3.ownsRow (D (A W0)) 3 1 (MU g3 (k+1) c3) (k+1) ((PG ((NJ f).take (k+1))).map (xR C))):=by
    unfold MT;rw[HS.o];unfold PG;rw[xh,xh];exact am
   have B3:MT (Below (D (A W0)) W0 w3):=(B2.alloc (by omega) _).trans ⟨l.os,l.tape,l.output,l.size,fun y hy=>l.block y (by simp;omega) fun e=>by have:=(ae.lt y e.symm).1;omega⟩;go_roundw
   case rel=>exact⟨k+1,_,_,_,_,by omega,by go_num,Z,Z,C3,O3,B3⟩
   case measure=>simp[intOf];omega
  ·have aq:k=L f:=by omega
   have HL:MT ((PG (NJ f)).length=(NJ f).length):=by simp[MT,PG]
   have aa:=MS (LO f);have C0:MT (Ek wr (D (A W0)) cv (NJ f) vs wss):=by have m:=HC.o;rw[aq,xy (by rw[aa.o];exact xF _)]at m;exact m
   have O0:MT (PC wr bv (PG (NJ f))):=by
    have m:=HO.o;rw[aq,xy (by rw[aa.o];exact xF _)]at m;exact zS m (by rw[HL.o,aa.o])
   obtain⟨ca,cc,ai⟩:∃a c,cv=Y a (NJ f).length c:=by
    rcases C0.own.2 with⟨e,h0⟩|⟨g',c,z,e,_⟩
    ·exact⟨O,0,by rw[e,h0]⟩
    ·exact⟨_,c,e⟩
   obtain⟨ba,bc,af,_⟩:=O0.form;subst ai af;go_wp2_with(first|(go_at_call 92;refine(LM _ (PG (NJ f)) _ O0.o (by rw[HL.o,aa.o];omega)).mono ?_;rintro e W ⟨v1,v2,v3,rfl,⟨gb,gd,rfl,rfl,rfl,aH,aI,bd,be,aL⟩,ap⟩;have B2:MT (Below (D (A W0)) W0 W):=NE HB.o (xF _) ap;have K2:=MS ((B2.block _ l1).trans K1.o);obtain⟨t0,t1,t2,t3,tf,tl⟩:=yI K2.o;have IB:=MS aH;have ID:=MS aI;have C2:=MS (C0.X ap);rw[HL.o]));obtain⟨s0,s1,s2⟩:=DI (s0:=Y ca (NJ f).length cc) (s1:=MU gb (NJ f).length (NJ f).length) (s2:=MU gd (NJ f).length (NJ f).length) (s3:=.bool false) K2.o;have bj:=HB.size;have ao:=ID.o;rw[HL.o]at ao;have ak:∀{B n sz:Nat} {t:TypeId} {v:Value} {xs:List Value},W.ownsRow B t sz v n xs->t≠90->∀k,v.ownBlock=N k->k≠D (A w)+1:=fun h ht k e e2=>gB h K2.o ht (by rw[e,e2])
   refine qW (p:=2) (D (A w)+1) _ (by kernel_rfl) underlying90 Z (by kernel_rfl) Z (by exact s0) Z ⟨_,vs,wss,gb,gd,Z,⟨?_,C2.lv,C2.lw,fun i hi x xs hx aN=>?_⟩,IB.aC (s1 _ (by omega)),ao.aC (s1 _ (by omega)),by omega,by omega,aL,s2 _ _ (by omega) (NE an.o (xF _) B2.o)⟩
   ·have m:=bE C2.own fun k e=>s1 k (ak C2.own (by decide) k e);refine⟨m.1,?_⟩
    rcases m.2 with h0|⟨g',H,z,e,aF,q⟩
    ·exact xe h0
    ·exact xg ⟨g',H,z,e,xb _,q⟩
   ·have hr:=C2.U i hi x xs hx aN;exact⟨bE hr.own fun k e=>s1 k (ak hr.own (by decide) k e),hr.len,fun j hj y hy=>bE (hr.K j hj y hy) fun k e=>s1 k (ak (hr.K j hj y hy) (by decide) k e)⟩
