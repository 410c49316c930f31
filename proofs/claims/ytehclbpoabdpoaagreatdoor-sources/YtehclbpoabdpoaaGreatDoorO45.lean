import Derived.Test.YtehclbpoabdpoaaGreatDoorO44
set_option linter.all false
set_option maxHeartbeats 0
namespace Go.Proofs.YtehclbpoabdpoaaGreatDoor
open Go Go.RowKit Go.Proofs.Tryz P Q R
open scoped Classical
set_option maxRecDepth 1000000
variable {s:J.PS}{b l:List Tree}{W w w' w0 w2:World}{B B0 bt ge gh gr i j k n o z:Nat}{dv lv rv v wv:Value}{hvs ons:List Value}{D:Nat->Prop}{a:Act}{F:List Nat}{r:List Int}{Is:List (Nat × Nat × Nat)}{R0:Ending->World->Prop}{α:Type}{es:List J.E}
open List renaming length->M
open _root_.Array renaming size->H
open Go.World renaming heap->S
open Option renaming none->Y,some->O
open Go.Value renaming slice->C,int->N
open Go.Obj renaming cells->I
open Go.IntKind renaming i64->G
open Bool renaming false->U
open List renaming range->xF,map_cons->x5,map_nil->x6,length_append->x9,eq_nil_of_length_eq_zero->xd,getElem?_eq_getElem->xg,map_append->xh,length_map->xi,length_take->xj,mem_cons_of_mem->xo,drop_eq_getElem_cons->xs,take_succ_eq_append_getElem->xt,append_assoc->xu,getD_eq_getElem?_getD->xv,set_cons_succ->xw,set_append_right->xx
open Or renaming inr->xR,inl->xW
open Nat renaming le_trans->x7,lt_of_lt_of_le->x8,le_refl->xb,pow_le_pow_right->xk
open Go.Value renaming ownBlock->xc
open Go.RowKit.Below renaming refl->xe
open Bool renaming or_eq_true->xl,or_eq_false_iff->xm,false_eq_true->xn
open Go.World renaming ownsRow_nil->xp
open Go.Instr renaming makeSlice->xq
open _root_.Array renaming getElem?_eq_getElem->xr
def J.tV{x:Lh}(h:x.op.toList=J.oIf):J.dX s ⟨x,b⟩=if s.val x.a==0 then s.bY x else J.doL (s.bY x) b:=by
 unfold J.dX;simp only[h];rfl
def J.iJ{x:Lh}(h:(x.op.toList==J.oIf)=U):J.dX s ⟨x,b⟩=s.step x:=by
 unfold J.dX;simp only[h];rfl
def Vb{gl:Nat}{hv bv:Value}{xa:Int}{x:Lh}{ev:Value}{Q:Exit->Act->World->Prop}(t:lG Q)(h:PM w B z s ev dv wv gr gh ons hvs D)(q:LnC w gl o x bv)(hf:DFr a z lv i gl o xa hv x.op)(d:gl<B)(T:B<=H (S w))(m:OP w D hv (s.aH x.a))(p:xa=s.val x.a)(hx:J.Fit x)(g:J.Bnd n s)(hn:n<30)(hc:x.op.toList=J.oIf->∀(V:World) (ab aa ag:Value) (ae ac:Nat) (L K:List Value) (D1:Nat->Prop),PM V B z (s.bY x) ab aa ag ae ac L K D1->JX (fun k=>B<=k) w V->Calls prog 75 #[.pointer (O ⟨z,0,Y⟩),bv] V fun e w'=>EU V B z (J.doL (s.bY x) b) e w')(f:sK w B z lv i (J.dX s ⟨x,b⟩) (Q .normal)):NG prog ((dS f75).drop 0) Q a w:=by
 have ah:=g.e;have hp:2^n<=2^30:=xk (by omega) (by omega);have ai:=g.aH x.a;have aj:=g.wy;have hs:M s.e<1000:=by omega
 refine sw0 hf Z Z Z Z (fun c a1 f1=>?_) fun c a1 f1=>?_
 ·have af:∃half X:Bool,x.op.toList=if half then(if X then J.oAdd else J.oSwap)else J.oLoad:=by
   simp only[xl,beq_iff_eq]at c
   rcases c with e|e|e
   ·exact⟨U,U,e⟩
   ·exact⟨true,true,e⟩
   ·exact⟨true,U,e⟩
  obtain⟨half,X,e⟩:=af;rw[J.iJ (by rw[e];cases half<;>cases X<;>rfl)]at f;exact U5 t h q f1 T d m p hx g hn g.rn e f
 refine sw1 f1 Z (fun c a2 f2=>?_) fun u a2 f2=>?_
 ·have e:x.op.toList=J.oStore:=eq_of_beq c;rw[J.iJ (by rw[e];rfl),show s.step x=s.put [J.wE x (s.val x.a) U (s.aH x.a++s.way)]by unfold J.PS.step;rw[e];rfl]at f;exact U2 t h q f2 hs T d m p (by omega) f
 refine sw2 f2 Z (fun c a3 f3=>?_) fun y a3 f3=>?_
 ·have e:x.op.toList=J.oFence:=eq_of_beq c;rw[J.iJ (by rw[e];rfl),show s.step x=s.put [J.fE x]by unfold J.PS.step;rw[e];rfl]at f;exact U1 t h q f3 hs T d f
 refine sw3 f3 Z (fun c a4 f4=>?_) fun A a4 f4=>?_
 ·have e:x.op.toList=J.oBar:=eq_of_beq c;rw[J.iJ (by rw[e];rfl),show s.step x={s.put [J.aE s.round,J.lE s.round]with round:=s.round+1}by unfold J.PS.step;rw[e];rfl]at f;exact Sw t h q f4 hs T d ⟨g.r0,by have:=g.r1;omega⟩ f
 refine sw4 f4 Z (fun c a5 f5=>?_) fun E a5 f5=>?_
 ·have e:x.op.toList=J.oSet:=eq_of_beq c;rw[J.iJ (by rw[e];rfl)]at f;exact U8 t h q f5 d m p hx g hn e f
 have e:x.op.toList=J.oIf:=by
  simp only[xm,beq_eq_false_iff_ne]at c u y A E
  rcases hx.op with e|e|e|e|e|e|e|e
  ·exact absurd e c.1
  ·exact absurd e c.2.1
  ·exact absurd e c.2.2
  ·exact absurd e u
  ·exact absurd e y
  ·exact absurd e A
  ·exact absurd e E
  ·exact e
 refine sw5 f5 Z (fun c a6 f6=>?_) (by rw[e];rfl);rw[J.tV e]at f;exact U9 h q f6 d m p g hn (hc e) f
def dF1:(dF f75).getD 1 .skip=.block 0 (.loop (oP (bC ((dF f75).getD 1 .skip)))):=by kernel_rfl
def dL2:(dL f75).getD 2 .skip=.block 1 (bC ((dL f75).getD 2 .skip)):=by kernel_rfl
def dB3:(dB f75).getD 3 .skip=.block 2 (bC ((dB f75).getD 3 .skip)):=by kernel_rfl
def Vc(l:List Tree)(lv:Value)(F:List Nat)(w0:World):Prop :=
 ∀(B z n:Nat) (s:J.PS) (w:World) (ev dv wv:Value) (gr gh:Nat) (ons hvs:List Value) (D:Nat->Prop),J.fitL l->n+(OA l).toNat<30->J.Bnd n s->(∀k∈F,k<B)->(∀k∈F,w.heap[k]?=w0.heap[k]?)->B<=H (S w)->PM w B z s ev dv wv gr gh ons hvs D ->
  Calls prog 75 #[.pointer (O ⟨z,0,Y⟩),lv] w fun e w'=>EU w B z (J.doL s l) e w'
def Vd(w:World)(B z:Nat)(s:J.PS)(lv:Value)(l:List Tree)(a:Act)(w':World):Prop :=
 ∃(k:Nat) (ev dv wv:Value) (gr gh:Nat) (ons hvs:List Value) (D:Nat->Prop),k<=M l/\DF0 a z lv k/\PM w' B z (J.doL s (l.take k)) ev dv wv gr gh ons hvs D/\JX (fun k=>B<=k) w w'
def Ve(h:NZ w0 B0 lv l F):Vc l lv F w0:=by
 induction h using NZ.ind with
 | @row v l vs Fs ho hv hF hc hnd ih =>
 intro B z n s w ev dv wv gr gh ons hvs D af hn hb al hk hB hP;have how:w.ownsRow B0 52 9 v (M l) (kE l vs):=bE ho fun k e=>hk k (by simp[e]);have aS:∃a c,v=C a (M l) c/\(0<M l->∃b,a=O ⟨b,0,Y⟩/\b<B):=by
  rcases how.2 with⟨e,h0⟩|⟨k,c,ba,e,_⟩
  ·exact⟨Y,0,by rw[e,h0],fun h=>by omega⟩
  ·exact⟨_,c,e,fun _=>⟨k,Z,al k (by rw[e];simp[xc])⟩⟩
 obtain⟨sa,sc,rfl,aR⟩:=aS;have HO:=MS how;have ap:=MS ih;have ag:=MS al;have aq:=MS hk;have HV:=MS hv;have HF:=MS hF;have ah:=MS af;have ao:=MS hb;have ar:=MS hn;have az:(M l:Int)<=OA l:=DN l;have aU:M l<30:=by omega
 clear how ih al hk hv hF af hb hn ho hc hnd;have HP:=MS hP;clear hP;go_enter func75,ntmps75;refine PW _ _ _ _ ?_;show NG prog ((dF f75).drop 0) _ _ w;refine MX 0 A7 Z fun K p=>?_
 conv=>arg 2;whnf
 go_wp2_with fail;refine p.o _ _ ?_;clear p;refine MX 1 A7 Z fun K8 aJ=>?_;rw[dF1];refine wp_block (wp_loop (Vd w B z s (C sa (M l) sc) l) (fun a _=>M l-(intOf (gA a 4)).toNat) ⟨0,_,_,_,_,_,_,_,_,Nat.zero_le _,⟨Z,Z,Z,Z,Z⟩,by simpa[J.bH]using HP.o,JX.refl _ _⟩ fun a w1 hL=>?_);obtain⟨k,ab,aa,ae,ad,ac,u,q,D1,bk,hf,au,av⟩:=hL;refine PW _ _ _ _ ?_;show NG prog ((dL f75).drop 0) _ a w1;have aA:M l-(intOf (gA a 4)).toNat=M l-k:=by rw[hf.s4];simp[intOf]
 rw[aA];clear aA;have T:=MS au;have V:=MS av;clear au av HP;obtain⟨sz,df,s0,s1,s4⟩:=hf;rw[OQ sz df];simp only[xF,List.range.loop,x5,x6,s0,s1,s4];generalize gA a=f;clear s0 s1 s4 sz df;by_cases hlt:k<M l
 ·have aP:(k:Int)<(M l:Int):=by omega
  obtain⟨b,rfl,aO⟩:=aR (by omega);have ay:k<M vs:=by rw[HV.o];exact hlt
  have ax:k<M Fs:=by rw[HF.o];exact hlt
  have L:=NZ.i HO.o Z HV.o k hlt vs[k] (by simp[ay]);have aj:MT (LnC w1 b (k*9) l[k].x vs[k]):=by
   have e:∀j,w1.cell? ⟨b,j,Y⟩=w.cell? ⟨b,j,Y⟩:=fun j=>gD (V.block b (by omega) (by omega))
   refine⟨(e _).trans (L 0 (by omega)),(e _).trans (L 1 (by omega)),(e _).trans (L 2 (by omega)),(e _).trans (L 3 (by omega)),(e _).trans (L 4 (by omega)),(e _).trans (L 5 (by omega)),(e _).trans (L 6 (by omega)),(e _).trans (L 7 (by omega)),(e _).trans (L 8 (by omega)),?_⟩;have:=V.size;omega
  have A:=J.pC ah.o k hlt;have an:MT (∃m,J.Bnd m (J.doL s (l.take k))/\m+1+(OA l[k].body).toNat<30):=by
   have bn:=WF l k hlt;have bo:=(gK (fun _=>true) (l.take k)).1;have bm:=(gK (fun _=>true) l[k].body).1;have bl:=ar.o;refine⟨_,J.eV (l.take k) s n ao.o (J.nO ah.o k),?_⟩;unfold OA at*;omega
  obtain⟨m,am,hm⟩:=an.o;have aE:MT (∀(w2:World),JX (fun k=>B<=k) w w2->∀(ab aa ae:Value) (ad ac:Nat) (u q:List Value) (D1:Nat->Prop),PM w2 B z ((J.doL s (l.take k)).bY l[k].x) ab aa ae ad ac u q D1->Calls prog 75 #[.pointer (O ⟨z,0,Y⟩),vs[k]] w2 fun e w'=>EU w2 B z (J.doL ((J.doL s (l.take k)).bY l[k].x) l[k].body) e w'):=fun w2 aB ab aa ae ad ac u q D1 aQ=>by
   have E:∀j∈Fs[k],j∈(MU b (M l) sc).ownBlock.toList++Fs.flatten:=fun j hj=>by
    simp only[List.mem_append,List.mem_flatten];exact xR ⟨Fs[k],List.getElem_mem ax,hj⟩
   refine ap.o k l[k] vs[k] Fs[k] (by simp[hlt]) (by simp[ay]) (by simp[ax]) B z (m+1) _ w2 _ _ _ _ _ _ _ _ A.2 hm am.bY (fun j hj=>ag.o j (E j hj)) (fun j hj=>?_) (x7 hB aB.size) aQ;have h1:=ag.o j (E j hj);rw[aB.block j (by omega) (by omega)];exact aq.o j (E j hj)
  have aK:MT (J.doL s (l.take (k+1))=J.dX (J.doL s (l.take k)) l[k]):=J.pD s l k hlt;have aD:=MS am;have aF:=MS A.1;have q3:=aj.a;have lb:b<H (S w1):=aj.lt;have a0:=A.1.a0;have a1:=A.1.a1;clear am A L an ap aq ag ah ao ar HO;generalize J.doL s (l.take k)=s1 at*;generalize aT:l[k]=t at*;obtain⟨x,bd⟩:=t;simp only at*;generalize vs[k]=bv at*;clear aT az;refine MX 0 wK Z fun K p=>?_
  conv=>arg 2;whnf
  go_wp2_with fail;refine p.o _ _ ?_;clear p;refine MX 1 wK Z fun K p=>?_
  conv=>arg 2;whnf
  go_wp2_with fail;refine p.o _ _ ?_;clear p;refine MX 2 wK Z fun K2 aH=>?_;rw[dL2];refine wp_block (PW _ _ _ _ ?_);show NG prog ((dB f75).drop 0) _ _ w1;refine MX 0 DB Z fun K p=>?_
  conv=>arg 2;whnf
  go_wp2_with fail;refine p.o _ _ ?_;clear p;refine MX 1 DB Z fun K p=>?_
  conv=>arg 2;whnf
  go_wp2_with(first|(go_at_call 117;refine(Az _ B z s1 ab aa ae ad ac u q D1 T.o x.a a0 (by omega)).mono ?_;rintro e w2 ⟨bp,rfl,aw,y⟩;have aG:=MS (aw.x (JX.of (P:=fun _=>False) y) fun _ _ e=>e.elim);have aL:=MS (T.X y);have ak:=MS (V.X y);have ai:=MS (aj.x (JX.of (P:=fun _=>False) y) fun e=>e);clear aw y));refine p.o _ _ ?_;clear p;have q0:=ai.op;have bq:b<H (S w2):=ai.lt;refine MX 2 DB Z fun K p=>?_
  conv=>arg 2;whnf
  go_wp2_with fail;refine p.o _ _ ?_;clear p;refine MX 3 DB Z fun K3 aI=>?_;rw[dB3];refine wp_block (PW _ _ _ _ ?_);show NG prog ((dS f75).drop 0) _ _ w2;refine Vb (n:=m) (b:=bd) (fun _ _ d _ _ h=>by cases d<;>exact h) aL.o ai.o ⟨⟨Z,Z,Z,Z,Z⟩,Z,Z,Z,Z⟩ aO (x7 hB ak.size) aG.o Z aF.o aD.o (by omega) (fun _ w3 be bb br bi bg aX aV D3 h3 x3=>aE.o w3 (ak.trans x3 fun _ _ e=>e) _ _ _ _ _ _ _ _ h3) fun a4 w4 bf bc bs bj bh aY aW D4 f4 h4 x4=>?_;refine aI.o _ _ (aH.o _ _ ?_);have aM:=MS h4;have aN:=MS (ak.trans x4 fun _ _ e=>e);clear h4 x4;obtain⟨sz,df,s0,aC,s4⟩:=f4;rw[OQ sz df];simp only[xF,List.range.loop,x5,x6,s0,aC,s4];generalize gA a4=g;clear s0 aC s4 sz df;refine MX 3 wK Z fun K p=>?_
  conv=>arg 2;whnf
  go_wp2_with fail;refine p.o _ _ ?_;clear p;refine⟨⟨k+1,_,_,_,_,_,_,_,_,hlt,⟨Z,Z,Z,Z,Z⟩,by rw[aK.o];exact aM.o,aN.o⟩,?_⟩;show M l-((k:Int)+1).toNat<M l-k;omega
 ·have hk:k=M l:=by omega
  have aP:¬(k:Int)<(M l:Int):=by omega
  have HE:MT (J.doL s (l.take k)=J.doL s l):=by unfold MT;rw[hk,List.take_length]
  rw[HE.o]at T;have aZ:=MS hk;clear hk;refine MX 0 wK Z fun K p=>?_
  conv=>arg 2;whnf
  go_wp2_with fail;refine p.o _ _ ?_;clear p;refine MX 1 wK Z fun K _=>?_
  conv=>arg 2;whnf
  go_wp2_with fail;refine aJ.o _ _ ?_;refine bodyPost_end (results_none Z _ _ _) Z ?_;exact⟨_,_,_,_,_,_,_,_,_,Z,T.o,V.o⟩
namespace J
def PS.aL(r:List Int):PS:=⟨[],[0,0,0,0],[[],[],[],[]],[],r,U,0⟩
def PS.jB(s:PS):Pth:=⟨s.e,s.g⟩
def paths(l:List Tree):Nat->List Int->List Pth
 |0,r=>[(doL (PS.aL r) l).jB]
 |n+1,r=>if(doL (PS.aL r) l).short then(xF 4).flatMap fun(v:Nat)=>paths l n (r++[(v:Int)])else[(doL (PS.aL r) l).jB]
def dN(h:∀v∈r,0<=v/\v<4)(c:M r<1000):Bnd 0 (PS.aL r):=by
 refine⟨by simp[PS.aL],by simp[PS.aL],by simp[PS.aL],Z,fun i=>?_,Z,fun i=>?_,by simp[PS.aL],h,c⟩
 ·match i with
  |0=>simp[PS.aL]
  |1=>simp[PS.aL]
  |2=>simp[PS.aL]
  |3=>simp[PS.aL]
  |i+4=>simp[PS.aL]
 ·match i with
  |0=>simp[PS.aL]
  |1=>simp[PS.aL]
  |2=>simp[PS.aL]
  |3=>simp[PS.aL]
  |i+4=>simp[PS.aL]
def wQ{x:Lh}(h:isRd x=U)(s:PS):(s.step x).short=s.short/\(s.step x).D=s.D:=by
 simp only[isRd,xm]at h;unfold PS.step;rw[h.1,h.2.1,h.2.2];simp only[xn,if_false]
 split
 ·exact⟨Z,Z⟩
 split
 ·exact⟨Z,Z⟩
 split
 ·exact⟨Z,Z⟩
 split
 ·unfold PS.set;split
  ·exact⟨Z,Z⟩
  split
  ·exact⟨Z,Z⟩
  split
  ·exact⟨Z,Z⟩
  split<;>exact⟨Z,Z⟩
 ·exact⟨Z,Z⟩
def vB{x:Lh}(h:isRd x=true)(s:PS):(s.step x).short=s.take.short/\(s.step x).D=s.take.D:=by
 simp only[isRd,xl]at h;unfold PS.step
 split
 ·exact⟨Z,Z⟩
 split
 ·exact⟨Z,Z⟩
 split
 ·exact⟨Z,Z⟩
 ·rename_i c d e
  rcases h with h|h|h
  ·exact absurd h c
  ·exact absurd h d
  ·exact absurd h e
def gH(l:List Tree):∀(s:PS),s.short=U->NL isRd l<=M s.D->(doL s l).short=U/\(M s.D:Int)<=(doL s l).D.length+NL isRd l:=by
 induction l using NL.induct with
 |case1=>intro s h _;rw[bH];exact⟨h,by rw[iY];omega⟩
 |case2 x b r h1 h2 =>
  intro s h c;rw[jA]at c⊢;rw[lL];have p:=(gK isRd b).1;have q:=(gK isRd r).1;have m:(dX s ⟨x,b⟩).short=U/\(M s.D:Int)<=(dX s ⟨x,b⟩).D.length+iM isRd ⟨x,b⟩:=by
   simp only[iM]at c⊢;unfold dX
   split
   ·split
    ·exact⟨h,by simp only[PS.bY];split<;>omega⟩
    ·obtain⟨d,g⟩:=h1 (s.bY x) h (by simp only[PS.bY];split at c<;>omega);refine⟨d,?_⟩;simp only[PS.bY]at g⊢
     split<;>omega
   ·cases hr:isRd x with
    |false =>
     rw[(wQ hr s).1,(wQ hr s).2];exact⟨h,by simp;omega⟩
    |true =>
     rw[(vB hr s).1,(vB hr s).2];simp only[hr,if_true]at c⊢;have f:0<M s.D:=by omega
     refine⟨?_,?_⟩
     ·unfold PS.take;simp only[h,Bool.false_or]
      cases e:s.D with
      |nil=>rw[e]at f;simp at f
      |cons _ _=>rfl
     ·unfold PS.take;simp only[List.length_tail];omega
  obtain⟨d,g⟩:=h2 (dX s ⟨x,b⟩) m.1 (by omega);exact⟨d,by omega⟩
end J
structure PQ(w:World)(lo hi z:Nat)(p:J.Pth)(ve:Value)(gr:Nat)(ons:List Value):Prop where
 z0:lo<=z
 z1:z<hi
 h1:hi<=H (S w)
 zt:∃u,Blk w z u 113/\u[0]?=O ve/\u[1]?=O (MU gr 4 4)
 eo:w.ownsRow lo 116 10 ve (M p.e) (ON p.e ons)
 el:∀b,ve.ownBlock=O b->b<hi
 ol:M ons=M p.e
 on:∀i,i<M p.e->OP w (fun k=>k<lo\/hi<=k\/ve.ownBlock=O k) (ons.getD i (.bool U)) (J.ev p.e i).on
 rb:Blk w gr (NT p.g) 3
 rl:M p.g=4
 r0:lo<=gr
 r1:gr<hi
 e0:M p.e=0->ve=C Y 0 0
def PM.pq{ev:Value}(h:PM w B z s ev dv wv gr gh ons hvs D):PQ w B (H (S w)) z s.jB ev gr ons :=
 ⟨h.bz,h.blk.lt,xb _,⟨_,h.blk,Z,Z⟩,h.eo,fun b c=>(h.eo.lt b c).2,h.ol,fun i d=>(h.on i d).of fun x f e=>e.elim (h.bl x) fun e=>e.elim fun e=>by omega (h.de x),h.rb,h.rl,h.bg,h.rb.lt,h.e0⟩
section
variable {w w':World}{lo hi z:Nat}{p:J.Pth}{ve:Value}{gr:Nat}{ons:List Value}
def PQ.keep(h:PQ w lo hi z p ve gr ons)(d:∀k,lo<=k->k<hi->w'.heap[k]?=w.heap[k]?)(hs:H (S w)<=H (S w')):PQ w' lo hi z p ve gr ons:=by
 obtain⟨u,g,m⟩:=h.zt;refine⟨h.z0,h.z1,x7 h.h1 hs,⟨u,g.keep (d z h.z0 h.z1),m⟩,bE h.eo fun k e=>d k (h.eo.lt k e).1 (h.el k e),h.el,h.ol,fun i c=>?_,h.rb.keep (d gr h.r0 h.r1),h.rl,h.r0,h.r1,h.e0⟩
 rcases h.on i c with e|⟨e,b,f,e1,e2,e3,e4⟩
 ·exact xW e
 ·have q:lo<=b:=by have:=fun k=>e4 (xW k);omega
  have t:=fun k=>e4 (xR (xW k))
  exact xR ⟨e,b,f,e1,fun i c=>(gD (d b q (by omega))).trans (e2 i c),x8 e3 hs,e4⟩
end
def iA(k:Nat)(Is:List (Nat×Nat×Nat)):Prop:=∃q∈Is,q.1<=k/\k<q.2.1
def PL(w:World):List (Nat×Nat×Nat)->List J.Pth->Prop
 |[],[]=>True
 |q::r,p::ps=>(∃ve gr ons,PQ w q.1 q.2.1 q.2.2 p ve gr ons)/\(∀x∈r,q.2.1<=x.1)/\PL w r ps
 |_,_=>False
def PL.len{w:World}:∀{Is:List (Nat×Nat×Nat)} {ps:List J.Pth},PL w Is ps->M Is=M ps
 |[],[],_=>Z
 |_::_,_::_,h=>by simp[PL.len h.2.2]
 |[],_::_,h=>h.elim
 |_::_,[],h=>h.elim
def PL.get{w:World}:∀{Is:List (Nat×Nat×Nat)} {ps:List J.Pth},PL w Is ps->∀(j:Nat) (q:Nat×Nat×Nat) (p:J.Pth),Is[j]?=O q->ps[j]?=O p->∃ve gr ons,PQ w q.1 q.2.1 q.2.2 p ve gr ons
 |[],[],_,j,q,p,h1,_=>by simp at h1
 |a::r,b::ps,h,j,q,p,h1,h2=>by
  cases j with
  |zero=>simp at h1 h2;subst h1 h2;exact h.1
  |succ j=>exact PL.get h.2.2 j q p (by simpa using h1) (by simpa using h2)
 |[],_::_,h,_,_,_,_,_=>h.elim
 |_::_,[],h,_,_,_,_,_=>h.elim
def PL.keep{w w':World}:∀{Is:List (Nat×Nat×Nat)} {ps:List J.Pth},PL w Is ps->(∀k,iA k Is->w'.heap[k]?=w.heap[k]?)->H (S w)<=H (S w')->PL w' Is ps
 |[],[],_,_,_=>trivial
 |a::r,_::_,h,hk,hs=>by
  obtain⟨⟨t,gr,ons,c⟩,d,e⟩:=h;exact⟨⟨t,gr,ons,c.keep (fun k f g=>hk k ⟨a,by simp,f,g⟩) hs⟩,d,PL.keep e (fun k ⟨q,m,p⟩=>hk k ⟨q,xo _ m,p⟩) hs⟩
 |[],_::_,h,_,_=>h.elim
 |_::_,[],h,_,_=>h.elim
def PL.top{w:World}:∀{Is:List (Nat×Nat×Nat)} {ps:List J.Pth},PL w Is ps->∀q∈Is,q.2.1<=H (S w)
 |[],[],_,q,h=>by simp at h
 |a::r,_::_,h,q,c=>by
  obtain⟨⟨g,gr,ons,d⟩,f,e⟩:=h
  rcases List.mem_cons.1 c with rfl|c
  ·exact d.h1
  ·exact PL.top e q c
 |[],_::_,h,_,_=>h.elim
 |_::_,[],h,_,_=>h.elim
def PL.pR{w:World}:∀{Is c:List (Nat×Nat×Nat)} {ps d:List J.Pth},PL w Is ps->PL w c d->(∀q∈Is,∀r∈c,q.2.1<=r.1)->PL w (Is++c) (ps++d)
 |[],_,[],_,_,k,_=>k
 |a::r,_,_::_,_,h,k,hq=>⟨h.1,fun x e=>(List.mem_append.1 e).elim (h.2.1 x) (hq a (by simp) x),PL.pR h.2.2 k fun q f=>hq q (xo _ f)⟩
 |[],_,_::_,_,h,_,_=>h.elim
 |_::_,_,[],_,h,_,_=>h.elim
def PL.lt{ps:List J.Pth}(h:PL w Is ps)(c:iA k Is):k<H (S w):=by
 obtain⟨q,d,f,e⟩:=c;exact x8 e (h.top q d)
def gC(q:Nat×Nat×Nat):Value:=.pointer (O ⟨q.2.2,0,Y⟩)
def xD(w:World)(ps:List J.Pth)(e:Ending)(w':World):Prop:=∃v Is,e=.returned v/\w'.ownsRow (H (S w)) 114 1 v (M ps) (Is.map gC)/\PL w' Is ps/\(∀q∈Is,H (S w)<=q.1)/\(∀b,v.ownBlock=O b->¬iA b Is)/\Below (H (S w)) w w'
def J.paths_pos(l:List Tree):∀(n:Nat) (r:List Int),0<(J.paths l n r).length
 |0,r=>by simp[J.paths]
 |n+1,r=>by
  unfold J.paths
  split
  ·have:=J.paths_pos l n (r++[0]);simp[List.flatMap,xF,List.range.loop];omega
  ·simp
def J.paths_le(l:List Tree):∀(n:Nat) (r:List Int),(J.paths l n r).length<=4^n
 |0,r=>by simp[J.paths]
 |n+1,r=>by
  unfold J.paths
  split
  ·have c:=J.paths_le l n (r++[0]);have d:=J.paths_le l n (r++[1]);have e:=J.paths_le l n (r++[2]);have f:=J.paths_le l n (r++[3]);simp[List.flatMap,xF,List.range.loop,Nat.pow_succ];omega
  ·have:1<=4^(n+1):=Nat.one_le_pow _ _ (by omega);simpa using this
def PM.new(q:Blk W z [C Y 0 0,MU gr 4 4,MU gh 4 4,C Y 0 0,rv,.bool U,N G 0] 113)(f:Blk W gr [N G 0,N G 0,N G 0,N G 0] 3)(g:Blk W gh [C Y 0 0,C Y 0 0,C Y 0 0,C Y 0 0] 37)(d:Below (H (S w)) w W)(z0:H (S w)<=z)(t:H (S w)<=gr)(u:H (S w)<=gh)(A:RP w (fun _=>False) rv r):
  PM W (H (S w)) z (J.PS.aL r) (C Y 0 0) rv (C Y 0 0) gr gh [] [C Y 0 0,C Y 0 0,C Y 0 0,C Y 0 0] (fun x=>x<H (S w)\/x=z\/x=gr\/x=gh):=by
 refine⟨q,xp _ _ _ _,Z,(fun i m=>by simp[J.PS.aL]at m),f,Z,g,Z,fun i m=>?_,OP.nil _ _,?_,z0,t,u,xR (xW Z),xR (xR (xW Z)),xR (xR (xR Z)),(fun b e=>by cases e),?_,fun x e=>xW e,fun _=>Z⟩
 ·have:i=0\/i=1\/i=2\/i=3:=by omega
  rcases this with rfl|rfl|rfl|rfl<;>exact OP.nil _ _
 ·rcases A with e|⟨b,o,c,e1,e2,e3,e4,_⟩
  ·exact xW e
  ·exact xR ⟨b,o,c,e1,e2,fun j y=>(d.cell (p:=⟨b,o+j,Y⟩) e4).trans (e3 j y),x8 e4 d.size,by show ¬(H (S w))<=b;omega⟩
 ·have:=d.size;rintro x (e|rfl|rfl|rfl)
  ·omega
  ·exact q.lt
  ·exact f.lt
  ·exact g.lt
def Dc(l:List Tree)(lv:Value)(F:List Nat)(w0:World)(bt o n:Nat):Prop :=
 ∀(r:List Int) (w:World) (rv:Value),(∀k∈F,w.heap[k]?=w0.heap[k]?)->w.cell? ⟨bt,o+1,Y⟩=O lv->bt<H (S w)->RP w (fun _=>False) rv r->OP w (fun _=>False) rv r->(∀v∈r,0<=v/\v<4)->NL J.isRd l<=n+M r->n+M r<=5 ->
  Calls prog 39 #[.pointer (O ⟨bt,o,Y⟩),rv] w fun e w'=>xD w (J.paths l n r) e w'
def lY.MI{l:List Int}(h:lY w B v l):RP w (fun _=>False) v l:=by
 have hs:M l=0\/0<M l:=by omega
 rcases hs with e|e
 ·obtain⟨a,c,e2⟩:=RL h;rw[e]at e2;exact xW ⟨xd e,a,c,e2⟩
 ·rcases SlC.own h e with⟨_,e2,_⟩|⟨b,d,e1,e2,e3,e4,_⟩
  ·omega
  ·exact xR ⟨b,0,d,e1,e4,fun j f=>by rw[Nat.zero_add];exact e2 j _ (by simp[NT,f]),e3,fun e=>e⟩
def Vf:∀w,(xq 37 (N G 4) (N G 4)).run prog w=.ok (MU (H (S w)) 4 4) (w.alloc (I #[N G 0,N G 0,N G 0,N G 0] 3)):=fun w=>by
 have:=run_make_row' 37 3 (N G 0) 8 underlying37 Tryz.OC rfl G G 4 (by omega) (by omega) w;rw[show madeCells #[Value.int G 0] 4=#[N G 0,N G 0,N G 0,N G 0]by kernel_rfl]at this;exact this
def Tryz.infoInts:(prog.info? 37).map (fun i=>(i.zero,i.size,i.bytes))=O (O (C Y 0 0),1,24):=by kernel_rfl
def Vg:∀w,(xq 23 (N G 4) (N G 4)).run prog w=.ok (MU (H (S w)) 4 4) (w.alloc (I #[C Y 0 0,C Y 0 0,C Y 0 0,C Y 0 0] 37)):=fun w=>by
 have:=run_make_row' 23 37 (C Y 0 0) 24 underlying23 Tryz.infoInts rfl G G 4 (by omega) (by omega) w;rw[show madeCells #[Value.slice Y 0 0] 4=#[C Y 0 0,C Y 0 0,C Y 0 0,C Y 0 0]by kernel_rfl]at this;exact this
def three(w:World)(c e g:List Value)(d f m:TypeId):Blk (((w.alloc (I c.toArray d)).alloc (I e.toArray f)).alloc (I g.toArray m)).drew (H (S w)) c d/\Blk (((w.alloc (I c.toArray d)).alloc (I e.toArray f)).alloc (I g.toArray m)).drew (H (S w)+1) e f/\Blk (((w.alloc (I c.toArray d)).alloc (I e.toArray f)).alloc (I g.toArray m)).drew (H (S w)+1+1) g m/\Below (H (S w)) w (((w.alloc (I c.toArray d)).alloc (I e.toArray f)).alloc (I g.toArray m)).drew:=by
 have t:=Blk.new w c d;have p:=Blk.new (w.alloc (I c.toArray d)) e f;have q:=Blk.new ((w.alloc (I c.toArray d)).alloc (I e.toArray f)) g m;have e1:(w.alloc (I c.toArray d)).heap.size=H (S w)+1:=by simp
 have e2:((w.alloc (I c.toArray d)).alloc (I e.toArray f)).heap.size=H (S w)+1+1:=by simp
 rw[e1]at p;rw[e2]at q;exact⟨(t.alloc _).alloc _,p.alloc _,q,((((xe _ _).alloc (xb _) _).alloc (by omega) _).alloc (by omega) _).drew⟩
def pF(d:Func):List Code:=dR (d.body.getD .skip)
def oH:(pF f39).length=10:=by kernel_rfl
structure PFr(a:Act)(bt o z:Nat)(rv:Value):Prop where
 sz:a.tmps.size=43
 df:a.defers=[]
 s0:gA a 0=.pointer (O ⟨bt,o,Y⟩)
 s1:gA a 1=rv
 s5:gA a 5=.pointer (O ⟨z,0,Y⟩)
def Dd(L:a.tmps.size=43)(q:a.defers=[])(A:gA a 0=.pointer (O ⟨bt,o,Y⟩))(E:gA a 1=rv)(g:RP w (fun _=>False) rv r)(t:∀a' W z gr gh hvs D,PFr a' bt o z rv->PM W (H (S w)) z (J.PS.aL r) (C Y 0 0) rv (C Y 0 0) gr gh [] hvs D->Below (H (S w)) w W->NG prog ((pF f39).drop 2) (bodyPost prog f39 R0) a' W):
  NG prog ((pF f39).drop 0) (bodyPost prog f39 R0) a w:=by
 have HR:=MS g;obtain⟨u,y,x,rfl⟩:∃u y x,rv=C u y x:=by
  rcases g with⟨_,a,c,e⟩|⟨b,o,c,e,_⟩
  ·exact⟨_,_,_,e⟩
  ·exact⟨_,_,_,e⟩
 have T:=Vf;have V:=Vg;have p:=MS t;clear g t;rw[OQ L q];simp only[xF,List.range.loop,x5,x6,A,E];generalize gA a=f;clear A E L q;refine MX 0 oH Z fun K m=>?_
 conv=>arg 2;whnf
 go_wp2_with fail;refine m.o _ _ ?_;clear m;refine MX 1 oH Z fun X d=>?_
 conv=>arg 2;whnf
 go_region
 ·refine d.o _ _ (p.o _ _ (H (S w)+1+1) (H (S w)) (H (S w)+1) _ _ ⟨Z,Z,Z,Z,Z⟩ (PM.new ?_ ?_ ?_ ?_ (by omega) (by omega) (by omega) HR.o) ?_)
  ·exact(three w _ _ _ _ _ _).2.2.1
  ·exact(three w _ _ _ _ _ _).1
  ·exact(three w _ _ _ _ _ _).2.1
  all_goals exact(three w _ _ _ _ _ _).2.2.2
 ·refine d.o _ _ (p.o _ _ (H (S w)+1+1) (H (S w)+1) (H (S w)) _ _ ⟨Z,Z,Z,Z,Z⟩ (PM.new ?_ ?_ ?_ ?_ (by omega) (by omega) (by omega) HR.o) ?_)
  ·exact(three w _ _ _ _ _ _).2.2.1
  ·exact(three w _ _ _ _ _ _).2.1
  ·exact(three w _ _ _ _ _ _).1
  all_goals exact(three w _ _ _ _ _ _).2.2.2
def De(A:NZ w0 B0 lv l F)(u:J.fitL l)(ag:(OA l).toNat<30)(q:∀k∈F,w.heap[k]?=w0.heap[k]?)(hc:w.cell? ⟨bt,o+1,Y⟩=O lv)(g:bt<H (S w))(E:∀v∈r,0<=v/\v<4)(L:M r<1000)(hf:PFr a bt o z rv)(hP:PM W (H (S w)) z (J.PS.aL r) (C Y 0 0) rv (C Y 0 0) gr gh [] hvs D)(p:Below (H (S w)) w W)(hN:∀a' w2 ev dv wv gr gh ons hvs D,PFr a' bt o z rv->PM w2 (H (S w)) z (J.doL (J.PS.aL r) l) ev dv wv gr gh ons hvs D->Below (H (S w)) w w2->NG prog ((pF f39).drop 3) (bodyPost prog f39 R0) a' w2):
  NG prog ((pF f39).drop 2) (bodyPost prog f39 R0) a W:=by
 have m:∀k∈F,k<H (S w):=fun k d=>by
  have h1:=(A.fV k d).2;have X:=q k d;rw[xr h1]at X;exact(Array.getElem?_eq_some_iff.1 X).1
 have HC:=MS (Ve A (H (S w)) z 0 _ W _ _ _ _ _ _ _ _ u (by omega) (J.dN E L) m (fun k d=>(p.block k (m k d)).trans (q k d)) p.size hP);have q1:=MZ p g hc;have ah:bt<H (S W):=x8 g p.size;have HB:=MS p;have HN:=MS hN;clear hN p hP A q m hc g;obtain⟨sz,V,s0,s1,s5⟩:=hf;rw[OQ sz V];simp only[xF,List.range.loop,x5,x6,s0,s1,s5];generalize gA a=f;clear s0 s1 s5 sz V;refine MX 2 oH Z (fun K T=>?_)
 conv=>arg 2;whnf
 go_wp2_with(first|(go_at_call 75;refine HC.mono ?_;rintro e w2 ⟨v2,ad,ac,ai,af,ae,ab,aa,D2,rfl,t,c⟩;have y:=MS t;have x:MT (Below (H (S w)) w w2):=⟨c.os.trans HB.os,c.tape.trans HB.tape,c.output.trans HB.output,x7 HB.size c.size,fun k q=>(c.block k (x8 q HB.size) (fun e=>by omega)).trans (HB.block k q)⟩;clear t c));refine T.o _ _ ?_;clear T;exact HN.o _ _ _ _ _ _ _ _ _ _ ⟨Z,Z,Z,Z,Z⟩ y.o x.o
def Df{ev:Value}(V:PFr a bt o z rv)(d:PM w2 (H (S w)) z s ev dv wv gr gh ons hvs D)(u:Below (H (S w)) w w2)(hs:s.short=U):
  NG prog ((pF f39).drop 3) (bodyPost prog f39 fun e w'=>xD w [s.jB] e w') a w2:=by
 have T:=d.blk.cell (i:=5) (v:=.bool s.short) Z;rw[hs]at T;have lz:=d.blk.lt;have L:=MS d;have HB:=MS u;clear d u;obtain⟨J,p,y,A,E⟩:=V;rw[OQ J p];simp only[xF,List.range.loop,x5,x6,y,A,E];generalize gA a=f;clear y A E J p;refine MX 3 oH Z fun K m=>?_
 conv=>arg 2;whnf
 go_wp2_with fail;refine m.o _ _ ?_;clear m;refine MX 4 oH Z fun K _=>?_
 conv=>arg 2;whnf
 go_wp2_with fail;refine bodyPost_ret (results_tmp (t:=4) Z _ _ _) Z ?_;have X:=L.pq;have c:Below (H (S w2)) w2 (w2.alloc (I #[.pointer (O ⟨z,0,Y⟩)] 114)):=(xe _ _).alloc (xb _) _;refine⟨_,[(H (S w),H (S w2),z)],Z,?_,⟨⟨_,_,_,X.keep (fun k _ k2=>c.block k k2) c.size⟩,by simp,trivial⟩,by simp,fun b g=>?_,HB.trans (c.mono HB.size)⟩
 ·exact World.ownsRow_lit w2 #[.pointer (O ⟨z,0,Y⟩)] 1 HB.size (by unfold maxLen;omega) Z
 ·cases g;rintro⟨q,x,q2,q3⟩
  simp at x;subst x;simp at q3
def wT(w:World)(l:List Tree)(n:Nat)(r:List Int)(ov:Value)(k:Nat)(w':World):Prop:=∃Is,w'.ownsRow (H (S w)) 114 1 ov ((xF k).flatMap fun(v:Nat)=>J.paths l n (r++[(v:Int)])).length (Is.map gC)/\PL w' Is ((xF k).flatMap fun(v:Nat)=>J.paths l n (r++[(v:Int)]))/\(∀q∈Is,H (S w)<=q.1)/\(∀b,ov.ownBlock=O b->¬iA b Is)/\Below (H (S w)) w w'
def pL(d:Func):List Code:=dR (oP (bC ((pF d).getD 7 .skip)))
def pB(d:Func):List Code:=dR (bC ((pL d).getD 2 .skip))
def xG:(pL f39).length=4:=by kernel_rfl
def ME:(pB f39).length=3:=by kernel_rfl
def pF7:(pF f39).getD 7 .skip=.block 0 (.loop (oP (bC ((pF f39).getD 7 .skip)))):=by kernel_rfl
def pL2:(pL f39).getD 2 .skip=.block 1 (bC ((pL f39).getD 2 .skip)):=by kernel_rfl
structure PGr(a:Act)(bt o:Nat)(rv ov:Value)(k:Nat):Prop where
 sz:a.tmps.size=43
 df:a.defers=[]
 s0:gA a 0=.pointer (O ⟨bt,o,Y⟩)
 s1:gA a 1=rv
 s6:gA a 6=ov
 s7:gA a 7=N G (k:Int)
def CH(l:List Tree)(n:Nat)(r:List Int)(k:Nat):((xF (k+1)).flatMap fun(v:Nat)=>J.paths l n (r++[(v:Int)]))=((xF k).flatMap fun(v:Nat)=>J.paths l n (r++[(v:Int)]))++J.paths l n (r++[(k:Int)]):=by
 rw[List.range_succ,List.flatMap_append];simp
def Dg(l:List Tree)(n:Nat)(r:List Int):∀k,((xF k).flatMap fun(v:Nat)=>J.paths l n (r++[(v:Int)])).length<=k*4^n
 |0=>by simp
 |k+1=>by
  have c:=Dg l n r k;have d:=J.paths_le l n (r++[(k:Int)]);rw[CH,x9,Nat.add_mul];omega
def Tryz.infoPp:(prog.info? 114).map (fun i=>(i.zero,i.size,i.bytes))=O (O (.pointer Y),1,8):=by kernel_rfl
def Dh{g:List (Nat×Nat×Nat)}(h:w.ownsRow B 114 1 v n (Is.map gC))(k:w.ownsRow B 114 1 v n (g.map gC)):Is.map gC=g.map gC:=by
 rcases Nat.eq_zero_or_pos n with rfl|q
 ·have d:=h.1;have f:=k.1;rw[Nat.zero_mul]at d f;rw[xd d,xd f]
 ·rcases SlC.own h q with⟨_,e,_⟩|⟨b,c,e1,e2,_,_,e3,_⟩
  ·omega
  ·rcases SlC.own k q with⟨_,e,_⟩|⟨x,y,m,t,_,_,f3,_⟩
   ·omega
   ·rw[e1]at m;cases m;refine List.ext_getElem (by rw[e3,f3]) fun i d f=>?_;have u:=e2 i _ (xg d);have p:=t i _ (xg f);rw[u]at p;exact Option.some.inj p
def wT.next{x wa y w5:World}{u v':Value}{g5 c5:Nat}(h:wT w l n r u k x)(T:Below (H (S x)) x wa)(hp:xD wa (J.paths l n (r++[(k:Int)])) (.returned v') y)(hx:∀(Is g:List (Nat×Nat×Nat)),x.ownsRow (H (S w)) 114 1 u ((xF k).flatMap fun(v:Nat)=>J.paths l n (r++[(v:Int)])).length (Is.map gC)->y.ownsRow (H (S wa)) 114 1 v' (J.paths l n (r++[(k:Int)])).length (g.map gC) ->
   w5.ownsRow (H (S w)) 114 1 (MU g5 (((xF k).flatMap fun(v:Nat)=>J.paths l n (r++[(v:Int)])).length+(J.paths l n (r++[(k:Int)])).length) c5) (((xF k).flatMap fun(v:Nat)=>J.paths l n (r++[(v:Int)])).length+(J.paths l n (r++[(k:Int)])).length) (Is.map gC++g.map gC))(K:y.grownBy w5 u.ownBlock)(m:u.ownBlock=O g5\/g5=H (S y)):
  wT w l n r (MU g5 ((xF (k+1)).flatMap fun(v:Nat)=>J.paths l n (r++[(v:Int)])).length c5) (k+1) w5:=by
 obtain⟨Is,h1,A,h3,h4,E⟩:=h;obtain⟨v2,g,e,p1,X,L,p4,p5⟩:=hp;cases e;have s1:=T.size;have s2:=p5.size;have s3:=K.size;have bb:Below (H (S w)) w y:=(E.trans (T.mono E.size)).trans (p5.mono (x7 E.size s1));have V:∀b,u.ownBlock=O b->H (S w)<=b/\b<H (S x):=fun b p=>h1.lt b p
 refine⟨Is++g,?_,?_,fun q f=>?_,fun b p=>?_,pT bb K fun b p=>(V b p).1⟩
 ·rw[CH,x9,xh];exact hx Is g h1 p1
 ·rw[CH];refine PL.pR (A.keep (fun j t=>?_) (by omega)) (X.keep (fun j t=>?_) s3) fun q f r hr=>?_
  ·have d:=A.lt t;rw[K.block j (by omega) fun e=>h4 j e.symm t,p5.block j (by omega),T.block j d]
  ·have d:=X.lt t;obtain⟨q,c,q2,q3⟩:=t;have:=L q c;exact K.block j d fun e=>by have:=(V j e.symm).2;omega
  ·have:=A.top q f;have:=L r hr;omega
 ·rcases List.mem_append.1 f with f|f
  ·exact h3 q f
  ·have:=L q f;have:=E.size;omega
 ·have e0:g5=b:=Option.some.inj p;subst e0;rintro⟨q,c,q2,q3⟩
  rcases List.mem_append.1 c with c|c
  ·rcases m with e|e
   ·exact h4 _ e ⟨q,c,q2,q3⟩
   ·have:=A.top q c;omega
  ·rcases m with e|e
   ·have:=(V _ e).2;have:=L q c;omega
   ·have:=X.top q c;omega
def Vh{ev:Value}(hl:NZ w0 B0 lv l F)(ih:Dc l lv F w0 bt o n)(hk:∀k∈F,w.heap[k]?=w0.heap[k]?)(hc:w.cell? ⟨bt,o+1,Y⟩=O lv)(ad:bt<H (S w))(hr:OP w (fun _=>False) rv r)(ap:∀v∈r,0<=v/\v<4)(ao:NL J.isRd l<=n+1+M r)(aR:n+1+M r<=5)(hf:PFr a bt o z rv)(hP:PM w2 (H (S w)) z s ev dv wv gr gh ons hvs D)(hb:Below (H (S w)) w w2)(hs:s.short=true):
  NG prog ((pF f39).drop 3) (bodyPost prog f39 fun e w'=>xD w ((xF 4).flatMap fun(v:Nat)=>J.paths l n (r++[(v:Int)])) e w') a w2:=by
 obtain⟨i0,hi,aH,aI,aJ⟩:=RW Tryz.infoPp;have L:=hP.blk.cell (i:=5) (v:=.bool s.short) Z;rw[hs]at L;have lz:=hP.blk.lt;have al:∀k∈F,k<H (S w):=fun k ak=>by
  have h1:=(hl.fV k ak).2;have h2:=hk k ak;rw[xr h1]at h2;exact(Array.getElem?_eq_some_iff.1 h2).1
 have aS:4^n<=4^4:=xk (by omega) (by omega);have HB:=MS hb;have au:MT (∀(k:Nat) (w3:World) (mv:Value),k<4->Below (H (S w)) w w3->lY w3 (H (S w)) mv (r++[(k:Int)])->Calls prog 39 #[.pointer (O ⟨bt,o,Y⟩),mv] w3 fun e w'=>xD w3 (J.paths l n (r++[(k:Int)])) e w'):=fun k w3 mv k4 b3 hm =>
  ih (r++[(k:Int)]) w3 mv (fun j hj=>(b3.block j (al j hj)).trans (hk j hj)) ((b3.cell (p:=⟨bt,o+1,Y⟩) ad).trans hc) (x8 ad b3.size) hm.MI (hm.mL (fun _ e=>e.elim) fun e=>by simp at e) fun v hv=>by
   rcases List.mem_append.1 hv with hv|hv
   ·exact ap v hv
   ·simp at hv;omega (by rw[x9];simp;omega) (by rw[x9];simp;omega)
 have HR:=MS hr;clear hP hb hk hc al ih hl hr ad ap ao;obtain⟨sz,df,s0,s1,s5⟩:=hf;rw[OQ sz df];simp only[xF,List.range.loop,x5,x6,s0,s1,s5];generalize gA a=f;clear s0 s1 s5 sz df;refine MX 3 oH Z fun K c=>?_
 conv=>arg 2;whnf
 go_wp2_with fail;refine c.o _ _ ?_;clear c;refine MX 4 oH Z fun K c=>?_
 conv=>arg 2;whnf
 go_wp2_with fail;refine c.o _ _ ?_;clear c;refine MX 5 oH Z fun K c=>?_
 conv=>arg 2;whnf
 go_wp2_with fail;refine c.o _ _ ?_;clear c;refine MX 6 oH Z fun K c=>?_
 conv=>arg 2;whnf
 go_wp2_with fail;refine c.o _ _ ?_;clear c;refine MX 7 oH Z fun K8 ax=>?_;rw[pF7];refine wp_block (wp_loop (fun a w'=>∃k ov,k<=4/\PGr a bt o rv ov k/\wT w l n r ov k w') (fun a _=>4-(intOf (gA a 7)).toNat) ⟨0,C Y 0 0,by omega,⟨Z,Z,Z,Z,Z,Z⟩,[],xp _ _ _ _,trivial,by simp,(fun b hb=>by cases hb),HB.o⟩ fun a m hL=>?_);obtain⟨k,ov,aN,hf,ah⟩:=hL;refine PW _ _ _ _ ?_;show NG prog ((pL f39).drop 0) _ a m;have an:4-(intOf (gA a 7)).toNat=4-k:=by rw[hf.s7];simp[intOf]
 rw[an];clear an L lz;have X:=MS ah;clear ah;obtain⟨sz,df,s0,s1,s6,s7⟩:=hf;rw[OQ sz df];simp only[xF,List.range.loop,x5,x6,s0,s1,s6,s7];generalize gA a=g;clear s0 s1 s6 s7 sz df;have aT:M r<10:=by omega
 by_cases hk4:k<4
 ·have aM:(k:Int)<4:=by omega
  refine MX 0 xG Z fun K c=>?_
  conv=>arg 2;whnf
  go_wp2_with fail;refine c.o _ _ ?_;clear c;refine MX 1 xG Z fun K c=>?_
  conv=>arg 2;whnf
  go_wp2_with fail;refine c.o _ _ ?_;clear c;refine MX 2 xG Z fun K2 aw=>?_;rw[pL2];refine wp_block (PW _ _ _ _ ?_);show NG prog ((pB f39).drop 0) _ _ m;have T:MT (Below (H (S m)) m (m.alloc (I #[N G (k:Int)] 3))):=(xe _ _).alloc (xb _) _;have y:MT (Below (H (S w)) w m):=by obtain⟨_,_,_,_,_,h⟩:=X.o;exact h
  have aA:MT (OP (m.alloc (I #[N G (k:Int)] 3)) (fun _=>False) (MU (H (S m)) 1 1) [(k:Int)]):=xR ⟨by simp,H (S m),1,Z,fun i hi=>by simp at hi;subst hi;exact(Blk.new m [N G (k:Int)] 3).cell Z,by simp,fun e=>e⟩;have aC:=MS (HR.x (JX.of (P:=fun _=>False) (y.trans (T.mono y.size))) fun _ _ e=>e);have aG:M r+[(k:Int)].length<10000000000000:=by simp;omega
  refine MX 0 ME Z fun K c=>?_
  conv=>arg 2;whnf
  go_wp2_with(first|(go_at_call 76;refine(xO rv (MU (H (S m)) 1 1) r [(k:Int)] _ aC.o aA.o aG).mono ?_;rintro e wa ⟨mv,rfl,A,ae,ai⟩;have V:=MS (T.trans (ai.mono T.size));have az:=MS (World.ownsRow.mono A (x7 y.size T.size));clear A ae ai));refine c.o _ _ ?_;clear c;have aq:=MS (au.o k wa mv hk4 (y.trans (V.mono y.size)) az.o);refine MX 1 ME Z fun K c=>?_
  conv=>arg 2;whnf
  go_wp2_with(first|(go_at_call 39;refine aq.mono ?_;rintro e wb aE;obtain⟨v',Js,rfl,p1,p2⟩:=aE;have ac:=MS p1;have ag:MT (xD wa (J.paths l n (r++[(k:Int)])) (.returned v') wb):=⟨v',Js,Z,p1,p2⟩;clear p1 p2));refine c.o _ _ ?_;clear c;have ab:=J.paths_pos l n (r++[(k:Int)]);have aO:=J.paths_le l n (r++[(k:Int)]);have aP:=Dg l n r k;have aQ:k*4^n<=3*4^n:=Nat.mul_le_mul_right _ (by omega);obtain⟨gv,cv,rfl,aj⟩:∃gv cv,v'=MU gv (J.paths l n (r++[(k:Int)])).length cv/\∀j u,(Js.map gC)[j]?=O u->wb.cell? ⟨gv,j,Y⟩=O u:=by
   rcases SlC.own ac.o ab with⟨_,e2,_⟩|⟨b,aD,e1,e2,_⟩
   ·omega
   ·exact⟨b,aD,e1,e2⟩
  have av:MT ((Js.map gC).length=(J.paths l n (r++[(k:Int)])).length*1):=ac.1;have ar:=MS aj;obtain⟨Is,hI⟩:∃Is:List (Nat×Nat×Nat),m.ownsRow (H (S w)) 114 1 ov ((xF k).flatMap fun(v:Nat)=>J.paths l n (r++[(v:Int)])).length (Is.map gC):=by obtain⟨Is,h,_⟩:=X.o;exact⟨Is,h⟩
  obtain⟨oa,oc,rfl⟩:=RL hI;have HI:=MS hI;have af:MT (Below (H (S m)) m wb):=by obtain⟨_,_,_,_,_,_,_,h⟩:=ag.o;exact V.trans (h.mono V.size)
  have aB:MT (∀(g5 L:Nat) (w5:World),w5.ownsRow (H (S w)) 114 1 (MU g5 (((xF k).flatMap fun(v:Nat)=>J.paths l n (r++[(v:Int)])).length+(J.paths l n (r++[(k:Int)])).length) L) (((xF k).flatMap fun(v:Nat)=>J.paths l n (r++[(v:Int)])).length+(J.paths l n (r++[(k:Int)])).length) (Is.map gC++Js.map gC)->wb.grownBy w5 (xc (C oa ((xF k).flatMap fun(v:Nat)=>J.paths l n (r++[(v:Int)])).length oc))->xc (C oa ((xF k).flatMap fun(v:Nat)=>J.paths l n (r++[(v:Int)])).length oc)=O g5\/g5=H (S wb)->wT w l n r (MU g5 (((xF k).flatMap fun(v:Nat)=>J.paths l n (r++[(v:Int)])).length+(J.paths l n (r++[(k:Int)])).length) L) (k+1) w5):=fun g5 L w5 q1 q2 q3=>by
   have e:((xF (k+1)).flatMap fun(v:Nat)=>J.paths l n (r++[(v:Int)])).length=((xF k).flatMap fun(v:Nat)=>J.paths l n (r++[(v:Int)])).length+(J.paths l n (r++[(k:Int)])).length:=by rw[CH,x9]
   have:=wT.next X.o V.o ag.o (g5:=g5) (c5:=L) (w5:=w5) (fun aK aL i1 i2=>?_) q2 q3
   ·rw[e]at this;exact this
   ·rw[Dh i1 HI.o,Dh i2 ac.o];exact q1
  clear hI aj;generalize((xF k).flatMap fun(v:Nat)=>J.paths l n (r++[(v:Int)])).length=nn at*;generalize(J.paths l n (r++[(k:Int)])).length=mm at*;refine MX 2 ME Z fun K c=>?_
  conv=>arg 2;whnf
  go_wp2_with(first|(at_builtin;refine wpList_append_lies _ Z (.tmp 39) (.tmp 40) 110 Z (H (S w)) 114 i0 (.pointer Y) 1 8 underlying110 hi aH aI aJ Z (by decide) _ nn (Is.map gC) Z (RO HI.o af.o) ⟨gv,0,Y⟩ mm cv (Js.map gC) Z av.o (fun j u hu=>by rw[RK,Nat.zero_add];exact ar.o j u hu) fun u hu=>by obtain⟨q,_,rfl⟩:=List.mem_map.1 hu;rfl ab (by unfold maxLen;omega) (by omega) (x7 y.size af.size) _ Z ?_;intro g5 L w5 E d aa am;have ay:=MS (aB.o g5 L w5 E d aa);clear E d aa am));refine c.o _ _ ?_;clear c;refine aw.o _ _ ?_;refine MX 3 xG Z fun K c=>?_
  conv=>arg 2;whnf
  go_wp2_with fail;refine c.o _ _ ?_;clear c;refine⟨⟨k+1,_,by omega,⟨Z,Z,Z,Z,Z,Z⟩,ay.o⟩,?_⟩;show 4-((k:Int)+1).toNat<4-k;omega
 ·have aF:k=4:=by omega
  subst aF;refine MX 0 xG Z fun K c=>?_
  conv=>arg 2;whnf
  go_wp2_with fail;refine c.o _ _ ?_;clear c;refine MX 1 xG Z fun K _=>?_
  conv=>arg 2;whnf
  go_wp2_with fail;refine ax.o _ _ ?_;refine MX 8 oH Z fun K c=>?_
  conv=>arg 2;whnf
  go_wp2_with fail;refine c.o _ _ ?_;clear c;refine MX 9 oH Z fun K _=>?_
  conv=>arg 2;whnf
  go_wp2_with fail;refine bodyPost_ret (results_tmp (t:=4) Z _ _ _) Z ?_;obtain⟨Is,h1,h2,h3,h4,h5⟩:=X.o;exact⟨_,Is,Z,h1,h2,h3,h4,h5⟩
def Vi(hl:NZ w0 B0 lv l F)(e:J.fitL l)(m:(OA l).toNat<30)(bt o:Nat):∀n,Dc l lv F w0 bt o n:=by
 intro n
 induction n with
 |zero =>
  intro r w rv A y c hr g d f aa;have hs:(J.doL (J.PS.aL r) l).short=U:=(J.gH l (J.PS.aL r) Z (by show NL J.isRd l<=(M r:Int);omega)).1;go_enter func39,ntmps39;refine PW _ _ _ _ ?_;show NG prog ((pF f39).drop 0) _ _ w;refine Dd Z Z Z Z hr (fun a1 W z gr gh hvs D T h1 E=>?_);refine De hl e m A y c d (by omega) T h1 E (fun a2 w2 L K ab X V q p D2 u x t=>?_);exact Df u x t hs
 |succ n ih =>
  intro r w rv A y c hr g d f aa;go_enter func39,ntmps39;refine PW _ _ _ _ ?_;show NG prog ((pF f39).drop 0) _ _ w;refine Dd Z Z Z Z hr (fun a1 W z gr gh hvs D T h1 E=>?_);refine De hl e m A y c d (by omega) T h1 E (fun a2 w2 L K ab X V q p D2 u x t=>?_);unfold J.paths
  cases hs:(J.doL (J.PS.aL r) l).short with
  |false =>
   simp only[xn,if_false];exact Df u x t hs
  |true =>
   simp only[if_true];exact Vh hl ih A y c g d (by omega) (by omega) u x t hs
def Di{w0:World}{g:Nat}{m:Value}{pss:List (List J.Pth)}{L:Nat}(f:0<M pss)(c:M pss<=4):∀(d t:Nat),t+d=M pss->AZ w0 g m pss L t
 |0,t,h=>by
  have e:t=M pss:=by omega
  rw[e];exact Sd f
 |d+1,t,h=>Si (by omega) c (Di f c d (t+1) (by omega))
namespace J
def E.bF(e:E)(t:Int):E:={e with t:=t}
def E.bM(e:E)(b:Int):E:={e with b:=b}
def Pth.bF(p:Pth)(i:Nat)(t:Int):Pth:=⟨p.e.set i ((ev p.e i).bF t),p.g⟩
def Pth.bM(p:Pth)(i:Nat)(b:Int):Pth:=⟨p.e.set i ((ev p.e i).bM b),p.g⟩
def Pth.tag(p:Pth)(t b:Int):Pth:=⟨p.e.map fun e=>(e.bF t).bM b,p.g⟩
end J
def Dj{A r:List α}{x y:α}(h:M A=i):(A++x::r).set i y=A++y::r:=by subst h;simp
def Dk{A r:List α}{x:α}(h:M A=i):(A++x::r)[i]?=O x:=by subst h;simp
def J.eJ(h:i<M es):J.ev es i=es[i]:=by unfold J.ev;simp[h]
namespace J
def Pth.eM(p:Pth)(t b:Int)(i:Nat):Pth:=⟨(p.e.take i).map (fun e=>(e.bF t).bM b)++p.e.drop i,p.g⟩
def Pth.iR(p:Pth)(t b:Int)(i:Nat):(p.eM t b i).e.length=M p.e:=by simp[Pth.eM];omega
def Pth.nY(p:Pth)(t b:Int):p.eM t b 0=p:=by simp[Pth.eM]
def Pth.oX(p:Pth)(t b:Int):p.eM t b (M p.e)=p.tag t b:=by simp[Pth.eM,Pth.tag]
def Pth.nN(p:Pth)(t b:Int)(i:Nat)(h:i<M p.e):((p.eM t b i).bF i t).bM i b=p.eM t b (i+1):=by
 have d:p.eM t b i=⟨(p.e.take i).map (fun e=>(e.bF t).bM b)++p.e[i]::p.e.drop (i+1),p.g⟩:=by
  unfold Pth.eM;rw[xs h]
 have e1:p.eM t b (i+1)=⟨(p.e.take i).map (fun e=>(e.bF t).bM b)++(p.e[i].bF t).bM b::p.e.drop (i+1),p.g⟩:=by
  unfold Pth.eM;rw[xt h,xh,xu];rfl
 have c:((p.e.take i).map fun e=>(e.bF t).bM b).length=i:=by rw[xi,xj];omega
 rw[d,e1];generalize(p.e.take i).map (fun e=>(e.bF t).bM b)=A at c;unfold Pth.bF Pth.bM ev;simp only[xv,Dj c,Dk c,Option.getD_some]
def gJ(ps:List Pth)(t b:Int)(k:Nat):List Pth:=(ps.take k).map (fun p=>p.tag t b)++ps.drop k
def nK(ps:List Pth)(t b:Int):gJ ps t b 0=ps:=by simp[gJ]
def pV(ps:List Pth)(t b:Int):gJ ps t b (M ps)=ps.map fun p=>p.tag t b:=by simp[gJ]
def Dl(ps:List Pth)(t b:Int)(k:Nat)(h:k<M ps):gJ ps t b k=(ps.take k).map (fun p=>p.tag t b)++ps[k]::ps.drop (k+1):=by
 unfold gJ;rw[xs h]
def pQ(ps:List Pth)(t b:Int)(k:Nat)(h:k<M ps):(gJ ps t b k)[k]?=O ps[k]:=by
 rw[Dl ps t b k h];exact Dk (by rw[xi,xj];omega)
def nR(ps:List Pth)(t b:Int)(k:Nat)(h:k<M ps):(gJ ps t b k).set k (ps[k].tag t b)=gJ ps t b (k+1):=by
 rw[Dl ps t b k h,Dj (by rw[xi,xj];omega)];unfold gJ;rw[xt h,xh,xu];rfl
end J
def Dm:∀{es:List J.E} {c:List Value} {i:Nat} (t:Int),M c=M es->i<M es->ON (es.set i ((J.ev es i).bF t)) c=(ON es c).set (i*10) (N G t)
 |[],_,i,t,_,h=>by simp at h
 |e::es,[],i,t,h,_=>by simp at h
 |e::es,o::c,0,t,h,_=>by
  simp[ON,evc,J.ev,J.E.bF]
 |e::es,o::c,i+1,t,h,hi=>by
  have e1:J.ev (e::es) (i+1)=J.ev es i:=by simp[J.ev]
  rw[e1,xw];simp only[ON];rw[Dm t (by simpa using h) (by simpa using hi),xx _ _ (by simp[evc];omega)]
  congr 2
  simp[evc];omega
def Dn:∀{es:List J.E} {c:List Value} {i:Nat} (t:Int),M c=M es->i<M es->ON (es.set i ((J.ev es i).bM t)) c=(ON es c).set (i*10+1) (N G t)
 |[],_,i,t,_,h=>by simp at h
 |e::es,[],i,t,h,_=>by simp at h
 |e::es,o::c,0,t,h,_=>by
  simp[ON,evc,J.ev,J.E.bM]
 |e::es,o::c,i+1,t,h,hi=>by
  have e1:J.ev (e::es) (i+1)=J.ev es i:=by simp[J.ev]
  rw[e1,xw];simp only[ON];rw[Dn t (by simpa using h) (by simpa using hi),xx _ _ (by simp[evc];omega)]
  congr 2
  simp[evc];omega
def Dp{e:J.E}(h:e.on=(J.ev es i).on):(J.ev (es.set i e) j).on=(J.ev es j).on:=by
 unfold J.ev at*;simp only[xv,List.getElem?_set]at *
 split
 ·rename_i c;subst c
  split
  ·simpa using h
  ·rename_i c;rw[List.getElem?_eq_none (by omega)]
 ·rfl
section
variable {w:World}{lo hi z:Nat}{p p':J.Pth}{ve:Value}{gr:Nat}{ons:List Value}
def PQ.row(h:PQ w lo hi z p ve gr ons)(m:0<M p.e):∃ge c,ve=MU ge (M p.e) c/\lo<=ge/\ge<hi/\w.cell? ⟨z,0,Y⟩=O (MU ge (M p.e) c)/\(∀j,j<M p.e*10->∃u,w.cell? ⟨ge,j,Y⟩=O u)/\∀j,w.frozen? ⟨ge,j,Y⟩=U:=by
 obtain⟨ge,c,rfl,q,x⟩:=h.eo.form m;obtain⟨u,d,f,t⟩:=h.zt;refine⟨ge,c,Z,q,h.el ge Z,d.cell f,fun j g=>?_,fun j=>h.eo.frozenAt j⟩;rw[h.eo.cellAt j g];have:=h.eo.1;exact⟨_,xg (by omega)⟩
def PQ.ne(h:PQ w lo hi z p ve gr ons)(e:ve.ownBlock=O ge):ge≠z/\ge≠gr:=by
 obtain⟨c,d⟩:=IA h.eo e;obtain⟨u,f,_⟩:=h.zt;exact⟨Blk.ne d f (by decide),Blk.ne d h.rb (by decide)⟩
def PQ.put{f:Nat}{u:Value}(h:PQ w lo hi z p (MU ge (M p.e) f) gr ons)(c:M p'.e=M p.e)(m:p'.g=p.g)(y:ON p'.e ons=(ON p.e ons).set j u)(A:∀i,(J.ev p'.e i).on=(J.ev p.e i).on):PQ (w.setCell ⟨ge,j,Y⟩ u) lo hi z p' (MU ge (M p.e) f) gr ons:=by
 obtain⟨v,q,t⟩:=h.zt;have ne:=h.ne (ge:=ge) Z;refine⟨h.z0,h.z1,by simpa using h.h1,⟨v,q.bR _ _ ne.1.symm,t⟩,?_,h.el,by rw[c];exact h.ol,fun i d=>?_,by rw[m];exact h.rb.bR _ _ ne.2.symm,by rw[m];exact h.rl,h.r0,h.r1,by rw[c];exact h.e0⟩
 ·rw[c,y];exact(h.eo.stored j u).1
 ·rw[A i];exact(h.on i (by rw[<- c];exact d)).x (P:=fun k=>k=ge) (JX.set (P:=fun k=>k=ge) (JX.refl _ _) (xW Z) _ _) fun x _ e=>xR (xR (by rw[e];rfl))
end
def PL.set{w w':World}{ge:Nat}(hs:H (S w)<=H (S w'))(d:∀k,k≠ge->w'.heap[k]?=w.heap[k]?):∀{Is:List (Nat×Nat×Nat)} {ps:List J.Pth},PL w Is ps->∀(j:Nat) (q:Nat×Nat×Nat) (c:J.Pth),Is[j]?=O q->q.1<=ge->ge<q.2.1->(∃f gr ons,PQ w' q.1 q.2.1 q.2.2 c f gr ons)->PL w' Is (ps.set j c)
 |[],[],_,j,q,c,h1,_,_,_=>by simp at h1
 |a::Is,b::ps,h,0,q,c,h1,g1,g2,hq=>by
  simp at h1;subst h1;refine⟨hq,h.2.1,h.2.2.keep (fun k ⟨x,u,A,E⟩=>d k fun e=>?_) hs⟩;have:=h.2.1 x u;omega
 |a::Is,b::ps,h,j+1,q,c,h1,g1,g2,hq=>by
  have m:q∈Is:=List.mem_of_getElem? (by simpa using h1);have g:=h.2.1 q m;refine⟨?_,h.2.1,PL.set hs d h.2.2 j q c (by simpa using h1) g1 g2 hq⟩;obtain⟨f,gr,ons,t⟩:=h.1;exact⟨f,gr,ons,t.keep (fun k _ y=>d k (by omega)) hs⟩
 |[],_::_,h,_,_,_,_,_,_,_=>h.elim
 |_::_,[],h,_,_,_,_,_,_,_=>h.elim
