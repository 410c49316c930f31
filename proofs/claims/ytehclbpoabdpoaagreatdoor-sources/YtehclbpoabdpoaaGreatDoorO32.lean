import Derived.Test.YtehclbpoabdpoaaGreatDoorO31
set_option linter.all false
set_option maxHeartbeats 0
namespace Go.Proofs.YtehclbpoabdpoaaGreatDoor
open Go Go.RowKit Go.Proofs.Tryz P Q
open scoped Classical
set_option maxRecDepth 1000000
open _root_.Array renaming size->N
open Go.World renaming heap->M,cell?->H
open List renaming length->L
open Option renaming none->Y,some->O
open Go.Value renaming slice->I
open Go.Obj renaming cells->G
open Bool renaming false->U
open Nat renaming le_refl->xF,lt_of_lt_of_le->xR,zero_le->xb
open Go.RowKit.Below renaming refl->xW
open List renaming range->xa,foldl_cons->xc
def rK(a:FA)(gr gf:Nat):Array Value:=#[a.ev,MU a.g1 a.n a.n,MU a.g2 a.n a.n,MU a.g3 a.n a.n,MU a.g4 a.n a.n,MU a.g5 a.n a.n,MU a.g6 a.n a.n,MU a.g7 a.n a.n,MU a.g8 a.n a.n,MU a.g9 a.n a.n,MU gr a.n a.n,MU gf a.n a.n]
def Qm(a:FA)(f:Eu)(K:Nat)(rd:List Nat)(i:Nat)(bf:List Nat)(k:Nat)(T:List Nat)(w:World)(hf:Ed w a f)(hr:Eb w K a.n rd)(b:Eb w i a.n bf)(hl:Eb w k a.n T):
  Calls prog 122 #[.agg (rK a K i),.agg #[MU k a.n a.n]] w fun e d=>e=.returned (.bool (f.dP bf T))/\Below (N (M w)) w d:=by
 obtain⟨x,c,D,_⟩:=hf.form;obtain⟨n,ev,g1,g2,g3,s,g5,g6,g7,g8,g9⟩:=a;simp only at D hr b hl;subst D;have HF:=MS hf;have HB:=MS b;have HL:=MS hl;simp only[OK,rK];go_enter func122,ntmps122;go_upto_region 1 with fail
 refine qO (fun W=>(∀d,Below (N (M W)) W d->H d ⟨N (M w),4,Y⟩=O (MU s n n)/\H d ⟨N (M w),11,Y⟩=O (MU i n n)/\H d ⟨N (M w)+1,0,Y⟩=O (MU k n n))/\Below (N (M w)) w W) ?_ ?_
 ·have h:=mZ w (rK (FA.mk n (I x n c) g1 g2 g3 s g5 g6 g7 g8 g9) K i) #[MU k n n] 123 83;exact⟨fun d b=>⟨(fL b (by simp;omega) (cA h.1)) 4,(fL b (by simp;omega) (cA h.1)) 11,(fL b (by simp) (cA h.2.1)) 0⟩,h.2.2.2⟩
 rintro W ⟨C,b⟩;have C:=MS C;have B:=MS b;go_cut[5]from 6 to 12 fun p wx=>∃t u,p=.pointer (O ⟨t,0,Y⟩)/\wx.heap[t]?=O (G #[MU u n n] 83 (0,0))/\Eb wx u n (dZ (dZ bf T) bf)/\Below (N (M W)) W wx/\N (M W)<=t
 case first =>
  go_region_held3 (fun d=>H d ⟨N (M w),4,Y⟩=O (MU s n n)/\H d ⟨N (M w),11,Y⟩=O (MU i n n)/\H d ⟨N (M w)+1,0,Y⟩=O (MU k n n)) (first|exact C.o _ (xW _ _)|exact C.o _ (xW _ _).drew|exact C.o _ oI|exact C.o _ ((xW _ _).drew.alloc (by simp) _)|exact C.o _ g.o|exact C.o _ (g.o.alloc g.o.size _)|exact C.o _ j.o|exact C.o _ (j.o.alloc j.o.size _)|exact C.o _ (j.o.setCell (by first|exact xF _|exact g.o.size) _)) (first
   |(go_at_call_of 102 (MU E n n);refine(oE E i n _ _ _ (by first|exact Q1.o|exact Q1.o.X oI) (HB.o.X (NE B.o (xF _) (by first|exact g.o|exact g.o.alloc g.o.size _)))).mono ?_;rintro e F ⟨V,rfl,r,b⟩;have j:MT (Below (N (M W)) W F):=(by first|exact NE g.o (xF _) b|exact NE (g.o.alloc g.o.size _) (xF _) b);(try(have m:xX F (N (M v)):=by first|exact sQ b|exact sQ (w:=v.drew) b));(try(have q:xX F (N (M W)):=YR b l));(try have bc:=m.1);(try have bf:=m.2.1);(try have bc:=q.1);(try have bf:=q.2.1);have z:=MS r)
   |(go_at_call_of 102 (MU i n n);refine(oE i k n _ _ _ (HB.o.X (by first|exact B.o.drew|exact B.o.drew.alloc (by have:=B.o.size;simpa using this) _)) (HL.o.X (by first|exact B.o.drew|exact B.o.drew.alloc (by have:=B.o.size;simpa using this) _))).mono ?_;rintro e v ⟨E,rfl,r,b⟩;have g:MT (Below (N (M W)) W v):=(by first|exact((xW (N (M W)) W).drew).trans (b.mono (by simp))|exact(((xW (N (M W)) W).drew).alloc (by simp) _).trans (b.mono (by simp)));(try(have l:xX v (N (M W)):=by first|exact sQ b|exact sQ (w:=W.drew) b));(try have bc:=l.1);(try have bf:=l.2.1);have Q1:=MS r))
  all_goals
   (try go_wp2)
   go_meet
   case rel=>first|exact YS j.o z.o|exact DM j.o (xF (N (M W))) z.o q.2.2|exact DM j.o g.o.size z.o m.2.2
 case rest =>
 obtain⟨t,u,rfl,kx,S,A,aa⟩:=hcut;have J:=MS (NE B.o (xF _) A);have y:MT (∀d,Below (N (M wc)) wc d->(H d ⟨N (M w),4,Y⟩=O (MU s n n)/\H d ⟨N (M w),11,Y⟩=O (MU i n n)/\H d ⟨N (M w)+1,0,Y⟩=O (MU k n n))/\H d ⟨t,0,Y⟩=O (MU u n n)):=fun d h=>⟨C.o d (NE A (xF _) h),fL h (cQ kx).2.2 (cA kx) 0⟩
 have Qx:=MS S;go_upto_region 2 with fail
 go_region_held3 (fun d=>(H d ⟨N (M w),4,Y⟩=O (MU s n n)/\H d ⟨N (M w),11,Y⟩=O (MU i n n)/\H d ⟨N (M w)+1,0,Y⟩=O (MU k n n))/\H d ⟨t,0,Y⟩=O (MU u n n)) (first|exact y.o _ (xW _ _)|exact y.o _ (xW _ _).drew|exact y.o _ g.o|exact y.o _ j.o|exact y.o _ B3.o) (first
  |(go_at_call_of 100 (MU V n n);refine(YH V n _ _ z.o).mono ?_;rintro e w3 ⟨rfl,b⟩;have B3:=MS (NE j.o (xF _) b))
  |(go_at_call_of 101 (MU E n n);refine(zH E s n _ _ _ Q1.o (HF.o.r4.X (NE J.o (xF _) g.o))).mono ?_;rintro e F ⟨V,rfl,r,b⟩;have j:=MS (NE g.o (xF _) b);have z:=MS r)
  |(go_at_call_of 61 (MU i n n);refine(qK i u n _ _ _ (HB.o.X J.o.drew) (Qx.o.X (xW _ _).drew)).mono ?_;rintro e v ⟨E,rfl,r,b⟩;have g:MT (Below (N (M wc)) wc v):=((xW (N (M wc)) wc).drew).trans (b.mono (by simp));have Q1:=MS r))
 all_goals
  go_wp2;go_ret;exact⟨Z,NE J.o (xF _) B3.o⟩
def Qn(a:FA)(f:Eu)(i:Nat)(rd:List Nat)(j:Nat)(t:List Nat)(k:Nat)(D:List Nat)(w:World)(hf:Ed w a f)(v:Eb w i a.n rd)(b:Eb w j a.n t)(u:Eb w k a.n D):
  Calls prog 114 #[.agg (OK a),.agg #[MU i a.n a.n],.agg #[MU j a.n a.n],.agg #[MU k a.n a.n]] w fun e d=>mN w d a.n (JM rd t D) e:=by
 obtain⟨x,c,m,_⟩:=hf.form;obtain⟨n,ev,T,V,g3,g4,g5,g6,g7,g8,g9⟩:=a;simp only at m v b u;subst m;have HR:=MS v;have HB:=MS b;have J:=MS u;simp only[OK];go_enter func114,ntmps114;go_upto_region 1 with fail
 refine qO (fun W=>(∀d,Below (N (M W)) W d->(H d ⟨N (M w)+1,0,Y⟩=O (MU i n n)/\H d ⟨N (M w)+2,0,Y⟩=O (MU j n n)/\H d ⟨N (M w)+3,0,Y⟩=O (MU k n n))/\d.heap[N (M w)+4]?=O (G #[I Y 0 0] 83 (0,0)))/\Below (N (M w)) w W/\N (M w)+4<N (M W)) ?_ ?_
 ·have h:=Mq w (OK (FA.mk n (I x n c) T V g3 g4 g5 g6 g7 g8 g9)) #[MU i n n] #[MU j n n] #[MU k n n] #[I Y 0 0] 85 83 83 83 83;exact⟨fun d b=>⟨⟨(fL b (by simp) (cA h.2.1)) 0,(fL b (by simp) (cA h.2.2.1)) 0,(fL b (by simp) (cA h.2.2.2.1)) 0⟩,(b.block _ (by simp)).trans h.2.2.2.2.1⟩,h.2.2.2.2.2.2,by simp⟩
 rintro W ⟨C,b,l⟩;have C:=MS C;have B:=MS b;go_region_held3 (fun d=>H d ⟨N (M w)+1,0,Y⟩=O (MU i n n)/\H d ⟨N (M w)+2,0,Y⟩=O (MU j n n)/\H d ⟨N (M w)+3,0,Y⟩=O (MU k n n)) (first|exact(C.o _ (xW _ _).drew).1|exact(C.o _ r.o).1|exact(C.o _ s.o).1|exact(C.o _ g.o).1|exact⟨(cY (by omega)).trans (C.o _ g.o).1.1,(cY (by omega)).trans (C.o _ g.o).1.2.1,(cY (by omega)).trans (C.o _ g.o).1.2.2⟩) (first
  |(go_at_call_of 61 (MU F n n);refine(qK F k n _ _ _ K.o (J.o.X (NE B.o (xF _) s.o))).mono ?_;rintro e w3 ⟨q3,rfl,q,b⟩;have g:=MS (NE s.o (xF _) b);have z:=(cQ (C.o _ g.o).2).2.1;have y:=(cQ (C.o _ g.o).2).1;have S:=MS q)
  |(go_at_call_of 61 (MU E n n);refine(qK E j n _ _ _ Q1.o (HB.o.X (NE B.o (xF _) r.o))).mono ?_;rintro e w2 ⟨F,rfl,q,b⟩;have s:=MS (NE r.o (xF _) b);have K:=MS q)
  |(go_at_call_of 110 (MU i n n);refine(Mo i n _ _ (HR.o.X B.o.drew)).mono ?_;rintro e w1 ⟨E,rfl,q,b⟩;have r:MT (Below (N (M W)) W w1):=((xW (N (M W)) W).drew).trans (b.mono (by simp));have Q1:=MS q))
 all_goals
  (try go_wp2)
  have A:=(C.o _ g.o).2;exact nL (p:=8) (N (M w)+4) _ (by kernel_rfl) Z (by exact bX A 0 _) Z ⟨q3,Z,AO A S.o (NE B.o (xF _) g.o) (by omega)⟩
def Qo(a:FA)(f:Eu)(v:Value)(ps:List Int)(w:World)(T:Ed w a f)(hv:PC w v ps)(an:L ps=a.n):
  Calls prog 69 #[.agg (OK a),v] w fun e w'=>mN w w' a.n (hY f.E ps) e:=by
 have ab:MT (hY f.E ps=(xa a.n).foldl (wH f.E ps) (NU a.n)):=by unfold MT hY;rw[T.len]
 obtain⟨va,vc,rfl,aq⟩:=hv.form;have ar:0<a.n->∃g,va=O ⟨g,0,Y⟩/\g<N (M w)/\∀i,i<a.n->H w ⟨g,i,Y⟩=O (.int .i64 (ps.getD i 0)):=fun h0=>by
  obtain⟨g,e1,e2,e3⟩:=aq (by omega);exact⟨g,e1,e2,fun i hi=>by rw[gS ps i (by omega)];exact e3 i (by omega)⟩
 clear aq;rw[an];obtain⟨x,c,ai,hx⟩:=T.form;have K:=T.n64;have C:=T.len;obtain⟨n,ev,g1,g2,g3,g4,g5,g6,g7,g8,g9⟩:=a;simp only at ai K C hx;subst ai;simp only[OK];simp only at ab an ar;have W:=MS T.ev;obtain⟨k0,k1,aQ,ah⟩:=mZ w #[I x n c,MU g1 n n,MU g2 n n,MU g3 n n,MU g4 n n,MU g5 n n,MU g6 n n,MU g7 n n,MU g8 n n,MU g9 n n] #[I Y 0 0] 85 83;have s:=MS ah;clear ah T hv;go_enter func69,ntmps69;go_upto_region 1 with fail
 generalize hE:(w.alloc (G #[I x n c,MU g1 n n,MU g2 n n,MU g3 n n,MU g4 n n,MU g5 n n,MU g6 n n,MU g7 n n,MU g8 n n,MU g9 n n] 85)).alloc (G #[I Y 0 0] 83)=W0 at*;have ad:=jP k0 0 _ Z;obtain⟨c1,f1,l1⟩:=cQ k1;have l0:N (M w)<N (M W0):=by omega
 have K1:=MS k1;clear hE k0 k1 c1 f1;go_wp2_with(first|(go_at_call 98;refine(lS n _ K).mono ?_;rintro e w1 ⟨gn,rfl,ap,aH,am,aj,af⟩;have HS:=MS (Fill.start ⟨ap,am,aj⟩ aH af);have ae:=HS.o.cell (p:=⟨N (M w),0,Y⟩) l0 ad;clear ap af am aj));go_loopw[17] (fun i wr=>∃(k:Nat) (t:List Nat),k<=n/\i=.int .i64 k/\MT (t=(xa k).foldl (wH f.E ps) (NU n))/\MT (Fill W0 wr (N (M w1)) gn n t)) fun i _=>n-(intOf i).toNat
 case atStart=>exact⟨0,_,xb _,Z,Z,HS⟩
 case round =>
  clear ae;obtain⟨k,t,hk,rfl,HT,D⟩:=hrel;obtain⟨b0,b1,b2⟩:=cQ D.o.box;have aF:=D.o.cell (p:=⟨N (M w),0,Y⟩) l0 ad;have aM:=xR l0 D.o.bel.size;by_cases hlt:k<n
  ·have aO:(k:Int)<(n:Int):=by omega
   obtain⟨r,rfl,ag⟩:=hx (by omega);obtain⟨S,rfl,al,ao⟩:=ar (by omega);have J:r<N (M W0):=by omega
   have A:S<N (M W0):=by omega
   have ac:MT (wr.rangeAt r (k*10) (aG (Q.ev f.E k)).toList):=jM (W.o.cN C.symm k (by omega)) ((D.o.bel.block r J).trans (s.o.block r ag));have aA:MT (H W0 ⟨S,k,Y⟩=O (.int .i64 (ps.getD k 0))):=(s.o.cell (p:=⟨S,k,Y⟩) al).trans (ao k (by omega));have aC:MT ((xa (k+1)).foldl (wH f.E ps) (NU n)=(xa n).foldl (rX f.E ps k) t):=by unfold MT;rw[jJ,<- HT.o];unfold wH;rw[C]
   have aw:MT (∀q,QY f.E ps k q=((Q.ev f.E k).B==1&&(Q.ev f.E q).B==1&&(Q.ev f.E k).z==(Q.ev f.E q).z&&decide (ps.getD k 0<ps.getD q 0))):=fun q=>Z
   generalize Q.ev f.E k=e1 at*;generalize aJ:ps.getD k 0=pk at*;clear aJ;have V:MT (NK (wr.alloc (G (aG e1) 180)) (N (M wr)) e1):=NK.new wr e1;have aa:=MS (D.o.alloc (G (aG e1) 180));go_wp2_with(first|(refine fY (.tmp 20) Z Z r (k*10) e1 Z ac.o ?_));go_loopw[25] (fun j wq=>∃(q:Nat) (u:List Nat),q<=n/\j=.int .i64 q/\MT (u=(xa q).foldl (rX f.E ps k) t)/\MT (Fill W0 wq (N (M w1)) gn n u)/\MT (NK wq (N (M wr)) e1)) fun j _=>n-(intOf j).toNat
   case atStart=>exact⟨0,t,xb _,Z,Z,aa,V⟩
   case round =>
    clear aF aa V b0 b1 b2 ac aM;obtain⟨q,u,hq,rfl,HU,HJ,HA⟩:=hrel;by_cases hql:q<n
    ·have aP:(q:Int)<(n:Int):=by omega
     have y:MT (wr.rangeAt r (q*10) (aG (Q.ev f.E q)).toList):=jM (W.o.cN C.symm q (by omega)) ((HJ.o.bel.block r J).trans (s.o.block r ag));have aB:MT (H W0 ⟨S,q,Y⟩=O (.int .i64 (ps.getD q 0))):=(s.o.cell (p:=⟨S,q,Y⟩) al).trans (ao q (by omega));have HB:=MS (aw.o q);have m:MT ((xa (q+1)).foldl (rX f.E ps k) t=dJ (QY f.E ps k q) u k q):=by unfold MT;rw[jJ,<- HU.o];rfl
     rw[HB.o]at m;generalize Q.ev f.E q=e2 at*;generalize aK:ps.getD q 0=pq at*;clear aK;have b:=MS (HJ.o.alloc (G (aG e2) 180));have l:=MS (HA.o.alloc (G (aG e2) 180));have aD:=b.o.cell (p:=⟨S,k,Y⟩) A aA.o;have aE:=b.o.cell (p:=⟨S,q,Y⟩) A aB.o;have aN:=xR A b.o.bel.size;obtain⟨x0,x1,x2,x3,x4,x5,x6,x7,x8,x9,xf,xl⟩:=l.o.F;clear x1 x2 x4 x5 x6 x7 x8 x9;have au:=MS (NK.new wr e2);obtain⟨y0,y1,y2,y3,y4,y5,y6,y7,y8,y9,yf,yl⟩:=au.o.F;clear y1 y2 y4 y5 y6 y7 y8 y9;simp only[aG]at x0 x3 xf xl y0 y3 yf yl aD aE aN
     cases z1:e1.B==1
     ·have d:MT (u=(xa (q+1)).foldl (rX f.E ps k) t):=by unfold MT;rw[m.o];simp[dJ,z1]
      go_wp2_with(first|(refine fY (.tmp 28) Z Z r (q*10) e2 Z y.o ?_));go_quiet (fail)
      all_goals
       go_wp2;go_roundw
       case rel=>exact⟨q+1,u,by omega,by go_num,d,b.o.keep (QA _ _ _),l.o.X (QA _ _ _)⟩
       case measure=>simp[intOf];omega
     cases z2:e2.B==1
     ·have d:MT (u=(xa (q+1)).foldl (rX f.E ps k) t):=by unfold MT;rw[m.o];simp[dJ,z1,z2]
      go_wp2_with(first|(refine fY (.tmp 28) Z Z r (q*10) e2 Z y.o ?_));go_quiet (fail)
      all_goals
       go_wp2;go_roundw
       case rel=>exact⟨q+1,u,by omega,by go_num,d,b.o.keep (QA _ _ _),l.o.X (QA _ _ _)⟩
       case measure=>simp[intOf];omega
     cases z3:e1.z==e2.z
     ·have d:MT (u=(xa (q+1)).foldl (rX f.E ps k) t):=by unfold MT;rw[m.o];simp[dJ,z1,z2,z3]
      go_wp2_with(first|(refine fY (.tmp 28) Z Z r (q*10) e2 Z y.o ?_));go_quiet (fail)
      all_goals
       go_wp2;go_roundw
       case rel=>exact⟨q+1,u,by omega,by go_num,d,b.o.keep (QA _ _ _),l.o.X (QA _ _ _)⟩
       case measure=>simp[intOf];omega
     by_cases hz4:pk<pq
     ·have z4:decide (pk<pq)=true:=decide_eq_true hz4;have d:MT (dE u (k:Int) (q:Int)=(xa (q+1)).foldl (rX f.E ps k) t):=by unfold MT;rw[m.o];simp[dJ,z1,z2,z3,z4]
      go_wp2_with(first|(refine fY (.tmp 28) Z Z r (q*10) e2 Z y.o ?_));go_quiet (fail)
      all_goals
       go_wp2_with(first|(go_at_call 99;refine(nU (N (M w1)) 0 gn n u (k:Int) (q:Int) _ (b.o.keep (QA _ _ _)).oV b.o.rel.fits).mono ?_;rintro e wc ⟨rfl,aL,ak⟩;have ay:=MS ((b.o.keep (QA _ _ _)).grown ak aL);have av:=MS (NK.grown (l.o.X (QA _ _ _)) (b.o.keep (QA _ _ _)).rel.at_ ak)));go_roundw
       case rel=>exact⟨q+1,_,by omega,by go_num,d,ay,av⟩
       case measure=>simp[intOf];omega
     ·have z4:decide (pk<pq)=U:=decide_eq_false hz4;have d:MT (u=(xa (q+1)).foldl (rX f.E ps k) t):=by unfold MT;rw[m.o];simp[dJ,z1,z2,z3,z4]
      go_wp2_with(first|(refine fY (.tmp 28) Z Z r (q*10) e2 Z y.o ?_));go_quiet (fail)
      all_goals
       go_wp2;go_roundw
       case rel=>exact⟨q+1,u,by omega,by go_num,d,b.o.keep (QA _ _ _),l.o.X (QA _ _ _)⟩
       case measure=>simp[intOf];omega
    ·have az:MT (u=(xa (k+1)).foldl (wH f.E ps) (NU n)):=by unfold MT;rw[aC.o,HU.o,show q=n by omega]
     go_wp2;go_roundw
     case rel=>exact⟨k+1,u,by omega,by go_num,az,HJ⟩
     case measure=>simp[intOf];omega
  ·have aI:k=n:=by omega
   have ax:MT (t=hY f.E ps):=by unfold MT;rw[ab.o,HT.o,aI]
   obtain⟨q1,q2⟩:=D.o.o s.o K1.o (by omega);rw[ax.o]at q1;go_wp2_with(first|(refine lP (.tmp 5) Z Z (N (M w1)) _ Z D.o.box ?_)|(refine uW (.tmp 4) (.tmp 71) Z Z (N (M w)+1) _ _ Z Z ((D.o.bel.block _ l1).trans K1.o) Z ?_));refine nL (p:=4) (N (M w)+1) _ (by kernel_rfl) Z q2 Z q1
def Qp(a:FA)(f:Eu)(s:Nat)(rd:List Nat)(k:Nat)(bf:List Nat)(w:World)(y:Ed w a f)(z:Eb w s a.n rd)(b:Eb w k a.n bf)(A:Value)(ps:List Int)(D:PC w A ps)(q:L ps=a.n):
  Calls prog 81 #[.agg (rK a s k),A] w fun e w'=>e=.returned (.bool (f.fX rd bf ps))/\Below (N (M w)) w w':=by
 obtain⟨x,c,u,_⟩:=y.form;obtain⟨n,ev,g1,g2,g3,g4,g5,g6,g7,g8,g9⟩:=a;simp only at u z b q;subst u;have t:=MS y;have HR:=MS z;have HB:=MS b;have V:=MS D;have T:=MS q;clear y z b D q;simp only[OK,rK]
 cases h1:lI bf
 case' false =>
  cases h2:f.kB (dZ rd (hY f.E ps)) (hY f.E ps)
  case' false=>cases h3:lI (dZ bf (Q.OF rd (hY f.E ps)))
 all_goals
  go_enter func81,ntmps81;go_upto_region 1 with fail
  refine qO (fun W=>(∀i,H W ⟨N (M w),i,Y⟩=(rK (FA.mk n (I x n c) g1 g2 g3 g4 g5 g6 g7 g8 g9) s k)[i]?)/\Below (N (M w)) w W/\N (M w)<N (M W)) ⟨cA (heap_alloc_new _ _),oI,by simp⟩ ?_;rintro W ⟨g,b,l⟩;simp only[rK,OK]at g;have B:=MS b;clear b;go_wp2_with(first
   |(go_at_call_of 111 (MU k n n);refine(IK k n _ _ (HB.o.X B.o)).mono ?_;rintro e w1 ⟨rfl,b⟩;rw[h1];have g:=fL b l g;have l:=xR l b.size;have B:=MS (NE B.o (xF _) b);clear b)
   |(go_at_call 69;refine(Qo _ f A ps _ (t.o.X B.o) (V.o.X B.o) T.o).mono ?_;rintro e w2 ⟨C,rfl,j,b⟩;have p:=MS j;have g:=fL b l g;have l:=xR l b.size;have B:=MS (NE B.o (xF _) b);clear b j)
   |(go_at_call 70;refine(Nb _ f s _ C _ _ (t.o.X (B.o.alloc B.o.size _)) (HR.o.X (B.o.alloc B.o.size _)) (p.o.X oI)).mono ?_;rintro e w3 ⟨F,rfl,j,b⟩;have v:=MS j;obtain⟨b,d,m⟩:=CC b;have g:=fL b l g;have l:=xR l b.size;have p:=MS (p.o.X b);have B:=MS (NE B.o (xF _) b);clear b j)
   |(go_at_call 113;refine(Nc _ f F _ C _ _ (t.o.X (B.o.alloc B.o.size _)) (v.o.X oI) (p.o.X oI)).mono ?_;rintro e w4 ⟨rfl,b⟩;rw[h2];obtain⟨b,d',m'⟩:=CC b;have g:=fL b l g;have l:=xR l b.size;have d:=MZ b m d;have m:=xR m b.size;have p:=MS (p.o.X b);have v:=MS (v.o.X b);have B:=MS (NE B.o (xF _) b);clear b)
   |(go_at_call 114;refine(Qn _ f s _ C _ F _ _ (t.o.X B.o) (HR.o.X B.o) p.o v.o).mono ?_;rintro e w5 ⟨J,rfl,j,b⟩;have Q5:=MS j;have g:=fL b l g;have l:=xR l b.size;have B:=MS (NE B.o (xF _) b);clear b j)
   |(go_at_call_of 80 (MU J n n);refine(LW J n _ _ Q5.o).mono ?_;rintro e w6 ⟨K,rfl,j,b⟩;have r:=MS j;have g:=fL b l g;have l:=xR l b.size;have B:=MS (NE B.o (xF _) b);clear b j)
   |(go_at_call_of 102 (MU k n n);refine(oE k K n _ _ _ (HB.o.X (B.o.alloc B.o.size _)) (r.o.X oI)).mono ?_;rintro e w7 ⟨S,rfl,j,b⟩;have Q7:=MS j;obtain⟨b,d,m⟩:=CC b;have g:=fL b l g;have l:=xR l b.size;have r:=MS (r.o.X b);have B:=MS (NE B.o (xF _) b);clear b j)
   |(go_at_call_of 111 (MU S n n);refine(IK S n _ _ Q7.o).mono ?_;rintro e w8 ⟨rfl,b⟩;rw[show lI (dZ bf (lK (JM rd (hY f.E ps) (dZ rd (hY f.E ps)))))=_ from h3];have g:=fL b l g;have l:=xR l b.size;have d:=MZ b m d;have m:=xR m b.size;have r:=MS (r.o.X b);have B:=MS (NE B.o (xF _) b);clear b)
   |(go_at_call 122;refine(Qm _ f s _ k _ K _ _ (t.o.X B.o) (HR.o.X B.o) (HB.o.X B.o) r.o).mono ?_;rintro e w9 ⟨rfl,b⟩;have B:=MS (NE B.o (xF _) b);clear b))
  go_ret;refine⟨?_,B.o⟩;unfold Eu.fX
  first|(rw[h1];rfl)|(rw[h1,h2];rfl)|(rw[h1,h2,h3];rfl)
namespace Q
def BU{α:Type}(F:PA->α->PA)(b:∀a x,L a.y<=(F a x).y.length):∀(l:List α) (a:PA),L a.y<=(l.foldl F a).y.length
 |[],a=>xF _
 |x::l,a=>by rw[xc];exact Nat.le_trans (b a x) (BU F b l _)
def Ag(c:Wd)(f:Eu)(rd bf:List Nat)(a:PA)(b:List Int):L a.y<=(kP c f rd bf a b).y.length:=by
 unfold kP;split
 ·exact Qi _ _
 ·exact xF _
end Q
def Qq{b g:World}{f d gd:Nat}{c a:List Int}(m:NM b f c)(k:NM b d a)(l:NM b gd (fJ (L a)))(o:f≠gd)(p:d≠gd)(n:L a=L c)(j:g.heap[N (M b)]?=O (G #[MU f (L c) (L c),MU d (L a) (L a),MU gd (L a) (L a),.bool U] 146 (0,0)))(i:Below (N (M b)) b g):PJ g (N (M b)) f d gd c a (fJ (L a)) (OJ a):=by
 obtain⟨q,r,s,t,u,tl⟩:=yI j;have v:=m.lt;have x:=k.lt;have y:=l.lt;have e:(fJ (L a)).length=L a:=by simp[fJ]
 exact⟨q,m.X i,⟨U,⟨r,by rw[e];exact s,t,u,tl,k.X i,l.X i,by omega,by omega,p,e⟩,Or.inl ⟨Z,Z,Z⟩⟩,n,o,by omega⟩
def xA(w W1:World)(g go gr gb gd:Nat)(ov0:Value)(fp0:List Nat)(wd:Q.Wd)(f:Eu)(rd bf:List Nat)(fin:PA)(wr:World)(n:Nat):Prop :=
 ∃ds rest a ov vs fp,Er w W1 wr g go gr gb gd ov0 fp0 (aN wd.E) (OR wd.E (aN wd.E)) ds rest a ov vs fp/\rest.foldl (kP wd f rd bf) a=fin/\L rest=n
def Qr(g:Nat)(an:PA)(u:Value)(vs:List Value)(C:List Nat)(ev rg:Value)(a:Q.Wd)(fa:FA)(f:Eu)(gq:Nat)(rd:List Nat)(gf:Nat)(bf:List Nat)(w:World)(hA:Eh w g an u vs C)(hw:PY w ev rg a)(ag:WdOk a)(hf:Ed w fa f)(aG:f.E=a.E)(V:Eb w gq fa.n rd)(hb:Eb w gf fa.n bf)(aC:∀k,rg.ownBlock=O k->¬Wr g u k)(S:(uX a f rd bf an).y.length<100000000):
  Calls prog 44 #[.pointer (O ⟨g,0,Y⟩),.agg #[ev,rg],.agg (rK fa gq gf)] w fun e w'=>e=.returned (.tuple #[])/\∃ov' vs' fp',Eh w' g (uX a f rd bf an) ov' vs' fp'/\Ej (Wr g u) w w' u ov' C fp':=by
 obtain⟨ea,ec,rfl,_⟩:=hw.K.form;obtain⟨ra,rc,rfl,_⟩:=hw.g.form;obtain⟨x,c,aF,_⟩:=hf.form;have af:fa.n=L a.E:=by rw[<- hf.len,aG]
 obtain⟨n,ev,g1,g2,g3,g4,g5,g6,g7,g8,g9⟩:=fa;simp only at aF V hb af;subst aF;simp only[rK];obtain⟨k0,k1,bI,ae⟩:=mZ w #[I ea (L a.E) ec,I ra (L a.g) rc] #[I x n c,MU g1 n n,MU g2 n n,MU g3 n n,MU g4 n n,MU g5 n n,MU g6 n n,MU g7 n n,MU g8 n n,MU g9 n n,MU gq n n,MU gf n n] 80 123;have d:=MS hA;have be:=MS hw;have ap:=MS hf;have bc:=MS V;have al:=MS hb;have bg:=MS (hw.X ae);have aS:=MS ae;have aV:=MS aC;have W:=MS ag;have aZ:=MS af;have aq:=MS S;have j:=ag.le;have lg:=hA.o.lt;have ba:=MS hA.o.fU;have ar:=MS hA.o.fpl;have ab:=MS (Ql a.E);have am:=MS (Qk a.E (aN a.E));have ao:=MS (Qj a.E (aN a.E) (by rw[ab.o];exact j));have ai:(aN a.E).length<=64:=by rw[ab.o];exact j
 have aX:MT ((OJ (OR a.E (aN a.E))).foldl (kP a f rd bf) an=uX a f rd bf an):=Z;generalize uX a f rd bf an=fin at*;clear ae hf V hb hA hw aC ag aG af S;go_enter func44,ntmps44;go_upto_region 1 with fail
 generalize hE:(w.alloc (G #[I ea (L a.E) ec,I ra (L a.g) rc] 80)).alloc (G #[I x n c,MU g1 n n,MU g2 n n,MU g3 n n,MU g4 n n,MU g5 n n,MU g6 n n,MU g7 n n,MU g8 n n,MU g9 n n,MU gq n n,MU gf n n] 123)=W0 at*;have l0:N (M w)<N (M W0):=by omega
 have l1:N (M w)+1<N (M W0):=by omega
 have K0:=MS k0;have K1:=MS k1;have bn:=cA k0;clear hE bI k0 k1;go_upto_region 2 with(first
  |(go_at_call 68;refine(Qh _ _ a.E _ bg.o.K ⟨_,_,_,Z⟩ j).mono ?_;rintro e z ⟨s,p,gd,rfl,aK,aI,aJ,bv,bt,bu,bB,bC,aD⟩;have B1:=MS aD;have IR:=MS aK;have IB:=MS aI;have ID:=MS aJ;clear aK aI aJ aD))
 have S0:MT ((z.alloc (G #[MU s (aN a.E).length (aN a.E).length,MU p (OR a.E (aN a.E)).length (OR a.E (aN a.E)).length,MU gd (OR a.E (aN a.E)).length (OR a.E (aN a.E)).length,.bool U] 146)).heap[N (M z)]?=O (G #[MU s (aN a.E).length (aN a.E).length,MU p (OR a.E (aN a.E)).length (OR a.E (aN a.E)).length,MU gd (OR a.E (aN a.E)).length (OR a.E (aN a.E)).length,.bool U] 146 (0,0))):=heap_alloc_new z _;have BL:MT (Below (N (M z)) z (z.alloc (G #[MU s (aN a.E).length (aN a.E).length,MU p (OR a.E (aN a.E)).length (OR a.E (aN a.E)).length,MU gd (OR a.E (aN a.E)).length (OR a.E (aN a.E)).length,.bool U] 146))):=(xW _ _).alloc (xF _) _;generalize z.alloc (G #[MU s (aN a.E).length (aN a.E).length,MU p (OR a.E (aN a.E)).length (OR a.E (aN a.E)).length,MU gd (OR a.E (aN a.E)).length (OR a.E (aN a.E)).length,.bool U] 146)=t at*;have bH:N (M z)<N (M t):=(Array.getElem?_eq_some_iff.1 S0.o).1;have bx:=IR.o.lt;have bz:=IB.o.lt;have bA:=ID.o.lt;have b:MT (Below (N (M w)) w t):=NE (NE aS.o (xF _) B1.o) (xF _) BL.o;have aw:MT (xA w t g (N (M z)) s p gd u C a f rd bf fin t (OJ (OR a.E (aN a.E))).length):=⟨_,_,an,u,vs,C,⟨⟨lg,ba.o,ar.o,⟨by omega,by omega⟩,⟨by omega,by omega⟩,⟨by omega,by omega⟩,⟨by omega,by omega⟩⟩,Ej.refl _ _ _ _,Qq IR.o IB.o ID.o bB bC am.o S0.o BL.o,d.o.X b.o⟩,aX.o,Z⟩;have ax:=MS ((BL.o.block _ (by omega)).trans ((B1.o.block _ l0).trans K0.o));have ay:=MS ((BL.o.block _ (by omega)).trans ((B1.o.block _ l1).trans K1.o));clear K0 K1;have K0:=ax;have K1:=ay;have bL:N (M w)<N (M t):=by omega
 have aQ:N (M w)+1<N (M t):=by omega
 have bR:N (M w)+2<=N (M z):=by omega
 have bN:N (M w)+2<=gd:=by omega
 have aO:L a.g<1000:=by have:=W.o.g;omega
 clear ax ay BL B1 S0 IR IB ID bn bx bz bA bv bt bu;generalize(N (M z))=J at*;clear bH;obtain⟨μ,hμ⟩:=EL (xA w t g J s p gd u C a f rd bf fin);have au:=MS hμ;clear hμ;go_loopw[] (fun wr=>∃n,MT (xA w t g J s p gd u C a f rd bf fin wr n)) fun wr=>μ wr
 case atStart=>exact⟨_,aw⟩
 case round =>
  obtain⟨hI,aL⟩:=au.o wr (by obtain⟨n,h⟩:=hrel;exact⟨n,h.o⟩);clear hrel aL aw;obtain⟨bo,v,m,ak,aR,aB,F,ad,T⟩:=hI;have ST:=MS F;have FD:=MS ad;have HL:=MS T;have ah:L m.y<100000000:=by
   have:=BU _ (Ag a f rd bf) v m;rw[ad]at this;have:=aq.o;omega
  have bM:=xR F.base.go1.2 F.fr.xf.size;clear F ad T;go_upto_region 3 with(first|(go_at_call 63;refine(Nr J s p gd _ _ bo v _ ST.o.ord (by rw[am.o];omega) ao.o).mono ?_;rintro e w2 ⟨h1,hT⟩;have HT:=MS hT;rcases h1 with⟨V,rfl⟩|⟨r,q,V,rfl,bE,bs⟩))
  ·go_wp2;go_end0;obtain⟨bF,bG⟩:=ST.o.yA HT.o b.o;have D:=FD.o;rw[V]at D;simp only[List.foldl_nil]at D;rw[<- D];exact⟨Z,ak,aR,aB,bF,bG⟩
  ·have aA:=MS (ST.o.LR HT.o bE);have aW:=MS bs;have A:MT (q.foldl (kP a f rd bf) (kP a f rd bf m r)=fin):=by
    have D:=FD.o;rw[V,xc]at D;exact D
   have aY:MT (L q+1=μ wr):=by
    have D:=HL.o;rw[V,List.length_cons]at D;exact D
   have av:MT ((eA (aN a.E) r).length=L a.E):=by unfold MT;rw[JB,ab.o]
   have bb:MT ((eA (aN a.E) r).length=n):=by unfold MT;rw[av.o,aZ.o]
   have bO:J<N (M w2):=by rw[HT.o.size];exact bM
   cases zm:f.fX rd bf (eA (aN a.E) r)
   case' false=>have aa:MT (kP a f rd bf m r=m):=by unfold MT kP;rw[zm];rfl
   case' true =>
    cases zc:m.clash
    case' false=>have aa:MT (kP a f rd bf m r=⟨eY m.y (RE a (eA (aN a.E) r)),f.bU bf⟩):=by unfold MT kP;rw[zm,zc];rfl
    case' true=>have aa:MT (kP a f rd bf m r=⟨eY m.y (RE a (eA (aN a.E) r)),m.clash⟩):=by unfold MT kP;rw[zm,zc];rfl
   all_goals
    rw[aa.o]at A;go_wp2_with(first
     |(go_at_call 83;refine(Nd _ f gf bf _ aU.o bi.o).mono ?_;rintro e w7 ⟨rfl,br⟩;have ac:=MS (l.o.X br);have p7:=ac.o.ans.clash;simp only[zc]at p7;have bQ:=ac.o.ans.zV)
     |(go_at_call 82;refine(Qf 0 g _ ak m.y aR aB (RE a (eA (aN a.E) r)) _ B.o.ans.o bk.o B.o.ans.ok.rise B.o.ans.ok.small (Af W.o _) ah (xb _) bd.o).mono ?_;rintro e w6 ⟨rfl,bT,bV,bP,bD,aM⟩;have l:=MS (B.o.add (Af W.o _) bD aM);have p6:=l.o.ans.clash;simp only[zc]at p6;have aU:=MS (ap.o.wr d.o (l.o.done b.o).xf.block);have bi:=MS (al.o.wr d.o (l.o.done b.o).xf.block);have aj:=(l.o.box _ (by omega) aQ (by omega) (by omega)).trans K1.o;have m0:=cA aj)
     |(go_at_call 72;refine(N6 _ _ _ a (eA (aN a.E) r) _ bm.o bj.o av.o j aO).mono ?_;rintro e w5 ⟨vo,rfl,aP,aH,bq⟩;have B:=MS (i.o.X bq);have bd:MT (∀k,vo.ownBlock=O k->k≠g/\ak.ownBlock≠O k):=fun k e=>⟨fun e2=>by have:=aH k e;have:=i.o.ans.o.lt;omega,fun e2=>by have:=aH k e;have:=i.o.ans.o.fU k e2;omega⟩;have bk:=MS aP;obtain⟨va,vc,bJ,_⟩:=aP.form;subst bJ)
     |(go_at_call 81;refine(Qp _ f gq rd gf bf _ aT.o bl.o bh.o _ (eA (aN a.E) r) az.o bb.o).mono ?_;rintro e w4 ⟨rfl,aE⟩;rw[zm];have i:=MS (sJ.o.X aE);have bj:=MS (az.o.X aE);have bm:=MS (be.o.wr d.o aV.o (i.o.done b.o).xf.block (i.o.done b.o).xf.size);have bK:=(i.o.box _ (by omega) bL (by omega) (by omega)).trans K0.o;have u0:=cA bK)
     |(go_at_call 65;refine(Nw J s p gd _ _ r q _ aA.o.ord aW.o ao.o ai).mono ?_;rintro e w3 ⟨gp,rfl,bw,bS,bp⟩;have sJ:=MS (aA.o.X bp);have az:MT (PC w3 (MU gp (aN a.E).length (aN a.E).length) (eA (aN a.E) r)):=(by have h9:=bw.qB (aN a.E).length (by rw[JB];exact xF _);rw[JB]at h9;exact h9);have aT:=MS (ap.o.wr d.o (sJ.o.done b.o).xf.block);have bl:=MS (bc.o.wr d.o (sJ.o.done b.o).xf.block);have bh:=MS (al.o.wr d.o (sJ.o.done b.o).xf.block);have aj:=(sJ.o.box _ (by omega) aQ (by omega) (by omega)).trans K1.o;have d0:=cA aj))
    first|have hR:xA w t g J s p gd u C a f rd bf fin _ (L q):=⟨r,q,_,_,_,_,ac.o.iV (f.bU bf),A.o,Z⟩|have hR:xA w t g J s p gd u C a f rd bf fin _ (L q):=⟨r,q,_,_,_,_,l.o,A.o,Z⟩|have hR:xA w t g J s p gd u C a f rd bf fin _ (L q):=⟨r,q,_,_,_,_,i.o,A.o,Z⟩
    go_roundw
    case rel=>exact⟨_,hR⟩
    case measure =>
     have h1:=(au.o _ ⟨_,hR⟩).2 _ hR;have h2:=aY.o;omega
