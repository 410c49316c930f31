import Derived.Test.YtlikcongbhhpfaaGreatDoorM18
set_option linter.unusedVariables false
set_option linter.unusedSimpArgs false
set_option maxHeartbeats 12800000
namespace Go.Proofs.YtlikcongbhhpfaaGreatDoor
open Go Go.RowKit Go.Proofs.Tryz P Q
set_option maxRecDepth 1000000
open _root_.Array renaming size->U
open Go.World renaming heap->N,cell?->M
open Go.Obj renaming cells->Y
open Option renaming none->C
open Go.Value renaming slice->O,agg->G
open Bool renaming false->I
open Go.RowKit.Below renaming refl->xF,heap_setCell->xc
open Nat renaming le_refl->xR,lt_of_lt_of_le->xa
open List renaming range->xW
open Go.World renaming frozen?->xb
theorem zX(a:FA)(f:Ey)(s:Nat)(rd:List Nat)(u:Nat)(F:List Nat)(w:World)(hf:Ef w a f)(hr:Ed w s a.n rd)(hb:Ed w u a.n F):
  Calls prog 95 #[G (LY a),G #[JQ s a.n a.n],G #[JQ u a.n a.n]] w fun e w'=>jE w w' a.n (LR rd F) e:=by
 obtain⟨x,c,v,_⟩:=hf.form;obtain⟨n,ev,H,J,K,L,S,T,V,W,g9⟩:=a;simp only at v hr hb;subst v;simp only[LY];obtain⟨k0,k1,k2,E,ac,k⟩:=JN w #[O x n c,JQ H n n,JQ J n n,JQ K n n,JQ L n n,JQ S n n,JQ T n n,JQ V n n,JQ W n n,JQ g9 n n] #[JQ s n n] #[JQ u n n] #[O C 0 0] 78 76 76 76;have HF:=JO (hf.X k);have Rr:=JO (hr.X k);have Rb:=JO (hb.X k);have D:=JO k;go_enter func95,ntmps95;go_upto_region 1 with fail
 generalize hE:(((w.alloc (Y #[O x n c,JQ H n n,JQ J n n,JQ K n n,JQ L n n,JQ S n n,JQ T n n,JQ V n n,JQ W n n,JQ g9 n n] 78)).alloc (Y #[JQ s n n] 76)).alloc (Y #[JQ u n n] 76)).alloc (Y #[O C 0 0] 76)=z at*;have A:=aB k1 0 _ Z;have B:=aB k2 0 _ Z;have i:=aB E 0 _ Z;have g:U (N w)+3<U (N z):=by omega
 have t:∀j,z.frozen? ⟨U (N w)+3,j,C⟩=I:=fun j=>by simp[xb,E]
 have l:=JO E;go_wp2_with(first
  |(go_at_call_of 113 (JQ s n n);refine(iK s u n _ _ _ (Rr.o.X (xF _ _)) (Rb.o.X (xF _ _))).mono ?_;rintro e y ⟨m,rfl,r,q⟩;have b:JP (Below (U (N z)) z y):=q;have ab:=(b.o.frozen (p:=⟨U (N w)+3,0,C⟩) g).trans (t 0);have aa:=JS b.o g i;have d:=JO r))
 all_goals
  (try go_wp2)
  have KR:=bC ((b.o.block _ g).trans l.o) 0 (JQ m n n);refine jL (p:=6) (U (N w)+3) _ (by kernel_rfl) Z (by exact KR) Z ⟨m,Z,⟨(d.o).at_.aA (xc _ _ _ _ (by have:=d.o.at_;unfold LJ at this;intro e;rw[e]at this;rw[(b.o.block _ g).trans l.o]at this;simp at this)),(d.o).len,(d.o).fits⟩,(JW D.o (xR _) b.o).setCell (p:=⟨U (N w)+3,0,C⟩) (by simp) _⟩
theorem EO(a:FA)(f:Ey)(W:Nat)(rd:List Nat)(gb:Nat)(bh:List Nat)(gm:Nat)(ms:List Nat)(w:World)(hf:Ef w a f)(hr:Ed w W a.n rd)(hb:Ed w gb a.n bh)(hm:Ed w gm a.n ms):
  Calls prog 121 #[G (LY a),G #[JQ W a.n a.n],G #[JQ gb a.n a.n],G #[JQ gm a.n a.n]] w fun e w'=>jE w w' a.n (pD rd bh ms) e:=by
 obtain⟨x,c,aj,_⟩:=hf.form;obtain⟨n,ev,g1,g2,g3,g4,g5,g6,g7,g8,g9⟩:=a;simp only at aj hr hb hm;subst aj;simp only[LY];obtain⟨k0,k1,k2,k3,k4,aq,v⟩:=Ml w #[O x n c,JQ g1 n n,JQ g2 n n,JQ g3 n n,JQ g4 n n,JQ g5 n n,JQ g6 n n,JQ g7 n n,JQ g8 n n,JQ g9 n n] #[JQ W n n] #[JQ gb n n] #[JQ gm n n] #[O C 0 0] 78 76 76 76 76;have HF:=JO (hf.X v);have Rr:=JO (hr.X v);have Rb:=JO (hb.X v);have Rm:=JO (hm.X v);have an:=JO v;go_enter func121,ntmps121;go_upto_region 1 with fail
 generalize hE:((((w.alloc (Y #[O x n c,JQ g1 n n,JQ g2 n n,JQ g3 n n,JQ g4 n n,JQ g5 n n,JQ g6 n n,JQ g7 n n,JQ g8 n n,JQ g9 n n] 78)).alloc (Y #[JQ W n n] 76)).alloc (Y #[JQ gb n n] 76)).alloc (Y #[JQ gm n n] 76)).alloc (Y #[O C 0 0] 76)=u at*;have d:=aB k1 0 _ Z;have y:U (N w)+1<U (N u):=by omega
 have g:=aB k2 0 _ Z;have z:U (N w)+2<U (N u):=by omega
 have i:=aB k3 0 _ Z;have A:U (N w)+3<U (N u):=by omega
 have B:=aB k4 0 _ Z;have t:U (N w)+4<U (N u):=by omega
 have ai:∀j,u.frozen? ⟨U (N w)+4,j,C⟩=I:=fun j=>by simp[xb,k4]
 have L:=JO k4;go_region_held3 (fun w'=>M w' ⟨U (N w)+1,0,C⟩=some (JQ W n n)/\M w' ⟨U (N w)+2,0,C⟩=some (JQ gb n n)/\M w' ⟨U (N w)+3,0,C⟩=some (JQ gm n n)) (first|exact⟨d,g,i⟩|exact⟨D,E,F⟩|exact⟨H,J,K⟩|exact⟨q,r,s⟩|exact⟨(aV (by omega)).trans q,(aV (by omega)).trans r,(aV (by omega)).trans s⟩) (first
  |(go_at_call_of 67 (JQ T n n);refine(iQ T gm n _ _ _ ah.o (Rm.o.X l.o)).mono ?_;rintro e am ⟨V,rfl,af,ac⟩;have b:JP (Below (U (N u)) u am):=JW l.o (xR _) ac;have q:=JS b.o y d;have r:=JS b.o z g;have s:=JS b.o A i;have ap:=(b.o.frozen (p:=⟨U (N w)+4,0,C⟩) t).trans (ai 0);have ao:=JS b.o t B;have m:=JO af)
  |(go_at_call_of 67 (JQ S n n);refine(iQ S gb n _ _ _ ag.o (Rb.o.X k.o)).mono ?_;rintro e al ⟨T,rfl,ae,ab⟩;have l:JP (Below (U (N u)) u al):=JW k.o (xR _) ab;have H:=JS l.o y d;have J:=JS l.o z g;have K:=JS l.o A i;have ah:=JO ae)
  |(go_at_call_of 144 (JQ W n n);refine(XI W n _ _ (Rr.o.X (xF _ _).drew)).mono ?_;rintro e ak ⟨S,rfl,ad,aa⟩;have k:JP (Below (U (N u)) u ak):=((xF (U (N u)) u).drew).trans (aa.mono (by simp));have D:=JS k.o y d;have E:=JS k.o z g;have F:=JS k.o A i;have ag:=JO ad))
 all_goals
  (try go_wp2)
  have KR:=bC ((b.o.block _ t).trans L.o) 0 (JQ V n n);refine jL (p:=8) (U (N w)+4) _ (by kernel_rfl) Z (by exact KR) Z ⟨V,Z,⟨(m.o).at_.aA (xc _ _ _ _ (by have:=m.o.at_;unfold LJ at this;intro e;rw[e]at this;rw[(b.o.block _ t).trans L.o]at this;simp at this)),(m.o).len,(m.o).fits⟩,(JW an.o (xR _) b.o).setCell (p:=⟨U (N w)+4,0,C⟩) (by simp) _⟩
theorem vK(a:FA)(f:Ey)(V:Nat)(ms:List Nat)(T:Nat)(bh:List Nat)(w:World)(hf:Ef w a f)(hm:Ed w V a.n ms)(hb:Ed w T a.n bh):
  Calls prog 120 #[G (LY a),G #[JQ V a.n a.n],G #[JQ T a.n a.n]] w fun e w'=>e=.returned (.bool (f.cF ms bh))/\Below (U (N w)) w w':=by
 obtain⟨x,c,ab,_⟩:=hf.form;obtain⟨n,ev,g1,g2,g3,g4,g5,g6,g7,g8,g9⟩:=a;simp only at ab hm hb;subst ab;simp only[LY];obtain⟨k0,k1,k2,ag,D⟩:=lP w #[O x n c,JQ g1 n n,JQ g2 n n,JQ g3 n n,JQ g4 n n,JQ g5 n n,JQ g6 n n,JQ g7 n n,JQ g8 n n,JQ g9 n n] #[JQ V n n] #[JQ T n n] 78 76 76;have HF:=JO (hf.X D);have Rm:=JO (hm.X D);have Rb:=JO (hb.X D);have af:=JO D;go_enter func120,ntmps120;go_upto_region 1 with fail
 generalize hE:((w.alloc (Y #[O x n c,JQ g1 n n,JQ g2 n n,JQ g3 n n,JQ g4 n n,JQ g5 n n,JQ g6 n n,JQ g7 n n,JQ g8 n n,JQ g9 n n] 78)).alloc (Y #[JQ V n n] 76)).alloc (Y #[JQ T n n] 76)=l at*;have b:=aB k0 7 _ Z;have m:U (N w)<U (N l):=by omega
 have d:=aB k1 0 _ Z;have p:U (N w)+1<U (N l):=by omega
 have g:=aB k2 0 _ Z;have q:U (N w)+2<U (N l):=by omega
 go_region_held3 (fun w'=>M w' ⟨U (N w),7,C⟩=some (JQ g7 n n)/\M w' ⟨U (N w)+1,0,C⟩=some (JQ V n n)/\M w' ⟨U (N w)+2,0,C⟩=some (JQ T n n)) (first|exact⟨b,d,g⟩|exact⟨r,s,t⟩|exact⟨u,v,y⟩|exact⟨z,A,B⟩) (first
  |(go_at_call_of 119 (JQ F n n);refine(lQ F n _ _ aa.o).mono ?_;rintro e ae ⟨rfl,K⟩;have k:JP (Below (U (N l)) l ae):=JW j.o (xR _) K;have z:=JS k.o m b;have A:=JS k.o p d;have B:=JS k.o q g;skip)
  |(go_at_call_of 113 (JQ E n n);refine(iK E T n _ _ _ W.o (Rb.o.X i.o)).mono ?_;rintro e ad ⟨F,rfl,S,J⟩;have j:JP (Below (U (N l)) l ad):=JW i.o (xR _) J;have u:=JS j.o m b;have v:=JS j.o p d;have y:=JS j.o q g;have aa:=JO S)
  |(go_at_call_of 113 (JQ g7 n n);refine(iK g7 V n _ _ _ (HF.o.r7.X (xF _ _).drew) (Rm.o.X (xF _ _).drew)).mono ?_;rintro e ac ⟨E,rfl,L,H⟩;have i:JP (Below (U (N l)) l ac):=((xF (U (N l)) l).drew).trans (H.mono (by simp));have r:=JS i.o m b;have s:=JS i.o p d;have t:=JS i.o q g;have W:=JO L))
 all_goals
  go_wp2;go_ret;exact⟨Z,JW af.o (xR _) k.o⟩
theorem xZ(a:FA)(f:Ey)(v:Value)(b:List Int)(w:World)(W:Ef w a f)(hv:ME w v b)(ap:b.length=a.n):
  Calls prog 94 #[G (LY a),v] w fun e w'=>jE w w' a.n (LW f.E b) e:=by
 have ad:JP (LW f.E b=(xW a.n).foldl (tF f.E b) (LH a.n)):=by unfold JP LW;rw[W.len]
 obtain⟨va,vc,rfl,au⟩:=hv.form;have av:0<a.n->∃g,va=some ⟨g,0,C⟩/\g<U (N w)/\∀i,i<a.n->M w ⟨g,i,C⟩=some (.int .i64 (b.getD i 0)):=fun h0=>by
  obtain⟨g,H,y,e3⟩:=au (by omega);exact⟨g,H,y,fun i hi=>by rw[eI b i (by omega)];exact e3 i (by omega)⟩
 clear au;rw[ap];obtain⟨x,c,ak,hx⟩:=W.form;have S:=W.n64;have J:=W.len;obtain⟨n,ev,g1,g2,g3,g4,g5,g6,g7,g8,g9⟩:=a;simp only at ak S J hx;subst ak;simp only[LY];simp only at ad ap av;have ab:=JO W.ev;obtain⟨k0,k1,aT,aj⟩:=hJ w #[O x n c,JQ g1 n n,JQ g2 n n,JQ g3 n n,JQ g4 n n,JQ g5 n n,JQ g6 n n,JQ g7 n n,JQ g8 n n,JQ g9 n n] #[O C 0 0] 78 76;have A:=JO aj;clear aj W hv;go_enter func94,ntmps94;go_upto_region 1 with fail
 generalize hE:(w.alloc (Y #[O x n c,JQ g1 n n,JQ g2 n n,JQ g3 n n,JQ g4 n n,JQ g5 n n,JQ g6 n n,JQ g7 n n,JQ g8 n n,JQ g9 n n] 78)).alloc (Y #[O C 0 0] 76)=T at*;have af:=aB k0 0 _ Z;obtain⟨c1,f1,l1⟩:=bF k1;have l0:U (N w)<U (N T):=by omega
 have K1:=JO k1;clear hE k0 k1 c1 f1;go_wp2_with(first|(go_at_call 109;refine(jA n _ S).mono ?_;rintro e w1 ⟨gn,rfl,ar,aK,ao,al,ah⟩;have HS:=JO (Fill.start ⟨ar,ao,al⟩ aK ah);have ag:=HS.o.cell (p:=⟨U (N w),0,C⟩) l0 af;clear ar ah ao al));go_loopw[17] (fun i wr=>∃(k:Nat) (t:List Nat),k<=n/\i=.int .i64 k/\JP (t=(xW k).foldl (tF f.E b) (LH n))/\JP (Fill T wr (U (N w1)) gn n t)) fun i _=>n-(intOf i).toNat
 case atStart=>exact⟨0,_,Nat.zero_le _,Z,Z,HS⟩
 case round =>
  clear ag;obtain⟨k,t,hk,rfl,HT,K⟩:=hrel;obtain⟨b0,b1,b2⟩:=bF K.o.box;have aJ:=K.o.cell (p:=⟨U (N w),0,C⟩) l0 af;have aP:=xa l0 K.o.bel.size;by_cases hlt:k<n
  ·have aR:(k:Int)<(n:Int):=by omega
   obtain⟨s,rfl,ai⟩:=hx (by omega);obtain⟨V,rfl,an,aq⟩:=av (by omega);have L:s<U (N T):=by omega
   have D:V<U (N T):=by omega
   have ae:JP (wr.rangeAt s (k*10) (aD (Q.ev f.E k)).toList):=eH (ab.o.bV J.symm k (by omega)) ((K.o.bel.block s L).trans (A.o.block s ai));have aE:JP (M T ⟨V,k,C⟩=some (.int .i64 (b.getD k 0))):=(A.o.cell (p:=⟨V,k,C⟩) an).trans (aq k (by omega));have aG:JP ((xW (k+1)).foldl (tF f.E b) (LH n)=(xW n).foldl (oD f.E b k) t):=by unfold JP;rw[fP,<- HT.o];unfold tF;rw[J]
   have ay:JP (∀q,PV f.E b k q=((Q.ev f.E k).k==1&&(Q.ev f.E q).k==1&&(Q.ev f.E k).z==(Q.ev f.E q).z&&decide (b.getD k 0<b.getD q 0))):=fun q=>Z
   generalize Q.ev f.E k=H at*;generalize aM:b.getD k 0=pk at*;clear aM;have aa:JP (KO (wr.alloc (Y (aD H) 166)) (U (N wr)) H):=KO.bA wr H;have ac:=JO (K.o.alloc (Y (aD H) 166));go_wp2_with(first|(refine cA (.tmp 20) Z Z s (k*10) H Z ae.o ?_));go_loopw[25] (fun j wq=>∃(q:Nat) (u:List Nat),q<=n/\j=.int .i64 q/\JP (u=(xW q).foldl (oD f.E b k) t)/\JP (Fill T wq (U (N w1)) gn n u)/\JP (KO wq (U (N wr)) H)) fun j _=>n-(intOf j).toNat
   case atStart=>exact⟨0,t,Nat.zero_le _,Z,Z,ac,aa⟩
   case round =>
    clear aJ ac aa b0 b1 b2 ae aP;obtain⟨q,u,hq,rfl,HU,HJ,HA⟩:=hrel;by_cases hql:q<n
    ·have aS:(q:Int)<(n:Int):=by omega
     have B:JP (wr.rangeAt s (q*10) (aD (Q.ev f.E q)).toList):=eH (ab.o.bV J.symm q (by omega)) ((HJ.o.bel.block s L).trans (A.o.block s ai));have aF:JP (M T ⟨V,q,C⟩=some (.int .i64 (b.getD q 0))):=(A.o.cell (p:=⟨V,q,C⟩) an).trans (aq q (by omega));have HB:=JO (ay.o q);have r:JP ((xW (q+1)).foldl (oD f.E b k) t=cM (PV f.E b k q) u k q):=by unfold JP;rw[fP,<- HU.o];rfl
     rw[HB.o]at r;generalize Q.ev f.E q=y at*;generalize aN:b.getD q 0=pq at*;clear aN;have d:=JO (HJ.o.alloc (Y (aD y) 166));have m:=JO (HA.o.alloc (Y (aD y) 166));have aH:=d.o.cell (p:=⟨V,k,C⟩) D aE.o;have aI:=d.o.cell (p:=⟨V,q,C⟩) D aF.o;have aQ:=xa D d.o.bel.size;obtain⟨x0,x1,x2,x3,x4,x5,x6,x7,x8,x9,xf,xl⟩:=m.o.F;clear x1 x2 x4 x5 x6 x7 x8 x9;have aw:=JO (KO.bA wr y);obtain⟨y0,y1,y2,y3,y4,y5,y6,y7,y8,y9,yf,yl⟩:=aw.o.F;clear y1 y2 y4 y5 y6 y7 y8 y9;simp only[aD]at x0 x3 xf xl y0 y3 yf yl aH aI aQ
     cases z1:H.k==1
     ·have l:JP (u=(xW (q+1)).foldl (oD f.E b k) t):=by unfold JP;rw[r.o];simp[cM,z1]
      go_wp2_with(first|(refine cA (.tmp 28) Z Z s (q*10) y Z B.o ?_));go_quiet (fail)
      all_goals
       go_wp2;go_roundw
       case rel=>exact⟨q+1,u,by omega,by go_num,l,d.o.keep (dO _ _ _),m.o.X (dO _ _ _)⟩
       case measure=>simp[intOf];omega
     cases z2:y.k==1
     ·have l:JP (u=(xW (q+1)).foldl (oD f.E b k) t):=by unfold JP;rw[r.o];simp[cM,z1,z2]
      go_wp2_with(first|(refine cA (.tmp 28) Z Z s (q*10) y Z B.o ?_));go_quiet (fail)
      all_goals
       go_wp2;go_roundw
       case rel=>exact⟨q+1,u,by omega,by go_num,l,d.o.keep (dO _ _ _),m.o.X (dO _ _ _)⟩
       case measure=>simp[intOf];omega
     cases z3:H.z==y.z
     ·have l:JP (u=(xW (q+1)).foldl (oD f.E b k) t):=by unfold JP;rw[r.o];simp[cM,z1,z2,z3]
      go_wp2_with(first|(refine cA (.tmp 28) Z Z s (q*10) y Z B.o ?_));go_quiet (fail)
      all_goals
       go_wp2;go_roundw
       case rel=>exact⟨q+1,u,by omega,by go_num,l,d.o.keep (dO _ _ _),m.o.X (dO _ _ _)⟩
       case measure=>simp[intOf];omega
     by_cases hz4:pk<pq
     ·have z4:decide (pk<pq)=true:=decide_eq_true hz4;have l:JP (cL u (k:Int) (q:Int)=(xW (q+1)).foldl (oD f.E b k) t):=by unfold JP;rw[r.o];simp[cM,z1,z2,z3,z4]
      go_wp2_with(first|(refine cA (.tmp 28) Z Z s (q*10) y Z B.o ?_));go_quiet (fail)
      all_goals
       go_wp2_with(first|(go_at_call 110;refine(jM (U (N w1)) 0 gn n u (k:Int) (q:Int) _ (d.o.keep (dO _ _ _)).gS d.o.rel.fits).mono ?_;rintro e wc ⟨rfl,aO,am⟩;have aA:=JO ((d.o.keep (dO _ _ _)).grown am aO);have ax:=JO (KO.grown (m.o.X (dO _ _ _)) (d.o.keep (dO _ _ _)).rel.at_ am)));go_roundw
       case rel=>exact⟨q+1,_,by omega,by go_num,l,aA,ax⟩
       case measure=>simp[intOf];omega
     ·have z4:decide (pk<pq)=I:=decide_eq_false hz4;have l:JP (u=(xW (q+1)).foldl (oD f.E b k) t):=by unfold JP;rw[r.o];simp[cM,z1,z2,z3,z4]
      go_wp2_with(first|(refine cA (.tmp 28) Z Z s (q*10) y Z B.o ?_));go_quiet (fail)
      all_goals
       go_wp2;go_roundw
       case rel=>exact⟨q+1,u,by omega,by go_num,l,d.o.keep (dO _ _ _),m.o.X (dO _ _ _)⟩
       case measure=>simp[intOf];omega
    ·have aC:JP (u=(xW (k+1)).foldl (tF f.E b) (LH n)):=by unfold JP;rw[aG.o,HU.o,show q=n by omega]
     go_wp2;go_roundw
     case rel=>exact⟨k+1,u,by omega,by go_num,aC,HJ⟩
     case measure=>simp[intOf];omega
  ·have aL:k=n:=by omega
   have az:JP (t=LW f.E b):=by unfold JP;rw[ad.o,HT.o,aL]
   obtain⟨q1,q2⟩:=K.o.o A.o K1.o (by omega);rw[az.o]at q1;go_wp2_with(first|(refine iS (.tmp 5) Z Z (U (N w1)) _ Z K.o.box ?_)|(refine pG (.tmp 4) (.tmp 71) Z Z (U (N w)+1) _ _ Z Z ((K.o.bel.block _ l1).trans K1.o) Z ?_));refine jL (p:=4) (U (N w)+1) _ (by kernel_rfl) Z q2 Z q1
theorem Ms(a:FA)(f:Ey)(p:Nat)(rd:List Nat)(g:Nat)(s:List Nat)(w:World)(H:Ef w a f)(J:Ed w p a.n rd)(F:Ed w g a.n s)(L:Value)(K:List Int)(V:ME w L K)(q:K.length=a.n)(T:aL s=true):
  Calls prog 72 #[G (kZ a p g),L] w fun e w'=>e=.returned (.bool (I))/\Below (U (N w)) w w':=by
 obtain⟨x,c,l,_⟩:=H.form;obtain⟨n,ev,t,u,v,y,z,A,B,D,E⟩:=a;simp only at l J F;subst l;simp only[LY,kZ];obtain⟨k0,W,b⟩:=gU w #[O x n c,JQ t n n,JQ u n n,JQ v n n,JQ y n n,JQ z n n,JQ A n n,JQ B n n,JQ D n n,JQ E n n,JQ p n n,JQ g n n] 92;have HF:=JO (H.X b);have Rr:=JO (J.X b);have S:=JO (F.X b);have j:=JO b;have HP:=JO (V.X j.o);simp only at q;go_enter func72,ntmps72;go_upto_region 1 with fail
 generalize hE:w.alloc (Y #[O x n c,JQ t n n,JQ u n n,JQ v n n,JQ y n n,JQ z n n,JQ A n n,JQ B n n,JQ D n n,JQ E n n,JQ p n n,JQ g n n] 92)=r at*;have k:=aB k0 11 _ Z;go_wp2_with(first
  |(go_at_call_of 119 (JQ g n n);refine(lQ g n _ _ (S.o.X (xF _ _))).mono ?_;rintro e m ⟨rfl,d⟩;(try rw[T]);have i:JP (Below (U (N r)) r m):=d;skip))
 all_goals
  go_wp2;go_ret;exact⟨Z,JW j.o (xR _) i.o⟩
theorem Mt(a:FA)(f:Ey)(gr:Nat)(rd:List Nat)(gf:Nat)(bf:List Nat)(w:World)(hf:Ef w a f)(hr:Ed w gr a.n rd)(hb:Ed w gf a.n bf)(pv:Value)(ps:List Int)(hp:ME w pv ps)(ce:ps.length=a.n)(h1:aL bf=I)(h2:f.cF (LR rd (LW f.E ps)) (LW f.E ps)=I)(h3:aL (LR bf (Q.LN rd (LW f.E ps)))=I):
  Calls prog 72 #[G (kZ a gr gf),pv] w fun e w'=>e=.returned (.bool (!f.bW bf (Q.LN rd (LW f.E ps))))/\Below (U (N w)) w w':=by
 obtain⟨x,c,cd,_⟩:=hf.form;obtain⟨n,ev,g1,g2,g3,g4,g5,g6,g7,g8,g9⟩:=a;simp only at cd hr hb;subst cd;simp only[LY,kZ];obtain⟨W,dz,ak⟩:=gU w #[O x n c,JQ g1 n n,JQ g2 n n,JQ g3 n n,JQ g4 n n,JQ g5 n n,JQ g6 n n,JQ g7 n n,JQ g8 n n,JQ g9 n n,JQ gr n n,JQ gf n n] 92;have HF:=JO (hf.X ak);have Rr:=JO (hr.X ak);have Rb:=JO (hb.X ak);have bi:=JO ak;have HP:=JO (hp.X bi.o);simp only at ce;go_enter func72,ntmps72;go_upto_region 1 with fail
 generalize hE:w.alloc (Y #[O x n c,JQ g1 n n,JQ g2 n n,JQ g3 n n,JQ g4 n n,JQ g5 n n,JQ g6 n n,JQ g7 n n,JQ g8 n n,JQ g9 n n,JQ gr n n,JQ gf n n] 92)=W0 at*;have B:=aB W 0 _ Z;have D:=aB W 1 _ Z;have F:=aB W 2 _ Z;have H:=aB W 3 _ Z;have J:=aB W 4 _ Z;have K:=aB W 5 _ Z;have L:=aB W 6 _ Z;have S:=aB W 7 _ Z;have T:=aB W 8 _ Z;have V:=aB W 9 _ Z;have ac:=aB W 10 _ Z;have ad:=aB W 11 _ Z;have d:U (N w)<U (N W0):=by omega
 have bZ:∀j,W0.frozen? ⟨U (N w),j,C⟩=I:=fun j=>by simp[xb,W]
 have bk:=JO W;go_upto_region 4 with(first
  |(go_at_call 94;refine(xZ (FA.mk n (O x n c) g1 g2 g3 g4 g5 g6 g7 g8 g9) f pv ps _ (HF.o.X m.o) (HP.o.X m.o) ce).mono ?_;rintro e r ⟨u,rfl,aZ,aS⟩;have am:JP (Below (U (N W0)) W0 r):=JW m.o (xR _) aS;have bo:=JO aZ)
  |(go_at_call_of 119 (JQ gf n n);refine(lQ gf n _ _ (Rb.o.X (xF _ _))).mono ?_;rintro e cg ⟨rfl,aR⟩;(try rw[h1]);have m:JP (Below (U (N W0)) W0 cg):=aR;have cm:=JS m.o d B;have cn:=JS m.o d D;have co:=JS m.o d F;have cp:=JS m.o d H;have cq:=JS m.o d J;have cr:=JS m.o d K;have cs:=JS m.o d L;have ct:=JS m.o d S;have cu:=JS m.o d T;have cv:=JS m.o d V;skip))
 have ah:=heap_alloc_new r (Y #[JQ u n n] 76);have g:Below (U (N W0)) W0 (r.alloc (Y #[JQ u n n] 76)):=am.o.alloc am.o.size _;have z:=g.size;have bj:=JO (HF.o.X g);have aq:=JO (Rr.o.X g);have bs:=JO (Rb.o.X g);have ar:=JO (bo.o.X ((xF _ _).alloc (xR _) (Y #[JQ u n n] 76)));have cR:=JO (JW bi.o (xR _) g);have bD:=JS g d B;have bE:=JS g d D;have bG:=JS g d F;have bH:=JS g d H;have bI:=JS g d J;have bJ:=JS g d K;have bK:=JS g d L;have bL:=JS g d S;have bM:=JS g d T;have bN:=JS g d V;have aM:=JS g d ac;have aN:=JS g d ad;have ca:∀j,(r.alloc (Y #[JQ u n n] 76)).frozen? ⟨U (N w),j,C⟩=I:=fun j=>(g.frozen (p:=⟨U (N w),j,C⟩) d).trans (bZ j)
 have l:=xa d z;have bl:=JO ((g.block _ d).trans bk.o);have dw:U (N r)<(r.alloc (Y #[JQ u n n] 76)).heap.size:=by simp
 generalize dt:r.alloc (Y #[JQ u n n] 76)=W1 at*;obtain⟨cX,dq,al⟩:=bF ah;have db:∀j,W1.frozen? ⟨U (N r),j,C⟩=I:=fun j=>by simp[xb,ah]
 have cV:=JO ah;go_upto_region 5 with(first
  |(go_at_call 95;refine(zX (FA.mk n (O x n c) g1 g2 g3 g4 g5 g6 g7 g8 g9) f gr _ u _ _ (bj.o.X (xF _ _)) (aq.o.X (xF _ _)) (ar.o.X (xF _ _))).mono ?_;rintro e t ⟨v,rfl,ba,aT⟩;have an:JP (Below (U (N W1)) W1 t):=aT;have bp:=JO ba))
 have ai:=heap_alloc_new t (Y #[JQ v n n] 76);have g:Below (U (N W1)) W1 (t.alloc (Y #[JQ v n n] 76)):=an.o.alloc an.o.size _;have z:=g.size;have aK:=JO (bj.o.X g);have au:=JO (aq.o.X g);have bt:=JO (bs.o.X g);have aa:=JO (ar.o.X g);have ab:=JO (bp.o.X ((xF _ _).alloc (xR _) (Y #[JQ v n n] 76)));have cS:=JO (JW cR.o (xR _) g);have ax:=JS g l bD;have ay:=JS g l bE;have az:=JS g l bG;have aA:=JS g l bH;have aC:=JS g l bI;have aD:=JS g l bJ;have aE:=JS g l bK;have aF:=JS g l bL;have aG:=JS g l bM;have aH:=JS g l bN;have ae:=JS g l aM;have aO:=JS g l aN;have af:=JS g al cX;have cb:∀j,(t.alloc (Y #[JQ v n n] 76)).frozen? ⟨U (N w),j,C⟩=I:=fun j=>(g.frozen (p:=⟨U (N w),j,C⟩) l).trans (ca j)
 have b:=xa l z;have bm:=JO ((g.block _ l).trans bl.o);have cc:∀j,(t.alloc (Y #[JQ v n n] 76)).frozen? ⟨U (N r),j,C⟩=I:=fun j=>(g.frozen (p:=⟨U (N r),j,C⟩) al).trans (db j)
 have A:=xa al z;have bn:=JO ((g.block _ al).trans cV.o);have dx:U (N t)<(t.alloc (Y #[JQ v n n] 76)).heap.size:=by simp
 generalize du:t.alloc (Y #[JQ v n n] 76)=W2 at*;obtain⟨bC,dr,aj⟩:=bF ai;have dc:∀j,W2.frozen? ⟨U (N t),j,C⟩=I:=fun j=>by simp[xb,ai]
 have cW:=JO ai;go_upto_region 8 with(first
  |(go_at_call_of 68 (JQ aI n n);refine(wT aI n _ _ ap.o).mono ?_;rintro e y ⟨s,rfl,bc,ag⟩;have ao:JP (Below (U (N W2)) W2 y):=JW be.o (xR _) ag;have bq:=JO bc)
  |(go_at_call 121;refine(EO (FA.mk n (O x n c) g1 g2 g3 g4 g5 g6 g7 g8 g9) f gr _ u _ v _ _ (aK.o.X i.o) (au.o.X i.o) (aa.o.X i.o) (ab.o.X i.o)).mono ?_;rintro e ci ⟨aI,rfl,bb,aV⟩;have be:JP (Below (U (N W2)) W2 ci):=JW i.o (xR _) aV;have ap:=JO bb)
  |(go_at_call 120;refine(vK (FA.mk n (O x n c) g1 g2 g3 g4 g5 g6 g7 g8 g9) f v _ u _ _ (aK.o.X (xF _ _)) (ab.o.X (xF _ _)) (aa.o.X (xF _ _))).mono ?_;rintro e ch ⟨rfl,aU⟩;(try rw[h2]);have i:JP (Below (U (N W2)) W2 ch):=aU;have cw:=JS i.o b ax;have cx:=JS i.o b ay;have cy:=JS i.o b az;have cz:=JS i.o b aA;have cA:=JS i.o b aC;have cB:=JS i.o b aD;have cC:=JS i.o b aE;have cD:=JS i.o b aF;have cE:=JS i.o b aG;have cG:=JS i.o b aH;have bv:=JS i.o b ae;have bw:=JS i.o A af;have bx:=JS i.o aj bC;skip))
 have cf:=heap_alloc_new y (Y #[JQ s n n] 76);have g:Below (U (N W2)) W2 (y.alloc (Y #[JQ s n n] 76)):=ao.o.alloc ao.o.size _;have z:=g.size;have cU:=JO (aK.o.X g);have bu:=JO (au.o.X g);have av:=JO (bt.o.X g);have dh:=JO (aa.o.X g);have di:=JO (ab.o.X g);have dj:=JO ((ap.o.X ag).X ((xF _ _).alloc (xR _) (Y #[JQ s n n] 76)));have aw:=JO (bq.o.X ((xF _ _).alloc (xR _) (Y #[JQ s n n] 76)));have cT:=JO (JW cS.o (xR _) g);have bO:=JS g b ax;have bP:=JS g b ay;have bQ:=JS g b az;have bR:=JS g b aA;have bS:=JS g b aC;have bT:=JS g b aD;have bU:=JS g b aE;have bV:=JS g b aF;have bX:=JS g b aG;have bY:=JS g b aH;have aP:=JS g b ae;have aQ:=JS g b aO;have cZ:=JS g A af;have da:=JS g aj bC;have dk:∀j,(y.alloc (Y #[JQ s n n] 76)).frozen? ⟨U (N w),j,C⟩=I:=fun j=>(g.frozen (p:=⟨U (N w),j,C⟩) b).trans (cb j)
 have q:=xa b z;have de:=JO ((g.block _ b).trans bm.o);have dl:∀j,(y.alloc (Y #[JQ s n n] 76)).frozen? ⟨U (N r),j,C⟩=I:=fun j=>(g.frozen (p:=⟨U (N r),j,C⟩) A).trans (cc j)
 have dn:=xa A z;have df:=JO ((g.block _ A).trans bn.o);have dm:∀j,(y.alloc (Y #[JQ s n n] 76)).frozen? ⟨U (N t),j,C⟩=I:=fun j=>(g.frozen (p:=⟨U (N t),j,C⟩) aj).trans (dc j)
 have dp:=xa aj z;have dg:=JO ((g.block _ aj).trans cW.o);have dy:U (N y)<(y.alloc (Y #[JQ s n n] 76)).heap.size:=by simp
 generalize dv:y.alloc (Y #[JQ s n n] 76)=W3 at*;obtain⟨cY,ds,dd⟩:=bF cf;go_wp2_with(first
  |(go_at_call 122;refine(Mo (FA.mk n (O x n c) g1 g2 g3 g4 g5 g6 g7 g8 g9) f gr _ gf _ s _ _ (cU.o.X k.o) (bu.o.X k.o) (av.o.X k.o) (aw.o.X k.o)).mono ?_;rintro e cl ⟨rfl,aY⟩;have bh:JP (Below (U (N W3)) W3 cl):=JW k.o (xR _) aY;skip)
  |(go_at_call_of 119 (JQ aJ n n);refine(lQ aJ n _ _ br.o).mono ?_;rintro e ck ⟨rfl,aX⟩;(try rw[show aL (LR bf (iR (pD rd (LW f.E ps) (LR rd (LW f.E ps)))))=I from h3]);have k:JP (Below (U (N W3)) W3 ck):=JW bg.o (xR _) aX;have cH:=JS k.o q bO;have cI:=JS k.o q bP;have cJ:=JS k.o q bQ;have cK:=JS k.o q bR;have cL:=JS k.o q bS;have cM:=JS k.o q bT;have cN:=JS k.o q bU;have cO:=JS k.o q bV;have cP:=JS k.o q bX;have cQ:=JS k.o q bY;have bz:=JS k.o q aP;have bA:=JS k.o q aQ;have bB:=JS k.o dd cY;skip)
  |(go_at_call_of 113 (JQ gf n n);refine(iK gf s n _ _ _ (av.o.X (xF _ _)) (aw.o.X (xF _ _))).mono ?_;rintro e cj ⟨aJ,rfl,bd,aW⟩;have bg:JP (Below (U (N W3)) W3 cj):=aW;have br:=JO bd))
 all_goals
  go_wp2;go_ret;exact⟨Z,JW cT.o (xR _) bh.o⟩
end Go.Proofs.YtlikcongbhhpfaaGreatDoor
