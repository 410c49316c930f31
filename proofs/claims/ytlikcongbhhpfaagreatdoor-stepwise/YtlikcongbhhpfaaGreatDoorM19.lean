import Derived.Test.YtlikcongbhhpfaaGreatDoorM18
set_option linter.unusedVariables false
set_option linter.unusedSimpArgs false
set_option maxHeartbeats 12800000
namespace Go.Proofs.YtlikcongbhhpfaaGreatDoor
open Go Go.RowKit Go.Proofs.Tryz P Q
set_option maxRecDepth 1000000
open _root_.Array renaming size->U
open Go.World renaming heap->N,cell?->z,frozen?->M
open Option renaming none->Y,some->I
open Go.Obj renaming cells->C
open Go.Value renaming slice->O
open Bool renaming false->G
open Nat renaming lt_of_lt_of_le->xF,le_refl->xW
open Go.RowKit.Below renaming refl->xR,heap_setCell->xc
open List renaming range->xa
open Go.World renaming frozen?->xb
theorem XK(a:FA)(f:Ey)(gr:Nat)(rd:List Nat)(w:World)(hf:Ef w a f)(hr:Ed w gr a.n rd):
  Calls prog 66 #[.agg (LY a),.agg #[JQ gr a.n a.n]] w fun e w'=>jE w w' a.n (f.aJ rd) e:=by
 obtain⟨x,c,bs,_⟩:=hf.form;obtain⟨n,ev,g1,g2,g3,g4,g5,g6,g7,g8,g9⟩:=a;simp only at bs hr;subst bs;simp only[LY];obtain⟨H,k1,k2,co,aG⟩:=lP w #[O x n c,JQ g1 n n,JQ g2 n n,JQ g3 n n,JQ g4 n n,JQ g5 n n,JQ g6 n n,JQ g7 n n,JQ g8 n n,JQ g9 n n] #[JQ gr n n] #[O Y 0 0] 78 76 76;have HF:=JO (hf.X aG);have Rr:=JO (hr.X aG);have bA:=JO aG;go_enter func66,ntmps66;go_upto_region 1 with fail
 generalize hE:((w.alloc (C #[O x n c,JQ g1 n n,JQ g2 n n,JQ g3 n n,JQ g4 n n,JQ g5 n n,JQ g6 n n,JQ g7 n n,JQ g8 n n,JQ g9 n n] 78)).alloc (C #[JQ gr n n] 76)).alloc (C #[O Y 0 0] 76)=T at*;have V:=aB H 0 _ Z;have W:=aB H 1 _ Z;have aa:=aB H 2 _ Z;have ab:=aB H 3 _ Z;have ac:=aB H 4 _ Z;have ad:=aB H 5 _ Z;have ae:=aB H 6 _ Z;have af:=aB H 7 _ Z;have ag:=aB H 8 _ Z;have ah:=aB H 9 _ Z;have g:U (N w)<U (N T):=by omega
 have bl:∀j,M T ⟨U (N w),j,Y⟩=G:=fun j=>by simp[xb,H]
 have aP:=JO H;have ai:=aB k1 0 _ Z;have A:U (N w)+1<U (N T):=by omega
 have bm:∀j,M T ⟨U (N w)+1,j,Y⟩=G:=fun j=>by simp[xb,k1]
 have aQ:=JO k1;have aj:=aB k2 0 _ Z;have B:U (N w)+2<U (N T):=by omega
 have bn:∀j,M T ⟨U (N w)+2,j,Y⟩=G:=fun j=>by simp[xb,k2]
 have aR:=JO k2;go_upto_region 2 with(first
  |(go_at_call_of 114 (JQ gr n n);refine(rD gr g2 n _ _ _ (Rr.o.X (xR _ _)) (HF.o.r2.X (xR _ _))).mono ?_;rintro e l ⟨d,rfl,aH,aC⟩;have J:JP (Below (U (N T)) T l):=aC;have aW:=JO aH))
 have S:=heap_alloc_new l (C #[JQ d n n] 76);have b:Below (U (N T)) T (l.alloc (C #[JQ d n n] 76)):=J.o.alloc J.o.size _;have cb:=J.o.size;have r:=b.size;have aO:=JO (HF.o.X b);have aZ:=JO (Rr.o.X b);have ap:=JO (aW.o.X ((xR _ _).alloc (xW _) (C #[JQ d n n] 76)));have bB:=JO (JW bA.o (xW _) b);have bb:=JS b g V;have bc:=JS b g W;have bd:=JS b g aa;have be:=JS b g ab;have bf:=JS b g ac;have bg:=JS b g ad;have bh:=JS b g ae;have bi:=JS b g af;have bj:=JS b g ag;have bk:=JS b g ah;have ax:=JS b A ai;have ay:=JS b B aj;have bo:∀j,(l.alloc (C #[JQ d n n] 76)).frozen? ⟨U (N w),j,Y⟩=G:=fun j=>(b.frozen (p:=⟨U (N w),j,Y⟩) g).trans (bl j)
 have i:=xF g r;have aS:=JO ((b.block _ g).trans aP.o);have bp:∀j,(l.alloc (C #[JQ d n n] 76)).frozen? ⟨U (N w)+1,j,Y⟩=G:=fun j=>(b.frozen (p:=⟨U (N w)+1,j,Y⟩) A).trans (bm j)
 have D:=xF A r;have aT:=JO ((b.block _ A).trans aQ.o);have bq:∀j,(l.alloc (C #[JQ d n n] 76)).frozen? ⟨U (N w)+2,j,Y⟩=G:=fun j=>(b.frozen (p:=⟨U (N w)+2,j,Y⟩) B).trans (bn j)
 have E:=xF B r;have aU:=JO ((b.block _ B).trans aR.o);have cm:U (N l)<(l.alloc (C #[JQ d n n] 76)).heap.size:=by simp
 generalize ck:l.alloc (C #[JQ d n n] 76)=W1 at*;obtain⟨bG,ci,am⟩:=bF S;have bI:∀j,M W1 ⟨U (N l),j,Y⟩=G:=fun j=>by simp[xb,S]
 have bE:=JO S;go_upto_region 3 with(first
  |(go_at_call_of 68 (JQ au n n);refine(wT au n _ _ ao.o).mono ?_;rintro e m ⟨k,rfl,aK,L⟩;have K:JP (Below (U (N W1)) W1 m):=JW aN.o (xW _) L;have aX:=JO aK)
  |(go_at_call_of 113 (JQ d n n);refine(iK d g7 n _ _ _ (ap.o.X (xR _ _)) (aO.o.r7.X (xR _ _))).mono ?_;rintro e bw ⟨au,rfl,aI,aD⟩;have aN:JP (Below (U (N W1)) W1 bw):=aD;have ao:=JO aI))
 have bt:=heap_alloc_new m (C #[JQ k n n] 76);have b:Below (U (N W1)) W1 (m.alloc (C #[JQ k n n] 76)):=K.o.alloc K.o.size _;have cc:=K.o.size;have r:=b.size;have ch:=JO (aO.o.X b);have bM:=JO (aZ.o.X b);have aq:=JO (ap.o.X b);have bN:=JO ((ao.o.X L).X ((xR _ _).alloc (xW _) (C #[JQ k n n] 76)));have ba:=JO (aX.o.X ((xR _ _).alloc (xW _) (C #[JQ k n n] 76)));have bD:=JO (JW bB.o (xW _) b);have bO:=JS b i bb;have bP:=JS b i bc;have bQ:=JS b i bd;have bR:=JS b i be;have bS:=JS b i bf;have bT:=JS b i bg;have bU:=JS b i bh;have bV:=JS b i bi;have bW:=JS b i bj;have bX:=JS b i bk;have bH:=JS b D ax;have az:=JS b E ay;have s:=JS b am bG;have bY:∀j,(m.alloc (C #[JQ k n n] 76)).frozen? ⟨U (N w),j,Y⟩=G:=fun j=>(b.frozen (p:=⟨U (N w),j,Y⟩) i).trans (bo j)
 have cd:=xF i r;have bJ:=JO ((b.block _ i).trans aS.o);have bZ:∀j,(m.alloc (C #[JQ k n n] 76)).frozen? ⟨U (N w)+1,j,Y⟩=G:=fun j=>(b.frozen (p:=⟨U (N w)+1,j,Y⟩) D).trans (bp j)
 have ce:=xF D r;have bK:=JO ((b.block _ D).trans aT.o);have br:∀j,(m.alloc (C #[JQ k n n] 76)).frozen? ⟨U (N w)+2,j,Y⟩=G:=fun j=>(b.frozen (p:=⟨U (N w)+2,j,Y⟩) E).trans (bq j)
 have F:=xF E r;have an:=JO ((b.block _ E).trans aU.o);have ca:∀j,(m.alloc (C #[JQ k n n] 76)).frozen? ⟨U (N l),j,Y⟩=G:=fun j=>(b.frozen (p:=⟨U (N l),j,Y⟩) am).trans (bI j)
 have ar:=xF am r;have bL:=JO ((b.block _ am).trans bE.o);have cn:U (N m)<(m.alloc (C #[JQ k n n] 76)).heap.size:=by simp
 generalize cl:m.alloc (C #[JQ k n n] 76)=W2 at*;obtain⟨aw,cj,bu⟩:=bF bt;go_region_held3 (fun w'=>z w' ⟨U (N l),0,Y⟩=I (JQ d n n)/\z w' ⟨U (N m),0,Y⟩=I (JQ k n n)) (first|exact⟨s,aw⟩|exact⟨ak,al⟩|exact⟨v,y⟩|exact⟨(aV (by omega)).trans v,(aV (by omega)).trans y⟩) (first
  |(go_at_call_of 67 (JQ d n n);refine(iQ d bv n _ _ _ (aq.o.X t.o) aY.o).mono ?_;rintro e bz ⟨av,rfl,aM,aF⟩;have q:JP (Below (U (N W2)) W2 bz):=JW t.o (xW _) aF;have v:=JS q.o ar s;have y:=JS q.o bu aw;have cg:=(q.o.frozen (p:=⟨U (N w)+2,0,Y⟩) F).trans (br 0);have cf:=JS q.o F az;have u:=JO aM)
  |(go_at_call_of 113 (JQ k n n);refine(iK k d n _ _ _ (ba.o.X (xR _ _).drew) (aq.o.X (xR _ _).drew)).mono ?_;rintro e bx ⟨bv,rfl,aL,aE⟩;have t:JP (Below (U (N W2)) W2 bx):=((xR (U (N W2)) W2).drew).trans (aE.mono (by simp));have ak:=JS t.o ar s;have al:=JS t.o bu aw;have aY:=JO aL))
 all_goals
  (try go_wp2)
  have KR:=bC ((q.o.block _ F).trans an.o) 0 (JQ av n n);refine jL (p:=4) (U (N w)+2) _ (by kernel_rfl) Z (by exact KR) Z ⟨av,Z,⟨(u.o).at_.aA (xc _ _ _ _ (by have:=u.o.at_;unfold LJ at this;intro e;rw[e]at this;rw[(q.o.block _ F).trans an.o]at this;simp at this)),(u.o).len,(u.o).fits⟩,(JW bD.o (xW _) q.o).setCell (p:=⟨U (N w)+2,0,Y⟩) (by simp) _⟩
theorem XL(a:FA)(f:Ey)(gs:Nat)(aJ:List Nat)(w:World)(hf:Ef w a f)(hs:Ed w gs a.n aJ):
  Calls prog 65 #[.agg (LY a),.agg #[JQ gs a.n a.n]] w fun e w'=>jE w w' a.n (f.bT aJ) e:=by
 have ag:JP (Q.dQ f.E aJ=(xa a.n).foldl (pF f.E aJ) (LH a.n)):=by unfold JP Q.dQ;rw[hf.len]
 obtain⟨x,c,aj,hx⟩:=hf.form;have ab:=hf.n64;have W:=hf.len;obtain⟨n,ev,g1,g2,g3,g4,g5,g6,g7,g8,g9⟩:=a;simp only at aj ab W hx;subst aj;simp only[LY];simp only at ag hs;have af:=JO hf.ev;obtain⟨k0,k2,k1,bm,ae⟩:=lP w #[O x n c,JQ g1 n n,JQ g2 n n,JQ g3 n n,JQ g4 n n,JQ g5 n n,JQ g6 n n,JQ g7 n n,JQ g8 n n,JQ g9 n n] #[JQ gs n n] #[O Y 0 0] 78 76 76;have HF:=JO (hf.X ae);have RS:=JO (hs.X ae);have ac:=JO ae;go_enter func65,ntmps65;go_upto_region 1 with fail
 generalize hE:((w.alloc (C #[O x n c,JQ g1 n n,JQ g2 n n,JQ g3 n n,JQ g4 n n,JQ g5 n n,JQ g6 n n,JQ g7 n n,JQ g8 n n,JQ g9 n n] 78)).alloc (C #[JQ gs n n] 76)).alloc (C #[O Y 0 0] 76)=W0 at*;have ah:=aB k0 0 _ Z;have aK:=aB k0 2 _ Z;have aL:=aB k0 8 _ Z;have aM:=aB k0 9 _ Z;obtain⟨c1,f1,l1⟩:=bF k1;obtain⟨c2,f2,l2⟩:=bF k2;have l0:U (N w)<U (N W0):=by omega
 have K1:=JO k1;go_wp2_with(first|(go_at_call 109;refine(jA n _ ab).mono ?_;rintro e w1 ⟨gn,rfl,aY,aQ,aW,aP,V⟩;have HS:=JO (Fill.start ⟨aY,aW,aP⟩ aQ V);have bn:=V.size;have bi:=HS.o.cell (p:=⟨U (N w),0,Y⟩) l0 ah));have av:=JO aK;have aw:=JO aL;have ax:=JO aM;have au:=JO c1;have aC:=JO f1;go_loopw[17] (fun i wr=>∃(k:Nat) (t:List Nat),k<=n/\i=.int .i64 k/\JP (t=(xa k).foldl (pF f.E aJ) (LH n))/\JP (Fill W0 wr (U (N w1)) gn n t)) fun i _=>n-(intOf i).toNat
 case atStart=>exact⟨0,_,Nat.zero_le _,Z,Z,HS⟩
 case round =>
  obtain⟨k,t,hk,rfl,HT,s⟩:=hrel;obtain⟨b0,b1,b2⟩:=bF s.o.box;have bj:=s.o.cell (p:=⟨U (N w),0,Y⟩) l0 ah;have m:=xF l0 s.o.bel.size;by_cases hlt:k<n
  ·have bk:(k:Int)<(n:Int):=by omega
   obtain⟨B,rfl,ai⟩:=hx (by omega);have aa:B<U (N W0):=by omega
   have aG:JP (wr.rangeAt B (k*10) (aD (Q.ev f.E k)).toList):=eH (af.o.bV W.symm k (by omega)) ((s.o.bel.block B aa).trans (ac.o.block B ai));have aI:JP ((xa (k+1)).foldl (pF f.E aJ) (LH n)=(xa n).foldl (oB f.E aJ k) t):=by unfold JP;rw[fP,<- HT.o];unfold pF;rw[W]
   have ar:JP (∀q u,oB f.E aJ k u q=if bB aJ k q&&(Q.ev f.E k).q != 0&&(Q.ev f.E q).q != 0 then cL u q k else u):=fun q u=>Z
   generalize Q.ev f.E k=e1 at*;have ap:JP (KO (wr.alloc (C (aD e1) 166)) (U (N wr)) e1):=KO.bA wr e1;have az:=JO (s.o.alloc (C (aD e1) 166));go_wp2_with(first|(refine cA (.tmp 20) Z Z B (k*10) e1 Z aG.o ?_));go_loopw[25] (fun j wq=>∃(q:Nat) (u:List Nat),q<=n/\j=.int .i64 q/\JP (u=(xa q).foldl (oB f.E aJ k) t)/\JP (Fill W0 wq (U (N w1)) gn n u)/\JP (KO wq (U (N wr)) e1)) fun j _=>n-(intOf j).toNat
   case atStart=>exact⟨0,t,Nat.zero_le _,Z,Z,az,ap⟩
   case round =>
    obtain⟨q,u,hq,rfl,HU,HJ,HA⟩:=hrel;by_cases hql:q<n
    ·have bl:(q:Int)<(n:Int):=by omega
     have L:JP (wr.rangeAt B (q*10) (aD (Q.ev f.E q)).toList):=eH (af.o.bV W.symm q (by omega)) ((HJ.o.bel.block B aa).trans (ac.o.block B ai));have T:JP ((xa (q+1)).foldl (oB f.E aJ k) t=if bB aJ k q&&e1.q != 0&&(Q.ev f.E q).q != 0 then cL u q k else u):=by unfold JP;rw[fP,<- HU.o];exact ar.o q u
     generalize Q.ev f.E q=e2 at*;have D:=JO (HJ.o.alloc (C (aD e2) 166));have J:=JO (HA.o.alloc (C (aD e2) 166));have K:=JO (KO.bA wr e2);have S:=JO (RS.o.X D.o.bel);have H:=xF l2 HJ.o.bel.size;have d2:=HJ.o.cell (p:=⟨U (N w)+1,0,Y⟩) l2 c2
     cases z1:bB aJ (k:Int) (q:Int)
     ·have v:JP (u=(xa (q+1)).foldl (oB f.E aJ k) t):=by unfold JP;rw[T.o];simp[z1]
      go_wp2_with(first|(refine cA (.tmp 28) Z Z B (q*10) e2 Z L.o ?_)|(go_at_call 112;refine(jY gs n aJ (k:Int) (q:Int) _ S.o).mono ?_;rintro e wb ⟨rfl,b⟩;rw[z1];have g:=JO (D.o.keep b);have d:=JO (J.o.X b);obtain⟨x0,x1,x2,x3,x4,x5,x6,x7,x8,x9,xf,xl⟩:=d.o.F;have r:=JO (K.o.X b);obtain⟨y0,y1,y2,y3,y4,y5,y6,y7,y8,y9,yf,yl⟩:=r.o.F));go_roundw
      case rel=>exact⟨q+1,u,by omega,by go_num,v,g,d⟩
      case measure=>simp[intOf];omega
     cases z2:e1.q != 0
     ·have v:JP (u=(xa (q+1)).foldl (oB f.E aJ k) t):=by unfold JP;rw[T.o];simp[z1,z2]
      go_wp2_with(first|(refine cA (.tmp 28) Z Z B (q*10) e2 Z L.o ?_)|(go_at_call 112;refine(jY gs n aJ (k:Int) (q:Int) _ S.o).mono ?_;rintro e wb ⟨rfl,b⟩;rw[z1];have g:=JO (D.o.keep b);have d:=JO (J.o.X b);obtain⟨x0,x1,x2,x3,x4,x5,x6,x7,x8,x9,xf,xl⟩:=d.o.F;have r:=JO (K.o.X b);obtain⟨y0,y1,y2,y3,y4,y5,y6,y7,y8,y9,yf,yl⟩:=r.o.F));go_roundw
      case rel=>exact⟨q+1,u,by omega,by go_num,v,g,d⟩
      case measure=>simp[intOf];omega
     cases z3:e2.q != 0
     ·have v:JP (u=(xa (q+1)).foldl (oB f.E aJ k) t):=by unfold JP;rw[T.o];simp[z1,z2,z3]
      go_wp2_with(first|(refine cA (.tmp 28) Z Z B (q*10) e2 Z L.o ?_)|(go_at_call 112;refine(jY gs n aJ (k:Int) (q:Int) _ S.o).mono ?_;rintro e wb ⟨rfl,b⟩;rw[z1];have g:=JO (D.o.keep b);have d:=JO (J.o.X b);obtain⟨x0,x1,x2,x3,x4,x5,x6,x7,x8,x9,xf,xl⟩:=d.o.F;have r:=JO (K.o.X b);obtain⟨y0,y1,y2,y3,y4,y5,y6,y7,y8,y9,yf,yl⟩:=r.o.F));go_roundw
      case rel=>exact⟨q+1,u,by omega,by go_num,v,g,d⟩
      case measure=>simp[intOf];omega
     ·have v:JP (cL u (q:Int) (k:Int)=(xa (q+1)).foldl (oB f.E aJ k) t):=by unfold JP;rw[T.o];simp[z1,z2,z3]
      go_wp2_with(first|(refine cA (.tmp 28) Z Z B (q*10) e2 Z L.o ?_)|(go_at_call 112;refine(jY gs n aJ (k:Int) (q:Int) _ S.o).mono ?_;rintro e wb ⟨rfl,b⟩;rw[z1];have g:=JO (D.o.keep b);have d:=JO (J.o.X b);obtain⟨x0,x1,x2,x3,x4,x5,x6,x7,x8,x9,xf,xl⟩:=d.o.F;have r:=JO (K.o.X b);obtain⟨y0,y1,y2,y3,y4,y5,y6,y7,y8,y9,yf,yl⟩:=r.o.F)|(go_at_call 110;refine(jM (U (N w1)) 0 gn n u (q:Int) (k:Int) _ g.o.gS g.o.rel.fits).mono ?_;rintro e wc ⟨rfl,aX,ak⟩;have aE:=JO (g.o.grown ak aX);have aq:=JO (KO.grown d.o g.o.rel.at_ ak)));go_roundw
      case rel=>exact⟨q+1,_,by omega,by go_num,v,aE,aq⟩
      case measure=>simp[intOf];omega
    ·have aF:JP (u=(xa (k+1)).foldl (pF f.E aJ) (LH n)):=by unfold JP;rw[aI.o,HU.o,show q=n by omega]
     go_wp2;go_roundw
     case rel=>exact⟨k+1,u,by omega,by go_num,aF,HJ⟩
     case measure=>simp[intOf];omega
  ·have aU:k=n:=by omega
   have ay:JP (t=Q.dQ f.E aJ):=by unfold JP;rw[ag.o,HT.o,aU]
   rw[ay.o]at s;go_upto_region 12 with fail
   have m2:=s.o.cell (p:=⟨U (N w),2,Y⟩) l0 av.o;have m8:=s.o.cell (p:=⟨U (N w),8,Y⟩) l0 aw.o;have m9:=s.o.cell (p:=⟨U (N w),9,Y⟩) l0 ax.o;have m1:=s.o.cell (p:=⟨U (N w)+2,0,Y⟩) l1 au.o;have mf:=(s.o.bel.frozen (p:=⟨U (N w)+2,0,Y⟩) l1).trans aC.o;have H:=xF l1 s.o.bel.size;have ad:=JO (HF.o.X s.o.bel);have HB:=JO s.o.bel;have aH:=JO s.o.rel;go_region_held3 (fun w'=>z w' ⟨U (N w),2,Y⟩=I (JQ g2 n n)/\z w' ⟨U (N w),8,Y⟩=I (JQ g8 n n)/\z w' ⟨U (N w),9,Y⟩=I (JQ g9 n n)/\z w' ⟨U (N w1),0,Y⟩=I (JQ gn n n)) (first|exact⟨m2,m8,m9,b0⟩|exact⟨aZ,bb,bd,bg⟩|exact⟨ba,bc,bf,bh⟩|exact⟨al,am,an,ao⟩|exact⟨(aV (by omega)).trans al,(aV (by omega)).trans am,(aV (by omega)).trans an,(aV (by omega)).trans ao⟩) (first
    |(go_at_call 114;refine(rD j1 g2 n _ _ _ J1.o (ad.o.r2.X A.o)).mono ?_;rintro e v2 ⟨j2,rfl,aT,aO⟩;have l:JP (Below (U (N wr)) wr v2):=JW A.o (xW _) aO;have al:=JS l.o m m2;have am:=JS l.o m m8;have an:=JS l.o m m9;have ao:=JS l.o b2 b0;have bo:=JS l.o H m1;have bp:=(l.o.frozen (p:=⟨U (N w)+2,0,Y⟩) H).trans mf;have J2:=JO aT)
    |(go_at_call_of 113 (JQ j0 n n);refine(iK j0 g9 n _ _ _ J0.o (ad.o.r9.X y.o)).mono ?_;rintro e v1 ⟨j1,rfl,aS,V⟩;have A:JP (Below (U (N wr)) wr v1):=JW y.o (xW _) V;have ba:=JS A.o m m2;have bc:=JS A.o m m8;have bf:=JS A.o m m9;have bh:=JS A.o b2 b0;have J1:=JO aS)
    |(go_at_call_of 113 (JQ g8 n n);refine(iK g8 gn n _ _ _ (ad.o.r8.X (xR _ _).drew) (aH.o.X (xR _ _).drew)).mono ?_;rintro e v0 ⟨j0,rfl,aR,aN⟩;have y:JP (Below (U (N wr)) wr v0):=((xR (U (N wr)) wr).drew).trans (aN.mono (by simp));have aZ:=JS y.o m m2;have bb:=JS y.o m m8;have bd:=JS y.o m m9;have bg:=JS y.o b2 b0;have J0:=JO aR))
   all_goals
    (try go_wp2)
    have KR:=bC ((l.o.block _ H).trans ((HB.o.block _ l1).trans K1.o)) 0 (JQ j2 n n);refine jL (p:=4) (U (N w)+2) _ (by kernel_rfl) Z (by exact KR) Z ⟨j2,Z,⟨J2.o.at_.aA (xc _ _ _ _ (by have:=J2.o.at_;unfold LJ at this;intro e;rw[e]at this;rw[(l.o.block _ H).trans ((HB.o.block _ l1).trans K1.o)]at this;simp at this)),J2.o.len,J2.o.fits⟩,(JW ac.o (xW _) (JW HB.o (xW _) l.o)).setCell (p:=⟨U (N w)+2,0,Y⟩) (by simp) _⟩
theorem Mr(a:FA)(f:Ey)(gr:Nat)(rd:List Nat)(w:World)(hf:Ef w a f)(hr:Ed w gr a.n rd):
  Calls prog 36 #[.agg (LY a),.agg #[JQ gr a.n a.n]] w fun e w'=>jE w w' a.n (f.KU rd) e:=by
 obtain⟨x,c,bU,_⟩:=hf.form;obtain⟨n,ev,g1,g2,g3,g4,g5,g6,g7,g8,g9⟩:=a;simp only at bU hr;subst bU;simp only[LY];obtain⟨k0,k1,k2,cf,bE⟩:=lP w #[O x n c,JQ g1 n n,JQ g2 n n,JQ g3 n n,JQ g4 n n,JQ g5 n n,JQ g6 n n,JQ g7 n n,JQ g8 n n,JQ g9 n n] #[JQ gr n n] #[O Y 0 0] 78 76 76;have HF:=JO (hf.X bE);have Rr:=JO (hr.X bE);have cc:=JO bE;go_enter func36,ntmps36;go_upto_region 1 with fail
 generalize hE:((w.alloc (C #[O x n c,JQ g1 n n,JQ g2 n n,JQ g3 n n,JQ g4 n n,JQ g5 n n,JQ g6 n n,JQ g7 n n,JQ g8 n n,JQ g9 n n] 78)).alloc (C #[JQ gr n n] 76)).alloc (C #[O Y 0 0] 76)=E at*;have r:=aB k0 0 _ Z;have i:=aB k0 1 _ Z;have s:=aB k0 2 _ Z;have k:=aB k0 3 _ Z;have t:=aB k0 4 _ Z;have u:=aB k0 5 _ Z;have v:=aB k0 6 _ Z;have y:=aB k0 7 _ Z;have A:=aB k0 8 _ Z;have B:=aB k0 9 _ Z;have b:U (N w)<U (N E):=by omega
 have D:=aB k1 0 _ Z;have ai:U (N w)+1<U (N E):=by omega
 have aM:=aB k2 0 _ Z;have aF:U (N w)+2<U (N E):=by omega
 have bR:∀j,M E ⟨U (N w)+2,j,Y⟩=G:=fun j=>by simp[xb,k2]
 have bN:=JO k2;clear hE cf k0 k1 k2;go_cut[5]from 6 to 10 fun p wx=>∃gx qx,p=.pointer (I ⟨gx,0,Y⟩)/\wx.heap[gx]?=I (C #[JQ qx n n] 76 (0,0))/\Ed wx qx n (f.bT (f.aJ rd))/\Below (U (N E)) E wx/\U (N E)<=gx
 case first =>
  have bV:=xW (U (N E));go_region_held3 (fun w'=>z w' ⟨U (N w),0,Y⟩=I (O x n c)/\z w' ⟨U (N w),1,Y⟩=I (JQ g1 n n)/\z w' ⟨U (N w),2,Y⟩=I (JQ g2 n n)/\z w' ⟨U (N w),3,Y⟩=I (JQ g3 n n)/\z w' ⟨U (N w),4,Y⟩=I (JQ g4 n n)/\z w' ⟨U (N w),5,Y⟩=I (JQ g5 n n)/\z w' ⟨U (N w),6,Y⟩=I (JQ g6 n n)/\z w' ⟨U (N w),7,Y⟩=I (JQ g7 n n)/\z w' ⟨U (N w),8,Y⟩=I (JQ g8 n n)/\z w' ⟨U (N w),9,Y⟩=I (JQ g9 n n)/\z w' ⟨U (N w)+1,0,Y⟩=I (JQ gr n n)) (first|exact⟨r,i,s,k,t,u,v,y,A,B,D⟩|exact⟨(aH b).trans r,(aH b).trans i,(aH b).trans s,(aH b).trans k,(aH b).trans t,(aH b).trans u,(aH b).trans v,(aH b).trans y,(aH b).trans A,(aH b).trans B,(aH ai).trans D⟩|exact⟨am,an,ao,ap,aq,ar,au,av,aw,ax,ah⟩|exact⟨(aH aU).trans am,(aH aW).trans an,(aH aX).trans ao,(aH aY).trans ap,(aH aZ).trans aq,(aH ba).trans ar,(aH bb).trans au,(aH bd).trans av,(aH be).trans aw,(aH bg).trans ax,(aH aK).trans ah⟩|exact⟨L,S,T,V,W,aa,ab,ac,ad,ae,F⟩|exact⟨(aH bh).trans L,(aH bi).trans S,(aH bj).trans T,(aH bk).trans V,(aH bl).trans W,(aH bm).trans aa,(aH bn).trans ab,(aH bo).trans ac,(aH bp).trans ad,(aH bq).trans ae,(aH aL).trans F⟩|exact⟨(aV (by omega)).trans L,(aV (by omega)).trans S,(aV (by omega)).trans T,(aV (by omega)).trans V,(aV (by omega)).trans W,(aV (by omega)).trans aa,(aV (by omega)).trans ab,(aV (by omega)).trans ac,(aV (by omega)).trans ad,(aV (by omega)).trans ae,(aV (by omega)).trans F⟩) (first
   |(go_at_call 65;refine(XL (FA.mk n (O x n c) g1 g2 g3 g4 g5 g6 g7 g8 g9) f bX _ _ (HF.o.X (by first|exact d.o|exact d.o.alloc d.o.size _)) (by first|exact bs.o|exact bs.o.X ((xR _ _).alloc (xW _) _))).mono ?_;rintro e J ⟨ci,rfl,bH,H⟩;have g:JP (Below (U (N E)) E J):=(by first|exact JW d.o (xW _) H|exact JW (d.o.alloc d.o.size _) (xW _) H);have L:=JS g.o b r;have S:=JS g.o b i;have T:=JS g.o b s;have V:=JS g.o b k;have W:=JS g.o b t;have aa:=JS g.o b u;have ab:=JS g.o b v;have ac:=JS g.o b y;have ad:=JS g.o b A;have ae:=JS g.o b B;have F:=JS g.o ai D;have bh:=xF b g.o.size;have bi:=xF b g.o.size;have bj:=xF b g.o.size;have bk:=xF b g.o.size;have bl:=xF b g.o.size;have bm:=xF b g.o.size;have bn:=xF b g.o.size;have bo:=xF b g.o.size;have bp:=xF b g.o.size;have bq:=xF b g.o.size;have aL:=xF ai g.o.size;(try(have bx:z J ⟨U (N q),0,Y⟩=I (O Y 0 0)/\M J ⟨U (N q),0,Y⟩=G/\J.heap[U (N q)]?=I (C #[O Y 0 0] 76 (0,0)):=by first|exact fH H|exact fH (w:=q.drew) H));(try(have aj:z J ⟨U (N E),0,Y⟩=I (O Y 0 0)/\M J ⟨U (N E),0,Y⟩=G/\J.heap[U (N E)]?=I (C #[O Y 0 0] 76 (0,0)):=sQ H bw));(try have bc:=bx.1);(try have bf:=bx.2.1);(try have bc:=aj.1);(try have bf:=aj.2.1);have aI:=JO bH)
   |(go_at_call 66;refine(XK (FA.mk n (O x n c) g1 g2 g3 g4 g5 g6 g7 g8 g9) f gr _ _ (HF.o.X (by first|exact(xR _ _).drew|exact((xR _ _).drew).alloc (by simp) _)) (Rr.o.X (by first|exact(xR _ _).drew|exact((xR _ _).drew).alloc (by simp) _))).mono ?_;rintro e q ⟨bX,rfl,bG,af⟩;have d:JP (Below (U (N E)) E q):=(by first|exact((xR (U (N E)) E).drew).trans (af.mono (by simp))|exact(((xR (U (N E)) E).drew).alloc (by simp) _).trans (af.mono (by simp)));have am:=JS d.o b r;have an:=JS d.o b i;have ao:=JS d.o b s;have ap:=JS d.o b k;have aq:=JS d.o b t;have ar:=JS d.o b u;have au:=JS d.o b v;have av:=JS d.o b y;have aw:=JS d.o b A;have ax:=JS d.o b B;have ah:=JS d.o ai D;have aU:=xF b d.o.size;have aW:=xF b d.o.size;have aX:=xF b d.o.size;have aY:=xF b d.o.size;have aZ:=xF b d.o.size;have ba:=xF b d.o.size;have bb:=xF b d.o.size;have bd:=xF b d.o.size;have be:=xF b d.o.size;have bg:=xF b d.o.size;have aK:=xF ai d.o.size;(try(have bw:z q ⟨U (N E),0,Y⟩=I (O Y 0 0)/\M q ⟨U (N E),0,Y⟩=G/\q.heap[U (N E)]?=I (C #[O Y 0 0] 76 (0,0)):=by first|exact fH af|exact fH (w:=E.drew) af));(try have bc:=bw.1);(try have bf:=bw.2.1);have bs:=JO bG))
  all_goals
   (try go_wp2)
   go_meet
   case rel=>first|exact rY g.o aI.o|exact lV g.o bV aI.o aj.2.2|exact lV g.o d.o.size aI.o bx.2.2
 case rest =>
 obtain⟨ce,bY,rfl,cg,bW,l,ch⟩:=hcut;have bM:=JO (HF.o.X l);have bQ:=JO bW;have cd:=JO (JW cc.o (xW _) l);have aD:=JS l b i;have aE:=JS l b k;have bz:=JS l aF aM;have K:=xF b l.size;have bS:∀j,M wc ⟨U (N w)+2,j,Y⟩=G:=fun j=>(l.frozen (p:=⟨U (N w)+2,j,Y⟩) aF).trans (bR j)
 have aG:=xF aF l.size;have br:=JO ((l.block _ aF).trans bN.o);obtain⟨aT,cl,bL⟩:=bF cg;go_upto_region 2 with fail
 go_region_held3 (fun w'=>z w' ⟨U (N w),1,Y⟩=I (JQ g1 n n)/\z w' ⟨U (N w),3,Y⟩=I (JQ g3 n n)/\z w' ⟨ce,0,Y⟩=I (JQ bY n n)) (first|exact⟨aD,aE,aT⟩|exact⟨aN,aO,aP⟩|exact⟨aQ,aR,aS⟩|exact⟨ay,az,aC⟩|exact⟨(aV (by omega)).trans ay,(aV (by omega)).trans az,(aV (by omega)).trans aC⟩) (first
  |(go_at_call_of 68 (JQ bu n n);refine(wT bu n _ _ bP.o).mono ?_;rintro e cb ⟨bv,rfl,bK,bD⟩;have m:JP (Below (U (N wc)) wc cb):=JW ak.o (xW _) bD;have ay:=JS m.o K aD;have az:=JS m.o K aE;have aC:=JS m.o bL aT;have ck:=(m.o.frozen (p:=⟨U (N w)+2,0,Y⟩) aG).trans (bS 0);have cj:=JS m.o aG bz;have al:=JO bK)
  |(go_at_call_of 67 (JQ bt n n);refine(iQ bt g3 n _ _ _ bO.o (bM.o.r3.X ag.o)).mono ?_;rintro e ca ⟨bu,rfl,bJ,bB⟩;have ak:JP (Below (U (N wc)) wc ca):=JW ag.o (xW _) bB;have aQ:=JS ak.o K aD;have aR:=JS ak.o K aE;have aS:=JS ak.o bL aT;have bP:=JO bJ)
  |(go_at_call_of 67 (JQ g1 n n);refine(iQ g1 bY n _ _ _ (bM.o.r1.X (xR _ _).drew) (bQ.o.X (xR _ _).drew)).mono ?_;rintro e bZ ⟨bt,rfl,bI,bA⟩;have ag:JP (Below (U (N wc)) wc bZ):=((xR (U (N wc)) wc).drew).trans (bA.mono (by simp));have aN:=JS ag.o K aD;have aO:=JS ag.o K aE;have aP:=JS ag.o bL aT;have bO:=JO bI))
 all_goals
  (try go_wp2)
  refine jL (p:=4) (U (N w)+2) _ (by kernel_rfl) Z (by exact bC ((m.o.block _ aG).trans br.o) 0 (JQ bv n n)) Z ⟨bv,Z,⟨(al.o).at_.aA (xc _ _ _ _ (by have:=al.o.at_;unfold LJ at this;intro e;rw[e]at this;rw[(m.o.block _ aG).trans br.o]at this;simp at this)),(al.o).len,(al.o).fits⟩,(JW cd.o (xW _) m.o).setCell (p:=⟨U (N w)+2,0,Y⟩) (by simp) _⟩
end Go.Proofs.YtlikcongbhhpfaaGreatDoor
