import Derived.Test.YtlikcongbhhpfaaGreatDoorM32
set_option linter.unusedVariables false
set_option linter.unusedSimpArgs false
set_option maxHeartbeats 12800000
namespace Go.Proofs.YtlikcongbhhpfaaGreatDoor
open Go Go.RowKit Go.Proofs.Tryz P Q
set_option maxRecDepth 1000000
open _root_.Array renaming size->H
open Go.World renaming heap->L
open List renaming length->D
open Go.Obj renaming cells->Y
open Go.Value renaming slice->C,agg->N,bool->z
open Bool renaming false->O
open Option renaming none->I,some->M
open Go.Ending renaming returned->U
open Nat renaming le_refl->xF,lt_of_lt_of_le->xW
open Go.RowKit.Below renaming refl->xR
open Go.World renaming frozen?->x0
open List renaming foldl_cons->x1
theorem P4(a:FA)(f:Ey)(gr:Nat)(rd:List Nat)(gf:Nat)(bf:List Nat)(w:World)(hf:Ef w a f)(hr:Ed w gr a.n rd)(hb:Ed w gf a.n bf)(pv:Value)(ps:List Int)(hp:ME w pv ps)(aO:D ps=a.n)(h1:aL bf=O)(h2:f.cF (LR rd (LW f.E ps)) (LW f.E ps)=true):
  Calls prog 72 #[N (kZ a gr gf),pv] w fun e w'=>e=U (z (O))/\Below (H (L w)) w w':=by
 obtain⟨x,c,aN,_⟩:=hf.form;obtain⟨n,ev,g1,g2,g3,g4,g5,g6,g7,g8,g9⟩:=a;simp only at aN hr hb;subst aN;simp only[LY,kZ];obtain⟨J,bN,V⟩:=gU w #[C x n c,JQ g1 n n,JQ g2 n n,JQ g3 n n,JQ g4 n n,JQ g5 n n,JQ g6 n n,JQ g7 n n,JQ g8 n n,JQ g9 n n,JQ gr n n,JQ gf n n] 92;have HF:=JO (hf.X V);have Rr:=JO (hr.X V);have Rb:=JO (hb.X V);have ao:=JO V;have HP:=JO (hp.X ao.o);simp only at aO;go_enter func72,ntmps72;go_upto_region 1 with fail
 generalize hE:w.alloc (Y #[C x n c,JQ g1 n n,JQ g2 n n,JQ g3 n n,JQ g4 n n,JQ g5 n n,JQ g6 n n,JQ g7 n n,JQ g8 n n,JQ g9 n n,JQ gr n n,JQ gf n n] 92)=W0 at*;have r:=aB J 0 _ Z;have s:=aB J 1 _ Z;have t:=aB J 2 _ Z;have u:=aB J 3 _ Z;have v:=aB J 4 _ Z;have y:=aB J 5 _ Z;have A:=aB J 6 _ Z;have B:=aB J 7 _ Z;have F:=aB J 8 _ Z;have G:=aB J 9 _ Z;have K:=aB J 10 _ Z;have S:=aB J 11 _ Z;have b:H (L w)<H (L W0):=by omega
 have aK:∀j,W0.frozen? ⟨H (L w),j,I⟩=O:=fun j=>by simp[x0,J]
 have aq:=JO J;go_upto_region 4 with(first
  |(go_at_call 94;refine(xZ (FA.mk n (C x n c) g1 g2 g3 g4 g5 g6 g7 g8 g9) f pv ps _ (HF.o.X i.o) (HP.o.X i.o) aO).mono ?_;rintro e k ⟨l,rfl,al,ai⟩;have ab:JP (Below (H (L W0)) W0 k):=JW i.o (xF _) ai;have au:=JO al)
  |(go_at_call_of 119 (JQ gf n n);refine(lQ gf n _ _ (Rb.o.X (xR _ _))).mono ?_;rintro e aQ ⟨rfl,ah⟩;(try rw[h1]);have i:JP (Below (H (L W0)) W0 aQ):=ah;have aS:=JS i.o b r;have aT:=JS i.o b s;have aU:=JS i.o b t;have aV:=JS i.o b u;have aW:=JS i.o b v;have aX:=JS i.o b y;have aY:=JS i.o b A;have aZ:=JS i.o b B;have ba:=JS i.o b F;have bb:=JS i.o b G;skip))
 have T:=heap_alloc_new k (Y #[JQ l n n] 76);have g:Below (H (L W0)) W0 (k.alloc (Y #[JQ l n n] 76)):=ab.o.alloc ab.o.size _;have W:=g.size;have ap:=JO (HF.o.X g);have ad:=JO (Rr.o.X g);have aw:=JO (Rb.o.X g);have ae:=JO (au.o.X ((xR _ _).alloc (xF _) (Y #[JQ l n n] 76)));have bc:=JO (JW ao.o (xF _) g);have az:=JS g b r;have aA:=JS g b s;have aC:=JS g b t;have aD:=JS g b u;have aE:=JS g b v;have aF:=JS g b y;have aG:=JS g b A;have aH:=JS g b B;have aI:=JS g b F;have aJ:=JS g b G;have af:=JS g b K;have ag:=JS g b S;have aM:∀j,(k.alloc (Y #[JQ l n n] 76)).frozen? ⟨H (L w),j,I⟩=O:=fun j=>(g.frozen (p:=⟨H (L w),j,I⟩) b).trans (aK j)
 have d:=xW b W;have ar:=JO ((g.block _ b).trans aq.o);have bL:H (L k)<(k.alloc (Y #[JQ l n n] 76)).heap.size:=by simp
 generalize bJ:k.alloc (Y #[JQ l n n] 76)=W1 at*;obtain⟨bh,bH,aa⟩:=bF T;have bl:∀j,W1.frozen? ⟨H (L k),j,I⟩=O:=fun j=>by simp[x0,T]
 have bg:=JO T;go_upto_region 5 with(first
  |(go_at_call 95;refine(zX (FA.mk n (C x n c) g1 g2 g3 g4 g5 g6 g7 g8 g9) f gr _ l _ _ (ap.o.X (xR _ _)) (ad.o.X (xR _ _)) (ae.o.X (xR _ _))).mono ?_;rintro e q ⟨m,rfl,am,aj⟩;have ac:JP (Below (H (L W1)) W1 q):=aj;have av:=JO am))
 have aP:=heap_alloc_new q (Y #[JQ m n n] 76);have g:Below (H (L W1)) W1 (q.alloc (Y #[JQ m n n] 76)):=ac.o.alloc ac.o.size _;have W:=g.size;have be:=JO (ap.o.X g);have bo:=JO (ad.o.X g);have bp:=JO (aw.o.X g);have ax:=JO (ae.o.X g);have ay:=JO (av.o.X ((xR _ _).alloc (xF _) (Y #[JQ m n n] 76)));have bd:=JO (JW bc.o (xF _) g);have bq:=JS g d az;have br:=JS g d aA;have bs:=JS g d aC;have bt:=JS g d aD;have bu:=JS g d aE;have bv:=JS g d aF;have bw:=JS g d aG;have bx:=JS g d aH;have bz:=JS g d aI;have bA:=JS g d aJ;have bi:=JS g d af;have bj:=JS g d ag;have bk:=JS g aa bh;have bB:∀j,(q.alloc (Y #[JQ m n n] 76)).frozen? ⟨H (L w),j,I⟩=O:=fun j=>(g.frozen (p:=⟨H (L w),j,I⟩) d).trans (aM j)
 have bD:=xW d W;have bm:=JO ((g.block _ d).trans ar.o);have bC:∀j,(q.alloc (Y #[JQ m n n] 76)).frozen? ⟨H (L k),j,I⟩=O:=fun j=>(g.frozen (p:=⟨H (L k),j,I⟩) aa).trans (bl j)
 have bE:=xW aa W;have bn:=JO ((g.block _ aa).trans bg.o);have bM:H (L q)<(q.alloc (Y #[JQ m n n] 76)).heap.size:=by simp
 generalize bK:q.alloc (Y #[JQ m n n] 76)=W2 at*;obtain⟨bG,bI,bO⟩:=bF aP;go_wp2_with(first
  |(go_at_call 120;refine(vK (FA.mk n (C x n c) g1 g2 g3 g4 g5 g6 g7 g8 g9) f m _ l _ _ (be.o.X (xR _ _)) (ay.o.X (xR _ _)) (ax.o.X (xR _ _))).mono ?_;rintro e aR ⟨rfl,ak⟩;(try rw[h2]);have an:JP (Below (H (L W2)) W2 aR):=ak;skip))
 all_goals
  go_wp2;go_ret;exact⟨Z,JW bd.o (xF _) an.o⟩
theorem P5(a:FA)(f:Ey)(gr:Nat)(rd:List Nat)(gf:Nat)(bf:List Nat)(w:World)(hf:Ef w a f)(hr:Ed w gr a.n rd)(hb:Ed w gf a.n bf)(pv:Value)(ps:List Int)(hp:ME w pv ps)(bM:D ps=a.n)(h1:aL bf=O)(h2:f.cF (LR rd (LW f.E ps)) (LW f.E ps)=O)(h3:aL (LR bf (Q.LN rd (LW f.E ps)))=true):
  Calls prog 72 #[N (kZ a gr gf),pv] w fun e w'=>e=U (z (O))/\Below (H (L w)) w w':=by
 obtain⟨x,c,bL,_⟩:=hf.form;obtain⟨n,ev,g1,g2,g3,g4,g5,g6,g7,g8,g9⟩:=a;simp only at bL hr hb;subst bL;simp only[LY,kZ];obtain⟨k0,di,ak⟩:=gU w #[C x n c,JQ g1 n n,JQ g2 n n,JQ g3 n n,JQ g4 n n,JQ g5 n n,JQ g6 n n,JQ g7 n n,JQ g8 n n,JQ g9 n n,JQ gr n n,JQ gf n n] 92;have HF:=JO (hf.X ak);have Rr:=JO (hr.X ak);have Rb:=JO (hb.X ak);have bc:=JO ak;have HP:=JO (hp.X bc.o);simp only at bM;go_enter func72,ntmps72;go_upto_region 1 with fail
 generalize hE:w.alloc (Y #[C x n c,JQ g1 n n,JQ g2 n n,JQ g3 n n,JQ g4 n n,JQ g5 n n,JQ g6 n n,JQ g7 n n,JQ g8 n n,JQ g9 n n,JQ gr n n,JQ gf n n] 92)=W0 at*;have A:=aB k0 0 _ Z;have B:=aB k0 1 _ Z;have F:=aB k0 2 _ Z;have G:=aB k0 3 _ Z;have J:=aB k0 4 _ Z;have K:=aB k0 5 _ Z;have S:=aB k0 6 _ Z;have T:=aB k0 7 _ Z;have V:=aB k0 8 _ Z;have W:=aB k0 9 _ Z;have ac:=aB k0 10 _ Z;have ad:=aB k0 11 _ Z;have d:H (L w)<H (L W0):=by omega
 have bH:∀j,W0.frozen? ⟨H (L w),j,I⟩=O:=fun j=>by simp[x0,k0]
 have be:=JO k0;go_upto_region 4 with(first
  |(go_at_call 94;refine(xZ (FA.mk n (C x n c) g1 g2 g3 g4 g5 g6 g7 g8 g9) f pv ps _ (HF.o.X l.o) (HP.o.X l.o) bM).mono ?_;rintro e m ⟨s,rfl,aU,aO⟩;have am:JP (Below (H (L W0)) W0 m):=JW l.o (xF _) aO;have bj:=JO aU)
  |(go_at_call_of 119 (JQ gf n n);refine(lQ gf n _ _ (Rb.o.X (xR _ _))).mono ?_;rintro e bO ⟨rfl,aN⟩;(try rw[h1]);have l:JP (Below (H (L W0)) W0 bO):=aN;have bT:=JS l.o d A;have bU:=JS l.o d B;have bV:=JS l.o d F;have bW:=JS l.o d G;have bX:=JS l.o d J;have bY:=JS l.o d K;have bZ:=JS l.o d S;have ca:=JS l.o d T;have cb:=JS l.o d V;have cc:=JS l.o d W;skip))
 have ah:=heap_alloc_new m (Y #[JQ s n n] 76);have g:Below (H (L W0)) W0 (m.alloc (Y #[JQ s n n] 76)):=am.o.alloc am.o.size _;have v:=g.size;have bd:=JO (HF.o.X g);have aq:=JO (Rr.o.X g);have bn:=JO (Rb.o.X g);have ar:=JO (bj.o.X ((xR _ _).alloc (xF _) (Y #[JQ s n n] 76)));have cn:=JO (JW bc.o (xF _) g);have bv:=JS g d A;have bw:=JS g d B;have bx:=JS g d F;have bz:=JS g d G;have bA:=JS g d J;have bB:=JS g d K;have bC:=JS g d S;have bD:=JS g d T;have bE:=JS g d V;have bG:=JS g d W;have aJ:=JS g d ac;have aK:=JS g d ad;have bI:∀j,(m.alloc (Y #[JQ s n n] 76)).frozen? ⟨H (L w),j,I⟩=O:=fun j=>(g.frozen (p:=⟨H (L w),j,I⟩) d).trans (bH j)
 have k:=xW d v;have bg:=JO ((g.block _ d).trans be.o);have df:H (L m)<(m.alloc (Y #[JQ s n n] 76)).heap.size:=by simp
 generalize dc:m.alloc (Y #[JQ s n n] 76)=W1 at*;obtain⟨cs,cZ,al⟩:=bF ah;have cx:∀j,W1.frozen? ⟨H (L m),j,I⟩=O:=fun j=>by simp[x0,ah]
 have cq:=JO ah;go_upto_region 5 with(first
  |(go_at_call 95;refine(zX (FA.mk n (C x n c) g1 g2 g3 g4 g5 g6 g7 g8 g9) f gr _ s _ _ (bd.o.X (xR _ _)) (aq.o.X (xR _ _)) (ar.o.X (xR _ _))).mono ?_;rintro e q ⟨t,rfl,aV,aP⟩;have an:JP (Below (H (L W1)) W1 q):=aP;have bk:=JO aV))
 have ai:=heap_alloc_new q (Y #[JQ t n n] 76);have g:Below (H (L W1)) W1 (q.alloc (Y #[JQ t n n] 76)):=an.o.alloc an.o.size _;have v:=g.size;have aI:=JO (bd.o.X g);have au:=JO (aq.o.X g);have bo:=JO (bn.o.X g);have aa:=JO (ar.o.X g);have ab:=JO (bk.o.X ((xR _ _).alloc (xF _) (Y #[JQ t n n] 76)));have co:=JO (JW cn.o (xF _) g);have av:=JS g k bv;have aw:=JS g k bw;have ax:=JS g k bx;have ay:=JS g k bz;have az:=JS g k bA;have aA:=JS g k bB;have aC:=JS g k bC;have aD:=JS g k bD;have aE:=JS g k bE;have aF:=JS g k bG;have ae:=JS g k aJ;have aM:=JS g k aK;have af:=JS g al cs;have bJ:∀j,(q.alloc (Y #[JQ t n n] 76)).frozen? ⟨H (L w),j,I⟩=O:=fun j=>(g.frozen (p:=⟨H (L w),j,I⟩) k).trans (bI j)
 have b:=xW k v;have bh:=JO ((g.block _ k).trans bg.o);have bK:∀j,(q.alloc (Y #[JQ t n n] 76)).frozen? ⟨H (L m),j,I⟩=O:=fun j=>(g.frozen (p:=⟨H (L m),j,I⟩) al).trans (cx j)
 have y:=xW al v;have bi:=JO ((g.block _ al).trans cq.o);have dg:H (L q)<(q.alloc (Y #[JQ t n n] 76)).heap.size:=by simp
 generalize dd:q.alloc (Y #[JQ t n n] 76)=W2 at*;obtain⟨bu,da,aj⟩:=bF ai;have cy:∀j,W2.frozen? ⟨H (L q),j,I⟩=O:=fun j=>by simp[x0,ai]
 have cr:=JO ai;go_upto_region 8 with(first
  |(go_at_call_of 68 (JQ aG n n);refine(wT aG n _ _ ap.o).mono ?_;rintro e u ⟨r,rfl,aX,ag⟩;have ao:JP (Below (H (L W2)) W2 u):=JW aZ.o (xF _) ag;have bl:=JO aX)
  |(go_at_call 121;refine(EO (FA.mk n (C x n c) g1 g2 g3 g4 g5 g6 g7 g8 g9) f gr _ s _ t _ _ (aI.o.X i.o) (au.o.X i.o) (aa.o.X i.o) (ab.o.X i.o)).mono ?_;rintro e bQ ⟨aG,rfl,aW,aR⟩;have aZ:JP (Below (H (L W2)) W2 bQ):=JW i.o (xF _) aR;have ap:=JO aW)
  |(go_at_call 120;refine(vK (FA.mk n (C x n c) g1 g2 g3 g4 g5 g6 g7 g8 g9) f t _ s _ _ (aI.o.X (xR _ _)) (ab.o.X (xR _ _)) (aa.o.X (xR _ _))).mono ?_;rintro e bP ⟨rfl,aQ⟩;(try rw[h2]);have i:JP (Below (H (L W2)) W2 bP):=aQ;have cd:=JS i.o b av;have ce:=JS i.o b aw;have cf:=JS i.o b ax;have cg:=JS i.o b ay;have ch:=JS i.o b az;have ci:=JS i.o b aA;have cj:=JS i.o b aC;have ck:=JS i.o b aD;have cl:=JS i.o b aE;have cm:=JS i.o b aF;have br:=JS i.o b ae;have bs:=JS i.o y af;have bt:=JS i.o aj bu;skip))
 have bN:=heap_alloc_new u (Y #[JQ r n n] 76);have g:Below (H (L W2)) W2 (u.alloc (Y #[JQ r n n] 76)):=ao.o.alloc ao.o.size _;have v:=g.size;have cX:=JO (aI.o.X g);have cC:=JO (au.o.X g);have bp:=JO (bo.o.X g);have cD:=JO (aa.o.X g);have cE:=JO (ab.o.X g);have cG:=JO ((ap.o.X ag).X ((xR _ _).alloc (xF _) (Y #[JQ r n n] 76)));have bq:=JO (bl.o.X ((xR _ _).alloc (xF _) (Y #[JQ r n n] 76)));have cp:=JO (JW co.o (xF _) g);have cH:=JS g b av;have cI:=JS g b aw;have cJ:=JS g b ax;have cK:=JS g b ay;have cL:=JS g b az;have cM:=JS g b aA;have cN:=JS g b aC;have cO:=JS g b aD;have cP:=JS g b aE;have cQ:=JS g b aF;have ct:=JS g b ae;have cu:=JS g b aM;have cv:=JS g y af;have cw:=JS g aj bu;have cR:∀j,(u.alloc (Y #[JQ r n n] 76)).frozen? ⟨H (L w),j,I⟩=O:=fun j=>(g.frozen (p:=⟨H (L w),j,I⟩) b).trans (bJ j)
 have cU:=xW b v;have cz:=JO ((g.block _ b).trans bh.o);have cS:∀j,(u.alloc (Y #[JQ r n n] 76)).frozen? ⟨H (L m),j,I⟩=O:=fun j=>(g.frozen (p:=⟨H (L m),j,I⟩) y).trans (bK j)
 have cV:=xW y v;have cA:=JO ((g.block _ y).trans bi.o);have cT:∀j,(u.alloc (Y #[JQ r n n] 76)).frozen? ⟨H (L q),j,I⟩=O:=fun j=>(g.frozen (p:=⟨H (L q),j,I⟩) aj).trans (cy j)
 have cW:=xW aj v;have cB:=JO ((g.block _ aj).trans cr.o);have dh:H (L u)<(u.alloc (Y #[JQ r n n] 76)).heap.size:=by simp
 generalize de:u.alloc (Y #[JQ r n n] 76)=W3 at*;obtain⟨cY,db,dj⟩:=bF bN;go_wp2_with(first
  |(go_at_call_of 119 (JQ aH n n);refine(lQ aH n _ _ bm.o).mono ?_;rintro e bS ⟨rfl,aT⟩;(try rw[show aL (LR bf (iR (pD rd (LW f.E ps) (LR rd (LW f.E ps)))))=true from h3]);have bb:JP (Below (H (L W3)) W3 bS):=JW ba.o (xF _) aT;skip)
  |(go_at_call_of 113 (JQ gf n n);refine(iK gf r n _ _ _ (bp.o.X (xR _ _)) (bq.o.X (xR _ _))).mono ?_;rintro e bR ⟨aH,rfl,aY,aS⟩;have ba:JP (Below (H (L W3)) W3 bR):=aS;have bm:=JO aY))
 all_goals
  go_wp2;go_ret;exact⟨Z,JW cp.o (xF _) bb.o⟩
theorem Qa(a:FA)(f:Ey)(p:Nat)(rd:List Nat)(g:Nat)(s:List Nat)(m:Nat)(W:List Nat)(w:World)(K:Ef w a f)(T:Ed w p a.n rd)(J:Ed w g a.n s)(S:Ed w m a.n W)(h1:aL s=true):
  Calls prog 93 #[N (gV a p),N #[JQ g a.n a.n],N #[JQ m a.n a.n]] w fun e w'=>e=U (z (O))/\Below (H (L w)) w w':=by
 obtain⟨x,c,j,_⟩:=K.form;obtain⟨n,ev,t,u,v,y,A,B,E,F,G⟩:=a;simp only at j T J S;subst j;simp only[LY,gV];obtain⟨k0,k1,k2,aa,b⟩:=lP w #[C x n c,JQ t n n,JQ u n n,JQ v n n,JQ y n n,JQ A n n,JQ B n n,JQ E n n,JQ F n n,JQ G n n,JQ p n n] #[JQ g n n] #[JQ m n n] 109 76 76;have HF:=JO (K.X b);have Rr:=JO (T.X b);have V:=JO (J.X b);have Rk:=JO (S.X b);have q:=JO b;go_enter func93,ntmps93;go_upto_region 1 with fail
 generalize hE:((w.alloc (Y #[C x n c,JQ t n n,JQ u n n,JQ v n n,JQ y n n,JQ A n n,JQ B n n,JQ E n n,JQ F n n,JQ G n n,JQ p n n] 109)).alloc (Y #[JQ g n n] 76)).alloc (Y #[JQ m n n] 76)=r at*;have l:=aB k1 0 _ Z;go_wp2_with(first
  |(go_at_call_of 119 (JQ g n n);refine(lQ g n _ _ (V.o.X (xR _ _))).mono ?_;rintro e k ⟨rfl,d⟩;(try rw[h1]);have i:JP (Below (H (L r)) r k):=d;skip))
 all_goals
  go_wp2;go_ret;exact⟨Z,JW q.o (xF _) i.o⟩
theorem Qb(a:FA)(f:Ey)(S:Nat)(rd:List Nat)(l:Nat)(V:List Nat)(s:Nat)(fb:List Nat)(w:World)(hf:Ef w a f)(hr:Ed w S a.n rd)(hc:Ed w l a.n V)(hk:Ed w s a.n fb)(h1:aL V=O)(h2:aL (LR fb V)=true):
  Calls prog 93 #[N (gV a S),N #[JQ l a.n a.n],N #[JQ s a.n a.n]] w fun e w'=>e=U (z (O))/\Below (H (L w)) w w':=by
 obtain⟨x,c,y,_⟩:=hf.form;obtain⟨n,ev,g1,g2,g3,g4,g5,g6,g7,g8,g9⟩:=a;simp only at y hr hc hk;subst y;simp only[LY,gV];obtain⟨k0,k1,k2,aa,d⟩:=lP w #[C x n c,JQ g1 n n,JQ g2 n n,JQ g3 n n,JQ g4 n n,JQ g5 n n,JQ g6 n n,JQ g7 n n,JQ g8 n n,JQ g9 n n,JQ S n n] #[JQ l n n] #[JQ s n n] 109 76 76;have HF:=JO (hf.X d);have Rr:=JO (hr.X d);have W:=JO (hc.X d);have Rk:=JO (hk.X d);have T:=JO d;go_enter func93,ntmps93;go_upto_region 1 with fail
 generalize hE:((w.alloc (Y #[C x n c,JQ g1 n n,JQ g2 n n,JQ g3 n n,JQ g4 n n,JQ g5 n n,JQ g6 n n,JQ g7 n n,JQ g8 n n,JQ g9 n n,JQ S n n] 109)).alloc (Y #[JQ l n n] 76)).alloc (Y #[JQ s n n] 76)=j at*;have g:=aB k1 0 _ Z;have A:H (L w)+1<H (L j):=by omega
 have i:=aB k2 0 _ Z;have B:H (L w)+2<H (L j):=by omega
 go_wp2_with(first
  |(go_at_call_of 119 (JQ k n n);refine(lQ k n _ _ v.o).mono ?_;rintro e G ⟨rfl,q⟩;(try rw[h2]);have u:JP (Below (H (L j)) j G):=JW t.o (xF _) q;skip)
  |(go_at_call_of 113 (JQ s n n);refine(iK s l n _ _ _ (Rk.o.X b.o) (W.o.X b.o)).mono ?_;rintro e F ⟨k,rfl,r,p⟩;have t:JP (Below (H (L j)) j F):=JW b.o (xF _) p;have v:=JO r)
  |(go_at_call_of 119 (JQ l n n);refine(lQ l n _ _ (W.o.X (xR _ _))).mono ?_;rintro e E ⟨rfl,m⟩;(try rw[h1]);have b:JP (Below (H (L j)) j E):=m;have J:=JS b.o A g;have K:=JS b.o B i;skip))
 all_goals
  go_wp2;go_ret;exact⟨Z,JW T.o (xF _) u.o⟩
theorem Qc(a:FA)(f:Ey)(F:Nat)(rd:List Nat)(m:Nat)(cs:List Nat)(E:Nat)(fb:List Nat)(w:World)(hf:Ef w a f)(hr:Ed w F a.n rd)(hc:Ed w m a.n cs)(hk:Ed w E a.n fb)(h1:aL cs=O)(h2:aL (LR fb cs)=O):
  Calls prog 93 #[N (gV a F),N #[JQ m a.n a.n],N #[JQ E a.n a.n]] w fun e w'=>e=U (z (!Q.cU (fY rd cs)))/\Below (H (L w)) w w':=by
 obtain⟨x,c,V,_⟩:=hf.form;obtain⟨n,ev,g1,g2,g3,g4,g5,g6,g7,g8,g9⟩:=a;simp only at V hr hc hk;subst V;simp only[LY,gV];obtain⟨k0,k1,k2,al,k⟩:=lP w #[C x n c,JQ g1 n n,JQ g2 n n,JQ g3 n n,JQ g4 n n,JQ g5 n n,JQ g6 n n,JQ g7 n n,JQ g8 n n,JQ g9 n n,JQ F n n] #[JQ m n n] #[JQ E n n] 109 76 76;have HF:=JO (hf.X k);have Rr:=JO (hr.X k);have Rc:=JO (hc.X k);have Rk:=JO (hk.X k);have ak:=JO k;go_enter func93,ntmps93;go_upto_region 1 with fail
 generalize hE:((w.alloc (Y #[C x n c,JQ g1 n n,JQ g2 n n,JQ g3 n n,JQ g4 n n,JQ g5 n n,JQ g6 n n,JQ g7 n n,JQ g8 n n,JQ g9 n n,JQ F n n] 109)).alloc (Y #[JQ m n n] 76)).alloc (Y #[JQ E n n] 76)=i at*;have j:=aB k0 10 _ Z;have W:H (L w)<H (L i):=by omega
 have g:=aB k1 0 _ Z;have p:H (L w)+1<H (L i):=by omega
 have l:=aB k2 0 _ Z;have aa:H (L w)+2<H (L i):=by omega
 go_wp2_with(first
  |(go_at_call_of 145 (JQ r n n);refine(Mj r n _ _ T.o).mono ?_;rintro e af ⟨rfl,y⟩;have K:JP (Below (H (L i)) i af):=JW J.o (xF _) y;skip)
  |(go_at_call_of 114 (JQ F n n);refine(rD F m n _ _ _ (Rr.o.X d.o) (Rc.o.X d.o)).mono ?_;rintro e ae ⟨r,rfl,B,v⟩;have J:JP (Below (H (L i)) i ae):=JW d.o (xF _) v;have T:=JO B)
  |(go_at_call_of 119 (JQ q n n);refine(lQ q n _ _ S.o).mono ?_;rintro e ad ⟨rfl,u⟩;(try rw[h2]);have d:JP (Below (H (L i)) i ad):=JW G.o (xF _) u;have ai:=JS d.o W j;have aj:=JS d.o p g;skip)
  |(go_at_call_of 113 (JQ E n n);refine(iK E m n _ _ _ (Rk.o.X b.o) (Rc.o.X b.o)).mono ?_;rintro e ac ⟨q,rfl,A,t⟩;have G:JP (Below (H (L i)) i ac):=JW b.o (xF _) t;have S:=JO A)
  |(go_at_call_of 119 (JQ m n n);refine(lQ m n _ _ (Rc.o.X (xR _ _))).mono ?_;rintro e ab ⟨rfl,s⟩;(try rw[h1]);have b:JP (Below (H (L i)) i ab):=s;have ag:=JS b.o p g;have ah:=JS b.o aa l;skip))
 all_goals
  go_wp2;go_ret;exact⟨Z,JW ak.o (xF _) K.o⟩
theorem DQ(a:FA)(f:Ey)(j:Nat)(d:List Nat)(i:Nat)(c:List Nat)(w:World)(m:Ef w a f)(p:Ed w j a.n d)(l:Ed w i a.n c)(k:Value)(b:List Int)(o:ME w k b)(g:D b=a.n):
  Calls prog 72 #[N (kZ a j i),k] w fun e q=>e=U (z (f.cT d c b))/\Below (H (L w)) w q:=by
 cases h1:aL c with
 |true =>
  have e:f.cT d c b=O:=by simp[Ey.cT,h1]
  rw[e];exact Ms a f j d i c w m p l k b o g h1
 |false =>
  cases h2:f.cF (LR d (LW f.E b)) (LW f.E b)with
  |true =>
   have e:f.cT d c b=O:=by simp[Ey.cT,h1,h2]
   rw[e];exact P4 a f j d i c w m p l k b o g h1 h2
  |false =>
   cases h3:aL (LR c (Q.LN d (LW f.E b)))with
   |true =>
    have e:f.cT d c b=O:=by simp[Ey.cT,h1,h2,h3]
    rw[e];exact P5 a f j d i c w m p l k b o g h1 h2 h3
   |false =>
    have e:f.cT d c b=!f.bW c (Q.LN d (LW f.E b)):=by simp[Ey.cT,h1,h2,h3]
    rw[e];exact Mt a f j d i c w m p l k b o g h1 h2 h3
theorem Ai(a:FA)(f:Ey)(j:Nat)(d:List Nat)(g:Nat)(b:List Nat)(i:Nat)(c:List Nat)(w:World)(l:Ef w a f)(o:Ed w j a.n d)(k:Ed w g a.n b)(m:Ed w i a.n c):
  Calls prog 93 #[N (gV a j),N #[JQ g a.n a.n],N #[JQ i a.n a.n]] w fun e p=>e=U (z (PA d b c))/\Below (H (L w)) w p:=by
 cases h1:aL b with
 |true =>
  have e:PA d b c=O:=by simp[PA,h1]
  rw[e];exact Qa a f j d g b i c w l o k m h1
 |false =>
  cases h2:aL (LR c b)with
  |true =>
   have e:PA d b c=O:=by simp[PA,h1,h2]
   rw[e];exact Qb a f j d g b i c w l o k m h1 h2
  |false =>
   have e:PA d b c=!Q.cU (fY d b):=by simp[PA,h1,h2]
   rw[e];exact Qc a f j d g b i c w l o k m h1 h2
theorem Aj(a:FA)(f:Ey)(j:Nat)(d:List Nat)(g:Nat)(b:List Nat)(i:Nat)(c:List Nat)(w:World)(l:Ef w a f)(o:Ed w j a.n d)(k:Ed w g a.n b)(m:Ed w i a.n c):
  Calls prog 96 #[N (gV a j),N #[JQ g a.n a.n],N #[JQ i a.n a.n]] w fun e p=>e=U (z (f.LU d b c))/\Below (H (L w)) w p:=by
 cases h1:f.cF c b with
 |true =>
  have e:f.LU d b c=O:=by simp[Ey.LU,h1]
  rw[e];exact M6 a f j d g b i c w l o k m h1
 |false =>
  have e:f.LU d b c=!Q.bJ (cE f.y (fY (pD d b c) f.G)):=by simp[Ey.LU,h1]
  rw[e];exact M7 a f j d g b i c w l o k m h1
namespace Q
theorem oQ{α:Type}(F:MA->α->MA)(b:∀a x,D a.y<=(F a x).y.length):∀(l:List α) (a:MA),D a.y<=(l.foldl F a).y.length
 |[],a=>xF _
 |x::l,a=>by rw[x1];exact Nat.le_trans (b a x) (oQ F b l _)
theorem Ak(e:Wd)(f:Ey)(d b:List Nat)(a:MA)(c:List Int):D a.y<=(jJ e f d b a c).y.length:=by
 unfold jJ;split
 ·exact ZY _ _
 ·exact xF _
end Q
theorem CD{b i:World}{g f c:Nat}{d a:List Int}(n:LE b g d)(l:LE b f a)(m:LE b c (eN (D a)))(p:g≠c)(q:f≠c)(o:D a=D d)(k:i.heap[H (L b)]?=M (Y #[JQ g (D d) (D d),JQ f (D a) (D a),JQ c (D a) (D a),z O] 132 (0,0)))(j:Below (H (L b)) b i):NA i (H (L b)) g f c d a (eN (D a)) (LX a):=by
 obtain⟨r,s,t,u,v,x⟩:=uD k;have y:=n.lt;have A:=l.lt;have B:=m.lt;have e:(eN (D a)).length=D a:=by simp[eN]
 exact⟨r,n.X j,⟨O,⟨s,by rw[e];exact t,u,v,x,l.X j,m.X j,by omega,by omega,q,e⟩,Or.inl ⟨Z,Z,Z⟩⟩,o,p,by omega⟩
def sW(w W1:World)(g go gr gb gd:Nat)(ov0:Value)(fp0:List Nat)(wd:Wd)(f:Ey)(rd bf:List Nat)(fin:MA)(wr:World)(n:Nat):Prop :=
 ∃ds rest a ov vs fp,Eu w W1 wr g go gr gb gd ov0 fp0 (aE wd.E) (KY wd.E (aE wd.E)) ds rest a ov vs fp/\rest.foldl (jJ wd f rd bf) a=fin/\D rest=n
theorem Qd(g:Nat)(an:MA)(ov:Value)(vs:List Value)(fp:List Nat)(ev rg:Value)(a:Wd)(fa:FA)(f:Ey)(gq:Nat)(p:List Nat)(gf:Nat)(m:List Nat)(w:World)(hA:Ej w g an ov vs fp)(hw:NO w ev rg a)(aS:WdOk a)(hf:Ef w fa f)(bi:f.E=a.E)(hr:Ed w gq fa.n p)(hb:Ed w gf fa.n m)(be:∀k,rg.ownBlock=M k->¬Wr g ov k)(ay:(sM a f p m an).y.length<100000000):
  Calls prog 37 #[.pointer (M ⟨g,0,I⟩),N #[ev,rg],N (kZ fa gq gf)] w fun e w'=>e=U (.tuple #[])/\∃ov' vs' fp',Ej w' g (sM a f p m an) ov' vs' fp'/\El (Wr g ov) w w' ov ov' fp fp':=by
 obtain⟨ea,ec,rfl,_⟩:=hw.K.form;obtain⟨ra,rc,rfl,_⟩:=hw.g.form;obtain⟨x,c,bh,_⟩:=hf.form;have aQ:fa.n=D a.E:=by rw[<- hf.len,bi]
 obtain⟨n,ev,g1,g2,g3,g4,g5,g6,g7,g8,g9⟩:=fa;simp only at bh hr hb aQ;subst bh;simp only[kZ];obtain⟨k0,k1,bS,aP⟩:=hJ w #[C ea (D a.E) ec,C ra (D a.g) rc] #[C x n c,JQ g1 n n,JQ g2 n n,JQ g3 n n,JQ g4 n n,JQ g5 n n,JQ g6 n n,JQ g7 n n,JQ g8 n n,JQ g9 n n,JQ gq n n,JQ gf n n] 73 92;have l:=JO hA;have aY:=JO hw;have ar:=JO hf;have aH:=JO hr;have ap:=JO hb;have bu:=JO (hw.X aP);have bp:=JO aP;have aU:=JO be;have ac:=JO aS;have bs:=JO aQ;have aW:=JO ay;have v:=aS.le;have lg:=hA.o.lt;have bt:=JO hA.o.dE;have aX:=JO hA.o.fpl;have aJ:=JO (ZZ a.E);have aV:=JO (JL a.E (aE a.E));have aq:=JO (EN a.E (aE a.E) (by rw[aJ.o];exact v));have J:(aE a.E).length<=64:=by rw[aJ.o];exact v
 have br:JP ((LX (KY a.E (aE a.E))).foldl (jJ a f p m) an=sM a f p m an):=Z;generalize sM a f p m an=B at*;clear aP hf hr hb hA hw be aS bi aQ ay;go_enter func37,ntmps37;go_upto_region 1 with fail
 generalize hE:(w.alloc (Y #[C ea (D a.E) ec,C ra (D a.g) rc] 73)).alloc (Y #[C x n c,JQ g1 n n,JQ g2 n n,JQ g3 n n,JQ g4 n n,JQ g5 n n,JQ g6 n n,JQ g7 n n,JQ g8 n n,JQ g9 n n,JQ gq n n,JQ gf n n] 92)=W0 at*;have l0:H (L w)<H (L W0):=by omega
 have l1:H (L w)+1<H (L W0):=by omega
 have K0:=JO k0;have K1:=JO k1;have bx:=aB k0 0 _ Z;have bz:=aB k0 1 _ Z;clear hE bS k0 k1;go_upto_region 2 with(first
  |(go_at_call 69;refine(ZX _ _ a.E _ bu.o.K ⟨_,_,_,Z⟩ v).mono ?_;rintro e w1 ⟨T,S,F,rfl,bm,bk,bl,bI,bG,bH,bM,bN,bg⟩;have B1:=JO bg;have IR:=JO bm;have IB:=JO bk;have ID:=JO bl;clear bm bk bl bg))
 have S0:JP ((w1.alloc (Y #[JQ T (aE a.E).length (aE a.E).length,JQ S (KY a.E (aE a.E)).length (KY a.E (aE a.E)).length,JQ F (KY a.E (aE a.E)).length (KY a.E (aE a.E)).length,z O] 132)).heap[H (L w1)]?=M (Y #[JQ T (aE a.E).length (aE a.E).length,JQ S (KY a.E (aE a.E)).length (KY a.E (aE a.E)).length,JQ F (KY a.E (aE a.E)).length (KY a.E (aE a.E)).length,z O] 132 (0,0))):=heap_alloc_new w1 _;have BL:JP (Below (H (L w1)) w1 (w1.alloc (Y #[JQ T (aE a.E).length (aE a.E).length,JQ S (KY a.E (aE a.E)).length (KY a.E (aE a.E)).length,JQ F (KY a.E (aE a.E)).length (KY a.E (aE a.E)).length,z O] 132))):=(xR _ _).alloc (xF _) _;generalize w1.alloc (Y #[JQ T (aE a.E).length (aE a.E).length,JQ S (KY a.E (aE a.E)).length (KY a.E (aE a.E)).length,JQ F (KY a.E (aE a.E)).length (KY a.E (aE a.E)).length,z O] 132)=W1 at*;have bR:H (L w1)<H (L W1):=(Array.getElem?_eq_some_iff.1 S0.o).1;have bJ:=IR.o.lt;have bK:=IB.o.lt;have bL:=ID.o.lt;have d:JP (Below (H (L w)) w W1):=JW (JW bp.o (xF _) B1.o) (xF _) BL.o;have bv:JP (sW w W1 g (H (L w1)) T S F ov fp a f p m B W1 (LX (KY a.E (aE a.E))).length):=⟨_,_,an,ov,vs,fp,⟨⟨lg,bt.o,aX.o,⟨by omega,by omega⟩,⟨by omega,by omega⟩,⟨by omega,by omega⟩,⟨by omega,by omega⟩⟩,El.refl _ _ _ _,CD IR.o IB.o ID.o bM bN aV.o S0.o BL.o,l.o.X d.o⟩,br.o,Z⟩;have aZ:=JO ((BL.o.block _ (by omega)).trans ((B1.o.block _ l0).trans K0.o));have ba:=JO ((BL.o.block _ (by omega)).trans ((B1.o.block _ l1).trans K1.o));clear K0 K1;have K0:=aZ;have K1:=ba;have bo:H (L w)<H (L W1):=by omega
 have aw:H (L w)+1<H (L W1):=by omega
 have bY:H (L w)+2<=H (L w1):=by omega
 have bV:H (L w)+2<=F:=by omega
 have az:D a.g<1000:=by have:=ac.o.g;omega
 clear aZ ba BL B1 S0 IR IB ID bx bz bJ bK bL bI bG bH;generalize(H (L w1))=go at*;clear bR;obtain⟨μ,hμ⟩:=sD (sW w W1 g go T S F ov fp a f p m B);have au:=JO hμ;go_loopw[] (fun wr=>∃n,JP (sW w W1 g go T S F ov fp a f p m B wr n)) fun wr=>μ wr
 case atStart=>exact⟨_,bv⟩
 case round =>
  obtain⟨hI,bW⟩:=au.o wr (by obtain⟨n,h⟩:=hrel;exact⟨n,h.o⟩);obtain⟨bA,ao,W,aa,ax,av,bC,bd,bn⟩:=hI;have ST:=JO bC;have FD:=JO bd;have HL:=JO bn;have al:D W.y<100000000:=by
   have:=oQ _ (Ak a f p m) ao W;rw[bd]at this;have:=aW.o;omega
  go_upto_region 3 with(first|(go_at_call 70;refine(DE go T S F _ _ bA ao _ ST.o.ord (by rw[aV.o];omega) aq.o).mono ?_;rintro e w2 ⟨h1,hT⟩;have HT:=JO hT;rcases h1 with⟨hr,rfl⟩|⟨r,q,hr,rfl,bO,bF⟩))
  ·go_wp2;go_end0;obtain⟨bP,bQ⟩:=ST.o.oZ HT.o d.o;have t:=FD.o;rw[hr]at t;simp only[List.foldl_nil]at t;rw[<- t];exact⟨Z,aa,ax,av,bP,bQ⟩
  ·have V:=JO (ST.o.mS HT.o bO);have aC:=JO bF;have aA:JP (q.foldl (jJ a f p m) (jJ a f p m W r)=B):=by
    have t:=FD.o;rw[hr,x1]at t;exact t
   have aD:JP (D q+1=μ wr):=by
    have t:=HL.o;rw[hr,List.length_cons]at t;exact t
   have aG:JP ((LK (aE a.E) r).length=D a.E):=by unfold JP;rw[lL,aJ.o]
   have aF:JP ((LK (aE a.E) r).length=n):=by unfold JP;rw[aG.o,bs.o]
   cases zm:f.cT p m (LK (aE a.E) r)
   ·have ad:JP (jJ a f p m W r=W):=by unfold JP jJ;rw[zm];rfl
    go_wp2_with(first
     |(go_at_call 72;refine(DQ (FA.mk n (C x n c) g1 g2 g3 g4 g5 g6 g7 g8 g9) f gq p gf m _ ab.o af.o ae.o _ (LK (aE a.E) r) A.o aF.o).mono ?_;rintro e w4 ⟨rfl,G⟩;rw[zm];have j:=JO (i.o.X G))
     |(go_at_call 71;refine(uM go T S F _ _ r q _ V.o.ord aC.o aq.o J).mono ?_;rintro e w3 ⟨gp,rfl,ai,bj,ag⟩;have i:=JO (V.o.X ag);have A:JP (ME w3 (JQ gp (aE a.E).length (aE a.E).length) (LK (aE a.E) r)):=(by have h9:=ai.gN (aE a.E).length (by rw[lL];exact xF _);rw[lL]at h9;exact h9);have ab:=JO (ar.o.wr l.o (i.o.done d.o).xf.block);have af:=JO (aH.o.wr l.o (i.o.done d.o).xf.block);have ae:=JO (ap.o.wr l.o (i.o.done d.o).xf.block);have b:w3.heap[H (L w)+1]?=M (Y #[C x n c,JQ g1 n n,JQ g2 n n,JQ g3 n n,JQ g4 n n,JQ g5 n n,JQ g6 n n,JQ g7 n n,JQ g8 n n,JQ g9 n n,JQ gq n n,JQ gf n n] 92 (0,0)):=i.o.box _ (by omega) aw (by omega) (by omega)|>.trans K1.o;have d0:=aB b 0 _ Z;have d1:=aB b 1 _ Z;have d2:=aB b 2 _ Z;have d3:=aB b 3 _ Z;have d4:=aB b 4 _ Z;have d5:=aB b 5 _ Z;have d6:=aB b 6 _ Z;have d7:=aB b 7 _ Z;have d8:=aB b 8 _ Z;have d9:=aB b 9 _ Z;have bb:=aB b 10 _ Z;have bc:=aB b 11 _ Z))
    have hR:sW w W1 g go T S F ov fp a f p m B w4 (D q):=⟨r,q,W,aa,ax,av,j.o,by have t:=aA.o;rw[ad.o]at t;exact t,Z⟩;go_roundw
    case rel=>exact⟨_,hR⟩
    case measure =>
     have h1:=(au.o _ ⟨_,hR⟩).2 _ hR;have h2:=aD.o;omega
   ·cases zc:W.clash
    ·have ad:JP (jJ a f p m W r=⟨dZ W.y (OH a (LK (aE a.E) r)),f.bE m⟩):=by unfold JP jJ;rw[zm,zc];rfl
     go_wp2_with(first
      |(go_at_call 75;refine(XN (FA.mk n (C x n c) g1 g2 g3 g4 g5 g6 g7 g8 g9) f gf m _ bq.o bw.o).mono ?_;rintro e w7 ⟨rfl,bD⟩;have aM:=JO (u.o.X bD);have p7:=aM.o.ans.clash;simp only[zc]at p7;have bX:=aM.o.ans.pC)
      |(go_at_call 74;refine(yW 0 g _ aa W.y ax av (OH a (LK (aE a.E) r)) _ s.o.ans.o aL.o s.o.ans.ok.rise s.o.ans.ok.small (uR ac.o _) al (Nat.zero_le _) aI.o).mono ?_;rintro e w6 ⟨rfl,bT,bU,bB,aR,aj⟩;have u:=JO (s.o.add (uR ac.o _) aR aj);have p6:=u.o.ans.clash;simp only[zc]at p6;have bq:=JO (ar.o.wr l.o (u.o.done d.o).xf.block);have bw:=JO (ap.o.wr l.o (u.o.done d.o).xf.block);have b:w6.heap[H (L w)+1]?=M (Y #[C x n c,JQ g1 n n,JQ g2 n n,JQ g3 n n,JQ g4 n n,JQ g5 n n,JQ g6 n n,JQ g7 n n,JQ g8 n n,JQ g9 n n,JQ gq n n,JQ gf n n] 92 (0,0)):=u.o.box _ (by omega) aw (by omega) (by omega)|>.trans K1.o;have m0:=aB b 0 _ Z;have m1:=aB b 1 _ Z;have m2:=aB b 2 _ Z;have m3:=aB b 3 _ Z;have m4:=aB b 4 _ Z;have m5:=aB b 5 _ Z;have m6:=aB b 6 _ Z;have m7:=aB b 7 _ Z;have m8:=aB b 8 _ Z;have m9:=aB b 9 _ Z;have bZ:=aB b 11 _ Z)
      |(go_at_call 73;refine(IM _ _ _ a (LK (aE a.E) r) _ aN.o aK.o aG.o v az).mono ?_;rintro e w5 ⟨vo,rfl,ak,ah,aO⟩;have s:=JO (j.o.X aO);have aI:JP (∀k,vo.ownBlock=M k->k≠g/\aa.ownBlock≠M k):=fun k e=>⟨fun e2=>by have:=ah k e;have:=j.o.ans.o.lt;omega,fun e2=>by have:=ah k e;have:=j.o.ans.o.dE k e2;omega⟩;have aL:=JO ak;obtain⟨va,vc,aT,_⟩:=ak.form;subst aT)
      |(go_at_call 72;refine(DQ (FA.mk n (C x n c) g1 g2 g3 g4 g5 g6 g7 g8 g9) f gq p gf m _ ab.o af.o ae.o _ (LK (aE a.E) r) A.o aF.o).mono ?_;rintro e w4 ⟨rfl,G⟩;rw[zm];have j:=JO (i.o.X G);have aK:=JO (A.o.X G);have aN:=JO (aY.o.wr l.o aU.o (j.o.done d.o).xf.block (j.o.done d.o).xf.size);have am:w4.heap[H (L w)]?=M (Y #[C ea (D a.E) ec,C ra (D a.g) rc] 73 (0,0)):=j.o.box _ (by omega) bo (by omega) (by omega)|>.trans K0.o;have u0:=aB am 0 _ Z;have u1:=aB am 1 _ Z)
      |(go_at_call 71;refine(uM go T S F _ _ r q _ V.o.ord aC.o aq.o J).mono ?_;rintro e w3 ⟨gp,rfl,ai,bj,ag⟩;have i:=JO (V.o.X ag);have A:JP (ME w3 (JQ gp (aE a.E).length (aE a.E).length) (LK (aE a.E) r)):=(by have h9:=ai.gN (aE a.E).length (by rw[lL];exact xF _);rw[lL]at h9;exact h9);have ab:=JO (ar.o.wr l.o (i.o.done d.o).xf.block);have af:=JO (aH.o.wr l.o (i.o.done d.o).xf.block);have ae:=JO (ap.o.wr l.o (i.o.done d.o).xf.block);have b:w3.heap[H (L w)+1]?=M (Y #[C x n c,JQ g1 n n,JQ g2 n n,JQ g3 n n,JQ g4 n n,JQ g5 n n,JQ g6 n n,JQ g7 n n,JQ g8 n n,JQ g9 n n,JQ gq n n,JQ gf n n] 92 (0,0)):=i.o.box _ (by omega) aw (by omega) (by omega)|>.trans K1.o;have d0:=aB b 0 _ Z;have d1:=aB b 1 _ Z;have d2:=aB b 2 _ Z;have d3:=aB b 3 _ Z;have d4:=aB b 4 _ Z;have d5:=aB b 5 _ Z;have d6:=aB b 6 _ Z;have d7:=aB b 7 _ Z;have d8:=aB b 8 _ Z;have d9:=aB b 9 _ Z;have bb:=aB b 10 _ Z;have bc:=aB b 11 _ Z))
     have hR:sW w W1 g go T S F ov fp a f p m B (w7.setCell ⟨g,1,I⟩ (z (f.bE m))) (D q):=⟨r,q,_,_,_,_,aM.o.eS (f.bE m),by have t:=aA.o;rw[ad.o]at t;exact t,Z⟩;go_roundw
     case rel=>exact⟨_,hR⟩
     case measure =>
      have h1:=(au.o _ ⟨_,hR⟩).2 _ hR;have h2:=aD.o;omega
    ·have ad:JP (jJ a f p m W r=⟨dZ W.y (OH a (LK (aE a.E) r)),true⟩):=by unfold JP jJ;rw[zm,zc];rfl
     go_wp2_with(first
      |(go_at_call 74;refine(yW 0 g _ aa W.y ax av (OH a (LK (aE a.E) r)) _ s.o.ans.o aL.o s.o.ans.ok.rise s.o.ans.ok.small (uR ac.o _) al (Nat.zero_le _) aI.o).mono ?_;rintro e w6 ⟨rfl,bT,bU,bB,aR,aj⟩;have u:=JO (s.o.add (uR ac.o _) aR aj);have p6:=u.o.ans.clash;simp only[zc]at p6)
      |(go_at_call 73;refine(IM _ _ _ a (LK (aE a.E) r) _ aN.o aK.o aG.o v az).mono ?_;rintro e w5 ⟨vo,rfl,ak,ah,aO⟩;have s:=JO (j.o.X aO);have aI:JP (∀k,vo.ownBlock=M k->k≠g/\aa.ownBlock≠M k):=fun k e=>⟨fun e2=>by have:=ah k e;have:=j.o.ans.o.lt;omega,fun e2=>by have:=ah k e;have:=j.o.ans.o.dE k e2;omega⟩;have aL:=JO ak;obtain⟨va,vc,aT,_⟩:=ak.form;subst aT)
      |(go_at_call 72;refine(DQ (FA.mk n (C x n c) g1 g2 g3 g4 g5 g6 g7 g8 g9) f gq p gf m _ ab.o af.o ae.o _ (LK (aE a.E) r) A.o aF.o).mono ?_;rintro e w4 ⟨rfl,G⟩;rw[zm];have j:=JO (i.o.X G);have aK:=JO (A.o.X G);have aN:=JO (aY.o.wr l.o aU.o (j.o.done d.o).xf.block (j.o.done d.o).xf.size);have am:w4.heap[H (L w)]?=M (Y #[C ea (D a.E) ec,C ra (D a.g) rc] 73 (0,0)):=j.o.box _ (by omega) bo (by omega) (by omega)|>.trans K0.o;have u0:=aB am 0 _ Z;have u1:=aB am 1 _ Z)
      |(go_at_call 71;refine(uM go T S F _ _ r q _ V.o.ord aC.o aq.o J).mono ?_;rintro e w3 ⟨gp,rfl,ai,bj,ag⟩;have i:=JO (V.o.X ag);have A:JP (ME w3 (JQ gp (aE a.E).length (aE a.E).length) (LK (aE a.E) r)):=(by have h9:=ai.gN (aE a.E).length (by rw[lL];exact xF _);rw[lL]at h9;exact h9);have ab:=JO (ar.o.wr l.o (i.o.done d.o).xf.block);have af:=JO (aH.o.wr l.o (i.o.done d.o).xf.block);have ae:=JO (ap.o.wr l.o (i.o.done d.o).xf.block);have b:w3.heap[H (L w)+1]?=M (Y #[C x n c,JQ g1 n n,JQ g2 n n,JQ g3 n n,JQ g4 n n,JQ g5 n n,JQ g6 n n,JQ g7 n n,JQ g8 n n,JQ g9 n n,JQ gq n n,JQ gf n n] 92 (0,0)):=i.o.box _ (by omega) aw (by omega) (by omega)|>.trans K1.o;have d0:=aB b 0 _ Z;have d1:=aB b 1 _ Z;have d2:=aB b 2 _ Z;have d3:=aB b 3 _ Z;have d4:=aB b 4 _ Z;have d5:=aB b 5 _ Z;have d6:=aB b 6 _ Z;have d7:=aB b 7 _ Z;have d8:=aB b 8 _ Z;have d9:=aB b 9 _ Z;have bb:=aB b 10 _ Z;have bc:=aB b 11 _ Z))
     have hR:sW w W1 g go T S F ov fp a f p m B w6 (D q):=⟨r,q,_,_,_,_,u.o,by have t:=aA.o;rw[ad.o]at t;rw[zc];exact t,Z⟩;go_roundw
     case rel=>exact⟨_,hR⟩
     case measure =>
      have h1:=(au.o _ ⟨_,hR⟩).2 _ hR;have h2:=aD.o;omega
end Go.Proofs.YtlikcongbhhpfaaGreatDoor
