import Derived.Test.YtlikcongbhhpfaaGreatDoorM35
set_option linter.unusedVariables false
set_option linter.unusedSimpArgs false
set_option maxHeartbeats 12800000
namespace Go.Proofs.YtlikcongbhhpfaaGreatDoor
open Go Go.RowKit Go.Proofs.Tryz P Q
set_option maxRecDepth 1000000
variable {w:World}{g k:Nat}{a:MA}{ov:Value}{vs:List Value}{fp:List Nat}
open _root_.Array renaming size->N
open Go.World renaming heap->z,cell?->H
open List renaming length->M
open Go.Value renaming slice->Y,bool->G
open Option renaming none->C,some->I
open Go.Obj renaming cells->O
open Bool renaming false->U
open Nat renaming le_refl->xF,lt_of_lt_of_le->xR
open Go.RowKit.Below renaming refl->xW
open List renaming foldl_cons->xb,length_cons->xe,getElem?_eq_getElem->xg
open Go.Value renaming ownBlock->xd
namespace Q
theorem An(o:List Int)(f:Ey)(b d:List Nat)(a:MA)(c:List Nat):M a.y<=(jV o f b d a c).y.length:=by
 unfold jV;split
 ·exact ZY _ _
 ·exact xF _
theorem Ao(e:Wd)(f:Ey)(d:List Nat)(b:List (List Nat))(a:MA)(c:List Int):M a.y<=(jO e f d b a c).y.length:=by
 unfold jO;split
 ·exact oQ _ (An _ _ _ _) _ _
 ·exact xF _
end Q
def wD(w W1:World)(g go gr gb gd:Nat)(ov0:Value)(fp0:List Nat)(wd:Wd)(f:Ey)(rd:List Nat)(cs:List (List Nat))(fin:MA)(wr:World)(n:Nat):Prop :=
 ∃ds rest a ov vs fp,Eu w W1 wr g go gr gb gd ov0 fp0 (aE wd.E) (KY wd.E (aE wd.E)) ds rest a ov vs fp/\rest.foldl (jO wd f rd cs) a=fin/\M rest=n
theorem Et.wr{W:World}{v:Value}{n:Nat}{q:List (List Nat)}{m:List Nat}(h:Et w v n q m)(l:Ej w g a ov vs fp)(p:∀k,k<N (z w)->¬Wr g ov k->W.heap[k]?=w.heap[k]?):Et W v n q m:=by
 obtain⟨c,f⟩:=l.o.ty;refine⟨aU h.ow fun k e=>p k (h.ow.lt k e).2 fun d=>?_,h.len,fun i x s u=>(h.rel i x s u).wr l p⟩
 rcases d with d|d
 ·subst d
  rcases f with f|f<;>exact eD h.ow f (by decide) e
 ·rcases l.o.y.ow.2 with⟨j,_⟩|⟨b,A,r,j,_,t,_⟩
  ·rw[j]at d;simp[xd]at d
  ·rw[j]at d;simp[xd]at d;subst d;exact eD h.ow t (by decide) e
theorem Qh{i:World}{c:Value}{f:List Nat}(h:El (Wr g ov) w i ov c fp f)(l:k<N (z w))(e:Wr g c k):Wr g ov k:=by
 rcases e with e|e
 ·exact Or.inl e
 ·rcases h.ow with d|⟨b,d,j⟩
  ·exact Or.inr (d.symm.trans e)
  ·rw[d]at e;simp at e;omega
theorem Ej.pL(h:Ej w g a ov vs fp){c:Array Value}{t:TypeId}(d:w.heap[k]?=I (O c t (0,0)))(b:31≠t):ov.ownBlock≠I k:=eD h.o.y.ow d b
theorem Qi(g:Nat)(an:MA)(ov:Value)(vs:List Value)(fp:List Nat)(ev rg:Value)(d:Wd)(fa:FA)(f:Ey)(gq:Nat)(m:List Nat)(cv:Value)(l:List (List Nat))(gs:List Nat)(w:World)(hA:Ej w g an ov vs fp)(hw:NO w ev rg d)(aN:WdOk d)(hf:Ef w fa f)(bA:f.E=d.E)(hr:Ed w gq fa.n m)(aq:Et w cv fa.n l gs)(dP:M l<100000000)(bt:∀k,rg.ownBlock=I k->¬Wr g ov k)(ar:(pV d f m l an).y.length<100000000):
  Calls prog 49 #[.pointer (I ⟨g,0,C⟩),.agg #[ev,rg],.agg (gV fa gq),cv] w fun e w'=>e=.returned (.tuple #[])/\∃ov' vs' fp',Ej w' g (pV d f m l an) ov' vs' fp'/\El (Wr g ov) w w' ov ov' fp fp':=by
 obtain⟨ea,ec,rfl,_⟩:=hw.K.form;obtain⟨ra,rc,rfl,_⟩:=hw.g.form;obtain⟨ca,cc,rfl⟩:=qV aq.ow;obtain⟨x,c,bz,_⟩:=hf.form;have aM:fa.n=M d.E:=by rw[<- hf.len,bA]
 obtain⟨n,ev,g1,g2,g3,g4,g5,g6,g7,g8,g9⟩:=fa;simp only at bz hr aq aM;subst bz;simp only[gV];obtain⟨k0,k1,ds,aL⟩:=hJ w #[Y ea (M d.E) ec,Y ra (M d.g) rc] #[Y x n c,JQ g1 n n,JQ g2 n n,JQ g3 n n,JQ g4 n n,JQ g5 n n,JQ g6 n n,JQ g7 n n,JQ g8 n n,JQ g9 n n,JQ gq n n] 73 109;have B:=JO hA;have cn:=JO hw;have ak:=JO hf;have bf:=JO hr;have aw:=JO aq;have co:=JO (hw.X aL);have bS:=JO aL;have bZ:=JO bt;have bd:=JO aN;have ch:=JO aM;have aZ:=JO ar;have V:=aN.le;have lg:=hA.o.lt;have cj:=JO hA.o.dE;have ba:=JO hA.o.fpl;have aA:=JO (ZZ d.E);have aW:=JO (JL d.E (aE d.E));have aX:=JO (EN d.E (aE d.E) (by rw[aA.o];exact V));have aQ:(aE d.E).length<=64:=by rw[aA.o];exact V
 have cf:JP ((LX (KY d.E (aE d.E))).foldl (jO d f m l) an=pV d f m l an):=Z;generalize pV d f m l an=ad at*;clear aL hf hr aq hA hw bt aN bA aM ar;go_enter func49,ntmps49;go_upto_region 1 with fail
 generalize hE:(w.alloc (O #[Y ea (M d.E) ec,Y ra (M d.g) rc] 73)).alloc (O #[Y x n c,JQ g1 n n,JQ g2 n n,JQ g3 n n,JQ g4 n n,JQ g5 n n,JQ g6 n n,JQ g7 n n,JQ g8 n n,JQ g9 n n,JQ gq n n] 109)=W0 at*;have l0:N (z w)<N (z W0):=by omega
 have l1:N (z w)+1<N (z W0):=by omega
 have K0:=JO k0;have K1:=JO k1;have cP:=aB k0 0 _ Z;have cQ:=aB k0 1 _ Z;clear hE ds k0 k1;go_upto_region 2 with(first
  |(go_at_call 69;refine(ZX _ _ d.E _ co.o.K ⟨_,_,_,Z⟩ V).mono ?_;rintro e w1 ⟨gr,gb,gd,rfl,bH,bD,bG,dc,da,db,di,dj,bu⟩;have B1:=JO bu;have IR:=JO bH;have IB:=JO bD;have ID:=JO bG;clear bH bD bG bu))
 have S0:JP ((w1.alloc (O #[JQ gr (aE d.E).length (aE d.E).length,JQ gb (KY d.E (aE d.E)).length (KY d.E (aE d.E)).length,JQ gd (KY d.E (aE d.E)).length (KY d.E (aE d.E)).length,G U] 132)).heap[N (z w1)]?=I (O #[JQ gr (aE d.E).length (aE d.E).length,JQ gb (KY d.E (aE d.E)).length (KY d.E (aE d.E)).length,JQ gd (KY d.E (aE d.E)).length (KY d.E (aE d.E)).length,G U] 132 (0,0))):=heap_alloc_new w1 _;have BL:JP (Below (N (z w1)) w1 (w1.alloc (O #[JQ gr (aE d.E).length (aE d.E).length,JQ gb (KY d.E (aE d.E)).length (KY d.E (aE d.E)).length,JQ gd (KY d.E (aE d.E)).length (KY d.E (aE d.E)).length,G U] 132))):=(xW _ _).alloc (xF _) _;generalize w1.alloc (O #[JQ gr (aE d.E).length (aE d.E).length,JQ gb (KY d.E (aE d.E)).length (KY d.E (aE d.E)).length,JQ gd (KY d.E (aE d.E)).length (KY d.E (aE d.E)).length,G U] 132)=W1 at*;have dr:N (z w1)<N (z W1):=(Array.getElem?_eq_some_iff.1 S0.o).1;have df:=IR.o.lt;have dg:=IB.o.lt;have dh:=ID.o.lt;have t:JP (Below (N (z w)) w W1):=JW (JW bS.o (xF _) B1.o) (xF _) BL.o;have cp:JP (wD w W1 g (N (z w1)) gr gb gd ov fp d f m l ad W1 (LX (KY d.E (aE d.E))).length):=⟨_,_,an,ov,vs,fp,⟨⟨lg,cj.o,ba.o,⟨by omega,by omega⟩,⟨by omega,by omega⟩,⟨by omega,by omega⟩,⟨by omega,by omega⟩⟩,El.refl _ _ _ _,CD IR.o IB.o ID.o di dj aW.o S0.o BL.o,B.o.X t.o⟩,cf.o,Z⟩;have bg:=JO ((BL.o.block _ (by omega)).trans ((B1.o.block _ l0).trans K0.o));have bi:=JO ((BL.o.block _ (by omega)).trans ((B1.o.block _ l1).trans K1.o));clear K0 K1;have K0:=bg;have K1:=bi;have bN:N (z w)<N (z W1):=by omega
 have af:N (z w)+1<N (z W1):=by omega
 have dQ:N (z w)+2<=N (z w1):=by omega
 have dH:N (z w)+2<=gd:=by omega
 have bJ:M d.g<1000:=by have:=bd.o.g;omega
 clear bg bi BL B1 S0 IR IB ID cP cQ df dg dh dc da db;generalize(N (z w1))=go at*;clear dr;obtain⟨μ,hμ⟩:=sD (wD w W1 g go gr gb gd ov fp d f m l ad);have ax:=JO hμ;clear hμ;go_loopw[] (fun wr=>∃n,JP (wD w W1 g go gr gb gd ov fp d f m l ad wr n)) fun wr=>μ wr
 case atStart=>exact⟨_,cp⟩
 case round =>
  obtain⟨hI,dI⟩:=ax.o wr (by obtain⟨n,h⟩:=hrel;exact⟨n,h.o⟩);obtain⟨cR,aR,a1,J,aS,ao,aK,cV,bI⟩:=hI;have ST:=JO aK;have FD:=JO cV;have HL:=JO bI;have dC:=xR aK.base.go1.2 aK.fr.xf.size;go_upto_region 3 with(first|(go_at_call 70;refine(DE go gr gb gd _ _ cR aR _ ST.o.ord (by rw[aW.o];omega) aX.o).mono ?_;rintro e w2 ⟨h1,hT⟩;have HT:=JO hT;rcases h1 with⟨hr,rfl⟩|⟨r,q,hr,rfl,dk,cZ⟩))
  ·go_wp2;go_end0;obtain⟨dl,dm⟩:=ST.o.oZ HT.o t.o;have p:=FD.o;rw[hr]at p;simp only[List.foldl_nil]at p;rw[<- p];exact⟨Z,J,aS,ao,dl,dm⟩
  ·have bq:=JO (ST.o.mS HT.o dk);have ce:=JO cZ;have aj:JP (q.foldl (jO d f m l) (jO d f m l a1 r)=ad):=by
    have p:=FD.o;rw[hr,xb]at p;exact p
   have aP:(jO d f m l a1 r).y.length<100000000:=by
    have:=oQ _ (Ao d f m l) q (jO d f m l a1 r);rw[aj.o]at this;have:=aZ.o;omega
   have ag:=JO aP;have bc:JP (M q+1=μ wr):=by
    have p:=HL.o;rw[hr,xe]at p;exact p
   have be:JP ((LK (aE d.E) r).length=M d.E):=by unfold JP;rw[lL,aA.o]
   have ck:JP ((LK (aE d.E) r).length=n):=by unfold JP;rw[be.o,ch.o]
   have dJ:go<N (z w2):=by rw[HT.o.size];exact dC
   go_upto_region 5 with(first
    |(go_at_call 94;refine(xZ (FA.mk n (Y x n c) g1 g2 g3 g4 g5 g6 g7 g8 g9) f _ (LK (aE d.E) r) _ bT.o bl.o ck.o).mono ?_;rintro e w4 ⟨q4,rfl,dn,bv⟩;have cM:=JO (aJ.o.X bv);have cA:=JO (bl.o.X bv);have cJ:=JO dn)
    |(go_at_call 71;refine(uM go gr gb gd _ _ r q _ bq.o.ord ce.o aX.o aQ).mono ?_;rintro e w3 ⟨gp,rfl,de,dR,cX⟩;have aJ:=JO (bq.o.X cX);have bl:JP (ME w3 (JQ gp (aE d.E).length (aE d.E).length) (LK (aE d.E) r)):=(by have h9:=de.gN (aE d.E).length (by rw[lL];exact xF _);rw[lL]at h9;exact h9);have bT:=JO (ak.o.wr B.o (aJ.o.done t.o).xf.block);have j:w3.heap[N (z w)+1]?=I (O #[Y x n c,JQ g1 n n,JQ g2 n n,JQ g3 n n,JQ g4 n n,JQ g5 n n,JQ g6 n n,JQ g7 n n,JQ g8 n n,JQ g9 n n,JQ gq n n] 109 (0,0)):=(aJ.o.box _ (by omega) af (by omega) (by omega)).trans K1.o;have d0:=aB j 0 _ Z;have d1:=aB j 1 _ Z;have d2:=aB j 2 _ Z;have d3:=aB j 3 _ Z;have d4:=aB j 4 _ Z;have d5:=aB j 5 _ Z;have d6:=aB j 6 _ Z;have d7:=aB j 7 _ Z;have d8:=aB j 8 _ Z;have d9:=aB j 9 _ Z))
   have KA:JP ((w4.alloc (O #[JQ q4 n n] 76)).heap[N (z w4)]?=I (O #[JQ q4 n n] 76 (0,0))):=heap_alloc_new w4 _;have BA:JP (Below (N (z w4)) w4 (w4.alloc (O #[JQ q4 n n] 76))):=(xW _ _).alloc (xF _) _;generalize w4.alloc (O #[JQ q4 n n] 76)=Va at*;have am:=JO (cM.o.X BA.o);have cB:=JO (cA.o.X BA.o);have bo:=JO (cJ.o.X BA.o);have bX:=JO (ak.o.wr B.o ((am.o.done t.o).xf).block);have cL:=JO (bf.o.wr B.o ((am.o.done t.o).xf).block);obtain⟨dX,dY,du⟩:=bF KA.o;have j:Va.heap[N (z w)+1]?=I (O #[Y x n c,JQ g1 n n,JQ g2 n n,JQ g3 n n,JQ g4 n n,JQ g5 n n,JQ g6 n n,JQ g7 n n,JQ g8 n n,JQ g9 n n,JQ gq n n] 109 (0,0)):=(am.o.box _ (by omega) af (by omega) (by omega)).trans K1.o;have e0:=aB j 0 _ Z;have e1:=aB j 1 _ Z;have F:=aB j 2 _ Z;have e3:=aB j 3 _ Z;have e4:=aB j 4 _ Z;have e5:=aB j 5 _ Z;have e6:=aB j 6 _ Z;have e7:=aB j 7 _ Z;have e8:=aB j 8 _ Z;have e9:=aB j 9 _ Z;have dL:=aB j 10 _ Z;generalize dN:N (z w4)=bb at*;go_upto_region 6 with(first
    |(go_at_call 95;refine(zX (FA.mk n (Y x n c) g1 g2 g3 g4 g5 g6 g7 g8 g9) f gq m q4 (LW f.E (LK (aE d.E) r)) _ bX.o cL.o bo.o).mono ?_;rintro e w5 ⟨q5,rfl,dp,bw⟩;have cN:=JO (am.o.X bw);have B5:=JO bw;have cK:=JO dp))
   have KB:JP ((w5.alloc (O #[JQ q5 n n] 76)).heap[N (z w5)]?=I (O #[JQ q5 n n] 76 (0,0))):=heap_alloc_new w5 _;have BB:JP (Below (N (z w5)) w5 (w5.alloc (O #[JQ q5 n n] 76))):=(xW _ _).alloc (xF _) _;have au:JP (Below (N (z Va)) Va (w5.alloc (O #[JQ q5 n n] 76))):=JW B5.o (xF _) BB.o;generalize w5.alloc (O #[JQ q5 n n] 76)=Vb at*;have ac:=JO (cN.o.X BB.o);have cC:=JO (cB.o.X au.o);have aI:=JO (bo.o.X au.o);have aH:=JO (cK.o.X BB.o);have aV:=JO (ak.o.wr B.o ((ac.o.done t.o).xf).block);have bp:=JO (bf.o.wr B.o ((ac.o.done t.o).xf).block);have eh:=xR af ac.o.fr.xf.size;have bj:=JO ((au.o.block bb du).trans KA.o);obtain⟨dV,dW,bK⟩:=bF bj.o;obtain⟨eb,ed,bL⟩:=bF KB.o;have j:Vb.heap[N (z w)+1]?=I (O #[Y x n c,JQ g1 n n,JQ g2 n n,JQ g3 n n,JQ g4 n n,JQ g5 n n,JQ g6 n n,JQ g7 n n,JQ g8 n n,JQ g9 n n,JQ gq n n] 109 (0,0)):=(ac.o.box _ (by omega) af (by omega) (by omega)).trans K1.o;have h0:=aB j 0 _ Z;have h1:=aB j 1 _ Z;have h2:=aB j 2 _ Z;have p:=aB j 3 _ Z;have h4:=aB j 4 _ Z;have h5:=aB j 5 _ Z;have h6:=aB j 6 _ Z;have h7:=aB j 7 _ Z;have h8:=aB j 8 _ Z;have h9:=aB j 9 _ Z;have dM:=aB j 10 _ Z;generalize dO:N (z w5)=bm at*
   cases zs:f.LU m (LW f.E (LK (aE d.E) r)) (LR m (LW f.E (LK (aE d.E) r)))
   ·have ay:JP (jO d f m l a1 r=a1):=by unfold JP jO;rw[zs];rfl
    go_wp2_with(first
     |(go_at_call 96;refine(Aj (FA.mk n (Y x n c) g1 g2 g3 g4 g5 g6 g7 g8 g9) f gq m q4 (LW f.E (LK (aE d.E) r)) q5 (LR m (LW f.E (LK (aE d.E) r))) _ aV.o bp.o aI.o aH.o).mono ?_;rintro e w6 ⟨rfl,ap⟩;rw[zs];have D:=JO (ac.o.X ap)))
    have hR:wD w W1 g go gr gb gd ov fp d f m l ad w6 (M q):=⟨r,q,a1,J,aS,ao,D.o,by have p:=aj.o;rw[ay.o]at p;exact p,Z⟩;go_roundw
    case rel=>exact⟨_,hR⟩
    case measure =>
     have h1:=(ax.o _ ⟨_,hR⟩).2 _ hR;have h2:=bc.o;omega
   ·have ay:JP (jO d f m l a1 r=l.foldl (jV (OH d (LK (aE d.E) r)) f (LW f.E (LK (aE d.E) r)) (LR m (LW f.E (LK (aE d.E) r)))) a1):=by unfold JP jO;rw[zs];rfl
    have cl:=JO (uR bd.o (LK (aE d.E) r));go_upto_region 9 with(first
     |(go_at_call 73;refine(IM _ _ _ d (LK (aE d.E) r) _ (cn.o.wr B.o bZ.o (D.o.done t.o).xf.block (D.o.done t.o).xf.size) (cC.o.X B6.o) be.o V bJ).mono ?_;rintro e w7 ⟨vo,rfl,aO,bB,bx⟩;have L:=JO (D.o.X bx);have aa:JP (∀k,vo.ownBlock=I k->k<N (z w7)/\k≠g/\J.ownBlock≠I k):=fun k e=>⟨xJ aO k e,fun F=>by have:=bB k e;have:=D.o.ans.o.lt;omega,fun F=>by have:=bB k e;have:=D.o.ans.o.dE k F;omega⟩;have cF:=JO aO;obtain⟨va,vc,dt,_⟩:=aO.form;have B7:=JO bx)
     |(go_at_call 96;refine(Aj (FA.mk n (Y x n c) g1 g2 g3 g4 g5 g6 g7 g8 g9) f gq m q4 (LW f.E (LK (aE d.E) r)) q5 (LR m (LW f.E (LK (aE d.E) r))) _ aV.o bp.o aI.o aH.o).mono ?_;rintro e w6 ⟨rfl,ap⟩;rw[zs];have B6:=JO ap;have D:=JO (ac.o.X ap);have eg:=xR bN D.o.fr.xf.size;have bM:w6.heap[N (z w)]?=I (O #[Y ea (M d.E) ec,Y ra (M d.g) rc] 73 (0,0)):=(D.o.box _ (by omega) bN (by omega) (by omega)).trans K0.o;have u0:=aB bM 0 _ Z;have u1:=aB bM 1 _ Z))
    subst dt;have W:=JO (JW B6.o (xF _) B7.o);have cx:=JO (aI.o.X W.o);have cD:=JO (aH.o.X W.o);have aC:=JO ((W.o.block bb bK).trans bj.o);have aD:=JO ((W.o.block bm bL).trans KB.o);have cd:JP (¬Wr g J bb):=fun e=>by
     rcases e with e|e
     ·exact L.o.ans.ne aC.o (by decide) (by decide) e.symm
     ·exact L.o.ans.pL aC.o (by decide) e
    have aY:JP (¬Wr g J bm):=fun e=>by
     rcases e with e|e
     ·exact L.o.ans.ne aD.o (by decide) (by decide) e.symm
     ·exact L.o.ans.pL aD.o (by decide) e
    have bO:bb<N (z w7):=xR bK W.o.size;have bP:bm<N (z w7):=xR bL W.o.size;rw[ay.o]at ag aj;generalize cT:l.foldl (jV (OH d (LK (aE d.E) r)) f (LW f.E (LK (aE d.E) r)) (LR m (LW f.E (LK (aE d.E) r)))) a1=A2 at*;have bY:=JO cT;generalize dU:OH d (LK (aE d.E) r)=oc at*;generalize(LR m (LW f.E (LK (aE d.E) r)))=ms at*;generalize(LW f.E (LK (aE d.E) r))=bh at*;go_loopw[39] (fun jv wr=>∃(i:Nat) (a:MA) (T:Value) (ah:List Value) (ae:List Nat),i<=M l/\jv=.int .i64 i/\JP (Eu w W1 wr g go gr gb gd ov fp (aE d.E) (KY d.E (aE d.E)) r q a T ah ae)/\JP (El (Wr g J) w7 wr J T ao ae)/\JP ((l.drop i).foldl (jV oc f bh ms) a=A2)) fun jv _=>M l-(intOf jv).toNat
    case atStart=>exact⟨0,a1,J,aS,ao,Nat.zero_le _,Z,L,El.refl _ _ _ _,by rw[List.drop_zero];exact bY.o⟩
    case round =>
     obtain⟨i,a,T,ah,ae,hi,rfl,ab,v,av⟩:=hrel;have dq:M a.y<100000000:=by
      have h1:=oQ _ (An oc f bh ms) (l.drop i) a;have h2:=ag.o;rw[av.o]at h1;omega
     by_cases hlt:i<M l
     ·have dS:(i:Int)<(M l:Int):=by omega
      obtain⟨cb,cY⟩:∃cb,ca=I ⟨cb,0,C⟩:=by
       rcases aw.o.ow.2 with⟨e1,h0⟩|⟨cb,c2,dK,e1,_⟩
       ·omega
       ·simp only[Value.slice.injEq]at e1;exact⟨cb,e1.1⟩
      subst cY;have aF:=JO (aw.o.wr B.o ((ab.o.done t.o).xf).block);have bC:i<M gs:=by rw[aw.o.len];exact hlt
      have cg:=JO (aF.o.rel i hlt gs[i] (xg bC));have ci:=aF.o.ow.cellAt i (by omega);have ef:=(aF.o.ow.lt cb Z).2;simp only[List.getElem?_map,xg bC,Option.map_some]at ci;have aU:JP ((l.drop (i+1)).foldl (jV oc f bh ms) (jV oc f bh ms a l[i])=A2):=by
       have p:=av.o;rw[List.drop_eq_getElem_cons hlt,xb]at p;exact p
      generalize gs[i]=gi at*;generalize l[i]=S at*;have cy:=JO (cx.o.wr L.o.ans v.o.xf.block);have cE:=JO (cD.o.wr L.o.ans v.o.xf.block);have cI:=JO (cF.o.ow wr (fun k e=>v.o.xf.block k (aa.o k e).1 fun F=>by
       rcases F with F|F
       ·exact(aa.o k e).2.1 F
       ·exact(aa.o k e).2.2 F) v.o.xf.size)
      have cm:JP (∀k,(Value.slice va (M oc) vc).ownBlock=I k->¬Wr g T k):=fun k e F=>by
       rcases F with F|F
       ·exact(aa.o k e).2.1 F
       ·rcases v.o.ow with e3|⟨b,e3,hb⟩
        ·exact(aa.o k e).2.2 (e3.symm.trans F)
        ·rw[e3]at F;simp at F;have:=(aa.o k e).1;omega
      have bW:=JO (ak.o.wr B.o ((ab.o.done t.o).xf).block);have cq:=JO ((v.o.xf.block bb bO cd.o).trans aC.o);have cu:=JO ((v.o.xf.block bm bP aY.o).trans aD.o);have cr:=JO ((ab.o.box _ (by omega) af (by omega) (by omega)).trans K1.o);have s:JP (Below (N (z wr)) wr (wr.alloc (O #[JQ gi n n] 76))):=(xW _ _).alloc (xF _) _;have cw:JP ((wr.alloc (O #[JQ gi n n] 76)).heap[N (z wr)]?=I (O #[JQ gi n n] 76 (0,0))):=heap_alloc_new wr _;have dA:=xR bO v.o.xf.size;have dD:=xR bP v.o.xf.size;have bQ:=xR af ab.o.fr.xf.size;go_upto_region 11 with fail
      generalize wr.alloc (O #[JQ gi n n] 76)=Vc at*;obtain⟨dy,ee,dz⟩:=bF cw.o;have dv:=(s.o.block _ dA).trans cq.o;have dx:=(s.o.block _ dD).trans cu.o;have dw:=(s.o.block _ bQ).trans cr.o;obtain⟨ei,ej,ek⟩:=bF dv;obtain⟨el,em,en⟩:=bF dx;have br:=JO (ab.o.X s.o);have aT:=JO (v.o.X s.o);have bk:=JO (cy.o.X s.o);have bn:=JO (cE.o.X s.o);have aG:=JO (cg.o.X s.o);have cH:=JO (cI.o.X s.o);have bV:=JO (bW.o.X s.o);have dB:N (z w)+1<N (z Vc):=xR bQ s.o.size;generalize dT:N (z wr)=nb at*;have ct:=JO dw
      cases za:PX S bh ms
      ·have az:JP (jV oc f bh ms a S=a):=by unfold JP jV;rw[za];rfl
       go_wp2_with(first
        |(go_at_call 97;refine(XJ gi q4 q5 n S bh ms _ aG.o bk.o bn.o).mono ?_;rintro e w8 ⟨rfl,A⟩;rw[za];have al:=JO (br.o.X A);have ai:=JO (aT.o.X A)))
       go_roundw
       case rel=>exact⟨i+1,a,T,ah,ae,by omega,by go_num,al,ai,by have p:=aU.o;rw[az.o]at p;exact p⟩
       case measure=>simp[intOf];omega
      ·have az:JP (jV oc f bh ms a S=⟨dZ a.y oc,if a.clash then true else f.bE S⟩):=by unfold JP jV;rw[za];rfl
       go_wp2_with(first
        |(go_at_call 97;refine(XJ gi q4 q5 n S bh ms _ aG.o bk.o bn.o).mono ?_;rintro e w8 ⟨rfl,A⟩;rw[za];have al:=JO (br.o.X A);have ai:=JO (aT.o.X A);have cz:=JO (aG.o.X A);have cG:=JO (cH.o.X A);have bU:=JO (bV.o.X A);have ep:=JS A dz dy;have u:=(A.block _ dB).trans ct.o;have y0:=aB u 0 _ Z;have y1:=aB u 1 _ Z;have y2:=aB u 2 _ Z;have y3:=aB u 3 _ Z;have y4:=aB u 4 _ Z;have y5:=aB u 5 _ Z;have y6:=aB u 6 _ Z;have y7:=aB u 7 _ Z;have y8:=aB u 8 _ Z;have y9:=aB u 9 _ Z;have eo:=aB u 10 _ Z)
        |(go_at_call 98;refine(Po g a T ah ae _ oc (FA.mk n (Y x n c) g1 g2 g3 g4 g5 g6 g7 g8 g9) f gq gi S _ al.o.ans cG.o cl.o cm.o bU.o cz.o dq).mono ?_;rintro e w9 ⟨rfl,dF,dG,cS,cU,bs⟩;have cO:=JO (al.o.step cU bs);have bR:=JO (ai.o.trans bs fun k hk e=>Qh ai.o hk e)))
       go_roundw
       case rel=>exact⟨i+1,_,dF,dG,cS,by omega,by go_num,cO,bR,by have p:=aU.o;rw[az.o]at p;exact p⟩
       case measure=>simp[intOf];omega
     ·have dd:i=M l:=by omega
      have cW:a=A2:=by
       have p:=av.o;rw[dd,List.drop_length]at p;exact p
      have hR:wD w W1 g go gr gb gd ov fp d f m l ad wr (M q):=⟨r,q,a,T,ah,ae,ab.o,by rw[cW];exact aj.o,Z⟩;go_wp2;go_roundw
      case rel=>exact⟨_,hR⟩
      case measure =>
       have h1:=(ax.o _ ⟨_,hR⟩).2 _ hR;have h2:=bc.o;omega
namespace Q
theorem Qj(a:MA)(c:Cand):M a.y<=(jD a c).y.length:=by
 unfold jD;split
 ·exact xF _
 ·exact oQ _ (Ao _ _ _ _) _ _
theorem Qk(b:List JV):(dM (dD (KC b) C (LX (MP (KC b))))).foldl jD ⟨[],U⟩=MI b:=by rw[<- Ac];rfl
theorem Ql(f:Ey)(b:List Nat)(w:Wd):(f.bH b w).length<=(LX (KY w.E (LC w.E))).length:=by
 unfold Ey.bH;rw[List.length_map];exact List.length_filter_le _ _
end Q
theorem Qm(B bt ae:Nat)(c:List JV)(w:World)(h:bK w B (JQ bt (M c) ae) c)(hn:M c<20)(bA:∀t∈c,(∀s∈t.S,NZ s)/\M t.S<900/\OM t.S<100000)(bC:∀r∈KC c,M r<100000000)(bD:∀rs∈KC c,∀r∈rs,M r.g=4/\∀e∈r.E,e.h<MU)(hW:∀d,MV (MP (KC c)) d->WdOk (KZ (KC c) d))(aK:(Q.MI c).y.length<100000000):
  Calls prog 28 #[.agg #[JQ bt (M c) ae]] w fun e w'=>∃ov vs,e=.returned (.tuple #[ov,G (Q.MI c).clash])/\LA w' 0 ov (Q.MI c).y vs/\Below (N (z w)) w w':=by
 obtain⟨k0,k1,bX,aI⟩:=hJ w #[JQ bt (M c) ae] #[Y C 0 0,G U] 52 107;have HT:=JO (h.keep fun k hk=>aI.block k hk);have bd:=JO bA;have be:=JO bC;have bf:=JO bD;have HW:=JO hW;have az:=JO aK;have aY:=JO aI;have bc:=JO (Qk c);generalize Q.MI c=u at*;go_enter func28,ntmps28;go_upto_region 2 with fail
 generalize hE:(w.alloc (O #[JQ bt (M c) ae] 52)).alloc (O #[Y C 0 0,G U] 107)=W0 at*;have bO:=aB k0 0 _ Z;have l1:N (z w)+1<N (z W0):=by omega
 have K1:=JO k1;go_upto_region 3 with(first
  |(go_at_call 34;refine(Ab B bt ae c _ HT.o hn bd.o).mono ?_;rintro e w1 ⟨rv,vs,aW,gb,gd,rfl,⟨xa,xn,xc,aO⟩,aM,bv,bw,bU,bV,bz,br⟩;obtain⟨ya,yc,ag⟩:=qV aM.ow;rw[aO]at ag;simp only[Value.slice.injEq]at ag;obtain⟨-,bF, -⟩:=ag;subst bF;subst aO;have bj:=JO aM;have bg:=JO bv;have bh:=JO bw;have B1:=JO br;have KB:JP ((w1.alloc (O #[Y C 0 0,Y C 0 0,Y C 0 0,Y C 0 0,Y C 0 0,Y C 0 0,Y C 0 0,Y C 0 0,Y C 0 0,Y C 0 0,Y C 0 0,Y C 0 0,Y C 0 0,Y C 0 0,Y C 0 0,Y C 0 0,G U,Y C 0 0,Y C 0 0,Y C 0 0,G U,G U] 87)).heap[N (z w1)]?=I (O #[Y C 0 0,Y C 0 0,Y C 0 0,Y C 0 0,Y C 0 0,Y C 0 0,Y C 0 0,Y C 0 0,Y C 0 0,Y C 0 0,Y C 0 0,Y C 0 0,Y C 0 0,Y C 0 0,Y C 0 0,Y C 0 0,G U,Y C 0 0,Y C 0 0,Y C 0 0,G U,G U] 87 (0,0))):=heap_alloc_new w1 _;have BA:JP (Below (N (z w1)) w1 (w1.alloc (O #[Y C 0 0,Y C 0 0,Y C 0 0,Y C 0 0,Y C 0 0,Y C 0 0,Y C 0 0,Y C 0 0,Y C 0 0,Y C 0 0,Y C 0 0,Y C 0 0,Y C 0 0,Y C 0 0,Y C 0 0,Y C 0 0,G U,Y C 0 0,Y C 0 0,Y C 0 0,G U,G U] 87))):=(xW _ _).alloc (xF _) _)
  |(refine wpList_store_mid Z 87 (.tmp 5) (.tmp 9) Z (N (z w1)) 0 (fF (Y xa (KC c).length xc) (JQ gb (KC c).length (KC c).length) (JQ gd (KC c).length (KC c).length) (G U)) Z Z (qP KB.o (by simp[fF])) (by kernel_rfl) (by simp[fF,Value.oneCell']) ?_;have SW:=JO (vG (fF (Y xa (KC c).length xc) (JQ gb (KC c).length (KC c).length) (JQ gd (KC c).length (KC c).length) (G U)).toList KB.o (by simp[fF]));generalize(w1.alloc (O #[Y C 0 0,Y C 0 0,Y C 0 0,Y C 0 0,Y C 0 0,Y C 0 0,Y C 0 0,Y C 0 0,Y C 0 0,Y C 0 0,Y C 0 0,Y C 0 0,Y C 0 0,Y C 0 0,Y C 0 0,Y C 0 0,G U,Y C 0 0,Y C 0 0,Y C 0 0,G U,G U] 87)).setCells (N (z w1)) 0 (fF (Y xa (KC c).length xc) (JQ gb (KC c).length (KC c).length) (JQ gd (KC c).length (KC c).length) (G U)).toList=W1 at*))
 obtain⟨s0,s1,s2⟩:=SW.o;have BL:=JO (s2 w1 (N (z w1)) (xF _) BA.o);have S0:=JO s0;have bW:=B1.o.size;have KG:=JO ((BL.o.block _ (by omega)).trans ((B1.o.block _ l1).trans K1.o));have aZ:JP (Below (N (z w)) w W1):=JW (JW aY.o (xF _) B1.o) (xF _) BL.o;have bi:JP (oP w (N (z w1)) (N (z w)+1) ⟨Y xa (KC c).length xc,vs,aW,gb,gd⟩ (KC c) jD u W1 (dM (dD (KC c) C (LX (MP (KC c))))).length):=⟨C,_,_,_,_,_,_,Ah (t:=107) bj.o bg.o bh.o bz (by simpa using S0.o) BL.o KG.o (Or.inr Z) (by omega) (by omega) (by omega) aZ.o,bc.o,Z⟩;generalize(⟨Y xa (KC c).length xc,vs,aW,gb,gd⟩:WA)=A at*;generalize(N (z w1))=V at*;obtain⟨μ,hμ⟩:=sD (oP w V (N (z w)+1) A (KC c) jD u);have ao:=JO hμ;simp only[Act.put];go_loopw[] (fun wr=>∃m,JP (oP w V (N (z w)+1) A (KC c) jD u wr m)) fun wr=>μ wr
 case atStart=>exact⟨_,bi⟩
 case round =>
  obtain⟨hI,bM⟩:=ao.o wr (by obtain⟨n,h⟩:=hrel;exact⟨n,h.o⟩);obtain⟨st,ds,rest,an,ov,aV,fp,hB,bq,aL⟩:=hI;have BO:=JO hB;have FD:=JO bq;have HL:=JO aL;go_upto_region 4 with(first|(go_at_call 35;refine(Aa V A _ st ds rest _ BO.o.cand (by rw[AY];exact hn) be.o bf.o HW.o).mono ?_;rintro e v ⟨b,rfl,hF,h1⟩;have ay:=JO hF;rcases h1 with⟨rfl,aj⟩|⟨rfl,s,bP,p,gr,J,aj,bx,bu⟩))
  ·obtain⟨af,aH⟩:=BO.o.frame ay.o;have ba:=JO af;have ax:=JO aH;have bs:an=u:=by
    have h3:=FD.o;rw[aj]at h3;exact h3
   subst bs;have c0:=af.o.cell;have c1:=af.clash;have bI:=af.o.lt;obtain⟨oa,oc,bB,_⟩:=af.o.y.form;subst bB;go_upto_region 8 with fail
   go_region_held3 (fun w'=>H w' ⟨N (z w)+1,1,C⟩=I (G an.clash)/\H w' ⟨N (z w)+1,0,C⟩=I (Y oa (M an.y) oc)) (first|exact⟨c1,c0⟩) (first
    |(go_at_call 38;refine(Ag (N (z w)+1) (Y oa (M an.y) oc) _ (by exact c0) (by exact bI) ⟨_,_,_,Z⟩).mono ?_;rintro e w3 ⟨rfl,rfl⟩))
   all_goals
    (try go_wp2)
    go_ret2;exact⟨_,aV,Z,ba.o.o.y.X (xW _ _).drew,ax.o.drew⟩
  ·have B2:=JO (BO.o.next ay.o J.on bx bu);obtain⟨L,bE⟩:=J.on.rs s Z;have ad:=JO bE;have l2:=J.on.box.lt;have j:=L.fc;have aP:=J.c12;have aQ:=L.c0;have aR:=L.c1;have ak:=JO J.rel;obtain⟨fx,q,al,_⟩:=L.fin.form;obtain⟨ea,ec,aJ,_⟩:=L.wdi.K.form;obtain⟨ra,rc,aN,_⟩:=L.wdi.g.form;have aw:=JO L.fin;have aE:=JO L.wdi;have F:JP ((dM (dD (KC c) (I s) p)).foldl jD (jD an (OE (s.wd,s.ds)))=u):=by
    have h3:=FD.o;rw[aj,xb]at h3;exact h3
   have aA:JP ((dM (dD (KC c) (I s) p)).length+1=μ wr):=by
    have h3:=HL.o;rw[aj,xe]at h3;exact h3
   have au:(jD an (OE (s.wd,s.ds))).y.length<100000000:=by
    have h3:=oQ _ Qj (dM (dD (KC c) (I s) p)) (jD an (OE (s.wd,s.ds)));have h4:=az.o;rw[F.o]at h3;omega
   have i:=JO au;have ah:=JO (Af s.wd.E);obtain⟨⟨ev,rg,⟨n,bQ,g1,g2,g3,g4,g5,g6,g7,g8,g9⟩,cv,aF,aT,aU⟩,f,dr,rr⟩:=s;simp only at al j aP aQ aR aJ aN ak aw aE ad ah;subst al;subst aJ;subst aN;have k0:H v ⟨V,2,C⟩=I (Y fx n q):=j 0 _ Z;have k1:H v ⟨V,3,C⟩=I (JQ g1 n n):=j 1 _ Z;have k2:H v ⟨V,4,C⟩=I (JQ g2 n n):=j 2 _ Z;have k3:H v ⟨V,5,C⟩=I (JQ g3 n n):=j 3 _ Z;have k4:H v ⟨V,6,C⟩=I (JQ g4 n n):=j 4 _ Z;have k5:H v ⟨V,7,C⟩=I (JQ g5 n n):=j 5 _ Z;have k6:H v ⟨V,8,C⟩=I (JQ g6 n n):=j 6 _ Z;have k7:H v ⟨V,9,C⟩=I (JQ g7 n n):=j 7 _ Z;have k8:H v ⟨V,10,C⟩=I (JQ g8 n n):=j 8 _ Z;have k9:H v ⟨V,11,C⟩=I (JQ g9 n n):=j 9 _ Z;have ac:JP (((KK f.E).bH (OE (f,dr)).D f).length<100000000):=Nat.lt_of_le_of_lt (Ql _ _ _) ad.o.fo;go_upto_region 5 with fail
   have KA:JP ((v.alloc (O #[Y fx n q,JQ g1 n n,JQ g2 n n,JQ g3 n n,JQ g4 n n,JQ g5 n n,JQ g6 n n,JQ g7 n n,JQ g8 n n,JQ g9 n n,JQ gr n n] 109)).heap[N (z v)]?=I (O #[Y fx n q,JQ g1 n n,JQ g2 n n,JQ g3 n n,JQ g4 n n,JQ g5 n n,JQ g6 n n,JQ g7 n n,JQ g8 n n,JQ g9 n n,JQ gr n n] 109 (0,0))):=heap_alloc_new v _;have x:JP (Below (N (z v)) v (v.alloc (O #[Y fx n q,JQ g1 n n,JQ g2 n n,JQ g3 n n,JQ g4 n n,JQ g5 n n,JQ g6 n n,JQ g7 n n,JQ g8 n n,JQ g9 n n,JQ gr n n] 109))):=(xW _ _).alloc (xF _) _;generalize v.alloc (O #[Y fx n q,JQ g1 n n,JQ g2 n n,JQ g3 n n,JQ g4 n n,JQ g5 n n,JQ g6 n n,JQ g7 n n,JQ g8 n n,JQ g9 n n,JQ gr n n] 109)=Va at*;have ab:=JO (B2.o.X x.o);have am:=JO (aw.o.X x.o);have aq:=JO (aE.o.X x.o);have ap:=JO (ak.o.X x.o);have aS:=xR l2 x.o.size;have bY:=ab.o.ans.o.lt;have bG:N (z v)<N (z Va):=(Array.getElem?_eq_some_iff.1 KA.o).1;have l:=KA.o;have m0:=JS x.o l2 k0;have m1:=JS x.o l2 k1;have m2:=JS x.o l2 k2;have m3:=JS x.o l2 k3;have m4:=JS x.o l2 k4;have m5:=JS x.o l2 k5;have m6:=JS x.o l2 k6;have m7:=JS x.o l2 k7;have m8:=JS x.o l2 k8;have m9:=JS x.o l2 k9;have bZ:=JS x.o l2 aP;have bJ:=JS x.o l2 aQ;have bL:=JS x.o l2 aR;have x0:=aB l 0 _ Z;have x1:=aB l 1 _ Z;have x2:=aB l 2 _ Z;have x3:=aB l 3 _ Z;have x4:=aB l 4 _ Z;have x5:=aB l 5 _ Z;have x6:=aB l 6 _ Z;have x7:=aB l 7 _ Z;have x8:=aB l 8 _ Z;have x9:=aB l 9 _ Z;have cc:=aB l 10 _ Z;generalize bT:N (z v)=bb at*;have aC:JP (jD an (OE (f,dr))=if((KK f.E).bH (OE (f,dr)).D f).isEmpty then an else pV f (KK f.E) (OE (f,dr)).D ((KK f.E).bH (OE (f,dr)).D f) an):=Z;simp only[]at F i;generalize bo:(KK f.E).bH (OE (f,dr)).D f=CS at*;have W:=JO bo
   cases CS with
   |nil =>
    rw[aC.o]at F i;simp only[List.isEmpty_nil,if_true]at F i;go_wp2_with(first
     |(go_at_call 48;refine(Am (FA.mk n (Y fx n q) g1 g2 g3 g4 g5 g6 g7 g8 g9) (KK f.E) gr (OE (f,dr)).D _ _ f _ am.o ap.o aq.o ah.o ad.o.le (by rw[W.o];exact ac.o)).mono ?_;rw[W.o];rintro e w4 ⟨bm,aG,rfl,T,aa⟩;have aD:=JO T;have B4:=JO aa;obtain⟨bk,bl,ar⟩:=qV T.ow;subst ar))
    have hR:oP w V (N (z w)+1) A (KC c) jD u w4 (dM (dD (KC c) (I ⟨⟨Y ea (M f.E) ec,Y ra (M f.g) rc,FA.mk n (Y fx n q) g1 g2 g3 g4 g5 g6 g7 g8 g9,cv,aF,aT,aU⟩,f,dr,rr⟩) p)).length:=⟨_,_,_,_,_,_,_,ab.o.X B4.o,F.o,Z⟩;go_roundw
    case rel=>exact⟨_,hR⟩
    case measure =>
     have h1:=(ao.o _ ⟨_,hR⟩).2 _ hR;have h2:=aA.o;omega
   |cons av CS1 =>
    rw[aC.o]at F i;simp only[List.isEmpty_cons,Bool.false_eq_true,if_false]at F i;have ai:=i;have bN:(0:Int)<((av::CS1).length:Int):=by simp
    generalize bS:av::CS1=CS at*;go_wp2_with(first
     |(go_at_call 48;refine(Am (FA.mk n (Y fx n q) g1 g2 g3 g4 g5 g6 g7 g8 g9) (KK f.E) gr (OE (f,dr)).D _ _ f _ am.o ap.o aq.o ah.o ad.o.le (by rw[W.o];exact ac.o)).mono ?_;rw[W.o];rintro e w4 ⟨bm,aG,rfl,T,aa⟩;have aD:=JO T;have B4:=JO aa;obtain⟨bk,bl,ar⟩:=qV T.ow;subst ar;have k4:=(aa.block _ bG).trans KA.o;have y0:=aB k4 0 _ Z;have y1:=aB k4 1 _ Z;have y2:=aB k4 2 _ Z;have y3:=aB k4 3 _ Z;have y4:=aB k4 4 _ Z;have y5:=aB k4 5 _ Z;have y6:=aB k4 6 _ Z;have y7:=aB k4 7 _ Z;have y8:=aB k4 8 _ Z;have y9:=aB k4 9 _ Z;have cd:=aB k4 10 _ Z;have v0:=JS aa aS bJ;have v1:=JS aa aS bL)
     |(go_at_call 49;refine(Qi (N (z w)+1) an ov aV fp _ _ f (FA.mk n (Y fx n q) g1 g2 g3 g4 g5 g6 g7 g8 g9) (KK f.E) gr (OE (f,dr)).D _ CS aG _ (ab.o.X B4.o).ans (aq.o.X B4.o) ad.o (am.o.X B4.o) ah.o (ap.o.X B4.o) aD.o ac.o (fun k e=>ab.o.nb k ⟨_,Z,Or.inl e⟩) ai.o).mono ?_;rintro e w5 ⟨rfl,ca,cb,bR,bn,bp⟩;have aX:=JO ((ab.o.X B4.o).grow bn bp)))
    have hR:oP w V (N (z w)+1) A (KC c) jD u w5 (dM (dD (KC c) (I ⟨⟨Y ea (M f.E) ec,Y ra (M f.g) rc,FA.mk n (Y fx n q) g1 g2 g3 g4 g5 g6 g7 g8 g9,cv,aF,aT,aU⟩,f,dr,rr⟩) p)).length:=⟨_,_,_,_,_,_,_,aX.o,F.o,Z⟩;go_roundw
    case rel=>exact⟨_,hR⟩
    case measure =>
     have h1:=(ao.o _ ⟨_,hR⟩).2 _ hR;have h2:=aA.o;omega
end Go.Proofs.YtlikcongbhhpfaaGreatDoor
