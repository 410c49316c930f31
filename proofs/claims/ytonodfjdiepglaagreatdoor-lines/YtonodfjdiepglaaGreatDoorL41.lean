import Derived.Test.YtonodfjdiepglaaGreatDoorL40
set_option linter.unusedVariables false
set_option linter.unusedSimpArgs false
set_option maxHeartbeats 12800000
namespace Go.Proofs.YtonodfjdiepglaaGreatDoor
open Go Go.RowKit Go.Proofs.Tryz P Q R
set_option maxRecDepth 1000000
variable {w:World} {g k:Nat} {a:Ans} {ov:Value} {vs:List Value} {fp:List Nat}
open Nat renaming lt_of_lt_of_le→xF,le_refl→xR
open Go.RowKit.Below renaming refl→xW
open Go.Value renaming ownBlock→x1
open List renaming foldl_cons→x2,getElem?_eq_getElem→x3
namespace Q
theorem kDE (o:List Int) (f:EE) (b d:List Nat) (a:Ans) (c:List Nat):a.rows.length<=(jL o f b d a c).rows.length:=by
 unfold jL;split
 ·exact kLt _ _
 ·exact xR _
theorem DS (d:Wd) (f:EE) (c:List Nat) (cs:List (List Nat)) (a:Ans) (b:List Int):a.rows.length<=(iV d f c cs a b).rows.length:=by
 unfold iV;split
 ·exact pM _ (kDE _ _ _ _) _ _
 ·exact xR _
end Q
def uY (w W1:World) (g go gr gb gd:Nat) (ov0:Value) (fp0:List Nat) (wd:Wd) (f:EE) (rd:List Nat) (cs:List (List Nat)) (fin:Ans) (wr:World) (n:Nat):Prop :=
 ∃ ds rest a ov vs fp,Ez w W1 wr g go gr gb gd ov0 fp0 (aM wd.Ea) (zMh wd.Ea (aM wd.Ea)) ds rest a ov vs fp/\rest.foldl (iV wd f rd cs) a=fin/\rest.length=n
theorem Ey.wr {W:World} {v:Value} {n:Nat} {p:List (List Nat)} {m:List Nat} (h:Ey w v n p m) (l:En w g a ov vs fp) (o:∀ k,k<w.heap.size->¬ Wr g ov k->W.heap[k]?=w.heap[k]?):Ey W v n p m:=by
 obtain⟨c,f⟩:=l.out.ty;refine⟨aX h.own (fun k e=>o k (h.own.lt k e).2 (fun d=>?_)),h.len,fun i u r t=>(h.rel i u r t).wr l o⟩
 rcases d with d | d
 ·subst d
  rcases f with f | f<;>exact eD h.own f (by decide) e
 ·rcases l.out.rows.own.2 with ⟨j,_⟩ | ⟨b,x,q,j,_,s,_⟩
  ·rw[j] at d;simp[x1] at d
  ·rw[j] at d;simp[x1] at d;subst d;exact eD h.own s (by decide) e
theorem zLH {i:World} {c:Value} {f:List Nat} (h:Ep (Wr g ov) w i ov c fp f) (l:k<w.heap.size) (e:Wr g c k):Wr g ov k:=by
 rcases e with e | e
 ·exact Or.inl e
 ·rcases h.own with d | ⟨b,d,j⟩
  ·exact Or.inr (d.symm.trans e)
  ·rw[d] at e;simp at e;omega
theorem En.oZ (h:En w g a ov vs fp) {c:Array Value} {t:TypeId} (d:w.heap[k]?=some (.cells c t (0,0))) (b:68≠t):ov.ownBlock≠some k:=eD h.out.rows.own d b
theorem zFx (g:Nat) (an:Ans) (ov:Value) (vs:List Value) (fp:List Nat) (ev rg:Value) (d:Wd) (fa:FA) (f:EE) (Z:Nat) (o:List Nat) (cv:Value) (cs:List (List Nat)) (gs:List Nat) (w:World) (hA:En w g an ov vs fp) (hw:WdIn w ev rg d) (be:WdOk d) (hf:Ej w fa f) (aZ:f.Ea=d.Ea) (hr:Eh w Z fa.n o) (ar:Ey w cv fa.n cs gs) (ee:cs.length<100000000) (cj:∀ k,rg.ownBlock=some k->¬ Wr g ov k) (az:(pH d f o cs an).rows.length<100000000) :
  Calls prog 24 #[.pointer (some ⟨g,0,none⟩),.agg #[ev,rg],.agg (gL fa Z),cv] w fun e w'=>e=.returned (.tuple #[])/\∃ ov' vs' fp',En w' g (pH d f o cs an) ov' vs' fp'/\Ep (Wr g ov) w w' ov ov' fp fp':=by
 obtain⟨ea,ec,rfl,_⟩:=hw.evs.form;obtain⟨ra,rc,rfl,_⟩:=hw.regs.form;obtain⟨ca,cc,rfl⟩:=rV ar.own;obtain⟨x,c,cn,_⟩:=hf.form;have bd:fa.n=d.Ea.length:=by rw[<- hf.len,aZ]
 obtain⟨n,ev,g1,g2,g3,g4,g5,g6,g7,g8,g9⟩:=fa;simp only at cn hr ar bd;subst cn;simp only[gL];obtain⟨k0,k1,dE,aY⟩:=iM w #[.slice ea d.Ea.length ec,.slice ra d.regs.length rc] #[.slice x n c,.slice (some ⟨g1,0,none⟩) n n,.slice (some ⟨g2,0,none⟩) n n,.slice (some ⟨g3,0,none⟩) n n,.slice (some ⟨g4,0,none⟩) n n,.slice (some ⟨g5,0,none⟩) n n,.slice (some ⟨g6,0,none⟩) n n,.slice (some ⟨g7,0,none⟩) n n,.slice (some ⟨g8,0,none⟩) n n,.slice (some ⟨g9,0,none⟩) n n,.slice (some ⟨Z,0,none⟩) n n] 70 87;have y:=zAa hA;have cV:=zAa hw;have ah:=zAa hf;have bD:=zAa hr;have aE:=zAa ar;have cW:=zAa (hw.below aY);have cM:=zAa aY;have cN:=zAa cj;have bB:=zAa be;have eb:=zAa aZ;have cR:=zAa bd;have ay:=zAa az;have J:=be.le;have lg:=hA.out.lt;have cS:=zAa hA.out.eB;have bx:=zAa hA.out.fpl;have aI:=zAa (kFP d.Ea);have bu:=zAa (zOj d.Ea (aM d.Ea));have bv:=zAa (zOi d.Ea (aM d.Ea) (by rw[aI.out];exact J));have bf:(aM d.Ea).length<=64:=by rw[aI.out];exact J
 have aX:(zMh d.Ea (aM d.Ea)).length<10000:=by rw[bu.out];omega
 have cQ:Hid ((zMH (zMh d.Ea (aM d.Ea))).foldl (iV d f o cs) an=pH d f o cs an):=rfl;generalize pH d f o cs an=N at *;clear aY hf hr ar hA hw cj be aZ bd az;go_enter func24,ntmps24;go_upto_region 1 with fail
 generalize hE:(w.alloc (.cells #[.slice ea d.Ea.length ec,.slice ra d.regs.length rc] 70)).alloc (.cells #[.slice x n c,.slice (some ⟨g1,0,none⟩) n n,.slice (some ⟨g2,0,none⟩) n n,.slice (some ⟨g3,0,none⟩) n n,.slice (some ⟨g4,0,none⟩) n n,.slice (some ⟨g5,0,none⟩) n n,.slice (some ⟨g6,0,none⟩) n n,.slice (some ⟨g7,0,none⟩) n n,.slice (some ⟨g8,0,none⟩) n n,.slice (some ⟨g9,0,none⟩) n n,.slice (some ⟨Z,0,none⟩) n n] 87)=W0 at *;have l0:w.heap.size<W0.heap.size:=by omega
 have l1:w.heap.size+1<W0.heap.size:=by omega
 have K0:=zAa k0;have K1:=zAa k1;have db:=aD k0 0 _ rfl;have dc:=aD k0 1 _ rfl;clear hE dE k0 k1;go_upto_region 2 with (first
  | (go_at_call 52;refine (zEC _ _ d.Ea _ cW.out.evs ⟨_,_,_,rfl⟩ J).mono ?_;rintro e w1 ⟨V,U,S,rfl,cr,co,cp,dn,dl,dm,dt,du,ck⟩;have B1:=zAa ck;have IR:=zAa cr;have IB:=zAa co;have ID:=zAa cp;clear cr co cp ck))
 have S0:Hid ((w1.alloc (.cells #[.slice (some ⟨V,0,none⟩) (aM d.Ea).length (aM d.Ea).length,.slice (some ⟨U,0,none⟩) (zMh d.Ea (aM d.Ea)).length (zMh d.Ea (aM d.Ea)).length,.slice (some ⟨S,0,none⟩) (zMh d.Ea (aM d.Ea)).length (zMh d.Ea (aM d.Ea)).length,.bool false] 118)).heap[w1.heap.size]?=some (.cells #[.slice (some ⟨V,0,none⟩) (aM d.Ea).length (aM d.Ea).length,.slice (some ⟨U,0,none⟩) (zMh d.Ea (aM d.Ea)).length (zMh d.Ea (aM d.Ea)).length,.slice (some ⟨S,0,none⟩) (zMh d.Ea (aM d.Ea)).length (zMh d.Ea (aM d.Ea)).length,.bool false] 118 (0,0))):=heap_alloc_new w1 _;have BL:Hid (Below w1.heap.size w1 (w1.alloc (.cells #[.slice (some ⟨V,0,none⟩) (aM d.Ea).length (aM d.Ea).length,.slice (some ⟨U,0,none⟩) (zMh d.Ea (aM d.Ea)).length (zMh d.Ea (aM d.Ea)).length,.slice (some ⟨S,0,none⟩) (zMh d.Ea (aM d.Ea)).length (zMh d.Ea (aM d.Ea)).length,.bool false] 118))):=(xW _ _).alloc (xR _) _;generalize w1.alloc (.cells #[.slice (some ⟨V,0,none⟩) (aM d.Ea).length (aM d.Ea).length,.slice (some ⟨U,0,none⟩) (zMh d.Ea (aM d.Ea)).length (zMh d.Ea (aM d.Ea)).length,.slice (some ⟨S,0,none⟩) (zMh d.Ea (aM d.Ea)).length (zMh d.Ea (aM d.Ea)).length,.bool false] 118)=Y at *;have dB:=B1.out.size;have dC:=BL.out.size;have dD:w1.heap.size<Y.heap.size:=(Array.getElem?_eq_some_iff.1 S0.out).1;have dq:=IR.out.lt;have dr:=IB.out.lt;have ds:=ID.out.lt;have u:Hid (Below w.heap.size w Y):=aK (aK cM.out (xR _) B1.out) (xR _) BL.out;have bE:Hid (uY w Y g w1.heap.size V U S ov fp d f o cs N Y (zMH (zMh d.Ea (aM d.Ea))).length):=⟨_,_,an,ov,vs,fp,⟨⟨lg,cS.out,bx.out,⟨by omega,by omega⟩,⟨by omega,by omega⟩,⟨by omega,by omega⟩,⟨by omega,by omega⟩⟩,Ep.refl _ _ _ _,zHw IR.out IB.out ID.out dt du bu.out S0.out BL.out,y.out.below u.out⟩,cQ.out,rfl⟩;have bF:=zAa ((BL.out.block _ (by omega)).trans ((B1.out.block _ l0).trans K0.out));have bG:=zAa ((BL.out.block _ (by omega)).trans ((B1.out.block _ l1).trans K1.out));clear K0 K1;have K0:=bF;have K1:=bG;have aw:w.heap.size<Y.heap.size:=by omega
 have A:w.heap.size+1<Y.heap.size:=by omega
 have ef:w.heap.size+2<=w1.heap.size:=by omega
 have dX:w.heap.size+2<=S:=by omega
 have cy:d.regs.length<1000:=by have:=bB.out.regs;omega
 clear bF bG BL B1 S0 IR IB ID db dc dB dC dq dr ds dn dl dm;generalize w1.heap.size=go at *;clear dD;obtain⟨μ,hμ⟩:=xT (uY w Y g go V U S ov fp d f o cs N);have aF:=zAa hμ;clear hμ;go_loopw [] (fun wr=>∃ n,Hid (uY w Y g go V U S ov fp d f o cs N wr n)) (fun wr=>μ wr)
 case atStart=>exact⟨_,bE⟩
 case round =>
  obtain⟨hI,ct⟩:=aF.out wr (by obtain⟨n,h⟩:=hrel;exact⟨n,h.out⟩);clear hrel ct bE;obtain⟨dd,ab,T,B,bk,ap,aq,aT,aA⟩:=hI;have ST:=zAa aq;have FD:=zAa aT;have HL:=zAa aA;have dA:T.rows.length<100000000:=by
   have:=pM _ (DS d f o cs) ab T;rw[aT] at this;have:=ay.out;omega
  have dN:=xF aq.base.go1.2 aq.fr.xf.size;clear aq aT aA;go_upto_region 3 with (first | (go_at_call 47;refine (zEy go V U S _ _ dd ab _ ST.out.ord aX bv.out).mono ?_;rintro e w2 ⟨h1,hT⟩;have HT:=zAa hT;clear hT;rcases h1 with ⟨hr,rfl⟩ | ⟨r,q,hr,rfl,cu,cm⟩))
  ·go_wp2;go_end0;obtain⟨dx,dy⟩:=ST.out.tQ HT.out u.out;have p:=FD.out;rw[hr] at p;simp only[List.foldl_nil] at p;rw[<- p];exact⟨rfl,B,bk,ap,dx,dy⟩
  ·have aR:=zAa (ST.out.nQ HT.out cu);have cP:=zAa cm;have af:Hid (q.foldl (iV d f o cs) (iV d f o cs T r)=N):=by
    have p:=FD.out;rw[hr,x2] at p;exact p
   have aa:(iV d f o cs T r).rows.length<100000000:=by
    have:=pM _ (DS d f o cs) q (iV d f o cs T r);rw[af.out] at this;have:=ay.out;omega
   have W:=zAa aa;have bA:Hid (q.length+1=μ wr):=by
    have p:=HL.out;rw[hr,List.length_cons] at p;exact p
   have aG:Hid ((zMm (aM d.Ea) r).length=d.Ea.length):=by unfold Hid;rw[tA,aI.out]
   have bC:Hid ((zMm (aM d.Ea) r).length=n):=by unfold Hid;rw[aG.out,cR.out]
   have dZ:go<w2.heap.size:=by rw[HT.out.size];exact dN
   clear ST FD HL hr cu cm HT aa;go_upto_region 5 with (first
    | (go_at_call 53;refine (zIu (FA.mk n (.slice x n c) g1 g2 g3 g4 g5 g6 g7 g8 g9) f _ (zMm (aM d.Ea) r) _ bo.out aO.out bC.out).mono ?_;rintro e w4 ⟨q4,rfl,cw,aU⟩;have cd:=zAa (X.out.below aU);have bP:=zAa (aO.out.below aU);have bX:=zAa cw;clear cw aU)
    | (go_at_call 49;refine (zEZ go V U S _ _ r q _ aR.out.ord cP.out bv.out bf).mono ?_;rintro e w3 ⟨gp,rfl,cq,eg,cl⟩;have X:=zAa (aR.out.below cl);have aO:Hid (zCj w3 (.slice (some ⟨gp,0,none⟩) (aM d.Ea).length (aM d.Ea).length) (zMm (aM d.Ea) r)):=(by have h9:=cq.jK (aM d.Ea).length (by rw[tA];exact xR _);rw[tA] at h9;exact h9);have bo:=zAa (ah.out.wr y.out (X.out.done u.out).xf.block);have dO:=xF A X.out.fr.xf.size;have j:w3.heap[w.heap.size+1]?=some (.cells #[.slice x n c,.slice (some ⟨g1,0,none⟩) n n,.slice (some ⟨g2,0,none⟩) n n,.slice (some ⟨g3,0,none⟩) n n,.slice (some ⟨g4,0,none⟩) n n,.slice (some ⟨g5,0,none⟩) n n,.slice (some ⟨g6,0,none⟩) n n,.slice (some ⟨g7,0,none⟩) n n,.slice (some ⟨g8,0,none⟩) n n,.slice (some ⟨g9,0,none⟩) n n,.slice (some ⟨Z,0,none⟩) n n] 87 (0,0)):=(X.out.box _ (by omega) A (by omega) (by omega)).trans K1.out;have d0:=aD j 0 _ rfl;have d1:=aD j 1 _ rfl;have d2:=aD j 2 _ rfl;have d3:=aD j 3 _ rfl;have d4:=aD j 4 _ rfl;have d5:=aD j 5 _ rfl;have d6:=aD j 6 _ rfl;have d7:=aD j 7 _ rfl;have d8:=aD j 8 _ rfl;have d9:=aD j 9 _ rfl;clear j;clear cq cl))
   have KA:Hid ((w4.alloc (.cells #[.slice (some ⟨q4,0,none⟩) n n] 73)).heap[w4.heap.size]?=some (.cells #[.slice (some ⟨q4,0,none⟩) n n] 73 (0,0))):=heap_alloc_new w4 _;have BA:Hid (Below w4.heap.size w4 (w4.alloc (.cells #[.slice (some ⟨q4,0,none⟩) n n] 73))):=(xW _ _).alloc (xR _) _;clear bo dO d0 d1 d2 d3 d4 d5 d6 d7 d8 d9;generalize w4.alloc (.cells #[.slice (some ⟨q4,0,none⟩) n n] 73)=Va at *;have L:=zAa (cd.out.below BA.out);have bQ:=zAa (bP.out.below BA.out);have aP:=zAa (bX.out.below BA.out);have bs:=zAa (ah.out.wr y.out ((L.out.done u.out).xf).block);have bZ:=zAa (bD.out.wr y.out ((L.out.done u.out).xf).block);have dP:=xF A L.out.fr.xf.size;obtain⟨dI,dJ,cz⟩:=cE KA.out;have j:Va.heap[w.heap.size+1]?=some (.cells #[.slice x n c,.slice (some ⟨g1,0,none⟩) n n,.slice (some ⟨g2,0,none⟩) n n,.slice (some ⟨g3,0,none⟩) n n,.slice (some ⟨g4,0,none⟩) n n,.slice (some ⟨g5,0,none⟩) n n,.slice (some ⟨g6,0,none⟩) n n,.slice (some ⟨g7,0,none⟩) n n,.slice (some ⟨g8,0,none⟩) n n,.slice (some ⟨g9,0,none⟩) n n,.slice (some ⟨Z,0,none⟩) n n] 87 (0,0)):=(L.out.box _ (by omega) A (by omega) (by omega)).trans K1.out;have e0:=aD j 0 _ rfl;have e1:=aD j 1 _ rfl;have z:=aD j 2 _ rfl;have e3:=aD j 3 _ rfl;have e4:=aD j 4 _ rfl;have e5:=aD j 5 _ rfl;have e6:=aD j 6 _ rfl;have e7:=aD j 7 _ rfl;have e8:=aD j 8 _ rfl;have e9:=aD j 9 _ rfl;have de:=aD j 10 _ rfl;clear j;generalize di:w4.heap.size=bb at *;clear di cd bP bX BA aR X aO;go_upto_region 6 with (first
    | (go_at_call 54;refine (zIt (FA.mk n (.slice x n c) g1 g2 g3 g4 g5 g6 g7 g8 g9) f Z o q4 (zMT f.Ea (zMm (aM d.Ea) r)) _ bs.out bZ.out aP.out).mono ?_;rintro e w5 ⟨q5,rfl,cx,aV⟩;have ce:=zAa (L.out.below aV);have B5:=zAa aV;have bY:=zAa cx;clear cx aV))
   have KB:Hid ((w5.alloc (.cells #[.slice (some ⟨q5,0,none⟩) n n] 73)).heap[w5.heap.size]?=some (.cells #[.slice (some ⟨q5,0,none⟩) n n] 73 (0,0))):=heap_alloc_new w5 _;have BB:Hid (Below w5.heap.size w5 (w5.alloc (.cells #[.slice (some ⟨q5,0,none⟩) n n] 73))):=(xW _ _).alloc (xR _) _;have ae:Hid (Below Va.heap.size Va (w5.alloc (.cells #[.slice (some ⟨q5,0,none⟩) n n] 73))):=aK B5.out (xR _) BB.out;clear e0 e1 z e3 e4 e5 e6 e7 e8 e9 de;generalize w5.alloc (.cells #[.slice (some ⟨q5,0,none⟩) n n] 73)=Vb at *;have M:=zAa (ce.out.below BB.out);have bR:=zAa (bQ.out.below ae.out);have am:=zAa (aP.out.below ae.out);have al:=zAa (bY.out.below BB.out);have aB:=zAa (ah.out.wr y.out ((M.out.done u.out).xf).block);have aQ:=zAa (bD.out.wr y.out ((M.out.done u.out).xf).block);have dQ:=xF A M.out.fr.xf.size;have aL:=zAa ((ae.out.block bb cz).trans KA.out);obtain⟨dG,dH,bg⟩:=cE aL.out;obtain⟨dK,dL,bi⟩:=cE KB.out;have j:Vb.heap[w.heap.size+1]?=some (.cells #[.slice x n c,.slice (some ⟨g1,0,none⟩) n n,.slice (some ⟨g2,0,none⟩) n n,.slice (some ⟨g3,0,none⟩) n n,.slice (some ⟨g4,0,none⟩) n n,.slice (some ⟨g5,0,none⟩) n n,.slice (some ⟨g6,0,none⟩) n n,.slice (some ⟨g7,0,none⟩) n n,.slice (some ⟨g8,0,none⟩) n n,.slice (some ⟨g9,0,none⟩) n n,.slice (some ⟨Z,0,none⟩) n n] 87 (0,0)):=(M.out.box _ (by omega) A (by omega) (by omega)).trans K1.out;have h0:=aD j 0 _ rfl;have h1:=aD j 1 _ rfl;have h2:=aD j 2 _ rfl;have p:=aD j 3 _ rfl;have h4:=aD j 4 _ rfl;have h5:=aD j 5 _ rfl;have h6:=aD j 6 _ rfl;have h7:=aD j 7 _ rfl;have h8:=aD j 8 _ rfl;have h9:=aD j 9 _ rfl;have dg:=aD j 10 _ rfl;clear j;generalize dj:w5.heap.size=bm at *;clear dj ce bY BB ae B5 L bQ aP bs bZ dP dI dJ cz KA
   cases zs:f.mayStand o (zMT f.Ea (zMm (aM d.Ea) r)) (kAg o (zMT f.Ea (zMm (aM d.Ea) r)))
   ·have ai:Hid (iV d f o cs T r=T):=by unfold Hid iV;rw[zs];rfl
    go_wp2_with (first
     | (go_at_call 55;refine (zDO (FA.mk n (.slice x n c) g1 g2 g3 g4 g5 g6 g7 g8 g9) f Z o q4 (zMT f.Ea (zMm (aM d.Ea) r)) q5 (kAg o (zMT f.Ea (zMm (aM d.Ea) r))) _ aB.out aQ.out am.out al.out).mono ?_;rintro e w6 ⟨rfl,G⟩;rw[zs];have B6:=zAa G;have v:=zAa (M.out.below G);have cJ:=xF aw v.out.fr.xf.size;clear G;have H:w6.heap[w.heap.size]?=some (.cells #[.slice ea d.Ea.length ec,.slice ra d.regs.length rc] 70 (0,0)):=(v.out.box _ (by omega) aw (by omega) (by omega)).trans K0.out;have u0:=aD H 0 _ rfl;have u1:=aD H 1 _ rfl;clear H))
    have hR:uY w Y g go V U S ov fp d f o cs N w6 q.length:=⟨r,q,T,B,bk,ap,v.out,by have p:=af.out;rw[ai.out] at p;exact p,rfl⟩;go_roundw
    case rel=>exact⟨_,hR⟩
    case measure =>
     have h1:=(aF.out _ ⟨_,hR⟩).2 _ hR;have h2:=bA.out;omega
   ·have ai:Hid (iV d f o cs T r=cs.foldl (jL (gK d (zMm (aM d.Ea) r)) f (zMT f.Ea (zMm (aM d.Ea) r)) (kAg o (zMT f.Ea (zMm (aM d.Ea) r)))) T):=by unfold Hid iV;rw[zs];rfl
    have cT:=zAa (kFL bB.out (zMm (aM d.Ea) r));go_upto_region 9 with (first
     | (go_at_call 56;refine (zGK _ _ _ d (zMm (aM d.Ea) r) _ (cV.out.wr y.out cN.out (v.out.done u.out).xf.block (v.out.done u.out).xf.size) (bR.out.below B6.out) aG.out J cy).mono ?_;rintro e w7 ⟨vo,rfl,au,ba,aW⟩;have D:=zAa (v.out.below aW);have K:Hid (∀ k,vo.ownBlock=some k->k<w7.heap.size/\k≠g/\B.ownBlock≠some k):=(fun k e=>⟨wO au k e,fun z=>by have:=ba k e;have:=v.out.ans.out.lt;omega,fun z=>by have:=ba k e;have:=v.out.ans.out.eB k z;omega⟩);have cZ:=zAa au;obtain⟨va,vc,dF,_⟩:=au.form;have B7:=zAa aW;clear ba aW)
     | (go_at_call 55;refine (zDO (FA.mk n (.slice x n c) g1 g2 g3 g4 g5 g6 g7 g8 g9) f Z o q4 (zMT f.Ea (zMm (aM d.Ea) r)) q5 (kAg o (zMT f.Ea (zMm (aM d.Ea) r))) _ aB.out aQ.out am.out al.out).mono ?_;rintro e w6 ⟨rfl,G⟩;rw[zs];have B6:=zAa G;have v:=zAa (M.out.below G);have cJ:=xF aw v.out.fr.xf.size;clear G;have H:w6.heap[w.heap.size]?=some (.cells #[.slice ea d.Ea.length ec,.slice ra d.regs.length rc] 70 (0,0)):=(v.out.box _ (by omega) aw (by omega) (by omega)).trans K0.out;have u0:=aD H 0 _ rfl;have u1:=aD H 1 _ rfl;clear H))
    subst dF;have C:=zAa (aK B6.out (xR _) B7.out);have cX:=zAa (am.out.below C.out);have cY:=zAa (al.out.below C.out);have aJ:=zAa ((C.out.block bb bg).trans aL.out);have aN:=zAa ((C.out.block bm bi).trans KB.out);have cO:Hid (¬ Wr g B bb):=fun e=>by
     rcases e with e | e
     ·exact D.out.ans.ne aJ.out (by decide) (by decide) e.symm
     ·exact D.out.ans.oZ aJ.out (by decide) e
    have bw:Hid (¬ Wr g B bm):=fun e=>by
     rcases e with e | e
     ·exact D.out.ans.ne aN.out (by decide) (by decide) e.symm
     ·exact D.out.ans.oZ aN.out (by decide) e
    have cF:bb<w7.heap.size:=xF bg C.out.size;have cH:bm<w7.heap.size:=xF bi C.out.size;rw[ai.out] at W af;generalize cg:cs.foldl (jL (gK d (zMm (aM d.Ea) r)) f (zMT f.Ea (zMm (aM d.Ea) r)) (kAg o (zMT f.Ea (zMm (aM d.Ea) r)))) T=A2 at *;have bt:=zAa cg;generalize dw:gK d (zMm (aM d.Ea) r)=oc at *;clear cg au h0 h1 h2 p h4 h5 h6 h7 h8 h9 dg dG dH bg dK dL bi aL KB am al B6 B7 C aB aQ bR dQ u0 u1 cJ ai aG bC dw;generalize (kAg o (zMT f.Ea (zMm (aM d.Ea) r)))=ms at *;generalize (zMT f.Ea (zMm (aM d.Ea) r))=bh at *;go_loopw [39] (fun jv wr=>∃ (i:Nat) (a:Ans) (I:Value) (ac:List Value) (O:List Nat),i<=cs.length/\jv=.int .i64 i/\Hid (Ez w Y wr g go V U S ov fp (aM d.Ea) (zMh d.Ea (aM d.Ea)) r q a I ac O)/\Hid (Ep (Wr g B) w7 wr B I ap O)/\Hid ((cs.drop i).foldl (jL oc f bh ms) a=A2)) (fun jv _=>cs.length-(intOf jv).toNat)
    case atStart=>exact⟨0,T,B,bk,ap,Nat.zero_le _,rfl,D,Ep.refl _ _ _ _,by rw[List.drop_zero];exact bt.out⟩
    case round =>
     obtain⟨i,a,I,ac,O,hi,rfl,E,t,ag⟩:=hrel;have dz:a.rows.length<100000000:=by
      have h1:=pM _ (kDE oc f bh ms) (cs.drop i) a;have h2:=W.out;rw[ag.out] at h1;omega
     clear bt;by_cases hlt:i<cs.length
     ·have eh:(i:Int)<(cs.length:Int):=by omega
      obtain⟨cb,dk⟩:∃ cb,ca=some ⟨cb,0,none⟩:=by
       rcases aE.out.own.2 with ⟨e1,h0⟩ | ⟨cb,c2,ed,e1,_⟩
       ·omega
       ·simp only[Value.slice.injEq] at e1;exact⟨cb,e1.1⟩
      subst dk;have aj:=zAa (aE.out.wr y.out ((E.out.done u.out).xf).block);have bc:i<gs.length:=by rw[aE.out.len];exact hlt
      have bz:=zAa (aj.out.rel i hlt gs[i] (x3 bc));have ci:=aj.out.own.cellAt i (by omega);have dM:=(aj.out.own.lt cb rfl).2;simp only[List.getElem?_map,x3 bc,Option.map_some] at ci;have bn:Hid ((cs.drop (i+1)).foldl (jL oc f bh ms) (jL oc f bh ms a cs[i])=A2):=by
       have p:=ag.out;rw[List.drop_eq_getElem_cons hlt,x2] at p;exact p
      generalize gs[i]=gi at *;generalize cs[i]=F at *;have bN:=zAa (cX.out.wr D.out.ans t.out.xf.block);have bT:=zAa (cY.out.wr D.out.ans t.out.xf.block);have bW:=zAa (cZ.out.own wr (fun k e=>t.out.xf.block k (K.out k e).1 (fun z=>by
       rcases z with z | z
       ·exact (K.out k e).2.1 z
       ·exact (K.out k e).2.2 z)) t.out.xf.size)
      have cU:Hid (∀ k,(Value.slice va oc.length vc).ownBlock=some k->¬ Wr g I k):=fun k e z=>by
       rcases z with z | z
       ·exact (K.out k e).2.1 z
       ·rcases t.out.own with e3 | ⟨b,e3,hb⟩
        ·exact (K.out k e).2.2 (e3.symm.trans z)
        ·rw[e3] at z;simp at z;have:=(K.out k e).1;omega
      have br:=zAa (ah.out.wr y.out ((E.out.done u.out).xf).block);have bH:=zAa ((t.out.xf.block bb cF cO.out).trans aJ.out);have bK:=zAa ((t.out.xf.block bm cH bw.out).trans aN.out);have bI:=zAa ((E.out.box _ (by omega) A (by omega) (by omega)).trans K1.out);clear aj ag bc;have s:Hid (Below wr.heap.size wr (wr.alloc (.cells #[.slice (some ⟨gi,0,none⟩) n n] 73))):=(xW _ _).alloc (xR _) _;have bL:Hid ((wr.alloc (.cells #[.slice (some ⟨gi,0,none⟩) n n] 73)).heap[wr.heap.size]?=some (.cells #[.slice (some ⟨gi,0,none⟩) n n] 73 (0,0))):=heap_alloc_new wr _;have cG:=xF cF t.out.xf.size;have cI:=xF cH t.out.xf.size;have bj:=xF A E.out.fr.xf.size;go_upto_region 11 with fail
      generalize wr.alloc (.cells #[.slice (some ⟨gi,0,none⟩) n n] 73)=Vc at *;obtain⟨cD,ei,av⟩:=cE bL.out;have cA:=(s.out.block _ cG).trans bH.out;have cC:=(s.out.block _ cI).trans bK.out;have cB:=(s.out.block _ bj).trans bI.out;obtain⟨ej,ek,el⟩:=cE cA;obtain⟨em,en,eo⟩:=cE cC;have cf:=zAa (E.out.below s.out);have bl:=zAa (t.out.below s.out);have bM:=zAa (bN.out.below s.out);have bS:=zAa (bT.out.below s.out);have ak:=zAa (bz.out.below s.out);have bV:=zAa (bW.out.below s.out);have bq:=zAa (br.out.below s.out);have ax:w.heap.size+1<Vc.heap.size:=xF bj s.out.size;generalize dv:wr.heap.size=nb at *;have bJ:=zAa cB;clear dv E t bN bT bz bW br bH bK bI s bL cG cI bj cA cC cB ci dM
      cases za:zPF F bh ms
      ·have aH:Hid (jL oc f bh ms a F=a):=by unfold Hid jL;rw[za];rfl
       go_wp2_with (first
        | (go_at_call 57;refine (zET gi q4 q5 n F bh ms _ ak.out bM.out bS.out).mono ?_;rintro e w8 ⟨rfl,m⟩;rw[za];have ao:=zAa (cf.out.below m);have ad:=zAa (bl.out.below m);have bO:=zAa (ak.out.below m);have bU:=zAa (bV.out.below m);have bp:=zAa (bq.out.below m);have dV:=aC m av cD;have dW:=xF av m.size;have dU:=xF ax m.size;have l:=(m.block _ ax).trans bJ.out;have y0:=aD l 0 _ rfl;have y1:=aD l 1 _ rfl;have y2:=aD l 2 _ rfl;have y3:=aD l 3 _ rfl;have y4:=aD l 4 _ rfl;have y5:=aD l 5 _ rfl;have y6:=aD l 6 _ rfl;have y7:=aD l 7 _ rfl;have y8:=aD l 8 _ rfl;have y9:=aD l 9 _ rfl;have dT:=aD l 10 _ rfl;clear l m))
       go_roundw
       case rel=>exact⟨i+1,a,I,ac,O,by omega,by go_num,ao,ad,by have p:=bn.out;rw[aH.out] at p;exact p⟩
       case measure=>simp[intOf];omega
      ·have aH:Hid (jL oc f bh ms a F=⟨eW a.rows oc,if a.clash then true else f.cL F⟩):=by unfold Hid jL;rw[za];rfl
       go_wp2_with (first
        | (go_at_call 57;refine (zET gi q4 q5 n F bh ms _ ak.out bM.out bS.out).mono ?_;rintro e w8 ⟨rfl,m⟩;rw[za];have ao:=zAa (cf.out.below m);have ad:=zAa (bl.out.below m);have bO:=zAa (ak.out.below m);have bU:=zAa (bV.out.below m);have bp:=zAa (bq.out.below m);have dV:=aC m av cD;have dW:=xF av m.size;have dU:=xF ax m.size;have l:=(m.block _ ax).trans bJ.out;have y0:=aD l 0 _ rfl;have y1:=aD l 1 _ rfl;have y2:=aD l 2 _ rfl;have y3:=aD l 3 _ rfl;have y4:=aD l 4 _ rfl;have y5:=aD l 5 _ rfl;have y6:=aD l 6 _ rfl;have y7:=aD l 7 _ rfl;have y8:=aD l 8 _ rfl;have y9:=aD l 9 _ rfl;have dT:=aD l 10 _ rfl;clear l m)
        | (go_at_call 58;refine (zKD g a I ac O _ oc (FA.mk n (.slice x n c) g1 g2 g3 g4 g5 g6 g7 g8 g9) f Z gi F _ ao.out.ans bU.out cT.out cU.out bp.out bO.out dz).mono ?_;rintro e w9 ⟨rfl,dR,dS,df,ch,aS⟩;have da:=zAa (ao.out.step ch aS);have cK:=zAa (ad.out.trans aS (fun k hk e=>zLH ad.out hk e));clear ch aS))
       go_roundw
       case rel=>exact⟨i+1,_,dR,dS,df,by omega,by go_num,da,cK,by have p:=bn.out;rw[aH.out] at p;exact p⟩
       case measure=>simp[intOf];omega
     ·have dp:i=cs.length:=by omega
      have dY:decide ((i:Int)<(cs.length:Int))=false:=decide_eq_false (by omega);have dh:a=A2:=by
       have p:=ag.out;rw[dp,List.drop_length] at p;exact p
      have hR:uY w Y g go V U S ov fp d f o cs N wr q.length:=⟨r,q,a,I,ac,O,E.out,by rw[dh];exact af.out,rfl⟩;go_wp2;go_roundw
      case rel=>exact⟨_,hR⟩
      case measure =>
       have h1:=(aF.out _ ⟨_,hR⟩).2 _ hR;have h2:=bA.out;omega
end Go.Proofs.YtonodfjdiepglaaGreatDoor
