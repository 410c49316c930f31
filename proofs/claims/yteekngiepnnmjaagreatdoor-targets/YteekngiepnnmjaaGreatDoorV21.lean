import Derived.Test.YteekngiepnnmjaaGreatDoorV19
import Derived.Test.YteekngiepnnmjaaGreatDoorV15
set_option linter.all false
set_option maxHeartbeats 0
namespace Go.Proofs.YteekngiepnnmjaaGreatDoor
open Go Go.RowKit Go.Proofs.Tryz P Q R
open scoped Classical
set_option maxRecDepth 1000000
open _root_ renaming List->W,List->σ,Nat->K,Nat->ν,if_neg->I,if_neg->ι,Int->S,Int->ω,if_pos->N,decide_eq_true_eq->φ,UInt8->z,UInt8->τ,beq_iff_eq->π,absurd->η,Bool->H,Bool->ζ,or_false->θ,and_true->κ,bne_iff_ne->υ,if_true->χ
open Go renaming heap_alloc_new->ψ,Value->ρ,World->δ
open Go.RowKit renaming Below->ε
variable {w:δ}{g k n s:ν}{a:XU}{ov:ρ}{vs:σ ρ}{fp:σ ν}{v:ω}{t:VZ}{l:σ τ}{r r':Rd}{p:ν->ζ}{es:σ Ev}{α β γ:Type}{ts:σ VZ}{ds rs:σ ω}{b e:Ev}{B:ν->ν->ζ}{m:Ew}{st:VW}
open Bool renaming true->U
open Option renaming some->T
open List renaming range->xF,foldl_cons->xW,replicate->x2,length_cons->x3,mem_cons->x4,append_assoc->x6,mem_cons_of_mem->x7,append_inj'->xe,getElem?_eq_getElem->xg,map_cons->xh,mem_flatMap->xk,mem_map->xl,mem_singleton->xm,not_mem_nil->xo,filter_map->xq,length_map->xr,mem_nil_iff->xt,flatMap_cons->xu,length_append->xv,filter_congr->xw,getD_eq_getElem?_getD->y1,getElem_mem->y3,eq_nil_or_concat->y4,concat_eq_append->y5
open Nat renaming lt_of_lt_of_le->xR,le_refl->x1,lt_of_le_of_lt->x9,le_trans->xb,lt_of_lt_of_eq->xi,lt_succ_self->xj,pow_le_pow_right->xx
open Or renaming inl->x5,inr->x8
open Bool renaming and_eq_true->xd,not_eq_true'->xy,or_eq_true->y2
open Go.Value renaming ownBlock->xp
open Int renaming toNat_natCast->xz
namespace Q
theorem J7(o:W S)(f:Ex)(d i:W K)(a:XU)(c:W K):a.y.length<=(qL o f d i a c).y.length:=by
 unfold qL;split
 ·exact kMn _ _
 ·exact x1 _
theorem UW(c:Wd)(f:Ex)(rd:W K)(cs:W (W K))(a:XU)(ds:W S):a.y.length<=(qB c f rd cs a ds).y.length:=by
 unfold qB;split
 ·grind [yK,J7]
 ·exact x1 _
end Q
def GW(w W1:δ)(g go gr gb gd:K)(ov0:ρ)(fp0:W K)(wd:Q.Wd)(f:Ex)(rd:W K)(cs:W (W K))(fin:XU)(wr:δ)(n:K):Prop :=
 ∃ds rest a ov vs fp,Et w W1 wr g go gr gb gd ov0 fp0 (WQ wd.E) (XR wd.E (WQ wd.E)) ds rest a ov vs fp/\rest.foldl (qB wd f rd cs) a=fin/\rest.length=n
theorem Es.wr{W:δ}{v:ρ}{u:σ (σ ν)}{j:σ ν}(h:Es w v n u j)(f:Ei w g a ov vs fp)(q:∀k,k<w.heap.size->¬Wr g ov k->W.heap[k]?=w.heap[k]?):Es W v n u j:=by
 obtain⟨c,d⟩:=f.o.ty;refine⟨bH h.own λk e=>q k (h.own.lt k e).2 λe2=>?_,h.len,λi D z C=>(h.rel i D z C).wr f q⟩
 rcases e2 with e2|e2
 ·subst e2
  rcases d with d|d<;>exact gG h.own d (by decide) e
 ·rcases f.o.y.own.2 with⟨e3,_⟩|⟨b,E,x,e3,_,A,_⟩
  ·grind [xp]
  ·rw[e3]at e2;simp[xp]at e2;subst e2;exact gG h.own A (by decide) e
theorem zOo{f:δ}{c:ρ}{d:W K}(h:Ek (Wr g ov) w f ov c fp d)(j:k<w.heap.size)(e:Wr g c k):Wr g ov k:=by
 rcases e with e|e
 ·exact x5 e
 ·rcases h.own with e1|⟨b,e1,i⟩
  ·exact x8 (e1.symm.trans e)
  grind
def Ei.yB(h:Ei w g a ov vs fp){c:Array ρ}{t:TypeId}(f:w.heap[k]?=T (.cells c t (0,0)))(d:37≠t):ov.ownBlock≠T k:=gG h.o.y.own f d
theorem zFY(g:K)(an:XU)(ov:ρ)(vs:σ ρ)(fp:σ K)(ev rg:ρ)(d:Q.Wd)(fa:FA)(f:Ex)(gq:K)(rd:σ K)(cv:ρ)(cs:σ (σ K))(gs:σ K)(w:δ)(hA:Ei w g an ov vs fp)(hw:YU w ev rg d)(bf:WdOk d)(hf:Ee w fa f)(ba:f.E=d.E)(hr:Ec w gq fa.n rd)(au:Es w cv fa.n cs gs)(dZ:cs.length<100000000)(bZ:∀k,rg.ownBlock=T k->¬Wr g ov k)(ay:(vB d f rd cs an).y.length<100000000):
  Calls prog 35 #[.pointer (T ⟨g,0,none⟩),.agg #[ev,rg],.agg (kU fa gq),cv] w λe w'=>e=.returned (.tuple #[])/\∃ov' vs' fp',Ei w' g (vB d f rd cs an) ov' vs' fp'/\Ek (Wr g ov) w w' ov ov' fp fp':=by
 obtain⟨ea,ec,rfl,_⟩:=hw.K.form;obtain⟨ra,rc,rfl,_⟩:=hw.g.form;obtain⟨ca,cc,rfl⟩:=nP au.own;obtain⟨x,c,ch,_⟩:=hf.form;have be:fa.n=d.E.length:=by rw[<- hf.len,ba]
 obtain⟨n,ev,g1,g2,g3,g4,g5,g6,g7,g8,g9⟩:=fa;simp only at ch hr au be;subst ch;simp only[kU];have D:=aD hA;have bC:=aD hw;have ak:=aD hf;have bA:=aD hr;have aI:=aD au;have cQ:=aD bZ;have bw:=aD bf;have dW:=aD ba;have dX:=aD be;have ax:=aD ay;have S:=bf.le;have lg:=hA.o.lt;have cV:=aD hA.o.gU;have bt:=aD hA.o.fpl;have bD:=aD (kFB d.E);have bq:=aD (Jl d.E (WQ d.E));have br:=aD (Jk d.E (WQ d.E) (by rw[bD.o];exact S));have bg:(WQ d.E).length<=64:=by rw[bD.o];exact S
 have aZ:(XR d.E (WQ d.E)).length<10000:=by rw[bq.o];omega
 have cT:aC ((XH (XR d.E (WQ d.E))).foldl (qB d f rd cs) an=vB d f rd cs an):=Z;generalize vB d f rd cs an=fin at*;clear hf hr au hA hw bZ bf ba be ay;go_in;go_upto_region 1 with fail
 refine jD (λW=>W.heap[w.heap.size]?=T (.cells #[.slice ea d.E.length ec,.slice ra d.g.length rc] 80 (0,0))/\W.heap[w.heap.size+1]?=T (.cells (kU (FA.mk n (.slice x n c) g1 g2 g3 g4 g5 g6 g7 g8 g9) gq) 97 (0,0))/\W.heap.size=w.heap.size+2/\ε w.heap.size w W) (nZ _ _ _ _ _) ?_;rintro W0 ⟨k0,k1,cx,cf⟩;have cx:w.heap.size+2<=W0.heap.size:=by omega
 simp only[kU,XP]at k1;have K0:=aD k0;have K1:=aD k1;have aE:=aD cf;have c0:=cA k0;clear cf k0 k1;go_upto_region 2 with(first
  |(go_at_call 68;refine(Vx _ _ d.E _ (bC.o.X aE).K ⟨_,_,_,Z⟩ S).mono ?_;rintro e w1 ⟨gr,gb,gd,rfl,cm,cj,ck,dr,dp,dq,dw,dx,cd⟩;have B1:=aD cd;have IR:=aD cm;have IB:=aD cj;have ID:=aD ck;clear cm cj ck cd))
 have dC:=B1.o.size;have dt:=IR.o.lt;have du:=IB.o.lt;have dv:=ID.o.lt;refine jD (λW1=>ε w1.heap.size w1 W1/\w1.heap.size<W1.heap.size/\GW w W1 g w1.heap.size gr gb gd ov fp d f rd cs fin W1 (XH (XR d.E (WQ d.E))).length) ⟨bB,by simp,_,_,an,ov,vs,fp,⟨⟨lg,cV,bt,⟨by omega,by simp⟩,⟨by omega,by simp;omega⟩,⟨by omega,by simp;omega⟩,⟨by omega,by simp;omega⟩⟩,Ek.refl _ _ _ _,Jw IR IB ID dw dx bq (ψ _ _) bB,D.o.X (bT (bT aE B1) bB)⟩,cT,Z⟩ ?_;rintro W1 ⟨ar,dD,az⟩;have bE:=aD az;have A:=aD (bT (bT aE B1) ar);have K0:=aD ((ar.block _ (by omega)).trans ((B1.o.block _ (by omega)).trans K0));have K1:=aD ((ar.block _ (by omega)).trans ((B1.o.block _ (by omega)).trans K1));have aw:w.heap.size<W1.heap.size:=by omega
 have G:w.heap.size+1<W1.heap.size:=by omega
 have eb:w.heap.size+2<=w1.heap.size:=by omega
 have dT:w.heap.size+2<=gd:=by omega
 have cw:d.g.length<1000:=by have:=bw.o.g;omega
 clear az ar B1 IR IB ID c0 cx dC dt du dv dr dp dq;generalize w1.heap.size=go at*;clear dD;obtain⟨μ,hμ⟩:=JY (GW w W1 g go gr gb gd ov fp d f rd cs fin);have aJ:=aD hμ;clear hμ;go_loopw[] (λwr=>∃n,aC (GW w W1 g go gr gb gd ov fp d f rd cs fin wr n)) λwr=>μ wr
 case atStart=>exact⟨_,bE⟩
 case round =>
  obtain⟨hI,cq⟩:=aJ.o wr (by obtain⟨n,h⟩:=hrel;exact⟨n,h⟩);clear hrel cq bE;obtain⟨dk,ah,a1,H,bl,ap,aq,aU,aA⟩:=hI;have ST:=aD aq;have FD:=aD aU;have HL:=aD aA;have dB:a1.y.length<100000000:=by
   have:=yK _ (UW d f rd cs) ah a1;rw[aU]at this;have:=ax.o;omega
  have dN:=xR aq.base.go1.2 aq.fr.xf.size;clear aq aU aA;go_upto_region 3 with(first|(go_at_call 63;refine(F8 go gr gb gd _ _ dk ah _ ST.o.ord aZ br).mono ?_;rintro e w2 ⟨h1,hT⟩;have HT:=aD hT;clear hT;rcases h1 with⟨hr,rfl⟩|⟨r,q,hr,rfl,cr,cg⟩))
  ·go_wp2;go_end0;obtain⟨dy,dz⟩:=ST.o.EE HT A;have h3:=FD.o;rw[hr]at h3;simp only[List.foldl_nil]at h3;rw[<- h3];exact⟨Z,H,bl,ap,dy,dz⟩
  ·have aR:=aD (ST.o.AM HT cr);have cS:=aD cg;have Y:aC (q.foldl (qB d f rd cs) (qB d f rd cs a1 r)=fin):=by
    simp_all [xW]
   have ag:(qB d f rd cs a1 r).y.length<100000000:=by
    have:=yK _ (UW d f rd cs) q (qB d f rd cs a1 r);rw[Y.o]at this;have:=ax.o;omega
   have F:=aD ag;have bv:aC (q.length+1=μ wr):=by
    simp_all [x3]
   have aK:aC (qB d f rd cs a1 r=if f.XJ rd (YP f.E (WT (WQ d.E) r)) (YB rd (YP f.E (WT (WQ d.E) r)))then cs.foldl (qL (mY d (WT (WQ d.E) r)) f (YP f.E (WT (WQ d.E) r)) (YB rd (YP f.E (WT (WQ d.E) r)))) a1 else a1):=Z;have cW:=aD (kFt bw (WT (WQ d.E) r));have bz:aC ((WT (WQ d.E) r).length=d.E.length):=by simp_all [DY]
   have bx:aC ((WT (WQ d.E) r).length=n):=by simp_all [aC]
   have dV:go<w2.heap.size:=by rw[HT.o.size];exact dN
   clear ST FD HL hr cr cg HT ag;go_upto_region 5 with(first
    |(go_at_call 69;refine(zJr _ f _ (WT (WQ d.E) r) _ bn aO bx).mono ?_;rintro e w4 ⟨q4,rfl,ct,aV⟩;have bV:=aD (wM.o.X aV);have bL:=aD (aO.o.X aV);have bR:=aD ct;clear ct aV)
    |(go_at_call 65;refine(Gd go gr gb gd _ _ r q _ aR.o.ord cS br bg).mono ?_;rintro e w3 ⟨gp,rfl,cl,ed,ce⟩;have wM:=aD (aR.o.X ce);have aO:aC (YA w3 (VV gp (WQ d.E).length (WQ d.E).length) (WT (WQ d.E) r)):=(by have h9:=cl.rG (WQ d.E).length (by rw[DY];exact x1 _);rw[DY]at h9;exact h9);have bn:=aD (ak.o.wr D (wM.o.done A).xf.block);have dO:=xR G wM.o.fr.xf.size;have d0:=cA ((wM.o.box _ (by omega) G (by omega) (by omega)).trans K1);clear cl ce))
   clear bn dO d0;refine jD (λV=>V.heap[w4.heap.size]?=T (.cells #[VV q4 n n] 83 (0,0))/\ε w4.heap.size w4 V) ⟨ψ _ _,bB⟩ ?_;rintro Va ⟨cn,af⟩;have KA:=aD cn;have BA:=aD af;clear cn af;generalize WT (WQ d.E) r=pl at*;have ab:=aD (bV.o.X BA);have bM:=aD (bL.o.X BA);have aP:=aD (bR.o.X BA);have bp:=aD (ak.o.wr D ((ab.o.done A).xf).block);have bU:=aD (bA.o.wr D ((ab.o.done A).xf).block);have dP:=xR G ab.o.fr.xf.size;obtain⟨dH,dI,cy⟩:=cU KA;have e0:=cA ((ab.o.box _ (by omega) G (by omega) (by omega)).trans K1);generalize YP f.E pl=O at*;generalize w4.heap.size=bb at*;clear bV bL bR BA aR wM aO;go_upto_region 6 with(first
    |(go_at_call 70;refine(zJq _ f gq rd q4 O _ bp bU aP).mono ?_;rintro e w5 ⟨q5,rfl,cu,aW⟩;have bW:=aD (ab.o.X aW);have B5:=aD aW;have bS:=aD cu;clear cu aW))
   clear e0;refine jD (λV=>V.heap[w5.heap.size]?=T (.cells #[VV q5 n n] 83 (0,0))/\ε w5.heap.size w5 V) ⟨ψ _ _,bB⟩ ?_;rintro Vb ⟨co,aY⟩;have KB:=aD co;have BB:=aD aY;have aj:=aD (bT B5 aY);clear co aY;generalize YB rd O=ms at*;have ac:=aD (bW.o.X BB);have bN:=aD (bM.o.X aj);have ao:=aD (aP.o.X aj);have am:=aD (bS.o.X BB);have aH:=aD (ak.o.wr D ((ac.o.done A).xf).block);have aQ:=aD (bA.o.wr D ((ac.o.done A).xf).block);have dQ:=xR G ac.o.fr.xf.size;have aM:=aD ((aj.o.block bb cy).trans KA);obtain⟨dF,dG,bi⟩:=cU aM;obtain⟨dJ,dK,bj⟩:=cU KB;have h0:=cA ((ac.o.box _ (by omega) G (by omega) (by omega)).trans K1);generalize w5.heap.size=bm at*;clear bW bS BB aj B5 ab bM aP bp bU dP dH dI cy KA
   cases zs:f.XJ rd O ms
   ·rw[aK.o,zs]at Y F;go_wp2_with(first
     |(go_at_call 71;refine(Jv _ f gq rd q4 O q5 ms _ aH aQ ao am).mono ?_;rintro e w6 ⟨rfl,M⟩;rw[zs];have B6:=aD M;have z:=aD (ac.o.X M);have cJ:=xR aw z.o.fr.xf.size;clear M;have u0:=cA ((z.o.box _ (by omega) aw (by omega) (by omega)).trans K0)))
    have hR:GW w W1 g go gr gb gd ov fp d f rd cs fin w6 q.length:=⟨r,q,a1,H,bl,ap,z,Y,Z⟩;go_roundw;exact⟨_,hR⟩;exact x9 ((aJ _ ⟨_,hR⟩).2 _ hR) (xi (xj _) bv)
   ·rw[aK.o,zs]at Y F;go_upto_region 9 with(first
     |(go_at_call 72;refine(U5 _ _ _ d pl _ (bC.o.wr D cQ (z.o.done A).xf.block (z.o.done A).xf.size) (bN.o.X B6) bz S cw).mono ?_;rintro e w7 ⟨vo,rfl,av,bc,aX⟩;have J:=aD (z.o.X aX);have aa:aC (∀k,vo.ownBlock=T k->k<w7.heap.size/\k≠g/\H.ownBlock≠T k):=λk e=>⟨NQ av k e,λe2=>by have:=bc k e;have:=z.o.ans.o.lt;omega,λe2=>by have:=bc k e;have:=z.o.ans.o.gU k e2;omega⟩;have df:=aD av;obtain⟨va,vc,dE,_⟩:=av.form;have B7:=aD aX;clear bc aX)
     |(go_at_call 71;refine(Jv _ f gq rd q4 O q5 ms _ aH aQ ao am).mono ?_;rintro e w6 ⟨rfl,M⟩;rw[zs];have B6:=aD M;have z:=aD (ac.o.X M);have cJ:=xR aw z.o.fr.xf.size;clear M;have u0:=cA ((z.o.box _ (by omega) aw (by omega) (by omega)).trans K0)))
    subst dE;have I:=aD (bT B6 B7);have da:=aD (ao.o.X I);have dd:=aD (am.o.X I);have aL:=aD ((I.o.block bb bi).trans aM);have aN:=aD ((I.o.block bm bj).trans KB);have cR:aC (¬Wr g H bb):=λe=>by
     rcases e with e|e
     ·exact J.o.ans.ne aL (by decide) (by decide) e.symm
     ·exact J.o.ans.yB aL (by decide) e
    have bs:aC (¬Wr g H bm):=λe=>by
     rcases e with e|e
     ·exact J.o.ans.ne aN (by decide) (by decide) e.symm
     ·exact J.o.ans.yB aN (by decide) e
    have cE:bb<w7.heap.size:=xR bi I.o.size;have cG:bm<w7.heap.size:=xR bj I.o.size;simp only[χ]at F Y;generalize bX:cs.foldl (qL (mY d pl) f O ms) a1=A2 at*;have cP:=aD bX;generalize mY d pl=oc at*;clear bX av h0 dF dG bi dJ dK bj aM KB ao am B6 B7 I aH aQ bN dQ u0 cJ aK bz bx;go_loopw[39] (λjv wr=>∃(i:K) (a:XU) (N:ρ) (ai:σ ρ) (ae:σ K),i<=cs.length/\jv=.int .i64 i/\aC (Et w W1 wr g go gr gb gd ov fp (WQ d.E) (XR d.E (WQ d.E)) r q a N ai ae)/\aC (Ek (Wr g H) w7 wr H N ap ae)/\aC ((cs.drop i).foldl (qL oc f O ms) a=A2)) λjv _=>cs.length-(intOf jv).toNat
    case atStart=>exact⟨0,a1,H,bl,ap,Nat.zero_le _,Z,J,Ek.refl _ _ _ _,by grind⟩
    case round =>
     obtain⟨i,a,N,ai,ae,hi,rfl,L,u,aF⟩:=hrel;have dA:a.y.length<100000000:=by
      have h1:=yK _ (J7 oc f O ms) (cs.drop i) a;have h2:=F.o;rw[aF.o]at h1;omega
     clear cP;by_cases hlt:i<cs.length
     ·have ef:=lI hlt;obtain⟨cb,dn⟩:∃cb,ca=T ⟨cb,0,none⟩:=by
       rcases aI.o.own.2 with⟨e1,h0⟩|⟨cb,c2,dY,e1,_⟩
       ·omega
       grind
      subst dn;have al:=aD (aI.o.wr D ((L.o.done A).xf).block);have bd:i<gs.length:=by rw[aI.o.len];exact hlt
      have bu:=aD (al.o.rel i hlt gs[i] (xg bd));have ci:=al.o.own.cellAt i (by omega);have dM:=(al.o.own.lt cb Z).2;simp only[List.getElem?_map,xg bd,Option.map_some]at ci;have aG:aC ((cs.drop (i+1)).foldl (qL oc f O ms) (qL oc f O ms a cs[i])=A2):=by
       grind [List.drop_eq_getElem_cons]
      generalize gs[i]=gi at*;generalize cs[i]=ad at*;have bJ:=aD (da.o.wr J.o.ans u.o.xf.block);have bO:=aD (dd.o.wr J.o.ans u.o.xf.block);have bQ:=aD (df.o.own wr (λk e=>u.o.xf.block k (aa k e).1 λe2=>by
       rcases e2 with e2|e2
       ·exact(aa k e).2.1 e2
       ·exact(aa k e).2.2 e2) u.o.xf.size)
      have cY:aC (∀k,(Value.slice va oc.length vc).ownBlock=T k->¬Wr g N k):=λk e e2=>by
       rcases e2 with e2|e2
       ·exact(aa k e).2.1 e2
       ·rcases u.o.own with e3|⟨b,e3,hb⟩
        ·exact(aa k e).2.2 (e3.symm.trans e2)
        ·rw[e3]at e2;simp at e2;have:=(aa k e).1;omega
      have bo:=aD (ak.o.wr D ((L.o.done A).xf).block);have bF:=aD ((u.o.xf.block bb cE cR).trans aL);have bH:=aD ((u.o.xf.block bm cG bs).trans aN);have bG:=aD ((L.o.box _ (by omega) G (by omega) (by omega)).trans K1);clear al aF bd;have cF:=xR cE u.o.xf.size;have cI:=xR cG u.o.xf.size;have bk:=xR G L.o.fr.xf.size;go_upto_region 11 with fail
      refine jD (λV=>V.heap[wr.heap.size]?=T (.cells #[VV gi n n] 83 (0,0))/\ε wr.heap.size wr V) ⟨ψ _ _,bB⟩ ?_;rintro Vc ⟨cp,af⟩;have bI:=aD cp;have j:=aD af;clear cp af;obtain⟨dL,eg,cD⟩:=cU bI;have cz:=(j.o.block _ cF).trans bF;have cC:=(j.o.block _ cI).trans bH;have cB:=(j.o.block _ bk).trans bG;obtain⟨eh,ei,ej⟩:=cU cz;obtain⟨ek,el,em⟩:=cU cC;have dj:=aD (L.o.X j);have cM:=aD (u.o.X j);have db:=aD (bJ.o.X j);have de:=aD (bO.o.X j);have bK:=aD (bu.o.X j);have dh:=aD (bQ.o.X j);have cO:=aD (bo.o.X j);have cH:w.heap.size+1<Vc.heap.size:=xR bk j.o.size;generalize wr.heap.size=nb at*;have cZ:=aD cB;clear L u bJ bO bu bQ bo bF bH bG j bI cF cI bk cz cC cB ci dM;have cX:aC (qL oc f O ms a ad=if Ab ad O ms then⟨eI a.y oc,if a.clash then U else f.bP ad⟩else a):=Z
      cases za:Ab ad O ms
      all_goals
       rw[cX.o,za]at aG;go_wp2_with(first
        |(go_at_call 73;refine(Uf gi q4 q5 n ad O ms _ bK db de).mono ?_;rintro e w8 ⟨rfl,C⟩;rw[za];have aS:=aD (dj.o.X C);have aB:=aD (cM.o.X C);have dc:=aD (bK.o.X C);have dg:=aD (dh.o.X C);have cN:=aD (cO.o.X C);have eo:=cK C cD dL;have ep:=xR cD C.size;have en:=xR cH C.size;have y0:=cA ((C.block _ cH).trans cZ);clear C)
        |(go_at_call 74;refine(zMi g a N ai ae _ oc _ f gq gi ad _ aS.o.ans dg cW cY cN dc dA).mono ?_;rintro e w9 ⟨rfl,dR,dS,dl,bY,aT⟩;have di:=aD (aS.o.step bY aT);have cL:=aD (aB.o.trans aT λk hk e=>zOo aB hk e);clear bY aT))
       go_roundw
       first|exact⟨i+1,a,N,ai,ae,by omega,by go_num,aS,aB,aG⟩|exact⟨i+1,_,dR,dS,dl,by omega,by go_num,di,cL,aG⟩
       simp[intOf];omega
     ·have ee:i=cs.length:=by omega
      have dU:decide ((i:ω)<cs.length)=false:=decide_eq_false (by omega);have dm:a=A2:=by
       have h3:=aF.o
       grind
      have hR:GW w W1 g go gr gb gd ov fp d f rd cs fin wr q.length:=⟨r,q,a,N,ai,ae,L,by rw[dm];exact Y,Z⟩;go_wp2;go_roundw;exact⟨_,hR⟩;exact x9 ((aJ _ ⟨_,hR⟩).2 _ hR) (xi (xj _) bv)
namespace Q
def kGQ(a:XU)(c:Cand):a.y.length<=(mS a c).y.length:=by
 unfold mS;split
 ·exact x1 _
 ·exact yK _ (UW _ _ _ _) _ _
def kKd(ts:W VZ):(gS (fP (WL ts) none (XH (YM (WL ts))))).foldl mS ⟨[],false⟩=eU ts:=by rw[<- kLP];rfl
theorem kIZ(f:Ex)(rd:W K)(w:Wd):(f.cF rd w).length<=(XH (XR w.E (XD w.E))).length:=by
 grind [Ex.cF]
end Q
def zNv{P:Program}{c:Array Oper}{l:W Oper}{Q:Exit->Act->δ->Prop}{a:Act}(R:δ->Prop)(h:R w)(k:∀w,R w->wpList P c Q l a w):wpList P c Q l a w:=k w h
theorem zEU(B bt J:K)(ts:σ VZ)(w:δ)(h:gF w B (VV bt ts.length J) ts)(hn:ts.length<20)(aR:∀t∈ts,(∀s∈t.S,ZR s)/\t.S.length<900/\ZO t.S<100000)(aS:∀r∈WL ts,r.length<100000000)(aU:∀rs∈WL ts,∀r∈rs,r.g.length=4/\∀e∈r.E,e.h<YC)(hW:∀d,YK (YM (WL ts)) d->WdOk (XV (WL ts) d))(af:(Q.eU ts).y.length<100000000):
  Calls prog 12 #[.agg #[VV bt ts.length J]] w λe w'=>∃ov vs,e=.returned (.tuple #[ov,.bool (Q.eU ts).clash])/\HandO w.heap.size w' ov (Q.eU ts).y vs/\ε w.heap.size w w':=by
 obtain⟨k0,k1,bs,al⟩:=nZ w #[VV bt ts.length J] #[.slice none 0 0,.bool false] 40 77;have HT:=aD (h.keep λk hk=>al.block k hk);have aA:=aD aR;have bd:=aD aS;have be:=aD aU;have HW:=aD hW;have ay:=aD af;have aq:=aD al;have ax:=aD (kKd ts);have bp:(WL ts).length<20:=by grind [OM]
 generalize Q.eU ts=fin at*;clear al h aR aS aU hW af;go_in;go_upto_region 2 with fail
 generalize hE:(w.alloc (.cells #[VV bt ts.length J] 40)).alloc (.cells #[.slice none 0 0,.bool false] 77)=W0 at*;have bi:=gE k0 0 _ Z;have l0:w.heap.size<W0.heap.size:=by omega
 have l1:w.heap.size+1<W0.heap.size:=by omega
 have K1:=aD k1;clear hE k0 k1 bs;go_upto_region 3 with(first
  |(go_at_call 32;refine(zEp B bt J ts _ HT hn aA).mono ?_;rintro e w1 ⟨rv,vs,aZ,gb,gd,rfl,⟨xa,xn,xc,aV⟩,(aj:aC _),(aB:aC _),(aE:aC _),bJ,bK,aa,(B1:aC _)⟩;obtain⟨ya,yc,O⟩:=nP aj.o.own;rw[aV]at O;simp only[Value.slice.injEq]at O;obtain⟨-,bu, -⟩:=O;subst bu;subst aV)
  |(refine wpList_store_mid Z 94 (.tmp 5) (.tmp 9) Z w1.heap.size 0 (mN (.slice xa (WL ts).length xc) (.slice (T ⟨gb,0,none⟩) (WL ts).length (WL ts).length) (.slice (T ⟨gd,0,none⟩) (WL ts).length (WL ts).length) (.bool false)) Z Z (DU (ψ w1 _) (by simp[mN])) (by kernel_rfl) (by simp[mN,Value.oneCell']) ?_;refine zNv (λV=>V.heap[w1.heap.size]?=T (.cells (mN (.slice xa (WL ts).length xc) (.slice (T ⟨gb,0,none⟩) (WL ts).length (WL ts).length) (.slice (T ⟨gd,0,none⟩) (WL ts).length (WL ts).length) (.bool false)).toList.toArray 94 (0,0))/\ε w1.heap.size w1 V) (have h:=MT _ (ψ w1 _) (by simp[mN]);⟨h.1,h.2.2 w1 _ (x1 _) bB⟩) ?_;rintro W1 ⟨(S0:aC _),(BL:aC _)⟩))
 have bq:=B1.o.size;have br:=BL.o.size;have KG:=aD ((BL.o.block _ (by omega)).trans ((B1.o.block _ l1).trans K1));have ar:aC (ε w.heap.size w W1):=bT (CH aq (x1 _) B1) BL;have aF:aC (KY w w1.heap.size (w.heap.size+1) ⟨.slice xa (WL ts).length xc,vs,aZ,gb,gd⟩ (WL ts) mS fin W1 (gS (fP (WL ts) none (XH (YM (WL ts))))).length):=⟨none,_,_,_,_,_,_,zJp (t:=77) aj aB aE aa (by simpa using S0.o) BL KG (x8 Z) (by omega) (by omega) (by omega) ar,ax,Z⟩;generalize(⟨.slice xa (WL ts).length xc,vs,aZ,gb,gd⟩:WA)=A at*;clear BL S0 KG ar aj aB aE B1 HT K1 aq ax bi bq br aA;generalize w1.heap.size=G at*;obtain⟨μ,hμ⟩:=JY (KY w G (w.heap.size+1) A (WL ts) mS fin);have az:=aD hμ;clear hμ;simp only[Act.put];go_loopw[] (λwr=>∃m,aC (KY w G (w.heap.size+1) A (WL ts) mS fin wr m)) λwr=>μ wr
 case atStart=>exact⟨_,aF⟩
 case round =>
  obtain⟨hI,aP⟩:=az.o wr (by obtain⟨n,h⟩:=hrel;exact⟨n,h⟩);clear hrel aP aF;obtain⟨st,ds,rest,I,ov,aY,fp,(BO:aC _),(FD:aC _),(HL:aC _)⟩:=hI;have bM:=BO.o.cand.box.lt;go_upto_region 4 with(first|(go_at_call 33;refine(zGJ G A _ st ds rest _ BO.o.cand bp bd be HW).mono ?_;rintro e F ⟨b,rfl,(ai:aC _),h1⟩;rcases h1 with⟨rfl,L⟩|⟨rfl,s,bG,x,gr,j,L,aQ,aO⟩))
  ·obtain⟨(C:aC _),(aw:aC _)⟩:=BO.o.frame ai;have aG:=aD BO.o.low.2.2.2.2;have bn:I=fin:=by
    have h3:=FD.o;rw[L]at h3;exact h3
   subst bn;have c0:=C.o.o.cell;have c1:=C.o.clash;have bv:=C.o.o.lt;obtain⟨oa,oc,bo,_⟩:=C.o.o.y.form;subst bo;clear L;go_upto_region 8 with fail
   go_region_held3 (λw'=>w'.cell? ⟨w.heap.size+1,1,none⟩=T (.bool I.clash)/\w'.cell? ⟨w.heap.size+1,0,none⟩=T (.slice oa I.y.length oc)) (first|exact⟨c1,c0⟩) (first
    |(go_at_call 36;refine(zMc (w.heap.size+1) (.slice oa I.y.length oc) _ (by exact c0) (by exact bv) ⟨_,_,_,Z⟩).mono ?_;rintro e w3 ⟨rfl,rfl⟩))
   all_goals
    (try go_wp2)
    go_ret2;exact⟨_,aY,Z,⟨C.o.o.y.X (Below.refl _ _).drew,(C.o.o.X (Below.refl _ _).drew).hand,aG.o.1,λu hu k e=>aG.o.2 k (C.o.o.fps u hu k e)⟩,aw.o.drew⟩
  ·have B2:=aD (BO.o.next ai j.on aQ aO);have ba:=aD L;have bg:=aD j;obtain⟨(q:aC _),(Y:aC _)⟩:=j.on.rs s Z;have l2:=j.on.box.lt;have f:=q.o.fc;have aW:=j.c12;have am:=q.o.c0;have ao:=q.o.c1;have ad:=aD j.rel;obtain⟨fx,ak,ae,_⟩:=q.o.fin.form;obtain⟨ea,ec,aN,_⟩:=q.o.wdi.K.form;obtain⟨ra,rc,aT,_⟩:=q.o.wdi.g.form;have au:=aD q.o.fin;have aI:=aD q.o.wdi;have H:aC ((gS (fP (WL ts) (T s) x)).foldl mS (mS I (ZT (s.wd,s.ds)))=fin):=by
    simp_all [xW]
   have bc:aC ((gS (fP (WL ts) (T s) x)).length+1=μ wr):=by
    simp_all [x3]
   have N:(mS I (ZT (s.wd,s.ds))).y.length<100000000:=by
    have h3:=yK _ kGQ (gS (fP (WL ts) (T s) x)) (mS I (ZT (s.wd,s.ds)));have h4:=ay.o;rw[H.o]at h3;omega
   have i:=aD N;have ah:=aD (kEJ s.wd.E);clear j L aQ aO ai N FD HL BO ba bg q;obtain⟨⟨ev,rg,⟨n,bH,g1,g2,g3,g4,g5,g6,g7,g8,g9⟩,cv,bj,bz,bA⟩,c,dr,rr⟩:=s;simp only at ae f aW am ao aN aT ad au aI Y ah;subst ae;subst aN;subst aT;have k0:F.cell? ⟨G,2,none⟩=T (.slice fx n ak):=f 0 _ Z;have k1:F.cell? ⟨G,3,none⟩=T (VV g1 n n):=f 1 _ Z;have k2:F.cell? ⟨G,4,none⟩=T (VV g2 n n):=f 2 _ Z;have k3:F.cell? ⟨G,5,none⟩=T (VV g3 n n):=f 3 _ Z;have k4:F.cell? ⟨G,6,none⟩=T (VV g4 n n):=f 4 _ Z;have k5:F.cell? ⟨G,7,none⟩=T (VV g5 n n):=f 5 _ Z;have k6:F.cell? ⟨G,8,none⟩=T (VV g6 n n):=f 6 _ Z;have k7:F.cell? ⟨G,9,none⟩=T (VV g7 n n):=f 7 _ Z;have k8:F.cell? ⟨G,10,none⟩=T (VV g8 n n):=f 8 _ Z;have k9:F.cell? ⟨G,11,none⟩=T (VV g9 n n):=f 9 _ Z;clear f;have ab:aC (((WG c.E).cF (ZT (c,dr)).D c).length<100000000):=x9 (kIZ _ _ _) Y.o.fo;go_upto_region 5 with fail
   refine jD (λV=>V.heap[F.heap.size]?=T (.cells (kU (FA.mk n (.slice fx n ak) g1 g2 g3 g4 g5 g6 g7 g8 g9) gr) 97 (0,0))/\ε F.heap.size F V) ⟨ψ _ _,bB⟩ ?_;rintro Va ⟨ka,(BV:aC _)⟩;simp only[kU,XP]at ka;have KA:=aD ka;have x0:=cA ka;clear ka;have ag:=aD (B2.o.X BV);have av:=aD (au.o.X BV);have aJ:=aD (aI.o.X BV);have aH:=aD (ad.o.X BV);have ap:=xR l2 BV.o.size;have bN:=ag.o.ans.o.lt;have aX:F.heap.size<Va.heap.size:=dC KA;have bw:=cK BV l2 am;have bx:=cK BV l2 ao;generalize bl:F.heap.size=bb at*;clear bl k0 k1 k2 k3 k4 k5 k6 k7 k8 k9 aW am ao;have bf:aC (mS I (ZT (c,dr))=if((WG c.E).cF (ZT (c,dr)).D c).isEmpty then I else vB c (WG c.E) (ZT (c,dr)).D ((WG c.E).cF (ZT (c,dr)).D c) I):=Z;simp only[]at H i;generalize aL:(WG c.E).cF (ZT (c,dr)).D c=CS at*;have ac:=aD aL;clear aL;obtain rfl|aa:CS=[]\/CS.isEmpty=false:=by cases CS<;>simp
   case' inr=>have bC:(0:S)<CS.length:=by cases CS;(· simp at aa);simp
   all_goals
    rw[bf.o]at H i
    first|rw[aa,ι Bool.false_ne_true]at H i|simp only[List.isEmpty_nil,χ]at H i
    have W:=i;go_wp2_with(first
     |(go_at_call 34;refine(zJu _ (WG c.E) gr (ZT (c,dr)).D _ _ c _ av aH aJ ah Y.o.le (by rw[ac.o];exact ab)).mono ?_;rw[ac.o];rintro e w4 ⟨bF,bk,rfl,M,z⟩;have bh:=aD M;have B4:=aD z;obtain⟨bD,bE,bm⟩:=nP M.own;subst bm;have y0:=cA ((z.block _ aX).trans KA);have bL:=xR aX z.size;have bO:=xR ap z.size;have v0:=cK z ap bw;have v1:=cK z ap bx;have BO:=aD (ag.o.X z);clear M z)
     |(go_at_call 35;refine(zFY (w.heap.size+1) I ov aY fp _ _ c _ (WG c.E) gr (ZT (c,dr)).D _ CS bk _ BO.o.ans (aJ.o.X B4) Y (av.o.X B4) ah (aH.o.X B4) bh ab (λk e=>ag.o.nb k ⟨_,Z,x5 e⟩) W).mono ?_;rintro e w4 ⟨rfl,bP,bQ,bI,aK,aM⟩;have BO:=aD (BO.o.grow aK aM);clear aK aM))
    have hR:KY w G (w.heap.size+1) A (WL ts) mS fin w4 (gS (fP (WL ts) (T ⟨⟨.slice ea c.E.length ec,.slice ra c.g.length rc,FA.mk n (.slice fx n ak) g1 g2 g3 g4 g5 g6 g7 g8 g9,cv,bj,bz,bA⟩,c,dr,rr⟩) x)).length:=⟨_,_,_,_,_,_,_,BO,H,Z⟩;go_roundw;exact⟨_,hR⟩;exact x9 ((az _ ⟨_,hR⟩).2 _ hR) (xi (xj _) bc)
namespace Q
structure KerOk(ts:σ VZ):Prop where
 few:ts.length<20
 thr:∀t∈ts,(∀s∈t.S,ZR s)/\t.S.length<900/\ZO t.S<100000
 rb:∀r∈WL ts,r.length<100000000
 rn:∀rs∈WL ts,∀r∈rs,r.g.length=4/\∀e∈r.E,e.h<YC
 wd:∀d,YK (YM (WL ts)) d->WdOk (XV (WL ts) d)
def Aw(s:VW):H:=s.kind==2||s.kind==3
theorem J8(m:Ew)(d v:S)(s:K):(m.aO d v s).E=m.E:=by grind [Ew.aO]
def QE(m:Ew)(d:S)(r:K):(m.bG d r).E=m.E:=J8 _ _ _ _
theorem UX(m:Ew)(d v:S)(s:K):(m.aO d v s).g.length=m.g.length:=by grind [Ew.aO]
def xA(m:Ew)(st:VW):W Ev :=
 if st.kind==0 then[{m.V 0 st with value:=(m.Y%4:K)}]
 else if st.kind==1 then[{m.V 1 st with value:=m.value st.a,h:=m.A|||m.Ea st.a}]
 else if st.kind==2 then[{m.V 0 st with value:=(m.Y%4:K)},{m.V 1 st with value:=(m.value st.a+(m.bE st).aX m.E.length)%4,h:=m.A|||(m.Ea st.a|||cT (m.E.length:K))}]
 else if st.kind==3 then[{m.V 0 st with value:=(m.Y%4:K)},{m.V 1 st with value:=m.value st.a,h:=m.A|||m.Ea st.a}]
 else if st.kind==4 then[m.V 2 st]
 else if st.kind==5 then[m.V 3 st,m.V 4 st]
 else[]
theorem kHY(m:Ew)(st:VW):(m.bU st).E=m.E++xA m st:=by
 unfold Ew.bU xA;by_cases h0:(st.kind==0)=U
 ·rw[N h0,N h0,QE];rfl
 rw[I h0,I h0];by_cases h1:(st.kind==1)=U
 ·rw[N h1,N h1];rfl
 rw[I h1,I h1];by_cases h2:(st.kind==2)=U
 ·rw[N (by grind),N h2];unfold Ew.step;rw[N h2,QE];show m.E++[_]++[_]=_;rw[x6];rfl
 rw[I h2];by_cases h3:(st.kind==3)=U
 ·rw[N (by grind),N h3];unfold Ew.step;rw[I h2,QE];show m.E++[_]++[_]=_;rw[x6];rfl
 rw[I (by grind),I h3];by_cases h4:(st.kind==4)=U
 ·rw[N h4,N h4];rfl
 rw[I h4,I h4];by_cases h5:(st.kind==5)=U
 ·rw[N h5,N h5];rfl
 rw[I h5,I h5]
 grind [J8]
def yH(p:Ew×K)(st:VW):W Ev:=if p.2==0 then(if st.kind==10 then[]else xA p.1 st)else[]
theorem PK(p:Ew×K)(st:VW):(aN p st).1.E=p.1.E++yH p st:=by
 grind [aN,yH,Ew.cM,kHY]
theorem kKV(m:Ew)(st:VW):((xA m st).length:S)<=(if nE st then 1 else 0)+((if Aw st then 1 else 0)+if st.kind==5 then 1 else 0):=by
 grind [xA,nE,Aw]
theorem kKB(p:Ew×K)(st:VW):((yH p st).length:S)<=(if nE st then 1 else 0)+((if Aw st then 1 else 0)+if st.kind==5 then 1 else 0):=by
 have:=kKV p.1 st
 grind [yH]
theorem kMR(m:Ew)(st:VW):(((xA m st).filter WZ).length:S)<=if P.XC st then 1 else 0:=by
 grind [xA,P.XC,WZ,Ew.V]
theorem kLc(p:Ew×K)(st:VW):(((yH p st).filter WZ).length:S)<=if P.XC st then 1 else 0:=by
 have:=kMR p.1 st
 grind [P.XC,yH]
theorem J9:∀(c:W VW) (p:Ew×K),((c.foldl aN p).1.E.length:S)<=p.1.E.length+(P.VY nE c+(P.VY Aw c+YY c))
 |[],p=>by simp[P.VY,YY]
 |s::c,p=>by
  rw[xW];have d:=J9 c (aN p s);have f:=kKB p s
  grind [PK,P.VY,YY]
theorem Ka:∀(c:W VW) (p:Ew×K),(((c.foldl aN p).1.E.filter WZ).length:S)<=(p.1.E.filter WZ).length+P.VY P.XC c
 |[],p=>by simp[P.VY]
 |s::c,p=>by
  rw[xW];have d:=Ka c (aN p s);have f:=kLc p s
  grind [PK,P.VY]
def Kb:∀(c:W VW) (p:Ew×K) (n:K),(∀s∈c,ZR s)->p.1.Ok n->(c.foldl aN p).1.Ok (n+c.length)
 |[],p,n,_,h=>h
 |s::c,p,n,hs,h=>by
  rw[xW,x3,show n+(c.length+1)=n+1+c.length by omega];exact Kb c _ _ (λx d=>hs x (x7 _ d)) (Ft h (hs s (by simp)))
theorem kKo(m:Ew)(st:VW):(m.bU st).g.length=m.g.length:=by
 unfold Ew.bU Ew.bG Ew.step Ew.bG
 split
 ·rw[UX];rfl
 split
 ·rfl
 split
 ·rw[UX];split<;>rfl
 split
 ·rfl
 split
 ·rfl
 grind [UX]
theorem kIX(p:Ew×K)(st:VW):(aN p st).1.g.length=p.1.g.length:=by
 unfold aN
 split
 ·split
  ·rfl
  ·exact kKo _ _
 grind
def Kc:∀(c:W VW) (p:Ew×K),(c.foldl aN p).1.g.length=p.1.g.length
 |[],p=>Z
 |s::c,p=>by rw[xW,Kc c,kIX]
structure RunOk(r:Run)(t:VZ):Prop where
 g:r.g.length=4
 vals:∀x∈r.g,0<=x/\x<4
 K:∀e∈r.E,0<=e.value/\e.value<4/\e.h<YC
 len:(r.E.length:ω)<=P.VY nE t.S+(P.VY Aw t.S+YY t.S)
 sc:((r.E.filter WZ).length:ω)<=P.VY P.XC t.S
theorem Kd:∀(d:W VW) (c:K),((d.foldl (λc st=>if P.aZ st.kind then c*4 else c) c:K):S)=c*4^(P.VY P.XG d).toNat
 |[],c=>by simp[P.VY]
 |s::d,c=>by
  rw[xW,Kd d];have f:=(pK P.XG d).1;simp only[P.VY];have e:P.XG s=P.aZ s.kind:=Z;rw[e]
  cases hr:P.aZ s.kind
  ·simp
  ·simp only[χ];rw[show(1+P.VY P.XG d).toNat=(P.VY P.XG d).toNat+1 by omega,Int.pow_succ]
   grind
theorem Ke(c:W VW):ZO c=4^(P.VY P.XG c).toNat:=by
 grind [Kd,ZO]
theorem TZ{i:K}(u:∀s∈t.S,ZR s)(x:ZO t.S<1000000000){r:Run}(h:r∈iS t i):RunOk r t:=by
 unfold iS jG at h;obtain⟨c,o,rfl⟩:=List.mem_map.1 h;have q:c<ZO t.S:=by grind
 have d:=Kb t.S (Ew.start i t.block c,0) 0 u (Fv _ _ _ (by omega));have f:=J9 t.S (Ew.start i t.block c,0);have j:=Ka t.S (Ew.start i t.block c,0);simp only[Ew.start,List.filter_nil,List.length_nil]at f j;exact⟨Kc t.S (Ew.start i t.block c,0),d.g,d.K,by grind [mT,uH,Ew.run,Ew.start],by grind [mT,uH,Ew.run,Ew.start]⟩
structure WI(w:Wd)(E S R:ω):Prop where
 pos:0<w.E.length
 len:(w.E.length:ω)<=E
 sc:((w.E.filter WZ).length:ω)<=S
 g:(w.g.length:ω)=R
 vals:∀x∈w.g,0<=x/\x<4
 K:∀e∈w.E,0<=e.value/\e.value<4/\e.h<YC
theorem kMm(n:K)(l:W Ev):((l.map (ZM n)).filter WZ).length=(l.filter WZ).length:=by
 rw[xq,xr];rfl
def PB:WI ⟨ZB,[]⟩ 3 0 0:=by
 refine⟨by decide,by decide,by decide,by decide,λx d=>by simp at d,λe c=>?_⟩;simp only[ZB,x4,xt,θ]at c
 rcases c with rfl|rfl|rfl<;>exact⟨by decide,by decide,by decide⟩
def QR{p:VW->H}:∀{l:W VZ} {t:VZ},t∈l->P.VY p t.S<=XL p l
 |u::l,t,h=>by
  have c:0<=XL p l:=by
   clear h
   induction l with
   |nil=>simp[XL]
   |cons v l ih=>simp only[XL];have:=(pK p v.S).1;omega
  simp only[XL]
  rcases List.mem_cons.1 h with rfl|h
  ·omega
  ·have:=QR (p:=p) h;have:=(pK p u.S).1;omega
def Kf:∀(b:S) (c:W S),(XH (b::c)).length=(XH c).length*b.toNat:=by
 intro b c;simp only[XH]
 induction XH c with
 |nil=>simp
 |cons r l ih=>rw[xu,xv,ih,x3,Nat.add_mul];simp;omega
theorem Kg(g:K->S)(p:K->H)(c:K)(d:0<c):∀(L:W K),(∀i∈L,g i<=c/\(p i=false->g i=1))->(XH (L.map g)).length<=c^(L.filter p).length
 |[],_=>by simp[XH]
 |i::L,h=>by
  rw[xh,Kf];have o:=Kg g p c d L λj f=>h j (x7 _ f);have q:=h i (by simp);rw[List.filter_cons]
  cases hp:p i
  ·grind
  simp_all [χ,x3,Nat.pow_succ,Nat.mul_le_mul]
theorem Kh(p:Ev->H)(es:W Ev)(i:K)(h:i<=es.length):((xF i).filter λk=>p (ev es k)).length<=(es.filter p).length:=by
 have c:(xF es.length).map (ev es)=es:=by
  refine List.ext_getElem (by simp) λk d f=>?_
  simp only[List.getElem_map,List.getElem_range,ev]
  grind
 have j:(es.filter p).length=((xF es.length).filter λk=>p (ev es k)).length:=by
  conv=>lhs;rw[<- c]
  rw[xq,xr];rfl
 grind [List.Sublist.length_le]
theorem kNH(h:(es.filter WZ).length<=3):(XH (XR es (XD es))).length<=64:=by
 unfold XR;have y:(XD es).length=es.length:=by simp[XD]
 have x:∀k,k<es.length->(XD es).getD k (-1)=if WZ (ev es k)then 0 else -1:=λk q=>by
  simp[XD,ev,List.getD,xg q]
 have f:=Kg (nW es (XD es)) (λi=>WZ (ev es i)) 4 (by omega) (xF (XD es).length) λi o=>by
  have o:i<es.length:=by grind
  have c:(xF i).filter (lY es (XD es) i)=(xF i).filter λk=>WZ (ev es i)&&(WZ (ev es k)&&(ev es k).j != -1):=by
   grind [xw,lY]
  have u:((xF i).filter (lY es (XD es) i)).length<=(es.filter WZ).length:=by
   rw[c];refine xb ?_ (Kh WZ es i (by omega));refine List.Sublist.length_le ?_;rw[show(xF i).filter (λk=>WZ (ev es i)&&(WZ (ev es k)&&(ev es k).j != -1))=((xF i).filter λk=>WZ (ev es k)).filter λk=>WZ (ev es i)&&(ev es k).j != -1 by rw[List.filter_filter];exact xw λk _=>by grind];exact List.filter_sublist
  refine⟨by unfold nW;omega,λd=>?_⟩;have d:WZ (ev es i)=false:=d;unfold nW;rw[c,d,show(xF i).filter (λk=>false&&(WZ (ev es k)&&(ev es k).j != -1))=[]from List.filter_eq_nil_iff.2 λ_ _=>by simp];rfl
 refine xb f ?_;exact xb (xx (by omega) (xb (Kh WZ es _ (by omega)) h)) (by decide)
theorem RG:∀{ts:W VZ} {i:K} {rs:W Run},rs∈fV i ts->∃t∈ts,∃k,rs=iS t k
 |t::ts,i,rs,h=>by
  simp only[fV]at h
  rcases List.mem_cons.1 h with rfl|h
  ·grind
  ·obtain⟨u,c,k,e⟩:=RG h
   grind
theorem Ki(t:VZ)(i:K):(iS t i).length<=ZO t.S:=by
 grind [iS,jG]
theorem Kj{r y:W S}:∀{l:W (W S)},y∈eI l r↔y=r\/y∈l
 |[]=>by simp[eI]
 |x::l=>by
  rw[eI]
  split
  ·rw[x4,Kj (l:=l),x4]
   grind
  grind [OA]
theorem JU{α:Type}(F:XU->α->XU)(c:α->W S->Prop)(d:∀a x r,r∈(F a x).y↔r∈a.y\/c x r)(r:W S):∀(l:W α) (a:XU),r∈(l.foldl F a).y↔r∈a.y\/∃x∈l,c x r
 |[],a=>by simp
 |x::l,a=>by
  rw[xW,JU F c d r l,d]
  grind
theorem NM{α:Type}(F:XU->α->XU)(c:α->Prop)(d:∀a x,(F a x).clash=U↔a.clash=U\/c x):∀(l:W α) (a:XU),(l.foldl F a).clash=U↔a.clash=U\/∃x∈l,c x
 |[],a=>by simp
 |x::l,a=>by
  rw[xW,NM F c d l,d]
  grind
def wY(w:Wd):W (W S):=XH (XR w.E (WQ w.E))
def ZK(w:Wd)(ds:W S):W S:=WT (WQ w.E) ds
theorem LQ{α:Type}(F:XU->α->XU)(c:∀a x,YX a.y->YX (F a x).y):∀(l:W α) (a:XU),YX a.y->YX (l.foldl F a).y
 |[],a,h=>h
 |x::l,a,h=>by rw[xW];exact LQ F c l _ (c a x h)
def BG{c:Cand}:c∈DH ts↔∃d∈XH (YM (WL ts)),∃rs∈XH (YO (WC (XV (WL ts) d).E)),c=⟨XV (WL ts) d,WG (XV (WL ts) d).E,(WG (XV (WL ts) d).E).D (YT (WC (XV (WL ts) d).E) rs)⟩/\c.F.hangsOn c.D=false:=by
 unfold DH GG;simp only[xk,List.mem_filter,xl,xy];constructor
 ·rintro⟨d,i,⟨⟨rs,f,rfl⟩,h⟩⟩;exact⟨d,i,rs,f,Z,h⟩
 ·rintro⟨d,i,rs,f,rfl,h⟩;exact⟨d,i,⟨⟨rs,f,Z⟩,h⟩⟩
theorem Kk{α:Type}[DecidableEq α]:∀(l m:W α),l.Nodup->(∀x∈l,x∈m)->l.length<=m.length
 |[],m,_,_=>by simp
 |x::l,m,h,hs=>by
  have f:=hs x (by simp);have d:=Kk l (m.erase x) (List.nodup_cons.1 h).2 λy c=>(List.mem_erase_of_ne λe:y=x=>(List.nodup_cons.1 h).1 (by grind)).2 (hs y (x7 _ c))
  grind
theorem kGs{l:W (W S)}(h:YX l):l.Nodup:=by
 refine List.Pairwise.imp ?_ h
 grind [wS]
def Kl:∀(ts:W VZ) (i:K),(XH (YM (fV i ts))).length<=4^(XL P.XG ts).toNat
 |[],i=>by simp[fV,YM,XH,XL]
 |t::ts,i=>by
  simp only[fV,YM,xh];rw[Kf];have c:=Kl ts (i+1);have d:=Ki t i;rw[Ke]at d;have j:=(pK P.XG t.S).1;have f:0<=XL P.XG ts:=by
   clear c
   induction ts with
   |nil=>simp[XL]
   |cons v l ih=>simp only[XL];have:=(pK P.XG v.S).1;omega
  simp only[XL];rw[show(P.VY P.XG t.S+XL P.XG ts).toNat=(XL P.XG ts).toNat+(P.VY P.XG t.S).toNat by omega,Nat.pow_add];exact Nat.mul_le_mul c (by simpa using d)
def CD:W S:=[0,1,2,3]
def PY{x:S}(h:0<=x/\x<4):x∈CD:=by
 simp only[CD,x4,xt,θ];omega
def NG(ts:W VZ):W (W S):=(XH (YM (WL ts))).flatMap λd=>CD.flatMap λa=>CD.flatMap λb=>CD.map λc=>(XV (WL ts) d).g++[a,b,c]
def VE{α β:Type}(f:α->W β)(n:K)(h:∀a,(f a).length=n):∀l:W α,(l.flatMap f).length=l.length*n
 |[]=>by simp
 |a::l=>by rw[xu,xv,VE f n h l,h,x3,Nat.succ_mul];omega
theorem kIc(ts:W VZ):(NG ts).length=(XH (YM (WL ts))).length*64:=by
 unfold NG;refine VE _ _ (λd=>?_) _
 simp_all [VE,CD]
theorem yJ:∀{c ds:W S},ds∈XH c->YK c ds
 |[],ds,h=>by simp[XH]at h;rw[h];trivial
 |b::c,ds,h=>by
  simp only[XH,xk,xl,List.mem_range]at h;obtain⟨r,f,d,i,rfl⟩:=h;exact⟨by omega,by omega,yJ f⟩
def PC{α β γ:Type}(g:α->β)(F:α->γ->α)(G:β->γ->β)(h:∀a x,g (F a x)=G (g a) x):∀(l:W γ) (a:α),g (l.foldl F a)=l.foldl G (g a)
 |[],a=>Z
 |x::l,a=>by rw[xW,xW,PC g F G h l,h]
def wR(j:es.length<=64)(g:Ex->W K)(c:K->K->H)(h:∀f i k,g (f.jJ i (ev es i) k (ev es k))=if c i k=U then dW (g f) (i:S) (k:S)else g f)(d:g (Ex.new es)=WY es.length):
  Rel es.length (g (WG es))/\∀a b,WS (g (WG es)) a b↔a<es.length/\b<es.length/\c a b=U:=by
 unfold WG;rw[PC g (vF es) (λr i=>(xF es.length).foldl (λr k=>if c i k=U then dW r (i:S) (k:S)else r) r) λf i=>PC g _ _ (λf k=>h f i k) _ _,d];exact OK j c _ λr i=>Z
def TQ{α β γ:Type}(g:α->β)(F:α->γ->α)(h:∀a x,g (F a x)=g a):∀(l:W γ) (a:α),g (l.foldl F a)=g a
 |[],a=>Z
 |x::l,a=>by rw[xW,TQ g F h l,h]
theorem II(es:W Ev):(WG es).E=es:=by
 unfold WG;exact TQ (λf:Ex=>f.E) (vF es) (λf i=>TQ (λf:Ex=>f.E) (λ(f:Ex) (k:K)=>f.jJ i (ev es i) k (ev es k)) (λf k=>Z) (xF es.length) f) _ _
def Km(c:es.length<=64):Rel es.length (WG es).C/\∀i k:K,WS (WG es).C i k↔i<es.length/\k<es.length/\ZJ i (ev es i) k (ev es k)=U :=
 wR c Ex.C (λi k=>ZJ i (ev es i) k (ev es k)) (λ_ _ _=>Z) Z
def wV(c:es.length<=64):Rel es.length (WG es).G/\∀i k:K,WS (WG es).G i k↔i<es.length/\k<es.length/\Ai i (ev es i) k (ev es k)=U :=
 wR c Ex.G (λi k=>Ai i (ev es i) k (ev es k)) (λ_ _ _=>Z) Z
def Kn(c:es.length<=64):Rel es.length (WG es).J/\∀i k:K,WS (WG es).J i k↔i<es.length/\k<es.length/\Ag (ev es i) (ev es k)=U :=
 wR c Ex.J (λi k=>Ag (ev es i) (ev es k)) (λ_ _ _=>Z) Z
theorem Ko(c:es.length<=64):Rel es.length (WG es).N/\∀i k:K,WS (WG es).N i k↔i<es.length/\k<es.length/\An i (ev es i) k (ev es k)=U :=
 wR c Ex.N (λi k=>An i (ev es i) k (ev es k)) (λ_ _ _=>Z) Z
def Kp(c:es.length<=64):Rel es.length (WG es).y/\∀i k:K,WS (WG es).y i k↔i<es.length/\k<es.length/\isRow i (ev es i) k (ev es k)=U :=
 wR c Ex.y (λi k=>isRow i (ev es i) k (ev es k)) (λ_ _ _=>Z) Z
def Kq(c:es.length<=64):Rel es.length (WG es).h/\∀i k:K,WS (WG es).h i k↔i<es.length/\k<es.length/\YF (ev es i).h (k:S)=U :=
 wR c Ex.h (λi k=>YF (ev es i).h (k:S)) (λ_ _ _=>Z) Z
def Kr(c:es.length<=64):Rel es.length (WG es).L/\∀i k:K,WS (WG es).L i k↔i<es.length/\k<es.length/\Aj i (ev es i) k=U :=
 wR c Ex.L (λi k=>Aj i (ev es i) k) (λ_ _ _=>Z) Z
def Ks(c:es.length<=64):Rel es.length (WG es).sends/\∀i k:K,WS (WG es).sends i k↔i<es.length/\k<es.length/\Ak i (ev es i) k (ev es k)=U :=
 wR c Ex.sends (λi k=>Ak i (ev es i) k (ev es k)) (λ_ _ _=>Z) Z
def Kt(c:es.length<=64):Rel es.length (WG es).M/\∀i k:K,WS (WG es).M i k↔i<es.length/\k<es.length/\Al i (ev es i) k (ev es k)=U :=
 wR c Ex.M (λi k=>Al i (ev es i) k (ev es k)) (λ_ _ _=>Z) Z
def Ku(c:es.length<=64)(ps:W S):Rel es.length (YP es ps)/\∀a b,WS (YP es ps) a b↔a<es.length/\b<es.length/\ZQ es ps a b=U :=
 OK c (ZQ es ps) _ λr i=>Z
theorem kKY(f:es.length<=64){aL:W K}(j:Rel es.length aL):Rel es.length (eS es aL)/\∀a b,WS (eS es aL) a b↔WS aL b a/\(ev es b).q≠0/\(ev es a).q≠0:=by
 have h:=Cp f (λr w=>cD aL (r:S) (w:S)&&(ev es r).q != 0&&(ev es w).q != 0) (xD es aL) λr i=>Z;refine⟨h.1,λa b=>?_⟩;have d:=h.2 a b;rw[show eS es aL=(xF es.length).foldl (xD es aL) (WY es.length)from rfl,d];simp only[xd,υ,ne_eq];constructor
 ·grind [qS]
 ·rintro⟨c,d,o⟩;have u:=j.lt _ _ c;have x:=c.left
  grind [Rel.len,qS]
theorem Kv(o:es.length<=64)(q:rs.length=es.length):Rel es.length ((WG es).D rs)/\∀a b,WS ((WG es).D rs) a b↔b<es.length/\a<es.length/\rs.getD a (-1)=(b:S):=by
 have h:=GC (n:=es.length) (λ(r:W K) (i:K)=>dW r (i:S) (rs.getD i (-1))) (λi a b=>a=i/\b<es.length/\rs.getD a (-1)=(b:S)) (xF rs.length) λr i f j=>by
  have d:i<es.length:=by grind
  refine⟨by grind [CP],λa b=>?_⟩;by_cases hlt:rs.getD i (-1)<es.length
  ·by_cases h0:0<=rs.getD i (-1)
   ·have e:rs.getD i (-1)=((rs.getD i (-1)).toNat:S):=by omega
    grind [Cn]
   ·have e:dW r (i:S) (rs.getD i (-1))=r:=by
     unfold dW;rw[I (by omega)]
     simp_all [cT,N,Nat.or_zero,xz,TA,List.set_getElem_self]
    grind
  ·have e:dW r (i:S) (rs.getD i (-1))=r:=by
    simp_all [dW,N]
   grind (WY es.length) (by simp[WY])
 unfold Ex.D;rw[II];have k:∀a b,WS ((xF rs.length).foldl (λ(r:W K) (i:K)=>dW r (i:S) (rs.getD i (-1))) (WY es.length)) a b↔b<es.length/\a<es.length/\rs.getD a (-1)=(b:S):=λa b=>by
  grind [η,US]
 exact⟨⟨h.1,λa b c=>((k a b).1 c).1⟩,k⟩
structure Sys where
 C:ν->ν->Prop
 G:ν->ν->Prop
 J:ν->ν->Prop
 N:ν->ν->Prop
 L:ν->ν->Prop
 h:ν->ν->Prop
 sends:ν->ν->Prop
 M:ν->ν->Prop
 rd:ν->ν->Prop
 bh:ν->ν->Prop
 ord:ν->Prop
def Th(R S:K->K->Prop)(a b:K):Prop:=∃c,R a c/\S c b
namespace Sys
def bQ(X:Sys)(a b:K):Prop:=X.rd a b/\X.G a b
def aL(X:Sys)(a b:K):Prop:=X.bQ a b\/Th (TC (Th X.bQ X.L)) X.bQ a b
def eS(X:Sys)(a b:K):Prop:=X.aL b a/\X.ord b/\X.ord a
def bZ(X:Sys)(a b:K):Prop:=Th (Th X.sends X.eS) X.M a b/\X.G a b
def misses(X:Sys):K->K->Prop:=Th X.rd X.bh
def comm(X:Sys)(a b:K):Prop:=(X.rd b a\/X.bh a b)\/X.misses a b
def sJ(X:Sys):Prop:=∀i,¬TC (λa b=>X.h a b\/X.rd a b) i i
section
variable {f:ν->ν}{X Y:Sys}
end
end Sys
def WH(es:W Ev)(rs ps:W S):Sys where
 C i k:=i<es.length/\k<es.length/\ZJ i (ev es i) k (ev es k)=U
 G i k:=i<es.length/\k<es.length/\Ai i (ev es i) k (ev es k)=U
 J i k:=i<es.length/\k<es.length/\Ag (ev es i) (ev es k)=U
 N i k:=i<es.length/\k<es.length/\An i (ev es i) k (ev es k)=U
 L i k:=i<es.length/\k<es.length/\Aj i (ev es i) k=U
 h i k:=i<es.length/\k<es.length/\YF (ev es i).h (k:S)=U
 sends i k:=i<es.length/\k<es.length/\Ak i (ev es i) k (ev es k)=U
 M i k:=i<es.length/\k<es.length/\Al i (ev es i) k (ev es k)=U
 rd i k:=k<es.length/\i<es.length/\rs.getD i (-1)=(k:S)
 bh i k:=i<es.length/\k<es.length/\ZQ es ps i k=U
 ord i:=(ev es i).q≠0
structure WJ(n:ν)(r:σ ν)(R:ν->ν->Prop):Prop where
 rel:Rel n r
 bit:∀a b,WS r a b↔R a b
section
variable {n:ν}{r o:σ ν}{R O:ν->ν->Prop}
def WJ.or(d:WJ n r R)(c:WJ n o O):WJ n (dY r o) λa b=>R a b\/O a b:=
 ⟨pG d.rel c.rel,λa b=>by rw[TU d.rel.len c.rel.len,d.bit,c.bit]⟩
def WJ.and(c:WJ n r R)(d:WJ n o O):WJ n (lR r o) λa b=>R a b/\O a b:=
 ⟨DJ c.rel,λa b=>by rw[Cj c.rel.len,c.bit,d.bit]⟩
def WJ.jU(q:n<=64)(d:WJ n r R)(j:WJ n o O):WJ n (YB r o) (Th R O):=
 ⟨pO q d.rel j.rel,λa b=>by
  rw[Cl q d.rel];constructor
  ·rintro⟨c,f,i⟩;exact⟨c,(d.bit _ _).1 f,(j.bit _ _).1 i⟩
  ·rintro⟨c,f,i⟩;exact⟨c,(d.bit _ _).2 f,(j.bit _ _).2 i⟩⟩
theorem WJ.cl(c:n<=64)(d:WJ n r R):WJ n (oM r) (TC R):=
 ⟨(Ct c d.rel).1,λa b=>by
  rw[(Ct c d.rel).2]
  grind [WJ.bit,TC.mono]⟩
def WJ.tJ(d:n<=64)(c:WJ n r R):WJ n (qM r) λa b=>R b a:=
 ⟨(Cq d c.rel).1,λa b=>by rw[(Cq d c.rel).2,c.bit]⟩
def WJ.nM(d:n<=64)(c:WJ n r R):cJ r=U↔∃i,R i i:=by
 rw[Qp d c.rel];exact⟨λ⟨i,h⟩=>⟨i,(c.bit _ _).1 h⟩,λ⟨i,h⟩=>⟨i,(c.bit _ _).2 h⟩⟩
def WJ.pJ(c:n<=64)(d:WJ n r R):CK r=U↔∃i,TC R i i:=WJ.nM c (d.cl c)
end
section
variable {es:σ Ev}{rs:σ ω}
def UR(c:es.length<=64)(d:rs.length=es.length)(ps:W S):WJ es.length ((WG es).D rs) (WH es rs ps).rd:=⟨(Kv c d).1,(Kv c d).2⟩
def OQ(c:es.length<=64)(d:rs.length=es.length)(ps:W S):WJ es.length ((WG es).bQ ((WG es).D rs)) (WH es rs ps).bQ :=
 (UR c d ps).and (O:=(WH es rs ps).G) ⟨(wV c).1,(wV c).2⟩
def Kw(c:es.length<=64)(ps:W S):WJ es.length (WG es).L (WH es rs ps).L:=⟨(Kr c).1,(Kr c).2⟩
def QO(c:es.length<=64)(d:rs.length=es.length)(ps:W S):WJ es.length ((WG es).aL ((WG es).D rs)) (WH es rs ps).aL :=
 (OQ c d ps).or ((((OQ c d ps).jU c (Kw c ps)).cl c).jU c (OQ c d ps))
def kJg(c:es.length<=64)(d:rs.length=es.length)(ps:W S):WJ es.length (eS es ((WG es).aL ((WG es).D rs))) (WH es rs ps).eS:=by
 have h:=kKY c (QO c d ps).rel;refine⟨h.1,λa b=>?_⟩;rw[h.2,(QO c d ps).bit];exact Iff.rfl
def kIW(c:es.length<=64)(d:rs.length=es.length)(ps:W S):WJ es.length ((WG es).bZ ((WG es).aL ((WG es).D rs))) (WH es rs ps).bZ:=by
 unfold Ex.bZ;rw[II];exact((WJ.jU c (R:=(WH es rs ps).sends) ⟨(Ks c).1,(Ks c).2⟩ (kJg c d ps)).jU c (O:=(WH es rs ps).M) ⟨(Kt c).1,(Kt c).2⟩).and (O:=(WH es rs ps).G) ⟨(wV c).1,(wV c).2⟩
def kHX(c:es.length<=64)(ps:W S):WJ es.length (YP es ps) (WH es rs ps).bh:=⟨(Ku c ps).1,(Ku c ps).2⟩
theorem xT{b:H}{p:Prop}(h:b=U↔p):b=false↔¬p:=by
 grind
def KZ(c:es.length<=64)(f:rs.length=es.length)(ps:W S):(WG es).hangsOn ((WG es).D rs)=false↔(WH es rs ps).sJ:=by
 have h:=(WJ.or (R:=(WH es rs ps).h) ⟨(Kq c).1,(Kq c).2⟩ (UR c f ps)).pJ c;unfold Ex.hangsOn;rw[xT h];exact⟨λk i d=>k ⟨i,d⟩,λk ⟨i,d⟩=>k i d⟩
def ED{r:W K}{R:K->K->Prop}(d:n<=64)(h:WJ n r R)(i k:K)(c:k<n):(!cD r (i:S) (k:S))=U↔¬R i k:=by
 rw[xy,xT ((qS r i k (by omega)).trans (h.bit i k))]
end
section
variable {f:ν->ν}{es es':σ Ev}
end
theorem Ax(es:W Ev)(i:K)(h:i<es.length):ev es i=es[i]:=by
 unfold ev;rw[y1,xg h];rfl
theorem Ad(es:W Ev)(i:K)(h:es.length<=i):ev es i=Ev.zero:=by
 unfold ev;rw[y1,List.getElem?_eq_none h];rfl
theorem Ap(es fs:W Ev)(i:K):ev (es++fs) i=if i<es.length then ev es i else ev fs (i-es.length):=by
 unfold ev
 grind
theorem Aq(g:Ev->Ev)(es:W Ev)(i:K):ev (es.map g) i=if i<es.length then g (ev es i)else Ev.zero:=by
 by_cases h:i<es.length
 ·simp_all [N,Ax]
 simp_all [I,Ad]
section
variable {m:Ew}{es':σ Ev}{s t:P.VW}
end
section
variable {es es':σ Ev}
end
def cB(m:K)(p:K->H):K:=((xF m).filter p).length
theorem xG(m:K)(p:K->H):cB (m+1) p=cB m p+if p m=U then 1 else 0:=by
 unfold cB
 grind [List.range_succ]
theorem zI{p q:K->H}:∀m,(∀k,k<m->p k=U->q k=U)->cB m p<=cB m q
 |0,_=>x1 _
 |m+1,h=>by
  rw[xG,xG];have ih:=zI m λk c=>h k (by omega)
  grind
theorem FL{p q:K->H}:∀m,(∀k,k<m->p k=U->q k=U)->(∃k,k<m/\q k=U/\p k=false)->cB m p<cB m q
 |0,_,⟨k,hk,_⟩=>η hk (by omega)
 |m+1,h,⟨k,hk,h1,h2⟩=>by
  rw[xG,xG];by_cases e:k=m
  ·subst e;have ih:=zI k λj c=>h j (by omega)
   grind
  ·have ih:=FL m (λj c=>h j (by omega)) ⟨k,by omega,h1,h2⟩
   grind
theorem Kx{s p q:K->H}:∀m,(∀k,k<m->(s k=U↔p k=U\/q k=U)/\¬(p k=U/\q k=U))->cB m s=cB m p+cB m q
 |0,_=>Z
 |m+1,h=>by
  rw[xG,xG,xG,Kx m λk c=>h k (by omega)]
  grind
theorem kMQ(m:K)(h:∀k,k<m->p k=false):cB m p=0:=by
 have:=zI (p:=p) (q:=λ_=>false) m (λk d e=>by grind);have c:cB m (λ_=>false)=0:=by unfold cB;simp
 omega
theorem Ky(rs p:W S)(i:K)(c:i<p.length):∀m,m<=i->((xF m).foldl (rI rs i) p).length=p.length/\∀j,((xF m).foldl (rI rs i) p).getD j 0=if j<m/\rs.getD j (-1)=rs.getD i (-1)/\p.getD i 0<=p.getD j 0 then p.getD j 0+1 else p.getD j 0
 |0,_=>⟨Z,λj=>by simp⟩
 |m+1,hm=>by
  rw[jT];obtain⟨d,f⟩:=Ky rs p i c m (by omega)
  grind [rI]
theorem Kz(rs ds p:W S)(i:K)(d:i<p.length):(jA rs ds p i).length=p.length/\(rs.getD i (-1)=-1->∀j,(jA rs ds p i).getD j 0=if j=i then -1 else p.getD j 0)/\(rs.getD i (-1)≠-1->∀j,(jA rs ds p i).getD j 0=if j=i then nV rs i-ds.getD i 0 else if j<i/\rs.getD j (-1)=rs.getD i (-1)/\nV rs i-ds.getD i 0<=p.getD j 0 then p.getD j 0+1 else p.getD j 0):=by
 unfold jA;by_cases c:rs.getD i (-1)=-1
 ·grind
 ·rw[I (by simpa using c)];obtain⟨f,o⟩:=Ky rs (p.set i (nV rs i-ds.getD i 0)) i (by simpa using d) i (x1 _)
  grind
structure Ord(es:σ Ev)(rs:σ ω)(B:ν->ν->ζ):Prop where
 same:∀i k,B i k=U->i<es.length/\k<es.length/\rs.getD i (-1)=rs.getD k (-1)/\rs.getD i (-1)≠-1
 irr:∀i,B i i=false
 trans:∀i j k,B i j=U->B j k=U->B i k=U
 total:∀i k,i<es.length->k<es.length->i≠k->rs.getD i (-1)=rs.getD k (-1)->rs.getD i (-1)≠-1->B i k=U\/B k i=U
 first:∀i k,B i k=U->(ev es k).j≠-1
def Ord.not(h:Ord es rs B){i:ν}(e:B i k=U):B k i=false:=by
 cases c:B k i
 ·rfl
 ·have:=h.trans i k i e c;rw[h.irr]at this;cases this
def QG(f g:K->S):∀(L:W K),(∀i∈L,0<=g i/\g i<f i)->YK (L.map f) (L.map g)
 |[],_=>trivial
 |a::L,h=>⟨(h a (by simp)).1,(h a (by simp)).2,QG f g L λi c=>h i (x7 _ c)⟩
def NJ:∀{c ds:W S},YK c ds->ds∈XH c
 |[],[],_=>by simp[XH]
 |b::c,d::ds,h=>by
  simp only[XH,xk,xl,List.mem_range];exact⟨ds,NJ h.2.2,d.toNat,by have:=h.1;have:=h.2.1;omega,by have:=h.1;rw[Int.toNat_of_nonneg this]⟩
 |[],d::ds,h=>by simp[YK]at h
 |b::c,[],h=>by simp[YK]at h
theorem K5(f:K->S)(n i:K)(h:i<n):((xF n).map f).getD i 0=f i:=by
 grind
theorem VN{es:W Ev}{rs:W S}{B:K->K->H}(z:rs.length=es.length)(h:Ord es rs B)(ds:W S)(u:∀i,i<es.length->ds.getD i 0=(cB i (B i):K)):∀m,m<=es.length->((xF m).foldl (jA rs ds) (x2 rs.length 0)).length=es.length/\∀i,i<m->rs.getD i (-1)≠-1->((xF m).foldl (jA rs ds) (x2 rs.length 0)).getD i 0=(cB m λk=>B k i:K)
 |0,_=>⟨by simp[z],λi y=>η y (by omega)⟩
 |m+1,hm=>by
  rw[jT];obtain⟨D,o⟩:=VN z h ds u m (by omega);generalize(xF m).foldl (jA rs ds) (x2 rs.length 0)=p at D o;obtain⟨F,A,C⟩:=Kz rs ds p m (by omega);refine⟨by omega,λi y j=>?_⟩;rw[xG];by_cases c:rs.getD m (-1)=-1
  ·rw[A c i];have x:i≠m:=λe=>j (e▸c)
   rw[I x,o i (by omega) j]
   grind [Ord.same]
  ·rw[C c i];have d:nV rs m-ds.getD m 0=(cB m λk=>B k m:K):=by
    have e1:nV rs m=(cB m λk=>rs.getD k (-1)==rs.getD m (-1):K):=Z;have e2:=Kx (s:=λk=>rs.getD k (-1)==rs.getD m (-1)) (p:=λk=>B k m) (q:=λk=>B m k) m λk f=>by
     refine⟨⟨λe=>?_,λe=>?_⟩,λe=>?_⟩
     ·grind [Ord.total]
     ·grind [Ord.same]
     ·have:=h.not e.1
      grind
    grind
   rw[d];by_cases e:i=m
   ·rw[N e,e,h.irr];simp
   ·rw[I e,o i (by omega) j];by_cases e2:rs.getD i (-1)=rs.getD m (-1)
    ·rcases h.total i m (by omega) (by omega) e e2 j with e3|e3
     ·have E:cB m (λk=>B k i)<cB m λk=>B k m:=FL m (λk _ f=>h.trans _ _ _ f e3) ⟨i,by omega,e3,h.irr i⟩;rw[I (by omega),h.not e3];simp
     ·have E:cB m (λk=>B k m)<=cB m λk=>B k i:=zI m λk _ f=>h.trans _ _ _ f e3
      grind
    grind [Ord.same]
theorem EL(es:W Ev)(i:K)(h:i<es.length):(WQ es).getD i (-1)=if(ev es i).kind=1 then(ev es i).z else -1:=by
 grind [WQ,Ax]
theorem OU(es:W Ev):(WQ es).length=es.length:=by simp[WQ]
def OE(es:W Ev):Prop:=∀i,i<es.length->(ev es i).kind=1->(ev es i).z≠-1
theorem kJW(G:OE es)(h:Ord es (WQ es) B):∃ds∈XH (XR es (WQ es)),∀i k,i<es.length->k<es.length->ZQ es (WT (WQ es) ds) i k=B i k:=by
 have F:=OU es;refine⟨(xF (WQ es).length).map λi=>((cB i (B i):ν):S),NJ ?_,λi k c d=>?_⟩
 ·unfold XR;refine QG _ _ _ λi c=>?_;have D:i<es.length:=by grind
  refine⟨by omega,?_⟩;unfold nW;have:cB i (B i)<=cB i (lY es (WQ es) i):=zI i λk d e=>by
   obtain⟨_,_,C,x⟩:=h.same _ _ e;have J:=h.first _ _ e
   simp_all [lY,xd,υ,ne_eq,π]
  unfold cB at this⊢;omega
 ·obtain⟨_,f⟩:=VN F h ((xF (WQ es).length).map λi=>((cB i (B i):ν):S)) (λi c=>K5 (λi=>((cB i (B i):ν):S)) (WQ es).length i (by omega)) es.length (x1 _);have A:WT (WQ es) ((xF (WQ es).length).map λi=>((cB i (B i):ν):S))=(xF es.length).foldl (jA (WQ es) ((xF (WQ es).length).map λi=>((cB i (B i):ν):S))) (x2 (WQ es).length 0):=by
   grind [WT]
  rw[A];generalize(xF es.length).foldl (jA (WQ es) ((xF (WQ es).length).map λi=>((cB i (B i):ν):S))) (x2 (WQ es).length 0)=p at f;have u:∀i k,i<es.length->k<es.length->B i k=U->p.getD i 0<p.getD k 0:=λi k c d e=>by
   obtain⟨_,_,C,x⟩:=h.same _ _ e;rw[f i c x,f k d (by omega)];have:=FL es.length (p:=λj=>B j i) (q:=λj=>B j k) (λj _ E=>h.trans _ _ _ E e) ⟨i,c,e,h.irr i⟩;omega
  rw[Bool.eq_iff_iff];unfold ZQ;simp only[xd,π,φ];constructor
  ·rintro⟨⟨⟨y,H⟩,K⟩,L⟩;have z:=EL es i c;have I:=EL es k d;rw[N y]at z;rw[N H]at I;have o:i≠k:=λe=>by grind
   rcases h.total i k c d o (by omega) (by rw[z];exact G i c y)with e|e
   ·exact e
   grind
  grind [Ord.same,EL]
theorem kMM(C:rs.length=es.length)(h:Ord es rs B):∃ds∈XH (XR es rs),(WT rs ds).length=es.length/\∀i k,i<es.length->k<es.length->rs.getD i (-1)≠-1->rs.getD k (-1)=rs.getD i (-1)->((WT rs ds).getD i 0<(WT rs ds).getD k 0↔B i k=U):=by
 refine⟨(xF rs.length).map λi=>((cB i (B i):K):S),NJ ?_,?_⟩
 ·unfold XR;refine QG _ _ _ λi c=>?_;refine⟨by omega,?_⟩;unfold nW;have:cB i (B i)<=cB i (lY es rs i):=zI i λk u e=>by
   obtain⟨_,_,z,o⟩:=h.same _ _ e;have D:=h.first _ _ e
   simp_all [lY,xd,υ,ne_eq,π]
  unfold cB at this⊢;omega
 ·obtain⟨y,d⟩:=VN C h ((xF rs.length).map λi=>((cB i (B i):K):S)) (λi c=>K5 (λi=>((cB i (B i):K):S)) rs.length i (by omega)) es.length (x1 _);have x:WT rs ((xF rs.length).map λi=>((cB i (B i):K):S))=(xF es.length).foldl (jA rs ((xF rs.length).map λi=>((cB i (B i):K):S))) (x2 rs.length 0):=by
   grind [WT]
  rw[x];generalize(xF es.length).foldl (jA rs ((xF rs.length).map λi=>((cB i (B i):K):S))) (x2 rs.length 0)=p at y d;have f:∀i k,i<es.length->k<es.length->B i k=U->p.getD i 0<p.getD k 0:=λi k c u e=>by
   obtain⟨_,_,z,o⟩:=h.same _ _ e;rw[d i c o,d k u (by omega)];have:=FL es.length (p:=λj=>B j i) (q:=λj=>B j k) (λj _ A=>h.trans _ _ _ A e) ⟨i,c,e,h.irr i⟩;omega
  grind [Ord.total]
def K7(es:W Ev):Prop:=∀i k,i<es.length->k<es.length->i≠k->(ev es i).kind=1->(ev es k).kind=1->(ev es i).z=(ev es k).z->(ev es k).j=-1->k<i/\(ev es i).j≠-1
structure PlOk(es:σ Ev)(rs p:σ ω)(m:ν):Prop where
 pos:∀i,i<m->rs.getD i (-1)≠-1->0<=p.getD i 0
 inj:∀i k,i<m->k<m->i≠k->rs.getD i (-1)≠-1->rs.getD i (-1)=rs.getD k (-1)->p.getD i 0≠p.getD k 0
 first:∀i,i<m->rs.getD i (-1)≠-1->(ev es i).j=-1->p.getD i 0=0
theorem La:∀{c ds:W S},YK c ds->∀i,i<c.length->0<=ds.getD i 0/\ds.getD i 0<c.getD i 0
 |[],[],_,i,h=>by simp at h
 |b::c,d::ds,h,0,_=>⟨h.1,h.2.1⟩
 |b::c,d::ds,h,i+1,hi=>by
  have:=La h.2.2 i (by simpa using hi);simpa using this
 |[],d::ds,h,_,_=>by grind
 |b::c,[],h,_,_=>by simp[YK]at h
theorem TF{i:K}(h:i<es.length)(e:(WQ es).getD i (-1)≠-1):(ev es i).kind=1/\(WQ es).getD i (-1)=(ev es i).z:=by
 grind [EL]
def kNu(es:W Ev)(rs:W S):Prop:=∀i k,i<es.length->k<es.length->i≠k->rs.getD i (-1)=rs.getD k (-1)->rs.getD i (-1)≠-1->(ev es k).j=-1->k<i/\(ev es i).j≠-1
theorem VO{es:σ Ev}{rs:σ ω}(E:rs.length=es.length)(G:kNu es rs){ds:σ ω}(F:YK (XR es rs) ds):∀m,m<=es.length->((xF m).foldl (jA rs ds) (x2 rs.length 0)).length=es.length/\PlOk es rs ((xF m).foldl (jA rs ds) (x2 rs.length 0)) m
 |0,_=>⟨by simp[E],λi h=>η h (by omega),λi k h=>η h (by omega),λi h=>η h (by omega)⟩
 |m+1,hm=>by
  rw[jT];obtain⟨L,u⟩:=VO E G F m (by omega);generalize(xF m).foldl (jA rs ds) (x2 rs.length 0)=p at L u;obtain⟨S,J,K⟩:=Kz rs ds p m (by omega);refine⟨by omega,?_⟩;by_cases c:rs.getD m (-1)=-1
  ·have g:=J c;refine⟨λi o d=>?_,λi k o H x d D=>?_,λi o d q=>?_⟩
   ·have:i≠m:=λe=>d (e▸c)
    rw[g,ι this];exact u.pos i (by omega) d
   ·have e1:i≠m:=λe=>d (e▸c)
    have e2:k≠m:=λe=>d (by grind)
    rw[g,g,ι e1,ι e2];exact u.inj i k (by omega) (by omega) x d D
   ·have:i≠m:=λe=>d (e▸c)
    rw[g,ι this];exact u.first i (by omega) d q
  ·have g:=K c;have V:(XR es rs).length=es.length:=by simp[XR,E]
   obtain⟨O,I⟩:=La F m (by omega);have f:(XR es rs).getD m 0=nW es rs m:=by
    grind [XR]
   have e1:nV rs m=(cB m λk=>rs.getD k (-1)==rs.getD m (-1):ν):=Z;have e2:nW es rs m=1+(cB m (lY es rs m):ν):=Z;have M:cB m (lY es rs m)<=cB m λk=>rs.getD k (-1)==rs.getD m (-1):=zI m λk _ e=>by
    unfold lY at e
    grind
   rw[f,e2]at I;have y:0<=nV rs m-ds.getD m 0:=by omega
   have C:(ev es m).j=-1->nV rs m-ds.getD m 0=0:=λq=>by
    have z:cB m λk=>rs.getD k (-1)==rs.getD m (-1)=0:=kMQ m λk H=>by
     rw[beq_eq_false_iff_ne];intro e;have:=(G k m (by omega) (by omega) (by omega) e (by omega) q).1;omega
    rw[e1];omega
   have A:∀i,i<m->rs.getD i (-1)=rs.getD m (-1)->(ev es i).j=-1->1<=nV rs m-ds.getD m 0:=λi o D q=>by
    have N:cB m (lY es rs m)<cB m λk=>rs.getD k (-1)==rs.getD m (-1):=FL m λk _ e=>by
     grind [lY] ⟨i,o,by simpa using D,by unfold lY;simp[q]⟩
    rw[e1];omega
   generalize nV rs m-ds.getD m 0=W at g y C A;refine⟨λi o d=>?_,λi k o H x d D=>?_,λi o d q=>?_⟩
   ·rw[g];by_cases e:i=m
    ·omega
    ·rw[ι e];have:=u.pos i (by omega) d
     split<;>omega
   ·rw[g,g];by_cases e:i=m
    ·grind
    ·rw[ι e];by_cases e':k=m
     ·grind
     ·rw[ι e']
      grind [PlOk.inj]
   ·rw[g];by_cases e:i=m
    ·grind
    ·rw[ι e]
     grind [PlOk.first]
theorem OO(j:K7 es)(f:ds∈XH (XR es (WQ es))):PlOk es (WQ es) (WT (WQ es) ds) es.length:=by
 have:=(VO (OU es) (λi k c d ne e r t=>by obtain⟨o,u⟩:=TF c r;obtain⟨q,x⟩:=TF d (by omega);exact j i k c d ne o q (by omega) t) (yJ f) es.length (x1 _)).2
 grind [WT,OU]
theorem Lb(ps:W S)(i k:K):ZQ es ps i k=U↔(ev es i).kind=1/\(ev es k).kind=1/\(ev es i).z=(ev es k).z/\ps.getD i 0<ps.getD k 0:=by
 unfold ZQ
 grind
theorem DM(c:OE es){i:K}(h:i<es.length)(k:(ev es i).kind=1):(WQ es).getD i (-1)=(ev es i).z/\(WQ es).getD i (-1)≠-1:=by
 have r:=EL es i h;rw[N k]at r;exact⟨r,by rw[r];exact c i h k⟩
theorem Lc{es:W Ev}{v:S}{ps:W S}{w:K}(i:(ev es w).kind=1)(o:(ev es w).z=v)(j:0<=ps.getD w 0)(f:∀k,k<es.length->(ev es k).kind=1->(ev es k).z=v->k≠w->ps.getD k 0<ps.getD w 0):∀m,m<=es.length->(w<m->(xF m).foldl (qP v ps es) (0, -1)=((ev es w).value,ps.getD w 0))/\(m<=w->((xF m).foldl (qP v ps es) (0, -1)).2<ps.getD w 0)
 |0,_=>⟨λh=>η h (by omega),λ_=>by grind⟩
 |m+1,hm=>by
  rw[jT];obtain⟨c,d⟩:=Lc i o j f m (by omega);generalize(xF m).foldl (qP v ps es) (0, -1)=st at c d⊢;refine⟨λh=>?_,λh=>?_⟩
  ·by_cases e:m=w
   ·simp_all [x1,qP,N,xd,π,φ]
   grind [qP]
  grind [qP]
def kLN{ps:W S}{w:K}(d:w<es.length)(f:(ev es w).kind=1)(j:(ev es w).z=v)(i:0<=ps.getD w 0)(c:∀k,k<es.length->(ev es k).kind=1->(ev es k).z=v->k≠w->ps.getD k 0<ps.getD w 0):oH es v ps=(ev es w).value:=by
 unfold oH;rw[(Lc f j i c es.length (x1 _)).1 d]
theorem OS(c:W S)(cs:W (W S))(d:S)(ds:W S):YT (c::cs) (d::ds)=c.getD d.toNat (-1)::YT cs ds:=by
 unfold YT;rw[x3,List.range_succ_eq_map,xh,List.map_map];rfl
theorem kKn(l:W S)(x:S)(h:x∈l):∃k,k<l.length/\l.getD k (-1)=x:=by
 obtain⟨k,c,e⟩:=List.getElem_of_mem h;exact⟨k,c,by grind⟩
theorem Ld:∀(cs:W (W S)) (l:W S),l.length=cs.length->(∀i,i<cs.length->l.getD i (-1)∈cs.getD i [])->∃ds∈XH (YO cs),YT cs ds=l
 |[],[],_,_=>⟨[],by simp[YO,XH],Z⟩
 |c::cs,x::l,h,hm=>by
  obtain⟨ds,d,e⟩:=Ld cs l (by simpa using h) (λi f=>by simpa using hm (i+1) (by simpa using f));obtain⟨k,o,j⟩:=kKn c x (by simpa using hm 0 (by simp));refine⟨(k:S)::ds,NJ ⟨by omega,by grind,yJ d⟩,?_⟩
  grind [OS]
 |[],x::l,h,_=>by simp at h
 |c::cs,[],h,_=>by simp at h
theorem Le:∀{cs:W (W S)} {ds:W S},YK (YO cs) ds->∀i,i<cs.length->(YT cs ds).getD i (-1)∈cs.getD i []
 |[],[],_,i,h=>by simp at h
 |c::cs,d::ds,h,0,_=>by
  rw[OS];have f:=h.1;have j:d<(c.length:S):=h.2.1
  grind
 |c::cs,d::ds,h,i+1,hi=>by
  rw[OS];have:=Le (cs:=cs) (ds:=ds) h.2.2 i (by simpa using hi);simpa using this
 |[],d::ds,h,_,_=>by grind
 |c::cs,[],h,_,_=>by simp[YO,YK]at h
section
variable {pi:ω->ω}{f:ν->ν}{es es':σ Ev}
end
theorem AB(s k:K):YF s (k:S)=U↔k<64/\s.testBit k=U:=by
 grind [Ch,YF,cT]
theorem LF(a b k:K):YF (a|||b) (k:S)=U↔YF a (k:S)=U\/YF b (k:S)=U:=by
 rw[AB,AB,AB,Nat.testBit_or,y2]
 grind
theorem Ae(k:K):YF 0 (k:S)=false:=by
 grind [YF,AB]
theorem Lf(n k:K):YF (cT (n:S)) (k:S)=U↔n<64/\k=n:=by
 rw[AB];by_cases h:n<64
 ·rw[Cg n k h,φ];omega
 ·have:cT (n:S)=0:=by unfold cT;rw[N (by omega)]
  rw[this];simp[h]
theorem A4(s n k:K)(c:n<64):YF (ZL s (n:S)) (k:S)=U↔k<64/\n<=k/\YF s ((k-n:K):S)=U:=by
 rw[AB,AB];unfold ZL;rw[I (by omega),xz,show(18446744073709551616:K)=2^64 by decide,Nat.testBit_mod_two_pow,Nat.testBit_mul_two_pow]
 grind
def HB(n s:K):Prop:=∀k:K,YF s (k:S)=U->k<n
def HB.mono{m:ν}(h:HB n s)(e:n<=m):HB m s:=λk c=>by have:=h k c;omega
def HB.or{a b:ν}(h:HB n a)(k:HB n b):HB n (a|||b):=λj c=>by
 rcases(LF a b j).1 c with e|e
 ·exact h j e
 ·exact k j e
theorem Am(n:K):HB n 0:=λk c=>by grind [Ae]
theorem NB(n:K):HB (n+1) (cT (n:S)):=λk c=>by grind [Lf]
def SR(es:W Ev):Prop:=∀i,(ev es i).kind=0->(ev es i).step=U->(ev es (i+1)).kind=1/\(ev es (i+1)).step=U
theorem A5{fs:W Ev}(h:SR es)(k:SR fs):SR (es++fs):=λi d f=>by
 rw[Ap]at d f⊢;by_cases c:i<es.length
 ·rw[N c]at d f;obtain⟨a,b⟩:=h i d f
  grind [Ad,Ev.zero]
 ·rw[I c]at d f;rw[I (by omega),show i+1-es.length=i-es.length+1 by omega];exact k _ d f
def GO(h:¬(e.kind=0/\e.step=U)):SR [e]:=λi d c=>by
 cases i with
 |zero=>exact η ⟨d,c⟩ h
 |succ n=>rw[Ad _ _ (by simp)]at c;simp[Ev.zero]at c
def Lg{a:Ev}(h:b.kind=1/\b.step=U):SR [a,b]:=λi c d=>by
 cases i with
 |zero=>exact h
 |succ n =>
  cases n with
  |zero=>rw[show ev [a,b] (0+1)=b from rfl,h.1]at c;simp at c
  |succ n=>rw[Ad _ _ (by simp)]at d;simp[Ev.zero]at d
theorem kNt:SR []:=λi _ c=>by grind [Ad,Ev.zero]
def SW(es:W Ev):Prop:=∀i,(ev es i).kind=1->(ev es i).step=U->0<i/\(ev es (i-1)).kind=0/\(ev es (i-1)).step=U
theorem A6{fs:W Ev}(h:SW es)(k:SW fs):SW (es++fs):=λi d f=>by
 rw[Ap]at d f⊢;by_cases c:i<es.length
 ·rw[N c]at d f;obtain⟨a,b⟩:=h i d f
  grind
 ·rw[I c]at d f;obtain⟨a,b⟩:=k _ d f
  grind
def FP(h:¬(e.kind=1/\e.step=U)):SW [e]:=λi d c=>by
 cases i with
 |zero=>exact η ⟨d,c⟩ h
 |succ n=>rw[Ad _ _ (by simp)]at c;simp[Ev.zero]at c
def Li{a:Ev}(h:a.kind=0/\a.step=U):SW [a,b]:=λi c d=>by
 cases i with
 |zero=>rw[show ev [a,b] 0=a from rfl,h.1]at c;simp at c
 |succ n =>
  cases n with
  |zero=>exact⟨by omega,h⟩
  |succ n=>rw[Ad _ _ (by simp)]at d;simp[Ev.zero]at d
theorem kNq:SW []:=λi _ c=>by grind [Ad,Ev.zero]
def yP(s:VW):Prop:=s.kind=0\/s.kind=1\/s.kind=2\/s.kind=3->0<=s.z/\s.z<3
structure EvIn(n:ν)(th:ω)(e:Ev):Prop where
 thr:e.j=th
 z:ZA e=U->0<=e.z/\e.z<3
 hb:HB n e.h
def EvIn.mono{m:ν}{th:ω}(h:EvIn n th e)(k:n<=m):EvIn m th e:=⟨h.thr,h.z,h.hb.mono k⟩
structure XM(m:Ew):Prop where
 K:∀e∈m.E,EvIn m.E.length m.j e
 mb:∀j,HB m.E.length (m.made.getD j 0)
 ab:HB m.E.length m.A
 sr:SR m.E
 sw:SW m.E
theorem XM.sW{m':Ew}(h:XM m)(L:σ Ev)(o:m'.E=m.E++L)(u:m'.j=m.j)(q:m'.made=m.made)(i:m'.A=m.A)(f:∀e∈L,EvIn (m.E.length+L.length) m.j e)(x:SR L)(y:SW L):XM m':=by
 have d:m'.E.length=m.E.length+L.length:=by grind
 refine⟨λe c=>?_,λj=>?_,?_,by grind [A5,XM.sr],by grind [A6,XM.sw]⟩
 ·rw[d,u];rw[o]at c
  rcases List.mem_append.1 c with c|c
  ·exact(h.K e c).mono (by omega)
  ·exact f e c
 ·rw[d,q];exact(h.mb j).mono (by omega)
 ·rw[d,i];exact h.ab.mono (by omega)
theorem kKh(l:W K)(i j x:K):(l.set i x).getD j 0=x\/(l.set i x).getD j 0=l.getD j 0:=by
 grind
theorem XM.aO(h:XM m)(d v:ω)(c:HB m.E.length s):XM (m.aO d v s):=by
 unfold Ew.aO
 split
 ·exact h
 ·refine⟨h.K,λj=>?_,h.ab,h.sr,h.sw⟩
  grind [kKh,XM.mb]
theorem XM.Ea(h:XM m)(a:ZD):HB m.E.length (m.Ea a):=by
 grind [Ew.Ea,Am,XM.mb]
theorem kIQ(k:S):k=0\/k=1\/k=2\/k=3\/k=4\/k=5\/(k==0)=false/\(k==1)=false/\(k==2)=false/\(k==3)=false/\(k==4)=false/\(k==5)=false:=by
 grind
theorem XM.bU(h:XM m)(i:yP st):XM (m.bU st):=by
 have rd:∀n,st.kind=0\/st.kind=2\/st.kind=3->HB n m.A->EvIn n m.j {m.V 0 st with value:=(m.Y%4:ν)}:=λn q f=>⟨Z,λ_=>i (by omega),f⟩
 have wr:∀n v (s:ν),st.kind=1\/st.kind=2\/st.kind=3->HB n m.A->HB n s->EvIn n m.j {m.V 1 st with value:=v,h:=m.A|||s}:=λn v s q f u=>⟨Z,λ_=>i (by omega),f.or u⟩
 unfold Ew.bU
 rcases kIQ st.kind with e|e|e|e|e|e|⟨o,e1,e2,e3,e4,e5⟩
 ·rw[e];refine XM.aO (m:=m.bE st) (XM.sW (m':=m.bE st) h [{m.V 0 st with value:=(m.Y%4:ν)}] Z Z Z Z (λx d=>?_) (GO λc=>?_) (FP λc=>by grind [Ew.V])) _ _ ?_
  ·rw[xm]at d;rw[d];exact rd _ (x5 e) (h.ab.mono (by simp))
  ·simp_all [Ew.V]
  ·show HB (m.E++[_]).length _
   grind [NB]
 ·rw[e];refine XM.sW h [{m.V 1 st with value:=m.value st.a,h:=m.A|||m.Ea st.a}] Z Z Z Z (λx d=>?_) (GO λc=>?_) (FP λc=>by simp_all [Ew.V])
  ·rw[xm]at d;rw[d];exact wr _ _ _ (x5 e) (h.ab.mono (by simp)) ((h.Ea _).mono (by simp))
  grind [Ew.V]
 ·rw[e];show XM (m.step st);unfold Ew.step;rw[e];refine XM.aO (m:=(m.bE st).bX st ((m.value st.a+(m.bE st).aX m.E.length)%4) (m.Ea st.a|||cT (m.E.length:ν))) (XM.sW h [{m.V 0 st with value:=(m.Y%4:ν)},{m.V 1 st with value:=(m.value st.a+(m.bE st).aX m.E.length)%4,h:=m.A|||(m.Ea st.a|||cT (m.E.length:ν))}] ?_ Z Z Z (λx d=>?_) (Lg ⟨Z,by simp[Ew.V,e]⟩) (Li ⟨Z,by simp[Ew.V,e]⟩)) _ _ ?_
  ·show m.E++[_]++[_]=_;rw[x6];rfl
  ·simp only[x4,xo,θ]at d
   rcases d with rfl|rfl
   ·exact rd _ (by omega) (h.ab.mono (by simp))
   ·exact wr _ _ _ (by omega) (h.ab.mono (by simp)) (((h.Ea _).mono (by simp)).or ((NB _).mono (by simp)))
  ·show HB (m.E++[_]++[_]).length _;refine(NB _).mono ?_;simp
 ·rw[e];show XM (m.step st);unfold Ew.step;rw[e];refine XM.aO (m:=(m.bE st).bX st (m.value st.a) (m.Ea st.a)) (XM.sW h [{m.V 0 st with value:=(m.Y%4:ν)},{m.V 1 st with value:=m.value st.a,h:=m.A|||m.Ea st.a}] ?_ Z Z Z (λx d=>?_) (Lg ⟨Z,by simp[Ew.V,e]⟩) (Li ⟨Z,by simp[Ew.V,e]⟩)) _ _ ?_
  ·show m.E++[_]++[_]=_;rw[x6];rfl
  ·simp only[x4,xo,θ]at d
   rcases d with rfl|rfl
   ·exact rd _ (by omega) (h.ab.mono (by simp))
   ·exact wr _ _ _ (by omega) (h.ab.mono (by simp)) ((h.Ea _).mono (by simp))
  ·show HB (m.E++[_]++[_]).length _;refine(NB _).mono ?_;simp
 ·rw[e];refine XM.sW h [m.V 2 st] Z Z Z Z (λx d=>?_) (GO λc=>by grind [Ew.V]) (FP λc=>by grind [Ew.V]);rw[xm]at d;rw[d];exact⟨Z,λc=>by simp[ZA,Ew.V]at c,Am _⟩
 ·rw[e];refine XM.sW h [m.V 3 st,m.V 4 st] Z Z Z Z (λx d=>?_) (A5 (es:=[m.V 3 st]) (GO λc=>by grind [Ew.V]) (GO λc=>by grind [Ew.V])) (A6 (es:=[m.V 3 st]) (FP λc=>by grind [Ew.V]) (FP λc=>by grind [Ew.V]));simp only[x4,xo,θ]at d
  rcases d with rfl|rfl
  ·exact⟨Z,λc=>by simp[ZA,Ew.V]at c,Am _⟩
  ·exact⟨Z,λc=>by simp[ZA,Ew.V]at c,Am _⟩
 ·rw[o,e1,e2,e3,e4,e5];simp only[Bool.false_eq_true,if_false,Bool.or_self]
  split
  ·exact h.aO _ _ ((h.Ea _).or (h.Ea _))
  ·exact h
theorem XM.aN{p:Ew×ν}(h:XM p.1)(c:yP st):XM (aN p st).1:=by
 unfold Q.aN
 split
 ·split
  ·exact⟨h.K,h.mb,h.ab.or (h.Ea _),h.sr,h.sw⟩
  ·exact h.bU c
 grind
def Lj:∀(c:W VW) {p:Ew×K},(∀s∈c,yP s)->XM p.1->XM (c.foldl aN p).1
 |[],_,_,h=>h
 |s::c,p,hs,h=>by
  rw[xW];exact Lj c (λx d=>hs x (x7 _ d)) (h.aN (hs s (by simp)))
def kIR(t b:S)(u:K):XM (Ew.start t b u):=
 ⟨λe c=>by simp[Ew.start]at c,λj=>by
  have:(Ew.start t b u).made.getD j 0=0:=by
   match j with
   |0=>rfl
   |1=>rfl
   |2=>rfl
   |3=>rfl
   |j+4=>rfl
  rw[this];exact Am _,Am _,kNt,kNq⟩
def kLs(h:∀s∈t.S,yP s)(i c:K):XM (mT t i c):=Lj _ h (kIR _ _ _)
end Q
namespace P
structure TIn(ts:σ VZ):Prop where
 ne:ts≠[]
 few:ts.length<=4
 le:∀t∈ts,VY nE t.S<=40
 ok:∀t∈ts,∀s∈t.S,ZR s
 rd:XL XG ts<=4
 wr:XL XI ts<=3
 ev:evT ts<=50
end P
namespace Q
theorem kIw(p:Ew×K)(s:VW):((yH p s).length:S)<=(if P.XG s then 1 else 0)+(if P.XI s then 1 else 0)+if s.kind==4 then 1 else if s.kind==5 then 2 else 0:=by
 grind [xA,P.XG,P.XI,P.aZ,rP,yH]
theorem SA:∀(c:W VW) (p:Ew×K),((c.foldl aN p).1.E.length:S)<=p.1.E.length+(P.VY P.XG c+P.VY P.XI c+iK c)
 |[],p=>by simp[P.VY,iK]
 |s::c,p=>by
  rw[xW];have d:=SA c (aN p s);have f:=kIw p s
  grind [PK,P.VY,iK]
theorem Lk{i:K}{r:Run}(h:r∈iS t i):(r.E.length:S)<=P.VY P.XG t.S+P.VY P.XI t.S+iK t.S:=by
 unfold iS jG at h;obtain⟨c,_,rfl⟩:=List.mem_map.1 h;have d:=SA t.S (Ew.start i t.block c,0)
 grind [Ew.start,mT,uH,Ew.run]
theorem WI.wZ{w:Wd}{E S R e:ω}(h:WI w E S R){r:Run}(f:RunOk r t)(y:(r.E.length:ω)<=e):WI (w.join r) (E+e) (S+P.VY P.XC t.S) (R+4):=by
 have o:=h.len;have q:=h.sc;have u:=h.g;have z:=f.sc;have A:=f.g;refine⟨by grind [WI.pos,Wd.join],by grind [Wd.join],?_,by grind [Wd.join],λx d=>?_,λe c=>?_⟩
 ·grind [Wd.join,kMm]
 ·simp only[Wd.join]at d
  rcases List.mem_append.1 d with d|d
  ·exact h.vals x d
  ·exact f.vals x d
 ·simp only[Wd.join]at c
  rcases List.mem_append.1 c with c|c
  ·exact h.K e c
  ·obtain⟨i,j,rfl⟩:=List.mem_map.1 c;exact⟨(f.K i j).1,(f.K i j).2.1,Ob _ _⟩
theorem RL:∀(ts:W VZ) (i:K) (w:Wd) (ds:W ω) (E S R:ω),(∀t∈ts,(∀s∈t.S,ZR s)/\ZO t.S<1000000000)->YK (YM (fV i ts)) ds->WI w E S R->WI (jK w (fV i ts) ds) (E+(XL P.XG ts+XL P.XI ts+evT ts)) (S+XL P.XC ts) (R+4*ts.length)
 |[],i,w,ds,E,S,R,ht,hd,h=>by
  grind [fV,jK,XL,evT]
 |t::ts,i,w,ds,E,S,R,ht,hd,h=>by
  cases ds with
  |nil=>simp[fV,YM,YK]at hd
  |cons d ds =>
   simp only[fV,YM,xh,YK]at hd;have c:d.toNat<(iS t i).length:=by omega
   simp only[fV,jK];rw[dif_pos c];have f:=ht t (by simp);have j:=h.wZ (TZ f.1 f.2 (y3 c)) (Lk (y3 c));have q:=RL ts (i+1) _ ds _ _ _ (λu o=>ht u (x7 _ o)) hd.2.2 j
   grind [XL,evT]
def MN(h:TIn ts):∀t∈ts,ZO t.S<=256:=λt c=>by
 rw[Ke];have d:=QR (p:=P.XG) c;have f:=h.rd;exact xb (xx (by omega) (by omega:(P.VY P.XG t.S).toNat<=4)) (by decide)
def RX(h:TIn ts):∀t∈ts,(∀s∈t.S,ZR s)/\ZO t.S<1000000000:=λt c=>⟨h.ok t c,x9 (MN h t c) (by decide)⟩
def kMx(h:TIn ts){d:W S}(f:YK (YM (WL ts)) d):((XV (WL ts) d).E.length:S)<=60:=by
 have c:=(RL ts 0 _ d _ _ _ (RX h) f PB).len;have i:=h.rd;have j:=h.wr;have o:=h.ev;refine Int.le_trans c (by omega)
end Q
namespace P
structure StG(s:VW):Prop where
 ok:ZR s
 v0:0<=s.z
 v3:s.z<3
def PE:StG VW.zero:=⟨⟨DQ,DQ⟩,by decide,by decide⟩
theorem kHL(w:W z):0<=(eB w).1/\(eB w).1<4:=by
 grind [eB]
theorem Ll(w:W z):0<=(gZ w).1/\(gZ w).1<3:=by
 grind [gZ]
def Lm(w:W z):IG (dJ w).1:=by
 unfold dJ
 repeat' split
 ·exact⟨by decide,by decide⟩
 ·exact⟨by decide,by decide⟩
 ·exact⟨by decide,by decide⟩
 ·exact⟨by decide,by decide⟩
 ·exact kHL w
def kMA{s:VW}(h:StG s)(c:z)(w:W z):StG (mV s c w).1:=by
 unfold mV
 split
 ·exact⟨h.ok,h.v0,h.v3⟩
 split
 ·exact⟨h.ok,(Ll w).1,(Ll w).2⟩
 split
 ·exact⟨⟨Lm w,h.ok.2⟩,h.v0,h.v3⟩
 split
 ·exact⟨⟨h.ok.1,Lm w⟩,h.v0,h.v3⟩
 ·exact h
def Ln:∀(cs:W z) (d:W (W z)) {s:VW},StG s->StG (nB s cs d).1
 |[],_,_,h=>h
 |_::_,[],_,h=>h
 |c::cs,w::d,s,h=>by
  rw[nB]
  split
  ·exact Ln cs d (kMA h c w)
  ·exact PE
def UV(first:W z)(c:W (W z))(next:S):∀(f:K) (k:S),StG (jF first c next f k).1
 |0,_=>PE
 |f+1,k=>by
  have d:StG (if k==10 then{VW.zero with kind:=k,label:=next}else{VW.zero with kind:=k}):=by
   split<;>exact⟨⟨DQ,DQ⟩,by show(0:S)<=0;omega,by show(0:S)<3;omega⟩
  rw[jF];simp only;generalize(if k==10 then{VW.zero with kind:=k,label:=next}else{VW.zero with kind:=k})=i at d⊢;by_cases c1:(dE k).1.isPrefixOf first=U
  ·rw[N c1];by_cases c2:(kD i (first.drop (dE k).1.length)).2=U
   ·rw[N c2];unfold fY;by_cases c3:((dE k).2.length != c.length)=U
    ·rw[N c3];exact PE
    ·rw[I c3];refine Ln _ _ ?_;unfold kD
     split
     ·split
      ·exact⟨d.ok,d.v0,d.v3⟩
      ·exact d
     ·exact d
   ·rw[I c2];exact UV first c next f (k+1)
  ·rw[I c1];exact UV first c next f (k+1)
def kNp(l:W z)(next:S):StG (eJ l next).1:=UV _ _ _ _ _
theorem kMX(h:fS r st=(r',U)):r.H≠[]/\∃lb,r'.H=iQ r.H {st with label:=lb}/\r'.most=r.most/\(st.kind=11/\r'.count=r.count/\r'.I=r.I/\r.O≠[]/\r'.O=r.O.dropLast\/st.kind≠11/\r.count<r.most/\r'.count=r.count+1/\(st.kind=10/\r'.I=r.I+1/\r'.O=r.O++[r.I+1]\/st.kind≠10/\r'.I=r.I/\r'.O=r.O)):=by
 unfold fS at h
 split at h
 ·simp at h
 rename_i i;refine⟨by simpa using i,?_⟩
 split at h
 ·rename_i d;unfold pZ at h
  split at h
  ·simp at h
  ·rename_i x q;simp only[Prod.mk.injEq,κ]at h;subst h;exact⟨x,Z,Z,x5 ⟨by simpa using d,Z,Z,by grind,Z⟩⟩
 rename_i d;have f:st.kind≠11:=by simpa using d
 split at h
 ·simp at h
 rename_i o
 split at h
 ·rename_i c
  split at h
  ·simp at h
  rename_i j;unfold branch at h;rw[I j]at h;simp only[Prod.mk.injEq,κ]at h;subst h;exact⟨r.I+1,Z,Z,x8 ⟨f,by omega,Z,x5 ⟨by simpa using c,Z,Z⟩⟩⟩
 ·rename_i c;simp only[Prod.mk.injEq,κ]at h;subst h;exact⟨st.label,Z,Z,x8 ⟨f,by omega,Z,x8 ⟨by simpa using c,Z,Z⟩⟩⟩
structure AI(r:Rd):Prop where
 st:∀t∈r.H,∀s∈t.S,StG s
 le:∀t∈r.H,VY nE t.S<=40
 last:∀a t,r.H=a++[t]->VY nE t.S<=r.count/\VY iE t.S+r.O.length=VY iB t.S
 most:r.most=40
 pre:∀t∈r.H,∀a b,t.S=a++b->VY iE a<=VY iB a
 bar:∀t∈r.H,∀a s b,t.S=a++s::b->s.kind=5->VY iB a=VY iE a
 O:∀x∈r.O,1<=x
 I:0<=r.I
 ln:∀t∈r.H,0<t.i
 lin:0<=r.i
def kMD:AI Rd.WB:=⟨by simp[Rd.WB],by simp[Rd.WB],by simp[Rd.WB],Z,by simp[Rd.WB],by simp[Rd.WB],by simp[Rd.WB],by simp[Rd.WB],by simp[Rd.WB],by simp[Rd.WB]⟩
def AI.i(h:AI r){m:ω}(c:0<=m):AI {r with i:=m}:=⟨h.st,h.le,h.last,h.most,h.pre,h.bar,h.O,h.I,h.ln,c⟩
theorem AI.begin(h:AI r){b l:ω}(f:0<l)(e:lJ r b l=(r',U)):AI r':=by
 unfold lJ at e
 split at e
 ·simp at e
 rename_i o;simp only[Prod.mk.injEq,κ]at e;have q:r.O=[]:=List.eq_nil_of_length_eq_zero (by omega);subst e;have c:∀(d:VZ->Prop),(∀t∈r.H,d t)->d ⟨b,l,[]⟩->∀t∈r.H++[⟨b,l,[]⟩],d t:=λd i j t u=>by
  grind
 refine⟨c _ h.st (by simp),c _ h.le (by simp[VY]),λa t e=>?_,h.most,c _ h.pre λa b e=>?_,c _ h.bar λa s b e=>by simp at e,h.O,h.I,c _ h.ln f,h.lin⟩
 ·grind [xe,VY]
 simp_all [VY]
theorem AI.put(h:AI r)(G:StG st)(hb:st.kind=5->r.O=[])(W:r'.i=r.i)(e:fS r st=(r',U)):AI r':=by
 obtain⟨F,f,ht,Y,E⟩:=kMX e;obtain⟨a,t,N,V⟩:=V2 F {st with label:=f};rw[V]at ht;have j:t∈r.H:=by grind
 obtain⟨l1,l2⟩:=h.last a t N;have X:=h.le t j;have aa:StG {st with label:=f}:=⟨G.ok,G.v0,G.v3⟩;have c:∀(C:VZ->Prop),(∀t∈r.H,C t)->C {t with S:=t.S++[{st with label:=f}]}->∀t∈r'.H,C t:=λC h3 h4 u hu=>by
  grind
 have q:VY nE (t.S++[{st with label:=f}])<=40/\VY nE (t.S++[{st with label:=f}])<=r'.count/\VY iE (t.S++[{st with label:=f}])+(r'.O.length:ω)=VY iB (t.S++[{st with label:=f}]):=by
  rw[CB,CB,CB];simp only[VY,nE,iE,iB];rw[h.most]at E
  rcases E with⟨L,M,_,J,D⟩|⟨L,M,J,⟨D,_,o⟩|⟨D,_,o⟩⟩
  ·have:r.O.length=r.O.dropLast.length+1:=by
    have:=List.length_pos_iff.2 J
    grind
   grind
  ·grind
  grind
 have z:∀x y,t.S++[{st with label:=f}]=x++y->VY iE x<=VY iB x:=λx y e=>by
  rcases y4 y with A|⟨K,s',A⟩
  ·grind
  ·rw[A,y5,<- x6]at e;have:=(xe e Z).1;exact h.pre t j x K this
 refine⟨c (λt=>∀s∈t.S,StG s) h.st λs ab=>?_,c (λt=>VY nE t.S<=40) h.le q.1,λb u e2=>?_,Y.trans h.most,c (λt=>∀a b,t.S=a++b->VY iE a<=VY iB a) h.pre z,c (λt=>∀a s b,t.S=a++s::b->s.kind=5->VY iB a=VY iE a) h.bar λx s y e2 k5=>?_,λx d=>?_,?_,c (λt=>0<t.i) h.ln (h.ln t j),by rw[W];exact h.lin⟩
 ·grind [AI.st]
 ·grind [xe]
 ·rcases y4 y with A|⟨K,s',A⟩
  ·grind [xe]
  ·rw[A,y5,<- List.cons_append,<- x6]at e2
   grind [AI.bar,xe]
 ·rcases E with⟨_,_,_,_,D⟩|⟨_,_,_,⟨_,_,o⟩|⟨_,_,o⟩⟩
  ·rw[D]at d;exact h.O x (List.dropLast_subset _ d)
  ·rw[o]at d
   rcases List.mem_append.1 d with d|d
   ·exact h.O x d
   ·simp at d;have:=h.I;omega
  ·rw[o]at d;exact h.O x d
 ·have:=h.I;omega
theorem AI.qV(h:AI r)(e:bJ r=0):r.O=[]:=by
 unfold bJ at e
 cases hl:r.O.getLast? with
 |none=>exact List.getLast?_eq_none_iff.1 hl
 |some x =>
  rw[hl]at e;have:=h.O x (List.mem_of_getLast? hl);simp at e;omega
theorem AI.take(h:AI r)(f:0<r.i)(e:gM r l=(r',U)):AI r':=by
 have d:=(JG r l).1;rw[e]at d;unfold gM at e
 split at e
 ·exact h.begin f e
 split at e
 ·exact h.begin f e
 split at e
 ·exact h.put (st:={VW.zero with kind:=11,i:=r.i}) ⟨⟨DQ,DQ⟩,by show(0:ω)<=0;omega,by show(0:ω)<3;omega⟩ (λk=>by simp at k) d e
 split at e
 ·simp at e
 rename_i j;have c:=kNp l (r.I+1);refine h.put (st:={(eJ l (r.I+1)).1 with i:=r.i}) ⟨c.ok,c.v0,c.v3⟩ (λk=>?_) d e
 grind [AI.qV]
theorem Lo:∀(c:W (W z)) {r r':Rd},YS r c=(r',U)->AI r->AI r'
 |[],r,r',h,hr=>by grind [YS]
 |x::c,r,r',h,hr=>by
  simp only[YS]at h
  split at h
  ·rename_i d;have e:gM {r with i:=r.i+1} x=((gM {r with i:=r.i+1} x).1,U):=by rw[<- d]
   have f:=hr.lin;exact Lo c h ((hr.i (m:=r.i+1) (by omega)).take (by grind) e)
  ·simp at h
theorem kIG(h:(cW l).2=0):YS Rd.WB (bF 10 l).dropLast=((YS Rd.WB (bF 10 l).dropLast).1,U)/\(cW l).1=(YS Rd.WB (bF 10 l).dropLast).1.H/\(YS Rd.WB (bF 10 l).dropLast).1.O=[]:=by
 obtain⟨_,c,d⟩:=Hy (bF 10 l).dropLast 0 Rd.WB UQ Z;have z:Rd.WB.i=0:=Z
 grind [cW]
structure AsmIs(ts:σ VZ):Prop where
 t:TIn ts
 len:∀t∈ts,t.S.length<=80
 sc:XL XC ts<=3
theorem kNf(h:(eQ l).2.1=0):AsmIs (eQ l).1/\(eQ l).2.2=0/\l.length<=2000:=by
 unfold eQ at h⊢;by_cases h1:2000<l.length
 ·grind
 rw[I h1]at h⊢;by_cases h2:((cW l).2 != 0)=U
 ·grind
 rw[I h2]at h⊢;by_cases h3:(lV (cW l).1 (cW l).1 != 0)=U
 ·grind
 rw[I h3]at h⊢;by_cases h4:(lK (cW l).1||decide (50<evT (cW l).1))=U
 ·grind
 rw[I h4];have e2:(cW l).2=0:=by simpa using h2
 obtain⟨o,q,u⟩:=kIG e2;obtain⟨i,j,_⟩:=Hz l e2;have d:=Lo _ o kMD;simp only[lK,y2,φ,not_or]at h4;refine⟨⟨⟨i,j,λt c=>d.le t (by grind),λt c s f=>(d.st t (by grind) s f).ok,by grind,by grind,by grind⟩,λt c=>?_,by grind⟩,Z,by omega⟩
 ·rw[q]at c;have e1:=d.pre t c t.S [] (by simp);have e2:=d.le t c;have e3:=Gr t.S;have e4:VY iB t.S<=VY nE t.S:=Gq λs f=>by simp only[iB,nE]at *;rw[π]at f;rw[f];decide _;omega
end P
def zLp(s:ByteArray)(w:δ)(K:Tab w)(J:(eQ s.toList).2.1=0)(z:(eQ s.toList).2.2=0)(C:KerOk (eQ s.toList).1)(f:(Q.eU (eQ s.toList).1).y.length<100000000):
  Calls prog 6 #[.string s] w λe H=>∃ov vs,e=.returned (.tuple #[ov,.bool (Q.eU (eQ s.toList).1).clash,.int .i64 0,.int .i64 0])/\HandO w.heap.size H ov (Q.eU (eQ s.toList).1).y vs/\ε w.heap.size w H:=by
 have c:=aD (H9 s w K);unfold aC at c;rw[J,z]at c;have u:=aD c;clear c J z;generalize(eQ s.toList).1=ts at*;have q:=aD C;have j:=aD f;clear C f K;generalize L:(Q.eU ts).clash=S;have N:=aD L;clear L;go_in;go_wp2_with(first
  |(go_at_call 11;refine u.o.mono ?_;rintro e O ⟨V,rfl,_,d,i⟩;obtain⟨F,G,rfl,d⟩:=d Z;have D:=aD (d.keep (w':=O.alloc (.cells #[.slice (T ⟨F,0,none⟩) ts.length G] 40)) λk C=>Below.heap_alloc _ _ _ C);have I:=aD (i.alloc i.size (.cells #[.slice (T ⟨F,0,none⟩) ts.length G] 40));clear d i)
  |(go_at_call 12;refine(zEU _ F G ts _ D q.o.few q.o.thr q.o.rb q.o.rn q.o.wd j).mono ?_;rw[N.o];rintro e W ⟨ov,vs,rfl,A,x⟩;have E:=aD A;have M:=aD (bT I x);clear A x))
 refine bodyPost_ret (Gt Z _ _ _) Z ⟨ov,vs,Z,E.o.mono I.o.size,M⟩
