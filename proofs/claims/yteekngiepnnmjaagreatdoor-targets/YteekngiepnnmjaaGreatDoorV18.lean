import Derived.Test.YteekngiepnnmjaaGreatDoorV17
set_option linter.all false
set_option maxHeartbeats 0
namespace Go.Proofs.YteekngiepnnmjaaGreatDoor
open Go Go.RowKit Go.Proofs.Tryz P Q
open scoped Classical
set_option maxRecDepth 1000000
open _root_ renaming List->U,List->σ,Nat->K,Nat->ν,Int->W,Int->ω,decide_eq_false->φ,Option->ρ,absurd->π,Bool->ζ,if_pos->θ
open Go renaming Value->S,Value->ι,World->z,World->ξ,heap_alloc_new->δ,Calls->γ,maxLen->ε,Addr->κ,wpList_append_lies->υ
open Go.RowKit renaming Below->ψ,intOf->τ
open Go.Proofs.Tryz renaming underlying23->η
variable {W1 w w' w1 w3:ξ}{B N b cap cn g gb gc gn gw i j k n sz:ν}{A:WA}{rss:σ (σ Run)}{s:RS}{ats ds l:σ ω}{e t:TypeId}{ov rv u0 v:ι}{vs xs:σ ι}{st:ρ RS}{wss:σ (σ ι)}{rs:σ (σ ω)}{es:σ J.E}{seq':σ ν}{P':σ ω->Prop}{C C':Prop}
open Option renaming none->Y,some->I
open Go.Value renaming slice->O,bool->T,int->V
open Bool renaming false->G
open Go.Obj renaming cells->M
open Or renaming inr->xF,inl->xR
open Nat renaming lt_of_lt_of_le->xW,zero_le->x4,le_trans->x9,le_refl->xn,mul_le_mul_right->y0
open Go.RowKit.Below renaming heap_alloc->x1,refl->x5,heap_setCell->xd
open Go.World renaming cell?_setCell_other->x2,cell?->x3,frozen?->xb,cell?_of_block->xe,frozen?_of_block->xg,ownsRow_nil->xh,news_of_block->xz
open Go.Value renaming ownBlock->x6,slice->xm,oneCell'->xr
open List renaming replicate->x7,append_nil->x8,mem_cons_of_mem->xj,range->xl,getElem?_eq_getElem->xo,take_zero->xp,getElem_cons_zero->xq,idxOf_append->xt,mem_of_getElem?->xu,flatMap_cons->xv,foldl_cons->xw,drop_eq_getElem_cons->xx,getElem_mem->xy
namespace Q
def ZT(p:Wd×U W):Cand:=⟨p.1,WG p.1.E,(WG p.1.E).D (YT (WC p.1.E) p.2)⟩
def gS(l:U (Wd×U W)):U Cand:=(l.map ZT).filter λc=>!c.F.hangsOn c.D
theorem kIe(p:Wd×U W)(l:U (Wd×U W)):gS (p::l)=if(ZT p).F.hangsOn (ZT p).D then gS l else ZT p::gS l:=by
 grind [gS]
def kHE(cs:U (U W))(ds:U W):(YT cs ds).length=cs.length:=by simp[YT]
end Q
structure CandNow(w:ξ)(gc:ν)(A:WA)(rss:σ (σ Run))(s:RS)(ds:σ ω)(rest:σ (σ ω))(gr:ν):Prop where
 on:En w gc A rss (I s) ds rest
 c12:w.cell? ⟨gc,12,Y⟩=I (VV gr s.R.fa.n s.R.fa.n)
 rel:Ec w gr s.R.fa.n (ZT (s.wd,s.ds)).D
def zPg(w w':z)(gc:K)(A:WA)(rss:U (U Run))(st:ρ RS)(cs:U Cand)(b:ζ):Prop :=
 Ej w w' gc A st/\(b=G/\cs=[]\/b=true/\∃s ds rest gr,CandNow w' gc A rss s ds rest gr/\cs=ZT (s.wd,s.ds)::gS (fP rss (I s) rest)/\(∀k,s.R.nb k->nbS st k\/w.heap.size<=k)/\(gdS st s.R.gd\/w.heap.size<=s.R.gd))
def MG(w:z)(gc:K)(A:WA)(rss:U (U Run))(st:ρ RS)(C0:U Cand)(wr:z)(n:K):Prop :=
 ∃st1 ds1 rest1,En wr gc A rss st1 ds1 rest1/\gS (fP rss st1 rest1)=C0/\(fP rss st1 rest1).length=n/\Ej w wr gc A st/\(∀k,nbS st1 k->nbS st k\/w.heap.size<=k)/\∀k,gdS st1 k->gdS st k\/w.heap.size<=k
def En.EG{rest:σ (σ ω)}(h:En w gc A rss (I s) ds rest)(v:ι):En (w.setCell ⟨gc,12,Y⟩ v) gc A rss (I s) ds rest/\(w.setCell ⟨gc,12,Y⟩ v).cell? ⟨gc,12,Y⟩=I v/\∀k,k≠gc->(w.setCell ⟨gc,12,Y⟩ v).heap[k]?=w.heap[k]?:=by
 obtain⟨m,U,c,d⟩:=h.box.set 12 [v] (by simp);obtain⟨W,p,_⟩:=id h.box;obtain⟨a,q⟩:=h.rs s Z;obtain⟨b,hc⟩:=a.rd.XY.XY;refine⟨⟨m,WsOn.eX h.ws p (by decide) (by decide) (by decide) (λj h1 h2=>c j (xF (by simp;omega))) (λj=>m.free j) d (by simp),(c 21 (xF (by simp))).trans h.beg,λs' f=>?_⟩,U 0 _ Z,d⟩;simp only[Option.some.injEq]at f;subst f;refine⟨⟨(c 0 (xR (by decide))).trans a.c0,(c 1 (xR (by decide))).trans a.c1,VD a.wdi a.n3.2 h.box 12 [v] (by simp),World.rangeAt_setCells_apart a.fc gc 12 [v] (xF (xR (by simp[XP]))),PG a.fin h.box 12 [v] (by simp),⟨(c 17 (xF (by simp))).trans a.rd.c0,?_,?_,a.rd.nc,a.rd.ne⟩,a.n1,a.n2,a.n3⟩,q⟩
 ·exact⟨bH a.rd.y.own λk e=>d k λe2=>a.rd.nc.2 (by rw[e,e2]),a.rd.y.len,λi L x E=>(a.rd.y.y i L x E).own _ (λk e=>d k (a.rd.ne x (xu E) k e).2) (by simp)⟩
 ·obtain⟨b,⟨o,D,F,X,cl,H,J,r,u,z,S⟩,K⟩:=a.rd.XY;exact⟨b,⟨(c 18 (xF (by simp))).trans o,(c 19 (xF (by simp))).trans D,(c 20 (xF (by simp))).trans F,m.free,by simpa using cl,H.aG (d _ λe=>u e.symm),J.aG (d _ λe=>r e.symm),r,u,z,S⟩,K⟩
theorem zGJ(gc:ν)(A:WA)(rss:σ (σ Run))(st:ρ RS)(ds:σ ω)(rest:σ (σ ω))(w:ξ)(h:En w gc A rss st ds rest)(hn:rss.length<20)(hb:∀r∈rss,r.length<100000000)(ba:∀rs∈rss,∀r∈rs,r.g.length=4/\∀e∈r.E,e.h<YC)(hW:∀d,YK (YM rss) d->WdOk (XV rss d)):
  γ prog 33 #[.pointer (I ⟨gc,0,Y⟩)] w λe w'=>∃b,e=.returned (T b)/\zPg w w' gc A rss st (gS (fP rss st rest)) b:=by
 have H0:aC (MG w gc A rss st (gS (fP rss st rest)) w (fP rss st rest).length):=⟨st,ds,rest,h,Z,Z,Ej.refl _ _ _ _,λk h=>xR h,λk h=>xR h⟩;have HB:=aD hb;have aM:=aD ba;have HW:=aD hW;generalize gS (fP rss st rest)=C0 at*;generalize(fP rss st rest).length=N0 at*;obtain⟨μ,hμ⟩:=JY (MG w gc A rss st C0);have aL:=aD hμ;go_in;go_wp2;go_loopw[] (λwr=>∃n,aC (MG w gc A rss st C0 wr n)) λwr=>μ wr
 case atStart=>exact⟨_,H0⟩
 case round =>
  obtain⟨hI,bc⟩:=aL.o wr (by obtain⟨n,h⟩:=hrel;exact⟨n,h⟩);obtain⟨an,aO,z,hC,hR,aA,hF,hN,hG⟩:=hI;have HC:=aD hC;have HR:=aD hR;have HL:=aD aA;have HF:=aD hF;have HN:=aD hN;have HG:=aD hG;go_upto_region 2 with(first|(go_at_call 55;refine(zET gc A rss an aO z _ HC hn HB aM HW).mono ?_;rintro e x ⟨b,rfl,aW,q⟩;have F2:=aD (HF.o.trans aW HG);rcases q with⟨rfl,ab⟩|⟨rfl,s,be,u,af,ab,aV,aZ,aX⟩))
  ·go_wp2;go_ret;exact⟨G,Z,F2,xR ⟨Z,by rw[<- HR.o,ab];rfl⟩⟩
  ·have CN:=aD af;have aw:=aD ab;have aK:=aD aV;obtain⟨al,am⟩:=af.rs s Z;have av:=aD al;have bd:=aD am;have ax:=aD HF.o.size;have au:aC (∀k,s.R.nb k->nbS st k\/w.heap.size<=k):=λk hk=>by
    rcases aZ k hk with q|q
    ·exact HN k q
    ·exact xF (x9 ax q)
   have ar:aC (gdS st s.R.gd\/w.heap.size<=s.R.gd):=by
    rcases aX with q|q
    ·exact HG _ q
    ·exact xF (x9 ax q)
   have p:=af.box.lt;have ao:=aD af.box;obtain⟨U,m,ah,_⟩:=al.fin.form;have aU:(WC s.wd.E).length<1000:=by rw[Je];have:=am.le;omega
   have aJ:aC (∀c∈WC s.wd.E,c.length<1000):=λc hc=>by have:=Jf s.wd.E am.le c hc;omega
   have aj:aC ((YT (WC s.wd.E) s.ds).length=(WC s.wd.E).length):=kHE _ _;have a:=al.fc;obtain⟨⟨ae,rg,fa,cv,S,ac,ad⟩,f,L,rr⟩:=s;obtain⟨n,ev,W,g2,g3,g4,g5,g6,g7,g8,g9⟩:=fa;simp only at ah a aU;subst ah;have k0:x.cell? ⟨gc,2,Y⟩=I (O U n m):=a 0 _ Z;have k1:x.cell? ⟨gc,3,Y⟩=I (VV W n n):=a 1 _ Z;have k2:x.cell? ⟨gc,4,Y⟩=I (VV g2 n n):=a 2 _ Z;have k3:x.cell? ⟨gc,5,Y⟩=I (VV g3 n n):=a 3 _ Z;have k4:x.cell? ⟨gc,6,Y⟩=I (VV g4 n n):=a 4 _ Z;have k5:x.cell? ⟨gc,7,Y⟩=I (VV g5 n n):=a 5 _ Z;have k6:x.cell? ⟨gc,8,Y⟩=I (VV g6 n n):=a 6 _ Z;have k7:x.cell? ⟨gc,9,Y⟩=I (VV g7 n n):=a 7 _ Z;have k8:x.cell? ⟨gc,10,Y⟩=I (VV g8 n n):=a 8 _ Z;have k9:x.cell? ⟨gc,11,Y⟩=I (VV g9 n n):=a 9 _ Z;have aP:=ao.o.free 12;have bb:=(ao.o.there 12 1 (by decide) 0 (by decide)).1;obtain⟨bh,aB⟩:=Option.isSome_iff_exists.1 bb;simp only[Nat.add_zero]at aB;go_region_held3 (λw'=>w'.cell? ⟨gc,2,Y⟩=I (O U n m)/\w'.cell? ⟨gc,3,Y⟩=I (VV W n n)/\w'.cell? ⟨gc,4,Y⟩=I (VV g2 n n)/\w'.cell? ⟨gc,5,Y⟩=I (VV g3 n n)/\w'.cell? ⟨gc,6,Y⟩=I (VV g4 n n)/\w'.cell? ⟨gc,7,Y⟩=I (VV g5 n n)/\w'.cell? ⟨gc,8,Y⟩=I (VV g6 n n)/\w'.cell? ⟨gc,9,Y⟩=I (VV g7 n n)/\w'.cell? ⟨gc,10,Y⟩=I (VV g8 n n)/\w'.cell? ⟨gc,11,Y⟩=I (VV g9 n n)) (first|exact⟨k0,k1,k2,k3,k4,k5,k6,k7,k8,k9⟩|exact⟨m0,m1,m2,m3,m4,m5,m6,m7,m8,m9⟩|exact⟨z0,z1,z2,z3,z4,z5,z6,z7,z8,z9⟩|exact⟨(x2 _ _ _ _ (by simp)).trans z0,(x2 _ _ _ _ (by simp)).trans z1,(x2 _ _ _ _ (by simp)).trans z2,(x2 _ _ _ _ (by simp)).trans z3,(x2 _ _ _ _ (by simp)).trans z4,(x2 _ _ _ _ (by simp)).trans z5,(x2 _ _ _ _ (by simp)).trans z6,(x2 _ _ _ _ (by simp)).trans z7,(x2 _ _ _ _ (by simp)).trans z8,(x2 _ _ _ _ (by simp)).trans z9⟩) (first
    |(go_at_call_of 56 (Value.agg #[xm U n m,VV W n n,VV g2 n n,VV g3 n n,VV g4 n n,VV g5 n n,VV g6 n n,VV g7 n n,VV g8 n n,VV g9 n n]);refine(Ug (FA.mk n (O U n m) W g2 g3 g4 g5 g6 g7 g8 g9) (WG f.E) _ (YT (WC f.E) L) _ aH aN (by rw[aj.o];omega)).mono ?_;rintro e w4 ⟨gr,rfl,hrel,aR⟩;have y:aC (ψ x.heap.size x w4):=bT K aR;have H:=aD hrel;have bg:=cK y p aB;have qf:=fK y p aP;have z0:=cK y p k0;have z1:=cK y p k1;have z2:=cK y p k2;have z3:=cK y p k3;have z4:=cK y p k4;have z5:=cK y p k5;have z6:=cK y p k6;have z7:=cK y p k7;have z8:=cK y p k8;have z9:=cK y p k9)
    |(go_at_call 57;refine(zJj gc 17 cv S ac ad (WC f.E) L rr _ (av.o.rd.X (x5 _ _).drew) aK (by omega) aJ).mono ?_;rintro e w3 ⟨gi,rfl,ak,bf,aQ⟩;have K:aC (ψ x.heap.size x w3):=((x5 x.heap.size x).drew).trans (aQ.mono (by simp));have aN:aC (YA w3 (VV gi (WC f.E).length (WC f.E).length) (YT (WC f.E) L)):=(by have h9:=ak.rG (WC f.E).length (by rw[aj.o];exact xn _);rw[aj.o]at h9;exact h9);have aH:=aD (av.o.fin.X K);have m0:=cK K p k0;have m1:=cK K p k1;have m2:=cK K p k2;have m3:=cK K p k3;have m4:=cK K p k4;have m5:=cK K p k5;have m6:=cK K p k6;have m7:=cK K p k7;have m8:=cK K p k8;have m9:=cK K p k9))
   obtain⟨aa,az,aY⟩:=(CN.o.X y).EG (VV gr n n);have aF:=aD aa;have ai:=(aa.rs _ Z).1;have aI:=aD ai.fin;have a:=ai.fc;have F5:aC (Ej w (w4.setCell ⟨gc,12,Y⟩ (VV gr n n)) gc A st):=(F2.o.X y).set 12 [VV gr n n];have ag:aC (Ec (w4.setCell ⟨gc,12,Y⟩ (VV gr n n)) gr n ((WG f.E).D (YT (WC f.E) L))):=by
    obtain⟨cc,aT,_⟩:=(CN.o.X y).box;exact⟨H.o.at_.aG (aY gr (wW H.o.at_ aT (by decide))),H.o.len,H.o.fits⟩
   have l5:=aa.box.lt;generalize w4.setCell ⟨gc,12,Y⟩ (VV gr n n)=J at*;have k0:J.cell? ⟨gc,2,Y⟩=I (O U n m):=a 0 _ Z;have k1:J.cell? ⟨gc,3,Y⟩=I (VV W n n):=a 1 _ Z;have k2:J.cell? ⟨gc,4,Y⟩=I (VV g2 n n):=a 2 _ Z;have k3:J.cell? ⟨gc,5,Y⟩=I (VV g3 n n):=a 3 _ Z;have k4:J.cell? ⟨gc,6,Y⟩=I (VV g4 n n):=a 4 _ Z;have k5:J.cell? ⟨gc,7,Y⟩=I (VV g5 n n):=a 5 _ Z;have k6:J.cell? ⟨gc,8,Y⟩=I (VV g6 n n):=a 6 _ Z;have k7:J.cell? ⟨gc,9,Y⟩=I (VV g7 n n):=a 7 _ Z;have k8:J.cell? ⟨gc,10,Y⟩=I (VV g8 n n):=a 8 _ Z;have k9:J.cell? ⟨gc,11,Y⟩=I (VV g9 n n):=a 9 _ Z;go_upto_region 3 with fail
   go_region_held3 (λw'=>w'.cell? ⟨gc,2,Y⟩=I (O U n m)/\w'.cell? ⟨gc,3,Y⟩=I (VV W n n)/\w'.cell? ⟨gc,4,Y⟩=I (VV g2 n n)/\w'.cell? ⟨gc,5,Y⟩=I (VV g3 n n)/\w'.cell? ⟨gc,6,Y⟩=I (VV g4 n n)/\w'.cell? ⟨gc,7,Y⟩=I (VV g5 n n)/\w'.cell? ⟨gc,8,Y⟩=I (VV g6 n n)/\w'.cell? ⟨gc,9,Y⟩=I (VV g7 n n)/\w'.cell? ⟨gc,10,Y⟩=I (VV g8 n n)/\w'.cell? ⟨gc,11,Y⟩=I (VV g9 n n)/\w'.cell? ⟨gc,12,Y⟩=I (VV gr n n)) (first|exact⟨k0,k1,k2,k3,k4,k5,k6,k7,k8,k9,az⟩|exact⟨m0,m1,m2,m3,m4,m5,m6,m7,m8,m9,aE⟩) (first
    |(go_at_call 58;refine(Uc (FA.mk n (O U n m) W g2 g3 g4 g5 g6 g7 g8 g9) (WG f.E) gr ((WG f.E).D (YT (WC f.E) L)) _ (aI.o.X (x5 _ _).drew) (ag.o.X (x5 _ _).drew)).mono ?_;rintro e w6 ⟨rfl,aS⟩;have F:aC (ψ J.heap.size J w6):=((x5 J.heap.size J).drew).trans (aS.mono (by simp));generalize hH:(WG f.E).hangsOn ((WG f.E).D (YT (WC f.E) L))=hh at*;have HH:=aD hH;have m0:=cK F l5 k0;have m1:=cK F l5 k1;have m2:=cK F l5 k2;have m3:=cK F l5 k3;have m4:=cK F l5 k4;have m5:=cK F l5 k5;have m6:=cK F l5 k6;have m7:=cK F l5 k7;have m8:=cK F l5 k8;have m9:=cK F l5 k9;have aE:=cK F l5 az))
   have ap:=aD (aF.o.X F);have ay:=aD (ag.o.X F);have F6:=aD (F5.o.X F);have aq:aC (gS (fP rss an z)=if hh then gS (fP rss (I ⟨⟨ae,rg,⟨n,O U n m,W,g2,g3,g4,g5,g6,g7,g8,g9⟩,cv,S,ac,ad⟩,f,L,rr⟩) u)else ZT (f,L)::gS (fP rss (I ⟨⟨ae,rg,⟨n,O U n m,W,g2,g3,g4,g5,g6,g7,g8,g9⟩,cv,S,ac,ad⟩,f,L,rr⟩) u)):=by
    unfold aC;rw[aw.o,kIe,<- HH.o];rfl
   cases hh with
   |true =>
    have hR:MG w gc A rss st C0 w6 (fP rss (I ⟨⟨ae,rg,⟨n,O U n m,W,g2,g3,g4,g5,g6,g7,g8,g9⟩,cv,S,ac,ad⟩,f,L,rr⟩) u).length:=by
     refine⟨_,_,_,ap,?_,Z,F6,λk hk=>?_,λk hk=>?_⟩
     ·have q:=aq.o;rw[θ rfl]at q;rw[<- q];exact HR
     ·obtain⟨s',e1,q⟩:=hk;simp only[Option.some.injEq]at e1;subst e1;exact au k q
     ·obtain⟨s',e1,q⟩:=hk;simp only[Option.some.injEq]at e1;subst e1;subst q;exact ar
    go_wp2
    grind
   |false =>
    have hF:gS (fP rss an z)=ZT (f,L)::gS (fP rss (I ⟨⟨ae,rg,⟨n,O U n m,W,g2,g3,g4,g5,g6,g7,g8,g9⟩,cv,S,ac,ad⟩,f,L,rr⟩) u):=by
     have q:=aq.o;rw[if_neg (by decide)]at q;exact q
    go_wp2;go_ret;exact⟨true,Z,F6,xF ⟨Z,_,_,_,gr,⟨ap,aE,ay⟩,by grind,au,ar⟩⟩
def mN(rv wb wd wg:S):Array S:=#[O Y 0 0,O Y 0 0,O Y 0 0,O Y 0 0,O Y 0 0,O Y 0 0,O Y 0 0,O Y 0 0,O Y 0 0,O Y 0 0,O Y 0 0,O Y 0 0,O Y 0 0,rv,wb,wd,wg,O Y 0 0,O Y 0 0,O Y 0 0,T G,T G]
def zNs(w w':z)(rss:U (U Run))(e:Ending):Prop:=∃rv vs wss gb gd,e=.returned (.agg (mN rv (VV gb rss.length rss.length) (VV gd rss.length rss.length) (T G)))/\(∃a n c,rv=O a n c)/\El w' 0 rv rss vs wss/\WO w' gb (YM rss)/\WO w' gd (hZ rss.length)/\w.heap.size<=gb/\w.heap.size<=gd/\gb≠gd/\ψ w.heap.size w w'
theorem nP(h:w.ownsRow B e sz v n xs):∃a c,v=O a n c:=by
 rcases h.2 with⟨d,f⟩|⟨g,cap,_,d,_⟩
 ·grind
 ·exact⟨_,cap,d⟩
def zEp(B m cap:K)(a:U VZ)(w:ξ)(h:gF w B (VV m a.length cap) a)(hn:a.length<20)(X:∀t∈a,(∀s∈t.S,ZR s)/\t.S.length<900/\ZO t.S<100000):
  γ prog 32 #[.agg #[VV m a.length cap]] w λe w'=>zNs w w' (WL a) e:=by
 obtain⟨k0,k1,ab,y⟩:=nZ w #[VV m a.length cap] (mN (O Y 0 0) (O Y 0 0) (O Y 0 0) (T G)) 40 94;have HT:=aD (h.keep λk hk=>y.block k hk);have D:=aD X;have f:=aD y;go_in;go_upto_region 1 with fail
 simp only[mN]at k0 k1 ab HT f;generalize hE:(w.alloc (M #[VV m a.length cap] 40)).alloc (M #[O Y 0 0,O Y 0 0,O Y 0 0,O Y 0 0,O Y 0 0,O Y 0 0,O Y 0 0,O Y 0 0,O Y 0 0,O Y 0 0,O Y 0 0,O Y 0 0,O Y 0 0,O Y 0 0,O Y 0 0,O Y 0 0,T G,O Y 0 0,O Y 0 0,O Y 0 0,T G,T G] 94)=W0 at*;have ad:=gE k0 0 _ Z;have l1:w.heap.size+1<W0.heap.size:=by omega
 have K1:=aD k1;go_wp2_with(first
  |(go_at_call 54;refine(zGG B m cap a _ HT hn D).mono ?_;rintro e w1 ⟨rv,vs,wss,gb,gd,rfl,z,J,L,ae,af,W,r⟩;have c:=aD z;have E:=aD J;have F:=aD L;have B1:=aD r;have H:=aD ((r.block _ l1).trans K1);obtain⟨xa,xc,aa⟩:=nP z.own;subst aa)
  |(refine wpList_store_mid Z 94 (.tmp 2) (.tmp 5) Z (w.heap.size+1) 0 (mN (O xa (WL a).length xc) (VV gb (WL a).length (WL a).length) (VV gd (WL a).length (WL a).length) (T G)) Z Z (DU H (by simp[mN])) (by kernel_rfl) (by simp[mN,xr]) ?_;have SW:=aD (MT (mN (O xa (WL a).length xc) (VV gb (WL a).length (WL a).length) (VV gd (WL a).length (WL a).length) (T G)).toList H (by simp[mN]));generalize w1.setCells (w.heap.size+1) 0 (mN (O xa (WL a).length xc) (VV gb (WL a).length (WL a).length) (VV gd (WL a).length (WL a).length) (T G)).toList=W2 at*))
 obtain⟨s0,s1,s2⟩:=SW.o;have d:∀{B n sz:K} {t:TypeId} {v:S} {xs:U S},w1.ownsRow B t sz v n xs->t≠94->W2.ownsRow B t sz v n xs:=λh ht=>bH h λk e=>s1 k λe2=>gG h H ht (by rw[e,e2])
 refine tS (p:=2) (w.heap.size+1) _ (by kernel_rfl) underlying94 Z (by kernel_rfl) Z (by exact s0) Z ?_;refine⟨_,vs,wss,gb,gd,Z,⟨_,_,_,Z⟩,⟨d c.o.own (by decide),c.o.lv,c.o.lw,λi hi u us hu ac=>?_⟩,E.o.aG (s1 _ (by omega)),F.o.aG (s1 _ (by omega)),by omega,by omega,W,s2 w w.heap.size (by omega) (bT f B1)⟩;have q:=c.o.U i hi u us hu ac;exact⟨d q.own (by decide),q.len,λj hj x hx=>d (q.K j hj x hx) (by decide)⟩
namespace Q
def kFw(a b:U (Wd×U W)):gS (a++b)=gS a++gS b:=by simp[gS]
def kGm(w:Wd):gS (GD w)=GG w (WG w.E):=by
 unfold gS GD GG;rw[List.map_map];rfl
def kId(rss:U (U Run))(l:U (U W)):gS (l.flatMap λd=>GD (XV rss d))=l.flatMap λds=>GG (XV rss ds) (WG (XV rss ds).E):=by
 induction l with
 |nil=>rfl
 |cons d l ih=>rw[xv,kFw,kGm,ih,xv]
def kLP(a:U VZ):DH a=gS (fP (WL a) Y (XH (YM (WL a)))):=by
 unfold fP;simp only[List.nil_append];rw[kId];rfl
end Q
section
variable {w w':ξ}{g:ν}{a:Q.XU}{ov:ι}{vs:σ ι}{fp:σ ν}
theorem Ei.yY(d:Ei w g a ov vs fp)(h:w.ownsRow B t sz v n xs)(q:t≠119)(r:t≠77)(u:t≠37)(k:ν)(e:v.ownBlock=I k):¬Wr g ov k:=λe2=>by
 obtain⟨c,m⟩:=d.o.ty
 rcases e2 with e2|e2
 ·grind [gG]
 ·rcases d.o.y.own.2 with⟨e3,_⟩|⟨b,p,f,e3,_,x,_⟩
  ·grind [x6]
  grind [x6,gG]
theorem Ei.kK(d:Ei w g a ov vs fp){c:Array ι}(h:w.heap[k]?=I (M c t (0,0)))(f:t≠119)(m:t≠77)(p:t≠37):¬Wr g ov k:=λe2=>by
 rcases e2 with e2|e2
 ·exact d.ne h (λe=>f e.symm) (λe=>m e.symm) e2.symm
 ·exact gG d.o.y.own h (λe=>p e.symm) e2
def QT(m:Ei w g a ov vs fp)(o:XF (Wr g ov) w w')(h:w.ownsRow B t sz v n xs)(c:t≠119)(d:t≠77)(f:t≠37):w'.ownsRow B t sz v n xs :=
 bH h λk e=>o.block k (h.lt k e).2 (m.yY h c d f k e)
def Jm(c:Ei w g a ov vs fp)(d:XF (Wr g ov) w w')(h:WO w b l):WO w' b l :=
 h.aG (d.block b h.lt (c.kK (t:=3) h (by decide) (by decide) (by decide)))
def Jn(m:Ei w g a ov vs fp)(d:XF (Wr g ov) w w'){o gd:K}{f:U W}{rest:U (U W)}(h:Ac w gc o gb gd f ds rest)(p:w'.heap[gc]?=w.heap[gc]?):Ac w' gc o gb gd f ds rest:=by
 obtain⟨b,⟨q,r,u,z,cl,x,y,E,F,H,J⟩,D⟩:=h;have c:∀j,w'.cell? ⟨gc,j,Y⟩=w.cell? ⟨gc,j,Y⟩:=λj=>xe (w:=w) (a:=⟨gc,j,Y⟩) p
 exact⟨b,⟨(c _).trans q,(c _).trans r,(c _).trans u,λj=>(xg (w:=w) (a:=⟨gc,j,Y⟩) p).trans (z j),xW cl d.size,Jm m d x,Jm m d y,E,F,H,J⟩,D⟩
theorem zOn(m:Ei w g a ov vs fp)(o:XF (Wr g ov) w w')(h:Box w gc):w'.heap[gc]?=w.heap[gc]?:=by
 obtain⟨c,d,f⟩:=id h
 grind [XF.block,Ei.kK]
def En.wr{rest:σ (σ ω)}(h:En w gc A rss st ds rest)(f:Ei w g a ov vs fp)(D:∀k,nbS st k->¬Wr g ov k)(d:XF (Wr g ov) w w'):En w' gc A rss st ds rest:=by
 have o:=zOn f d h.box;have m:∀j,w'.cell? ⟨gc,j,Y⟩=w.cell? ⟨gc,j,Y⟩:=λj=>xe (w:=w) (a:=⟨gc,j,Y⟩) o
 refine⟨h.box.of o,⟨(m _).trans h.ws.c0,⟨QT f d h.ws.U.own (by decide) (by decide) (by decide),h.ws.U.lv,h.ws.U.lw,λi r u W p F=>?_⟩,Jn f d h.ws.XY o⟩,(m _).trans h.beg,λs J=>?_⟩
 ·have q:=h.ws.U.U i r u W p F;exact⟨QT f d q.own (by decide) (by decide) (by decide),q.len,λj L x H=>QT f d (q.K j L x H) (by decide) (by decide) (by decide)⟩
 ·obtain⟨c,E⟩:=h.rs s J;have z:∀k,s.R.nb k->¬Wr g ov k:=λk S=>D k ⟨s,J,S⟩
  refine⟨⟨(m _).trans c.c0,(m _).trans c.c1,c.wdi.wr f (λk e=>z k (xR e)) d.block d.size,lC c.fc o,c.fin.wr f d.block,⟨(m _).trans c.rd.c0,⟨bH c.rd.y.own λk e=>d.block k (c.rd.y.own.lt k e).2 (z k (xF (xR e))),c.rd.y.len,λi r u p=>(c.rd.y.y i r u p).own _ (λk e=>d.block k ?_ (z k (xF (xF (xR ⟨u,xu p,e⟩))))) d.size⟩,Jn f d c.rd.XY o,c.rd.nc,c.rd.ne⟩,c.n1,c.n2,c.n3⟩,E⟩;exact NQ (c.rd.y.y i r u p) k e
end
theorem RA.on.vL{R:RA}{c:Q.Wd}{rest:σ (σ ω)}(h:R.on w gc A c ds rest)(k:ν)(d:R.nb k):k<w.heap.size:=by
 obtain⟨b,a⟩:=h.rd.XY.XY
 rcases d with e|e|⟨u,m,e⟩|e|e
 ·exact NQ h.wdi.g k e
 ·exact(h.rd.y.own.lt k e).2
 ·obtain⟨i,p,o⟩:=List.getElem_of_mem m;have f:i<(WC c.E).length:=by have:=h.rd.y.len;omega
  exact NQ (h.rd.y.y i f u (by grind)) k e
 ·subst e;exact a.bases.lt
 ·subst e;exact a.digits.lt
def En.vL{rest:σ (σ ω)}(h:En w gc A rss st ds rest)(k:ν)(a:nbS st k):k<w.heap.size:=by
 obtain⟨s,c,a⟩:=a;exact(h.rs s c).1.vL k a
def En.QL{rest:σ (σ ω)}(h:En w gc A rss st ds rest)(k:ν)(a:gdS st k):k<w.heap.size:=by
 obtain⟨s,c,a⟩:=a;subst a;exact h.vL _ ⟨s,c,xF (xF (xF (xF Z)))⟩
structure Eu(w0 w:ξ)(gc g:ν)(A:WA)(rss:σ (σ Run))(st:ρ RS)(ds:σ ω)(rest:σ (σ ω))(a:XU)(ov:ι)(vs:σ ι)(fp:σ ν):Prop where
 cand:En w gc A rss st ds rest
 ans:Ei w g a ov vs fp
 nb:∀k,nbS st k->¬Wr g ov k
 fpd:∀k∈fp,k≠gc/\k≠A.gd/\¬gdS st k
 low:w0.heap.size<=gc/\w0.heap.size<=g/\w0.heap.size<=A.gd/\(∀k,gdS st k->w0.heap.size<=k)/\(∀k,ov.ownBlock=I k->w0.heap.size<=k)/\∀k∈fp,w0.heap.size<=k
 bl:ψ w0.heap.size w0 w
section
variable {w0 w:ξ}{gc g:ν}{A:WA}{rss:σ (σ Q.Run)}{st:ρ RS}{ds:σ ω}{rest:σ (σ ω)}{a:Q.XU}{ov:ι}{vs:σ ι}{fp:σ ν}
def Eu.X(h:Eu w0 w gc g A rss st ds rest a ov vs fp)(c:ψ w.heap.size w w'):Eu w0 w' gc g A rss st ds rest a ov vs fp :=
 ⟨h.cand.X c,h.ans.X c,h.nb,h.fpd,h.low,bT h.bl c⟩
def Ej.xf(h:Ej w w' gc A st):XF (λk=>k=gc\/k=A.gd\/gdS st k) w w' :=
 ⟨h.os,h.tape,h.output,h.size,λk c a=>h.block k c (λe=>a (xR e)) (λe=>a (xF (xR e))) λe=>a (xF (xF e))⟩
theorem XF.low{P:ν->Prop}{c:ξ}(a:ψ c.heap.size c w)(h:XF P w w')(f:∀k,P k->c.heap.size<=k):ψ c.heap.size c w' :=
 ⟨h.os.trans a.os,h.tape.trans a.tape,h.output.trans a.output,x9 a.size h.size,λk d=>(h.block k (xW d a.size) λe=>by grind).trans (a.block k d)⟩
theorem Eu.frame(h:Eu w0 w gc g A rss st ds rest a ov vs fp)(m:Ej w w' gc A st):Ei w' g a ov vs fp/\ψ w0.heap.size w0 w':=by
 obtain⟨y,d,_⟩:=id h.cand.box;obtain⟨x,f⟩:=h.cand.ws.XY.XY;have p:∀k,gdS st k->∃l,WO w k l:=λk c=>by
  obtain⟨s,u,rfl⟩:=c;obtain⟨b,q⟩:=(h.cand.rs s u).1.rd.XY.XY;exact⟨_,q.digits⟩
 have o:∀k,k=gc\/k=A.gd\/gdS st k->¬Wr g ov k:=λk c=>by
  rcases c with e|e|e
  ·subst e;exact h.ans.kK d (by decide) (by decide) (by decide)
  ·subst e;exact h.ans.kK (t:=3) f.digits (by decide) (by decide) (by decide)
  ·obtain⟨l,r⟩:=p k e;exact h.ans.kK (t:=3) r (by decide) (by decide) (by decide)
 refine⟨h.ans.xf m.xf (λe=>o g e (xR Z)) (λk e e2=>o k e2 (xF e)) λk c e=>?_,m.xf.low h.bl λk e=>?_⟩
 ·grind [Eu.fpd]
 ·rcases e with e|e|e
  ·rw[e];exact h.low.1
  ·rw[e];exact h.low.2.2.1
  ·exact h.low.2.2.2.1 k e
theorem Eu.next(h:Eu w0 w gc g A rss st ds rest a ov vs fp){m:σ ω}{d:σ (σ ω)}(y:Ej w w' gc A st)(x:En w' gc A rss (I s) m d)(z:∀k,s.R.nb k->nbS st k\/w.heap.size<=k)(p:gdS st s.R.gd\/w.heap.size<=s.R.gd):Eu w0 w' gc g A rss (I s) m d a ov vs fp:=by
 obtain⟨r,u⟩:=h.frame y;have q:∀k,gdS (I s) k->k=s.R.gd:=λk c=>by
  obtain⟨D,e,e2⟩:=c
  grind
 refine⟨x,r,λk c e=>?_,λk c=>⟨(h.fpd k c).1,(h.fpd k c).2.1,λe=>?_⟩,⟨h.low.1,h.low.2.1,h.low.2.2.1,λk e=>?_,h.low.2.2.2.2.1,h.low.2.2.2.2.2⟩,u⟩
 ·obtain⟨D,e1,c⟩:=c;simp only[Option.some.injEq]at e1;subst e1
  rcases z k c with f|f
  ·exact h.nb k f e
  ·rcases e with e|e
   ·have:=h.ans.o.lt;omega
   ·have:=h.ans.o.gU k e;omega
 ·rw[q k e]at c e
  rcases p with f|f
  ·exact(h.fpd _ c).2.2 f
  ·have:=h.ans.o.fpl _ c;omega
 ·rw[q k e]
  rcases p with f|f
  ·exact h.low.2.2.2.1 _ f
  ·have:=h.bl.size;omega
theorem Eu.grow(h:Eu w0 w gc g A rss st ds rest a ov vs fp){r:XU}{f:ι}{p:σ ι}{c:σ ν}(u:Ei w' g r f p c)(m:Ek (Wr g ov) w w' ov f fp c):Eu w0 w' gc g A rss st ds rest r f p c:=by
 have y:=h.bl.size;refine⟨h.cand.wr h.ans h.nb m.xf,u,λk d e=>?_,λk d=>?_,⟨h.low.1,h.low.2.1,h.low.2.2.1,h.low.2.2.2.1,λk e=>?_,λk d=>?_⟩,m.xf.low h.bl λk e=>?_⟩
 ·rcases e with e|e
  ·exact h.nb k d (xR e)
  ·rcases m.own with e1|⟨b,e1,x⟩
   ·exact h.nb k d (xF (e1.symm.trans e))
   ·rw[e1]at e;simp at e;have:=h.cand.vL k d;omega
 ·rcases m.fpn k d with o|o
  ·exact h.fpd k o
  ·obtain⟨z,q⟩:=h.cand.ws.XY.XY;have D:=h.cand.box.lt;have E:=q.digits.lt;exact⟨by omega,by omega,λe=>by have:=h.cand.QL k e;omega⟩
 ·rcases m.own with e1|⟨b,e1,x⟩
  ·exact h.low.2.2.2.2.1 k (e1.symm.trans e)
  grind
 ·rcases m.fpn k d with o|o
  ·exact h.low.2.2.2.2.2 k o
  ·omega
 ·rcases e with e|e
  ·rw[e];exact h.low.2.1
  ·exact h.low.2.2.2.2.1 k e
end
namespace Q
def kEJ(es:U Ev):(WG es).E=es:=by
 have a:∀(i:K) (l:U K) (f:Ex),(l.foldl (λf k=>f.jJ i (ev es i) k (ev es k)) f).E=f.E:=by
  intro i l
  induction l with
  |nil=>intro f;rfl
  |cons k l ih=>intro f;rw[xw,ih];rfl
 have c:∀(l:U K) (f:Ex),(l.foldl (vF es) f).E=f.E:=by
  intro l
  induction l with
  |nil=>intro f;rfl
  |cons k l ih=>intro f;rw[xw,ih];exact a _ _ _
 exact c _ _
end Q
def zMc(g:K)(ov:S)(w:z)(f:w.cell? ⟨g,0,Y⟩=I ov)(m:g<w.heap.size)(d:∃a n c,ov=O a n c):
  γ prog 36 #[.pointer (I ⟨g,0,Y⟩)] w λe w'=>e=.returned ov/\w'=w:=by
 obtain⟨a,n,c,rfl⟩:=d;go_in;go_wp2;go_ret;exact⟨Z,Z⟩
def zGK{gd:K}(h:El w1 0 rv rss vs wss)(m:WO w1 gb (YM rss))(o:WO w1 gd (hZ rss.length))(f:gb≠gd)(c:W1.heap[w1.heap.size]?=I (M (mN rv (VV gb rss.length rss.length) (VV gd rss.length rss.length) (T G)) 94 (0,0)))(d:ψ w1.heap.size w1 W1):
  En W1 w1.heap.size ⟨rv,vs,wss,gb,gd⟩ rss Y (hZ rss.length) (XH (YM rss)):=by
 have u:=m.lt;have x:=o.lt;have a:∀j (v:S),(mN rv (VV gb rss.length rss.length) (VV gd rss.length rss.length) (T G))[j]?=I v->W1.cell? ⟨w1.heap.size,j,Y⟩=I v:=λj v q=>by simp only[x3,c];simpa using q
 have e2:(hZ rss.length).length=rss.length:=by simp[hZ]
 refine⟨⟨_,c,by simp[mN]⟩,⟨a 13 _ Z,h.X d,G,⟨?_,?_,a 16 _ Z,λj=>by simp[xb,c],dC c,m.X d,o.X d,?_,?_,f,?_⟩,xR ⟨Z,?_,Z⟩⟩,a 21 _ Z,λs p=>by simp at p⟩
 ·rw[show(List.map (λr=>((r:U Run).length:W)) rss).length=rss.length by simp];exact a 14 _ Z
 ·rw[e2];exact a 15 _ Z
 ·simp only;omega
 ·simp only;omega
 ·rw[e2];simp
 ·simp
structure HandO(B:ν)(w:ξ)(ov:ι)(rs:σ (σ ω))(vs:σ ι):Prop where
 y:XB w 0 ov rs vs
 hand:Hand w rs vs
 lo:∀k,ov.ownBlock=I k->B<=k
 lr:∀u∈vs,∀k,u.ownBlock=I k->B<=k
def HandO.mono{a:ν}(h:HandO B w ov rs vs)(c:a<=B):HandO a w ov rs vs:=⟨h.y,h.hand,λk e=>x9 c (h.lo k e),λu d k e=>x9 c (h.lr u d k e)⟩
theorem zKF{W:z}(h:W.heap[g]?=I (M #[O Y 0 0,T G] t (0,0)))(o:t=119\/t=77):Ei W g ⟨[],G⟩ (O Y 0 0) [] []:=by
 have d:=dC h;refine⟨⟨by simp[x3,h],d,by simp[xb,h],⟨xh _ _ _ _,Z,λi a=>by simp at a⟩,⟨#[O Y 0 0,T G],?_⟩,λu f=>by simp at f,λk c=>by simp at c,λk c=>by simp at c,⟨λi a=>by simp at a,List.Pairwise.nil⟩⟩,by simp[x3,h],⟨by simp[YX],λx m=>by simp at m⟩⟩
 grind
def KY(w0:z)(gc g:K)(A:WA)(rss:U (U Run))(F:XU->Cand->XU)(fin:XU)(wr:z)(m:K):Prop :=
 ∃st ds rest a ov vs fp,Eu w0 wr gc g A rss st ds rest a ov vs fp/\(gS (fP rss st rest)).foldl F a=fin/\(gS (fP rss st rest)).length=m
def zJp{gd:K}(h:El w1 0 rv rss vs wss)(r:WO w1 gb (YM rss))(u:WO w1 gd (hZ rss.length))(m:gb≠gd)(q:W1.heap[w1.heap.size]?=I (M (mN rv (VV gb rss.length rss.length) (VV gd rss.length rss.length) (T G)) 94 (0,0)))(p:ψ w1.heap.size w1 W1)(x:W1.heap[g]?=I (M #[O Y 0 0,T G] t (0,0)))(y:t=119\/t=77)(z:w.heap.size<=w1.heap.size)(d:w.heap.size<=g)(f:w.heap.size<=gd)(c:ψ w.heap.size w W1):
  Eu w W1 w1.heap.size g ⟨rv,vs,wss,gb,gd⟩ rss Y (hZ rss.length) (XH (YM rss)) ⟨[],G⟩ (O Y 0 0) [] []:=
 ⟨zGK h r u m q p,zKF x y,λk a=>by obtain⟨s,o,_⟩:=a;simp at o,λk a=>by simp at a,⟨z,d,f,λk a=>by obtain⟨s,o,_⟩:=a;simp at o,λk e=>by simp[x6]at e,λk a=>by simp at a⟩,c⟩
def InP(w:z)(o:ρ κ)(n:K):Prop:=0<n->∃b,o=I ⟨b,0,Y⟩/\b<w.heap.size/\∀i,i<n->∃a m c,w.cell? ⟨b,i,Y⟩=I (VV a m c)/\m<1000/\a<w.heap.size/\∀k,k<m->w.cell? ⟨a,k,Y⟩=I (V .i64 (-1-(i:W)))
def Jo(w:z)(o:ρ κ)(n:K):Prop:=0<n->∃b,o=I ⟨b,0,Y⟩/\b<w.heap.size/\∀i,i<n->∃a m c,w.cell? ⟨b,i,Y⟩=I (O a m c)/\m<=9223372036854775807/\(0<m->∃d,a=I ⟨d,0,Y⟩/\d<w.heap.size/\∀k,k<m->∃f,w.cell? ⟨d,k,Y⟩=I (VV f 2 2)/\f<w.heap.size/\w.cell? ⟨f,0,Y⟩=I (V .i64 (i:W))/\w.cell? ⟨f,1,Y⟩=I (V .i64 (k:W)))
def zKG(gw:ν)(W X:ρ κ)(u x c1 c2:ν)(w:ξ)(z:gw<w.heap.size)(L:w.cell? ⟨gw,1,Y⟩=I (O W u c1))(S:w.cell? ⟨gw,2,Y⟩=I (O X x c2))(hI:InP w W u)(hO:Jo w X x)(aa:u<100000000)(ab:x<100000000):
  γ prog 5 #[.pointer (I ⟨gw,0,Y⟩)] w λe w'=>e=.returned (T true)/\ψ w.heap.size w w':=by
 have HI:=aD hI;have HO:=aD hO;go_in;go_wp2;go_loopw[3] (λj wr=>∃k:ν,k<=u/\j=V .i64 k/\aC (ψ w.heap.size w wr)) λj _=>u-(τ j).toNat
 case atStart=>exact⟨0,x4 _,Z,x5 _ _⟩
 case round =>
  obtain⟨i,hi,rfl,HB⟩:=hrel;have F:=cK HB z L;by_cases hlt:i<u
  ·have q:=lI hlt;obtain⟨b,rfl,K,p⟩:=HI.o (by omega);obtain⟨a,m,c,H,hm,la,y⟩:=p i hlt;have E:=aD y;have D:=aD H;go_wp2;go_loopw[4] (λj wy=>∃k:ν,k<=m/\j=V .i64 k/\aC (ψ w.heap.size w wy)) λj _=>m-(τ j).toNat
   case atStart=>exact⟨0,x4 _,Z,HB⟩
   case round =>
    obtain⟨k,y,rfl,HB⟩:=hrel;have F:=cK HB z L;have d2:=cK HB K D;by_cases hkl:k<m
    ·have r:=lI hkl;have d3:=cK HB la (E k hkl);have hw:IntKind.i64.wrap (-1-(i:ω))=-1-(i:ω):=IntWalk.i64_in _ ⟨by omega,by omega⟩;go_wp2;go_roundw;exact⟨k+1,by omega,by go_num,HB⟩;simp[τ];omega
    ·have r:decide ((k:ω)<m)=G:=φ (by omega);go_wp2;go_roundw;exact⟨i+1,by omega,by go_num,HB⟩;simp[τ];omega
  ·have q:decide ((i:ω)<u)=G:=φ (by omega);go_wp2;go_loopw[5] (λj wr=>∃k:ν,k<=x/\j=V .i64 k/\aC (ψ w.heap.size w wr)) λj _=>x-(τ j).toNat
   case atStart=>exact⟨0,x4 _,Z,HB⟩
   case round =>
    obtain⟨i,hi,rfl,HB⟩:=hrel;have F:=cK HB z S;by_cases hlt:i<x
    ·have q:=lI hlt;obtain⟨b,rfl,K,p⟩:=HO.o (by omega);obtain⟨a,m,c,H,hm,y⟩:=p i hlt;have E:=aD y;have D:=aD H;go_wp2;go_loopw[6] (λj wy=>∃k:ν,k<=m/\j=V .i64 k/\aC (ψ w.heap.size w wy)) λj _=>m-(τ j).toNat
     case atStart=>exact⟨0,x4 _,Z,HB⟩
     case round =>
      obtain⟨k,y,rfl,HB⟩:=hrel;have F:=cK HB z S;have d2:=cK HB K D;by_cases hkl:k<m
      ·have r:=lI hkl;obtain⟨d,rfl,ld,J⟩:=E.o (by omega);obtain⟨f,e1,U,e2,e3⟩:=J k hkl;have d3:=cK HB ld e1;have d4:=cK HB U e2;have d5:=cK HB U e3;go_wp2;go_roundw;exact⟨k+1,by omega,by go_num,HB⟩;simp[τ];omega
      ·have r:decide ((k:ω)<m)=G:=φ (by omega);go_wp2;go_roundw;exact⟨i+1,by omega,by go_num,HB⟩;simp[τ];omega
    ·have q:decide ((i:ω)<x)=G:=φ (by omega);go_wp2;go_ret;exact⟨Z,HB⟩
structure M1(w wr:ξ)(gw:ν)(vs:σ ι)(i:ν)(xi:ρ κ)(ci:ν):Prop where
 gb:∃t,wr.heap[gw]?=I (M #[t,O xi i ci,O Y 0 0] 26 (0,0))
 own:wr.ownsRow w.heap.size 37 1 (O xi i ci) i (vs.take i)
 done:∀j,j<i->∃k l,vs[j]?=I (VV k l l)/\l<1000/\WO wr k (x7 l (-1-(j:ω)))
 rest:∀k,k<w.heap.size->k≠gw->(∀j u,j<i->vs[j]?=I u->u.ownBlock≠I k)->wr.heap[k]?=w.heap[k]?
 size:w.heap.size<=wr.heap.size
 os:wr.os=w.os
 tape:wr.tape=w.tape
 output:wr.output=w.output
structure M0(w:ξ)(gw:ν)(rs:σ (σ ω))(vs:σ ι):Prop where
 gb:∃t,w.heap[gw]?=I (M #[t,O Y 0 0,O Y 0 0] 26 (0,0))
 row:∀i (h:i<rs.length),∃k,vs[i]?=I (VV k rs[i].length rs[i].length)/\WO w k rs[i]
 len:vs.length=rs.length
 nd:vs.Pairwise λa b=>a.ownBlock≠b.ownBlock
 few:rs.length<100000000
 small:∀r∈rs,r.length<1000
section
variable {w wr wy w3:ξ}{gw:ν}{rs:σ (σ ω)}{vs:σ ι}{i:ν}{xi:ρ κ}{ci:ν}
theorem M0.lt(h:M0 w gw rs vs):gw<w.heap.size:=by
 grind [M0.gb]
theorem M0.ne(h:M0 w gw rs vs){l:ν}(c:vs[j]?=I (VV k l l)):k<w.heap.size/\k≠gw:=by
 have a:j<rs.length:=by grind [M0.len]
 grind [M0.row,M0.gb,WO]
def M0.dis(h:M0 w gw rs vs){d:ν}{u f:ι}(p:vs[j]?=I u)(a:vs[d]?=I f)(c:j<d):u.ownBlock≠f.ownBlock:=by
 obtain⟨m,rfl⟩:=List.getElem?_eq_some_iff.1 p;obtain⟨o,rfl⟩:=List.getElem?_eq_some_iff.1 a;exact List.pairwise_iff_getElem.1 h.nd j d m o c
theorem M1.start(h:M0 w gw rs vs):M1 w w gw vs 0 Y 0 :=
 ⟨h.gb,by grind [xh],λj a=>by omega,λ_ _ _ _=>Z,xn _,Z,Z,Z⟩
def M1.pX(h:M1 w wr gw vs i xi ci)(k:ν)(a:k<w.heap.size):I k≠(xm xi i ci).ownBlock:=λe=>by
 have:=(h.own.lt k e.symm).1;omega
theorem M1.next(H:M0 w gw rs vs)(h:M1 w wr gw vs i xi ci){c l:ν}(m:vs[i]?=I (VV c l l))(U:l<1000)(d:wr.grownBy wy (I c))(S:WO wy c (x7 l (-1-(i:ω))))(f:w3.ownsRow w.heap.size 37 1 (VV gn (i+1) cn) (i+1) (vs.take i++[VV c l l]))(a:(wy.alloc (M #[u0] 37)).grownBy w3 (xm xi i ci).ownBlock):
  M1 w (w3.setCell ⟨gw,1,Y⟩ (VV gn (i+1) cn)) gw vs (i+1) (I ⟨gn,0,Y⟩) cn:=by
 have y:=H.lt;obtain⟨u,x⟩:=H.ne m;have L:w.heap.size<=gn:=(f.lt gn Z).1;have s1:=h.size;have s2:=d.size;have X:=a.size;simp at X;have keep:∀k,k<w.heap.size->k≠c->k≠gw->(w3.setCell ⟨gw,1,Y⟩ (VV gn (i+1) cn)).heap[k]?=wr.heap[k]?:=λk o p q=>by
  rw[xd _ _ _ _ q,a.block k (by simp;omega) (h.pX k o),x1 _ _ _ (by omega),d.block k (by omega) (by simpa using p)]
 refine⟨?_,?_,λj hj=>?_,λk o p q=>?_,?_,?_,?_,?_⟩
 ·obtain⟨t,J⟩:=h.gb;have K:w3.heap[gw]?=I (M #[t,O xi i ci,O Y 0 0] 26 (0,0)):=by
   rw[a.block gw (by simp;omega) (h.pX gw y),x1 _ _ _ (by omega),d.block gw (by omega) (by grind),J]
  exact⟨t,cI K 1 _⟩
 ·grind [List.take_add_one,bH,xd,x6]
 ·by_cases hji:j=i
  ·subst hji;refine⟨c,l,m,U,S.aG ?_⟩;rw[xd _ _ _ _ x,a.block c (by simp;omega) (h.pX c u),x1 _ _ _ (by omega)]
  ·obtain⟨k,W,r,z,D⟩:=h.done j (by omega);obtain⟨E,F⟩:=H.ne r;refine⟨k,W,r,z,D.aG (keep k E (λe=>H.dis r m (by omega) (by rw[e];rfl)) F)⟩
 ·rw[keep k o (λe=>q i _ (by omega) m (by rw[e];rfl)) p]
  grind [M1.rest]
 ·simp;omega
 ·exact(a.os.trans d.os).trans h.os
 ·exact(a.tape.trans d.tape).trans h.tape
 ·exact(a.output.trans d.output).trans h.output
end
theorem zNt(k:K)(m:W)(r:U W)(a:k<r.length):(x7 k m++r.drop k).set k m=x7 (k+1) m++r.drop (k+1):=by
 grind [List.set_append_right,xx,List.replicate_succ']
structure M3(W1 wr:ξ)(b cap i:ν):Prop where
 grow:W1.grownBy wr (I b)
 ob:∃cur:Array ι,wr.heap[b]?=I (M cur 37 (0,0))/\cur.size=cap/\∀j,j<i->∃f,cur[j]?=I (VV f 2 2)/\W1.heap.size<=f/\WO wr f [0,(j:ω)]
theorem M3.next{wr:ξ}(h:M3 W1 wr b cap i)(y:i<cap)(x:b<W1.heap.size):M3 W1 ((wr.setCell ⟨b,i,Y⟩ (VV wr.heap.size 2 2)).alloc (M #[V .i64 0,V .i64 (i:ω)] 3)) b cap (i+1):=by
 obtain⟨d,u,o,p⟩:=h.ob;have q:=h.grow.size;have keep:∀k,k<wr.heap.size->k≠b->((wr.setCell ⟨b,i,Y⟩ (VV wr.heap.size 2 2)).alloc (M #[V .i64 0,V .i64 (i:ω)] 3)).heap[k]?=wr.heap[k]?:=λk c a=>by
  grind [x1,xd]
 refine⟨⟨h.grow.os,h.grow.tape,h.grow.output,by simp;omega,λk c a=>?_⟩,d.setIfInBounds i (VV wr.heap.size 2 2),?_,by simp[o],λj z=>?_⟩
 ·rw[keep k (by omega) (by simpa using a)];exact h.grow.block k c a
 ·grind [x1,cI]
 ·by_cases hji:j=i
  ·subst hji;refine⟨wr.heap.size,by grind,q,?_⟩;have m:=δ (wr.setCell ⟨b,j,Y⟩ (VV wr.heap.size 2 2)) (M #[V .i64 0,V .i64 (j:ω)] 3);rw[show(wr.setCell ⟨b,j,Y⟩ (VV wr.heap.size 2 2)).heap.size=wr.heap.size by simp]at m;exact m
  ·obtain⟨f,c,a,r⟩:=p j (by omega)
   grind [WO.aG,WO.lt]
def M3.cell{wr:ξ}(h:M3 W1 wr b cap i)(j:ν)(f:j<cap):∃u,wr.cell? ⟨b,j,Y⟩=I u:=by
 obtain⟨a,c,d,m⟩:=h.ob;exact⟨a[j]'(by omega),by simp[x3,c,d,f]⟩
def M3.free{wr:ξ}(h:M3 W1 wr b cap i)(j:ν):wr.frozen? ⟨b,j,Y⟩=G:=by
 obtain⟨a,c,d,f⟩:=h.ob;simp[xb,c]
def pD(N:K)(w w':z)(gw:K):Prop:=∃o1 n1 c1 o2 n2 c2,w'.cell? ⟨gw,1,Y⟩=I (O o1 n1 c1)/\w'.cell? ⟨gw,2,Y⟩=I (O o2 n2 c2)/\InP w' o1 n1/\Jo w' o2 n2/\n1<100000000/\n2<100000000/\gw<w'.heap.size/\ψ N w w'
theorem zMd{wr:ξ}{L:ρ κ}{D:ν}(H:M0 w gw rs vs)(m:M1 w W1 gw vs n L D)(hn:n=rs.length)(p:M3 W1 wr b cap cap)(X:cap<=ε)(hb:b<w.heap.size)(E:b≠gw)(K:∀(j:ν) (u:ι),vs[j]?=I u->u.ownBlock≠I b)(ac:N<=gw)(ab:N<=b)(ad:∀u∈vs,∀k,u.ownBlock=I k->N<=k)(o:w3.ownsRow wr.heap.size 23 1 (VV gn 1 cn) 1 [VV b cap cap])(d:(wr.alloc (M #[u0] 23)).grownBy w3 Y):
  pD N w (w3.setCell ⟨gw,2,Y⟩ (VV gn 1 cn)) gw:=by
 have af:=H.lt;have s1:=m.size;have s2:=p.grow.size;have s3:=d.size;simp at s3;have ae:=o.lt gn Z;have keep:∀k,k<wr.heap.size->k≠gw->(w3.setCell ⟨gw,2,Y⟩ (VV gn 1 cn)).heap[k]?=wr.heap[k]?:=λk r x=>by
  rw[xd _ _ _ _ x,d.block k (by simp;omega) (by simp),x1 _ _ _ r]
 have qG:∀k,k<W1.heap.size->k≠gw->k≠b->(w3.setCell ⟨gw,2,Y⟩ (VV gn 1 cn)).heap[k]?=W1.heap[k]?:=λk r x a3=>by
  rw[keep k (by omega) x,p.grow.block k r (by simpa using a3)]
 obtain⟨t,hg⟩:=m.gb;have F:w3.heap[gw]?=I (M #[t,O L n D,O Y 0 0] 26 (0,0)):=by
  rw[d.block gw (by simp;omega) (by simp),x1 _ _ _ (by omega),p.grow.block gw (by omega) (by grind),hg]
 have q:=cI F 2 (VV gn 1 cn);refine⟨L,n,D,I ⟨gn,0,Y⟩,1,cn,by simp[x3,q],by simp[x3,q],λh0=>?_,λ_=>?_,by grind [M0.few],by omega,by simp;omega,?_⟩
 ·rcases m.own.2 with⟨_,e⟩|⟨y,c,cu,e,q1,q2,q3,q4,q5,q6⟩
  ·omega
  ·simp only[Value.slice.injEq]at e;obtain⟨rfl,_,rfl⟩:=e;have q7:=dC q2;refine⟨y,Z,by simp;omega,λi J=>?_⟩;obtain⟨k,l,U,d2,d3⟩:=m.done i J;obtain⟨e1,e2⟩:=H.ne U;have W:=d3.aG (qG k (by omega) e2 λe=>K i _ U (by rw[e];rfl));refine⟨k,l,l,?_,d2,W.lt,λj hj=>by rw[W.cell j (by simpa using hj)];simp⟩;rw[xe (w:=W1) (a:=⟨y,i,Y⟩) (qG y q7 (by omega) (by omega)),m.own.cellAt i (by simpa using J)]
   grind
 ·refine⟨gn,Z,by simp;omega,λi J=>?_⟩;obtain rfl:i=0:=by omega
  refine⟨I ⟨b,0,Y⟩,cap,cap,?_,by grind [ε],λhc=>⟨b,Z,by simp;omega,λk hk=>?_⟩⟩
  ·rw[fC (by omega),o.cellAt 0 (by omega)];rfl
  ·obtain⟨aa,b1,b2,b3⟩:=p.ob;obtain⟨f,c1,c2,S⟩:=b3 k hk;have z:=S.aG (keep f S.lt (by omega));refine⟨f,?_,z.lt,z.cell 0 (by simp),z.cell 1 (by simp)⟩;rw[xe (w:=wr) (a:=⟨b,k,Y⟩) (keep b (by omega) E)];simp[x3,b1,c1]
 ·refine⟨(d.os.trans p.grow.os).trans m.os,(d.tape.trans p.grow.tape).trans m.tape,(d.output.trans p.grow.output).trans m.output,by simp;omega,λk hk=>?_⟩
  grind [M1.rest]
def Tryz.infoRows:(prog.info? 23).map (λi=>(i.zero,i.size,i.bytes))=I (I (O Y 0 0),1,24):=by kernel_rfl
def zHC(w:z)(r:ρ K)(n:K):w.grownBy (w.drewN n) r :=
 have h:=iU w.heap.size w n
 ⟨h.os,h.tape,h.output,h.size,λk a _=>h.block k a⟩
theorem zKH(N gw b cap:ν)(rs:σ (σ ω))(vs:σ ι)(p:Array ι)(w:ξ)(h:M0 w gw rs vs)(hb:w.heap[b]?=I (M p 37 (0,0)))(an:p.size=cap)(am:rs.length<=cap)(ag:cap<=ε)(ay:p.toList.take rs.length=vs)(aM:N<=gw)(aL:N<=b)(ak:∀u∈vs,∀k,u.ownBlock=I k->N<=k):
  γ prog 24 #[.pointer (I ⟨gw,0,Y⟩),VV b rs.length cap] w λe w'=>e=.returned (.tuple #[])/\pD N w w' gw:=by
 obtain⟨j0,aO,aV,aW,aX⟩:=info_parts Tryz.infoRows;have aJ:=aD ak;clear ak;have H:=aD h;have aS:=h.lt;have ad:b<w.heap.size:=dC hb;have ac:b≠gw:=λe=>by
  obtain⟨t,h1⟩:=h.gb
  grind
 have ax:∀(j:ν) (u:ι),vs[j]?=I u->u.ownBlock≠I b:=λj u E e=>by
  have aP:j<rs.length:=by grind
  obtain⟨k,h1,h2⟩:=h.row j aP
  grind [x6,WO]
 have ab:=aD ax;have z:∀i (hi:i<vs.length),w.cell? ⟨b,i,Y⟩=I vs[i]:=λi hi=>by
  have h1:p.toList[i]?=vs[i]?:=by
   grind
  simp only[x3,hb]
  grind
 have L:=aD z;have ba:=h.few;have HB:=aD hb;have bc:=aD ay;have az:=aD an;have W:=aD ag;have aZ:=aD am;clear h ax z hb ay an;go_in;go_wp2;go_loopw[4] (λj wr=>∃(i:ν) (xi:ρ κ) (ci:ν),i<=rs.length/\j=V .i64 i/\aC (M1 w wr gw vs i xi ci)) λj _=>rs.length-(τ j).toNat
 case atStart=>exact⟨0,_,_,x4 _,Z,M1.start H⟩
 case round =>
  obtain⟨i,xi,ci,hi,rfl,m⟩:=hrel;by_cases hlt:i<rs.length
  ·have ap:=lI hlt;obtain⟨q,E,aq⟩:=H.o.row i hlt;obtain⟨aQ,ar⟩:=H.o.ne E;have aT:=H.o.small rs[i] (xy hlt);have x:wr.heap[b]?=w.heap[b]?:=m.o.rest b ad ac λj u _ E=>ab j u E;have au:wr.heap[q]?=w.heap[q]?:=m.o.rest q aQ ar λj u hj hv e=>H.o.dis hv E hj (by rw[e];rfl);have aE:=aD (aq.aG au);have HU:=aD E;have d0:wr.cell? ⟨b,i,Y⟩=I (VV q rs[i].length rs[i].length):=by
    have aN:i<vs.length:=by grind
    rw[xe (w:=w) (a:=⟨b,i,Y⟩) x,L.o i aN]
    grind
   have aU:=m.o.size;have lb:b<wr.heap.size:=by omega
   clear aq E x au;generalize rs[i]=r at*;have bd:(0:ω)<=r.length:=by omega
   go_wp2;go_quiet (fail)
   all_goals
    go_wp2;clear d0 lb;have aA:=aD (zHC wr (I q));obtain⟨tx,(S:aC _)⟩:=m.o.gb;have aa:=aD m.o.own;have D:gw<wr.heap.size:=by omega
    have aR:q<wr.heap.size:=by omega
    have ae:I gw≠I q:=by simpa using λe=>ar e.symm
    have ai:=aD λk hk=>m.o.pX k hk;have aj:=aD λwy w3 hg hi u0 gn cn h1 h2=>M1.next (wy:=wy) (w3:=w3) H m HU aT hg hi (u0:=u0) (gn:=gn) (cn:=cn) h1 h2;go_loopw[6] (λj wy=>∃k:ν,k<=r.length/\j=V .i64 k/\aC (wr.grownBy wy (I q))/\aC (WO wy q (x7 k (-1-(i:ω))++r.drop k))) λj _=>r.length-(τ j).toNat
    case atStart=>exact⟨0,x4 _,Z,aA _,aE.o.X (iU _ _ _)⟩
    case round =>
     obtain⟨k,hk,rfl,J,HI⟩:=hrel;have d:wr.heap[gw]?=I (M #[tx,O xi i ci,O Y 0 0] 26 (0,0)):=(J.o.block gw D ae).trans S;have c1:=gE d 1 _ Z;have f1:wr.frozen? ⟨gw,1,Y⟩=G:=by simp[xb,d]
     have lg:=xW D J.o.size;have lk:=xW aR J.o.size;have bb:=aD d;clear d;by_cases hkk:k<r.length
     ·have af:=lI hkk;have hw:IntKind.i64.wrap (-1-(i:ω))=-1-(i:ω):=IntWalk.i64_in _ ⟨by omega,by omega⟩;have c2:=HI.o.cell k (by simp;omega);have f2:=HI.o.free k;have ah:=aD (HI.o.set k (-1-(i:ω)));rw[zNt k _ r hkk]at ah;have aB:=aD (kZ J k (V .i64 (-1-(i:ω))));generalize(x7 k (-1-(i:ω))++r.drop k)[k]'_=y at*;clear aa ai aj m;go_wp2;go_roundw;exact⟨k+1,by omega,by go_num,aB,ah⟩;simp[τ];omega
     ·have af:decide ((k:ω)<r.length)=G:=φ (by omega);obtain rfl:k=r.length:=by omega
      rw[List.drop_eq_nil_of_le (xn _),x8]at HI;have aK:aC ((wr.alloc (M #[VV q r.length r.length] 37)).ownsRow w.heap.size 37 1 (O xi i ci) i (vs.take i)):=bH aa λk e=>by
       have h1:=aa.o.lt k e;have h2:=J.o.size;rw[x1 _ _ _ (by omega)];exact J.o.block k h1.2 (by simp;omega)
      have aw:=ai.o gw aS;have e1:(wr.alloc (M #[VV q r.length r.length] 37)).cell? ⟨gw,1,Y⟩=I (O xi i ci):=(lQ lg).trans c1;have g1:(wr.alloc (M #[VV q r.length r.length] 37)).frozen? ⟨gw,1,Y⟩=G:=by rw[xg (w:=wr) (a:=⟨gw,1,Y⟩) (x1 _ _ _ lg)];exact f1
      have bf:w.heap.size<=wr.heap.size:=by have:=J.o.size;omega
      go_wp2_with(first|(at_builtin;refine wD Tryz.infoRow η Z Z (.tmp 45) (.tmp 47) Z Z Z Z Z (by exact aK) (by omega) (by omega) ?_;intro gn cn w3 f c al av;have d3:=(c.cell_far ⟨gw,1,Y⟩ (by simp;omega) aw).trans e1;have f3:=(c.frozen_far ⟨gw,1,Y⟩ (by simp;omega) aw).trans g1;have aY:gw<w3.heap.size:=by have:=c.size;simp at this;omega));go_roundw;exact⟨i+1,_,_,by omega,by go_num,aj _ _ J HI _ _ _ f c⟩;simp[τ];omega
  ·have ap:decide ((i:ω)<rs.length)=G:=φ (by omega);have aU:=m.o.size;have x:wr.heap[b]?=I (M p 37 (0,0)):=(m.o.rest b ad ac λj u _ E=>ab j u E).trans HB;have ag:=W.o;have aH:aC (M3 wr wr b cap 0):=⟨nJ _ _,p,x,az,λj hj=>by omega⟩;obtain⟨tx,(S:aC _)⟩:=m.o.gb;have D:gw<wr.heap.size:=by omega
   have K:b<wr.heap.size:=by omega
   have ae:I gw≠I b:=by grind
   have ao:i=rs.length:=by omega
   have F:=aD λwx w3 gn cn u0 h3 h4 h5=>zMd (N:=N) (b:=b) (cap:=cap) (wr:=wx) (w3:=w3) (gn:=gn) (cn:=cn) (u0:=u0) H m ao h3 W ad ac ab aM aL aJ h4 h5;have be:cap<=9223372036854775807:=by grind [ε]
   clear x ag ao W;go_wp2;clear ap hlt hi;go_loopw[9] (λj wy=>∃k:ν,k<=cap/\j=V .i64 k/\aC (M3 wr wy b cap k)) λj _=>cap-(τ j).toNat
   case atStart=>exact⟨0,x4 _,Z,aH⟩
   case round =>
    obtain⟨k,hk,rfl,U⟩:=hrel;have d:wr.heap[gw]?=I (M #[tx,O xi i ci,O Y 0 0] 26 (0,0)):=(U.o.grow.block gw D ae).trans S;have c1:=gE d 2 _ Z;have f1:wr.frozen? ⟨gw,2,Y⟩=G:=by simp[xb,d]
    have lg:=xW D U.o.grow.size;have lb:=xW K U.o.grow.size;clear d;by_cases hkk:k<cap
    ·have af:=lI hkk;have aF:=aD (U.o.next hkk K);obtain⟨y,c2⟩:=U.o.cell k hkk;have f2:=U.o.free k;have e2:(wr.alloc (M #[V .i64 0,V .i64 (k:ω)] 3)).cell? ⟨b,k,Y⟩=I y:=(lQ lb).trans c2;have g2:(wr.alloc (M #[V .i64 0,V .i64 (k:ω)] 3)).frozen? ⟨b,k,Y⟩=G:=by rw[xg (w:=wr) (a:=⟨b,k,Y⟩) (x1 _ _ _ lb)];exact f2
     clear F m;go_wp2;go_roundw;exact⟨k+1,by omega,by go_num,aF⟩;simp[τ];omega
    ·have af:decide ((k:ω)<cap)=G:=φ (by omega);have aI:aC (∀j u,[VV b cap cap][j]?=I u->(wr.alloc (M #[VV b cap cap] 23)).cell? ((⟨wr.heap.size,0,Y⟩:κ).add j)=I u):=xz (cs:=#[VV b cap cap]) (t:=23) (fr:=(0,0)) (δ wr _);have e1:(wr.alloc (M #[VV b cap cap] 23)).cell? ⟨gw,2,Y⟩=I (O Y 0 0):=(lQ lg).trans c1;have g1:(wr.alloc (M #[VV b cap cap] 23)).frozen? ⟨gw,2,Y⟩=G:=by rw[xg (w:=wr) (a:=⟨gw,2,Y⟩) (x1 _ _ _ lg)];exact f1
     obtain rfl:k=cap:=by omega
     go_wp2_with(first|(at_builtin;refine υ _ Z (.tmp 76) (.tmp 78) 24 Z wr.heap.size 23 j0 (O Y 0 0) 1 24 underlying24 aO aV aW aX Z (by decide) (O Y 0 0) 0 [] Z (xh _ _ _ _) ⟨wr.heap.size,0,Y⟩ 1 1 [VV b k k] Z Z (by exact aI) (by simp[xr]) (by decide) (by unfold ε;omega) (by omega) (by simp) _ Z ?_;intro gn cn w3 f c al av;have d3:=(c.cell_far ⟨gw,2,Y⟩ (by simp;omega) (by simp[x6])).trans e1;have f3:=(c.frozen_far ⟨gw,2,Y⟩ (by simp;omega) (by simp[x6])).trans g1;have aY:gw<w3.heap.size:=by have:=c.size;simp at this;omega));go_end0;exact⟨Z,F _ _ _ _ _ U f c⟩
theorem zNu{t:S}(o:w.heap[gw]?=I (M #[t,O Y 0 0,O Y 0 0] 26 (0,0)))(r:N<=gw)(d:ψ w.heap.size w W1)(c:w3.ownsRow W1.heap.size 23 1 (VV gn 1 cn) 1 [O Y 0 0])(a:(W1.alloc (M #[u0] 23)).grownBy w3 Y):
  pD N w (w3.setCell ⟨gw,2,Y⟩ (VV gn 1 cn)) gw:=by
 have m:=dC o;have D:=d.size;have x:=a.size;simp at x;have u:=c.lt gn Z;have keep:∀k,k<w.heap.size->w3.heap[k]?=w.heap[k]?:=λk p=>by
  rw[a.block k (by simp;omega) (by simp),x1 _ _ _ (by omega),d.block k p]
 have f:=cI ((keep gw m).trans o) 2 (VV gn 1 cn);refine⟨Y,0,0,I ⟨gn,0,Y⟩,1,cn,by simp[x3,f],by simp[x3,f],λq=>π q (by omega),λ_=>⟨gn,Z,by simp;omega,λi y=>?_⟩,by omega,by omega,by simp;omega,⟨a.os.trans d.os,a.tape.trans d.tape,a.output.trans d.output,by simp;omega,λk z=>?_⟩⟩
 ·obtain rfl:i=0:=by omega
  refine⟨Y,0,0,?_,by omega,λh=>π h (by omega)⟩;rw[fC (by omega),c.cellAt 0 (by omega)];rfl
 grind [xd]
def zMe(N gw:ν)(t:ι)(w:ξ)(F:w.heap[gw]?=I (M #[t,O Y 0 0,O Y 0 0] 26 (0,0)))(r:N<=gw):
  γ prog 24 #[.pointer (I ⟨gw,0,Y⟩),O Y 0 0] w λe w'=>e=.returned (.tuple #[])/\pD N w w' gw:=by
 obtain⟨U,x,y,z,D⟩:=info_parts Tryz.infoRows;have p:gw<w.heap.size:=dC F;have f:=aD F;go_in;go_wp2;go_loopw[4] (λj wr=>j=V .i64 0/\aC (ψ w.heap.size w wr)) λ_ _=>0
 case atStart=>exact⟨Z,x5 _ _⟩
 case round =>
  obtain⟨rfl,HB⟩:=hrel;go_wp2;go_loopw[9] (λj wr=>j=V .i64 0/\aC (ψ w.heap.size w wr)) λ_ _=>0
  case atStart=>exact⟨Z,HB⟩
  case round =>
   obtain⟨rfl,HB⟩:=hrel;have m:=(HB.o.block gw p).trans f;have K:=gE m 2 _ Z;have L:wr.frozen? ⟨gw,2,Y⟩=G:=by simp[xb,m]
   have J:=xW p HB.o.size;have q:aC (∀j u,[xm Y 0 0][j]?=I u->(wr.alloc (M #[O Y 0 0] 23)).cell? ((⟨wr.heap.size,0,Y⟩:κ).add j)=I u):=xz (cs:=#[O Y 0 0]) (t:=23) (fr:=(0,0)) (δ wr _);have S:(wr.alloc (M #[O Y 0 0] 23)).frozen? ⟨gw,2,Y⟩=G:=by rw[xg (w:=wr) (a:=⟨gw,2,Y⟩) (x1 _ _ _ J)];exact L
   go_wp2_with(first|(at_builtin;refine υ _ Z (.tmp 76) (.tmp 78) 24 Z wr.heap.size 23 U (O Y 0 0) 1 24 underlying24 x y z D Z (by decide) (O Y 0 0) 0 [] Z (xh _ _ _ _) ⟨wr.heap.size,0,Y⟩ 1 1 [O Y 0 0] Z Z (by exact q) (by simp[xr]) (by decide) (by unfold ε;omega) (by omega) (by simp) _ Z ?_;intro gn cn w3 d c E H;have W:=(c.cell_far ⟨gw,2,Y⟩ (by simp;omega) (by simp[x6])).trans ((lQ J).trans K);have f3:=(c.frozen_far ⟨gw,2,Y⟩ (by simp;omega) (by simp[x6])).trans S));go_end0;exact⟨Z,zNu f r HB d c⟩
theorem zMf{t:S}(f:w.heap[gw]?=I (M #[t,O Y 0 0,O Y 0 0] 26 (0,0)))(a:N<=gw)(h:HandO N w ov rs vs)(x:rs.length<100000000)(z:∀r∈rs,r.length<1000):
  γ prog 24 #[.pointer (I ⟨gw,0,Y⟩),ov] w λe w'=>e=.returned (.tuple #[])/\pD N w w' gw:=by
 rcases h.y.own.2 with⟨e,_⟩|⟨b,cap,c,rfl,_,m,o,p,D,q⟩
 ·rw[e];exact zMe N gw t w f a
 ·refine zKH N gw b cap rs vs c w ⟨⟨t,f⟩,λi u=>?_,h.y.len,h.hand.nd,x,z⟩ m (by omega) o p (by simpa using q) a (h.lo b Z) h.lr;have d:i<vs.length:=by grind
  obtain⟨k,e1,e2⟩:=h.hand.ex i u vs[i] (xo d)
  grind
namespace J
def eK(rs:U (U W))(o:U W)(i:K)(b:ζ)(A:U (U W)):Prop :=
 (b=G/\A=rs.take i/\∀j (h:j<rs.length),j<i->cmp rs[j] o<0)\/b=true/\∃(p:K) (hp:p<rs.length),p<i/\(∀j (h:j<rs.length),j<p->cmp rs[j] o<0)/\0<cmp rs[p] o/\A=rs.take p++o::(rs.drop p).take (i-p)
section
variable {rs:σ (σ ω)}{o:σ ω}{i:ν}{A:σ (σ ω)}
theorem eK.UL(h:eK rs o i G A)(d:i<rs.length)(c:cmp rs[i] o<0):eK rs o (i+1) G (A++[rs[i]]):=by
 rcases h with⟨_,rfl,h⟩|⟨h,_⟩
 ·refine xR ⟨Z,by simp_all,λj f a=>?_⟩
  grind
 ·cases h
theorem eK.wB(h:eK rs o i G A)(c:i<rs.length)(d:0<cmp rs[i] o):eK rs o (i+1) true (A++[o]++[rs[i]]):=by
 rcases h with⟨_,rfl,h⟩|⟨h,_⟩
 ·refine xF ⟨Z,i,c,by omega,λj f a=>h j f a,d,?_⟩;have e:(rs.drop i).take 1=[rs[i]]:=by rw[xx c];rfl
  grind
 ·cases h
theorem eK.on(h:eK rs o i true A)(m:i<rs.length):eK rs o (i+1) true (A++[rs[i]]):=by
 rcases h with⟨h,_⟩|⟨_,p,d,f,a,c,rfl⟩
 ·cases h
 ·refine xF ⟨Z,p,d,by omega,a,c,?_⟩;rw[show i+1-p=i-p+1 by omega,List.take_succ_eq_append_getElem (l:=rs.drop p) (by simp;omega)]
  grind
theorem eK.ne(h:eK rs o i true A)(c:i<rs.length)(a:YX rs):cmp rs[i] o≠0:=by
 rcases h with⟨h,_⟩|⟨_,p,d,f,m,q,_⟩
 ·cases h
 ·intro e;have:=Fz a o i p d c (by omega) (by omega);have l:=List.pairwise_iff_getElem.1 a p i d c f
  grind [OA]
theorem eK.same(h:eK rs o i G A)(a:i<rs.length)(e:rs[i]=o):eI rs o=rs:=by
 rcases h with⟨_,rfl,h⟩|⟨h,_⟩
 ·have c:aP rs o=i:=FG (by omega) h λ_=>by grind [wS]
  simp_all [GF,wS]
 ·cases h
theorem eK.QA(h:eK rs o rs.length G A):A++[o]=eI rs o:=by
 rcases h with⟨_,rfl,h⟩|⟨h,_⟩
 ·have c:aP rs o=rs.length:=FG (by omega) (λj a _=>h j a a) λh=>π h (by omega)
  simp_all [GF]
 ·cases h
def eK.UK(h:eK rs o rs.length true A):A=eI rs o:=by
 rcases h with⟨h,_⟩|⟨_,p,r,m,c,q,rfl⟩
 ·cases h
 ·have f:aP rs o=p:=FG (by omega) (λj d a=>c j d a) (λ_=>by omega);rw[GF,dif_pos (by omega)];simp only[f];rw[if_neg (by omega),List.take_of_length_le (l:=rs.drop p) (by simp)]
end
end J
def qO(h:w.ownsRow B e sz v n xs)(a:ψ w.heap.size w w'):w'.ownsRow B e sz v n xs:=h.kept (wK a Y) (Classical.em _)
def DK(h:w.ownsRow B e sz v n xs):∀k,v.ownBlock=I k->B<=k:=λk a=>(h.lt k a).1
def rV{f:z}{r:ρ K}(a:ψ w.heap.size w w1)(c:w1.grownBy f r)(m:∀k,r=I k->w.heap.size<=k):ψ w.heap.size w f :=
 ⟨c.os.trans a.os,c.tape.trans a.tape,c.output.trans a.output,x9 a.size c.size,λk d=>(c.block k (xW d a.size) λe=>π (m k e.symm) (by omega)).trans (a.block k d)⟩
def zOx(w w':z)(D:K->Prop)(g:K)(pv ev rv bv fv av:S)(c:ζ)(rs':U (U W))(e:Ending):Prop :=
 e=.returned (.tuple #[])/\∃ov',Blk w' g (jw true pv ev rv bv fv av ov' c) 109/\ZE w' D ov' rs'/\JX (λk=>k=g) w w'
def Tryz.infoIs:(prog.info? 37).map (λi=>(i.zero,i.size,i.bytes))=I (I (O Y 0 0),1,24):=by kernel_rfl
theorem uV{z:S}{a:K}(h:(prog.info? t).map (λi=>(i.zero,i.size,i.bytes))=I (I z,a,b)):∃i0,prog.info? t=I i0/\i0.zero=I z/\i0.size=a/\i0.bytes=b:=by
 simp_all
theorem zMG(g:ν)(pv ev rv bv fv av ov:ι)(c:ζ)(rs:σ (σ ω))(vo:ι)(o:σ ω)(D:ν->Prop)(w:ξ)(hW:Blk w g (jw true pv ev rv bv fv av ov c) 109)(hD:∀x,D x->x<w.heap.size)(hg:D g)(hR:ZE w D ov rs)(hO:ZH w D vo o)(hS:YX rs)(hL:∀r∈rs,r.length=o.length)(hn:rs.length<1000000000000)(bs:o.length<1000):
  γ prog 194 #[.pointer (I ⟨g,0,Y⟩),vo] w λe w'=>zOx w w' D g pv ev rv bv fv av c (eI rs o) e:=by
 have HJ:=aD hR;obtain⟨aZ,(aM:aC _),aV⟩:=hR;have HW:=aD hW;have HS:=aD hS;have HL:=aD hL;have HD:=aD hD;have HG:=aD hg;have aT:=hW.cell (i:=7) (v:=ov) Z;have lg:=hW.lt;have fz:=hW.free 7;clear hW hS hL hD;have aW:∃(oa:ρ κ) (cap:ν),ov=O oa rs.length cap/\∀i,i<rs.length->∃b u,oa=I ⟨b,0,Y⟩/\aZ[i]?=I u/\w.cell? ⟨b,i,Y⟩=I u/\b<w.heap.size:=by
  rcases aV with⟨rfl,rfl⟩|⟨b,cap,rfl,h1,h2,h3⟩
  ·grind
  ·exact⟨_,cap,Z,λi hi=>⟨b,aZ[i]'(by rw[aM.o.1];exact hi),Z,xo _,h1 _ _ (xo _),h2⟩⟩
 clear aV;obtain⟨oa,bp,rfl,(bd:aC _)⟩:=aW;have HO:=aD hO;obtain⟨bo,co,rfl,(bb:aC _),ay,_⟩:=hO;go_in;go_wp2;go_loopw[4,5,6] (λu4 u5 u6 wr=>∃(i:ν) (b:ζ) (F:σ ι) (A:σ (σ ω)),i<=rs.length/\u6=V .i64 i/\u5=T b/\aC (wr.ownsRow w.heap.size 37 1 u4 F.length F)/\aC (tV w D F A)/\aC (F.length<=i+1)/\aC (b=G->F.length<=i)/\aC (J.eK rs o i b A)/\aC (ψ w.heap.size w wr)) λ_ _ u6 _=>rs.length-(τ u6).toNat
 case atStart=>exact⟨0,G,[],[],x4 _,Z,Z,xh _ _ _ _,⟨Z,λi u a h=>by simp at h⟩,by simp_all,λ_=>xn _,xR ⟨Z,by simp,λj _ h=>π h (by omega)⟩,x5 _ _⟩
 case round =>
  obtain⟨i,b,F,A,br,rfl,rfl,S,al,aw,be,p,HB⟩:=hrel;obtain⟨ua,uc,rfl⟩:=nP S.o;have g7:=cK HB.o lg aT;have f7:=fK HB.o lg fz;have bl:=xW lg HB.o.size;by_cases hlt:i<rs.length
  ·have bi:=lI hlt;obtain⟨bq,u,rfl,hu,aS,az⟩:=bd.o i hlt;have aQ:=cK HB.o az aS;have aY:=xW az HB.o.size;have aX:=aM.o.2 i u rs[i] hu (xo hlt);have HX:=aD aX;obtain⟨bx,aN,rfl,(bc:aC _),aA,_⟩:=aX;have ax:rs[i].length=o.length:=HL.o _ (xy hlt);have ac:=aD ax;clear aS hu az f7;have ai:=xW aA HB.o.size;have ah:=xW ay HB.o.size;rw[ax]at aQ HX;clear ax;go_wp2;go_loopw[8] (λq wx=>∃k:ν,k<=o.length/\q=V .i64 k/\aC (∀j,j<k->rs[i].getD j 0=o.getD j 0)/\aC (ψ w.heap.size w wx)/\aC (ψ wr.heap.size wr wx)) λq _=>o.length-(τ q).toNat
   case atStart=>exact⟨0,x4 _,Z,λj h=>π h (Nat.not_lt_zero _),HB,x5 _ _⟩
   case round =>
    obtain⟨k,hk,rfl,HE,H,aF⟩:=hrel;have ai:=xW aA H.o.size;have ah:=xW ay H.o.size;have aH:=aD (qO S.o aF.o);by_cases hkt:k<o.length
    ·have bk:=lI hkt;have bt:((k:ω)==(o.length:ω))=G:=by simp;omega
     have ck:=cK H.o ay (bb.o k hkt);have cx:=cK H.o aA (bc.o k (by rw[ac.o];exact hkt));have ak:aC (o.getD k 0=o[k]):=by simp_all [aC]
     have am:aC (rs[i].getD k 0=rs[i][k]'(by rw[ac.o];exact hkt)):=by simp_all [aC]
     generalize o[k]=ok at*;generalize rs[i][k]'(by rw[ac.o];exact hkt)=xk at*
     cases z:ok==xk
     ·have aR:cmp rs[i] o=xk-ok:=by
       rw[Ve k ac.o HE.o hkt (by rw[ak.o,am.o];intro c;rw[c]at z;simp at z),am.o,ak.o]
      have aG:=aD aR;have hz:ok≠xk:=by intro c;rw[c]at z;simp at z
      have HZ:=aD hz;clear aR hz ak am;go_wp2;go_quiet (fail);go_wp2;generalize L:wr.drewN nq=W at*;have ar:aC (ψ w.heap.size w W):=by unfold aC;rw[<- L];exact bT H.o (eD _ _ _)
      have U:aC (W.ownsRow w.heap.size 37 1 (O ua F.length uc) F.length F):=by unfold aC;rw[<- L];exact qO aH.o (eD _ _ _)
      have bf:W.cell? ⟨bo,k,Y⟩=I (V .i64 ok):=by rw[<- L];exact ck
      have bg:W.cell? ⟨bx,k,Y⟩=I (V .i64 xk):=by rw[<- L];exact cx
      have lw:bo<W.heap.size/\bx<W.heap.size:=by rw[<- L];exact⟨ah,ai⟩
      obtain⟨bm,bn⟩:=lw;clear L ck cx ai ah g7 bl aQ aY;go_cut[61]from 12 to 71 λs wx=>∃t,s=T t/\aC (t=(!b&&decide (ok<xk)))/\aC (wx.ownsRow w.heap.size 37 1 (O ua F.length uc) F.length F)/\aC (ψ w.heap.size w wx)
      case first =>
       cases b
       ·by_cases hlt2:ok<xk
        ·go_quiet (fail);go_wp2;go_meet;exact⟨_,Z,by simp_all [aC],qO U.o (eD _ _ _),bT ar.o (eD _ _ _)⟩
        ·go_quiet (fail);go_wp2;go_meet;exact⟨_,Z,by simp_all [aC],qO U.o (eD _ _ _),bT ar.o (eD _ _ _)⟩
       ·go_quiet (fail);go_wp2;go_meet;exact⟨_,Z,by unfold aC;simp,qO U.o (eD _ _ _),bT ar.o (eD _ _ _)⟩
      obtain⟨tb,rfl,au,aa,aj⟩:=hcut;clear bf bg bm bn;go_upto_if 61 with fail
      go_cut[4,5]from 12 to 71 λu4 u5 wx=>∃(b2:ζ) (aB:ρ κ) (aE:ν) (y:σ ι) (A2:σ (σ ω)),u5=T b2/\u4=O aB y.length aE/\aC (wx.ownsRow w.heap.size 37 1 (O aB y.length aE) y.length y)/\aC (tV w D y A2)/\aC (y.length<=i+1)/\aC (b2=G->y.length<=i)/\aC (J.eK rs o (i+1) b2 (A2++[rs[i]]))/\aC (ψ w.heap.size w wx)
      case first =>
       cases tb
       ·go_wp2;go_meet
        ·refine⟨b,_,_,F,A,Z,Z,aa,al,aw,be,?_,aj⟩;cases b
         ·exact p.o.UL hlt (by have:=au.o;have:=HZ.o;rw[aG.o];simp at*;omega)
         ·exact p.o.on hlt
       ·have bh:b=G:=by have:=au.o;cases b;rfl;simp at this
        subst bh;go_wp2_with(first|(at_builtin;refine qH Tryz.infoIs η Z Z (.tmp 62) (.tmp 64) Z Z Z Z Z aa.o (by have:=aw.o;omega) aj.o.size ?_));intro g5 c5 w5 m f ad ae;have ab:=aD m;have E:aC (ψ w.heap.size w w5):=rV (aj.o.alloc aj.o.size _) f (DK aa.o);clear m f ad ae;go_wp2;go_meet;exact⟨true,I ⟨g5,0,Y⟩,c5,F++[VV bo o.length co],A++[o],Z,by simp,by simpa using ab,al.o.bD HO.o,by simp_all [trivial],λc=>Bool.noConfusion c,p.o.wB hlt (by have:=au.o;rw[aG.o];simp at this;omega),E⟩
      obtain⟨b2,aB,aE,y,A2,rfl,rfl,ao,aK,ap,aL,aJ,aq⟩:=hcut;go_wp2_with(first|(at_builtin;refine qH Tryz.infoIs η Z Z (.tmp 67) (.tmp 69) Z Z Z Z Z ao.o (by have:=ap.o;omega) aq.o.size ?_));intro g7 c7 w7 af K aO aU;have aI:=aD af;have ba:aC (ψ w.heap.size w w7):=rV (aq.o.alloc aq.o.size _) K (DK ao.o);clear af K aO aU;go_wp2;go_roundw;exact⟨i+1,b2,y++[VV bx o.length aN],A2++[rs[i]],by omega,by go_num,Z,by simpa using aI,aK.o.bD HX.o,by unfold aC;have:=ap.o;simp;omega,λc=>by have:=aL.o c;simp;omega,aJ,ba⟩;simp[τ];omega
     ·go_wp2;go_quiet (fail);go_wp2;go_roundw
      ·refine⟨k+1,by omega,by go_num,λj hj=>?_,bT H.o (eD _ _ _),bT aF.o (eD _ _ _)⟩;by_cases d:j=k
       ·rw[d,ak.o,am.o];exact(by simpa using z:ok=xk).symm
       ·exact HE.o j (by omega)
      simp[τ];omega
    ·have bk:¬(k:ω)<o.length:=by omega
     have bj:k=o.length:=by omega
     have ag:rs[i]=o:=Vf ac.o λj hj=>HE.o j (by omega)
     have aP:b=G:=by
      cases b
      ·rfl
      ·exact π (by simp_all [wS]) (p.o.ne hlt HS.o)
     have HF:aC (eI rs o=rs):=by rw[aP]at p;exact p.o.same hlt ag
     clear ag aP;subst bj;go_wp2;go_quiet (fail);go_wp2;refine bodyPost_ret (results_none Z _ _ _) Z ?_;have B9:=bT H.o (eD _ _ nq);refine⟨Z,_,HW.o.X B9,?_,JX.of B9⟩;rw[HF.o];exact HJ.o.x (JX.of (P:=λ_=>False) B9) λ_ _ e=>e.elim
  ·have bi:¬(i:ω)<rs.length:=by omega
   have an:i=rs.length:=by omega
   cases b
   ·have HF:aC (A++[o]=eI rs o):=by rw[an]at p;exact p.o.QA
    clear an;go_wp2_with(first|(at_builtin;refine qH Tryz.infoIs η Z Z (.tmp 74) (.tmp 76) Z Z Z Z Z S.o (by have:=aw.o;omega) HB.o.size ?_));intro g5 c5 w5 m f ad ae;have ab:=aD m;have E:aC (ψ w.heap.size w w5):=rV (HB.o.alloc HB.o.size _) f (DK S.o);clear m f ad ae;have q7:=cK E.o lg aT;have q8:=fK E.o lg fz;have q9:=xW lg E.o.size;go_wp2;go_end0;have hr:=ZE.own (us:=F++[VV bo o.length co]) (D:=D) (by simpa using ab.o) ((al.o.bD HO.o).x (JX.of (P:=λ_=>False) E.o) λ_ _ e=>e.elim) HD.o;rw[HF.o]at hr;refine⟨Z,_,(HW.o.X E.o).set 7 _,hr.x (JX.set (P:=λk=>k=g) (JX.refl _ _) (xR Z) _ _) λx _ e=>by rw[e];exact HG.o,JX.set (P:=λk=>k=g) (JX.of E.o) (xR Z) _ _⟩
   ·have HF:aC (A=eI rs o):=by rw[an]at p;exact p.o.UK
    clear an;go_wp2;go_end0;have hr:=ZE.own (D:=D) S.o (al.o.x (JX.of (P:=λ_=>False) HB.o) λ_ _ e=>e.elim) HD.o;rw[HF.o]at hr;refine⟨Z,_,(HW.o.X HB.o).set 7 _,hr.x (JX.set (P:=λk=>k=g) (JX.refl _ _) (xR Z) _ _) λx _ e=>by rw[e];exact HG.o,JX.set (P:=λk=>k=g) (JX.of HB.o) (xR Z) _ _⟩
namespace J
def XI(es:U E)(v:W)(i:K):ζ:=(ev es i).kind.toList==kW&&(ev es i).loc==v
def lastTo(es:U E)(ats:U W)(v:K):K->K
 |0=>v
 |k+1=>if decide (3<=k)&&(XI es v k&&decide (ats.getD (lastTo es ats v k) 0<ats.getD k 0))then k else lastTo es ats v k
def jB(es:U E)(ats regs:U W):U W:=regs++[(ev es (lastTo es ats 0 es.length)).val,(ev es (lastTo es ats 1 es.length)).val,(ev es (lastTo es ats 2 es.length)).val]
theorem mH(es:U E)(ats:U W)(v:K)(a:v<3):∀k,lastTo es ats v k<max k 3
 |0=>by grind [lastTo]
 |k+1=>by
  have:=mH es ats v a k
  grind [lastTo]
def gL(es:U E)(ats:U W)(v:K):∀k,k<=3->lastTo es ats v k=v
 |0,_=>Z
 |k+1,h=>by
  unfold lastTo;rw[gL es ats v k (by omega),φ (by omega)];simp
def Ok(L:K)(r:U W):Prop:=r.length=L/\∀x∈r,0<=x/\x<4
def lB:U W->K
 |[]=>0
 |x::r=>x.toNat*4^r.length+lB r
theorem OH:∀{r:U W},(∀x∈r,0<=x/\x<4)->lB r<4^r.length
 |[],_=>by simp[lB]
 |x::r,h=>by
  have c:=OH (r:=r) λy a=>h y (xj _ a);have d:=h x (by simp);have f:x.toNat*4^r.length<=3*4^r.length:=y0 _ (by omega)
  grind [lB]
theorem Jp:∀{a b:U W} {L:K},Ok L a->Ok L b->cmp a b<0->lB a<lB b
 |[],[],_,_,_,h=>by simp[cmp]at h
 |[],b::y,_,h1,h2,_=>by have:=h1.1;have:=h2.1;simp at*;omega
 |a::x,[],_,h1,h2,_=>by have:=h1.1;have:=h2.1;simp at*;omega
 |a::x,b::y,L,h1,h2,h=>by
  have m:=h1.1;have o:=h2.1;simp only[List.length_cons]at m o;have f:x.length=y.length:=by omega
  have u:=h1.2 a (by simp);have D:=h2.2 b (by simp);unfold cmp at h;simp only[lB];by_cases c:a=b
  ·subst c;simp at h;have:=Jp (L:=x.length) ⟨Z,λz d=>h1.2 z (xj _ d)⟩ ⟨f.symm,λz d=>h2.2 z (xj _ d)⟩ h;rw[f];omega
  ·simp[c]at h;have p:=OH (r:=x) λz d=>h1.2 z (xj _ d);have q:(a.toNat+1)*4^x.length<=b.toNat*4^x.length:=y0 _ (by omega)
   grind
theorem Jq:∀{l:U K} {k N:K},l.Pairwise (·<·)->(∀x∈l,k<=x/\x<N)->k<=N->l.length<=N-k
 |[],_,_,_,_,_=>by simp
 |x::l,k,N,h,hb,_=>by
  have c:=hb x (by simp);rw[List.pairwise_cons]at h;have:=Jq (l:=l) (k:=x+1) (N:=N) h.2 (λy a=>⟨h.1 y a,(hb y (xj _ a)).2⟩) (by omega)
  grind
def few{L:K}(f:YX rs)(h:∀r∈rs,Ok L r):rs.length<=4^L:=by
 have d:(rs.map lB).Pairwise (·<·):=by
  rw[List.pairwise_map];exact List.Pairwise.imp_of_mem (λm o c=>Jp (h _ m) (h _ o) c) f
 have:=Jq (k:=0) (N:=4^L) d λx p=>by
  obtain⟨r,a,rfl⟩:=List.mem_map.1 p;have:=OH (h r a).2;rw[(h r a).1]at this;omega (x4 _)
 simpa using this
structure Grew(L:ν)(rs rs':σ (σ ω))(c c':ζ)(P:σ ω->Prop)(C:Prop):Prop where
 rise:YX rs'
 ok:∀r∈rs',Ok L r
 mem:∀r,r∈rs'↔r∈rs\/P r
 cl:c'=true↔c=true\/C
end J
def zPl(w w':z)(S D:K->Prop)(g:K)(pv ev rv bv fv av:ι)(L:K)(rs:U (U W))(c:ζ)(P:U W->Prop)(C:Prop):Prop :=
 ∃ov' rs' c',Blk w' g (jw true pv ev rv bv fv av ov' c') 109/\ZE w' D ov' rs'/\JX S w w'/\J.Grew L rs rs' c c' P C
structure JJ(w:ξ)(D:ν->Prop)(g ge ce gf cf ga ca:ν)(es:σ J.E)(fr ats regs:σ ω)(pv rv bv ov:ι)(L:ν)(rs:σ (σ ω))(c:ζ):Prop where
 blk:Blk w g (jw true pv (VV ge es.length ce) rv bv (VV gf es.length cf) (VV ga es.length ca) ov c) 109
 jin:YZ w g ge ce gf cf ga ca es fr ats
 rg:ZH w (λ_=>False) rv regs
 y:ZE w D ov rs
 rise:YX rs
 ok:∀r∈rs,J.Ok L r
 len:regs.length+3=L
 small:L<=19
 pos:0<regs.length
 rng:∀x∈regs,0<=x/\x<4
 vals:∀i,i<es.length->0<=(J.ev es i).val/\(J.ev es i).val<4
 full:J.Full es fr
 frl:∀i,i<es.length->fr.getD i 0<(es.length:ω)
 half:∀i,i<es.length->J.isStep (J.ev es i)=true->i+1<es.length
 three:3<=es.length
 low:∀x,D x->x<w.heap.size
 dg:D g
namespace J
def wr(es:U E)(i:K):Prop:=3<=i/\i<es.length/\((ev es i).kind.toList==kW)=true
structure Nxt(es:σ E)(seq:σ ν)(j:ν):Prop where
 w:wr es j
 new:j∉seq
 first:∀i,i<j->wr es i->i∈seq
structure Pick(es:σ E)(seq:σ ν)(i:ν):Prop where
 w:wr es i
 new:i∉seq
 loc:∃j,Nxt es seq j/\(ev es i).loc=(ev es j).loc
def lL(es:U E)(seq:U K):Prop:=∀i,wr es i->i∈seq
def qX(es:U E)(seq seq':U K):Prop:=∃l,seq'=seq++l/\(∀t (h:t<l.length),Pick es (seq++l.take t) l[t])/\lL es seq'
def eO(es:U E)(seq:U K):K:=((xl es.length).filter λi=>decide (3<=i)&&(ev es i).kind.toList==kW&&!decide (i∈seq)).length
theorem eE{seq:U K}(h:lL es seq):qX es seq seq'↔seq'=seq:=by
 constructor
 ·rintro⟨l,rfl,a,_⟩
  cases l with
  |nil=>simp
  |cons x l =>
   have:=a 0 (by simp);simp only[xp,x8,xq]at this;exact π (h x this.w) this.new
 ·rintro rfl;exact⟨[],by simp,λt c=>by simp at c,h⟩
def fL{seq:U K}(h:¬lL es seq):qX es seq seq'↔∃i,Pick es seq i/\qX es (seq++[i]) seq':=by
 constructor
 ·rintro⟨l,rfl,c,a⟩
  cases l with
  |nil=>rw[x8]at a;exact π a h
  |cons x l =>
   have f:=c 0 (by simp);simp only[xp,x8,xq]at f;refine⟨x,f,l,by simp,λt d=>?_,a⟩;have:=c (t+1) (by simpa using d);simpa using this
 ·rintro⟨i,m,l,rfl,c,a⟩;refine⟨i::l,by simp,λt d=>?_,a⟩
  cases t with
  |zero=>simpa using m
  |succ t=>simpa using c t (by simpa using d)
theorem Jr:∀(n:K) (p q:K->ζ),i<n->p i=true->q i=G->(∀j,j≠i->q j=p j)->((xl n).filter q).length+1=((xl n).filter p).length:=by
 intro n p q
 induction n with
 |zero=>intro h;omega
 |succ n ih =>
  grind [List.range_succ,List.filter_congr]
theorem fM{seq:U K}(h:wr es i)(c:i∉seq):eO es (seq++[i])+1=eO es seq:=by
 unfold eO;refine Jr es.length _ _ h.2.1 ?_ ?_ λj a=>?_
 ·simp[h.1,h.2.2,c]
 ·simp
 ·simp[a]
def XC(es:U E)(i:K):Prop:=i<es.length/\((ev es i).kind.toList==kF)=true/\((ev es i).ord.toList==mI)=true
def Jt(h:wr es i):¬XC es i:=λk=>by have a:=eq_of_beq h.2.2;rw[eq_of_beq k.2.1]at a;cases a
def gY(n:K)(seq fs:U K):U W:=(xl n).map λi=>if i∈seq then(seq.idxOf i:W)+1 else if i∈fs then(fs.idxOf i:W)else 0
structure AtOk(es:σ E)(seq:σ ν)(ats:σ ω):Prop where
 len:ats.length=es.length
 seq:∀i,i∈seq->ats.getD i 0=(seq.idxOf i:ω)+1
 no:∀i,i<es.length->¬wr es i->¬XC es i->ats.getD i 0=0
structure AtF(es:σ E)(fs:σ ν)(ats:σ ω):Prop where
 sub:∀i,i∈fs->XC es i
 at_:∀i,i∈fs->ats.getD i 0=(fs.idxOf i:ω)
def iP(es:U E)(fs:U K):Prop:=∀i,XC es i->i∈fs
theorem AtOk.full{seq fs:σ ν}(h:AtOk es seq ats)(f:lL es seq)(m:AtF es fs ats)(o:iP es fs):ats=gY es.length seq fs:=by
 apply List.ext_getElem
 ·simp[gY,h.len]
 ·intro i a p;have e:ats.getD i 0=ats[i]:=by simp[a]
  have e2:(gY es.length seq fs)[i]=if i∈seq then(seq.idxOf i:ω)+1 else if i∈fs then(fs.idxOf i:ω)else 0:=by simp[gY]
  rw[e2,<- e];by_cases c:i∈seq
  ·rw[θ c,h.seq i c]
  ·rw[if_neg c];by_cases d:i∈fs
   ·rw[θ d,m.at_ i d]
   ·rw[if_neg d];exact h.no i (by grind [AtOk.len]) (λk=>c (f i k)) λk=>d (o i k)
theorem cL(x:W)(h:i≠j):(l.set i x).getD j 0=l.getD j 0:=by
 grind
theorem AtOk.bD{seq:σ ν}(h:AtOk es seq ats)(f:wr es i)(o:i∉seq):AtOk es (seq++[i]) (ats.set i ((seq.length:ω)+1)):=by
 have m:i<ats.length:=by rw[h.len];exact f.2.1
 refine⟨by simp[h.len],λj d=>?_,λj d q p=>?_⟩
 ·by_cases c:j=i
  ·grind
  ·have a:j∈seq:=by simpa[c]using d
   have:(seq++[i]).idxOf j=seq.idxOf j:=by grind
   rw[this,<- h.seq j a]
   grind
 grind [cL,AtOk.no]
def AtOk.drop{seq:σ ν}(h:AtOk es (seq++[i]) ats):AtOk es seq ats :=
 ⟨h.len,λj a=>by rw[h.seq j (by simp[a]),xt,θ a],h.no⟩
theorem AtF.bD{fs:σ ν}(h:AtF es fs ats)(m:ats.length=es.length)(f:XC es i)(o:i∉fs):AtF es (fs++[i]) (ats.set i (fs.length:ω)):=by
 refine⟨λj d=>?_,λj d=>?_⟩
 ·grind [AtF.sub]
 ·by_cases c:j=i
  ·subst c;have:(fs++[j]).idxOf j=fs.length:=by grind
   rw[this];simp[show j<ats.length by rw[m];exact f.1]
  ·have a:j∈fs:=by simpa[c]using d
   rw[xt,θ a,<- h.at_ j a]
   grind
def AtF.drop{fs:σ ν}(h:AtF es (fs++[i]) ats):AtF es fs ats :=
 ⟨λj a=>h.sub j (by simp[a]),λj a=>by rw[h.at_ j (by simp[a]),xt,θ a]⟩
def AtOk.TM{seq:σ ν}(h:AtOk es seq ats)(f:∀j,j∈seq->wr es j)(c:XC es i)(v:ω):AtOk es seq (ats.set i v):=
 ⟨by simp[h.len],λj a=>(cL _ λ(e:i=j)=>Jt (f j a) (e▸c)).trans (h.seq j a),λj a m d=>(cL _ λ(e:i=j)=>d (e▸c)).trans (h.no j a m d)⟩
def dU(es:U E)(fs:U K)(i:K):Prop:=XC es i/\i∉fs
def sO(es:U E)(fs fs':U K):Prop:=∃l,fs'=fs++l/\(∀t (h:t<l.length),dU es (fs++l.take t) l[t])/\iP es fs'
def dP{seq:U K}(h:iP es seq):sO es seq seq'↔seq'=seq:=by
 constructor
 ·rintro⟨l,rfl,a,_⟩
  cases l with
  |nil=>simp
  |cons x l =>
   have:=a 0 (by simp);simp only[xp,x8,xq]at this;exact π (h x this.1) this.2
 ·rintro rfl;exact⟨[],by simp,λt c=>by simp at c,h⟩
def eC{seq:U K}(h:¬iP es seq):sO es seq seq'↔∃i,dU es seq i/\sO es (seq++[i]) seq':=by
 constructor
 ·rintro⟨l,rfl,c,a⟩
  cases l with
  |nil=>rw[x8]at a;exact π a h
  |cons x l =>
   have f:=c 0 (by simp);simp only[xp,x8,xq]at f;refine⟨x,f,l,by simp,λt d=>?_,a⟩;have:=c (t+1) (by simpa using d);simpa using this
 ·rintro⟨i,m,l,rfl,c,a⟩;refine⟨i::l,by simp,λt d=>?_,a⟩
  cases t with
  |zero=>simpa using m
  |succ t=>simpa using c t (by simpa using d)
def lO(es:U E)(fs:U K):K:=((xl es.length).filter λi=>(ev es i).kind.toList==kF&&(ev es i).ord.toList==mI&&!decide (i∈fs)).length
def AtOk.start(es:σ E):AtOk es [] (x7 es.length 0):=⟨by simp,λi a=>by simp at a,λi a _ _=>by simp[a]⟩
theorem gJ{fs:U K}(h:XC es i)(c:i∉fs):lO es (fs++[i])+1=lO es fs:=by
 unfold lO;refine Jr es.length _ _ h.1 ?_ ?_ λj a=>?_
 ·simp[h.2.1,h.2.2,c]
 ·simp
 ·simp[a]
def yE(es:U E)(fr regs:U W)(seq fs:U K)(o:U W):Prop:=MayT es fr (gY es.length seq fs)/\o=jB es (gY es.length seq fs) regs
def yI(es:U E)(fr:U W)(seq fs:U K):Prop:=MayT es fr (gY es.length seq fs)/\cS es (cse es fr (gY es.length seq fs))
def vX(es:U E)(fr regs:U W)(seq fs:U K)(o:U W):Prop:=∃f,sO es fs f/\yE es fr regs seq f o
def vI(es:U E)(fr:U W)(seq fs:U K):Prop:=∃f,sO es fs f/\yI es fr seq f
def OrdP(es:U E)(fr regs:U W)(seq:U K)(o:U W):Prop:=∃s,qX es seq s/\vX es fr regs s [] o
def oJ(es:U E)(fr:U W)(seq:U K):Prop:=∃s,qX es seq s/\vI es fr s []
def Grew.to{L:ν}{a:σ (σ ω)}{c d:ζ}{P:σ ω->Prop}(h:Grew L rs a c d P C)(m:∀o,P o↔P' o)(f:C↔C'):Grew L rs a c d P' C' :=
 ⟨h.rise,h.ok,λr=>by rw[h.mem,m],by rw[h.cl,f]⟩
def Grew.trans{L:ν}{a d:σ (σ ω)}{c f m:ζ}{P:σ ω->Prop}(h:Grew L rs a c f P C)(k:Grew L a d f m P' C'):Grew L rs d c m (λo=>P o\/P' o) (C\/C'):=
 ⟨k.rise,k.ok,λr=>by rw[k.mem,h.mem,or_assoc],by rw[k.cl,h.cl,or_assoc]⟩
def Grew.refl{L:ν}{c:ζ}(a:YX rs)(d:∀r∈rs,Ok L r):Grew L rs rs c c (λ_=>False) False:=⟨a,d,λr=>by simp,by simp⟩
end J
