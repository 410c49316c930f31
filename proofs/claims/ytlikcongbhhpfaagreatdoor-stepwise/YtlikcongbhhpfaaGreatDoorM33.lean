import Derived.Test.YtlikcongbhhpfaaGreatDoorM32
set_option linter.unusedVariables false
set_option linter.unusedSimpArgs false
set_option maxHeartbeats 12800000
namespace Go.Proofs.YtlikcongbhhpfaaGreatDoor
open Go Go.RowKit Go.Proofs.Tryz P Q
set_option maxRecDepth 1000000
variable {W1 w w' w1:World}{B g gb gc gd n sz:Nat}{A:WA}{rss:List (List Run)}{s:RS}{ds:List Int}{t:TypeId}{rv v:Value}{vs xs:List Value}{st:Option RS}{wss:List (List Value)}
open Go.World renaming cell?->N,heap->M
open _root_.Array renaming size->z
open List renaming length->H
open Go.Value renaming slice->Y,bool->G
open Option renaming none->C,some->O
open Bool renaming false->I
open Or renaming inr->xF,inl->xR
open Go.World renaming cell?_setCell_other->xW,cell?->x6,cell?_of_block->xb
open Nat renaming le_refl->x0,le_trans->x2,lt_of_lt_of_le->xd
open Go.Value renaming oneCell'->x1,ownBlock->x5
open Go.RowKit.Below renaming refl->x3
open List renaming length_cons->x4,mem_of_getElem?->x8,flatMap_cons->x9,foldl_cons->xe
open Option renaming isSome->x7
theorem Pp(gc:Nat)(A:WA)(rss:List (List Run))(st:Option RS)(ds:List Int)(rest:List (List Int))(w:World)(h:Eo w gc A rss st ds rest)(hn:H rss<20)(hb:∀r∈rss,H r<100000000)(ba:∀rs∈rss,∀r∈rs,H r.g=4/\∀e∈r.E,e.h<MU)(hW:∀d,MV (MP rss) d->WdOk (KZ rss d)):
  Calls prog 61 #[.pointer (O ⟨gc,0,C⟩)] w fun e w'=>∃b,e=.returned (G b)/\ZU w w' gc A rss st (dD rss st rest) b:=by
 have H0:JP (qG w gc A rss st (dD rss st rest) w (H rest)):=⟨st,ds,rest,h,Z,Z,Ek.refl _ _ _ _,fun k h=>xR h,fun k h=>xR h⟩;have HB:=JO hb;have aL:=JO ba;have HW:=JO hW;generalize dD rss st rest=R0 at*;obtain⟨μ,hμ⟩:=sD (qG w gc A rss st R0);have al:=JO hμ;go_enter func61,ntmps61;go_wp2;go_loopw[] (fun wr=>∃n,JP (qG w gc A rss st R0 wr n)) fun wr=>μ wr
 case atStart=>exact⟨_,H0⟩
 case round =>
  obtain⟨hI,bf⟩:=al.o wr (by obtain⟨n,h⟩:=hrel;exact⟨n,h.o⟩);obtain⟨be,af,f,hC,hR,aO,hF,hN⟩:=hI;have HC:=JO hC;have HR:=JO hR;have HL:=JO aO;have HF:=JO hF;have HN:=JO hN;have ae:=hC.beg
  cases be with
  |none =>
   simp only[x7]at ae;have i:JP (CandW wr gc A rss af f):=⟨HC.o.box,HC.o.ws,_,ae⟩;have V:=HR;have ak:=HF;go_wp2_with(first
    |(go_at_call 105;obtain⟨bb,aa⟩:=i.o.beg;obtain⟨cc,ay,_⟩:=id i.o.box;refine(ZL gc 13 A.rv A.vs A.wss A.gb A.gd rss af f cc 87 _ i.o.ws ay (by decide) (by decide) (by decide) (by omega) HB.o).mono ?_;rintro e w3 ⟨a,hT⟩;have bd:=(hT.cell 21 (by omega)).trans aa;have T:=JO (i.o.box.bS hT);have pf:=T.o.free;have F3:=JO (ak.o.bS hT (xR Z));rcases a with⟨S,rfl⟩|⟨d,q,S,rfl,aI,D⟩)
    |(go_at_call 106;have aj:=JO D;have c:=JO (HW.o d D);have C4:=JO (CW.start T.o aI F3.o);refine(ZO gc 13 A.rv A.vs A.wss A.gb A.gd rss d q _ C4.o.ws aj.o (by omega) c.o.le aL.o).mono ?_;rintro e w5 ⟨ev,rg,rfl,j,m,aw⟩;have C5:=JO (C4.o.X aw);have ar:=JO j;have aq:JP (rg.ownBlock≠O gc):=(fun e=>by have:=m gc e;have:=C4.o.box.lt;omega);have ao:JP (∀k,rg.ownBlock=O k->k<z (M w5)):=fun k e=>j.g.dE k e;have ap:JP (∀k,rg.ownBlock=O k->z (M w)<=k):=fun k e=>x2 C4.o.fr.size (m k e);obtain⟨ea,ec,aB,_⟩:=j.K.form;obtain⟨ra,rc,aH,_⟩:=j.g.form;subst aB aH)
    |(refine wpList_store_mid Z 73 (.tmp 29) (.tmp 27) Z gc 0 #[Y ea (KZ rss d).E.length ec,Y ra (KZ rss d).g.length rc] Z Z (C5.o.box.there 0 2 (by decide)) (by kernel_rfl) (by simp[x1]) ?_;have D6:=JO (CW1.start ar.o aq.o C5.o.box);have C6:=JO (C5.o.set 0 [Y ea (KZ rss d).E.length ec,Y ra (KZ rss d).g.length rc] (xR (by simp)));have S6:z (M w5)<=(w5.setCells gc 0 [Y ea (KZ rss d).E.length ec,Y ra (KZ rss d).g.length rc]).heap.size:=(by rw[nN];exact x0 _);generalize w5.setCells gc 0 [Y ea (KZ rss d).E.length ec,Y ra (KZ rss d).g.length rc]=w6 at*;have aT:=D6.o.c0)
    |(go_at_call 107;refine(XQ _ (KZ rss d).E _ D6.o.wdi.K c.o.pos c.o.le c.o.h).mono ?_;rintro e w7 ⟨fa,rfl,aZ,l,x⟩;have C7:=JO (C6.o.X x);have D7:=JO (D6.o.X C6.o.box x);have ah:=JO l;obtain⟨fx,aW,ac,_⟩:=l.form;have S7:=x.size)
    |(refine wpList_store_mid Z 78 (.tmp 38) (.tmp 36) Z gc 2 (LY fa) Z Z (C7.o.box.there 2 10 (by decide)) (by kernel_rfl) (by simp[LY,ac,x1]) ?_;have E8:=JO (CW2.start ah.o C7.o.box);have L:=JO (C7.o.set 2 (LY fa).toList (xR (by simp[LY])));have D8:=JO (D7.o.set C7.o.box 2 (LY fa).toList (by simp[LY]) (by decide));have S8:z (M w7)<=(w7.setCells gc 2 (LY fa).toList).heap.size:=(by rw[nN];exact x0 _);generalize w7.setCells gc 2 (LY fa).toList=w8 at*;have aU:=D8.o.c0;have aV:=D8.o.c1;have aJ:=L.o.box.lt)
    |(go_at_call 108;refine(ZK _ _ (KZ rss d).E _ D8.o.wdi.K ⟨_,_,_,Z⟩ c.o.le).mono ?_;rintro e w9 ⟨cv,aN,F,J,rfl,ad,aE,aF,aC,aD,ax,ab,az,y⟩;have C9:=JO (L.o.X y);have D9:=JO (D8.o.X L.o.box y);have E9:=JO (E8.o.X L.o.box y);obtain⟨ca,p,aA,_⟩:=ad.form;subst aA;have W:=JO ad;have am:=JO aE;have an:=JO aF;have U:=JO az;have ai:=JO ab)
    |(refine wpList_store_mid Z 85 (.tmp 46) (.tmp 44) Z gc 17 #[Y ca (KL (KZ rss d).E).length p,JQ F (KL (KZ rss d).E).length (KL (KZ rss d).E).length,JQ J (KL (KZ rss d).E).length (KL (KZ rss d).E).length,G I] Z Z (C9.o.box.there 17 4 (by decide)) (by kernel_rfl) (by simp[x1]) ?_))
   ·go_wp2;go_ret;exact⟨I,Z,F3.o,xR ⟨Z,by rw[<- V.o,S];rfl⟩⟩
   ·obtain⟨aS,⟨_,_,_,_,_,au,av,_,_,_,_⟩,_⟩:=L.o.ws.ML;have aP:=L.o.fr.size;have hR:qG w gc A rss st R0 (w9.setCells gc 17 [Y ca (KL (KZ rss d).E).length p,JQ F (KL (KZ rss d).E).length (KL (KZ rss d).E).length,JQ J (KL (KZ rss d).E).length (KL (KZ rss d).E).length,G I]) (H q):=by
     refine⟨_,_,_,ZW C9.o D9.o E9.o W.o am.o an.o aC aD ax ai.o U.o aJ ⟨au.lt,av.lt⟩ fun k e=>by have:=ao.o k e;omega c.o,?_,Z,C9.o.fr.set 17 [Y ca (KL (KZ rss d).E).length p,JQ F (KL (KZ rss d).E).length (KL (KZ rss d).E).length,JQ J (KL (KZ rss d).E).length (KL (KZ rss d).E).length,G I],fun k hk=>xF ?_,fun k hk=>xF ?_⟩
     ·rw[<- V.o,S];simp[dD,tP]
     ·obtain⟨s',e1,aG⟩:=hk;simp only[Option.some.injEq]at e1;subst e1
      rcases aG with a|a|⟨u,hu,a⟩|a|a
      ·exact ap.o k a
      ·have:=(W.o.ow.lt k a).1;omega
      ·have:=(U.o u hu k a).1;omega
      ·simp only at a;omega
      ·simp only at a;omega
     ·obtain⟨s',e1,e2⟩:=hk;simp only[Option.some.injEq]at e1;subst e1;simp only at e2;omega
    go_roundw
    case rel =>
     (repeat apply Exists.intro)
     exact⟨⟨_,hR⟩,Z⟩
    case measure =>
     have a:=(al.o _ ⟨_,hR⟩).2 _ hR;have h2:=HL.o;rw[S]at h2;simp only[x4]at h2;omega
  |some s =>
   simp only[x7]at ae;obtain⟨ag,aQ⟩:=HC.o.rs s Z;have aM:=JO ag.rd;have aK:JP (s.R.gd=A.gd\/gdS st s.R.gd\/z (M w)<=s.R.gd):=by
    rcases HN.o.2 s.R.gd ⟨s,Z,Z⟩with a|a
    ·exact xF (xR a)
    ·exact xF (xF a)
   have aY:(KL s.wd.E).length<10000:=by rw[ZR];have:=aQ.le;omega
   have aR:=JO (Ph s.wd.E aQ.le);go_upto_region 2 with(first|(go_at_call 104;refine(Ox gc 17 s.R.cv s.R.cvs s.R.gb s.R.gd (KL s.wd.E) s.ds s.rest _ aM.o aY aR.o).mono ?_;rintro e w2 ⟨a,hT⟩;have HT:=JO hT;rcases a with⟨S,rfl⟩|⟨r,q,S,rfl,bc,D⟩))
   ·have i:JP (CandW w2 gc A rss af f):=by
     have ag:=(HC.o.rs s Z).1;obtain⟨b,hc⟩:=aM.o.ML.ML;exact⟨HC.o.box.bS HT.o,ZV HC.o.ws HT.o HC.o.box ag.n1 ag.n2 hc.digits,_,(HT.o.cell _ (by omega)).trans ae⟩
    have V:JP (dD rss C f=R0):=by unfold JP;rw[<- HR.o];simp[dD,S]
    have ak:=JO (HF.o.bS HT.o aK.o);go_wp2_with(first
     |(go_at_call 105;obtain⟨bb,aa⟩:=i.o.beg;obtain⟨cc,ay,_⟩:=id i.o.box;refine(ZL gc 13 A.rv A.vs A.wss A.gb A.gd rss af f cc 87 _ i.o.ws ay (by decide) (by decide) (by decide) (by omega) HB.o).mono ?_;rintro e w3 ⟨a,hT⟩;have bd:=(hT.cell 21 (by omega)).trans aa;have T:=JO (i.o.box.bS hT);have pf:=T.o.free;have F3:=JO (ak.o.bS hT (xR Z));rcases a with⟨S,rfl⟩|⟨d,q,S,rfl,aI,D⟩)
     |(go_at_call 106;have aj:=JO D;have c:=JO (HW.o d D);have C4:=JO (CW.start T.o aI F3.o);refine(ZO gc 13 A.rv A.vs A.wss A.gb A.gd rss d q _ C4.o.ws aj.o (by omega) c.o.le aL.o).mono ?_;rintro e w5 ⟨ev,rg,rfl,j,m,aw⟩;have C5:=JO (C4.o.X aw);have ar:=JO j;have aq:JP (rg.ownBlock≠O gc):=(fun e=>by have:=m gc e;have:=C4.o.box.lt;omega);have ao:JP (∀k,rg.ownBlock=O k->k<z (M w5)):=fun k e=>j.g.dE k e;have ap:JP (∀k,rg.ownBlock=O k->z (M w)<=k):=fun k e=>x2 C4.o.fr.size (m k e);obtain⟨ea,ec,aB,_⟩:=j.K.form;obtain⟨ra,rc,aH,_⟩:=j.g.form;subst aB aH)
     |(refine wpList_store_mid Z 73 (.tmp 29) (.tmp 27) Z gc 0 #[Y ea (KZ rss d).E.length ec,Y ra (KZ rss d).g.length rc] Z Z (C5.o.box.there 0 2 (by decide)) (by kernel_rfl) (by simp[x1]) ?_;have D6:=JO (CW1.start ar.o aq.o C5.o.box);have C6:=JO (C5.o.set 0 [Y ea (KZ rss d).E.length ec,Y ra (KZ rss d).g.length rc] (xR (by simp)));have S6:z (M w5)<=(w5.setCells gc 0 [Y ea (KZ rss d).E.length ec,Y ra (KZ rss d).g.length rc]).heap.size:=(by rw[nN];exact x0 _);generalize w5.setCells gc 0 [Y ea (KZ rss d).E.length ec,Y ra (KZ rss d).g.length rc]=w6 at*;have aT:=D6.o.c0)
     |(go_at_call 107;refine(XQ _ (KZ rss d).E _ D6.o.wdi.K c.o.pos c.o.le c.o.h).mono ?_;rintro e w7 ⟨fa,rfl,aZ,l,x⟩;have C7:=JO (C6.o.X x);have D7:=JO (D6.o.X C6.o.box x);have ah:=JO l;obtain⟨fx,aW,ac,_⟩:=l.form;have S7:=x.size)
     |(refine wpList_store_mid Z 78 (.tmp 38) (.tmp 36) Z gc 2 (LY fa) Z Z (C7.o.box.there 2 10 (by decide)) (by kernel_rfl) (by simp[LY,ac,x1]) ?_;have E8:=JO (CW2.start ah.o C7.o.box);have L:=JO (C7.o.set 2 (LY fa).toList (xR (by simp[LY])));have D8:=JO (D7.o.set C7.o.box 2 (LY fa).toList (by simp[LY]) (by decide));have S8:z (M w7)<=(w7.setCells gc 2 (LY fa).toList).heap.size:=(by rw[nN];exact x0 _);generalize w7.setCells gc 2 (LY fa).toList=w8 at*;have aU:=D8.o.c0;have aV:=D8.o.c1;have aJ:=L.o.box.lt)
     |(go_at_call 108;refine(ZK _ _ (KZ rss d).E _ D8.o.wdi.K ⟨_,_,_,Z⟩ c.o.le).mono ?_;rintro e w9 ⟨cv,aN,F,J,rfl,ad,aE,aF,aC,aD,ax,ab,az,y⟩;have C9:=JO (L.o.X y);have D9:=JO (D8.o.X L.o.box y);have E9:=JO (E8.o.X L.o.box y);obtain⟨ca,p,aA,_⟩:=ad.form;subst aA;have W:=JO ad;have am:=JO aE;have an:=JO aF;have U:=JO az;have ai:=JO ab)
     |(refine wpList_store_mid Z 85 (.tmp 46) (.tmp 44) Z gc 17 #[Y ca (KL (KZ rss d).E).length p,JQ F (KL (KZ rss d).E).length (KL (KZ rss d).E).length,JQ J (KL (KZ rss d).E).length (KL (KZ rss d).E).length,G I] Z Z (C9.o.box.there 17 4 (by decide)) (by kernel_rfl) (by simp[x1]) ?_))
    ·go_wp2;go_ret;exact⟨I,Z,F3.o,xR ⟨Z,by rw[<- V.o,S];rfl⟩⟩
    ·obtain⟨aS,⟨_,_,_,_,_,au,av,_,_,_,_⟩,_⟩:=L.o.ws.ML;have aX:=ZW C9.o D9.o E9.o W.o am.o an.o aC aD ax ai.o U.o aJ ⟨au.lt,av.lt⟩ fun k e=>by have:=ao.o k e;omega c.o;have F9:=C9.o.fr.set 17 [Y ca (KL (KZ rss d).E).length p,JQ F (KL (KZ rss d).E).length (KL (KZ rss d).E).length,JQ J (KL (KZ rss d).E).length (KL (KZ rss d).E).length,G I];have aP:=L.o.fr.size;have hR:qG w gc A rss st R0 (w9.setCells gc 17 [Y ca (KL (KZ rss d).E).length p,JQ F (KL (KZ rss d).E).length (KL (KZ rss d).E).length,JQ J (KL (KZ rss d).E).length (KL (KZ rss d).E).length,G I]) (H q):=by
      refine⟨_,_,_,aX,?_,Z,F9,fun k hk=>xF ?_,fun k hk=>xF ?_⟩
      ·rw[<- V.o,S];simp[dD,tP]
      ·obtain⟨s',e1,aG⟩:=hk;simp only[Option.some.injEq]at e1;subst e1
       rcases aG with a|a|⟨u,hu,a⟩|a|a
       ·exact ap.o k a
       ·have:=(W.o.ow.lt k a).1;omega
       ·have:=(U.o u hu k a).1;omega
       ·simp only at a;omega
       ·simp only at a;omega
      ·obtain⟨s',e1,e2⟩:=hk;simp only[Option.some.injEq]at e1;subst e1;simp only at e2;omega
     go_roundw
     case rel =>
      (repeat apply Exists.intro)
      exact⟨⟨_,hR⟩,Z⟩
     case measure =>
      have a:=(al.o _ ⟨_,hR⟩).2 _ hR;have h2:=HL.o;rw[S]at h2;simp only[x4]at h2;omega
   ·go_wp2;go_ret;exact⟨true,Z,qG.some HC.o HR.o HF.o HN.o HT.o S bc D (HF.o.bS HT.o aK.o)⟩
namespace Q
def OE(p:Wd×List Int):Cand:=⟨p.1,KK p.1.E,(KK p.1.E).D (gK (KL p.1.E) p.2)⟩
def dM(l:List (Wd×List Int)):List Cand:=(l.map OE).filter fun c=>!c.F.bR c.D
theorem Pq(p:Wd×List Int)(l:List (Wd×List Int)):dM (p::l)=if(OE p).F.bR (OE p).D then dM l else OE p::dM l:=by
 unfold dM;rw[List.map_cons,List.filter_cons]
 cases(OE p).F.bR (OE p).D<;>rfl
theorem Ps(a:List (List Int))(ds:List Int):(gK a ds).length=H a:=by simp[gK]
end Q
structure CandNow(w:World)(gc:Nat)(A:WA)(rss:List (List Run))(s:RS)(ds:List Int)(rest:List (List Int))(gr:Nat):Prop where
 on:Eo w gc A rss (O s) ds rest
 c12:N w ⟨gc,12,C⟩=O (JQ gr s.R.fa.n s.R.fa.n)
 rel:Ed w gr s.R.fa.n (OE (s.wd,s.ds)).D
def Pt(w w':World)(gc:Nat)(A:WA)(rss:List (List Run))(st:Option RS)(cs:List Cand)(b:Bool):Prop :=
 Ek w w' gc A st/\(b=I/\cs=[]\/b=true/\∃s ds rest gr,CandNow w' gc A rss s ds rest gr/\cs=OE (s.wd,s.ds)::dM (dD rss (O s) rest)/\(∀k,s.R.nb k->nbS st k\/z (M w)<=k)/\(gdS st s.R.gd\/z (M w)<=s.R.gd))
def AH(w:World)(gc:Nat)(A:WA)(rss:List (List Run))(st:Option RS)(C0:List Cand)(wr:World)(n:Nat):Prop :=
 ∃st1 ds1 rest1,Eo wr gc A rss st1 ds1 rest1/\dM (dD rss st1 rest1)=C0/\(dD rss st1 rest1).length=n/\Ek w wr gc A st/\(∀k,nbS st1 k->nbS st k\/z (M w)<=k)/\∀k,gdS st1 k->gdS st k\/z (M w)<=k
theorem Eo.uP{rest:List (List Int)}(h:Eo w gc A rss (O s) ds rest)(v:Value):Eo (w.setCell ⟨gc,12,C⟩ v) gc A rss (O s) ds rest/\(w.setCell ⟨gc,12,C⟩ v).cell? ⟨gc,12,C⟩=O v/\∀k,k≠gc->(w.setCell ⟨gc,12,C⟩ v).heap[k]?=w.heap[k]?:=by
 obtain⟨l,V,c,d⟩:=h.box.set 12 [v] (by simp);obtain⟨W,o,_⟩:=id h.box;obtain⟨a,p⟩:=h.rs s Z;obtain⟨b,hc⟩:=a.rd.ML.ML;refine⟨⟨l,WsOn.CF h.ws o (by decide) (by decide) (by decide) (fun j h1 h2=>c j (xF (by simp;omega))) (fun j=>l.free j) d (by simp),(c 21 (xF (by simp))).trans h.beg,fun s' f=>?_⟩,V 0 _ Z,d⟩;simp only[Option.some.injEq]at f;subst f;refine⟨⟨(c 0 (xR (by decide))).trans a.c0,(c 1 (xR (by decide))).trans a.c1,EJ a.wdi a.n3.2 h.box 12 [v] (by simp),World.rangeAt_setCells_apart a.fc gc 12 [v] (xF (xR (by simp[LY]))),EW a.fin h.box 12 [v] (by simp),⟨(c 17 (xF (by simp))).trans a.rd.c0,?_,?_,a.rd.nc,a.rd.ne⟩,a.n1,a.n2,a.n3⟩,p⟩
 ·exact⟨aU a.rd.y.ow fun k e=>d k fun L=>a.rd.nc.2 (by rw[e,L]),a.rd.y.len,fun i T x E=>(a.rd.y.y i T x E).ow _ (fun k e=>d k (a.rd.ne x (x8 E) k e).2) (by simp)⟩
 ·obtain⟨b,⟨m,D,F,X,cl,J,K,q,r,u,U⟩,S⟩:=a.rd.ML;exact⟨b,⟨(c 18 (xF (by simp))).trans m,(c 19 (xF (by simp))).trans D,(c 20 (xF (by simp))).trans F,l.free,by simpa using cl,J.aA (d _ fun e=>r e.symm),K.aA (d _ fun e=>q e.symm),q,r,u,U⟩,S⟩
theorem Aa(gc:Nat)(A:WA)(rss:List (List Run))(st:Option RS)(ds:List Int)(rest:List (List Int))(w:World)(h:Eo w gc A rss st ds rest)(hn:H rss<20)(hb:∀r∈rss,H r<100000000)(aY:∀rs∈rss,∀r∈rs,H r.g=4/\∀e∈r.E,e.h<MU)(hW:∀d,MV (MP rss) d->WdOk (KZ rss d)):
  Calls prog 35 #[.pointer (O ⟨gc,0,C⟩)] w fun e w'=>∃b,e=.returned (G b)/\Pt w w' gc A rss st (dM (dD rss st rest)) b:=by
 have H0:JP (AH w gc A rss st (dM (dD rss st rest)) w (dD rss st rest).length):=⟨st,ds,rest,h,Z,Z,Ek.refl _ _ _ _,fun k h=>xR h,fun k h=>xR h⟩;have HB:=JO hb;have aK:=JO aY;have HW:=JO hW;generalize dM (dD rss st rest)=C0 at*;generalize(dD rss st rest).length=N0 at*;obtain⟨μ,hμ⟩:=sD (AH w gc A rss st C0);have av:=JO hμ;go_enter func35,ntmps35;go_wp2;go_loopw[] (fun wr=>∃n,JP (AH w gc A rss st C0 wr n)) fun wr=>μ wr
 case atStart=>exact⟨_,H0⟩
 case round =>
  obtain⟨hI,ba⟩:=av.o wr (by obtain⟨n,h⟩:=hrel;exact⟨n,h.o⟩);obtain⟨ao,aM,x,hC,hR,aC,hF,hN,hG⟩:=hI;have HC:=JO hC;have HR:=JO hR;have HL:=JO aC;have HF:=JO hF;have HN:=JO hN;have HG:=JO hG;go_upto_region 2 with(first|(go_at_call 61;refine(Pp gc A rss ao aM x _ HC.o hn HB.o aK.o HW.o).mono ?_;rintro e q ⟨b,rfl,aU,l⟩;have F2:=JO (HF.o.trans aU HG.o);rcases l with⟨rfl,ab⟩|⟨rfl,s,bc,m,af,ab,aT,aX,aV⟩))
  ·go_wp2;go_ret;exact⟨I,Z,F2.o,xR ⟨Z,by rw[<- HR.o,ab];rfl⟩⟩
  ·have CN:=JO af;have ag:=JO ab;have aJ:=JO aT;obtain⟨am,an⟩:=af.rs s Z;have ax:=JO am;have bb:=JO an;have ay:=JO HF.o.size;have aw:JP (∀k,s.R.nb k->nbS st k\/z (M w)<=k):=fun k hk=>by
    rcases aX k hk with l|l
    ·exact HN.o k l
    ·exact xF (x2 ay.o l)
   have au:JP (gdS st s.R.gd\/z (M w)<=s.R.gd):=by
    rcases aV with l|l
    ·exact HG.o _ l
    ·exact xF (x2 ay.o l)
   have j:=af.box.lt;have ap:=JO af.box;obtain⟨T,i,ai,_⟩:=am.fin.form;have aS:(KL s.wd.E).length<1000:=by rw[ZR];have:=an.le;omega
   have aI:JP (∀c∈KL s.wd.E,H c<1000):=fun c hc=>by have:=ZS s.wd.E an.le c hc;omega
   have ak:JP ((gK (KL s.wd.E) s.ds).length=(KL s.wd.E).length):=Ps _ _;have a:=am.fc;obtain⟨⟨ae,rg,fa,cv,S,ac,ad⟩,f,L,rr⟩:=s;obtain⟨n,ev,U,V,W,g4,g5,g6,g7,g8,g9⟩:=fa;simp only at ai a aS;subst ai;have k0:N q ⟨gc,2,C⟩=O (Y T n i):=a 0 _ Z;have k1:N q ⟨gc,3,C⟩=O (JQ U n n):=a 1 _ Z;have k2:N q ⟨gc,4,C⟩=O (JQ V n n):=a 2 _ Z;have k3:N q ⟨gc,5,C⟩=O (JQ W n n):=a 3 _ Z;have k4:N q ⟨gc,6,C⟩=O (JQ g4 n n):=a 4 _ Z;have k5:N q ⟨gc,7,C⟩=O (JQ g5 n n):=a 5 _ Z;have k6:N q ⟨gc,8,C⟩=O (JQ g6 n n):=a 6 _ Z;have k7:N q ⟨gc,9,C⟩=O (JQ g7 n n):=a 7 _ Z;have k8:N q ⟨gc,10,C⟩=O (JQ g8 n n):=a 8 _ Z;have k9:N q ⟨gc,11,C⟩=O (JQ g9 n n):=a 9 _ Z;have aN:=ap.o.free 12;have aZ:=(ap.o.there 12 1 (by decide) 0 (by decide)).1;obtain⟨bf,aD⟩:=Option.isSome_iff_exists.1 aZ;simp only[Nat.add_zero]at aD;go_region_held3 (fun w'=>N w' ⟨gc,2,C⟩=O (Y T n i)/\N w' ⟨gc,3,C⟩=O (JQ U n n)/\N w' ⟨gc,4,C⟩=O (JQ V n n)/\N w' ⟨gc,5,C⟩=O (JQ W n n)/\N w' ⟨gc,6,C⟩=O (JQ g4 n n)/\N w' ⟨gc,7,C⟩=O (JQ g5 n n)/\N w' ⟨gc,8,C⟩=O (JQ g6 n n)/\N w' ⟨gc,9,C⟩=O (JQ g7 n n)/\N w' ⟨gc,10,C⟩=O (JQ g8 n n)/\N w' ⟨gc,11,C⟩=O (JQ g9 n n)) (first|exact⟨k0,k1,k2,k3,k4,k5,k6,k7,k8,k9⟩|exact⟨m0,m1,m2,m3,m4,m5,m6,m7,m8,m9⟩|exact⟨z0,z1,z2,z3,z4,z5,z6,z7,z8,z9⟩|exact⟨(xW _ _ _ _ (by simp)).trans z0,(xW _ _ _ _ (by simp)).trans z1,(xW _ _ _ _ (by simp)).trans z2,(xW _ _ _ _ (by simp)).trans z3,(xW _ _ _ _ (by simp)).trans z4,(xW _ _ _ _ (by simp)).trans z5,(xW _ _ _ _ (by simp)).trans z6,(xW _ _ _ _ (by simp)).trans z7,(xW _ _ _ _ (by simp)).trans z8,(xW _ _ _ _ (by simp)).trans z9⟩) (first
    |(go_at_call_of 62 (Value.agg #[Value.slice T n i,JQ U n n,JQ V n n,JQ W n n,JQ g4 n n,JQ g5 n n,JQ g6 n n,JQ g7 n n,JQ g8 n n,JQ g9 n n]);refine(Mm (FA.mk n (Y T n i) U V W g4 g5 g6 g7 g8 g9) (KK f.E) _ (gK (KL f.E) L) _ aG.o aL.o (by rw[ak.o];omega)).mono ?_;rintro e w4 ⟨gr,rfl,hrel,aP⟩;have u:JP (Below (z (M q)) q w4):=JW K.o (x0 _) aP;have F:=JO hrel;have be:=JS u.o j aD;have qf:=(u.o.frozen (p:=⟨gc,12,C⟩) j).trans aN;have z0:=JS u.o j k0;have z1:=JS u.o j k1;have z2:=JS u.o j k2;have z3:=JS u.o j k3;have z4:=JS u.o j k4;have z5:=JS u.o j k5;have z6:=JS u.o j k6;have z7:=JS u.o j k7;have z8:=JS u.o j k8;have z9:=JS u.o j k9)
    |(go_at_call 63;refine(O4 gc 17 cv S ac ad (KL f.E) L rr _ (ax.o.rd.X (x3 _ _).drew) aJ.o (by omega) aI.o).mono ?_;rintro e w3 ⟨gi,rfl,al,bd,aO⟩;have K:JP (Below (z (M q)) q w3):=((x3 (z (M q)) q).drew).trans (aO.mono (by simp));have aL:JP (ME w3 (JQ gi (KL f.E).length (KL f.E).length) (gK (KL f.E) L)):=(by have h9:=al.gN (KL f.E).length (by rw[ak.o];exact x0 _);rw[ak.o]at h9;exact h9);have aG:=JO (ax.o.fin.X K.o);have m0:=JS K.o j k0;have m1:=JS K.o j k1;have m2:=JS K.o j k2;have m3:=JS K.o j k3;have m4:=JS K.o j k4;have m5:=JS K.o j k5;have m6:=JS K.o j k6;have m7:=JS K.o j k7;have m8:=JS K.o j k8;have m9:=JS K.o j k9))
   obtain⟨aa,aB,aW⟩:=(CN.o.X u.o).uP (JQ gr n n);have aF:=JO aa;have aj:=(aa.rs _ Z).1;have aH:=JO aj.fin;have a:=aj.fc;have F5:JP (Ek w (w4.setCell ⟨gc,12,C⟩ (JQ gr n n)) gc A st):=(F2.o.X u.o).set 12 [JQ gr n n];have ah:JP (Ed (w4.setCell ⟨gc,12,C⟩ (JQ gr n n)) gr n ((KK f.E).D (gK (KL f.E) L))):=by
    obtain⟨cc,aR,_⟩:=(CN.o.X u.o).box;exact⟨F.o.at_.aA (aW gr (pQ F.o.at_ aR (by decide))),F.o.len,F.o.fits⟩
   have l5:=aa.box.lt;generalize w4.setCell ⟨gc,12,C⟩ (JQ gr n n)=J at*;have k0:N J ⟨gc,2,C⟩=O (Y T n i):=a 0 _ Z;have k1:N J ⟨gc,3,C⟩=O (JQ U n n):=a 1 _ Z;have k2:N J ⟨gc,4,C⟩=O (JQ V n n):=a 2 _ Z;have k3:N J ⟨gc,5,C⟩=O (JQ W n n):=a 3 _ Z;have k4:N J ⟨gc,6,C⟩=O (JQ g4 n n):=a 4 _ Z;have k5:N J ⟨gc,7,C⟩=O (JQ g5 n n):=a 5 _ Z;have k6:N J ⟨gc,8,C⟩=O (JQ g6 n n):=a 6 _ Z;have k7:N J ⟨gc,9,C⟩=O (JQ g7 n n):=a 7 _ Z;have k8:N J ⟨gc,10,C⟩=O (JQ g8 n n):=a 8 _ Z;have k9:N J ⟨gc,11,C⟩=O (JQ g9 n n):=a 9 _ Z;go_upto_region 3 with fail
   go_region_held3 (fun w'=>N w' ⟨gc,2,C⟩=O (Y T n i)/\N w' ⟨gc,3,C⟩=O (JQ U n n)/\N w' ⟨gc,4,C⟩=O (JQ V n n)/\N w' ⟨gc,5,C⟩=O (JQ W n n)/\N w' ⟨gc,6,C⟩=O (JQ g4 n n)/\N w' ⟨gc,7,C⟩=O (JQ g5 n n)/\N w' ⟨gc,8,C⟩=O (JQ g6 n n)/\N w' ⟨gc,9,C⟩=O (JQ g7 n n)/\N w' ⟨gc,10,C⟩=O (JQ g8 n n)/\N w' ⟨gc,11,C⟩=O (JQ g9 n n)/\N w' ⟨gc,12,C⟩=O (JQ gr n n)) (first|exact⟨k0,k1,k2,k3,k4,k5,k6,k7,k8,k9,aB⟩|exact⟨m0,m1,m2,m3,m4,m5,m6,m7,m8,m9,aE⟩) (first
    |(go_at_call 64;refine(Mk (FA.mk n (Y T n i) U V W g4 g5 g6 g7 g8 g9) (KK f.E) gr ((KK f.E).D (gK (KL f.E) L)) _ (aH.o.X (x3 _ _).drew) (ah.o.X (x3 _ _).drew)).mono ?_;rintro e w6 ⟨rfl,aQ⟩;have y:JP (Below (z (M J)) J w6):=((x3 (z (M J)) J).drew).trans (aQ.mono (by simp));generalize hH:(KK f.E).bR ((KK f.E).D (gK (KL f.E) L))=hh at*;have HH:=JO hH;have m0:=JS y.o l5 k0;have m1:=JS y.o l5 k1;have m2:=JS y.o l5 k2;have m3:=JS y.o l5 k3;have m4:=JS y.o l5 k4;have m5:=JS y.o l5 k5;have m6:=JS y.o l5 k6;have m7:=JS y.o l5 k7;have m8:=JS y.o l5 k8;have m9:=JS y.o l5 k9;have aE:=JS y.o l5 aB))
   have aq:=JO (aF.o.X y.o);have az:=JO (ah.o.X y.o);have F6:=JO (F5.o.X y.o);have ar:JP (dM (dD rss ao x)=if hh then dM (dD rss (O ⟨⟨ae,rg,⟨n,Y T n i,U,V,W,g4,g5,g6,g7,g8,g9⟩,cv,S,ac,ad⟩,f,L,rr⟩) m)else OE (f,L)::dM (dD rss (O ⟨⟨ae,rg,⟨n,Y T n i,U,V,W,g4,g5,g6,g7,g8,g9⟩,cv,S,ac,ad⟩,f,L,rr⟩) m)):=by
    unfold JP;rw[ag.o,Pq,<- HH.o];rfl
   cases hh with
   |true =>
    have hR:AH w gc A rss st C0 w6 (dD rss (O ⟨⟨ae,rg,⟨n,Y T n i,U,V,W,g4,g5,g6,g7,g8,g9⟩,cv,S,ac,ad⟩,f,L,rr⟩) m).length:=by
     refine⟨_,_,_,aq.o,?_,Z,F6.o,fun k hk=>?_,fun k hk=>?_⟩
     ·have l:=ar.o;rw[if_pos rfl]at l;rw[<- l];exact HR.o
     ·obtain⟨s',e1,l⟩:=hk;simp only[Option.some.injEq]at e1;subst e1;exact aw.o k l
     ·obtain⟨s',e1,l⟩:=hk;simp only[Option.some.injEq]at e1;subst e1;subst l;exact au.o
    go_wp2;go_roundw
    case rel=>exact⟨_,hR⟩
    case measure =>
     have l:=(av.o _ ⟨_,hR⟩).2 _ hR;have h2:=HL.o;rw[ag.o]at h2;simp only[x4]at h2;omega
   |false =>
    have hF:dM (dD rss ao x)=OE (f,L)::dM (dD rss (O ⟨⟨ae,rg,⟨n,Y T n i,U,V,W,g4,g5,g6,g7,g8,g9⟩,cv,S,ac,ad⟩,f,L,rr⟩) m):=by
     have l:=ar.o;rw[if_neg (by decide)]at l;exact l
    go_wp2;go_ret;exact⟨true,Z,F6.o,xF ⟨Z,_,_,_,gr,⟨aq.o,aE,az.o⟩,by rw[<- HR.o];exact hF,aw.o,au.o⟩⟩
def fF(rv wb wd wg:Value):Array Value:=#[Y C 0 0,Y C 0 0,Y C 0 0,Y C 0 0,Y C 0 0,Y C 0 0,Y C 0 0,Y C 0 0,Y C 0 0,Y C 0 0,Y C 0 0,Y C 0 0,Y C 0 0,rv,wb,wd,wg,Y C 0 0,Y C 0 0,Y C 0 0,G I,G I]
def Pu(w w':World)(rss:List (List Run))(e:Ending):Prop:=∃rv vs wss gb gd,e=.returned (.agg (fF rv (JQ gb (H rss) (H rss)) (JQ gd (H rss) (H rss)) (G I)))/\(∃a n c,rv=Y a n c)/\Em w' 0 rv rss vs wss/\LE w' gb (MP rss)/\LE w' gd (eN (H rss))/\z (M w)<=gb/\z (M w)<=gd/\gb≠gd/\Below (z (M w)) w w'
theorem qV(h:w.ownsRow B t sz v n xs):∃a c,v=Y a n c:=by
 rcases h.2 with⟨e,d⟩|⟨f,c,b,e,_⟩
 ·exact⟨C,0,by rw[e,d]⟩
 ·exact⟨_,c,e⟩
theorem Ab(B l b:Nat)(a:List JV)(w:World)(h:bK w B (JQ l (H a) b) a)(hn:H a<20)(W:∀t∈a,(∀s∈t.S,NZ s)/\H t.S<900/\OM t.S<100000):
  Calls prog 34 #[.agg #[JQ l (H a) b]] w fun e w'=>Pu w w' (KC a) e:=by
 obtain⟨k0,k1,aa,r⟩:=hJ w #[JQ l (H a) b] (fF (Y C 0 0) (Y C 0 0) (Y C 0 0) (G I)) 52 87;have HT:=JO (h.keep fun k hk=>r.block k hk);have D:=JO W;have f:=JO r;go_enter func34,ntmps34;go_upto_region 1 with fail
 simp only[fF]at k0 k1 aa HT f;generalize hE:(w.alloc (.cells #[JQ l (H a) b] 52)).alloc (.cells #[Y C 0 0,Y C 0 0,Y C 0 0,Y C 0 0,Y C 0 0,Y C 0 0,Y C 0 0,Y C 0 0,Y C 0 0,Y C 0 0,Y C 0 0,Y C 0 0,Y C 0 0,Y C 0 0,Y C 0 0,Y C 0 0,G I,Y C 0 0,Y C 0 0,Y C 0 0,G I,G I] 87)=W0 at*;have ac:=aB k0 0 _ Z;have l1:z (M w)+1<z (M W0):=by omega
 have K1:=JO k1;go_wp2_with(first
  |(go_at_call 60;refine(Pe B l b a _ HT.o hn D.o).mono ?_;rintro e w1 ⟨rv,vs,wss,gb,gd,rfl,y,L,T,ad,ae,V,m⟩;have c:=JO y;have E:=JO L;have F:=JO T;have B1:=JO m;have J:=JO ((m.block _ l1).trans K1.o);obtain⟨xa,xc,X⟩:=qV y.ow;subst X)
  |(refine wpList_store_mid Z 87 (.tmp 2) (.tmp 5) Z (z (M w)+1) 0 (fF (Y xa (KC a).length xc) (JQ gb (KC a).length (KC a).length) (JQ gd (KC a).length (KC a).length) (G I)) Z Z (qP J.o (by simp[fF])) (by kernel_rfl) (by simp[fF,x1]) ?_;have SW:=JO (vG (fF (Y xa (KC a).length xc) (JQ gb (KC a).length (KC a).length) (JQ gd (KC a).length (KC a).length) (G I)).toList J.o (by simp[fF]));generalize w1.setCells (z (M w)+1) 0 (fF (Y xa (KC a).length xc) (JQ gb (KC a).length (KC a).length) (JQ gd (KC a).length (KC a).length) (G I)).toList=W2 at*))
 obtain⟨s0,s1,s2⟩:=SW.o;have d:∀{B n sz:Nat} {t:TypeId} {v:Value} {xs:List Value},w1.ownsRow B t sz v n xs->t≠87->W2.ownsRow B t sz v n xs:=fun h ht=>aU h fun k e=>s1 k fun e2=>eD h J.o ht (by rw[e,e2])
 refine gF (p:=2) (z (M w)+1) _ (by kernel_rfl) underlying87 Z (by kernel_rfl) Z (by exact s0) Z ?_;refine⟨_,vs,wss,gb,gd,Z,⟨_,_,_,Z⟩,⟨d c.o.ow (by decide),c.o.lv,c.o.lw,fun i hi u us hu ab=>?_⟩,E.o.aA (s1 _ (by omega)),F.o.aA (s1 _ (by omega)),by omega,by omega,V,s2 w (z (M w)) (by omega) (JW f.o (x0 _) B1.o)⟩;have q:=c.o.U i hi u us hu ab;exact⟨d q.ow (by decide),q.len,fun j hj x hx=>d (q.K j hj x hx) (by decide)⟩
namespace Q
theorem Pv(a b:List (Wd×List Int)):dM (a++b)=dM a++dM b:=by simp[dM]
theorem Pw(w:Wd):dM (tP w)=vZ w (KK w.E):=by
 unfold dM tP vZ;rw[List.map_map];rfl
theorem Px(rss:List (List Run))(l:List (List Int)):dM (l.flatMap fun d=>tP (KZ rss d))=l.flatMap fun ds=>vZ (KZ rss ds) (KK (KZ rss ds).E):=by
 induction l with
 |nil=>rfl
 |cons d l ih=>rw[x9,Pv,Pw,ih,x9]
theorem Ac(a:List JV):PW a=dM (dD (KC a) C (LX (MP (KC a)))):=by
 unfold dD;simp only[List.nil_append];rw[Px];rfl
end Q
section
variable {w w':World}{g:Nat}{a:Q.MA}{ov:Value}{vs:List Value}{fp:List Nat}
theorem Ej.qR(j:Ej w g a ov vs fp)(h:w.ownsRow B t sz v n xs)(m:t≠70)(p:t≠107)(q:t≠31)(k:Nat)(e:v.ownBlock=O k):¬Wr g ov k:=fun f=>by
 obtain⟨c,d⟩:=j.o.ty
 rcases f with f|f
 ·subst f
  rcases d with d|d
  ·exact eD h d m e
  ·exact eD h d p e
 ·rcases j.o.y.ow.2 with⟨i,_⟩|⟨b,u,l,i,_,r,_⟩
  ·rw[i]at f;simp[x5]at f
  ·rw[i]at f;simp[x5]at f;subst f;exact eD h r q e
theorem Ej.fU(d:Ej w g a ov vs fp){k:Nat}{c:Array Value}(h:w.heap[k]?=O (.cells c t (0,0)))(f:t≠70)(i:t≠107)(j:t≠31):¬Wr g ov k:=fun b=>by
 rcases b with b|b
 ·exact d.ne h (fun e=>f e.symm) (fun e=>i e.symm) b.symm
 ·exact eD d.o.y.ow h (fun e=>j e.symm) b
theorem FW(f:Ej w g a ov vs fp)(i:XF (Wr g ov) w w')(h:w.ownsRow B t sz v n xs)(b:t≠70)(c:t≠107)(d:t≠31):w'.ownsRow B t sz v n xs :=
 aU h fun k e=>i.block k (h.lt k e).2 (f.qR h b c d k e)
theorem Ad(c:Ej w g a ov vs fp)(d:XF (Wr g ov) w w'){b:Nat}{l:List Int}(h:LE w b l):LE w' b l :=
 h.aA (d.block b h.lt (c.fU (t:=3) h (by decide) (by decide) (by decide)))
theorem Ae(f:Ej w g a ov vs fp)(d:XF (Wr g ov) w w'){o:Nat}{e:List Int}{rest:List (List Int)}(h:PH w gc o gb gd e ds rest)(i:w'.heap[gc]?=w.heap[gc]?):PH w' gc o gb gd e ds rest:=by
 obtain⟨b,⟨k,l,m,r,cl,p,q,x,y,D,E⟩,u⟩:=h;have c:∀j,N w' ⟨gc,j,C⟩=N w ⟨gc,j,C⟩:=fun j=>xb (w:=w) (a:=⟨gc,j,C⟩) i
 exact⟨b,⟨(c _).trans k,(c _).trans l,(c _).trans m,fun j=>(World.frozen?_of_block (w:=w) (a:=⟨gc,j,C⟩) i).trans (r j),xd cl d.size,Ad f d p,Ad f d q,x,y,D,E⟩,u⟩
theorem Py(d:Ej w g a ov vs fp)(e:XF (Wr g ov) w w')(h:Box w gc):w'.heap[gc]?=w.heap[gc]?:=by
 obtain⟨c,b,f⟩:=id h;exact e.block gc h.lt (d.fU b (by decide) (by decide) (by decide))
theorem Eo.wr{rest:List (List Int)}(h:Eo w gc A rss st ds rest)(d:Ej w g a ov vs fp)(r:∀k,nbS st k->¬Wr g ov k)(c:XF (Wr g ov) w w'):Eo w' gc A rss st ds rest:=by
 have l:=Py d c h.box;have f:∀j,N w' ⟨gc,j,C⟩=N w ⟨gc,j,C⟩:=fun j=>xb (w:=w) (a:=⟨gc,j,C⟩) l
 refine⟨h.box.of l,⟨(f _).trans h.ws.c0,⟨FW d c h.ws.U.ow (by decide) (by decide) (by decide),h.ws.U.lv,h.ws.U.lw,fun i o u T m E=>?_⟩,Ae d c h.ws.ML l⟩,(f _).trans h.beg,fun s J=>?_⟩
 ·have q:=h.ws.U.U i o u T m E;exact⟨FW d c q.ow (by decide) (by decide) (by decide),q.len,fun j L x F=>FW d c (q.K j L x F) (by decide) (by decide) (by decide)⟩
 ·obtain⟨b,D⟩:=h.rs s J;have p:∀k,s.R.nb k->¬Wr g ov k:=fun k S=>r k ⟨s,J,S⟩
  refine⟨⟨(f _).trans b.c0,(f _).trans b.c1,b.wdi.wr d (fun k e=>p k (xR e)) c.block c.size,eH b.fc l,b.fin.wr d c.block,⟨(f _).trans b.rd.c0,⟨aU b.rd.y.ow fun k e=>c.block k (b.rd.y.ow.lt k e).2 (p k (xF (xR e))),b.rd.y.len,fun i o u m=>(b.rd.y.y i o u m).ow _ (fun k e=>c.block k ?_ (p k (xF (xF (xR ⟨u,x8 m,e⟩))))) c.size⟩,Ae d c b.rd.ML l,b.rd.nc,b.rd.ne⟩,b.n1,b.n2,b.n3⟩,D⟩;exact xJ (b.rd.y.y i o u m) k e
end
theorem RA.on.oI{R:RA}{d:Wd}{rest:List (List Int)}(h:R.on w gc A d ds rest)(k:Nat)(j:R.nb k):k<z (M w):=by
 obtain⟨b,c⟩:=h.rd.ML.ML
 rcases j with e|e|⟨u,m,e⟩|e|e
 ·exact xJ h.wdi.g k e
 ·exact(h.rd.y.ow.lt k e).2
 ·obtain⟨i,f,a⟩:=List.getElem_of_mem m;have l:i<(KL d.E).length:=by have:=h.rd.y.len;omega
  exact xJ (h.rd.y.y i l u (by rw[List.getElem?_eq_getElem f,a])) k e
 ·subst e;exact c.bases.lt
 ·subst e;exact c.digits.lt
theorem Eo.oI{rest:List (List Int)}(h:Eo w gc A rss st ds rest)(k:Nat)(a:nbS st k):k<z (M w):=by
 obtain⟨s,b,a⟩:=a;exact(h.rs s b).1.oI k a
theorem Eo.GK{rest:List (List Int)}(h:Eo w gc A rss st ds rest)(k:Nat)(a:gdS st k):k<z (M w):=by
 obtain⟨s,b,a⟩:=a;subst a;exact h.oI _ ⟨s,b,xF (xF (xF (xF Z)))⟩
structure Ew(w0 w:World)(gc g:Nat)(A:WA)(rss:List (List Run))(st:Option RS)(ds:List Int)(rest:List (List Int))(a:MA)(ov:Value)(vs:List Value)(fp:List Nat):Prop where
 cand:Eo w gc A rss st ds rest
 ans:Ej w g a ov vs fp
 nb:∀k,nbS st k->¬Wr g ov k
 fpd:∀k∈fp,k≠gc/\k≠A.gd/\¬gdS st k
 low:z (M w0)<=gc/\z (M w0)<=g/\z (M w0)<=A.gd/\(∀k,gdS st k->z (M w0)<=k)/\(∀k,ov.ownBlock=O k->z (M w0)<=k)/\∀k∈fp,z (M w0)<=k
 bl:Below (z (M w0)) w0 w
section
variable {w0 w:World}{gc g:Nat}{A:WA}{rss:List (List Q.Run)}{st:Option RS}{ds:List Int}{rest:List (List Int)}{a:Q.MA}{ov:Value}{vs:List Value}{fp:List Nat}
theorem Ew.X(h:Ew w0 w gc g A rss st ds rest a ov vs fp)(b:Below (z (M w)) w w'):Ew w0 w' gc g A rss st ds rest a ov vs fp :=
 ⟨h.cand.X b,h.ans.X b,h.nb,h.fpd,h.low,JW h.bl (x0 _) b⟩
theorem Ek.xf(h:Ek w w' gc A st):XF (fun k=>k=gc\/k=A.gd\/gdS st k) w w' :=
 ⟨h.os,h.tape,h.output,h.size,fun k b a=>h.block k b (fun e=>a (xR e)) (fun e=>a (xF (xR e))) fun e=>a (xF (xF e))⟩
theorem XF.low{P:Nat->Prop}{b:World}(a:Below (z (M b)) b w)(h:XF P w w')(d:∀k,P k->z (M b)<=k):Below (z (M b)) b w' :=
 ⟨h.os.trans a.os,h.tape.trans a.tape,h.output.trans a.output,x2 a.size h.size,fun k c=>(h.block k (xd c a.size) fun e=>by have:=d k e;omega).trans (a.block k c)⟩
theorem Ew.frame(h:Ew w0 w gc g A rss st ds rest a ov vs fp)(i:Ek w w' gc A st):Ej w' g a ov vs fp/\Below (z (M w0)) w0 w':=by
 obtain⟨x,d,_⟩:=id h.cand.box;obtain⟨u,f⟩:=h.cand.ws.ML.ML;have o:∀k,gdS st k->∃l,LE w k l:=fun k c=>by
  obtain⟨s,r,rfl⟩:=c;obtain⟨b,p⟩:=(h.cand.rs s r).1.rd.ML.ML;exact⟨_,p.digits⟩
 have j:∀k,k=gc\/k=A.gd\/gdS st k->¬Wr g ov k:=fun k c=>by
  rcases c with e|e|e
  ·subst e;exact h.ans.fU d (by decide) (by decide) (by decide)
  ·subst e;exact h.ans.fU (t:=3) f.digits (by decide) (by decide) (by decide)
  ·obtain⟨l,q⟩:=o k e;exact h.ans.fU (t:=3) q (by decide) (by decide) (by decide)
 refine⟨h.ans.xf i.xf (fun e=>j g e (xR Z)) (fun k e m=>j k m (xF e)) fun k c e=>?_,i.xf.low h.bl fun k e=>?_⟩
 ·rcases e with e|e|e
  ·exact(h.fpd k c).1 e
  ·exact(h.fpd k c).2.1 e
  ·exact(h.fpd k c).2.2 e
 ·rcases e with e|e|e
  ·rw[e];exact h.low.1
  ·rw[e];exact h.low.2.2.1
  ·exact h.low.2.2.2.1 k e
theorem Ew.next(h:Ew w0 w gc g A rss st ds rest a ov vs fp){f:List Int}{c:List (List Int)}(u:Ek w w' gc A st)(r:Eo w' gc A rss (O s) f c)(x:∀k,s.R.nb k->nbS st k\/z (M w)<=k)(j:gdS st s.R.gd\/z (M w)<=s.R.gd):Ew w0 w' gc g A rss (O s) f c a ov vs fp:=by
 obtain⟨p,q⟩:=h.frame u;have l:∀k,gdS (O s) k->k=s.R.gd:=fun k b=>by
  obtain⟨y,e,m⟩:=b;simp only[Option.some.injEq]at e;subst e;exact m
 refine⟨r,p,fun k b e=>?_,fun k b=>⟨(h.fpd k b).1,(h.fpd k b).2.1,fun e=>?_⟩,⟨h.low.1,h.low.2.1,h.low.2.2.1,fun k e=>?_,h.low.2.2.2.2.1,h.low.2.2.2.2.2⟩,q⟩
 ·obtain⟨y,i,b⟩:=b;simp only[Option.some.injEq]at i;subst i
  rcases x k b with d|d
  ·exact h.nb k d e
  ·rcases e with e|e
   ·have:=h.ans.o.lt;omega
   ·have:=h.ans.o.dE k e;omega
 ·rw[l k e]at b e
  rcases j with d|d
  ·exact(h.fpd _ b).2.2 d
  ·have:=h.ans.o.fpl _ b;omega
 ·rw[l k e]
  rcases j with d|d
  ·exact h.low.2.2.2.1 _ d
  ·have:=h.bl.size;omega
theorem Ew.grow(h:Ew w0 w gc g A rss st ds rest a ov vs fp){p:MA}{i:Value}{m:List Value}{d:List Nat}(q:Ej w' g p i m d)(j:El (Wr g ov) w w' ov i fp d):Ew w0 w' gc g A rss st ds rest p i m d:=by
 have u:=h.bl.size;refine⟨h.cand.wr h.ans h.nb j.xf,q,fun k f e=>?_,fun k f=>?_,⟨h.low.1,h.low.2.1,h.low.2.2.1,h.low.2.2.2.1,fun k e=>?_,fun k f=>?_⟩,j.xf.low h.bl fun k e=>?_⟩
 ·rcases e with e|e
  ·exact h.nb k f (xR e)
  ·rcases j.ow with c|⟨b,c,r⟩
   ·exact h.nb k f (xF (c.symm.trans e))
   ·rw[c]at e;simp at e;have:=h.cand.oI k f;omega
 ·rcases j.fpn k f with l|l
  ·exact h.fpd k l
  ·obtain⟨x,o⟩:=h.cand.ws.ML.ML;have y:=h.cand.box.lt;have D:=o.digits.lt;exact⟨by omega,by omega,fun e=>by have:=h.cand.GK k e;omega⟩
 ·rcases j.ow with c|⟨b,c,r⟩
  ·exact h.low.2.2.2.2.1 k (c.symm.trans e)
  ·rw[c]at e;simp at e;omega
 ·rcases j.fpn k f with l|l
  ·exact h.low.2.2.2.2.2 k l
  ·omega
 ·rcases e with e|e
  ·rw[e];exact h.low.2.1
  ·exact h.low.2.2.2.2.1 k e
end
namespace Q
theorem Af(es:List Ev):(KK es).E=es:=by
 have a:∀(i:Nat) (l:List Nat) (f:Ey),(l.foldl (fun f k=>f.gG i (ev es i) k (ev es k)) f).E=f.E:=by
  intro i l
  induction l with
  |nil=>intro f;rfl
  |cons k l ih=>intro f;rw[xe,ih];rfl
 have b:∀(l:List Nat) (f:Ey),(l.foldl (nT es) f).E=f.E:=by
  intro l
  induction l with
  |nil=>intro f;rfl
  |cons k l ih=>intro f;rw[xe,ih];exact a _ _ _
 exact b _ _
end Q
theorem Ag(g:Nat)(b:Value)(w:World)(f:N w ⟨g,0,C⟩=O b)(i:g<z (M w))(d:∃a n c,b=Y a n c):
  Calls prog 38 #[.pointer (O ⟨g,0,C⟩)] w fun e w'=>e=.returned b/\w'=w:=by
 obtain⟨a,n,c,rfl⟩:=d;go_enter func38,ntmps38;go_wp2;go_ret;exact⟨Z,Z⟩
theorem Pz(h:Em w1 0 rv rss vs wss)(f:LE w1 gb (MP rss))(i:LE w1 gd (eN (H rss)))(d:gb≠gd)(b:W1.heap[z (M w1)]?=O (.cells (fF rv (JQ gb (H rss) (H rss)) (JQ gd (H rss) (H rss)) (G I)) 87 (0,0)))(c:Below (z (M w1)) w1 W1):
  Eo W1 (z (M w1)) ⟨rv,vs,wss,gb,gd⟩ rss C (eN (H rss)) (LX (MP rss)):=by
 have m:=f.lt;have o:=i.lt;have a:∀j (v:Value),(fF rv (JQ gb (H rss) (H rss)) (JQ gd (H rss) (H rss)) (G I))[j]?=O v->N W1 ⟨z (M w1),j,C⟩=O v:=fun j v l=>by simp only[x6,b];simpa using l
 have e:(eN (H rss)).length=H rss:=by simp[eN]
 refine⟨⟨_,b,by simp[fF]⟩,⟨a 13 _ Z,h.X c,I,⟨?_,?_,a 16 _ Z,fun j=>by simp[World.frozen?,b],(Array.getElem?_eq_some_iff.1 b).1,f.X c,i.X c,?_,?_,d,?_⟩,xR ⟨Z,?_,Z⟩⟩,a 21 _ Z,fun s k=>by simp at k⟩
 ·rw[show(List.map (fun r=>((r:List Run).length:Int)) rss).length=H rss by simp];exact a 14 _ Z
 ·rw[e];exact a 15 _ Z
 ·simp only;omega
 ·simp only;omega
 ·rw[e];simp
 ·simp
theorem P3{W:World}(h:W.heap[g]?=O (.cells #[Y C 0 0,G I] t (0,0)))(d:t=70\/t=107):Ej W g ⟨[],I⟩ (Y C 0 0) [] []:=by
 have c:=(Array.getElem?_eq_some_iff.1 h).1;refine⟨⟨by simp[x6,h],c,by simp[World.frozen?,h],⟨World.ownsRow_nil _ _ _ _,Z,fun i b=>by simp at b⟩,⟨#[Y C 0 0,G I],?_⟩,fun u e=>by simp at e,fun k a=>by simp at a,fun k a=>by simp at a⟩,by simp[x6,h],⟨by simp[OX],fun x f=>by simp at f⟩⟩
 rcases d with rfl|rfl
 ·exact xR h
 ·exact xF h
def oP(w0:World)(gc g:Nat)(A:WA)(rss:List (List Run))(F:MA->Cand->MA)(fin:MA)(wr:World)(m:Nat):Prop :=
 ∃st ds rest a ov vs fp,Ew w0 wr gc g A rss st ds rest a ov vs fp/\(dM (dD rss st rest)).foldl F a=fin/\(dM (dD rss st rest)).length=m
theorem Ah(h:Em w1 0 rv rss vs wss)(m:LE w1 gb (MP rss))(o:LE w1 gd (eN (H rss)))(f:gb≠gd)(l:W1.heap[z (M w1)]?=O (.cells (fF rv (JQ gb (H rss) (H rss)) (JQ gd (H rss) (H rss)) (G I)) 87 (0,0)))(j:Below (z (M w1)) w1 W1)(p:W1.heap[g]?=O (.cells #[Y C 0 0,G I] t (0,0)))(q:t=70\/t=107)(r:z (M w)<=z (M w1))(c:z (M w)<=g)(d:z (M w)<=gd)(b:Below (z (M w)) w W1):
  Ew w W1 (z (M w1)) g ⟨rv,vs,wss,gb,gd⟩ rss C (eN (H rss)) (LX (MP rss)) ⟨[],I⟩ (Y C 0 0) [] []:=
 ⟨Pz h m o f l j,P3 p q,fun k a=>by obtain⟨s,i,_⟩:=a;simp at i,fun k a=>by simp at a,⟨r,c,d,fun k a=>by obtain⟨s,i,_⟩:=a;simp at i,fun k e=>by simp[x5]at e,fun k a=>by simp at a⟩,b⟩
end Go.Proofs.YtlikcongbhhpfaaGreatDoor
