import Derived.Test.YtehclbpoabdpoaaGreatDoorO29
set_option linter.all false
set_option maxHeartbeats 0
namespace Go.Proofs.YtehclbpoabdpoaaGreatDoor
open Go Go.RowKit Go.Proofs.Tryz P Q
open scoped Classical
set_option maxRecDepth 1000000
open Go.World renaming cell?->G,heap->N
open _root_.Array renaming size->U
open List renaming length->z
open Option renaming some->Y,none->C
open Go.Value renaming slice->O
open Bool renaming false->I
open Or renaming inl->xF,inr->xR
open Go.World renaming cell?_setCell_other->xW
open Go.Value renaming oneCell'->x1
open Nat renaming le_refl->x2,le_trans->x4
open Go.RowKit.Below renaming refl->x3
open List renaming length_cons->x5,flatMap_cons->x7
open Option renaming isSome->x6
def Pz(c:Nat)(A:WA)(a:List (List Run))(L:Option RS)(ds:List Int)(rest:List (List Int))(w:World)(h:Em w c A a L ds rest)(hn:z a<20)(hb:∀r∈a,z r<100000000)(aZ:∀rs∈a,∀r∈rs,z r.g=4/\∀e∈r.E,e.h<OW)(hW:∀d,PE (PG a) d->WdOk (NV a d)):
  Calls prog 55 #[.pointer (Y ⟨c,0,C⟩)] w fun e w'=>∃b,e=.returned (.bool b)/\Ab w w' c A a L (eP a L rest) b:=by
 have H0:MT (vM w c A a L (eP a L rest) w (z rest)):=⟨L,ds,rest,h,Z,Z,Ei.refl _ _ _ _,fun k h=>xF h,fun k h=>xF h⟩;have HB:=MS hb;have aK:=MS aZ;have HW:=MS hW;generalize eP a L rest=R0 at*;obtain⟨μ,hμ⟩:=EL (vM w c A a L R0);have ak:=MS hμ;go_enter func55,ntmps55;go_wp2;go_loopw[] (fun wr=>∃n,MT (vM w c A a L R0 wr n)) fun wr=>μ wr
 case atStart=>exact⟨_,H0⟩
 case round =>
  obtain⟨hI,be⟩:=ak.o wr (by obtain⟨n,h⟩:=hrel;exact⟨n,h.o⟩);obtain⟨bd,ae,j,hC,hR,aN,hF,hN⟩:=hI;have HC:=MS hC;have HR:=MS hR;have HL:=MS aN;have HF:=MS hF;have HN:=MS hN;have ad:=hC.beg
  cases bd with
  |none =>
   simp only[x6]at ad;have l:MT (CandW wr c A a ae j):=⟨HC.box,HC.ws,_,ad⟩;have T:=HR;have aj:=HF;go_wp2_with(first
    |(go_at_call 94;obtain⟨bb,W⟩:=l.beg;obtain⟨cc,ax,_⟩:=id l.box;refine(ZS c 13 A.rv A.vs A.wss A.gb A.gd a ae j cc 94 _ l.ws ax (by decide) (by decide) (by decide) (by omega) HB.o).mono ?_;rintro e w3 ⟨f,hT⟩;have bc:=(hT.cell 21 (by omega)).trans W;have M:=MS (l.box.cL hT);have pf:=M.free;have F3:=MS (aj.cL hT (xF Z));rcases f with⟨J,rfl⟩|⟨d,q,J,rfl,aH,B⟩)
    |(go_at_call 95;have ai:=MS B;have i:=MS (HW.o d B);have C4:=MS (CW.start M.o aH F3.o);refine(ZV c 13 A.rv A.vs A.wss A.gb A.gd a d q _ C4.ws ai.o (by omega) i.le aK.o).mono ?_;rintro e w5 ⟨ev,rg,rfl,m,t,av⟩;have C5:=MS (C4.X av);have aq:=MS m;have ap:MT (rg.ownBlock≠Y c):=(fun e=>by have:=t c e;have:=C4.box.lt;omega);have an:MT (∀k,rg.ownBlock=Y k->k<U (N w5)):=fun k e=>m.g.fU k e;have ao:MT (∀k,rg.ownBlock=Y k->U (N w)<=k):=fun k e=>x4 C4.fr.size (t k e);obtain⟨ea,ec,aA,_⟩:=m.K.form;obtain⟨ra,rc,aG,_⟩:=m.g.form;subst aA aG)
    |(refine wpList_store_mid Z 80 (.tmp 29) (.tmp 27) Z c 0 #[O ea (NV a d).E.length ec,O ra (NV a d).g.length rc] Z Z (C5.box.there 0 2 (by decide)) (by kernel_rfl) (by simp[x1]) ?_;have D6:=MS (CW1.start aq.o ap.o C5.box);have C6:=MS (C5.set 0 [O ea (NV a d).E.length ec,O ra (NV a d).g.length rc] (xF (by simp)));have S6:U (N w5)<=(w5.setCells c 0 [O ea (NV a d).E.length ec,O ra (NV a d).g.length rc]).heap.size:=(by rw[rD];exact x2 _);generalize w5.setCells c 0 [O ea (NV a d).E.length ec,O ra (NV a d).g.length rc]=w6 at*;have aS:=D6.c0)
    |(go_at_call 96;refine(ZK _ (NV a d).E _ D6.wdi.K i.pos i.le i.h).mono ?_;rintro e w7 ⟨fa,rfl,aY,p,x⟩;have C7:=MS (C6.X x);have D7:=MS (D6.X C6.box x);have ag:=MS p;obtain⟨fx,aV,ab,_⟩:=p.form;have S7:=x.size)
    |(refine wpList_store_mid Z 85 (.tmp 38) (.tmp 36) Z c 2 (OK fa) Z Z (C7.box.there 2 10 (by decide)) (by kernel_rfl) (by simp[OK,ab,x1]) ?_;have E8:=MS (CW2.start ag.o C7.box);have H:=MS (C7.set 2 (OK fa).toList (xF (by simp[OK])));have D8:=MS (D7.set C7.box 2 (OK fa).toList (by simp[OK]) (by decide));have S8:U (N w7)<=(w7.setCells c 2 (OK fa).toList).heap.size:=(by rw[rD];exact x2 _);generalize w7.setCells c 2 (OK fa).toList=w8 at*;have aT:=D8.c0;have aU:=D8.c1;have aI:=H.box.lt)
    |(go_at_call 97;refine(ZH _ _ (NV a d).E _ D8.wdi.K ⟨_,_,_,Z⟩ i.le).mono ?_;rintro e w9 ⟨cv,aM,D,F,rfl,ac,aD,aE,aB,aC,aw,aa,ay,y⟩;have C9:=MS (H.X y);have D9:=MS (D8.X H.box y);have E9:=MS (E8.X H.box y);obtain⟨ca,v,az,_⟩:=ac.form;subst az;have V:=MS ac;have al:=MS aD;have am:=MS aE;have S:=MS ay;have ah:=MS aa)
    |(refine wpList_store_mid Z 92 (.tmp 46) (.tmp 44) Z c 17 #[O ca (NC (NV a d).E).length v,MU D (NC (NV a d).E).length (NC (NV a d).E).length,MU F (NC (NV a d).E).length (NC (NV a d).E).length,.bool I] Z Z (C9.box.there 17 4 (by decide)) (by kernel_rfl) (by simp[x1]) ?_))
   ·go_wp2;go_ret;exact⟨I,Z,F3.o,xF ⟨Z,by rw[<- T.o,J];rfl⟩⟩
   ·obtain⟨aR,⟨_,_,_,_,_,ar,au,_,_,_,_⟩,_⟩:=H.ws.OS;have aO:=H.fr.size;have hR:vM w c A a L R0 (w9.setCells c 17 [O ca (NC (NV a d).E).length v,MU D (NC (NV a d).E).length (NC (NV a d).E).length,MU F (NC (NV a d).E).length (NC (NV a d).E).length,.bool I]) (z q):=by
     refine⟨_,_,_,Ad C9.o D9.o E9.o V.o al.o am.o aB aC aw ah.o S.o aI ⟨ar.lt,au.lt⟩ fun k e=>by have:=an.o k e;omega i.o,?_,Z,C9.fr.set 17 [O ca (NC (NV a d).E).length v,MU D (NC (NV a d).E).length (NC (NV a d).E).length,MU F (NC (NV a d).E).length (NC (NV a d).E).length,.bool I],fun k hk=>xR ?_,fun k hk=>xR ?_⟩
     ·rw[<- T.o,J];simp[eP,xL]
     ·obtain⟨s',e1,aF⟩:=hk;simp only[Option.some.injEq]at e1;subst e1
      rcases aF with f|f|⟨u,hu,f⟩|f|f
      ·exact ao.o k f
      ·have:=(V.own.lt k f).1;omega
      ·have:=(S.o u hu k f).1;omega
      ·simp only at f;omega
      ·simp only at f;omega
     ·obtain⟨s',e1,e2⟩:=hk;simp only[Option.some.injEq]at e1;subst e1;simp only at e2;omega
    go_roundw
    case rel =>
     (repeat apply Exists.intro)
     exact⟨⟨_,hR⟩,Z⟩
    case measure =>
     have f:=(ak.o _ ⟨_,hR⟩).2 _ hR;have h2:=HL.o;rw[J]at h2;simp only[x5]at h2;omega
  |some s =>
   simp only[x6]at ad;obtain⟨af,aP⟩:=HC.rs s Z;have aL:=MS af.rd;have aJ:MT (s.R.gd=A.gd\/gdS L s.R.gd\/U (N w)<=s.R.gd):=by
    rcases HN.2 s.R.gd ⟨s,Z,Z⟩with f|f
    ·exact xR (xF f)
    ·exact xR (xR f)
   have aX:(NC s.wd.E).length<10000:=by rw[ZY];have:=aP.le;omega
   have aQ:=MS (Pv s.wd.E aP.le);go_upto_region 2 with(first|(go_at_call 93;refine(On c 17 s.R.cv s.R.cvs s.R.gb s.R.gd (NC s.wd.E) s.ds s.rest _ aL.o aX aQ.o).mono ?_;rintro e w2 ⟨f,hT⟩;have HT:=MS hT;rcases f with⟨J,rfl⟩|⟨r,q,J,rfl,ba,B⟩))
   ·have l:MT (CandW w2 c A a ae j):=by
     have af:=(HC.rs s Z).1;obtain⟨b,hc⟩:=aL.OS.OS;exact⟨HC.box.cL HT.o,Ac HC.ws HT.o HC.box af.n1 af.n2 hc.digits,_,(HT.cell _ (by omega)).trans ad⟩
    have T:MT (eP a C j=R0):=by unfold MT;rw[<- HR.o];simp[eP,J]
    have aj:=MS (HF.cL HT.o aJ.o);go_wp2_with(first
     |(go_at_call 94;obtain⟨bb,W⟩:=l.beg;obtain⟨cc,ax,_⟩:=id l.box;refine(ZS c 13 A.rv A.vs A.wss A.gb A.gd a ae j cc 94 _ l.ws ax (by decide) (by decide) (by decide) (by omega) HB.o).mono ?_;rintro e w3 ⟨f,hT⟩;have bc:=(hT.cell 21 (by omega)).trans W;have M:=MS (l.box.cL hT);have pf:=M.free;have F3:=MS (aj.cL hT (xF Z));rcases f with⟨J,rfl⟩|⟨d,q,J,rfl,aH,B⟩)
     |(go_at_call 95;have ai:=MS B;have i:=MS (HW.o d B);have C4:=MS (CW.start M.o aH F3.o);refine(ZV c 13 A.rv A.vs A.wss A.gb A.gd a d q _ C4.ws ai.o (by omega) i.le aK.o).mono ?_;rintro e w5 ⟨ev,rg,rfl,m,t,av⟩;have C5:=MS (C4.X av);have aq:=MS m;have ap:MT (rg.ownBlock≠Y c):=(fun e=>by have:=t c e;have:=C4.box.lt;omega);have an:MT (∀k,rg.ownBlock=Y k->k<U (N w5)):=fun k e=>m.g.fU k e;have ao:MT (∀k,rg.ownBlock=Y k->U (N w)<=k):=fun k e=>x4 C4.fr.size (t k e);obtain⟨ea,ec,aA,_⟩:=m.K.form;obtain⟨ra,rc,aG,_⟩:=m.g.form;subst aA aG)
     |(refine wpList_store_mid Z 80 (.tmp 29) (.tmp 27) Z c 0 #[O ea (NV a d).E.length ec,O ra (NV a d).g.length rc] Z Z (C5.box.there 0 2 (by decide)) (by kernel_rfl) (by simp[x1]) ?_;have D6:=MS (CW1.start aq.o ap.o C5.box);have C6:=MS (C5.set 0 [O ea (NV a d).E.length ec,O ra (NV a d).g.length rc] (xF (by simp)));have S6:U (N w5)<=(w5.setCells c 0 [O ea (NV a d).E.length ec,O ra (NV a d).g.length rc]).heap.size:=(by rw[rD];exact x2 _);generalize w5.setCells c 0 [O ea (NV a d).E.length ec,O ra (NV a d).g.length rc]=w6 at*;have aS:=D6.c0)
     |(go_at_call 96;refine(ZK _ (NV a d).E _ D6.wdi.K i.pos i.le i.h).mono ?_;rintro e w7 ⟨fa,rfl,aY,p,x⟩;have C7:=MS (C6.X x);have D7:=MS (D6.X C6.box x);have ag:=MS p;obtain⟨fx,aV,ab,_⟩:=p.form;have S7:=x.size)
     |(refine wpList_store_mid Z 85 (.tmp 38) (.tmp 36) Z c 2 (OK fa) Z Z (C7.box.there 2 10 (by decide)) (by kernel_rfl) (by simp[OK,ab,x1]) ?_;have E8:=MS (CW2.start ag.o C7.box);have H:=MS (C7.set 2 (OK fa).toList (xF (by simp[OK])));have D8:=MS (D7.set C7.box 2 (OK fa).toList (by simp[OK]) (by decide));have S8:U (N w7)<=(w7.setCells c 2 (OK fa).toList).heap.size:=(by rw[rD];exact x2 _);generalize w7.setCells c 2 (OK fa).toList=w8 at*;have aT:=D8.c0;have aU:=D8.c1;have aI:=H.box.lt)
     |(go_at_call 97;refine(ZH _ _ (NV a d).E _ D8.wdi.K ⟨_,_,_,Z⟩ i.le).mono ?_;rintro e w9 ⟨cv,aM,D,F,rfl,ac,aD,aE,aB,aC,aw,aa,ay,y⟩;have C9:=MS (H.X y);have D9:=MS (D8.X H.box y);have E9:=MS (E8.X H.box y);obtain⟨ca,v,az,_⟩:=ac.form;subst az;have V:=MS ac;have al:=MS aD;have am:=MS aE;have S:=MS ay;have ah:=MS aa)
     |(refine wpList_store_mid Z 92 (.tmp 46) (.tmp 44) Z c 17 #[O ca (NC (NV a d).E).length v,MU D (NC (NV a d).E).length (NC (NV a d).E).length,MU F (NC (NV a d).E).length (NC (NV a d).E).length,.bool I] Z Z (C9.box.there 17 4 (by decide)) (by kernel_rfl) (by simp[x1]) ?_))
    ·go_wp2;go_ret;exact⟨I,Z,F3.o,xF ⟨Z,by rw[<- T.o,J];rfl⟩⟩
    ·obtain⟨aR,⟨_,_,_,_,_,ar,au,_,_,_,_⟩,_⟩:=H.ws.OS;have aW:=Ad C9.o D9.o E9.o V.o al.o am.o aB aC aw ah.o S.o aI ⟨ar.lt,au.lt⟩ fun k e=>by have:=an.o k e;omega i.o;have F9:=C9.fr.set 17 [O ca (NC (NV a d).E).length v,MU D (NC (NV a d).E).length (NC (NV a d).E).length,MU F (NC (NV a d).E).length (NC (NV a d).E).length,.bool I];have aO:=H.fr.size;have hR:vM w c A a L R0 (w9.setCells c 17 [O ca (NC (NV a d).E).length v,MU D (NC (NV a d).E).length (NC (NV a d).E).length,MU F (NC (NV a d).E).length (NC (NV a d).E).length,.bool I]) (z q):=by
      refine⟨_,_,_,aW,?_,Z,F9,fun k hk=>xR ?_,fun k hk=>xR ?_⟩
      ·rw[<- T.o,J];simp[eP,xL]
      ·obtain⟨s',e1,aF⟩:=hk;simp only[Option.some.injEq]at e1;subst e1
       rcases aF with f|f|⟨u,hu,f⟩|f|f
       ·exact ao.o k f
       ·have:=(V.own.lt k f).1;omega
       ·have:=(S.o u hu k f).1;omega
       ·simp only at f;omega
       ·simp only at f;omega
      ·obtain⟨s',e1,e2⟩:=hk;simp only[Option.some.injEq]at e1;subst e1;simp only at e2;omega
     go_roundw
     case rel =>
      (repeat apply Exists.intro)
      exact⟨⟨_,hR⟩,Z⟩
     case measure =>
      have f:=(ak.o _ ⟨_,hR⟩).2 _ hR;have h2:=HL.o;rw[J]at h2;simp only[x5]at h2;omega
   ·go_wp2;go_ret;exact⟨true,Z,vM.some HC.o HR.o HF.o HN.o HT.o J ba B (HF.cL HT.o aJ.o)⟩
namespace Q
def RG(p:Wd×List Int):Cand:=⟨p.1,NH p.1.E,(NH p.1.E).D (eW (NC p.1.E) p.2)⟩
def fM(l:List (Wd×List Int)):List Cand:=(l.map RG).filter fun c=>!c.F.cH c.D
def P3(p:Wd×List Int)(l:List (Wd×List Int)):fM (p::l)=if(RG p).F.cH (RG p).D then fM l else RG p::fM l:=by
 unfold fM;rw[List.map_cons,List.filter_cons]
 cases(RG p).F.cH (RG p).D<;>rfl
def P4(cs:List (List Int))(a:List Int):(eW cs a).length=z cs:=by simp[eW]
end Q
structure CandNow(w:World)(gc:Nat)(A:WA)(rss:List (List Run))(s:RS)(ds:List Int)(rest:List (List Int))(gr:Nat):Prop where
 on:Em w gc A rss (Y s) ds rest
 c12:G w ⟨gc,12,C⟩=Y (MU gr s.R.fa.n s.R.fa.n)
 rel:Eb w gr s.R.fa.n (RG (s.wd,s.ds)).D
def P5(w w':World)(gc:Nat)(A:WA)(rss:List (List Run))(st:Option RS)(cs:List Cand)(b:Bool):Prop :=
 Ei w w' gc A st/\(b=I/\cs=[]\/b=true/\∃s ds rest gr,CandNow w' gc A rss s ds rest gr/\cs=RG (s.wd,s.ds)::fM (eP rss (Y s) rest)/\(∀k,s.R.nb k->nbS st k\/U (N w)<=k)/\(gdS st s.R.gd\/U (N w)<=s.R.gd))
def DP(w:World)(gc:Nat)(A:WA)(rss:List (List Run))(st:Option RS)(C0:List Cand)(wr:World)(n:Nat):Prop :=
 ∃st1 ds1 rest1,Em wr gc A rss st1 ds1 rest1/\fM (eP rss st1 rest1)=C0/\(eP rss st1 rest1).length=n/\Ei w wr gc A st/\(∀k,nbS st1 k->nbS st k\/U (N w)<=k)/\∀k,gdS st1 k->gdS st k\/U (N w)<=k
def Em.yC{w:World}{c:Nat}{A:WA}{l:List (List Run)}{s:RS}{B:List Int}{rest:List (List Int)}(h:Em w c A l (Y s) B rest)(v:Value):Em (w.setCell ⟨c,12,C⟩ v) c A l (Y s) B rest/\(w.setCell ⟨c,12,C⟩ v).cell? ⟨c,12,C⟩=Y v/\∀k,k≠c->(w.setCell ⟨c,12,C⟩ v).heap[k]?=w.heap[k]?:=by
 obtain⟨m,M,d,f⟩:=h.box.set 12 [v] (by simp);obtain⟨S,o,_⟩:=id h.box;obtain⟨a,p⟩:=h.rs s Z;obtain⟨b,X⟩:=a.rd.OS.OS;refine⟨⟨m,WsOn.dH h.ws o (by decide) (by decide) (by decide) (fun j V W=>d j (xR (by simp;omega))) (fun j=>m.free j) f (by simp),(d 21 (xR (by simp))).trans h.beg,fun s' g=>?_⟩,M 0 _ Z,f⟩;simp only[Option.some.injEq]at g;subst g;refine⟨⟨(d 0 (xF (by decide))).trans a.c0,(d 1 (xF (by decide))).trans a.c1,JD a.wdi a.n3.2 h.box 12 [v] (by simp),World.rangeAt_setCells_apart a.fc c 12 [v] (xR (xF (by simp[OK]))),MO a.fin h.box 12 [v] (by simp),⟨(d 17 (xR (by simp))).trans a.rd.c0,?_,?_,a.rd.nc,a.rd.ne⟩,a.n1,a.n2,a.n3⟩,p⟩
 ·exact⟨bE a.rd.y.own fun k e=>f k fun e2=>a.rd.nc.2 (by rw[e,e2]),a.rd.y.len,fun i K x D=>(a.rd.y.y i K x D).own _ (fun k e=>f k (a.rd.ne x (List.mem_of_getElem? D) k e).2) (by simp)⟩
 ·obtain⟨b,⟨n,u,E,T,cl,F,H,q,r,t,L⟩,J⟩:=a.rd.OS;exact⟨b,⟨(d 18 (xR (by simp))).trans n,(d 19 (xR (by simp))).trans u,(d 20 (xR (by simp))).trans E,m.free,by simpa using cl,F.aC (f _ fun e=>r e.symm),H.aC (f _ fun e=>q e.symm),q,r,t,L⟩,J⟩
def Qa(a:Nat)(A:WA)(f:List (List Run))(B:Option RS)(ds:List Int)(rest:List (List Int))(w:World)(h:Em w a A f B ds rest)(hn:z f<20)(hb:∀r∈f,z r<100000000)(aY:∀rs∈f,∀r∈rs,z r.g=4/\∀e∈r.E,e.h<OW)(hW:∀d,PE (PG f) d->WdOk (NV f d)):
  Calls prog 33 #[.pointer (Y ⟨a,0,C⟩)] w fun e l=>∃b,e=.returned (.bool b)/\P5 w l a A f B (fM (eP f B rest)) b:=by
 have H0:MT (DP w a A f B (fM (eP f B rest)) w (eP f B rest).length):=⟨B,ds,rest,h,Z,Z,Ei.refl _ _ _ _,fun k h=>xF h,fun k h=>xF h⟩;have HB:=MS hb;have aK:=MS aY;have HW:=MS hW;generalize fM (eP f B rest)=C0 at*;generalize(eP f B rest).length=N0 at*;obtain⟨μ,hμ⟩:=EL (DP w a A f B C0);have av:=MS hμ;go_enter func33,ntmps33;go_wp2;go_loopw[] (fun wr=>∃n,MT (DP w a A f B C0 wr n)) fun wr=>μ wr
 case atStart=>exact⟨_,H0⟩
 case round =>
  obtain⟨hI,ba⟩:=av.o wr (by obtain⟨n,h⟩:=hrel;exact⟨n,h.o⟩);obtain⟨ao,aM,y,hC,hR,aB,hF,hN,hG⟩:=hI;have HC:=MS hC;have HR:=MS hR;have HL:=MS aB;have HF:=MS hF;have HN:=MS hN;have HG:=MS hG;go_upto_region 2 with(first|(go_at_call 55;refine(Pz a A f ao aM y _ HC.o hn HB.o aK.o HW.o).mono ?_;rintro e v ⟨b,rfl,aU,t⟩;have F2:=MS (HF.trans aU HG.o);rcases t with⟨rfl,ab⟩|⟨rfl,s,bc,u,af,ab,aT,aX,aV⟩))
  ·go_wp2;go_ret;exact⟨I,Z,F2.o,xF ⟨Z,by rw[<- HR.o,ab];rfl⟩⟩
  ·have CN:=MS af;have ag:=MS ab;have aJ:=MS aT;obtain⟨am,an⟩:=af.rs s Z;have ax:=MS am;have bb:=MS an;have ay:=MS HF.size;have aw:MT (∀k,s.R.nb k->nbS B k\/U (N w)<=k):=fun k hk=>by
    rcases aX k hk with t|t
    ·exact HN.o k t
    ·exact xR (x4 ay.o t)
   have au:MT (gdS B s.R.gd\/U (N w)<=s.R.gd):=by
    rcases aV with t|t
    ·exact HG.o _ t
    ·exact xR (x4 ay.o t)
   have q:=af.box.lt;have ap:=MS af.box;obtain⟨S,m,ai,_⟩:=am.fin.form;have aS:(NC s.wd.E).length<1000:=by rw[ZY];have:=an.le;omega
   have aI:MT (∀c∈NC s.wd.E,z c<1000):=fun c hc=>by have:=ZZ s.wd.E an.le c hc;omega
   have ak:MT ((eW (NC s.wd.E) s.ds).length=(NC s.wd.E).length):=P4 _ _;have i:=am.fc;obtain⟨⟨ae,rg,fa,cv,M,ac,ad⟩,j,L,rr⟩:=s;obtain⟨n,ev,T,V,W,g4,g5,g6,g7,g8,g9⟩:=fa;simp only at ai i aS;subst ai;have k0:G v ⟨a,2,C⟩=Y (O S n m):=i 0 _ Z;have k1:G v ⟨a,3,C⟩=Y (MU T n n):=i 1 _ Z;have k2:G v ⟨a,4,C⟩=Y (MU V n n):=i 2 _ Z;have k3:G v ⟨a,5,C⟩=Y (MU W n n):=i 3 _ Z;have k4:G v ⟨a,6,C⟩=Y (MU g4 n n):=i 4 _ Z;have k5:G v ⟨a,7,C⟩=Y (MU g5 n n):=i 5 _ Z;have k6:G v ⟨a,8,C⟩=Y (MU g6 n n):=i 6 _ Z;have k7:G v ⟨a,9,C⟩=Y (MU g7 n n):=i 7 _ Z;have k8:G v ⟨a,10,C⟩=Y (MU g8 n n):=i 8 _ Z;have k9:G v ⟨a,11,C⟩=Y (MU g9 n n):=i 9 _ Z;have aN:=ap.free 12;have aZ:=(ap.there 12 1 (by decide) 0 (by decide)).1;obtain⟨bf,aD⟩:=Option.isSome_iff_exists.1 aZ;simp only[Nat.add_zero]at aD;go_region_held3 (fun l=>G l ⟨a,2,C⟩=Y (O S n m)/\G l ⟨a,3,C⟩=Y (MU T n n)/\G l ⟨a,4,C⟩=Y (MU V n n)/\G l ⟨a,5,C⟩=Y (MU W n n)/\G l ⟨a,6,C⟩=Y (MU g4 n n)/\G l ⟨a,7,C⟩=Y (MU g5 n n)/\G l ⟨a,8,C⟩=Y (MU g6 n n)/\G l ⟨a,9,C⟩=Y (MU g7 n n)/\G l ⟨a,10,C⟩=Y (MU g8 n n)/\G l ⟨a,11,C⟩=Y (MU g9 n n)) (first|exact⟨k0,k1,k2,k3,k4,k5,k6,k7,k8,k9⟩|exact⟨m0,m1,m2,m3,m4,m5,m6,m7,m8,m9⟩|exact⟨z0,z1,z2,z3,z4,z5,z6,z7,z8,z9⟩|exact⟨(xW _ _ _ _ (by simp)).trans z0,(xW _ _ _ _ (by simp)).trans z1,(xW _ _ _ _ (by simp)).trans z2,(xW _ _ _ _ (by simp)).trans z3,(xW _ _ _ _ (by simp)).trans z4,(xW _ _ _ _ (by simp)).trans z5,(xW _ _ _ _ (by simp)).trans z6,(xW _ _ _ _ (by simp)).trans z7,(xW _ _ _ _ (by simp)).trans z8,(xW _ _ _ _ (by simp)).trans z9⟩) (first
    |(go_at_call_of 56 (Value.agg #[Value.slice S n m,MU T n n,MU V n n,MU W n n,MU g4 n n,MU g5 n n,MU g6 n n,MU g7 n n,MU g8 n n,MU g9 n n]);refine(Mr (FA.mk n (O S n m) T V W g4 g5 g6 g7 g8 g9) (NH j.E) _ (eW (NC j.E) L) _ aG.o aL.o (by rw[ak.o];omega)).mono ?_;rintro e w4 ⟨gr,rfl,hrel,aP⟩;have x:MT (Below (U (N v)) v w4):=NE K.o (x2 _) aP;have H:=MS hrel;have be:=MZ x.o q aD;have qf:=(x.frozen (p:=⟨a,12,C⟩) q).trans aN;have z0:=MZ x.o q k0;have z1:=MZ x.o q k1;have z2:=MZ x.o q k2;have z3:=MZ x.o q k3;have z4:=MZ x.o q k4;have z5:=MZ x.o q k5;have z6:=MZ x.o q k6;have z7:=MZ x.o q k7;have z8:=MZ x.o q k8;have z9:=MZ x.o q k9)
    |(go_at_call 57;refine(Ot a 17 cv M ac ad (NC j.E) L rr _ (ax.rd.X (x3 _ _).drew) aJ.o (by omega) aI.o).mono ?_;rintro e w3 ⟨gi,rfl,al,bd,aO⟩;have K:MT (Below (U (N v)) v w3):=((x3 (U (N v)) v).drew).trans (aO.mono (by simp));have aL:MT (PC w3 (MU gi (NC j.E).length (NC j.E).length) (eW (NC j.E) L)):=(by have h9:=al.qB (NC j.E).length (by rw[ak.o];exact x2 _);rw[ak.o]at h9;exact h9);have aG:=MS (ax.fin.X K.o);have m0:=MZ K.o q k0;have m1:=MZ K.o q k1;have m2:=MZ K.o q k2;have m3:=MZ K.o q k3;have m4:=MZ K.o q k4;have m5:=MZ K.o q k5;have m6:=MZ K.o q k6;have m7:=MZ K.o q k7;have m8:=MZ K.o q k8;have m9:=MZ K.o q k9))
   obtain⟨aa,aA,aW⟩:=(CN.X x.o).yC (MU gr n n);have aF:=MS aa;have aj:=(aa.rs _ Z).1;have aH:=MS aj.fin;have i:=aj.fc;have F5:MT (Ei w (w4.setCell ⟨a,12,C⟩ (MU gr n n)) a A B):=(F2.X x.o).set 12 [MU gr n n];have ah:MT (Eb (w4.setCell ⟨a,12,C⟩ (MU gr n n)) gr n ((NH j.E).D (eW (NC j.E) L))):=by
    obtain⟨cc,aR,_⟩:=(CN.X x.o).box;exact⟨H.at_.aC (aW gr (vR H.at_ aR (by decide))),H.len,H.fits⟩
   have l5:=aa.box.lt;generalize w4.setCell ⟨a,12,C⟩ (MU gr n n)=J at*;have k0:G J ⟨a,2,C⟩=Y (O S n m):=i 0 _ Z;have k1:G J ⟨a,3,C⟩=Y (MU T n n):=i 1 _ Z;have k2:G J ⟨a,4,C⟩=Y (MU V n n):=i 2 _ Z;have k3:G J ⟨a,5,C⟩=Y (MU W n n):=i 3 _ Z;have k4:G J ⟨a,6,C⟩=Y (MU g4 n n):=i 4 _ Z;have k5:G J ⟨a,7,C⟩=Y (MU g5 n n):=i 5 _ Z;have k6:G J ⟨a,8,C⟩=Y (MU g6 n n):=i 6 _ Z;have k7:G J ⟨a,9,C⟩=Y (MU g7 n n):=i 7 _ Z;have k8:G J ⟨a,10,C⟩=Y (MU g8 n n):=i 8 _ Z;have k9:G J ⟨a,11,C⟩=Y (MU g9 n n):=i 9 _ Z;go_upto_region 3 with fail
   go_region_held3 (fun l=>G l ⟨a,2,C⟩=Y (O S n m)/\G l ⟨a,3,C⟩=Y (MU T n n)/\G l ⟨a,4,C⟩=Y (MU V n n)/\G l ⟨a,5,C⟩=Y (MU W n n)/\G l ⟨a,6,C⟩=Y (MU g4 n n)/\G l ⟨a,7,C⟩=Y (MU g5 n n)/\G l ⟨a,8,C⟩=Y (MU g6 n n)/\G l ⟨a,9,C⟩=Y (MU g7 n n)/\G l ⟨a,10,C⟩=Y (MU g8 n n)/\G l ⟨a,11,C⟩=Y (MU g9 n n)/\G l ⟨a,12,C⟩=Y (MU gr n n)) (first|exact⟨k0,k1,k2,k3,k4,k5,k6,k7,k8,k9,aA⟩|exact⟨m0,m1,m2,m3,m4,m5,m6,m7,m8,m9,aE⟩) (first
    |(go_at_call 58;refine(Mp (FA.mk n (O S n m) T V W g4 g5 g6 g7 g8 g9) (NH j.E) gr ((NH j.E).D (eW (NC j.E) L)) _ (aH.X (x3 _ _).drew) (ah.X (x3 _ _).drew)).mono ?_;rintro e w6 ⟨rfl,aQ⟩;have F:MT (Below (U (N J)) J w6):=((x3 (U (N J)) J).drew).trans (aQ.mono (by simp));generalize hH:(NH j.E).cH ((NH j.E).D (eW (NC j.E) L))=hh at*;have HH:=MS hH;have m0:=MZ F.o l5 k0;have m1:=MZ F.o l5 k1;have m2:=MZ F.o l5 k2;have m3:=MZ F.o l5 k3;have m4:=MZ F.o l5 k4;have m5:=MZ F.o l5 k5;have m6:=MZ F.o l5 k6;have m7:=MZ F.o l5 k7;have m8:=MZ F.o l5 k8;have m9:=MZ F.o l5 k9;have aE:=MZ F.o l5 aA))
   have aq:=MS (aF.X F.o);have az:=MS (ah.X F.o);have F6:=MS (F5.X F.o);have ar:MT (fM (eP f ao y)=if hh then fM (eP f (Y ⟨⟨ae,rg,⟨n,O S n m,T,V,W,g4,g5,g6,g7,g8,g9⟩,cv,M,ac,ad⟩,j,L,rr⟩) u)else RG (j,L)::fM (eP f (Y ⟨⟨ae,rg,⟨n,O S n m,T,V,W,g4,g5,g6,g7,g8,g9⟩,cv,M,ac,ad⟩,j,L,rr⟩) u)):=by
    unfold MT;rw[ag.o,P3,<- HH.o];rfl
   cases hh with
   |true =>
    have hR:DP w a A f B C0 w6 (eP f (Y ⟨⟨ae,rg,⟨n,O S n m,T,V,W,g4,g5,g6,g7,g8,g9⟩,cv,M,ac,ad⟩,j,L,rr⟩) u).length:=by
     refine⟨_,_,_,aq.o,?_,Z,F6.o,fun k hk=>?_,fun k hk=>?_⟩
     ·have t:=ar.o;rw[if_pos rfl]at t;rw[<- t];exact HR.o
     ·obtain⟨s',e1,t⟩:=hk;simp only[Option.some.injEq]at e1;subst e1;exact aw.o k t
     ·obtain⟨s',e1,t⟩:=hk;simp only[Option.some.injEq]at e1;subst e1;subst t;exact au.o
    go_wp2;go_roundw
    case rel=>exact⟨_,hR⟩
    case measure =>
     have t:=(av.o _ ⟨_,hR⟩).2 _ hR;have h2:=HL.o;rw[ag.o]at h2;simp only[x5]at h2;omega
   |false =>
    have hF:fM (eP f ao y)=RG (j,L)::fM (eP f (Y ⟨⟨ae,rg,⟨n,O S n m,T,V,W,g4,g5,g6,g7,g8,g9⟩,cv,M,ac,ad⟩,j,L,rr⟩) u):=by
     have t:=ar.o;rw[if_neg (by decide)]at t;exact t
    go_wp2;go_ret;exact⟨true,Z,F6.o,xR ⟨Z,_,_,_,gr,⟨aq.o,aE,az.o⟩,by rw[<- HR.o];exact hF,aw.o,au.o⟩⟩
namespace Q
def Qb(a b:List (Wd×List Int)):fM (a++b)=fM a++fM b:=by simp[fM]
def Qc(w:Wd):fM (xL w)=zC w (NH w.E):=by
 unfold fM xL zC;rw[List.map_map];rfl
def Qd(a:List (List Run))(l:List (List Int)):fM (l.flatMap fun d=>xL (NV a d))=l.flatMap fun b=>zC (NV a b) (NH (NV a b).E):=by
 induction l with
 |nil=>rfl
 |cons d l ih=>rw[x7,Qb,Qc,ih,x7]
def Qe(a:List NB):wR a=fM (eP (NJ a) C (OJ (PG (NJ a)))):=by
 unfold eP;simp only[List.nil_append];rw[Qd];rfl
end Q
