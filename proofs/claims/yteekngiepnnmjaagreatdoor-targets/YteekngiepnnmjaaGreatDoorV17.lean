import Derived.Test.YteekngiepnnmjaaGreatDoorV13
import Derived.Test.YteekngiepnnmjaaGreatDoorV10
set_option linter.all false
set_option maxHeartbeats 0
namespace Go.Proofs.YteekngiepnnmjaaGreatDoor
open Go Go.RowKit Go.Proofs.Tryz P Q
open scoped Classical
set_option maxRecDepth 1000000
open _root_ renaming List->U,List->σ,Nat->S,Nat->ω,Int->K,Int->φ,Option->ρ,Array->ζ
open Go renaming Value->I,Value->ν,World->ξ,madeCells->ψ,heap_alloc_new->τ,wpList_store_mid->π,Calls->γ
open Go.RowKit renaming Below->ι,intOf->η
open Go.Proofs.Tryz renaming prog->δ
variable {W w w' w0 w1 w2:ξ}{B B' fb g gb gc ge k n n' o sz sz':ω}{l vs vs' xs':σ ν}{d ds r:σ φ}{ov ov' ov1 rg rv u v:ν}{rs:σ Run}{rss:σ (σ Run)}{wss:σ (σ ν)}{t t' tg:TypeId}{cc cd:ζ ν}{es:σ Ev}{a:XU}{f:Ex}{fp fp' fp1 gs:σ ω}{wd:Q.Wd}{fa:FA}{P':ω->Prop}
open List renaming length->J
open Option renaming some->Y,none->G
open Go.Value renaming slice->C,bool->z,int->M
open Go.Obj renaming cells->O
open Go.IntKind renaming i64->N
open Bool renaming false->L
open Go.Ending renaming returned->D
open Or renaming inl->xF,inr->xR
open Nat renaming le_refl->xW,zero_le->x3,le_trans->x5,lt_of_lt_of_le->x8
open Go.Value renaming ownBlock->x1,int->xa,oneCell'->xj
open List renaming range->x2,getElem_mem->x7,mem_of_getElem?->xb,getElem?_eq_getElem->xc,take_of_length_le->xh,drop_eq_getElem_cons->xm,drop_eq_nil_of_le->xn,cons_append->xo,getElem?_append_left->xp,getElem?_append_right->xq,nil_append->xr,foldl_cons->xt
open Go.RowKit.Below renaming heap_alloc->x4,heap_setCell->x6,refl->xg
open Go.World renaming cell?->x9,ownsRow_nil->xd,frozen?->xe,cell?_of_block->xi
open Go.Instr renaming makeSlice->xk
open Option renaming isSome->xu
structure RdOn(w:ξ)(g o:ω)(cv:ν)(vs:σ ν)(gb gd:ω)(cs:σ (σ φ))(ds:σ φ)(rest:σ (σ φ)):Prop where
 c0:w.cell? ⟨g,o,G⟩=Y cv
 y:XB w 0 cv cs vs
 XY:Ac w g (o+1) gb gd (YO cs) ds rest
 nc:cv.ownBlock≠Y gd/\cv.ownBlock≠Y g
 ne:∀u∈vs,∀k,u.ownBlock=Y k->k≠gd/\k≠g
def RdOn.X{e:ν}{gd:ω}{cs:σ (σ φ)}{rest:σ (σ φ)}(h:RdOn w g o e vs gb gd cs ds rest)(c:ι w.heap.size w w'):RdOn w' g o e vs gb gd cs ds rest:=by
 obtain⟨b,i⟩:=h.XY.XY;exact⟨(c.cell i.lt).trans h.c0,h.y.X c,h.XY.X c,h.nc,h.ne⟩
def XB.dK{gd:ω}{rs:σ (σ φ)}(h:XB w B v rs vs)(c:Eo w w' g o gd)(m:v.ownBlock≠Y gd/\v.ownBlock≠Y g)(b:∀u∈vs,∀k,u.ownBlock=Y k->k≠gd/\k≠g):XB w' B v rs vs :=
 ⟨bH h.own λk e=>c.block k (λe2=>m.2 (by rw[e,e2])) λe2=>m.1 (by rw[e,e2]),h.len,λi p x j=>(h.y i p x j).own w' (λk e=>c.block k (b x (xb j) k e).2 (b x (xb j) k e).1) (by rw[c.size];exact xW _)⟩
theorem zJi(g o:S)(c:I)(vs:U I)(gb gd:S)(cs:U (U K))(ds:U K)(rest:U (U K))(w:ξ)(h:RdOn w g o c vs gb gd cs ds rest)(E:J cs<10000)(x:∀b∈YO cs,b<1000000000):
  γ δ 93 #[.pointer (Y ⟨g,o,G⟩)] w λe w'=>(rest=[]/\e=D (z L)\/∃r q,rest=r::q/\e=D (z true)/\RdOn w' g o c vs gb gd cs r q/\YK (YO cs) r)/\Eo w w' g (o+1) gd:=by
 have H:=aD h;obtain⟨b,i⟩:=h.XY.XY;go_in;go_wp2_with(first|(go_at_call 107;refine(TP g (o+1) gb gd (YO cs) ds rest _ H.o.XY (by rw[BH];exact E) x).mono ?_;rintro e w' ⟨p,s⟩;have m:=aD s;rcases p with⟨j,rfl⟩|⟨r,q,j,rfl,i,A⟩))
 ·go_ret
  simp_all
 ·go_ret;have T:=m.o;exact⟨xR ⟨r,q,j,Z,⟨(T.cell o (by omega)).trans H.o.c0,H.o.y.dK T H.o.nc H.o.ne,i,H.o.nc,H.o.ne⟩,A⟩,T⟩
namespace Q
def zS(cs:U (U K))(ds:U K)(i:S):K:=(cs.getD i []).getD (ds.getD i 0).toNat (-1)
def kHT(cs:U (U K))(ds:U K):YT cs ds=(x2 (J cs)).map (zS cs ds):=rfl
theorem kMg(cs:U (U K))(i:S)(h:i<J cs):(YO cs).getD i 0=(cs[i].length:K):=by
 grind [YO]
end Q
theorem zJj(g o:ω)(cv:ν)(vs:σ ν)(gb gd:ω)(cs:σ (σ φ))(ds:σ φ)(rest:σ (σ φ))(w:ξ)(h:RdOn w g o cv vs gb gd cs ds rest)(hd:YK (YO cs) ds)(hn:J cs<1000)(hb:∀c∈cs,J c<1000):
  γ δ 57 #[.pointer (Y ⟨g,o,G⟩)] w λe w'=>∃gr,e=D (VV gr (J cs) (J cs))/\WO w' gr (YT cs ds)/\w.heap.size<=gr/\ι w.heap.size w w':=by
 have ar:∀w,(xk 37 (M N (J cs:φ)) (M N (J cs:φ))).run δ w=.ok (VV w.heap.size (J cs) (J cs)) (w.alloc (O (ψ #[M N 0] (J cs)) 3)):=
  λw=>run_make_row' 37 3 (M N 0) 8 underlying37 Tryz.XE Z N N (J cs) (by omega) (by omega) w
 obtain⟨bg,A⟩:=h.XY.XY;have aj:J ds=J cs:=by rw[A.len,BH]
 obtain⟨ca,cc,rfl,ah⟩:=h.y.form;have c0:=h.c0;have c2:=A.c1;rw[aj]at c2;have al:=A.lt;have ab:=aD A.digits;have ak:=A.digits.lt;have x:=aD h.y;have aa:aC (∀i (hi:i<J cs),0<=ds.getD i 0/\ds.getD i 0<(cs[i].length:φ)):=λi hi=>by
  have h1:=hd.rng i (by omega)
  grind [kMg]
 have ad:=aD (kHT cs ds);have X:=aD hb;have ac:aC (WO (w.alloc (O (ψ #[M N 0] (J cs)) 3)) w.heap.size (kI (zS cs ds) (J cs) 0)):=by
  grind [WO,RE,DZ,τ]
 have af:w.cell? ⟨g,o+2,G⟩=Y (VV gd (J cs) (J cs)):=c2;go_in;go_wp2;go_loopw[17] (λj wr=>∃(k:ω),k<=J cs/\j=M N k/\aC (WO wr w.heap.size (kI (zS cs ds) (J cs) k))/\aC (ι w.heap.size w wr)) λj _=>J cs-(η j).toNat
 case atStart=>exact⟨0,x3 _,Z,ac,bB⟩
 case round =>
  obtain⟨k,hk,rfl,V,HB⟩:=hrel;by_cases hlt:k<J cs
  ·have aq:=lI hlt;obtain⟨bc,rfl,_,ag,F⟩:=ah (by omega);have S:k<J vs:=by rw[x.o.len];exact hlt
   have s:=x.o.y k hlt vs[k] (xc S);obtain⟨ma,mc,U,T⟩:=s.form;have ai:=aa.o k hlt;obtain⟨d,H⟩:∃d:ω,ds.getD k 0=(d:φ):=⟨(ds.getD k 0).toNat,by omega⟩;have b:d<cs[k].length:=by omega
   obtain⟨gm,I,K,E⟩:=T (by omega);have e1:=cK HB ag (F k S);rw[U,I]at e1;have d2:=cK HB al af;have dg:wr.cell? ⟨gd,k,G⟩=Y (M N (d:φ)):=by rw[<- H];exact cK HB ak (ab.o.eG k (by omega))
   have dm:wr.cell? ⟨gm,d,G⟩=Y (M N (cs[k].getD d (-1))):=by rw[pH _ _ b];exact cK HB K (E d b)
   have cp:=V.o.eG k (by grind [LY]);have fp:=V.o.free k;have m:=aD ((V.o.set k (-1)).set k (cs[k].getD d (-1)));have q:=aD (QS (zS cs ds) (J cs) k hlt);have ae:aC (zS cs ds k=cs[k].getD d (-1)):=by
    simp_all [zS]
   rw[ae.o]at q;rw[List.set_set,q.o]at m;have ap:=lI b;have an:=X.o cs[k] (x7 hlt);clear H U T E s F ai I;generalize cs[k].getD d (-1)=val at*;generalize ao:cs[k].length=cl at*;generalize(kI (zS cs ds) (J cs) k).getD k 0=au at*;go_wp2;go_roundw;exact⟨k+1,by omega,by go_num,m,(HB.o.setCell (p:=⟨w.heap.size,k,G⟩) (xW _) _).setCell (p:=⟨w.heap.size,k,G⟩) (xW _) _⟩;simp[η];omega
  ·have am:k=J cs:=by omega
   go_wp2;go_ret;refine⟨w.heap.size,Z,?_,xW _,HB⟩;have h1:=V.o;rw[am,UT,<- ad.o]at h1;exact h1
structure El(w:ξ)(B:ω)(v:ν)(rss:σ (σ Run))(vs:σ ν)(wss:σ (σ ν)):Prop where
 own:w.ownsRow B 168 1 v (J rss) vs
 lv:J vs=J rss
 lw:J wss=J rss
 U:∀i (h:i<J rss) (u:ν) (us:σ ν),vs[i]?=Y u->wss[i]?=Y us->Em w 0 u rss[i] us
def El.X(h:El w B v rss vs wss)(b:ι w.heap.size w w'):El w' B v rss vs wss :=
 ⟨bH h.own λk e=>b.block k (h.own.lt k e).2,h.lv,h.lw,λi m u p c j=>(h.U i m u p c j).X b⟩
structure WsOn(w:ξ)(g o:ω)(rv:ν)(vs:σ ν)(wss:σ (σ ν))(gb gd:ω)(rss:σ (σ Run))(ds:σ φ)(rest:σ (σ φ)):Prop where
 c0:w.cell? ⟨g,o,G⟩=Y rv
 U:El w 0 rv rss vs wss
 XY:Ac w g (o+1) gb gd (rss.map λr=>(J r:φ)) ds rest
def WsOn.X{gd:ω}{rest:σ (σ φ)}(h:WsOn w g o rv vs wss gb gd rss ds rest)(c:ι w.heap.size w w'):WsOn w' g o rv vs wss gb gd rss ds rest:=by
 obtain⟨b,e⟩:=h.XY.XY;exact⟨(c.cell e.lt).trans h.c0,h.U.X c,h.XY.X c⟩
def IN{gd:S}{j:U I}{c:ζ I}(h:w.ownsRow B t sz v n j)(m:Eo w w' g o gd)(q:w.heap[g]?=Y (O c tg (0,0)))(b:t≠tg)(p:w.heap[gd]?=Y (O cd 3 (0,0)))(i:t≠3):w'.ownsRow B t sz v n j :=
 bH h λk e=>m.block k (λe2=>gG h q b (by rw[e,e2])) λe2=>gG h p i (by rw[e,e2])
def El.dK{gd:ω}{c:ζ ν}(h:El w B v rss vs wss)(b:Eo w w' g o gd)(m:w.heap[g]?=Y (O c tg (0,0)))(s:168≠tg)(y:209≠tg)(A:180≠tg)(e:w.heap[gd]?=Y (O cd 3 (0,0))):El w' B v rss vs wss :=
 ⟨IN h.own b m s e (by decide),h.lv,h.lw,λi E u S H q=>by
  have p:=h.U i E u S H q;exact⟨IN p.own b m y e (by decide),p.len,λj F x I=>IN (p.K j F x I) b m A e (by decide)⟩⟩
theorem zJm(g o:ω)(rv:ν)(vs:U ν)(wss:U (U ν))(gb gd:ω)(rss:U (U Run))(ds:U φ)(rest:U (U φ))(c:ζ ν)(tg:TypeId)(w:ξ)(h:WsOn w g o rv vs wss gb gd rss ds rest)(S:w.heap[g]?=Y (O c tg (0,0)))(s:168≠tg)(A:209≠tg)(E:180≠tg)(V:J rss<10000)(I:∀r∈rss,J r<100000000):
  γ δ 94 #[.pointer (Y ⟨g,o,G⟩)] w λe w'=>(rest=[]/\e=D (z L)\/∃r q,rest=r::q/\e=D (z true)/\WsOn w' g o rv vs wss gb gd rss r q/\YK (rss.map λr=>(J r:φ)) r)/\Eo w w' g (o+1) gd:=by
 have H:=aD h;have x:=aD S;obtain⟨b,p⟩:=h.XY.XY;have m:=aD p.digits;go_in;go_wp2_with(first|(go_at_call 107;refine(TP g (o+1) gb gd _ ds rest _ H.o.XY (by simpa using V) (by intro b i;simp at i;obtain⟨r,j,rfl⟩:=i;have:=I r j;omega)).mono ?_;rintro e w' ⟨s,F⟩;have y:=aD F;rcases s with⟨j,rfl⟩|⟨r,q,j,rfl,p,K⟩))
 ·go_ret
  simp_all
 ·go_ret;have T:=y.o;exact⟨xR ⟨r,q,j,Z,⟨(T.cell o (by omega)).trans H.o.c0,H.o.U.dK T x (by assumption) A E m,p⟩,K⟩,T⟩
namespace Q
theorem kGl(wd:Wd)(rss:U (U Run))(ds:U K)(k:S)(c:k<J rss)(b:k<J ds)(h:(ds.getD k 0).toNat<rss[k].length):jK wd (rss.drop k) (ds.drop k)=jK (wd.join (rss[k][(ds.getD k 0).toNat]'h)) (rss.drop (k+1)) (ds.drop (k+1)):=by
 rw[xm c,xm b];rw[jK]
 grind
def Ja:∀(wd:Wd) (rss:U (U Run)) (ds:U K),J wd.E<=(jK wd rss ds).E.length
 |wd,rs::rest,d::ds=>by
  rw[jK];refine x5 ?_ (Ja _ rest ds)
  split
  ·simp[Wd.join]
  ·exact xW _
 |wd,[],_=>xW _
 |wd,_::_,[]=>xW _
end Q
theorem Jb:∀(rs:U Run) (b:U I),J b=J rs->∀(d:S) (h:d<J rs),∃u,b[d]?=Y u/\(ZV rs b)[d*5]?=Y u/\(ZV rs b)[d*5+1]?=Y (M N (rs[d].g.getD 0 0))/\(ZV rs b)[d*5+2]?=Y (M N (rs[d].g.getD 1 0))/\(ZV rs b)[d*5+3]?=Y (M N (rs[d].g.getD 2 0))/\(ZV rs b)[d*5+4]?=Y (M N (rs[d].g.getD 3 0))
 |[],b,_,d,h=>by simp at h
 |r::rs,[],hl,d,h=>by simp at hl
 |r::rs,u::b,hl,0,h=>⟨u,Z,Z,Z,Z,Z,Z⟩
 |r::rs,u::b,hl,d+1,h=>by
  obtain⟨x,c,e,i,j,m,p⟩:=Jb rs b (by simpa using hl) d (by simpa using h);refine⟨x,by simpa using c,?_,?_,?_,?_,?_⟩
  ·grind [ZV]
  ·grind [ZV]
  ·grind [ZV]
  ·grind [ZV]
  grind [ZV]
theorem zKA(g o:ω)(rv:ν)(vs:U ν)(wss:U (U ν))(gb gd:ω)(rss:U (U Run))(ds:U K)(rest:U (U K))(w:ξ)(h:WsOn w g o rv vs wss gb gd rss ds rest)(hd:YK (rss.map λr=>(J r:K)) ds)(hn:J rss<20)(ai:(XV rss ds).E.length<=64)(aP:∀rs∈rss,∀r∈rs,J r.g=4/\∀e∈r.E,e.h<YC):
  γ δ 95 #[.pointer (Y ⟨g,o,G⟩)] w λe w'=>∃ev rg,e=D (.agg #[ev,rg])/\YU w' ev rg (XV rss ds)/\(∀k,rg.ownBlock=Y k->w.heap.size<=k)/\ι w.heap.size w w':=by
 obtain⟨bg,hc⟩:=h.XY.XY;have aK:J ds=J rss:=by rw[hc.len];simp
 have al:=hc.lt;have c0:=h.c0;have c2:=hc.c1;have ao:=aD hc.digits;have aM:=hc.digits.lt;have x:=aD h.U;have aq:=aD aP;have ap:aC (∀i (hi:i<J rss),0<=ds.getD i 0/\ds.getD i 0<(rss[i].length:K)):=λi hi=>by
  have h1:=hd.rng i (by omega)
  grind
 obtain⟨ra,rc,aS⟩:∃a c,rv=C a (J rss) c:=by
  rcases h.U.own.2 with⟨e,h0⟩|⟨k,c,T,e,_⟩
  ·grind
  ·exact⟨_,c,e⟩
 have H:(rss.map λr=>(J r:K)).length=J rss:=by simp
 have aB:aC (XV rss ds=jK ⟨ZB,[]⟩ (rss.drop 0) (ds.drop 0)):=Z;have ae:=aD ai;rw[aK]at c2;obtain⟨k0,bq,aI⟩:=nY w #[C G 0 0,C G 0 0] 80;have ab:=aD aI;have bb:J ds<=J rss:=by omega
 have bc:J rss<=J ds:=by omega
 have aE:w.cell? ⟨g,o+2,G⟩=Y (VV gd (J rss) (J rss)):=c2;subst aS;go_in;go_upto_region 1 with fail
 generalize hE:w.alloc (O #[C G 0 0,C G 0 0] 80)=W0 at*;have K0:=aD k0;have be:w.heap.size+1<=W0.heap.size:=by omega
 go_upto_region 2 with(first|(go_at_call 135;refine(Xt _).mono ?_;rintro e w1 ⟨g1,rfl,an,H⟩))
 have aA:aC (WM (w1.alloc (O #[VV g1 3 3,C G 0 0] 80)) W0.heap.size w1.heap.size ⟨ZB,[]⟩ (VV g1 3 3) (C G 0 0)):=
  ⟨τ w1 _,bH an λk e=>x4 _ _ _ (an.lt k e).2,by simpa using xd _ _ _ _,H.size⟩
 have ac:aC (ι W0.heap.size W0 (w1.alloc (O #[VV g1 3 3,C G 0 0] 80))):=H.alloc H.size _;have bk:W0.heap.size<=w1.heap.size:=H.size;generalize bf:w1.alloc (O #[VV g1 3 3,C G 0 0] 80)=W1 at*;generalize bm:w1.heap.size=g3 at*;have ad:aC (ι w.heap.size w W1):=bT ab ac;have d2:=cK ad al aE;go_wp2;go_loopw[14] (λj wr=>∃(k:ω) (wd:Q.Wd) (ev rg:ν),k<=J rss/\j=M N k/\aC (XV rss ds=jK wd (rss.drop k) (ds.drop k))/\aC (J wd.g=4*k)/\aC (WM wr W0.heap.size g3 wd ev rg)/\aC (ι W0.heap.size W0 wr)) λj _=>J rss-(η j).toNat
 case atStart=>exact⟨0,_,_,_,x3 _,Z,aB,Z,aA,ac⟩
 case round =>
  obtain⟨k,wd,ev,rg,hk,rfl,HJ,ar,HM,HB⟩:=hrel;have b:aC (ι w.heap.size w wr):=bT ab HB;by_cases hlt:k<J rss
  ·have bn:=lI hlt;have bj:=ap.o k hlt;obtain⟨d,aJ⟩:∃d:ω,ds.getD k 0=(d:K):=⟨(ds.getD k 0).toNat,by omega⟩;have I:d<rss[k].length:=by omega
   have af:aC (XV rss ds=jK (wd.join rss[k][d]) (rss.drop (k+1)) (ds.drop (k+1))):=by
    unfold aC;rw[HJ.o,kGl wd rss ds k hlt (by omega) (by omega)]
    grind
   have bh:(wd.join rss[k][d]).E.length<=64:=by
    have h1:=Ja (wd.join rss[k][d]) (rss.drop (k+1)) (ds.drop (k+1));rw[<- af.o]at h1;have:=ae.o;omega
   have aj:J wd.E+rss[k][d].E.length<=64:=by grind [Q.Wd.join]
   have S:=aq.o rss[k] (x7 hlt) rss[k][d] (x7 I);have am:k<J vs:=by rw[x.o.lv];exact hlt
   have aN:k<J wss:=by rw[x.o.lw];exact hlt
   have m:=x.o.U k hlt vs[k] wss[k] (xc am) (xc aN);obtain⟨u,aX,q0,q1,q2,q3,q4⟩:=Jb rss[k] wss[k] m.len d I;have aa:=m.K d I u aX;obtain⟨gk,ck,aZ,s⟩:∃gk ck,vs[k]=VV gk rss[k].length ck/\gk<w.heap.size:=by
    rcases m.own.2 with⟨e,h0⟩|⟨k',c,T,e,_⟩
    ·omega
    grind
   obtain⟨br,aQ,ah,ak⟩:∃br,ra=Y ⟨br,0,G⟩/\br<w.heap.size/\w.cell? ⟨br,k,G⟩=Y vs[k]:=by
    rcases x.o.own.2 with⟨e,h0⟩|⟨k',c,T,e,_⟩
    ·omega
    ·simp only[Value.slice.injEq]at e;refine⟨k',e.1,(x.o.own.lt k' (by rw[e.1];rfl)).2,?_⟩;have h1:=x.o.own;rw[e.1]at h1;exact LC h1 am
   have A:=m.own;rw[aZ]at A ak;have z0:wr.cell? ⟨gk,d*5,G⟩=Y u:=cK b s ((A.cellAt _ (by omega)).trans q0);have z1:wr.cell? ⟨gk,d*5+1,G⟩=Y (M N (rss[k][d].g.getD 0 0)):=cK b s ((A.cellAt _ (by omega)).trans q1);have z2:wr.cell? ⟨gk,d*5+2,G⟩=Y (M N (rss[k][d].g.getD 1 0)):=cK b s ((A.cellAt _ (by omega)).trans q2);have z3:wr.cell? ⟨gk,d*5+3,G⟩=Y (M N (rss[k][d].g.getD 2 0)):=cK b s ((A.cellAt _ (by omega)).trans q3);have z4:wr.cell? ⟨gk,d*5+4,G⟩=Y (M N (rss[k][d].g.getD 3 0)):=cK b s ((A.cellAt _ (by omega)).trans q4);have y0:=cK b al c0;have yr:=cK b ah ak;have yd:wr.cell? ⟨gd,k,G⟩=Y (M N (d:K)):=by rw[<- aJ];exact cK b aM (ao.o.eG k (by omega))
   have az:aC (YG wr u rss[k][d].E):=aa.X b;have ay:aC (∀y,u.ownBlock=Y y->y<W0.heap.size):=λy e=>by have:=(aa.lt y e).2;omega
   obtain⟨ua,uc,aY,_⟩:=aa.form;have bi:(d:K)<(rss[k].length:K):=by omega
   have bd:=ar.o;have V:J wd.g<100:=by omega
   have ag:aC ((wd.join rss[k][d]).g.length=4*(k+1)):=by unfold aC Q.Wd.join;simp[S.1];omega
   generalize rss[k][d]=rr at*;generalize rss[k].length=nk at*;subst aQ aY;generalize aT:rr.g.getD 0 0=t0 at*;generalize aU:rr.g.getD 1 0=t1 at*;generalize aV:rr.g.getD 2 0=t2 at*;generalize aW:rr.g.getD 3 0=t3 at*;have au:=aD aT;have av:=aD aU;have aw:=aD aV;have ax:=aD aW;go_wp2_with(first|(go_at_call 136;have hj:=Xu W0.heap.size g3 wd ev rg (C ua (J rr.E) uc) rr wr HM az ay HB.o.size S.1 aj V S.2;rw[au.o,av.o,aw.o,ax.o]at hj;refine hj.mono ?_;rintro e w2 ⟨rfl,⟨aG,ba,aO⟩,aH⟩));go_roundw;exact⟨k+1,wd.join rr,aG,ba,by omega,by go_num,af,ag,aO,HB.o.trans aH⟩;simp[η];omega
  ·have bo:k=J rss:=by omega
   have HE:aC (wd=XV rss ds):=by
    have h1:=HJ.o;rw[xn (by omega),xn (by omega)]at h1;unfold aC;rw[h1];rfl
   obtain⟨⟨ea,ec,aL⟩,⟨qa,qc,aR⟩⟩:=HM.o.form;obtain⟨m0,m1,mf⟩:=HM.o.F;have KR:=aD ((HB.o.block w.heap.size (by omega)).trans K0);have r0:wr.cell? ⟨w.heap.size,0,G⟩=Y (C G 0 0):=by simp[x9,KR.o]
   have r1:wr.cell? ⟨w.heap.size,1,G⟩=Y (C G 0 0):=by simp[x9,KR.o]
   have rf:∀j,wr.frozen? ⟨w.heap.size,j,G⟩=L:=λj=>by simp[xe,KR.o]
   subst aL aR;have bp:¬(k:K)<J rss:=by omega
   go_wp2;obtain⟨s0,s1,s2⟩:=MT [C ea (J wd.E) ec,C qa (J wd.g) qc] KR Z;refine tS (p:=2) w.heap.size _ (by kernel_rfl) underlying80 Z (by kernel_rfl) Z (by exact s0) Z ⟨_,_,Z,?_,λy e=>by have:=(HM.o.rgs.lt y e).1;omega,s2 _ _ (xW _) b⟩;rw[<- HE.o];have e1:=bH HM.o.K λy e=>s1 y (by have:=(HM.o.K.lt y e).1;omega);refine⟨⟨e1.1,?_⟩,FT (bH HM.o.rgs λy e=>s1 y (by have:=(HM.o.rgs.lt y e).1;omega)) Z⟩
   rcases e1.2 with h0|⟨g',aF,T,e,bl,q⟩
   ·exact xF h0
   ·exact xR ⟨g',aF,T,e,x3 _,q⟩
def Tryz.infoRuns:(prog.info? 168).map (λi=>(i.zero,i.size,i.bytes))=Y (Y (C G 0 0),1,24):=by kernel_rfl
namespace Q
def Jc:∀(i:S) (b:U VZ),(fV i b).length=J b
 |_,[]=>Z
 |i,t::b=>by simp[fV,Jc (i+1) b]
theorem Jd:∀(i:S) (b:U VZ) (k:S) (h:k<J b),(fV i b).take (k+1)=(fV i b).take k++[iS b[k] (i+k)]
 |_,[],k,h=>by simp at h
 |i,t::b,0,h=>by simp[fV]
 |i,t::b,k+1,h=>by
  simp only[fV,List.take_succ_cons,xo,List.getElem_cons_succ];rw[Jd (i+1) b k (by simpa using h),show i+1+k=i+(k+1)by omega]
theorem kKu(b:U VZ)(k:S)(h:k<J b):(WL b).take (k+1)=(WL b).take k++[iS b[k] k]:=by
 grind [Jd,WL]
theorem OM(b:U VZ):(WL b).length=J b:=Jc 0 b
end Q
def Em.cR(h:Em w B v rs vs)(c:w.ownsRow B' t' sz' u n' xs')(e:209≠t')(j:180≠t')(b:w.grownBy w' u.ownBlock):Em w' B v rs vs :=
 ⟨(AV h.own c e b).1,h.len,λi m x p=>(AV (h.K i m x p) c j b).1⟩
def El.bD{q:ν}{p:σ ν}(h:El w B v rss vs wss)(y:Em w 0 u rs p)(c:w1.ownsRow B 168 1 q (J rss+1) (vs++[u]))(m:w.grownBy w1 v.ownBlock):El w1 B q (rss++[rs]) (vs++[u]) (wss++[p]):=by
 refine⟨by simpa using c,by simp[h.lv],by simp[h.lw],λi s x A e b=>?_⟩;by_cases hlt:i<J rss
 ·rw[xp (by rw[h.lv];exact hlt)]at e;rw[xp (by rw[h.lw];exact hlt)]at b;rw[List.getElem_append_left hlt];exact(h.U i hlt x A e b).cR h.own (by decide) (by decide) m
 ·simp at s;have j:i=J rss:=by omega
  subst j;rw[xq (by rw[h.lv];exact xW _),h.lv]at e;rw[xq (by rw[h.lw];exact xW _),h.lw]at b;simp at e b;subst e b;simp;exact y.cR h.own (by decide) (by decide) m
def El.cR(h:El w B v rss vs wss)(e:w.ownsRow B' t' sz' u n' xs')(j:168≠t')(m:209≠t')(p:180≠t')(c:w.grownBy w' u.ownBlock):El w' B v rss vs wss :=
 ⟨(AV h.own e j c).1,h.lv,h.lw,λi q x y s b=>(h.U i q x y s b).cR e m p c⟩
theorem Em.base(h:Em w B v rs vs):Em w 0 v rs vs:=by
 refine⟨⟨h.own.1,?_⟩,h.len,h.K⟩
 rcases h.own.2 with i|⟨m,b,c,e,j,q⟩
 ·exact xF i
 grind
def YM(rss:U (U Run)):U K:=rss.map λr=>(J r:K)
def zPf(w w':ξ)(rss:U (U Run))(e:Ending):Prop:=∃rv vs wss gb gd,e=D (.agg #[rv,VV gb (J rss) (J rss),VV gd (J rss) (J rss),z L])/\El w' 0 rv rss vs wss/\WO w' gb (YM rss)/\WO w' gd (hZ (J rss))/\w.heap.size<=gb/\w.heap.size<=gd/\gb≠gd/\ι w.heap.size w w'
theorem zGG(B bt ad:S)(A:U VZ)(w:ξ)(h:gF w B (VV bt (J A) ad) A)(hn:J A<20)(az:∀t∈A,(∀s∈t.S,ZR s)/\J t.S<900/\ZO t.S<100000):
  γ δ 54 #[.agg #[VV bt (J A) ad]] w λe w'=>zPf w w' (WL A) e:=by
 obtain⟨k0,k1,aO,(ar:aC _)⟩:=nZ w #[VV bt (J A) ad] #[C G 0 0,C G 0 0,C G 0 0,z L] 40 90;have HT:=aD h;have aE:=aD az;clear h az;go_in;go_upto_region 1 with fail
 generalize hE:(w.alloc (O #[VV bt (J A) ad] 40)).alloc (O #[C G 0 0,C G 0 0,C G 0 0,z L] 90)=W0 at*;have aU:=gE k0 0 _ Z;have l0:w.heap.size<W0.heap.size:=by omega
 have l1:w.heap.size+1<W0.heap.size:=by omega
 have aT:w.heap.size+2<=W0.heap.size:=by omega
 have K1:=aD k1;clear hE k0 k1 aO;go_wp2;go_loopw[3,4,11] (λa b j wr=>∃(k:S) (cv bv:ν) (vs:U ν) (wss:U (U ν)),k<=J A/\j=M N k/\a=cv/\b=bv/\aC (El wr W0.heap.size cv ((WL A).take k) vs wss)/\aC (wr.ownsRow W0.heap.size 3 1 bv k ((YM ((WL A).take k)).map (xa N)))/\aC (ι W0.heap.size W0 wr)) λ_ _ j _=>J A-(η j).toNat
 case atStart=>exact⟨0,_,_,[],[],x3 _,Z,Z,Z,⟨by grind [xd],Z,Z,λi h=>by simp at h⟩,by grind [aC,YM,xd],xg _ _⟩
 case round =>
  obtain⟨k,cv,bv,vs,wss,hk,rfl,am,ak,HC,HO,HB⟩:=hrel;have am:=am.symm;subst am;have ak:=ak.symm;subst ak;by_cases hlt:k<J A
  ·have aY:=lI hlt;obtain⟨ae,sa,sc,t0,t1,t2,ap⟩:=FK HT.o Z k hlt;have T:aC (ι w.heap.size w wr):=bT ar HB;have d0:=cK T ae t0;have d1:=cK T ae t1;have d2:=cK T ae t2;have be:=x8 ae T.o.size;have HS:=aD (kKu A k hlt);have ah:aC (w.ownsRow 0 137 11 (C sa A[k].S.length sc) A[k].S.length (mU A[k].S)):=by
    refine⟨ap.1,?_⟩
    rcases ap.2 with h0|⟨g',af,V,e,aI,q⟩
    ·exact xF h0
    grind
   have aa:=aE.o A[k] (x7 hlt);have F:((WL A).take k).length=k:=by grind [OM]
   clear t0 t1 t2 ap;generalize A[k]=t at*;have aF:aC ((wr.alloc (O #[M N t.block,M N t.i,C sa (J t.S) sc] 132)).ownsRow 0 137 11 (C sa (J t.S) sc) (J t.S) (mU t.S)):=bH ah λy e=>(x4 _ _ _ (by have:=(ah.o.lt y e).2;have:=T.o.size;omega)).trans (T.o.block y (ah.o.lt y e).2);go_upto_region 7 with(first|(go_at_call 91;refine(Xr k t (C sa (J t.S) sc) _ aF (by omega) aa.1 aa.2.1 aa.2.2).mono ?_;rintro e w1 ⟨mv,us,rfl,an,aw⟩))
   obtain⟨ma,mc,aL⟩:=an.form;have aq:ι wr.heap.size wr (wr.alloc (O #[M N t.block,M N t.i,C sa (J t.S) sc] 132)):=bB;have I:ι wr.heap.size wr w1:=bT aq aw;have bb:(iS t k).length<100000:=by have:=Ho t k (ZO t.S);unfold iS;omega
   generalize aZ:iS t k=mr at*;subst aL;have M1:=aD an.base;have B1:aC (ι W0.heap.size W0 w1):=bT HB I;have C1:=aD (HC.o.X I);have O1:aC (w1.ownsRow W0.heap.size 3 1 bv k ((YM ((WL A).take k)).map (xa N))):=bH HO λy e=>I.block y (HO.o.lt y e).2;have aH:W0.heap.size<=w1.heap.size:=B1.o.size;have aB:aC (((WL A).take k).length=k):=F;obtain⟨ca,cc,al⟩:∃a c,cv=C a k c:=by
    have H:=HC.o.own;rw[F]at H
    rcases H.2 with⟨e,h0⟩|⟨g',c,V,e,_⟩
    ·exact⟨G,0,by rw[e,h0]⟩
    ·exact⟨_,c,e⟩
   obtain⟨ba,bc,aj⟩:∃a c,bv=C a k c:=by
    rcases HO.o.2 with⟨e,h0⟩|⟨g',c,V,e,_⟩
    ·exact⟨G,0,by rw[e,h0]⟩
    ·exact⟨_,c,e⟩
   have ag:aC ((w1.alloc (O #[C ma (J mr) mc] 168)).ownsRow W0.heap.size 168 1 cv k vs):=by
    have H:=C1.o.own;rw[F]at H;exact bH H λy e=>x4 _ _ _ (H.lt y e).2
   clear F an aw I aq;subst al aj;go_upto_region 8 with(first|(at_builtin;refine wD Tryz.infoRuns underlying86 Z Z (.tmp 19) (.tmp 21) Z Z Z Z Z (by exact ag) (by omega) (by omega) ?_;intro gn cn w2 ab m av aR))
   have BA:ι w1.heap.size w1 (w1.alloc (O #[C ma (J mr) mc] 168)):=bB;have C2:aC (El w2 W0.heap.size (VV gn (k+1) cn) ((WL A).take (k+1)) (vs++[C ma (J mr) mc]) (wss++[us])):=by
    unfold aC;rw[HS.o];exact(C1.o.X BA).bD (M1.o.X BA) (by rw[aB.o];exact ab) m
   have O2:=AV (bH O1 λy e=>BA.block y (O1.o.lt y e).2) ag (by decide) m;have aV:w1.heap.size+1<=w2.heap.size:=by have:=m.size;simp at this;omega
   have B2:aC (ι W0.heap.size W0 w2):=(B1.o.alloc aH _).trans ⟨m.os,m.tape,m.output,m.size,λy hy=>m.block y (by simp;omega) λe=>by have:=(ag.o.lt y e.symm).1;omega⟩;have ai:aC ((w2.alloc (O #[M N (J mr:K)] 3)).ownsRow W0.heap.size 3 1 (C ba k bc) k ((YM ((WL A).take k)).map (xa N))):=bH O2.1 λy e=>x4 _ _ _ (O2.1.lt y e).2;clear ab m av O2 BA;go_wp2_with(first|(at_builtin;refine wD Tryz.YL underlying37 Z Z (.tmp 23) (.tmp 26) Z Z Z Z Z (by exact ai) (by omega) (by omega) ?_;intro g3 c3 w3 aN E aQ aS));have aA:ι w2.heap.size w2 (w2.alloc (O #[M N (J mr:K)] 3)):=bB;have C3:=aD ((C2.o.X aA).cR ai (by decide) (by decide) (by decide) E);have O3:aC (w3.ownsRow W0.heap.size 3 1 (VV g3 (k+1) c3) (k+1) ((YM ((WL A).take (k+1))).map (xa N))):=by
    grind [aC,YM]
   have B3:aC (ι W0.heap.size W0 w3):=(B2.o.alloc (by omega) _).trans ⟨E.os,E.tape,E.output,E.size,λy hy=>E.block y (by simp;omega) λe=>by have:=(ai.o.lt y e.symm).1;omega⟩
   grind [η]
  ·have ay:k=J A:=by omega
   have HL:aC ((YM (WL A)).length=(WL A).length):=by simp[aC,YM]
   have ac:=aD (OM A);have C0:aC (El wr W0.heap.size cv (WL A) vs wss):=by have H:=HC.o;rw[ay,xh (by rw[ac.o];exact xW _)]at H;exact H
   have O0:aC (YA wr bv (YM (WL A))):=by
    have H:=HO.o;rw[ay,xh (by rw[ac.o];exact xW _)]at H;exact FT H (by rw[HL.o,ac.o])
   obtain⟨ca,cc,al⟩:∃a c,cv=C a (WL A).length c:=by
    rcases C0.o.own.2 with⟨e,h0⟩|⟨g',c,V,e,_⟩
    ·grind
    ·exact⟨_,c,e⟩
   obtain⟨ba,bc,aj,_⟩:=O0.o.form;clear HC HO;subst al aj;go_wp2_with(first|(go_at_call 92;refine(QI _ (YM (WL A)) _ O0 (by rw[HL.o,ac.o];omega)).mono ?_;rintro e w2 ⟨v1,v2,v3,rfl,⟨gb,gd,rfl,rfl,rfl,aJ,aK,aW,aX,aM⟩,ax⟩;have B2:aC (ι W0.heap.size W0 w2):=bT HB ax;have K2:=aD ((B2.o.block _ l1).trans K1);obtain⟨t0,t1,t2,t3,tf,tl⟩:=IE K2;have IB:=aD aJ;have ID:=aD aK;have C2:=aD (C0.o.X ax);rw[HL.o]));obtain⟨s0,s1,s2⟩:=JK (s0:=C ca (WL A).length cc) (s1:=VV gb (WL A).length (WL A).length) (s2:=VV gd (WL A).length (WL A).length) (s3:=z L) K2;have bd:=HB.o.size;have au:=ID.o;rw[HL.o]at au;have ao:∀{B n sz:S} {t:TypeId} {v:ν} {xs:U ν},w2.ownsRow B t sz v n xs->t≠90->∀k,v.ownBlock=Y k->k≠w.heap.size+1:=λh ht k e e2=>gG h K2 ht (by rw[e,e2])
   refine tS (p:=2) (w.heap.size+1) _ (by kernel_rfl) underlying90 Z (by kernel_rfl) Z (by exact s0) Z ⟨_,vs,wss,gb,gd,Z,⟨?_,C2.o.lv,C2.o.lw,λi hi x xs hx aP=>?_⟩,IB.o.aG (s1 _ (by omega)),au.aG (s1 _ (by omega)),by omega,by omega,aM,s2 _ _ (by omega) (bT ar B2)⟩
   ·have H:=bH C2.o.own λk e=>s1 k (ao C2.o.own (by decide) k e);refine⟨H.1,?_⟩
    rcases H.2 with h0|⟨g',af,V,e,aI,q⟩
    ·exact xF h0
    ·exact xR ⟨g',af,V,e,x3 _,q⟩
   ·have hr:=C2.o.U i hi x xs hx aP;exact⟨bH hr.own λk e=>s1 k (ao hr.own (by decide) k e),hr.len,λj hj y hy=>bH (hr.K j hj y hy) λk e=>s1 k (ao (hr.K j hj y hy) (by decide) k e)⟩
def Tryz.infoEv:(prog.info? 180).map (λi=>(i.zero,i.size,i.bytes))=Y (Y (.agg (aK Ev.zero)),10,80):=by kernel_rfl
def zLY(n:S):(ψ (aK Ev.zero) (n*10)).size=n*10:=by simp[ψ]
theorem YG.qG{c:ω}(h:YG w (VV g n c) es)(e:w'.heap[g]?=w.heap[g]?)(_:True=True):YG w' (VV g n c) es:=bH h λk b=>by grind [x1]
namespace Q
def Az(es:U Ev):Prop:=∀e∈es,e.h<YC
theorem Az.ev(h:Az es)(k:ω)(b:k<J es):(Q.ev es k).h<YC:=by rw[fF es k b];exact h _ (x7 b)
end Q
theorem Ee.frame{a:FA}{r:ω}{c:ζ ν}(h:Ee w a f)(q:w.heap[r]?=Y (O c 85 (0,0)))(j:∀k,k≠r->w'.heap[k]?=w.heap[k]?):Ee w' a f:=by
 have R:∀{g:ω} {l:σ ω},Ec w g a.n l->Ec w' g a.n l:=λb=>⟨b.at_.aG (j _ λe=>by have:=KL b.at_ q (by decide);exact this e.symm),b.len,b.fits⟩
 refine⟨bH h.ev λk e=>j k ?_,h.len,h.n64,R h.r1,R h.r2,R h.r3,R h.r4,R h.r5,R h.r6,R h.r7,R h.r8,R h.r9⟩;intro i;subst i
 rcases h.ev.2 with⟨e1,_⟩|⟨s,m,p,e1,_,x,_⟩
 ·grind [x1]
 grind [x1]
structure FN(B:ω)(W0 w:ξ)(fb ge n:ω)(es:σ Ev)(c:ω->ν)(gs:σ ω):Prop where
 box:w.heap[fb]?=Y (O #[VV ge n n,c 1,c 2,c 3,c 4,c 5,c 6,c 7,c 8,c 9] 85 (0,0))
 ev:YG w (VV ge n n) es
 rel:∀g∈gs,Ec w g n (WY n)
 nd:gs.Nodup
 gt:∀g∈gs,B<=g
 be:ι B W0 w
 sb:B<=W0.heap.size/\B<=fb/\ge<fb
def FN.X{W0:ξ}{c:ω->ν}(h:FN B W0 w fb ge n es c gs)(b:ι w.heap.size w w'):FN B W0 w' fb ge n es c gs :=
 ⟨(b.block _ (dC h.box)).trans h.box,h.ev.X b,λg e=>(h.rel g e).X b,h.nd,h.gt,CH h.be h.sb.1 b,h.sb⟩
theorem FN.step{W0:ξ}{c:ω->ν}(h:FN B W0 w fb ge n es c gs)(q:ι w.heap.size w w')(E:w.heap.size<=g)(H:Ec w' g n (WY n))(F:J gs<9):FN B W0 (w'.setCell ⟨fb,J gs+1,G⟩ (VV g n n)) fb ge n es (λi=>if i=J gs+1 then VV g n n else c i) (gs++[g]):=by
 have f:=h.X q;have R:∀{x:ω},Ec w' x n (WY n)->Ec (w'.setCell ⟨fb,J gs+1,G⟩ (VV g n n)) x n (WY n):=λm=>⟨m.at_.aG (x6 _ _ _ _ λe=>KL m.at_ f.box (by decide) e.symm),m.len,m.fits⟩
 have s:=h.be.size;have A:=h.sb;refine⟨?_,f.ev.qG (x6 _ _ _ _ (by simp;omega)) Z,λx b=>?_,List.nodup_append.2 ⟨h.nd,by simp,λx b y I e=>?_⟩,λx b=>?_,f.be.setCell (p:=⟨fb,J gs+1,G⟩) h.sb.2.1 _,h.sb⟩
 ·rw[cI f.box];generalize(J gs)=k at*
  rcases CY (j:=k+1) (by omega)with e|e|e|e|e|e|e|e|e<;>cases e<;>rfl
 ·rcases List.mem_append.1 b with e|e
  ·exact R (f.rel x e)
  grind
 ·have:=(h.rel x b).lt
  grind
 ·rcases List.mem_append.1 b with e|e
  ·exact h.gt x e
  grind
abbrev uK(v:I):ζ I:=#[v,C G 0 0,C G 0 0,C G 0 0,C G 0 0,C G 0 0,C G 0 0,C G 0 0,C G 0 0,C G 0 0]
theorem zHA(v:ν)(es:σ Ev)(w:ξ)(he:YG w v es)(aI:0<J es)(hn:J es<=64)(aH:Az es):
  γ δ 96 #[v] w λe w'=>∃a,e=D (.agg (XP a))/\a.n=J es/\Ee w' a (WG es)/\ι w.heap.size w w':=by
 obtain⟨ea,n,ec,hl,rfl,ax⟩:∃ea n ec,J es=n/\v=C ea n ec/\(0<n->∃b,ea=Y ⟨b,0,G⟩/\b<w.heap.size):=by
  obtain⟨a,c,h1,h2⟩:=he.form
  grind
 obtain⟨i,rfl,au⟩:=ax (by omega);obtain⟨iz,hi,aM,aN,br⟩:=info_parts Tryz.infoEv;have bm:∀w,(xk 78 (M N (n:φ)) (M N (n:φ))).run δ w=.ok (VV w.heap.size n n) (w.alloc (O (ψ (aK Ev.zero) (n*10)) 180)):=λw=>by
  have h:=run_makeSlice (P:=δ) w 78 180 iz (.agg (aK Ev.zero)) underlying78 hi aM N N (n:φ) (n:φ) (by omega) (Int.le_refl _) (by grind) (by grind) (by omega);rw[aN]at h;have e:(Value.agg (aK Ev.zero)).cells=aK Ev.zero:=Z
  grind
 have aW:aC (WG es=(x2 n).foldl (vF es) (Ex.new es)):=by grind [aC,WG]
 have aX:aC (∀f k,vF es f k=(x2 n).foldl (λf q=>f.jJ k (Q.ev es k) q (Q.ev es q)) f):=λf k=>by grind [vF]
 obtain⟨k0,bq,ag⟩:=nY w (uK (C G 0 0)) 85;have ad:=aD ag;have aU:=aD (he.X ag);have aa:i<(w.alloc (O (uK (C G 0 0)) 85)).heap.size:=by omega
 have m:=aD hl;have ap:=aD he;have bc:=aD aH;have aG:n<=64:=by omega
 have bn:0<n:=by omega
 clear ag he hl hn aI aH;go_in;go_upto_region 2 with fail
 generalize hE:w.alloc (O (uK (C G 0 0)) 85)=W0 at*;have l0:w.heap.size<W0.heap.size:=by omega
 have aL:w.heap.size+1<=W0.heap.size:=by omega
 have K0:=aD k0;clear hE bq k0;have ah:(Builtin.copy_ #[78,78] 3 #[VV W0.heap.size n n,VV i n ec]).run δ ((W0.alloc (O (ψ (aK Ev.zero) (n*10)) 180)).alloc (O (uK (VV W0.heap.size n n)) 85))=.ok (goInt (Nat.min n n)) (((W0.alloc (O (ψ (aK Ev.zero) (n*10)) 180)).alloc (O (uK (VV W0.heap.size n n)) 85)).setCells W0.heap.size 0 (YD es)):=by
  have ac:((W0.alloc (O (ψ (aK Ev.zero) (n*10)) 180)).alloc (O (uK (VV W0.heap.size n n)) 85)).heap[W0.heap.size]?=Y (O (ψ (aK Ev.zero) (n*10)) 180 (0,0)):=by
   grind [x4,τ]
  refine Ub _ _ _ _ 180 _ _ _ _ _ _ _ 10 _ underlying78 (by kernel_rfl) (by rw[qT,m.o];simp) ?_ ?_ ?_ (Ua es)
  ·intro j u hu;have hj:j<n*10:=by have h1:=(List.getElem?_eq_some_iff.1 hu).1;rw[qT,m.o]at h1;exact h1
   have ea:(⟨i,0,G⟩:Addr).add j=⟨i,j,G⟩:=by grind [Addr.add]
   have h2:W0.cell? ⟨i,j,G⟩=(YD es)[j]?:=by
    have h3:=aU.o;unfold YG at h3;rw[m.o]at h3;exact h3.cellAt j hj
   rw[ea,<- hu,<- h2];simp only[x9];rw[x4 _ _ _ (by simp;omega),x4 _ _ _ aa]
  ·intro j hj;rw[qT,m.o]at hj
   simp_all [ψ]
  simp_all
 have aF:Nat.min n n=n:=Nat.min_self n;rw[aF]at ah;have H1:aC (∃E:ξ,E=((W0.alloc (O (ψ (aK Ev.zero) (n*10)) 180)).alloc (O (uK (VV W0.heap.size n n)) 85)).setCells W0.heap.size 0 (YD es)/\E.heap[W0.heap.size+1]?=Y (O (uK (VV W0.heap.size n n)) 85 (0,0))/\YG E (VV W0.heap.size n n) es/\ι W0.heap.size W0 E/\W0.heap.size+2<=E.heap.size):=by
  refine⟨_,Z,?_,?_,?_,?_⟩
  ·rw[EV _ _ _ _ _ (by omega)];have:=τ (W0.alloc (O (ψ (aK Ev.zero) (n*10)) 180)) (O (uK (VV W0.heap.size n n)) 85);simpa using this
  ·have ac:((W0.alloc (O (ψ (aK Ev.zero) (n*10)) 180)).alloc (O (uK (VV W0.heap.size n n)) 85)).heap[W0.heap.size]?=Y (O ((ψ (aK Ev.zero) (n*10)).toList.toArray) 180 (0,0)):=by
    rw[x4 _ _ _ (by simp)];simpa using τ W0 (O (ψ (aK Ev.zero) (n*10)) 180)
   have h1:=CM W0.heap.size 180 (0,0) (YD es) _ 0 _ ac;have h2:=OY (YD es) [] (ψ (aK Ev.zero) (n*10)).toList (by rw[qT,m.o,Array.length_toList,zLY]);simp only[xr,List.length_nil]at h2;rw[h2]at h1;refine⟨by rw[qT],xR ⟨W0.heap.size,n,(YD es).toArray,by rw[m.o],x3 _,h1,by rw[m.o];exact xW _,by unfold maxLen;omega,by simp[qT,m.o],by simp_all [xh,qT]⟩⟩
  ·exact Below.setCells (xW _) _ _ _ ((bB).alloc (by simp) _)
  ·rw[xX];simp
 obtain⟨E,ae,kb,ab,af,bp⟩:=H1.o;clear H1;rw[<- ae]at ah;go_upto_region 4 with fail
 (try rw[<- ae])
 have ai:aC (ι (w.heap.size+1) W0 E):=af.mono aL;generalize bt:W0.heap.size=ge at*;generalize bj:ge+1=fb at*;have bk:ge<fb:=by omega
 have al:=aD ab;have ar:=aD kb;have bs:=aD af;clear kb ab af bp ah ae bm hi aM aN br aa bj;have x:aC (FN (w.heap.size+1) W0 E fb ge n es (λ_=>C G 0 0) []):=⟨ar,al,λg hg=>(by cases hg),List.nodup_nil,λg hg=>(by cases hg),ai,by omega,by omega,bk⟩;clear ar al ai;obtain⟨y0,yf,yl⟩:=NY x.o.box;go_upto_region 13 with(first|(go_at_call 98;refine(yA n _ aG).mono ?_;rintro e w1 ⟨A,rfl,aJ,aA,aE,az,hb⟩;obtain⟨y0,yf,yl⟩:=NY (x.o.X hb).box;have x:=aD (x.o.step hb aA (Ec.mk aJ aE az) (by simp));clear aJ aA aE az hb))
 refine jD (λV=>∃A F H I K S T U g9,Ed V fb (FA.mk n (VV ge n n) A F H I K S T U g9) (Ex.new es)/\(∀g∈[A,F,H,I,K,S,T,U,g9],w.heap.size+1<=g)/\ι (w.heap.size+1) W0 V) ?_ ?_
 ·have hl:=m.o;subst hl;have R:=x.o.rel;simp only[xr,xo,List.mem_cons,List.mem_nil_iff,or_false,forall_eq_or_imp,forall_eq]at R;obtain⟨r1,r2,r3,r4,r5,r6,r7,r8,r9⟩:=R;exact⟨_,_,_,_,_,_,_,_,_,⟨x.o.box,⟨x.o.ev,m,aG,r1,r2,r3,r4,r5,r6,r7,r8,r9⟩,x.o.nd⟩,x.o.gt,x.o.be⟩
 rintro V9 ⟨A,F,H,I,K,S,T,U,g9,fm,bh,bb⟩;have FM:=aD fm;have aP:=aD bb;clear y0 yf yl fm bb;clear x ax;go_wp2;go_loopw[47] (λj wr=>∃(k:ω) (f:Ex),k<=n/\j=M N k/\aC (f=(x2 k).foldl (vF es) (Ex.new es))/\aC (Ed wr fb (FA.mk n (VV ge n n) A F H I K S T U g9) f)/\aC (ι (w.heap.size+1) W0 wr)) λj _=>n-(η j).toNat
 case atStart=>exact⟨0,_,x3 _,Z,Z,FM,aP⟩
 case round =>
  obtain⟨k,f,hk,rfl,HT,HI,s⟩:=hrel;by_cases hlt:k<n
  ·have bu:=lI hlt;have aB:k<J es:=by rw[m.o];exact hlt
   have aq:aC (wr.rangeAt i (k*10) (aK (Q.ev es k)).toList):=lC (ap.o.cZ m.o.symm k aB) ((s.o.block i (by omega)).trans (ad.o.block i au));have aY:=bc.o.ev k aB;have bf:aC ((x2 (k+1)).foldl (vF es) (Ex.new es)=(x2 n).foldl (λf q=>f.jJ k (Q.ev es k) q (Q.ev es q)) f):=by unfold aC;rw[jT,<- HT.o];exact aX f k
   have aO:i<wr.heap.size:=by have:=s.o.size;omega
   generalize Q.ev es k=e1 at*;have an:aC (WN (wr.alloc (O (aK e1) 180)) wr.heap.size e1):=WN.new wr e1;have am:=aD (HI.o.X ((xg _ _).alloc (xW _) (O (aK e1) 180)));have aj:aC (ι (w.heap.size+1) W0 (wr.alloc (O (aK e1) 180))):=s.o.alloc (by have:=s.o.size;omega) _;go_wp2_with(first|(refine jQ (.tmp 50) Z Z i (k*10) e1 Z aq ?_));go_loopw[54] (λj wq=>∃(q:ω) (u:Ex),q<=n/\j=M N q/\aC (u=(x2 q).foldl (λf q=>f.jJ k e1 q (Q.ev es q)) f)/\aC (Ed wq fb (FA.mk n (VV ge n n) A F H I K S T U g9) u)/\aC (ι (w.heap.size+1) W0 wq)/\aC (WN wq wr.heap.size e1)) λj _=>n-(η j).toNat
   case atStart=>exact⟨0,f,x3 _,Z,Z,am,aj,an⟩
   case round =>
    clear an am aj aq aO;obtain⟨q,u,hq,rfl,HU,HJ,y,HA⟩:=hrel;by_cases hql:q<n
    ·have bv:=lI hql;have bo:q<J es:=by rw[m.o];exact hql
     have bd:aC (wr.rangeAt i (q*10) (aK (Q.ev es q)).toList):=lC (ap.o.cZ m.o.symm q bo) ((y.o.block i (by omega)).trans (ad.o.block i au));have bg:aC ((x2 (q+1)).foldl (λf q=>f.jJ k e1 q (Q.ev es q)) f=u.jJ k e1 q (Q.ev es q)):=by unfold aC;rw[jT,<- HU.o]
     have aO:i<wr.heap.size:=by have:=y.o.size;omega
     generalize Q.ev es q=e2 at*;have aR:=aD (HJ.o.X ((xg _ _).alloc (xW _) (O (aK e2) 180)));have ao:=aD (HA.o.alloc (O (aK e2) 180));have aS:=aD (WN.new wr e2);have ak:aC (ι (w.heap.size+1) W0 (wr.alloc (O (aK e2) 180))):=y.o.alloc (by have:=y.o.size;omega) _;have bi:w.heap.size+1<=(wr.alloc (O (aK e2) 180)).heap.size:=by have:=ak.o.size;omega
     obtain⟨x0,xf,xl⟩:=ao.o.fs;obtain⟨y0,yf,yl⟩:=aS.o.fs;simp only[aK]at x0 xf xl y0 yf yl;go_wp2_with(first|(refine jQ (.tmp 57) Z Z i (q*10) e2 Z bd ?_)|(go_at_call 137;refine(Vw (w.heap.size+1) fb (FA.mk n (VV ge n n) A F H I K S T U g9) u k q e1 e2 _ aR bi bh aY (by omega) (by omega)).mono ?_;rintro e wc ⟨rfl,hm,av,ay⟩;have aZ:=aD hm;have aQ:=aD (ak.o.trans av);have aT:=aD (ay _ _ ao);clear hm av ay));go_roundw;exact⟨q+1,_,by omega,by go_num,bg.o.symm,aZ,aQ,aT⟩;simp[η];omega
    ·have ba:aC (u=(x2 (k+1)).foldl (vF es) (Ex.new es)):=by unfold aC;rw[bf.o,HU.o,show q=n by omega]
     go_wp2;go_roundw;exact⟨k+1,u,by omega,by go_num,ba,HJ,y⟩;simp[η];omega
  ·have bl:k=n:=by omega
   have aV:aC (f=WG es):=by unfold aC;rw[aW.o,HT.o,bl]
   have aw:=HI.o.box;have KR:=aD ((s.o.block _ (by omega)).trans K0);obtain⟨y0,yf,yl⟩:=NY aw;obtain⟨z0,zf,zl⟩:=NY KR;simp only[XP]at y0;clear aw;go_wp2;obtain⟨t0,t1,t2⟩:=MT (XP (FA.mk n (VV ge n n) A F H I K S T U g9)).toList KR Z;refine tS (p:=2) w.heap.size _ (by kernel_rfl) underlying85 Z (by kernel_rfl) Z (by exact t0) Z ⟨FA.mk n (VV ge n n) A F H I K S T U g9,Z,m.o.symm,?_,?_⟩
   ·rw[<- aV.o];exact HI.o.fin.frame KR t1
   ·exact t2 _ _ (xW _) (ad.o.trans (s.o.mono (by omega)))
def Box(w:ξ)(gc:S):Prop:=∃c,w.heap[gc]?=Y (O c 94 (0,0))/\c.size=22
def Box.lt(h:Box w gc):gc<w.heap.size:=by
 obtain⟨c,b,_⟩:=h;exact dC b
def Box.of(h:Box w gc)(e:w'.heap[gc]?=w.heap[gc]?):Box w' gc:=by
 obtain⟨c,b,i⟩:=h;exact⟨c,e.trans b,i⟩
def Box.X(h:Box w gc)(b:ι w.heap.size w w'):Box w' gc:=h.of (b.block _ h.lt)
def Box.dK{gd:ω}(h:Box w gc)(j:Eo w w' gc o gd):Box w' gc:=by
 obtain⟨c,e,m⟩:=h;obtain⟨b,i,p⟩:=j.shape _ _ _ e;exact⟨b,i,by omega⟩
def Box.free(h:Box w gc)(j:ω):w.frozen? ⟨gc,j,G⟩=L:=by
 obtain⟨c,b,_⟩:=h;simp[xe,b]
theorem Box.there(h:Box w gc)(o n:ω)(i:o+n<=22):w.there gc o n:=by
 obtain⟨c,b,e⟩:=h
 grind [DU]
theorem Box.set(h:Box w gc)(o:ω)(vs:σ ν)(p:o+J vs<=22):
  Box (w.setCells gc o vs) gc/\(w.setCells gc o vs).rangeAt gc o vs/\(∀j,j<o\/o+J vs<=j->(w.setCells gc o vs).cell? ⟨gc,j,G⟩=w.cell? ⟨gc,j,G⟩)/\∀k,k≠gc->(w.setCells gc o vs).heap[k]?=w.heap[k]?:=by
 refine⟨?_,World.rangeAt_setCells_same w gc o vs (h.there o (J vs) p),λj q=>?_,λk m=>EV gc vs o w k m⟩
 ·obtain⟨c,b,e⟩:=h;exact⟨_,GR vs o w c b,by grind [N8]⟩
 ·obtain⟨c,b,e⟩:=h;have i:=GR vs o w c b;simp only[x9,b,i]
  grind [Bc]
theorem WsOn.eX{gd:ω}{rest:σ (σ φ)}(h:WsOn w g o rv vs wss gb gd rss ds rest)(hg:w.heap[g]?=Y (O cc tg (0,0)))(T:168≠tg)(V:209≠tg)(X:180≠tg)(c:∀j,o<=j->j<o+4->w'.cell? ⟨g,j,G⟩=w.cell? ⟨g,j,G⟩)(hf:∀j,w'.frozen? ⟨g,j,G⟩=L)(m:∀k,k≠g->w'.heap[k]?=w.heap[k]?)(hs:w.heap.size<=w'.heap.size):WsOn w' g o rv vs wss gb gd rss ds rest:=by
 obtain⟨b,⟨y,H,I,cf,cl,S,cd,A,E,n3,n4⟩,h5⟩:=h.XY;have p:∀{B n sz:ω} {t:TypeId} {v:ν} {F:σ ν},w.ownsRow B t sz v n F->t≠tg->w'.ownsRow B t sz v n F:=λh ht=>bH h λk e=>m k λe2=>gG h hg ht (by rw[e,e2])
 refine⟨(c o (by omega) (by omega)).trans h.c0,⟨p h.U.own T,h.U.lv,h.U.lw,λi hi u us hu s=>?_⟩,b,⟨(c _ (by omega) (by omega)).trans y,(c _ (by omega) (by omega)).trans H,(c _ (by omega) (by omega)).trans I,hf,by omega,S.aG (m _ λe=>E e.symm),cd.aG (m _ λe=>A e.symm),A,E,n3,n4⟩,h5⟩;have q:=h.U.U i hi u us hu s;exact⟨p q.own V,q.len,λj hj x hx=>p (q.K j hj x hx) X⟩
structure WA where
 rv:ν
 vs:σ ν
 wss:σ (σ ν)
 gb:ω
 gd:ω
structure RA where
 ev:ν
 rg:ν
 fa:FA
 cv:ν
 cvs:σ ν
 gb:ω
 gd:ω
def WA.on(A:WA)(w:ξ)(gc:ω)(rss:σ (σ Run))(ds:σ φ)(rest:σ (σ φ)):Prop:=WsOn w gc 13 A.rv A.vs A.wss A.gb A.gd rss ds rest
structure RA.on(R:RA)(w:ξ)(gc:ω)(A:WA)(wd:Q.Wd)(ds:σ φ)(rest:σ (σ φ)):Prop where
 c0:w.cell? ⟨gc,0,G⟩=Y R.ev
 c1:w.cell? ⟨gc,1,G⟩=Y R.rg
 wdi:YU w R.ev R.rg wd
 fc:w.rangeAt gc 2 (XP R.fa).toList
 fin:Ee w R.fa (WG wd.E)
 rd:RdOn w gc 17 R.cv R.cvs R.gb R.gd (WC wd.E) ds rest
 n1:A.gb≠R.gd
 n2:A.gd≠R.gd
 n3:R.rg.ownBlock≠Y R.gd/\R.rg.ownBlock≠Y gc
def RA.nb(R:RA)(k:ω):Prop:=R.rg.ownBlock=Y k\/R.cv.ownBlock=Y k\/(∃u∈R.cvs,u.ownBlock=Y k)\/k=R.gb\/k=R.gd
namespace Q
structure WdOk(wd:Wd):Prop where
 pos:0<J wd.E
 le:J wd.E<=64
 h:Az wd.E
 g:J wd.g<100
 vals:∀x∈wd.g,0<=x/\x<4
 evals:∀e∈wd.E,0<=e.value/\e.value<4
 fo:(XH (XR wd.E (XD wd.E))).length<100000000
def GD(wd:Wd):U (Wd×U K):=(XH (YO (WC wd.E))).map λr=>(wd,r)
def Je(es:U Ev):(WC es).length=J es:=by simp[WC]
theorem kHi(es:U Ev)(i:S)(h:J es<=64):(pI es i).length<=64:=by
 grind [pI]
theorem Jf(es:U Ev)(h:J es<=64):∀c∈WC es,J c<=64:=by
 grind [WC,kHi]
theorem kLk(es:U Ev)(h:J es<=64):∀b∈YO (WC es),b<1000000000:=by
 grind [YO,Jf]
end Q
structure RS where
 R:RA
 wd:Q.Wd
 ds:σ φ
 rest:σ (σ φ)
def fP(rss:U (U Run))(st:ρ RS)(rest:U (U K)):U (Q.Wd×U K):=
 (match st with|none=>[]|some s=>s.rest.map λr=>(s.wd,r))++rest.flatMap λd=>GD (XV rss d)
def nbS(st:ρ RS)(k:S):Prop:=∃s,st=Y s/\s.R.nb k
def gdS(st:ρ RS)(k:S):Prop:=∃s,st=Y s/\k=s.R.gd
structure Ej(w w':ξ)(gc:ω)(A:WA)(st:ρ RS):Prop where
 os:w'.os=w.os
 tape:w'.tape=w.tape
 output:w'.output=w.output
 size:w.heap.size<=w'.heap.size
 block:∀k,k<w.heap.size->k≠gc->k≠A.gd->¬gdS st k->w'.heap[k]?=w.heap[k]?
def Ej.refl(w:ξ)(gc:ω)(A:WA)(b:ρ RS):Ej w w gc A b:=⟨Z,Z,Z,xW _,λ_ _ _ _ _=>Z⟩
def Ej.X{A:WA}{e:ρ RS}(h:Ej w w1 gc A e)(b:ι w1.heap.size w1 w2):Ej w w2 gc A e :=
 ⟨b.os.trans h.os,b.tape.trans h.tape,b.output.trans h.output,x5 h.size b.size,λk c i j m=>(b.block k (x8 c h.size)).trans (h.block k c i j m)⟩
theorem Ej.dK{gd:ω}{A:WA}{c:ρ RS}(h:Ej w w1 gc A c)(b:Eo w1 w2 gc o gd)(q:gd=A.gd\/gdS c gd\/w.heap.size<=gd):Ej w w2 gc A c :=
 ⟨b.os.trans h.os,b.tape.trans h.tape,b.output.trans h.output,by rw[b.size];exact h.size,λk j i m p=>(b.block k i λe=>by
  grind).trans (h.block k j i m p)⟩
def Ej.set{A:WA}{e:ρ RS}(h:Ej w w1 gc A e)(o:ω)(vs:σ ν):Ej w (w1.setCells gc o vs) gc A e:=by
 have b:=SV (g:=gc) vs o w1;exact⟨b.os.trans h.os,b.tape.trans h.tape,b.output.trans h.output,by rw[xX];exact h.size,λk i c j m=>(EV gc vs o w1 k c).trans (h.block k i c j m)⟩
theorem Ej.trans{A:WA}{i c:ρ RS}(h:Ej w w1 gc A i)(b:Ej w1 w2 gc A c)(s:∀k,gdS c k->gdS i k\/w.heap.size<=k):Ej w w2 gc A i :=
 ⟨b.os.trans h.os,b.tape.trans h.tape,b.output.trans h.output,x5 h.size b.size,λk j m p q=>(b.block k (x8 j h.size) m p λe=>by
  grind).trans (h.block k j m p q)⟩
structure En(w:ξ)(gc:ω)(A:WA)(rss:σ (σ Run))(st:ρ RS)(ds:σ φ)(rest:σ (σ φ)):Prop where
 box:Box w gc
 ws:A.on w gc rss ds rest
 beg:w.cell? ⟨gc,21,G⟩=Y (z st.isSome)
 rs:∀s,st=Y s->s.R.on w gc A s.wd s.ds s.rest/\WdOk s.wd
def WA.on.X{A:WA}{rest:σ (σ φ)}(h:A.on w gc rss ds rest)(b:ι w.heap.size w w'):A.on w' gc rss ds rest:=WsOn.X h b
def Jg(h:w.rangeAt g o l)(b:ι w.heap.size w w')(c:g<w.heap.size):w'.rangeAt g o l:=lC h (b.block g c)
def RA.on.X{R:RA}{A:WA}{rest:σ (σ φ)}(h:R.on w gc A wd ds rest)(c:ι w.heap.size w w'):R.on w' gc A wd ds rest:=by
 obtain⟨b,i⟩:=h.rd.XY.XY;have e:=i.lt;exact⟨(c.cell e).trans h.c0,(c.cell e).trans h.c1,h.wdi.X c,Jg h.fc c e,h.fin.X c,h.rd.X c,h.n1,h.n2,h.n3⟩
def En.X{A:WA}{e:ρ RS}{rest:σ (σ φ)}(h:En w gc A rss e ds rest)(b:ι w.heap.size w w'):En w' gc A rss e ds rest :=
 ⟨h.box.X b,h.ws.X b,(b.cell h.box.lt).trans h.beg,λs c=>⟨(h.rs s c).1.X b,(h.rs s c).2⟩⟩
theorem JY(I:ξ->S->Prop):∃ μ:ξ->S,∀w,(∃n,I w n)->I w (μ w)/\∀m,I w m->μ w<=m:=by
 have e:∀P:S->Prop,(∃n,P n)->∃n,P n/\∀m,P m->n<=m:=by
  intro P c;obtain⟨n,i⟩:=c
  induction n using Nat.strongRecOn with
  |ind n ih =>
   grind
 have b:∀w,∃n,(∃n,I w n)->I w n/\∀m,I w m->n<=m:=λw=>by
  by_cases h:∃n,I w n
  ·grind
  simp_all
 exact⟨λw=>Classical.choose (b w),λw=>Classical.choose_spec (b w)⟩
structure CandW(w:ξ)(gc:ω)(A:WA)(rss:σ (σ Run))(ds:σ φ)(rest:σ (σ φ)):Prop where
 box:Box w gc
 ws:A.on w gc rss ds rest
 beg:∃b,w.cell? ⟨gc,21,G⟩=Y (z b)
def Jh(w w':ξ)(gc:S)(A:WA)(rss:U (U Run))(st:ρ RS)(rem:U (Q.Wd×U K))(b:Bool):Prop :=
 Ej w w' gc A st/\(b=L/\rem=[]\/b=true/\∃s ds rest,En w' gc A rss (Y s) ds rest/\rem=(s.wd,s.ds)::fP rss (Y s) rest/\YK (YO (WC s.wd.E)) s.ds/\(∀k,s.R.nb k->nbS st k\/w.heap.size<=k)/\(gdS st s.R.gd\/w.heap.size<=s.R.gd))
def Ji{A:WA}{rest:U (U φ)}{gd:ω}(h:A.on w gc rss ds rest)(c:Eo w w' gc 18 gd)(S:Box w gc)(H:A.gb≠gd)(I:A.gd≠gd)(T:w.heap[gd]?=Y (O cd 3 (0,0))):A.on w' gc rss ds rest:=by
 obtain⟨b,⟨p,x,y,F,cl,E,i,q,s,V,X⟩,K⟩:=h.XY;obtain⟨cc,m,_⟩:=S;exact⟨(c.cell _ (by omega)).trans h.c0,El.dK h.U c m (by decide) (by decide) (by decide) T,b,⟨(c.cell _ (by omega)).trans p,(c.cell _ (by omega)).trans x,(c.cell _ (by omega)).trans y,λj=>(c.froz j).trans (F j),by rw[c.size];exact cl,E.aG (c.block _ (λe=>s e.symm) H),i.aG (c.block _ (λe=>q e.symm) I),q,s,V,X⟩,K⟩
def zNr{gd:S}{ev:I}(h:YU w ev rg wd)(b:Eo w w' gc o gd)(c:w.heap[gc]?=Y (O cc 94 (0,0)))(j:w.heap[gd]?=Y (O cd 3 (0,0)))(i:rg.ownBlock≠Y gd/\rg.ownBlock≠Y gc):YU w' ev rg wd :=
 ⟨IN h.K b c (by decide) j (by decide),h.g.own w' (λk e=>b.block k (λe2=>i.2 (by rw[e,e2])) λe2=>i.1 (by rw[e,e2])) (by rw[b.size];exact xW _)⟩
theorem wW{l:U S}{c:ζ I}(h:XA w g l)(b:w.heap[k]?=Y (O c t (0,0)))(i:178≠t):g≠k:=λe=>by
 grind [XA]
def Ee.off{a:FA}(h:Ee w a f)(c:∀g l,XA w g l->w'.heap[g]?=w.heap[g]?)(b:YG w' a.ev f.E):Ee w' a f :=
 have K:∀{g n l},Ec w g n l->Ec w' g n l:=λ{g n l} h=>⟨h.at_.aG (c g l h.at_),h.len,h.fits⟩
 ⟨b,h.len,h.n64,K h.r1,K h.r2,K h.r3,K h.r4,K h.r5,K h.r6,K h.r7,K h.r8,K h.r9⟩
def zLZ{gd:S}{a:FA}(h:Ee w a f)(c:Eo w w' gc o gd)(b:w.heap[gc]?=Y (O cc 94 (0,0)))(e:w.heap[gd]?=Y (O cd 3 (0,0))):Ee w' a f :=
 h.off (λg l i=>c.block g (wW i b (by decide)) (wW i e (by decide))) (IN h.ev c b (by decide) e (by decide))
def zJn{gd p:S}(h:w.rangeAt gc p l)(c:Eo w w' gc o gd)(i:p+J l<=o+2):w'.rangeAt gc p l:=λj u b=>by
 have e:j<J l:=(List.getElem?_eq_some_iff.1 b).1;rw[<- h j u b];exact c.cell _ (by simp;omega)
def CA(w:ξ)(gc:S)(A:WA)(rss:U (U Run))(st:ρ RS)(R0:U (Q.Wd×U K))(wr:ξ)(n:S):Prop :=
 ∃st1 ds1 rest1,En wr gc A rss st1 ds1 rest1/\fP rss st1 rest1=R0/\J rest1=n/\Ej w wr gc A st/\(∀k,nbS st1 k->nbS st k\/w.heap.size<=k)/\∀k,gdS st1 k->gdS st k\/w.heap.size<=k
theorem CA.some{wr:ξ}{A:WA}{y:ρ RS}{S:σ (Q.Wd×σ φ)}{s:RS}{m:σ φ}{e:σ (σ φ)}(j:En wr gc A rss (Y s) m e)(hR:fP rss (Y s) e=S)(X:Ej w wr gc A y)(T:(∀k,nbS (Y s) k->nbS y k\/w.heap.size<=k)/\∀k,gdS (Y s) k->gdS y k\/w.heap.size<=k){q:σ (σ φ)}(i:Eo wr w2 gc 18 s.R.gd)(hr:s.rest=r::q)(K:RdOn w2 gc 17 s.R.cv s.R.cvs s.R.gb s.R.gd (WC s.wd.E) r q)(U:YK (YO (WC s.wd.E)) r)(F:Ej w w2 gc A y):Jh w w2 gc A rss y S true:=by
 obtain⟨c,I⟩:=j.rs s Z;obtain⟨cc,p,_⟩:=id j.box;obtain⟨b,H⟩:=c.rd.XY.XY;refine⟨F,xR ⟨Z,⟨s.R,s.wd,r,q⟩,m,e,⟨j.box.dK i,Ji j.ws i j.box c.n1 c.n2 H.digits,(i.cell _ (by omega)).trans j.beg,?_⟩,?_,U,λk V=>T.1 k ⟨s,Z,V⟩,T.2 _ ⟨s,Z,Z⟩⟩⟩
 ·intro s' x;simp only[Option.some.injEq]at x;subst x;exact⟨⟨(i.cell _ (by omega)).trans c.c0,(i.cell _ (by omega)).trans c.c1,zNr c.wdi i p H.digits c.n3,zJn c.fc i (by simp[XP]),zLZ c.fin i p H.digits,K,c.n1,c.n2,c.n3⟩,I⟩
 grind [fP]
structure CW(w0 w:ξ)(gc:ω)(A:WA)(rss:σ (σ Run))(st:ρ RS)(d:σ φ)(q:σ (σ φ)):Prop where
 box:Box w gc
 ws:A.on w gc rss d q
 beg:w.cell? ⟨gc,21,G⟩=Y (z true)
 fr:Ej w0 w gc A st
def CW.X{A:WA}{c:ρ RS}{q:σ (σ φ)}(h:CW w0 w gc A rss c d q)(b:ι w.heap.size w w'):CW w0 w' gc A rss c d q :=
 ⟨h.box.X b,h.ws.X b,(b.cell h.box.lt).trans h.beg,h.fr.X b⟩
def CW.set{A:WA}{i:ρ RS}{q:σ (σ φ)}(h:CW w0 w gc A rss i d q)(o:ω)(vs:σ ν)(x:o+J vs<=13\/17<=o/\o+J vs<=21):CW w0 (w.setCells gc o vs) gc A rss i d q:=by
 obtain⟨c,y,e,m⟩:=h.box.set o vs (by omega);obtain⟨cc,b,_⟩:=id h.box;exact⟨c,WsOn.eX h.ws b (by decide) (by decide) (by decide) (λj p s=>e j (by omega)) (λj=>c.free j) m (by rw[xX];exact xW _),(e 21 (by omega)).trans h.beg,h.fr.set o vs⟩
def CW.start{A:WA}{i:ρ RS}{q:σ (σ φ)}(e:Box w gc)(p:A.on w gc rss d q)(m:Ej w0 w gc A i):CW w0 (w.setCell ⟨gc,21,G⟩ (z true)) gc A rss i d q:=by
 obtain⟨c,y,x,s⟩:=e.set 21 [z true] (by decide);obtain⟨cc,b,_⟩:=id e;exact⟨c,WsOn.eX p b (by decide) (by decide) (by decide) (λj E F=>x j (xF (by omega))) (λj=>c.free j) s (by simp),y 0 _ Z,m.set 21 [z true]⟩
structure CW1(w:ξ)(gc:ω)(ev rg:ν)(wd:Q.Wd):Prop where
 c0:w.cell? ⟨gc,0,G⟩=Y ev
 c1:w.cell? ⟨gc,1,G⟩=Y rg
 wdi:YU w ev rg wd
 ne:rg.ownBlock≠Y gc
def CW1.X{ev:ν}(h:CW1 w gc ev rg wd)(c:Box w gc)(b:ι w.heap.size w w'):CW1 w' gc ev rg wd :=
 ⟨(b.cell c.lt).trans h.c0,(b.cell c.lt).trans h.c1,h.wdi.X b,h.ne⟩
def VD{ev:I}(h:YU w ev rg wd)(ne:rg.ownBlock≠Y gc)(c:Box w gc)(o:S)(vs:U I)(j:o+J vs<=22):YU (w.setCells gc o vs) ev rg wd:=by
 obtain⟨m,q,p,i⟩:=c.set o vs j;obtain⟨cc,b,_⟩:=id c;exact⟨bH h.K λk e=>i k λe2=>gG h.K b (by decide) (by rw[e,e2]),h.g.own _ (λk e=>i k λe2=>ne (by rw[e,e2])) (by rw[xX];exact xW _)⟩
def CW1.set{ev:ν}(h:CW1 w gc ev rg wd)(b:Box w gc)(o:ω)(vs:σ ν)(c:o+J vs<=22)(j:2<=o):CW1 (w.setCells gc o vs) gc ev rg wd:=by
 obtain⟨i,p,e,m⟩:=b.set o vs c;exact⟨(e 0 (xF (by omega))).trans h.c0,(e 1 (xF (by omega))).trans h.c1,VD h.wdi h.ne b o vs c,h.ne⟩
def CW1.start{ev:ν}(h:YU w ev rg wd)(ne:rg.ownBlock≠Y gc)(b:Box w gc):CW1 (w.setCells gc 0 [ev,rg]) gc ev rg wd:=by
 obtain⟨e,c,j,i⟩:=b.set 0 [ev,rg] (by simp);exact⟨c 0 _ Z,c 1 _ Z,VD h ne b 0 [ev,rg] (by simp),ne⟩
structure CW2(w:ξ)(gc:ω)(fa:FA)(es:σ Ev):Prop where
 fc:w.rangeAt gc 2 (XP fa).toList
 fin:Ee w fa (WG es)
def CW2.X(h:CW2 w gc fa es)(c:Box w gc)(b:ι w.heap.size w w'):CW2 w' gc fa es:=⟨Jg h.fc b c.lt,h.fin.X b⟩
def PG(h:Ee w fa f)(c:Box w gc)(o:S)(vs:U I)(j:o+J vs<=22):Ee (w.setCells gc o vs) fa f:=by
 obtain⟨m,q,p,i⟩:=c.set o vs j;obtain⟨cc,b,_⟩:=id c;exact h.off (λg l c=>i g (wW c b (by decide))) (bH h.ev λk e=>i k λe2=>gG h.ev b (by decide) (by rw[e,e2]))
def CW2.start(h:Ee w fa (WG es))(b:Box w gc):CW2 (w.setCells gc 2 (XP fa).toList) gc fa es:=by
 obtain⟨e,c,j,i⟩:=b.set 2 (XP fa).toList (by simp[XP]);exact⟨c,PG h b 2 _ (by simp[XP])⟩
def CW2.set(h:CW2 w gc fa es)(b:Box w gc)(o:ω)(vs:σ ν)(c:o+J vs<=22)(e:12<=o):CW2 (w.setCells gc o vs) gc fa es :=
 ⟨World.rangeAt_setCells_apart h.fc gc o vs (xR (xF (by simp[XP];omega))),PG h.fin b o vs c⟩
theorem zMa{A:WA}{st:ρ RS}{q:σ (σ φ)}{ev:ν}{b:ρ Addr}{c gd:ω}{m:σ ν}(h:CW w0 w gc A rss st d q)(h1:CW1 w gc ev rg wd)(h2:CW2 w gc fa wd.E)(j:XB w sz (C b (WC wd.E).length c) (WC wd.E) m)(S:WO w gb (YO (WC wd.E)))(af:WO w gd (hZ (WC wd.E).length))(ac:sz<=gb)(ad:sz<=gd)(H:gb≠gd)(I:(Value.slice b (WC wd.E).length c).ownBlock≠Y gd)(ab:∀u∈m,∀k,u.ownBlock=Y k->sz<=k/\k≠gd)(ah:gc<sz)(hA:A.gb<sz/\A.gd<sz)(ag:∀k,rg.ownBlock=Y k->k<sz)(T:WdOk wd):
  En (w.setCells gc 17 [C b (WC wd.E).length c,VV gb (WC wd.E).length (WC wd.E).length,VV gd (WC wd.E).length (WC wd.E).length,z L]) gc A rss (Y ⟨⟨ev,rg,fa,C b (WC wd.E).length c,m,gb,gd⟩,wd,hZ (WC wd.E).length,XH (YO (WC wd.E))⟩) d q:=by
 have g:=h.set 17 [C b (WC wd.E).length c,VV gb (WC wd.E).length (WC wd.E).length,VV gd (WC wd.E).length (WC wd.E).length,z L] (xR (by simp));have p:=h1.set h.box 17 [C b (WC wd.E).length c,VV gb (WC wd.E).length (WC wd.E).length,VV gd (WC wd.E).length (WC wd.E).length,z L] (by simp) (by decide);have X:=h2.set h.box 17 [C b (WC wd.E).length c,VV gb (WC wd.E).length (WC wd.E).length,VV gd (WC wd.E).length (WC wd.E).length,z L] (by simp) (by decide);obtain⟨b6,F,o6,U⟩:=h.box.set 17 [C b (WC wd.E).length c,VV gb (WC wd.E).length (WC wd.E).length,VV gd (WC wd.E).length (WC wd.E).length,z L] (by simp);have K:∀k,(Value.slice b (WC wd.E).length c).ownBlock=Y k->sz<=k:=λk e=>(j.own.lt k e).1
 refine⟨g.box,g.ws,g.beg,λs hs=>?_⟩;simp only[Option.some.injEq]at hs;subst hs;refine⟨⟨p.c0,p.c1,p.wdi,X.fc,X.fin,⟨F 0 _ Z,⟨?_,j.len,λi hi x hx=>(j.y i hi x hx).own _ (λk e=>U k (by grind)) (by rw[xX];exact xW _)⟩,⟨L,⟨?_,?_,F 3 _ Z,g.box.free,g.box.lt,S.aG (U _ (by omega)),?_,by grind,by grind,H,?_⟩,xF ⟨Z,?_,Z⟩⟩,⟨I,λe=>?_⟩,λu hu k e=>?_⟩,?_,?_,⟨λe=>?_,p.ne⟩⟩,T⟩
 ·have h3:=bH j.own λk e=>U k (by grind);refine⟨h3.1,?_⟩
  rcases h3.2 with h0|⟨g',V,aa,e,ae,q⟩
  ·exact xF h0
  grind
 ·rw[BH];exact F 1 _ Z
 ·have hz:(hZ (WC wd.E).length).length=(WC wd.E).length:=by simp[hZ]
  show _=Y (VV gd (hZ (WC wd.E).length).length (hZ (WC wd.E).length).length);rw[hz];exact F 2 _ Z
 ·grind [WO.aG]
 ·grind [hZ,BH]
 ·grind [BH]
 ·have:=K gc e;omega
 ·grind
 ·show A.gb≠gd;omega
 ·show A.gd≠gd;omega
 grind
theorem NQ{l:U K}(h:YA w v l)(k:S)(e:v.ownBlock=Y k):k<w.heap.size:=by
 rcases h with⟨e1,_⟩|⟨b,c,e1,_,i,_⟩
 ·grind [x1]
 grind [x1]
structure XF(P:ω->Prop)(w w':ξ):Prop where
 os:w'.os=w.os
 tape:w'.tape=w.tape
 output:w'.output=w.output
 size:w.heap.size<=w'.heap.size
 block:∀k,k<w.heap.size->¬P k->w'.heap[k]?=w.heap[k]?
def XF.refl(P:ω->Prop)(w:ξ):XF P w w:=⟨Z,Z,Z,xW _,λ_ _ _=>Z⟩
def XF.fH{P:ω->Prop}(b:ι w.heap.size w w'):XF P w w':=⟨b.os,b.tape,b.output,b.size,λk c _=>b.block k c⟩
def XF.trans{P:ω->Prop}(h:XF P w w1)(b:XF P' w1 w2)(j:∀k,k<w.heap.size->P' k->P k):XF P w w2 :=
 ⟨b.os.trans h.os,b.tape.trans h.tape,b.output.trans h.output,x5 h.size b.size,λk c i=>(b.block k (x8 c h.size) λe=>i (j k c e)).trans (h.block k c i)⟩
def XF.fR{gd:ω}(b:Eo w w' gc o gd):XF (λk=>k=gc\/k=gd) w w' :=
 ⟨b.os,b.tape,b.output,by rw[b.size];exact xW _,λk _ c=>b.block k (λe=>c (xF e)) λe=>c (xR e)⟩
def XF.oO(w:ξ)(g o:ω)(v:ν):XF (λk=>k=g) w (w.setCell ⟨g,o,G⟩ v):=
 ⟨Z,Z,Z,by simp,λk _ b=>x6 _ _ _ _ b⟩
def YH.xf(h:YH w w' g ov ov' fp fp'):XF (λk=>k=g\/ov.ownBlock=Y k) w w' :=
 ⟨h.os,h.tape,h.output,h.size,λk c b=>h.block k c (λe=>b (xF e)) λe=>b (xR e)⟩
namespace Q
theorem kMn(l:U (U K))(r:U K):J l<=(eI l r).length:=by
 induction l with
 |nil=>simp
 |cons x q ih =>
  grind [eI]
structure AnsOk(a:XU):Prop where
 rise:YX a.y
 small:∀x∈a.y,ZX x/\J x<1000
theorem AnsOk.eI(h:AnsOk a)(r:σ φ)(c:ZX r/\J r<1000)(b:Bool):AnsOk ⟨Q.eI a.y r,b⟩:=
 ⟨NI h.rise,λx e=>by
  grind [LU,AnsOk.small]⟩
theorem Jj(es:U Ev)(v:K)(ps:U K)(h:∀e∈es,0<=e.value/\e.value<4):0<=oH es v ps/\oH es v ps<4:=by
 unfold oH;have c:∀(l:U S) (a:K×K),0<=a.1/\a.1<4->0<=(l.foldl (qP v ps es) a).1/\(l.foldl (qP v ps es) a).1<4:=by
  intro l
  induction l with
  |nil=>intro a b;exact b
  |cons i l ih =>
   intro a b;rw[xt];apply ih;unfold qP
   split
   ·by_cases hi:i<J es
    ·grind [fF]
    ·simp[ev,hi,Ev.zero]
   ·exact b
 exact c _ _ (by simp)
def kFt{wd:Wd}(h:WdOk wd)(ps:U K):ZX (mY wd ps)/\(mY wd ps).length<1000:=by
 refine⟨λx b=>?_,by have:=h.g;simp[mY];omega⟩
 rcases List.mem_append.1 b with b|b
 ·exact h.vals x b
 ·simp at b
  rcases b with rfl|rfl|rfl<;>exact Jj _ _ _ h.evals
theorem Jk(es:U Ev)(rs:U K)(c:J rs<=64):∀b∈XR es rs,b<1000000000:=by
 grind [XR,nW]
def Jl(es:U Ev)(rs:U K):(XR es rs).length=J rs:=by simp[XR]
def kFB(es:U Ev):(WQ es).length=J es:=by simp[WQ]
theorem DY(rs ds:U K):(WT rs ds).length=J rs:=by
 unfold WT;have c:∀(i:S) (l:U S) (p:U K),(l.foldl (rI rs i) p).length=J p:=by
  intro i l
  induction l with
  |nil=>intro p;rfl
  |cons k l ih=>intro p;rw[xt,ih,U0]
 have b:∀(l:U S) (p:U K),(l.foldl (jA rs ds) p).length=J p:=by
  intro l
  induction l with
  |nil=>intro p;rfl
  |cons i l ih =>
   grind [jA]
 rw[b];simp
end Q
structure Ei(w:ξ)(g:ω)(a:XU)(ov:ν)(vs:σ ν)(fp:σ ω):Prop where
 o:XW w 0 g a.y ov vs fp
 clash:w.cell? ⟨g,1,G⟩=Y (z a.clash)
 ok:AnsOk a
def Ei.off(h:Ei w g a ov vs fp)(b:w'.heap[g]?=w.heap[g]?)(e:∀k,ov.ownBlock=Y k->w'.heap[k]?=w.heap[k]?)(c:∀k∈fp,w'.heap[k]?=w.heap[k]?)(i:w.heap.size<=w'.heap.size):Ei w' g a ov vs fp :=
 ⟨h.o.off b e c i,(xi (w:=w) (a:=⟨g,1,G⟩) b).trans h.clash,h.ok⟩
def Ei.xf{P:ω->Prop}(h:Ei w g a ov vs fp)(b:XF P w w')(j:¬P g)(m:∀k,ov.ownBlock=Y k->¬P k)(i:∀k∈fp,¬P k):Ei w' g a ov vs fp :=
 h.off (b.block g h.o.lt j) (λk e=>b.block k (h.o.gU k e) (m k e)) (λk c=>b.block k (h.o.fpl k c) (i k c)) b.size
def Ei.X(h:Ei w g a ov vs fp)(b:ι w.heap.size w w'):Ei w' g a ov vs fp:=h.xf (XF.fH (P:=λ_=>False) b) (λe=>e) (λ_ _ e=>e) λ_ _ e=>e
theorem Ei.ne(h:Ei w g a ov vs fp){c:ζ ν}(p:w.heap[k]?=Y (O c t (0,0)))(j:119≠t)(m:77≠t):g≠k:=λe=>by
 obtain⟨i,b⟩:=h.o.ty
 grind
def Ei.GJ(h:Ei w g a ov vs fp):w.frozen? ⟨g,1,G⟩=L:=by
 obtain⟨c,b⟩:=h.o.ty
 rcases b with b|b<;>simp[xe,b]
def Ei.kB(h:Ei w g a ov vs fp):ov.ownBlock≠Y g:=by
 obtain⟨e,b⟩:=h.o.ty
 rcases b with b|b
 ·exact gG h.o.y.own b (by decide)
 ·exact gG h.o.y.own b (by decide)
theorem Ei.sY(h:Ei w g a ov vs fp)(b:Bool):Ei (w.setCell ⟨g,1,G⟩ (z b)) g ⟨a.y,b⟩ ov vs fp:=by
 have m:=h.kB;obtain⟨c,q⟩:=h.o.ty;refine⟨⟨(World.cell?_setCell_other _ _ _ _ (by simp)).trans h.o.cell,by simpa using h.o.lt,by rw[World.frozen?_setCell];exact h.o.free,⟨bH h.o.y.own λk e=>x6 _ _ _ _ λe2=>m (by rw[e,e2]),h.o.y.len,λi p u j=>(h.o.y.y i p u j).own _ (λk e=>x6 _ _ _ _ (h.o.dis k (h.o.fps u (xb j) k e)).1) (by simp)⟩,⟨c.setIfInBounds 1 (z b),?_⟩,h.o.fps,by simpa using h.o.fpl,h.o.dis,h.o.hand.own λu j k e=>x6 _ _ _ _ (h.o.dis k (h.o.fps u j k e)).1⟩,World.cell?_setCell_same _ _ _ h.clash,⟨h.ok.rise,h.ok.small⟩⟩
 grind [cI]
structure Ek(P:ω->Prop)(w w':ξ)(ov ov':ν)(fp fp':σ ω):Prop where
 xf:XF P w w'
 own:ov'.ownBlock=ov.ownBlock\/∃b,ov'.ownBlock=Y b/\w.heap.size<=b
 fpn:∀k∈fp',k∈fp\/w.heap.size<=k
def Ek.refl(P:ω->Prop)(w:ξ)(ov:ν)(fp:σ ω):Ek P w w ov ov fp fp:=⟨XF.refl _ _,xF Z,λ_ h=>xF h⟩
theorem Ek.trans{P:ω->Prop}{i:ν}{c:σ ω}(h:Ek P w w1 ov ov1 fp fp1)(j:Ek P' w1 w2 ov1 i fp1 c)(q:∀k,k<w.heap.size->P' k->P k):Ek P w w2 ov i fp c :=
 ⟨h.xf.trans j.xf q,by
  have s:=h.xf.size
  rcases j.own with e|⟨b,e,x⟩
  ·grind [Ek.own]
  ·exact xR ⟨b,e,by omega⟩,λk p=>by
  have s:=h.xf.size
  rcases j.fpn k p with m|m
  ·exact h.fpn k m
  ·exact xR (by omega)⟩
def Ek.x{P:ω->Prop}(h:Ek P w w1 ov ov1 fp fp1)(b:XF P' w1 w2)(c:∀k,k<w.heap.size->P' k->P k):Ek P w w2 ov ov1 fp fp1 :=
 h.trans ⟨b,xF Z,λ_ h=>xF h⟩ c
def Ek.X{P:ω->Prop}(h:Ek P w w1 ov ov1 fp fp1)(b:ι w1.heap.size w1 w2):Ek P w w2 ov ov1 fp fp1 :=
 h.x (XF.fH (P:=λ_=>False) b) λ_ _ e=>e.elim
def YH.af(h:YH w w' g ov ov' fp fp'):Ek (λk=>k=g\/ov.ownBlock=Y k) w w' ov ov' fp fp':=⟨h.xf,h.own,h.fpn⟩
def Wr(g:S)(ov:I)(k:S):Prop:=k=g\/ov.ownBlock=Y k
structure OrdBase(w W1:ξ)(g go gr gb gd:ω)(ov0:ν)(fp0:σ ω):Prop where
 lg:g<w.heap.size
 lo:∀k,ov0.ownBlock=Y k->k<w.heap.size
 lf:∀k∈fp0,k<w.heap.size
 go1:w.heap.size<=go/\go<W1.heap.size
 gr1:w.heap.size<=gr/\gr<W1.heap.size
 gb1:w.heap.size<=gb/\gb<W1.heap.size
 gd1:w.heap.size<=gd/\gd<W1.heap.size
def OrdP(g go gd:S)(ov0:I)(k:S):Prop:=k=g\/k=go\/k=gd\/ov0.ownBlock=Y k
structure Et(w W1 wr:ξ)(g go gr gb gd:ω)(ov0:ν)(fp0:σ ω)(rs bs ds:σ φ)(rest:σ (σ φ))(a:XU)(ov:ν)(vs:σ ν)(fp:σ ω):Prop where
 base:OrdBase w W1 g go gr gb gd ov0 fp0
 fr:Ek (OrdP g go gd ov0) W1 wr ov0 ov fp0 fp
 ord:YE wr go gr gb gd rs bs ds rest
 ans:Ei wr g a ov vs fp
section
variable {w W1 wr:ξ}{g go gr gb gd:ω}{ov0:ν}{fp0:σ ω}{rs bs ds:σ φ}{rest:σ (σ φ)}{a:Q.XU}{ov:ν}{vs:σ ν}{fp:σ ω}
def Et.X(h:Et w W1 wr g go gr gb gd ov0 fp0 rs bs ds rest a ov vs fp)(b:ι wr.heap.size wr w2):Et w W1 w2 g go gr gb gd ov0 fp0 rs bs ds rest a ov vs fp :=
 ⟨h.base,h.fr.X b,h.ord.X b,h.ans.X b⟩
theorem Et.tL(h:Et w W1 wr g go gr gb gd ov0 fp0 rs bs ds rest a ov vs fp)(k:ω)(c:w.heap.size<=k)(i:k<W1.heap.size):ov.ownBlock≠Y k:=λe=>by
 rcases h.fr.own with e1|⟨b,e1,j⟩
 ·have:=h.base.lo k (e1.symm.trans e);omega
 grind
def Et.JS(h:Et w W1 wr g go gr gb gd ov0 fp0 rs bs ds rest a ov vs fp)(k:ω)(b:w.heap.size<=k)(c:k<W1.heap.size):k∉fp:=λe=>by
 rcases h.fr.fpn k e with e1|e1
 ·have:=h.base.lf k e1;omega
 ·omega
def Et.AM(h:Et w W1 wr g go gr gb gd ov0 fp0 rs bs ds rest a ov vs fp){i:σ φ}{c:σ (σ φ)}(j:Eo wr w2 go 1 gd)(p:YE w2 go gr gb gd rs bs i c):Et w W1 w2 g go gr gb gd ov0 fp0 rs bs i c a ov vs fp:=by
 have b:=h.base;refine⟨b,h.fr.x (XF.fR j) λk _ e=>?_,p,h.ans.xf (XF.fR j) (λe=>?_) (λk e e2=>?_) λk m e=>?_⟩
 ·rcases e with e|e
  ·exact xR (xF e)
  ·exact xR (xR (xF e))
 ·have:=b.lg;have:=b.go1.1;have:=b.gd1.1;omega
 ·rcases e2 with e2|e2<;>subst e2
  ·exact h.tL _ b.go1.1 b.go1.2 e
  ·exact h.tL _ b.gd1.1 b.gd1.2 e
 ·rcases e with e|e<;>subst e
  ·exact h.JS _ b.go1.1 b.go1.2 m
  ·exact h.JS _ b.gd1.1 b.gd1.2 m
def Et.EE(h:Et w W1 wr g go gr gb gd ov0 fp0 rs bs ds rest a ov vs fp)(i:Eo wr w2 go 1 gd)(j:ι w.heap.size w W1):Ei w2 g a ov vs fp/\Ek (Wr g ov0) w w2 ov0 ov fp0 fp:=by
 have b:=h.base;refine⟨h.ans.xf (XF.fR i) (λe=>?_) (λk e e2=>?_) λk c e=>?_,(Ek.mk (XF.fH (P:=Wr g ov0) j) (xF Z) λ_ h=>xF h:Ek (Wr g ov0) w W1 ov0 ov0 fp0 fp0).trans (h.fr.x (XF.fR i) λk _ e=>?_) λk c e=>?_⟩
 ·have:=b.lg;have:=b.go1.1;have:=b.gd1.1;omega
 ·rcases e2 with e2|e2<;>subst e2
  ·exact h.tL _ b.go1.1 b.go1.2 e
  ·exact h.tL _ b.gd1.1 b.gd1.2 e
 ·rcases e with e|e<;>subst e
  ·exact h.JS _ b.go1.1 b.go1.2 c
  ·exact h.JS _ b.gd1.1 b.gd1.2 c
 ·rcases e with e|e
  ·exact xR (xF e)
  ·exact xR (xR (xF e))
 ·have:=b.go1.1;have:=b.gd1.1
  rcases e with e|e|e|e
  ·exact xF e
  ·omega
  ·omega
  ·exact xR e
def YE.off(h:YE wr go gr gb gd rs bs ds rest)(c:w'.heap[go]?=wr.heap[go]?)(i:w'.heap[gr]?=wr.heap[gr]?)(m:w'.heap[gb]?=wr.heap[gb]?)(p:w'.heap[gd]?=wr.heap[gd]?)(s:wr.heap.size<=w'.heap.size):YE w' go gr gb gd rs bs ds rest:=by
 obtain⟨b,e,q⟩:=h.XY;exact⟨(xi (w:=wr) (a:=⟨go,0,G⟩) c).trans h.r0,h.y.aG i,⟨b,e.of (λj=>xi (w:=wr) (a:=⟨go,j,G⟩) c) (λj=>World.frozen?_of_block (w:=wr) (a:=⟨go,j,G⟩) c) (x8 e.lt s) m p,q⟩,h.len,h.ne,h.neg⟩
theorem Et.IX(h:Et w W1 wr g go gr gb gd ov0 fp0 rs bs ds rest a ov vs fp)(c:XF (Wr g ov) wr w2):YE w2 go gr gb gd rs bs ds rest:=by
 have b:=h.base;have m:=h.fr.xf.size;have K:∀k,w.heap.size<=k->k<W1.heap.size->w2.heap[k]?=wr.heap[k]?:=λk i j=>c.block k (by omega) λe=>by
  rcases e with e|e
  ·have:=b.lg;omega
  grind [Et.tL]
 exact h.ord.off (K _ b.go1.1 b.go1.2) (K _ b.gr1.1 b.gr1.2) (K _ b.gb1.1 b.gb1.2) (K _ b.gd1.1 b.gd1.2) c.size
theorem Et.add(h:Et w W1 wr g go gr gb gd ov0 fp0 rs bs ds rest a ov vs fp)(j:ZX r/\J r<1000)(i:XW w2 0 g (eI a.y r) ov' vs' fp')(c:YH wr w2 g ov ov' fp fp'):Et w W1 w2 g go gr gb gd ov0 fp0 rs bs ds rest ⟨eI a.y r,a.clash⟩ ov' vs' fp' :=
 ⟨h.base,h.fr.trans c.af λk p e=>by
  rcases e with e|e
  ·exact xF e
  ·rcases h.fr.own with e1|⟨b,e1,m⟩
   ·exact xR (xR (xR (e1.symm.trans e)))
   grind,h.IX c.xf,⟨i,c.c1.trans h.ans.clash,h.ans.ok.eI r j _⟩⟩
theorem Et.step(h:Et w W1 wr g go gr gb gd ov0 fp0 rs bs ds rest a ov vs fp){c:XU}(j:Ei w2 g c ov' vs' fp')(i:Ek (Wr g ov) wr w2 ov ov' fp fp'):Et w W1 w2 g go gr gb gd ov0 fp0 rs bs ds rest c ov' vs' fp' :=
 ⟨h.base,h.fr.trans i λk p e=>by
  rcases e with e|e
  ·exact xF e
  ·rcases h.fr.own with e1|⟨b,e1,m⟩
   ·exact xR (xR (xR (e1.symm.trans e)))
   grind,h.IX i.xf,j⟩
def Et.box(h:Et w W1 wr g go gr gb gd ov0 fp0 rs bs ds rest a ov vs fp)(k:ω)(j:w.heap.size<=k)(b:k<W1.heap.size)(c:k≠go)(i:k≠gd):wr.heap[k]?=W1.heap[k]? :=
 h.fr.xf.block k b λe=>by
  rcases e with e|e|e|e
  ·have:=h.base.lg;omega
  ·exact c e
  ·exact i e
  ·have:=h.base.lo k e;omega
def Et.PV(h:Et w W1 wr g go gr gb gd ov0 fp0 rs bs ds rest a ov vs fp)(i:w.heap.size<=W1.heap.size)(k:ω)(c:k<w.heap.size)(b:¬Wr g ov0 k):wr.heap[k]?=W1.heap[k]? :=
 h.fr.xf.block k (by omega) λe=>by
  have:=h.base.go1.1;have:=h.base.gd1.1
  rcases e with e|e|e|e
  ·exact b (xF e)
  ·omega
  ·omega
  ·exact b (xR e)
def Et.done(h:Et w W1 wr g go gr gb gd ov0 fp0 rs bs ds rest a ov vs fp)(c:ι w.heap.size w W1):Ek (Wr g ov0) w wr ov0 ov fp0 fp :=
 ⟨⟨h.fr.xf.os.trans c.os,h.fr.xf.tape.trans c.tape,h.fr.xf.output.trans c.output,x5 c.size h.fr.xf.size,λk i j=>(h.PV c.size k i j).trans (c.block k i)⟩,by
  have:=c.size
  rcases h.fr.own with e|⟨b,e,m⟩
  ·exact xF e
  ·exact xR ⟨b,e,by omega⟩,λk i=>by
  have:=c.size
  rcases h.fr.fpn k i with e|e
  ·exact xF e
  ·exact xR (by omega)⟩
end
theorem Ee.wr(h:Ee w fa f)(p:Ei w g a ov vs fp)(q:∀k,k<w.heap.size->¬Wr g ov k->W.heap[k]?=w.heap[k]?):Ee W fa f:=by
 obtain⟨c,i⟩:=p.o.ty;have E:∀j l,XA w j l->¬Wr g ov j:=λj l m e=>by
  rcases e with e|e
  ·grind [wW]
  ·unfold XA at m;exact gG p.o.y.own m (by decide) e
 have A:∀k,fa.ev.ownBlock=Y k->¬Wr g ov k:=λk e e2=>by
  rcases e2 with e2|e2
  ·subst e2
   rcases i with i|i<;>exact gG h.ev i (by decide) e
  ·rcases p.o.y.own.2 with⟨e3,_⟩|⟨b,F,s,e3,_,x,_⟩
   ·grind [x1]
   ·rw[e3]at e2;simp[x1]at e2;subst e2;exact gG h.ev x (by decide) e
 exact h.off (λj l m=>q j m.lt (E j l m)) (bH h.ev λk e=>q k (h.ev.lt k e).2 (A k e))
theorem Ec.wr{b:ω}{l:σ ω}(h:Ec w b n l)(i:Ei w g a ov vs fp)(m:∀k,k<w.heap.size->¬Wr g ov k->W.heap[k]?=w.heap[k]?):Ec W b n l:=by
 obtain⟨c,p⟩:=i.o.ty;refine⟨h.at_.aG (m b h.lt λe=>?_),h.len,h.fits⟩;have j:=h.at_
 rcases e with e|e
 ·grind [wW]
 ·unfold XA at j;exact gG i.o.y.own j (by decide) e
theorem YU.wr{ev:ν}(h:YU w ev rg wd)(j:Ei w g a ov vs fp)(s:∀k,rg.ownBlock=Y k->¬Wr g ov k)(m:∀k,k<w.heap.size->¬Wr g ov k->W.heap[k]?=w.heap[k]?)(x:w.heap.size<=W.heap.size):YU W ev rg wd:=by
 obtain⟨c,i⟩:=j.o.ty;refine⟨bH h.K λk e=>m k (h.K.lt k e).2 λe2=>?_,h.g.own _ (λk e=>m k ?_ (s k e)) x⟩
 ·rcases e2 with e2|e2
  ·subst e2
   rcases i with i|i<;>exact gG h.K i (by decide) e
  ·rcases j.o.y.own.2 with⟨e3,_⟩|⟨b,A,p,e3,_,q,_⟩
   ·grind [x1]
   ·rw[e3]at e2;simp[x1]at e2;subst e2;exact gG h.K q (by decide) e
 ·rcases h.g with⟨e1,_⟩|⟨E,c,e1,_,F,_⟩
  ·grind [x1]
  grind [x1]
theorem zET(gc:ω)(A:WA)(rss:σ (σ Run))(T:ρ RS)(ds:σ K)(rest:σ (σ K))(w:ξ)(h:En w gc A rss T ds rest)(hn:J rss<20)(hb:∀r∈rss,J r<100000000)(aA:∀rs∈rss,∀r∈rs,J r.g=4/\∀e∈r.E,e.h<YC)(hW:∀d,YK (YM rss) d->WdOk (XV rss d)):
  γ δ 55 #[.pointer (Y ⟨gc,0,G⟩)] w λe w'=>∃b,e=D (z b)/\Jh w w' gc A rss T (fP rss T rest) b:=by
 have H0:aC (CA w gc A rss T (fP rss T rest) w (J rest)):=⟨T,ds,rest,h,Z,Z,Ej.refl _ _ _ _,λk h=>xF h,λk h=>xF h⟩;have HB:=aD hb;have aH:=aD aA;have HW:=aD hW;generalize fP rss T rest=R0 at*;clear h hb aA hW;obtain⟨μ,hμ⟩:=JY (CA w gc A rss T R0);have ap:=aD hμ;clear hμ;go_in;go_wp2;go_loopw[] (λwr=>∃n,aC (CA w gc A rss T R0 wr n)) λwr=>μ wr
 case atStart=>exact⟨_,H0⟩
 case round =>
  obtain⟨hI,az⟩:=ap.o wr (by obtain⟨n,h⟩:=hrel;exact⟨n,h⟩);clear hrel az;obtain⟨bf,ah,c,(m:aC _),(HR:aC _),(HL:aC _),(HF:aC _),(HN:aC _)⟩:=hI;have be:=m.o.box.lt;have x:=m.o.beg
  rcases bf with _|s
  case' none =>
   simp only[xu]at x;have p:aC (CandW wr gc A rss ah c):=⟨m.o.box,m.o.ws,_,x⟩;have ae:=HR;have an:=HF;clear m HR HF HN
  case' some =>
   simp only[xu]at x;obtain⟨H,aj⟩:=m.o.rs s Z;have af:=aD H.rd;have ad:aC (s.R.gd=A.gd\/gdS T s.R.gd\/w.heap.size<=s.R.gd):=by
    rcases HN.o.2 s.R.gd ⟨s,Z,Z⟩with i|i
    ·exact xR (xF i)
    ·exact xR (xR i)
   have aU:(WC s.wd.E).length<10000:=by rw[Je];have:=aj.le;omega
   have ao:=aD (kLk s.wd.E aj.le);clear H aj;go_upto_region 2 with(first|(go_at_call 93;refine(zJi gc 17 s.R.cv s.R.cvs s.R.gb s.R.gd (WC s.wd.E) s.ds s.rest _ af aU ao).mono ?_;rintro e w2 ⟨i,(HT:aC _)⟩;rcases i with⟨hr,rfl⟩|⟨r,q,hr,rfl,ba,y⟩))
   rotate_left
   ·go_wp2;go_ret;exact⟨true,Z,CA.some m HR HF HN HT hr ba y (HF.o.dK HT ad)⟩
   have p:aC (CandW w2 gc A rss ah c):=by
    have H:=(m.o.rs s Z).1;obtain⟨b,hc⟩:=af.o.XY.XY;exact⟨m.o.box.dK HT,Ji m.o.ws HT m.o.box H.n1 H.n2 hc.digits,_,(HT.o.cell _ (by omega)).trans x⟩
   have ae:aC (fP rss G c=R0):=by simp_all [fP]
   have an:=aD (HF.o.dK HT ad);clear m HR HF HN HT af ad ao x be hr
  all_goals
   go_wp2_with(first
    |(go_at_call 94;obtain⟨bb,aa⟩:=p.o.beg;obtain⟨cc,au,_⟩:=id p.o.box;refine(zJm gc 13 A.rv A.vs A.wss A.gb A.gd rss ah c cc 94 _ p.o.ws au (by decide) (by decide) (by decide) (by omega) HB).mono ?_;clear au;rintro e w3 ⟨i,hT⟩;have bq:=(hT.cell 21 (by omega)).trans aa;have ac:=aD (p.o.box.dK hT);have pf:=ac.o.free;have bo:=ac.o.lt;have F3:=aD (an.o.dK hT (xF Z));clear hT aa;rcases i with⟨hr,rfl⟩|⟨d,q,hr,rfl,aB,y⟩)
    |(go_at_call 95;have aG:=aD y;have j:=aD (HW.o d y);have C4:=aD (CW.start ac aB F3);clear aB y;refine(zKA gc 13 A.rv A.vs A.wss A.gb A.gd rss d q _ C4.o.ws aG (by omega) j.o.le aH).mono ?_;rintro e w5 ⟨ev,rg,rfl,S,I,ar⟩;have C5:=aD (C4.o.X ar);have aN:=aD S;have aM:aC (rg.ownBlock≠Y gc):=(λe=>by have:=I gc e;have:=C4.o.box.lt;omega);have aK:aC (∀k,rg.ownBlock=Y k->k<w5.heap.size):=λk e=>S.g.gU k e;have aL:aC (∀k,rg.ownBlock=Y k->w.heap.size<=k):=λk e=>x5 C4.o.fr.size (I k e);obtain⟨ea,ec,aW,_⟩:=S.K.form;obtain⟨ra,rc,bc,_⟩:=S.g.form;clear S I ar;subst aW bc)
    |(refine π Z 80 (.tmp 29) (.tmp 27) Z gc 0 #[C ea (XV rss d).E.length ec,C ra (XV rss d).g.length rc] Z Z (C5.o.box.there 0 2 (by decide)) (by kernel_rfl) (by simp[xj]) ?_;have D6:=aD (CW1.start aN aM C5.o.box);have C6:=aD (C5.o.set 0 [C ea (XV rss d).E.length ec,C ra (XV rss d).g.length rc] (xF (by simp)));have S6:w5.heap.size<=(w5.setCells gc 0 [C ea (XV rss d).E.length ec,C ra (XV rss d).g.length rc]).heap.size:=(by rw[xX];exact xW _);generalize w5.setCells gc 0 [C ea (XV rss d).E.length ec,C ra (XV rss d).g.length rc]=w6 at*;have bi:=D6.o.c0;have bj:=D6.o.c1;have bp:=C6.o.box.lt)
    |(go_at_call 96;refine(zHA _ (XV rss d).E _ D6.o.wdi.K j.o.pos j.o.le j.o.h).mono ?_;rintro e w7 ⟨fa,rfl,bn,F,U⟩;have C7:=aD (C6.o.X U);have D7:=aD (D6.o.X C6.o.box U);have aE:=aD F;obtain⟨fx,bm,aw,_⟩:=F.form;have S7:=U.size;clear F U)
    |(refine π Z 85 (.tmp 38) (.tmp 36) Z gc 2 (XP fa) Z Z (C7.o.box.there 2 10 (by decide)) (by kernel_rfl) (by simp[XP,aw,xj]) ?_;have E8:=aD (CW2.start aE C7.o.box);have C8:=aD (C7.o.set 2 (XP fa).toList (xF (by simp[XP])));have D8:=aD (D7.o.set C7.o.box 2 (XP fa).toList (by simp[XP]) (by decide));have S8:w7.heap.size<=(w7.setCells gc 2 (XP fa).toList).heap.size:=(by rw[xX];exact xW _);generalize w7.setCells gc 2 (XP fa).toList=w8 at*;have bk:=D8.o.c0;have bl:=D8.o.c1;have bd:=C8.o.box.lt)
    |(go_at_call 97;refine(Vr _ _ (XV rss d).E _ D8.o.wdi.K ⟨_,_,_,Z⟩ j.o.le).mono ?_;rintro e w9 ⟨cv,aQ,ak,al,rfl,ai,ax,ay,aX,aY,aT,ab,av,V⟩;have C9:=aD (C8.o.X V);have D9:=aD (D8.o.X C8.o.box V);have E9:=aD (E8.o.X C8.o.box V);obtain⟨ca,ag,aV,_⟩:=ai.form;subst aV;have aq:=aD ai;have aI:=aD ax;have aJ:=aD ay;have am:=aD av;have aF:=aD ab;clear ai ax ay av ab V)
    |(refine π Z 92 (.tmp 46) (.tmp 44) Z gc 17 #[C ca (WC (XV rss d).E).length ag,VV ak (WC (XV rss d).E).length (WC (XV rss d).E).length,VV al (WC (XV rss d).E).length (WC (XV rss d).E).length,z L] Z Z (C9.o.box.there 17 4 (by decide)) (by kernel_rfl) (by simp[xj]) ?_))
   ·go_wp2;go_ret;exact⟨L,Z,F3,xF ⟨Z,by rw[<- ae.o,hr];rfl⟩⟩
   ·obtain⟨bh,⟨_,_,_,_,_,aO,aP,_,_,_,_⟩,_⟩:=C8.o.ws.XY;have hA:=aO.lt;have aR:=aP.lt;have aS:=zMa C9 D9 E9 aq aI aJ aX aY aT aF am bd ⟨hA,aR⟩ λk e=>by have:=aK.o k e;omega j;have F9:=C9.o.fr.set 17 [C ca (WC (XV rss d).E).length ag,VV ak (WC (XV rss d).E).length (WC (XV rss d).E).length,VV al (WC (XV rss d).E).length (WC (XV rss d).E).length,z L];have bg:=C8.o.fr.size;have hR:CA w gc A rss T R0 (w9.setCells gc 17 [C ca (WC (XV rss d).E).length ag,VV ak (WC (XV rss d).E).length (WC (XV rss d).E).length,VV al (WC (XV rss d).E).length (WC (XV rss d).E).length,z L]) (J q):=by
     refine⟨_,_,_,aS,?_,Z,F9,λk hk=>xR ?_,λk hk=>xR ?_⟩
     ·rw[<- ae.o,hr];simp[fP,GD]
     ·obtain⟨s',e1,aZ⟩:=hk;simp only[Option.some.injEq]at e1;subst e1
      rcases aZ with i|i|⟨u,hu,i⟩|i|i
      ·exact aL k i
      ·have:=(aq.o.own.lt k i).1;omega
      ·have:=(am u hu k i).1;omega
      ·simp only at i;omega
      ·simp only at i;omega
     ·obtain⟨s',e1,e2⟩:=hk;simp only[Option.some.injEq]at e1;subst e1;simp only at e2;omega
    go_roundw
    ·(repeat apply Exists.intro)
     exact⟨⟨_,hR⟩,Z⟩
    case measure =>
     have i:=(ap _ ⟨_,hR⟩).2 _ hR;have h2:=HL.o;rw[hr]at h2;simp only[List.length_cons]at h2;omega
