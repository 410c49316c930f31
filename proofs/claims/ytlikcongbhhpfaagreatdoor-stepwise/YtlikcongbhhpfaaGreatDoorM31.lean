import Derived.Test.YtlikcongbhhpfaaGreatDoorM30
set_option linter.unusedVariables false
set_option linter.unusedSimpArgs false
set_option maxHeartbeats 12800000
namespace Go.Proofs.YtlikcongbhhpfaaGreatDoor
open Go Go.RowKit Go.Proofs.Tryz P Q
set_option maxRecDepth 1000000
variable {w w' w0 w1 w2:World}{B B' g gb gc gd n' o sz':Nat}{rg u v:Value}{rs:List Run}{l vs xs':List Value}{t':TypeId}{rss:List (List Run)}{wss:List (List Value)}{d ds:List Int}{cc cd:Array Value}{wd:Wd}{a fa:FA}{f:Ey}{q:List (List Int)}
open List renaming length->L
open _root_.Array renaming size->D
open Go.World renaming heap->T,cell?->W
open Go.Value renaming slice->Y,int->z,bool->M
open Option renaming some->C,none->O
open Go.Obj renaming cells->G
open Go.IntKind renaming i64->N
open Bool renaming false->H
open Nat renaming le_refl->xF,zero_le->x0,le_trans->x4,lt_of_lt_of_le->xj
open Or renaming inl->xR,inr->xW
open Go.Value renaming int->x1,slice->x8,oneCell'->xg
open Go.RowKit.Below renaming heap_alloc->x2,refl->x3
open Go.World renaming ownsRow_nil->x5,cell?->x7,news_of_block->xe
open List renaming getElem_mem->x6,drop_eq_getElem_cons->x9,getElem?_eq_getElem->xa,drop_eq_nil_of_le->xb,getElem?_append_left->xc,getElem?_append_right->xd,map_append->xh,take_of_length_le->xi
namespace Q
theorem Pb(wd:Wd)(rss:List (List Run))(ds:List Int)(k:Nat)(c:k<L rss)(b:k<L ds)(h:(ds.getD k 0).toNat<rss[k].length):gM wd (rss.drop k) (ds.drop k)=gM (wd.join (rss[k][(ds.getD k 0).toNat]'h)) (rss.drop (k+1)) (ds.drop (k+1)):=by
 rw[x9 c,x9 b];rw[gM];have e:ds[k]=ds.getD k 0:=(eI ds k b 0).symm;rw[dif_pos (by rw[e];exact h)]
 congr 2
 simp only[e]
theorem ZM:∀(wd:Wd) (rss:List (List Run)) (ds:List Int),L wd.E<=(gM wd rss ds).E.length
 |wd,rs::rest,d::ds=>by
  rw[gM];refine x4 ?_ (ZM _ rest ds)
  split
  ·simp[Wd.join]
  ·exact xF _
 |wd,[],_=>xF _
 |wd,_::_,[]=>xF _
end Q
theorem ZN:∀(rs:List Run) (b:List Value),L b=L rs->∀(d:Nat) (h:d<L rs),∃u,b[d]?=C u/\(OY rs b)[d*5]?=C u/\(OY rs b)[d*5+1]?=C (z N (rs[d].g.getD 0 0))/\(OY rs b)[d*5+2]?=C (z N (rs[d].g.getD 1 0))/\(OY rs b)[d*5+3]?=C (z N (rs[d].g.getD 2 0))/\(OY rs b)[d*5+4]?=C (z N (rs[d].g.getD 3 0))
 |[],b,_,d,h=>by simp at h
 |r::rs,[],hl,d,h=>by simp at hl
 |r::rs,u::b,hl,0,h=>⟨u,Z,Z,Z,Z,Z,Z⟩
 |r::rs,u::b,hl,d+1,h=>by
  obtain⟨x,c,e,i,j,k,m⟩:=ZN rs b (by simpa using hl) d (by simpa using h);refine⟨x,by simpa using c,?_,?_,?_,?_,?_⟩
  ·rw[show(d+1)*5=d*5+5 by omega];simpa[OY]using e
  ·rw[show(d+1)*5+1=d*5+1+5 by omega];simpa[OY]using i
  ·rw[show(d+1)*5+2=d*5+2+5 by omega];simpa[OY]using j
  ·rw[show(d+1)*5+3=d*5+3+5 by omega];simpa[OY]using k
  ·rw[show(d+1)*5+4=d*5+4+5 by omega];simpa[OY]using m
theorem ZO(g o:Nat)(rv:Value)(vs:List Value)(wss:List (List Value))(gb gd:Nat)(rss:List (List Run))(ds:List Int)(rest:List (List Int))(w:World)(h:WsOn w g o rv vs wss gb gd rss ds rest)(hd:MV (rss.map fun r=>(L r:Int)) ds)(hn:L rss<20)(aj:(KZ rss ds).E.length<=64)(aP:∀rs∈rss,∀r∈rs,L r.g=4/\∀e∈r.E,e.h<MU):
  Calls prog 106 #[.pointer (C ⟨g,o,O⟩)] w fun e w'=>∃ev rg,e=.returned (.agg #[ev,rg])/\NO w' ev rg (KZ rss ds)/\(∀k,rg.ownBlock=C k->D (T w)<=k)/\Below (D (T w)) w w':=by
 obtain⟨bg,hc⟩:=h.ML.ML;have aK:L ds=L rss:=by rw[hc.len];simp
 have an:=hc.lt;have c0:=h.c0;have c2:=hc.c1;have aq:=JO hc.digits;have aM:=hc.digits.lt;have s:=JO h.U;have au:=JO aP;have ar:JP (∀i (hi:i<L rss),0<=ds.getD i 0/\ds.getD i 0<(rss[i].length:Int)):=fun i hi=>by
  have x:=hd.vA i (by omega);rw[eI _ _ (by simpa using hi)]at x;simp at x;rw[eI ds i (by omega)];exact x
 obtain⟨ra,rc,aS⟩:∃a c,rv=Y a (L rss) c:=by
  rcases h.U.ow.2 with⟨e,h0⟩|⟨k,c,V,e,_⟩
  ·exact⟨O,0,by rw[e,h0]⟩
  ·exact⟨_,c,e⟩
 have A:(rss.map fun r=>(L r:Int)).length=L rss:=by simp
 have aD:JP (KZ rss ds=gM ⟨MX,[]⟩ (rss.drop 0) (ds.drop 0)):=Z;have af:=JO aj;rw[aK]at c2;obtain⟨k0,bq,aI⟩:=gU w #[Y O 0 0,Y O 0 0] 73;have ac:=JO aI;have bc:L ds<=L rss:=by omega
 have bd:L rss<=L ds:=by omega
 have aE:W w ⟨g,o+2,O⟩=C (JQ gd (L rss) (L rss)):=c2;subst aS;go_enter func106,ntmps106;go_upto_region 1 with fail
 generalize hE:w.alloc (G #[Y O 0 0,Y O 0 0] 73)=S at*;have K0:=JO k0;have bf:D (T w)+1<=D (T S):=by omega
 go_upto_region 2 with(first|(go_at_call 155;refine(Oe _).mono ?_;rintro e w1 ⟨g1,rfl,ap,A⟩))
 have aC:JP (WM (w1.alloc (G #[JQ g1 3 3,Y O 0 0] 73)) (D (T S)) (D (T w1)) ⟨MX,[]⟩ (JQ g1 3 3) (Y O 0 0)):=
  ⟨heap_alloc_new w1 _,aU ap fun k e=>x2 _ _ _ (ap.lt k e).2,by simpa using x5 _ _ _ _,A.size⟩
 have ad:JP (Below (D (T S)) S (w1.alloc (G #[JQ g1 3 3,Y O 0 0] 73))):=A.alloc A.size _;have bk:D (T S)<=D (T w1):=A.size;generalize bh:w1.alloc (G #[JQ g1 3 3,Y O 0 0] 73)=W1 at*;generalize bm:D (T w1)=g3 at*;have ae:JP (Below (D (T w)) w W1):=JW ac.o (xF _) ad.o;have d2:=(ae.o.cell (p:=⟨g,o+2,O⟩) an).trans aE;go_wp2;go_loopw[14] (fun j wr=>∃(k:Nat) (wd:Wd) (ev rg:Value),k<=L rss/\j=z N k/\JP (KZ rss ds=gM wd (rss.drop k) (ds.drop k))/\JP (L wd.g=4*k)/\JP (WM wr (D (T S)) g3 wd ev rg)/\JP (Below (D (T S)) S wr)) fun j _=>L rss-(intOf j).toNat
 case atStart=>exact⟨0,_,_,_,x0 _,Z,aD,Z,aC,ad⟩
 case round =>
  obtain⟨k,wd,ev,rg,hk,rfl,HJ,av,HM,HB⟩:=hrel;have m:JP (Below (D (T w)) w wr):=JW ac.o (xF _) HB.o;by_cases hlt:k<L rss
  ·have bn:(k:Int)<(L rss:Int):=by omega
   have bj:=ar.o k hlt;obtain⟨d,am⟩:∃d:Nat,ds.getD k 0=(d:Int):=⟨(ds.getD k 0).toNat,by omega⟩;have I:d<rss[k].length:=by omega
   have ag:JP (KZ rss ds=gM (wd.join rss[k][d]) (rss.drop (k+1)) (ds.drop (k+1))):=by
    unfold JP;rw[HJ.o,Pb wd rss ds k hlt (by omega) (by omega)]
    congr 2
    simp only[am,Int.toNat_natCast]
   have aJ:(wd.join rss[k][d]).E.length<=64:=by
    have x:=ZM (wd.join rss[k][d]) (rss.drop (k+1)) (ds.drop (k+1));rw[<- ag.o]at x;have:=af.o;omega
   have ak:L wd.E+rss[k][d].E.length<=64:=by simpa[Wd.join]using aJ
   have J:=au.o rss[k] (x6 hlt) rss[k][d] (x6 I);have ao:k<L vs:=by rw[s.o.lv];exact hlt
   have aN:k<L wss:=by rw[s.o.lw];exact hlt
   have b:=s.o.U k hlt vs[k] wss[k] (xa ao) (xa aN);obtain⟨u,aY,q0,q1,q2,q3,q4⟩:=ZN rss[k] wss[k] b.len d I;have ab:=b.K d I u aY;obtain⟨gk,ck,ba,n⟩:∃gk ck,vs[k]=JQ gk rss[k].length ck/\gk<D (T w):=by
    rcases b.ow.2 with⟨e,h0⟩|⟨k',c,V,e,_⟩
    ·omega
    ·exact⟨k',c,e,(b.ow.lt k' (by rw[e];rfl)).2⟩
   obtain⟨br,aQ,ai,al⟩:∃br,ra=C ⟨br,0,O⟩/\br<D (T w)/\W w ⟨br,k,O⟩=C vs[k]:=by
    rcases s.o.ow.2 with⟨e,h0⟩|⟨k',c,V,e,_⟩
    ·omega
    ·simp only[Value.slice.injEq]at e;refine⟨k',e.1,(s.o.ow.lt k' (by rw[e.1];rfl)).2,?_⟩;have x:=s.o.ow;rw[e.1]at x;exact xP x ao
   have t:=b.ow;rw[ba]at t al;have z0:W wr ⟨gk,d*5,O⟩=C u:=(m.o.cell (p:=⟨gk,d*5,O⟩) n).trans ((t.cellAt _ (by omega)).trans q0);have z1:W wr ⟨gk,d*5+1,O⟩=C (z N (rss[k][d].g.getD 0 0)):=(m.o.cell (p:=⟨gk,d*5+1,O⟩) n).trans ((t.cellAt _ (by omega)).trans q1);have z2:W wr ⟨gk,d*5+2,O⟩=C (z N (rss[k][d].g.getD 1 0)):=(m.o.cell (p:=⟨gk,d*5+2,O⟩) n).trans ((t.cellAt _ (by omega)).trans q2);have z3:W wr ⟨gk,d*5+3,O⟩=C (z N (rss[k][d].g.getD 2 0)):=(m.o.cell (p:=⟨gk,d*5+3,O⟩) n).trans ((t.cellAt _ (by omega)).trans q3);have z4:W wr ⟨gk,d*5+4,O⟩=C (z N (rss[k][d].g.getD 3 0)):=(m.o.cell (p:=⟨gk,d*5+4,O⟩) n).trans ((t.cellAt _ (by omega)).trans q4);have y0:=JS m.o an c0;have yr:=JS m.o ai al;have yd:W wr ⟨gd,k,O⟩=C (z N (d:Int)):=by rw[<- am];exact(m.o.cell (p:=⟨gd,k,O⟩) aM).trans (aq.o.cQ k (by omega))
   have aB:JP (NC wr u rss[k][d].E):=ab.X m.o;have aA:JP (∀y,u.ownBlock=C y->y<D (T S)):=fun y e=>by have:=(ab.lt y e).2;omega
   obtain⟨ua,uc,aZ,_⟩:=ab.form;have bi:(d:Int)<(rss[k].length:Int):=by omega
   have be:=av.o;have aa:L wd.g<100:=by omega
   have ah:JP ((wd.join rss[k][d]).g.length=4*(k+1)):=by unfold JP Wd.join;simp[J.1];omega
   generalize rss[k][d]=rr at*;generalize rss[k].length=nk at*;subst aQ aZ;generalize aT:rr.g.getD 0 0=t0 at*;generalize aV:rr.g.getD 1 0=t1 at*;generalize aW:rr.g.getD 2 0=t2 at*;generalize aX:rr.g.getD 3 0=t3 at*;have aw:=JO aT;have ax:=JO aV;have ay:=JO aW;have az:=JO aX;go_wp2_with(first|(go_at_call 156;have hj:=Pa (D (T S)) g3 wd ev rg (Y ua (L rr.E) uc) rr wr HM.o aB.o aA.o HB.o.size J.1 ak aa J.2;rw[aw.o,ax.o,ay.o,az.o]at hj;refine hj.mono ?_;rintro e w2 ⟨rfl,⟨aG,bb,aO⟩,aH⟩));go_roundw
   case rel=>exact⟨k+1,wd.join rr,aG,bb,by omega,by go_num,ag,ah,aO,HB.o.trans aH⟩
   case measure=>simp[intOf];omega
  ·have bo:k=L rss:=by omega
   have HE:JP (wd=KZ rss ds):=by
    have x:=HJ.o;rw[xb (by omega),xb (by omega)]at x;unfold JP;rw[x];rfl
   obtain⟨⟨ea,ec,aL⟩,⟨qa,qc,aR⟩⟩:=HM.o.form;obtain⟨m0,m1,mf⟩:=HM.o.F;have KR:=JO ((HB.o.block (D (T w)) (by omega)).trans K0.o);have r0:W wr ⟨D (T w),0,O⟩=C (Y O 0 0):=by simp[x7,KR.o]
   have r1:W wr ⟨D (T w),1,O⟩=C (Y O 0 0):=by simp[x7,KR.o]
   have rf:∀j,wr.frozen? ⟨D (T w),j,O⟩=H:=fun j=>by simp[World.frozen?,KR.o]
   subst aL aR;have bp:¬(k:Int)<(L rss:Int):=by omega
   go_wp2;obtain⟨s0,s1,s2⟩:=vG [Y ea (L wd.E) ec,Y qa (L wd.g) qc] KR.o Z;refine gF (p:=2) (D (T w)) _ (by kernel_rfl) underlying73 Z (by kernel_rfl) Z (by exact s0) Z ⟨_,_,Z,?_,fun y e=>by have:=(HM.o.rgs.lt y e).1;omega,s2 _ _ (xF _) m.o⟩;rw[<- HE.o];have e1:=aU HM.o.K fun y e=>s1 y (by have:=(HM.o.K.lt y e).1;omega);refine⟨⟨e1.1,?_⟩,QP (aU HM.o.rgs fun y e=>s1 y (by have:=(HM.o.rgs.lt y e).1;omega)) Z⟩
   rcases e1.2 with h0|⟨g',aF,V,e,bl,q⟩
   ·exact xR h0
   ·exact xW ⟨g',aF,V,e,x0 _,q⟩
theorem Tryz.infoRuns:(prog.info? 154).map (fun i=>(i.zero,i.size,i.bytes))=C (C (Y O 0 0),1,24):=by kernel_rfl
namespace Q
theorem ZP:∀(i:Nat) (b:List JV),(dP i b).length=L b
 |_,[]=>Z
 |i,t::b=>by simp[dP,ZP (i+1) b]
theorem ZQ:∀(i:Nat) (b:List JV) (k:Nat) (h:k<L b),(dP i b).take (k+1)=(dP i b).take k++[fT b[k] (i+k)]
 |_,[],k,h=>by simp at h
 |i,t::b,0,h=>by simp[dP]
 |i,t::b,k+1,h=>by
  simp only[dP,List.take_succ_cons,List.cons_append,List.getElem_cons_succ];rw[ZQ (i+1) b k (by simpa using h),show i+1+k=i+(k+1)by omega]
theorem Pc(b:List JV)(k:Nat)(h:k<L b):(KC b).take (k+1)=(KC b).take k++[fT b[k] k]:=by
 have:=ZQ 0 b k h;simpa[KC]using this
theorem AY(b:List JV):(KC b).length=L b:=ZP 0 b
end Q
theorem En.bN(h:En w B v rs vs)(c:w.ownsRow B' t' sz' u n' xs')(e:189≠t')(j:166≠t')(b:w.grownBy w' u.ownBlock):En w' B v rs vs :=
 ⟨(qI h.ow c e b).1,h.len,fun i k x m=>(qI (h.K i k x m) c j b).1⟩
theorem Em.mF{n:Value}{m:List Value}(h:Em w B v rss vs wss)(r:En w 0 u rs m)(c:w1.ownsRow B 154 1 n (L rss+1) (vs++[u]))(k:w.grownBy w1 v.ownBlock):Em w1 B n (rss++[rs]) (vs++[u]) (wss++[m]):=by
 refine⟨by simpa using c,by simp[h.lv],by simp[h.lw],fun i p x s e b=>?_⟩;by_cases hlt:i<L rss
 ·rw[xc (by rw[h.lv];exact hlt)]at e;rw[xc (by rw[h.lw];exact hlt)]at b;rw[List.getElem_append_left hlt];exact(h.U i hlt x s e b).bN h.ow (by decide) (by decide) k
 ·simp at p;have j:i=L rss:=by omega
  subst j;rw[xd (by rw[h.lv];exact xF _),h.lv]at e;rw[xd (by rw[h.lw];exact xF _),h.lw]at b;simp at e b;subst e b;simp;exact r.bN h.ow (by decide) (by decide) k
theorem Em.bN(h:Em w B v rss vs wss)(e:w.ownsRow B' t' sz' u n' xs')(j:154≠t')(k:189≠t')(m:166≠t')(c:w.grownBy w' u.ownBlock):Em w' B v rss vs wss :=
 ⟨(qI h.ow e j c).1,h.lv,h.lw,fun i p x s r b=>(h.U i p x s r b).bN e k m c⟩
theorem En.base(h:En w B v rs vs):En w 0 v rs vs:=by
 refine⟨⟨h.ow.1,?_⟩,h.len,h.K⟩
 rcases h.ow.2 with j|⟨i,b,c,e,k,q⟩
 ·exact xR j
 ·exact xW ⟨i,b,c,e,x0 _,q⟩
def MP(rss:List (List Run)):List Int:=rss.map fun r=>(L r:Int)
def Pd(w w':World)(rss:List (List Run))(e:Ending):Prop:=∃rv vs wss gb gd,e=.returned (.agg #[rv,JQ gb (L rss) (L rss),JQ gd (L rss) (L rss),M H])/\Em w' 0 rv rss vs wss/\LE w' gb (MP rss)/\LE w' gd (eN (L rss))/\D (T w)<=gb/\D (T w)<=gd/\gb≠gd/\Below (D (T w)) w w'
theorem Pe(B bt ag:Nat)(r:List JV)(w:World)(h:bK w B (JQ bt (L r) ag) r)(hn:L r<20)(aF:∀t∈r,(∀s∈t.S,NZ s)/\L t.S<900/\OM t.S<100000):
  Calls prog 60 #[.agg #[JQ bt (L r) ag]] w fun e w'=>Pd w w' (KC r) e:=by
 obtain⟨i0,aN,aZ,bb,bd⟩:=info_parts Tryz.NS;obtain⟨j0,aQ,aW,aX,aY⟩:=info_parts Tryz.infoRuns;obtain⟨k0,k1,aT,aD⟩:=hJ w #[JQ bt (L r) ag] #[Y O 0 0,Y O 0 0,Y O 0 0,M H] 52 83;have HT:=JO h;have aJ:=JO aF;have av:=JO aD;clear aD h aF;go_enter func60,ntmps60;go_upto_region 1 with fail
 generalize hE:(w.alloc (G #[JQ bt (L r) ag] 52)).alloc (G #[Y O 0 0,Y O 0 0,Y O 0 0,M H] 83)=E at*;have bg:=aB k0 0 _ Z;have l1:D (T w)+1<D (T E):=by omega
 have K1:=JO k1;clear hE k0 k1 aT;go_wp2;go_loopw[3,4,11] (fun a b j wr=>∃(k:Nat) (cv bv:Value) (vs:List Value) (wss:List (List Value)),k<=L r/\j=z N k/\a=cv/\b=bv/\JP (Em wr (D (T E)) cv ((KC r).take k) vs wss)/\JP (wr.ownsRow (D (T E)) 3 1 bv k ((MP ((KC r).take k)).map (x1 N)))/\JP (Below (D (T E)) E wr)) fun _ _ j _=>L r-(intOf j).toNat
 case atStart=>exact⟨0,_,_,[],[],x0 _,Z,Z,Z,⟨by simpa using x5 _ _ _ _,Z,Z,fun i h=>by simp at h⟩,by simpa[JP,MP]using x5 _ _ _ _,x3 _ _⟩
 case round =>
  obtain⟨k,cv,bv,vs,wss,hk,rfl,ao,am,HC,HO,HB⟩:=hrel;have ao:=ao.symm;subst ao;have am:=am.symm;subst am;by_cases hlt:k<L r
  ·have bk:(k:Int)<(L r:Int):=by omega
   obtain⟨al,sa,sc,t0,t1,t2,ar⟩:=kP HT.o Z k hlt;have aa:JP (Below (D (T w)) w wr):=JW av.o (xF _) HB.o;have d0:=JS aa.o al t0;have d1:=JS aa.o al t1;have d2:=JS aa.o al t2;have HS:=JO (Pc r k hlt);have ai:JP (w.ownsRow 0 104 11 (Y sa r[k].S.length sc) r[k].S.length (MG r[k].S)):=by
    refine⟨ar.1,?_⟩
    rcases ar.2 with h0|⟨g',ab,V,e,aM,q⟩
    ·exact xR h0
    ·exact xW ⟨g',ab,V,e,x0 _,q⟩
   have ac:=aJ.o r[k] (x6 hlt);have F:((KC r).take k).length=k:=by simp[AY];omega
   clear t0 t1 t2 ar;generalize r[k]=t at*;have aK:JP ((wr.alloc (G #[z N t.block,z N t.i,Y sa (L t.S) sc] 96)).ownsRow 0 104 11 (Y sa (L t.S) sc) (L t.S) (MG t.S)):=aU ai.o fun y e=>(x2 _ _ _ (by have:=(ai.o.lt y e).2;have:=aa.o.size;omega)).trans (aa.o.block y (ai.o.lt y e).2);go_upto_region 7 with(first|(go_at_call 102;refine(Oc k t (Y sa (L t.S) sc) _ aK.o (by omega) ac.1 ac.2.1 ac.2.2).mono ?_;rintro e w1 ⟨mv,us,rfl,ap,az⟩))
   obtain⟨ma,mc,aR⟩:=ap.form;have au:Below (D (T wr)) wr (wr.alloc (G #[z N t.block,z N t.i,Y sa (L t.S) sc] 96)):=(x3 _ _).alloc (xF _) _;have J:Below (D (T wr)) wr w1:=JW au (xF _) az;have bm:(fT t k).length<100000:=by have:=ZD t k (OM t.S);unfold fT;omega
   generalize bl:fT t k=mr at*;subst aR;have M1:=JO ap.base;have B1:JP (Below (D (T E)) E w1):=JW HB.o (xF _) J;have C1:=JO (HC.o.X J);have O1:JP (w1.ownsRow (D (T E)) 3 1 bv k ((MP ((KC r).take k)).map (x1 N))):=aU HO.o fun y e=>J.block y (HO.o.lt y e).2;have aL:D (T E)<=D (T w1):=B1.o.size;have aG:JP (((KC r).take k).length=k):=F;obtain⟨ca,cc,an⟩:∃a c,cv=Y a k c:=by
    have I:=HC.o.ow;rw[F]at I
    rcases I.2 with⟨e,h0⟩|⟨g',c,V,e,_⟩
    ·exact⟨O,0,by rw[e,h0]⟩
    ·exact⟨_,c,e⟩
   obtain⟨ba,bc,ak⟩:∃a c,bv=Y a k c:=by
    rcases HO.o.2 with⟨e,h0⟩|⟨g',c,V,e,_⟩
    ·exact⟨O,0,by rw[e,h0]⟩
    ·exact⟨_,c,e⟩
   have ah:JP ((w1.alloc (G #[Y ma (L mr) mc] 154)).ownsRow (D (T E)) 154 1 cv k vs):=by
    have I:=C1.o.ow;rw[F]at I;exact aU I fun y e=>x2 _ _ _ (I.lt y e).2
   have aH:JP (∀j u,[x8 ma (L mr) mc][j]?=C u->(w1.alloc (G #[Y ma (L mr) mc] 154)).cell? ((⟨D (T w1),0,O⟩:Addr).add j)=C u):=xe (cs:=#[Y ma (L mr) mc]) (t:=154) (fr:=(0,0)) (heap_alloc_new w1 _);clear F ap az J au;subst an ak;go_upto_region 8 with(first|(at_builtin;refine wpList_append_lies _ Z (.tmp 19) (.tmp 21) 79 Z (D (T E)) 154 j0 (Y O 0 0) 1 24 underlying79 aQ aW aX aY Z (by decide) (Y ca k cc) k vs Z (by exact ah.o) ⟨D (T w1),0,O⟩ 1 1 [Y ma (L mr) mc] Z Z (by exact aH.o) (by simp[xg]) (by decide) (by unfold maxLen;omega) (by omega) (by simp;omega) _ Z ?_;intro gn cn w2 ad m ax be))
   have BA:Below (D (T w1)) w1 (w1.alloc (G #[Y ma (L mr) mc] 154)):=(x3 _ _).alloc (xF _) _;have C2:JP (Em w2 (D (T E)) (JQ gn (k+1) cn) ((KC r).take (k+1)) (vs++[Y ma (L mr) mc]) (wss++[us])):=by
    unfold JP;rw[HS.o];exact(C1.o.X BA).mF (M1.o.X BA) (by rw[aG.o];exact ad) m
   have O2:=qI (aU O1.o fun y e=>BA.block y (O1.o.lt y e).2) ah.o (by decide) m;have bh:D (T w1)+1<=D (T w2):=by have:=m.size;simp at this;omega
   have B2:JP (Below (D (T E)) E w2):=(B1.o.alloc aL _).trans ⟨m.os,m.tape,m.output,m.size,fun y hy=>m.block y (by simp;omega) fun e=>by have:=(ah.o.lt y e.symm).1;omega⟩;have aj:JP ((w2.alloc (G #[z N (L mr:Int)] 3)).ownsRow (D (T E)) 3 1 (Y ba k bc) k ((MP ((KC r).take k)).map (x1 N))):=aU O2.1 fun y e=>x2 _ _ _ (O2.1.lt y e).2;have aI:JP (∀j u,[x1 N (L mr:Int)][j]?=C u->(w2.alloc (G #[z N (L mr:Int)] 3)).cell? ((⟨D (T w2),0,O⟩:Addr).add j)=C u):=xe (cs:=#[z N (L mr:Int)]) (t:=3) (fr:=(0,0)) (heap_alloc_new w2 _);clear ad m ax O2 BA;go_wp2_with(first|(at_builtin;refine wpList_append_lies _ Z (.tmp 23) (.tmp 26) 31 Z (D (T E)) 3 i0 (z N 0) 1 8 underlying31 aN aZ bb bd Z (by decide) (Y ba k bc) k ((MP ((KC r).take k)).map (x1 N)) Z (by exact aj.o) ⟨D (T w2),0,O⟩ 1 1 [z N (L mr:Int)] Z Z (by exact aI.o) (by simp[xg]) (by decide) (by unfold maxLen;omega) (by omega) (by simp;omega) _ Z ?_;intro g3 c3 w3 ae A ay bf));have C3:=JO ((C2.o.X ((x3 _ _).alloc (xF _) _)).bN aj.o (by decide) (by decide) (by decide) A);have O3:JP (w3.ownsRow (D (T E)) 3 1 (JQ g3 (k+1) c3) (k+1) ((MP ((KC r).take (k+1))).map (x1 N))):=by
    unfold JP;rw[HS.o];unfold MP;rw[xh,xh];exact ae
   have B3:JP (Below (D (T E)) E w3):=(B2.o.alloc (by omega) _).trans ⟨A.os,A.tape,A.output,A.size,fun y hy=>A.block y (by simp;omega) fun e=>by have:=(aj.o.lt y e.symm).1;omega⟩;clear ae A ay;go_roundw
   case rel=>exact⟨k+1,_,_,_,_,by omega,by go_num,Z,Z,C3,O3,B3⟩
   case measure=>simp[intOf];omega
  ·have aE:k=L r:=by omega
   have HL:JP ((MP (KC r)).length=(KC r).length):=by simp[JP,MP]
   have af:=JO (AY r);have C0:JP (Em wr (D (T E)) cv (KC r) vs wss):=by have I:=HC.o;rw[aE,xi (by rw[af.o];exact xF _)]at I;exact I
   have O0:JP (ME wr bv (MP (KC r))):=by
    have I:=HO.o;rw[aE,xi (by rw[af.o];exact xF _)]at I;exact QP I (by rw[HL.o,af.o])
   obtain⟨ca,cc,an⟩:∃a c,cv=Y a (KC r).length c:=by
    rcases C0.o.ow.2 with⟨e,h0⟩|⟨g',c,V,e,_⟩
    ·exact⟨O,0,by rw[e,h0]⟩
    ·exact⟨_,c,e⟩
   obtain⟨ba,bc,ak,_⟩:=O0.o.form;clear HC HO;subst an ak;go_wp2_with(first|(go_at_call 103;refine(DU _ (MP (KC r)) _ O0.o (by rw[HL.o,af.o];omega)).mono ?_;rintro e w2 ⟨v1,v2,v3,rfl,⟨gb,gd,rfl,rfl,rfl,aO,aP,bi,bj,aS⟩,aC⟩;have B2:JP (Below (D (T E)) E w2):=JW HB.o (xF _) aC;have K2:=JO ((B2.o.block _ l1).trans K1.o);obtain⟨t0,t1,t2,t3,tf,tl⟩:=uD K2.o;have IB:=JO aO;have ID:=JO aP;have C2:=JO (C0.o.X aC);rw[HL.o]));obtain⟨s0,s1,s2⟩:=vC (s0:=Y ca (KC r).length cc) (s1:=JQ gb (KC r).length (KC r).length) (s2:=JQ gd (KC r).length (KC r).length) (s3:=M H) K2.o;have bn:=HB.o.size;have aw:=ID.o;rw[HL.o]at aw;have aq:∀{B n sz:Nat} {t:TypeId} {v:Value} {xs:List Value},w2.ownsRow B t sz v n xs->t≠83->∀k,v.ownBlock=C k->k≠D (T w)+1:=fun h ht k e e2=>eD h K2.o ht (by rw[e,e2])
   refine gF (p:=2) (D (T w)+1) _ (by kernel_rfl) underlying83 Z (by kernel_rfl) Z (by exact s0) Z ⟨_,vs,wss,gb,gd,Z,⟨?_,C2.o.lv,C2.o.lw,fun i hi x xs hx aV=>?_⟩,IB.o.aA (s1 _ (by omega)),aw.aA (s1 _ (by omega)),by omega,by omega,aS,s2 _ _ (by omega) (JW av.o (xF _) B2.o)⟩
   ·have I:=aU C2.o.ow fun k e=>s1 k (aq C2.o.ow (by decide) k e);refine⟨I.1,?_⟩
    rcases I.2 with h0|⟨g',ab,V,e,aM,q⟩
    ·exact xR h0
    ·exact xW ⟨g',ab,V,e,x0 _,q⟩
   ·have hr:=C2.o.U i hi x xs hx aV;exact⟨aU hr.ow fun k e=>s1 k (aq hr.ow (by decide) k e),hr.len,fun j hj y hy=>aU (hr.K j hj y hy) fun k e=>s1 k (aq (hr.K j hj y hy) (by decide) k e)⟩
def Box(w:World)(gc:Nat):Prop:=∃c,w.heap[gc]?=C (G c 87 (0,0))/\c.size=22
theorem Box.lt(h:Box w gc):gc<D (T w):=by
 obtain⟨c,b,_⟩:=h;exact(Array.getElem?_eq_some_iff.1 b).1
theorem Box.of(h:Box w gc)(e:w'.heap[gc]?=w.heap[gc]?):Box w' gc:=by
 obtain⟨c,b,i⟩:=h;exact⟨c,e.trans b,i⟩
theorem Box.X(h:Box w gc)(b:Below (D (T w)) w w'):Box w' gc:=h.of (b.block _ h.lt)
theorem Box.bS(h:Box w gc)(j:Ep w w' gc o gd):Box w' gc:=by
 obtain⟨c,e,k⟩:=h;obtain⟨b,i,m⟩:=j.shape _ _ _ e;exact⟨b,i,by omega⟩
theorem Box.free(h:Box w gc)(j:Nat):w.frozen? ⟨gc,j,O⟩=H:=by
 obtain⟨c,b,_⟩:=h;simp[World.frozen?,b]
theorem Box.there(h:Box w gc)(o n:Nat)(i:o+n<=22):w.there gc o n:=by
 obtain⟨c,b,e⟩:=h;exact qP b (by omega)
theorem Box.set(h:Box w gc)(o:Nat)(vs:List Value)(p:o+L vs<=22):
  Box (w.setCells gc o vs) gc/\(w.setCells gc o vs).rangeAt gc o vs/\(∀j,j<o\/o+L vs<=j->(w.setCells gc o vs).cell? ⟨gc,j,O⟩=W w ⟨gc,j,O⟩)/\∀k,k≠gc->(w.setCells gc o vs).heap[k]?=w.heap[k]?:=by
 refine⟨?_,World.rangeAt_setCells_same w gc o vs (h.there o (L vs) p),fun j r=>?_,fun k n=>vL gc vs o w k n⟩
 ·obtain⟨c,b,i⟩:=h;exact⟨_,uY vs o w c b,by rw[Ho];exact i⟩
 ·obtain⟨c,b,i⟩:=h;have m:=uY vs o w c b;simp only[x7,b,m];rw[TE vs o c j (by omega)];have e:¬(o<=j/\j<o+L vs):=by omega
  simp[e]
theorem WsOn.CF{F:Value}{rest:List (List Int)}{c:TypeId}(h:WsOn w g o F vs wss gb gd rss ds rest)(hg:w.heap[g]?=C (G cc c (0,0)))(h1:154≠c)(h2:189≠c)(h3:166≠c)(m:∀j,o<=j->j<o+4->W w' ⟨g,j,O⟩=W w ⟨g,j,O⟩)(hf:∀j,w'.frozen? ⟨g,j,O⟩=H)(p:∀k,k≠g->w'.heap[k]?=w.heap[k]?)(hs:D (T w)<=D (T w')):WsOn w' g o F vs wss gb gd rss ds rest:=by
 obtain⟨b,⟨y,S,V,cf,cl,X,cd,A,E,n3,n4⟩,h5⟩:=h.ML;have r:∀{B n I:Nat} {t:TypeId} {v:Value} {J:List Value},w.ownsRow B t I v n J->t≠c->w'.ownsRow B t I v n J:=fun h ht=>aU h fun k e=>p k fun e2=>eD h hg ht (by rw[e,e2])
 refine⟨(m o (by omega) (by omega)).trans h.c0,⟨r h.U.ow h1,h.U.lv,h.U.lw,fun i hi u us hu s=>?_⟩,b,⟨(m _ (by omega) (by omega)).trans y,(m _ (by omega) (by omega)).trans S,(m _ (by omega) (by omega)).trans V,hf,by omega,X.aA (p _ fun e=>E e.symm),cd.aA (p _ fun e=>A e.symm),A,E,n3,n4⟩,h5⟩;have q:=h.U.U i hi u us hu s;exact⟨r q.ow h2,q.len,fun j hj x hx=>r (q.K j hj x hx) h3⟩
structure WA where
 rv:Value
 vs:List Value
 wss:List (List Value)
 gb:Nat
 gd:Nat
structure RA where
 ev:Value
 rg:Value
 fa:FA
 cv:Value
 cvs:List Value
 gb:Nat
 gd:Nat
def WA.on(A:WA)(w:World)(gc:Nat)(rss:List (List Run))(ds:List Int)(rest:List (List Int)):Prop:=WsOn w gc 13 A.rv A.vs A.wss A.gb A.gd rss ds rest
structure RA.on(R:RA)(w:World)(gc:Nat)(A:WA)(wd:Wd)(ds:List Int)(rest:List (List Int)):Prop where
 c0:W w ⟨gc,0,O⟩=C R.ev
 c1:W w ⟨gc,1,O⟩=C R.rg
 wdi:NO w R.ev R.rg wd
 fc:w.rangeAt gc 2 (LY R.fa).toList
 fin:Ef w R.fa (KK wd.E)
 rd:RdOn w gc 17 R.cv R.cvs R.gb R.gd (KL wd.E) ds rest
 n1:A.gb≠R.gd
 n2:A.gd≠R.gd
 n3:R.rg.ownBlock≠C R.gd/\R.rg.ownBlock≠C gc
def RA.nb(R:RA)(k:Nat):Prop:=R.rg.ownBlock=C k\/R.cv.ownBlock=C k\/(∃u∈R.cvs,u.ownBlock=C k)\/k=R.gb\/k=R.gd
namespace Q
structure WdOk(wd:Wd):Prop where
 pos:0<L wd.E
 le:L wd.E<=64
 h:QX wd.E
 g:L wd.g<100
 vals:∀x∈wd.g,0<=x/\x<4
 evals:∀e∈wd.E,0<=e.value/\e.value<4
 fo:(LX (KY wd.E (LC wd.E))).length<100000000
def tP(wd:Wd):List (Wd×List Int):=(LX (NV (KL wd.E))).map fun r=>(wd,r)
theorem ZR(es:List Ev):(KL es).length=L es:=by simp[KL]
theorem Pf(es:List Ev)(i:Nat)(h:L es<=64):(kR es i).length<=64:=by
 unfold kR
 split
 ·rw[List.length_map];have:=List.length_filter_le (pW es i) (List.range (L es));simp at this;omega
 ·simp
theorem ZS(es:List Ev)(h:L es<=64):∀c∈KL es,L c<=64:=by
 intro c b;simp only[KL,List.mem_map]at b;obtain⟨i,_,rfl⟩:=b;exact Pf es i h
theorem Ph(es:List Ev)(h:L es<=64):∀b∈NV (KL es),b<1000000000:=by
 intro b e;simp only[NV,List.mem_map]at e;obtain⟨c,i,rfl⟩:=e;have:=ZS es h c i;omega
end Q
structure RS where
 R:RA
 wd:Wd
 ds:List Int
 rest:List (List Int)
def dD(rss:List (List Run))(st:Option RS)(rest:List (List Int)):List (Wd×List Int):=
 (match st with|none=>[]|some s=>s.rest.map fun r=>(s.wd,r))++rest.flatMap fun d=>tP (KZ rss d)
def nbS(st:Option RS)(k:Nat):Prop:=∃s,st=C s/\s.R.nb k
def gdS(st:Option RS)(k:Nat):Prop:=∃s,st=C s/\k=s.R.gd
structure Ek(w w':World)(gc:Nat)(A:WA)(st:Option RS):Prop where
 os:w'.os=w.os
 tape:w'.tape=w.tape
 output:w'.output=w.output
 size:D (T w)<=D (T w')
 block:∀k,k<D (T w)->k≠gc->k≠A.gd->¬gdS st k->w'.heap[k]?=w.heap[k]?
theorem Ek.refl(w:World)(gc:Nat)(A:WA)(b:Option RS):Ek w w gc A b:=⟨Z,Z,Z,xF _,fun _ _ _ _ _=>Z⟩
theorem Ek.X{A:WA}{e:Option RS}(h:Ek w w1 gc A e)(b:Below (D (T w1)) w1 w2):Ek w w2 gc A e :=
 ⟨b.os.trans h.os,b.tape.trans h.tape,b.output.trans h.output,x4 h.size b.size,fun k c i j m=>(b.block k (xj c h.size)).trans (h.block k c i j m)⟩
theorem Ek.bS{A:WA}{i:Option RS}(h:Ek w w1 gc A i)(b:Ep w1 w2 gc o gd)(r:gd=A.gd\/gdS i gd\/D (T w)<=gd):Ek w w2 gc A i :=
 ⟨b.os.trans h.os,b.tape.trans h.tape,b.output.trans h.output,by rw[b.size];exact h.size,fun k p j m n=>(b.block k j fun e=>by
  subst e
  rcases r with c|c|c
  ·exact m c
  ·exact n c
  ·omega).trans (h.block k p j m n)⟩
theorem Ek.set{A:WA}{e:Option RS}(h:Ek w w1 gc A e)(o:Nat)(vs:List Value):Ek w (w1.setCells gc o vs) gc A e:=by
 have b:=CT (g:=gc) vs o w1;exact⟨b.os.trans h.os,b.tape.trans h.tape,b.output.trans h.output,by rw[nN];exact h.size,fun k i c j m=>(vL gc vs o w1 k c).trans (h.block k i c j m)⟩
theorem Ek.trans{A:WA}{i c:Option RS}(h:Ek w w1 gc A i)(b:Ek w1 w2 gc A c)(s:∀k,gdS c k->gdS i k\/D (T w)<=k):Ek w w2 gc A i :=
 ⟨b.os.trans h.os,b.tape.trans h.tape,b.output.trans h.output,x4 h.size b.size,fun k m n p r=>(b.block k (xj m h.size) n p fun e=>by
  rcases s k e with j|j
  ·exact r j
  ·omega).trans (h.block k m n p r)⟩
structure Eo(w:World)(gc:Nat)(A:WA)(rss:List (List Run))(st:Option RS)(ds:List Int)(rest:List (List Int)):Prop where
 box:Box w gc
 ws:A.on w gc rss ds rest
 beg:W w ⟨gc,21,O⟩=C (M st.isSome)
 rs:∀s,st=C s->s.R.on w gc A s.wd s.ds s.rest/\WdOk s.wd
theorem WA.on.X{A:WA}{rest:List (List Int)}(h:A.on w gc rss ds rest)(b:Below (D (T w)) w w'):A.on w' gc rss ds rest:=WsOn.X h b
theorem ZT(h:w.rangeAt g o l)(b:Below (D (T w)) w w')(c:g<D (T w)):w'.rangeAt g o l:=eH h (b.block g c)
theorem RA.on.X{R:RA}{A:WA}{rest:List (List Int)}(h:R.on w gc A wd ds rest)(c:Below (D (T w)) w w'):R.on w' gc A wd ds rest:=by
 obtain⟨b,i⟩:=h.rd.ML.ML;have e:=i.lt;exact⟨(c.cell e).trans h.c0,(c.cell e).trans h.c1,h.wdi.X c,ZT h.fc c e,h.fin.X c,h.rd.X c,h.n1,h.n2,h.n3⟩
theorem Eo.X{A:WA}{e:Option RS}{rest:List (List Int)}(h:Eo w gc A rss e ds rest)(b:Below (D (T w)) w w'):Eo w' gc A rss e ds rest :=
 ⟨h.box.X b,h.ws.X b,(b.cell h.box.lt).trans h.beg,fun s c=>⟨(h.rs s c).1.X b,(h.rs s c).2⟩⟩
theorem sD(I:World->Nat->Prop):∃ μ:World->Nat,∀w,(∃n,I w n)->I w (μ w)/\∀m,I w m->μ w<=m:=by
 have KP:∀P:Nat->Prop,(∃n,P n)->∃n,P n/\∀m,P m->n<=m:=by
  intro P j;obtain⟨n,c⟩:=j
  induction n using Nat.strongRecOn with
  |ind n ih =>
   by_cases h:∃m,m<n/\P m
   ·obtain⟨m,b,k⟩:=h;exact ih m b k
   ·exact⟨n,c,fun m b=>by
     by_cases hl:m<n
     ·exact absurd ⟨m,hl,b⟩ h
     ·omega⟩
 have i:∀w,∃n,(∃n,I w n)->I w n/\∀m,I w m->n<=m:=fun w=>by
  by_cases h:∃n,I w n
  ·obtain⟨n,c⟩:=KP (I w) h;exact⟨n,fun _=>c⟩
  ·exact⟨0,fun e=>absurd e h⟩
 exact⟨fun w=>Classical.choose (i w),fun w=>Classical.choose_spec (i w)⟩
structure CandW(w:World)(gc:Nat)(A:WA)(rss:List (List Run))(ds:List Int)(rest:List (List Int)):Prop where
 box:Box w gc
 ws:A.on w gc rss ds rest
 beg:∃b,W w ⟨gc,21,O⟩=C (M b)
def ZU(w w':World)(gc:Nat)(A:WA)(rss:List (List Run))(st:Option RS)(rem:List (Wd×List Int))(b:Bool):Prop :=
 Ek w w' gc A st/\(b=H/\rem=[]\/b=true/\∃s ds rest,Eo w' gc A rss (C s) ds rest/\rem=(s.wd,s.ds)::dD rss (C s) rest/\MV (NV (KL s.wd.E)) s.ds/\(∀k,s.R.nb k->nbS st k\/D (T w)<=k)/\(gdS st s.R.gd\/D (T w)<=s.R.gd))
theorem ZV{A:WA}{rest:List (List Int)}(h:A.on w gc rss ds rest)(c:Ep w w' gc 18 gd)(I:Box w gc)(y:A.gb≠gd)(E:A.gd≠gd)(J:w.heap[gd]?=C (G cd 3 (0,0))):A.on w' gc rss ds rest:=by
 obtain⟨b,⟨m,r,s,x,cl,t,i,n,p,K,S⟩,F⟩:=h.ML;obtain⟨cc,k,_⟩:=I;exact⟨(c.cell _ (by omega)).trans h.c0,Em.bS h.U c k (by decide) (by decide) (by decide) J,b,⟨(c.cell _ (by omega)).trans m,(c.cell _ (by omega)).trans r,(c.cell _ (by omega)).trans s,fun j=>(c.froz j).trans (x j),by rw[c.size];exact cl,t.aA (c.block _ (fun e=>p e.symm) y),i.aA (c.block _ (fun e=>n e.symm) E),n,p,K,S⟩,F⟩
theorem Pi{ev:Value}(h:NO w ev rg wd)(c:Ep w w' gc o gd)(i:w.heap[gc]?=C (G cc 87 (0,0)))(m:w.heap[gd]?=C (G cd 3 (0,0)))(j:rg.ownBlock≠C gd/\rg.ownBlock≠C gc):NO w' ev rg wd :=
 ⟨wV h.K c i (by decide) m (by decide),h.g.ow w' (fun k e=>c.block k (fun b=>j.2 (by rw[e,b])) fun b=>j.1 (by rw[e,b])) (by rw[c.size];exact xF _)⟩
theorem pQ{k:Nat}{l:List Nat}{c:Array Value}{t:TypeId}(h:LJ w g l)(b:w.heap[k]?=C (G c t (0,0)))(i:164≠t):g≠k:=fun e=>by
 unfold LJ at h;rw[e,b]at h;simp at h;exact i h.2.symm
theorem Ef.off(h:Ef w a f)(c:∀g l,LJ w g l->w'.heap[g]?=w.heap[g]?)(b:NC w' a.ev f.E):Ef w' a f :=
 have K:∀{g n l},Ed w g n l->Ed w' g n l:=fun{g n l} h=>⟨h.at_.aA (c g l h.at_),h.len,h.fits⟩
 ⟨b,h.len,h.n64,K h.r1,K h.r2,K h.r3,K h.r4,K h.r5,K h.r6,K h.r7,K h.r8,K h.r9⟩
theorem Pj(h:Ef w a f)(c:Ep w w' gc o gd)(b:w.heap[gc]?=C (G cc 87 (0,0)))(e:w.heap[gd]?=C (G cd 3 (0,0))):Ef w' a f :=
 h.off (fun g l i=>c.block g (pQ i b (by decide)) (pQ i e (by decide))) (wV h.ev c b (by decide) e (by decide))
theorem Pk{p:Nat}(h:w.rangeAt gc p l)(c:Ep w w' gc o gd)(i:p+L l<=o+2):w'.rangeAt gc p l:=fun j u b=>by
 have e:j<L l:=(List.getElem?_eq_some_iff.1 b).1;rw[<- h j u b];exact c.cell _ (by simp;omega)
def qG(w:World)(gc:Nat)(A:WA)(rss:List (List Run))(st:Option RS)(R0:List (Wd×List Int))(wr:World)(n:Nat):Prop :=
 ∃st1 ds1 rest1,Eo wr gc A rss st1 ds1 rest1/\dD rss st1 rest1=R0/\L rest1=n/\Ek w wr gc A st/\(∀k,nbS st1 k->nbS st k\/D (T w)<=k)/\∀k,gdS st1 k->gdS st k\/D (T w)<=k
theorem qG.some{wr:World}{A:WA}{t:Option RS}{J:List (Wd×List Int)}{s:RS}{m:List Int}{e:List (List Int)}(j:Eo wr gc A rss (C s) m e)(S:dD rss (C s) e=J)(hF:Ek w wr gc A t)(K:(∀k,nbS (C s) k->nbS t k\/D (T w)<=k)/\∀k,gdS (C s) k->gdS t k\/D (T w)<=k){r:List Int}(i:Ep wr w2 gc 18 s.R.gd)(X:s.rest=r::q)(I:RdOn w2 gc 17 s.R.cv s.R.cvs s.R.gb s.R.gd (KL s.wd.E) r q)(U:MV (NV (KL s.wd.E)) r)(x:Ek w w2 gc A t):ZU w w2 gc A rss t J true:=by
 obtain⟨c,F⟩:=j.rs s Z;obtain⟨cc,n,_⟩:=id j.box;obtain⟨b,y⟩:=c.rd.ML.ML;refine⟨x,xW ⟨Z,⟨s.R,s.wd,r,q⟩,m,e,⟨j.box.bS i,ZV j.ws i j.box c.n1 c.n2 y.digits,(i.cell _ (by omega)).trans j.beg,?_⟩,?_,U,fun k V=>K.1 k ⟨s,Z,V⟩,K.2 _ ⟨s,Z,Z⟩⟩⟩
 ·intro s' p;simp only[Option.some.injEq]at p;subst p;exact⟨⟨(i.cell _ (by omega)).trans c.c0,(i.cell _ (by omega)).trans c.c1,Pi c.wdi i n y.digits c.n3,Pk c.fc i (by simp[LY]),Pj c.fin i n y.digits,I,c.n1,c.n2,c.n3⟩,F⟩
 ·rw[<- S];simp[dD,X]
structure CW(w0 w:World)(gc:Nat)(A:WA)(rss:List (List Run))(st:Option RS)(d:List Int)(q:List (List Int)):Prop where
 box:Box w gc
 ws:A.on w gc rss d q
 beg:W w ⟨gc,21,O⟩=C (M true)
 fr:Ek w0 w gc A st
theorem CW.X{A:WA}{c:Option RS}(h:CW w0 w gc A rss c d q)(b:Below (D (T w)) w w'):CW w0 w' gc A rss c d q :=
 ⟨h.box.X b,h.ws.X b,(b.cell h.box.lt).trans h.beg,h.fr.X b⟩
theorem CW.set{A:WA}{i:Option RS}(h:CW w0 w gc A rss i d q)(o:Nat)(vs:List Value)(p:o+L vs<=13\/17<=o/\o+L vs<=21):CW w0 (w.setCells gc o vs) gc A rss i d q:=by
 obtain⟨c,r,e,k⟩:=h.box.set o vs (by omega);obtain⟨cc,b,_⟩:=id h.box;exact⟨c,WsOn.CF h.ws b (by decide) (by decide) (by decide) (fun j m n=>e j (by omega)) (fun j=>c.free j) k (by rw[nN];exact xF _),(e 21 (by omega)).trans h.beg,h.fr.set o vs⟩
theorem CW.start{A:WA}{i:Option RS}(e:Box w gc)(m:A.on w gc rss d q)(k:Ek w0 w gc A i):CW w0 (w.setCell ⟨gc,21,O⟩ (M true)) gc A rss i d q:=by
 obtain⟨c,r,p,n⟩:=e.set 21 [M true] (by decide);obtain⟨cc,b,_⟩:=id e;exact⟨c,WsOn.CF m b (by decide) (by decide) (by decide) (fun j s t=>p j (xR (by omega))) (fun j=>c.free j) n (by simp),r 0 _ Z,k.set 21 [M true]⟩
structure CW1(w:World)(gc:Nat)(ev rg:Value)(wd:Wd):Prop where
 c0:W w ⟨gc,0,O⟩=C ev
 c1:W w ⟨gc,1,O⟩=C rg
 wdi:NO w ev rg wd
 ne:rg.ownBlock≠C gc
theorem CW1.X{ev:Value}(h:CW1 w gc ev rg wd)(c:Box w gc)(b:Below (D (T w)) w w'):CW1 w' gc ev rg wd :=
 ⟨(b.cell c.lt).trans h.c0,(b.cell c.lt).trans h.c1,h.wdi.X b,h.ne⟩
theorem EJ{ev:Value}(h:NO w ev rg wd)(ne:rg.ownBlock≠C gc)(i:Box w gc)(o:Nat)(vs:List Value)(m:o+L vs<=22):NO (w.setCells gc o vs) ev rg wd:=by
 obtain⟨n,r,p,j⟩:=i.set o vs m;obtain⟨cc,c,_⟩:=id i;exact⟨aU h.K fun k e=>j k fun b=>eD h.K c (by decide) (by rw[e,b]),h.g.ow _ (fun k e=>j k fun b=>ne (by rw[e,b])) (by rw[nN];exact xF _)⟩
theorem CW1.set{ev:Value}(h:CW1 w gc ev rg wd)(b:Box w gc)(o:Nat)(vs:List Value)(c:o+L vs<=22)(j:2<=o):CW1 (w.setCells gc o vs) gc ev rg wd:=by
 obtain⟨i,m,e,k⟩:=b.set o vs c;exact⟨(e 0 (xR (by omega))).trans h.c0,(e 1 (xR (by omega))).trans h.c1,EJ h.wdi h.ne b o vs c,h.ne⟩
theorem CW1.start{ev:Value}(h:NO w ev rg wd)(ne:rg.ownBlock≠C gc)(b:Box w gc):CW1 (w.setCells gc 0 [ev,rg]) gc ev rg wd:=by
 obtain⟨e,c,j,i⟩:=b.set 0 [ev,rg] (by simp);exact⟨c 0 _ Z,c 1 _ Z,EJ h ne b 0 [ev,rg] (by simp),ne⟩
structure CW2(w:World)(gc:Nat)(fa:FA)(es:List Ev):Prop where
 fc:w.rangeAt gc 2 (LY fa).toList
 fin:Ef w fa (KK es)
theorem CW2.X{es:List Ev}(h:CW2 w gc fa es)(c:Box w gc)(b:Below (D (T w)) w w'):CW2 w' gc fa es:=⟨ZT h.fc b c.lt,h.fin.X b⟩
theorem EW(h:Ef w fa f)(c:Box w gc)(o:Nat)(vs:List Value)(m:o+L vs<=22):Ef (w.setCells gc o vs) fa f:=by
 obtain⟨n,r,p,i⟩:=c.set o vs m;obtain⟨cc,b,_⟩:=id c;exact h.off (fun g l c=>i g (pQ c b (by decide))) (aU h.ev fun k e=>i k fun j=>eD h.ev b (by decide) (by rw[e,j]))
theorem CW2.start{es:List Ev}(h:Ef w fa (KK es))(b:Box w gc):CW2 (w.setCells gc 2 (LY fa).toList) gc fa es:=by
 obtain⟨e,c,j,i⟩:=b.set 2 (LY fa).toList (by simp[LY]);exact⟨c,EW h b 2 _ (by simp[LY])⟩
theorem CW2.set{es:List Ev}(h:CW2 w gc fa es)(b:Box w gc)(o:Nat)(vs:List Value)(c:o+L vs<=22)(e:12<=o):CW2 (w.setCells gc o vs) gc fa es :=
 ⟨World.rangeAt_setCells_apart h.fc gc o vs (xW (xR (by simp[LY];omega))),EW h.fin b o vs c⟩
theorem ZW{A:WA}{st:Option RS}{ev:Value}{b:Option Addr}{c:Nat}{n:List Value}{m:Nat}(h:CW w0 w gc A rss st d q)(h1:CW1 w gc ev rg wd)(h2:CW2 w gc fa wd.E)(j:LA w m (Y b (KL wd.E).length c) (KL wd.E) n)(V:LE w gb (NV (KL wd.E)))(X:LE w gd (eN (KL wd.E).length))(ac:m<=gb)(ad:m<=gd)(S:gb≠gd)(U:(x8 b (KL wd.E).length c).ownBlock≠C gd)(r:∀u∈n,∀k,u.ownBlock=C k->m<=k/\k≠gd)(af:gc<m)(hA:A.gb<m/\A.gd<m)(aa:∀k,rg.ownBlock=C k->k<m)(ab:WdOk wd):
  Eo (w.setCells gc 17 [Y b (KL wd.E).length c,JQ gb (KL wd.E).length (KL wd.E).length,JQ gd (KL wd.E).length (KL wd.E).length,M H]) gc A rss (C ⟨⟨ev,rg,fa,Y b (KL wd.E).length c,n,gb,gd⟩,wd,eN (KL wd.E).length,LX (NV (KL wd.E))⟩) d q:=by
 have g:=h.set 17 [Y b (KL wd.E).length c,JQ gb (KL wd.E).length (KL wd.E).length,JQ gd (KL wd.E).length (KL wd.E).length,M H] (xW (by simp));have F:=h1.set h.box 17 [Y b (KL wd.E).length c,JQ gb (KL wd.E).length (KL wd.E).length,JQ gd (KL wd.E).length (KL wd.E).length,M H] (by simp) (by decide);have g2:=h2.set h.box 17 [Y b (KL wd.E).length c,JQ gb (KL wd.E).length (KL wd.E).length,JQ gd (KL wd.E).length (KL wd.E).length,M H] (by simp) (by decide);obtain⟨b6,J,o6,I⟩:=h.box.set 17 [Y b (KL wd.E).length c,JQ gb (KL wd.E).length (KL wd.E).length,JQ gd (KL wd.E).length (KL wd.E).length,M H] (by simp);have t:∀k,(x8 b (KL wd.E).length c).ownBlock=C k->m<=k:=fun k e=>(j.ow.lt k e).1
 refine⟨g.box,g.ws,g.beg,fun s hs=>?_⟩;simp only[Option.some.injEq]at hs;subst hs;refine⟨⟨F.c0,F.c1,F.wdi,g2.fc,g2.fin,⟨J 0 _ Z,⟨?_,j.len,fun i hi x hx=>(j.y i hi x hx).ow _ (fun k e=>I k (by have:=(r x (List.mem_of_getElem? hx) k e).1;omega)) (by rw[nN];exact xF _)⟩,⟨H,⟨?_,?_,J 3 _ Z,g.box.free,g.box.lt,V.aA (I _ (by omega)),?_,by show gc≠gd;omega,by show gc≠gb;omega,S,?_⟩,xR ⟨Z,?_,Z⟩⟩,⟨U,fun e=>?_⟩,fun u hu k e=>?_⟩,?_,?_,⟨fun e=>?_,F.ne⟩⟩,ab⟩
 ·have h3:=aU j.ow fun k e=>I k (by have:=t k e;omega);refine⟨h3.1,?_⟩
  rcases h3.2 with h0|⟨g',p,K,e,ae,q⟩
  ·exact xR h0
  ·exact xW ⟨g',p,K,e,x0 _,q⟩
 ·rw[qH];exact J 1 _ Z
 ·have hz:(eN (KL wd.E).length).length=(KL wd.E).length:=by simp[eN]
  show _=C (JQ gd (eN (KL wd.E).length).length (eN (KL wd.E).length).length);rw[hz];exact J 2 _ Z
 ·exact X.aA (I _ (by omega))
 ·show(eN (KL wd.E).length).length=_;rw[qH];simp[eN]
 ·show eN (KL wd.E).length=_;rw[qH]
 ·have:=t gc e;omega
 ·have:=r u hu k e;exact⟨this.2,by omega⟩
 ·show A.gb≠gd;omega
 ·show A.gd≠gd;omega
 ·have:=aa gd e;omega
end Go.Proofs.YtlikcongbhhpfaaGreatDoor
