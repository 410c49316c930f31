import Derived.Test.YteekngiepnnmjaaGreatDoorV16
import Derived.Test.YteekngiepnnmjaaGreatDoorV26
set_option linter.all false
set_option maxHeartbeats 0
namespace Go.Proofs.YteekngiepnnmjaaGreatDoor
open Go Go.RowKit Go.Proofs.Tryz P Q R
open scoped Classical
set_option maxRecDepth 1000000
open Go.RowKit renaming Below->σ
open Go renaming World->ν,Value->φ,Calls->ρ
open _root_ renaming List->ι,absurd->ω,ByteArray->ξ,Int->O,Int->τ,Nat->π
open Go.Proofs.Tryz renaming prog->ψ
variable {B N bt gw tc:π}{ts:ι VZ}{tvs vs:ι φ}{Fs:ι (ι π)}{a:Act}{s:ξ}{w w' w1:ν}{ov:φ}{rs:ι (ι τ)}
open List renaming length->T
open _root_.Array renaming size->W
open Go.World renaming heap->V
open Go.Value renaming slice->Y,string->U,bool->z,int->H
open Option renaming none->C,some->M
open Go.Ending renaming returned->I
open Go.IntKind renaming i64->F
open Bool renaming true->S
open Nat renaming le_refl->xF,lt_of_le_of_lt->xW,le_trans->x1
open Go.RowKit.Below renaming refl->xR
open List renaming getElem?_eq_getElem->x2,getElem_mem->x3,take_succ_eq_append_getElem->x4,length_map->x6
open _root_.ByteArray renaming toList->x5
namespace R
def Nk(l:ι Th)(t:Th):oX (l++[t])=oX l+(WF tT t.body+2*WF isB t.body):=by
 induction l with
 |nil=>simp[oX]
 |cons a r ih=>simp only[List.cons_append,oX,ih];omega
def kLp:tT=fB [102,101,110,99,101] []:=by
 funext x
 unfold tT fB;rw[show jS.toList=[102,101,110,99,101]from bI _];simp
def Nl(ts:ι Th)(e:∀t∈ts,WV t.body<=40)(k:π)(d:k<=T ts):0<=oX (ts.take k)/\oX (ts.take k)<=120*k:=by
 induction k with
 |zero=>simp[oX]
 |succ k ih =>
  have b:k<T ts:=d;rw[x4 b,Nk];have f:=ih (by omega);have c:=e _ (x3 b);have g:=gO tT ts[k].body;have i:=gO isB ts[k].body;unfold WV at c;omega
end R
structure BFr(a:Act)(bt tl tc:π)(wi:Bool)(ev:τ)(k:π):Prop where
 sz:a.tmps.size=324
 df:a.defers=[]
 s6:gA a 6=H F ev
 s7:gA a 7=VV bt tl tc
 s33:gA a 33=z wi
 s34:gA a 34=H F (k:τ)
theorem zPk{wr w4:ν}{tl:π}{wi:Bool}{ts:ι R.Th}(D:BFr a bt tl tc wi 0 0)(hT:aC (ThsAt wr B (VV bt tl tc) ts tvs Fs))(q:aC (tl=T ts))(h4:tl<=4)(p:aC (∀t∈ts,WV t.body<=40))(j:σ (W (V wr)) wr w4){Q:Exit->Act->ν->Prop}(h:aC (∀(a:Act) (w:ν),BFr a bt tl tc wi (oX ts) tl->σ (W (V wr)) wr w->bC ψ ((zF f7).drop 21) Q a w)):
  bC ψ ((zF f7).drop 20) Q a w4:=by
 refine rS 20 (by rw[I4];decide) λK v=>?_;have L:=aD v;clear v;rw[zPG];refine wp_block (wp_loop (λa w=>∃k:π,k<=tl/\BFr a bt tl tc wi (oX (ts.take k)) k/\σ (W (V wr)) wr w) (λa _=>tl-(intOf (gA a 34)).toNat) ⟨0,Nat.zero_le _,D,j⟩ λa w hL=>?_);clear D j;obtain⟨k,hk,D,j⟩:=hL;refine fU _ _ _ _ ?_;show bC ψ ((zG f7).drop 0) _ a w;have ae:tl-(intOf (gA a 34)).toNat=tl-k:=by rw[D.s34];simp[intOf]
 have ad:=Nl ts p k (by rw[<- q.o];exact hk);obtain⟨sz,df,s6,s7,af,G⟩:=D;refine aH Z λK J=>?_;rw[mW sz df];simp only[kX,s6,s7,af,G];generalize gA a=f;by_cases hlt:k<tl
 ·have E:(k:τ)<tl:=by omega
  have i:k<T ts:=by rw[<- q.o];exact hlt
  obtain⟨y,u,c0,c1,c2,l⟩:=hT.get q λt ht=>by have:=p.o t ht;omega k i;have n:=Nk (ts.take k) ts[k];rw[<- x4 i]at n;have O:=aD n;have hz:=p.o ts[k] (x3 i);have e1:=gO isB ts[k].body;have e2:=gO tT ts[k].body;unfold WV at hz;have C1:aC (∀c:ν,σ (W (V wr)) wr c->ρ ψ 21 #[u,U ⟨#[98,97,114,114,105,101,114]⟩,U ⟨#[]⟩] c λe w'=>e=I (H F (WF isB ts[k].body))/\σ (W (V c)) c w'):=λc h6=>by
   have:=l.o ⟨#[98,97,114,114,105,101,114]⟩ ⟨#[]⟩ c h6;rw[bI,bI]at this;rw[G9];exact this
  have C2:aC (∀c:ν,σ (W (V wr)) wr c->ρ ψ 21 #[u,U ⟨#[102,101,110,99,101]⟩,U ⟨#[]⟩] c λe w'=>e=I (H F (WF tT ts[k].body))/\σ (W (V c)) c w'):=λc h6=>by
   have:=l.o ⟨#[102,101,110,99,101]⟩ ⟨#[]⟩ c h6;rw[bI,bI]at this;rw[kLp];exact this
  generalize WF isB ts[k].body=nb at*;generalize WF tT ts[k].body=nf at*;generalize oX (ts.take k)=ev at*;have d1:=cK j y c1;have ah:0<=nb/\nb<=40:=by omega
  have ai:0<=nf/\nf<=40:=by omega
  have ag:0<=ev/\ev<=1000:=by omega
  have ab:=j.size;have A:bt<W (V w):=by omega
  clear c0 c1 c2 l n e1 e2 hz ad i;go_wp2_with fail;apply J;clear J;refine aH Z λd b=>?_;go_wp2;apply b.o;refine rS 2 (by rw[zOt];decide) λK v=>?_;have r:=aD v;clear v;rw[zG2];refine wp_block (fU _ _ _ _ ?_);show bC ψ ((zH f7).drop 0) _ _ w;refine aH Z λd b=>?_;go_wp2_with(first|(go_at_call 21;refine(C2 _ j).mono ?_;rintro e w5 ⟨rfl,m⟩;have d2:=cK m A d1;have g:=j.trans (m.mono ab);have ac:bt<W (V w5):=(by have:=m.size;omega);dsimp only));apply b.o;refine aH Z λd b=>?_;go_wp2_with(first|(go_at_call 21;refine(C1 _ g).mono ?_;rintro e c ⟨rfl,aa⟩;have x:=g.trans (aa.mono g.size);dsimp only));apply b.o;refine aH Z λd b=>?_;go_wp2;apply b.o;apply r;clear r;refine aH Z λd b=>?_;go_wp2;apply b.o;refine⟨⟨k+1,hlt,⟨Z,Z,?_,Z,Z,by push_cast;rfl⟩,x⟩,?_⟩
  ·rw[O.o];show Value.int IntKind.i64 _=_
   congr 1;omega
  ·rw[ae];show tl-((k:τ)+1).toNat<tl-k;omega
 ·obtain rfl:k=tl:=by omega
  have E:¬(k:τ)<k:=by omega
  have X:aC (ts.take k=ts):=by grind [aC]
  go_wp2_with fail;apply J;clear J;refine aH Z λd _=>?_;go_wp2;apply L;exact h _ _ ⟨Z,Z,by rw[X.o];rfl,Z,Z,Z⟩ j
def R.Nm(l:Option (ι UInt8))(A:AS)(n:O):vS l (M A,n)=if l≠M []\/n=0\/A.s.O≠[]then([],2,n+1)else yV A.s.ts:=rfl
theorem vP{d:φ}{e f:O}(n:a.tmps.size=324)(g:a.defers=[])(i:gA a 2=d)(j:gA a 3=H F e)(k:gA a 4=H F f)(o:e=0->∃bt cap B vs Fs,d=VV bt (fZ s.toList).1.length cap/\ThsAt w' B d (fZ s.toList).1 vs Fs)(l:∃b q c,d=Y b q c)(m:σ (W (V w)) w w')(h:(fZ s.toList).2=(e,f)):bodyPost ψ f7 (RI s w) .ret a w':=by
 rw[mW n g];simp only[kX,i,j,k];exact bodyPost_ret (results_tmp3 (t:=2) (u:=3) (v:=4) Z _ _ _) Z ⟨d,by rw[h];rfl,by grind,l,m⟩
theorem zOw{wr:ν}{y:ξ}{gr n D:π}{ta oa na:Option Addr}{tl v oc nc:π}{A:AS}{af:ι φ}{G:ι π}{ae:ι ξ}(g:aC (tl=T A.s.ts))(m:aC (v=T A.s.O))(HM:aC (AsM wr (W (V w1)) A (Y ta tl tc) (Y oa v oc) (Y na v nc) tvs af G ae))(r:σ (W (V w)) w wr)(hf:AFr a gr n D (Y ta tl tc) (Y oa v oc) (Y na v nc) A n)(q:aC (0<n->A.s.ts≠[]))(al:wr.cell? ⟨gr,n,C⟩=M (U y))(hg:gr<W (V wr))(hn:n<2001)(HR:aC (fZ s.toList=vS (M y.toList) (M A,(n:O)))):
  bC ψ ((zF f7).drop 12) (bodyPost ψ f7 (RI s w)) a wr:=by
 have hz:=HM.sz;have q1:=hz.nth;have q2:=hz.nop;rw[<- g.o]at q1;rw[<- m.o]at q2;have HZ:=aD hz;clear hz;have ao:(n:O)<n+1:=by omega
 have d:aC (M y.toList≠M []\/(n:O)=0\/A.s.O≠[]->(fZ s.toList).2=(2,(n:O)+1)):=λh=>by rw[HR.o,Nm,if_pos h]
 obtain⟨sz,df,s5,s6,s7,s8,s9,ag,ah,ai⟩:=hf;rw[mW sz df];simp only[kX,s5,s6,s7,s8,s9,ag,ah,ai];generalize gA a=f
 cases hyb:y.toList==[]
 ·have HB:=aD (d.o (.inl (by grind)));refine aH Z λc b=>?_;go_wp2;apply b.o;refine aH Z λc _=>?_;go_wp2;exact vP Z Z Z Z Z (λe=>ω e (by decide)) ⟨C,0,0,Z⟩ r HB
 by_cases hn0:n=0
 ·subst hn0;have HB:=aD (d.o (.inr (.inl Z)));refine aH Z λc b=>?_;go_wp2;apply b.o;refine aH Z λc _=>?_;go_wp2;exact vP Z Z Z Z Z (λe=>ω e (by decide)) ⟨C,0,0,Z⟩ r HB
 have an:((n:O)==0)=false:=by simp;omega
 by_cases ho:v=0
 rotate_left
 ·have HB:=aD (d.o (.inr (.inr λe=>ho (by rw[m.o,e];rfl))));have ap:(0:O)<v:=by omega
  clear ho;refine aH Z λc b=>?_;go_wp2;apply b.o;refine aH Z λc _=>?_;go_wp2;exact vP Z Z Z Z Z (λe=>ω e (by decide)) ⟨C,0,0,Z⟩ r HB
 have K:A.s.O=[]:=List.length_eq_zero_iff.1 (by rw[<- m.o];exact ho);have L:=q.o (by omega);have HC:aC (fZ s.toList=yV A.s.ts):=by
  simp_all [Nm]
 have i:=HM.mem;rw[K]at i;obtain⟨Fs,(x:aC _)⟩:=i.done;obtain⟨bt,aj,he,_,ak⟩:=x.own.form (List.length_pos_iff.2 L);simp only[Value.slice.injEq]at he;obtain⟨rfl,ad,rfl⟩:=he;clear ad;subst ho;have HS:aC (∀t∈A.s.ts,WV t.body<10000):=λt ht=>by have:=HZ.all t ht;omega
 clear i K L HR HM d q m;have UN:aC (ρ ψ 19 #[VV bt tl tc] wr λe w'=>e=I (H F (vD A.s.ts))/\σ (W (V wr)) wr w'):=Yk (W (V w1)) bt tl tc A.s.ts tvs Fs wr x g (by omega) HS HZ.blk;refine aH Z λc b=>?_;go_wp2;apply b.o;refine aH Z λc b=>?_;go_wp2;apply b.o;refine aH Z λc b=>?_;go_wp2_with(first|(go_at_call 19;refine UN.mono ?_;rintro e w3 ⟨rfl,l⟩;have aa:σ (W (V w)) w w3:=r.trans (l.mono r.size);dsimp only));apply b.o;by_cases hu:0<vD A.s.ts
 ·refine aH Z λc b=>?_;go_wp2;apply b.o;refine aH Z λc _=>?_;go_wp2;exact vP Z Z Z Z Z (λe=>ω e (by decide)) ⟨C,0,0,Z⟩ aa (by rw[HC.o,yV,if_pos hu])
 refine aH Z λc b=>?_;go_wp2;apply b.o;refine aH Z λc b=>?_;go_wp2;apply b.o;refine aH Z λc b=>?_;go_wp2_with(first|(go_at_call 20;refine(Wp (W (V w1)) bt tl tc A.s.ts tvs Fs _ (x.keep λj hj=>l.block j hj) g (by omega) HS).mono ?_;rintro e w4 ⟨rfl,ac⟩;have ab:=l.trans (ac.mono l.size);dsimp only));apply b.o;refine aH Z λc b=>?_;go_wp2;apply b.o;refine aH Z λc b=>?_;go_wp2;apply b.o;refine zPk ⟨Z,Z,Z,Z,Z,Z⟩ x g q1 HZ.all ab ?_;intro a w5 hf E;have u:=r.trans (E.mono r.size);have HE:=HC.o;rw[yV,if_neg (by omega)]at HE;have k:=aD HE;have am:=Nl A.s.ts HZ.all tl (by rw[g.o];exact xF _);clear HE HC UN;obtain⟨sz,df,s6,s7,p,X⟩:=hf;rw[mW sz df];generalize oX A.s.ts=ev at*
 cases hw:DS A.s.ts
 ·rw[hw]at p;simp only[kX,s6,s7,p,X];generalize gA a=f2;refine aH Z λc b=>?_;go_wp2;apply b.o;refine aH Z λc _=>?_;go_wp2;exact vP Z Z Z Z Z (λe=>ω e (by decide)) ⟨C,0,0,Z⟩ u (by rw[k.o,hw];rfl)
 ·rw[hw]at p;simp only[kX,s6,s7,p,X];generalize gA a=f2;by_cases h5:50<ev
  ·refine aH Z λc b=>?_;go_wp2;apply b.o;refine aH Z λc _=>?_;go_wp2;exact vP Z Z Z Z Z (λe=>ω e (by decide)) ⟨C,0,0,Z⟩ u (by rw[k.o,hw,decide_eq_true (by omega)];rfl)
  ·refine aH Z λc b=>?_;go_wp2;apply b.o;refine aH Z λc b=>?_;go_wp2;apply b.o;refine aH Z λc b=>?_;go_wp2;apply b.o;refine aH Z λc _=>?_;go_wp2;have J:(fZ s.toList).1=A.s.ts:=by rw[k.o,hw,decide_eq_false (by omega)];rfl
   exact vP Z Z Z Z Z (λ_=>⟨bt,tc,_,tvs,Fs,by rw[J,<- g.o];rfl,by rw[J];exact x.keep λj hj=>E.block j hj⟩) ⟨_,_,_,Z⟩ u (by rw[k.o,hw,decide_eq_false (by omega)];rfl)
theorem zNN(s:ξ)(w:ν)(hs:s.size<=8192):ρ ψ 7 #[U s] w (RI s w):=by
 go_in;refine fU _ _ _ _ ?_;show bC ψ ((zF f7).drop 0) _ _ w;refine aH Z λc b=>?_;go_wp2;apply b.o;by_cases h2:2000<s.size
 ·have HE:aC (fZ s.toList=([],1,0)):=by unfold aC fZ;rw[if_pos (by grind [cV])]
  have h':(2000:τ)<s.size:=by omega
  refine aH Z λc b=>?_;go_wp2;apply b.o;refine aH Z λc _=>?_;go_wp2;exact vP Z Z Z Z Z (λe=>ω e (by decide)) ⟨C,0,0,Z⟩ (xR _ _) (by rw[HE.o])
 have ad:¬(2000:τ)<s.size:=by omega
 refine aH Z λc b=>?_;go_wp2;apply b.o;refine aH Z λc b=>?_;go_wp2;apply b.o;refine aH Z λc b=>?_;go_wp2_with(first|(go_at_call 13;refine(IU s 10 _ hs).mono ?_;rintro e w1 ⟨gr,g,nr,d,rs,rfl,HS,(J:aC _),X,h1,ae,D⟩;obtain⟨n,rfl⟩:∃n,nr=n+1:=⟨nr-1,by omega⟩;have af:((n+1:π):τ)-1=(n:τ):=(by omega);dsimp only));apply b.o;have u:T rs=n:=by omega
 obtain⟨j,ab,p⟩:=vH J (by grind);have f:aC (∀(i:π) (y:ξ),(d::rs)[i]?=M y->w1.cell? ⟨gr,i,C⟩=M (U y)):=λi y v=>by have:=j i y v;simpa using this
 have q:(d::rs).map x5=bF 10 s.toList:=by rw[<- HS.o];rfl
 have ac:(d::rs).length=n+1:=by grind
 have hn:n<2001:=by
  grind [CG,cV]
 have L:aC (∀y∈d::rs,y.size<=2000):=λx hx=>by
  have h3:=CC 10 s.toList x.toList (by grind)
  grind [cV]
 have l:aC (∀y,(d::rs)[n]?=M y->(bF 10 s.toList).getLast?=M y.toList):=λy v=>by
  grind
 have HX:aC (fZ s.toList=vS (bF 10 s.toList).getLast? (lW AS.zero ((0:π):τ) ((((d::rs).map x5).take n).drop 0))):=by
  grind [kJd,cV,List.dropLast_eq_take]
 have v:(d::rs)[n]?=M (d::rs)[n]:=by grind
 have HY:=aD v;clear j q v X u;refine aH Z λc b=>?_;go_wp2;apply b.o;refine aH Z λc b=>?_;go_wp2;apply b.o;refine aH Z λc b=>?_;go_wp2;apply b.o;refine aH Z λc b=>?_;go_wp2;apply b.o;refine aH Z λc b=>?_;go_wp2;apply b.o;refine aH Z λc b=>?_;go_wp2;apply b.o;refine aH Z λc b=>?_;go_wp2;apply b.o;refine rS 11 (by rw[I4];decide) λK hK=>?_;rw[zPF];refine wp_block (zOv (capr:=g) (xs:=d::rs) (last:=(bF 10 s.toList).getLast?) (r:=fZ s.toList) f (by omega) L hn p ?hI ?hX ?hE)
 case hI=>exact⟨0,AS.zero,C,C,C,0,0,0,0,0,[],[],[],[],Nat.zero_le _,Z,Z,AsM.zero _ _,NmA.zero,xR _ _,⟨Z,Z,Z,Z,Z,Z,Z,Z,Z,Z⟩,λh=>ω h (by omega),HX⟩
 case hE =>
  intro a w3 k sz df g2 g3 g4 E m;exact vP sz df g2 g3 g4 (λe=>ω e (by decide)) ⟨C,0,0,Z⟩ (D.trans (m.mono D.size)) E
 case hX =>
  intro a wr A ta oa na tl tc ol oc nc tvs ah G ag aa O hm m hf t E;rw[l.o _ HY.o]at E;exact hK _ _ (zOw aa O hm (D.trans (m.mono D.size)) hf t (cK m p (f n _ HY)) (by have:=m.size;omega) hn E)
namespace Q
def PZ(h:AsmIs ts){d:ι O}(f:YK (YM (WL ts)) d):WdOk (XV (WL ts) d):=by
 have b:WI (XV (WL ts) d) _ _ _:=RL ts 0 _ d _ _ _ (RX h.t) f PB;have i:=h.t.rd;have j:=h.t.wr;have k:=h.t.ev;have l:=h.sc;have m:=h.t.few;have n:=b.len;have o:=b.sc;have p:=b.g;exact⟨b.pos,by omega,λe c=>(b.K e c).2.2,by omega,b.vals,λe c=>⟨(b.K e c).1,(b.K e c).2.1⟩,xW (kNH (by omega)) (by decide)⟩
theorem kMO(h:AsmIs ts):KerOk ts:=by
 have l:=h.t.few;refine⟨by omega,λt b=>⟨h.t.ok t b,?_,xW (MN h.t t b) (by decide)⟩,λrs c=>?_,λrs c r j=>?_,λd f=>PZ h f⟩
 ·grind [AsmIs.len]
 ·obtain⟨t,b,k,rfl⟩:=RG c;exact xW (x1 (Ki t k) (MN h.t t b)) (by decide)
 ·obtain⟨t,b,k,rfl⟩:=RG c;have:=TZ (h.t.ok t b) (xW (MN h.t t b) (by decide)) j;exact⟨this.g,λe i=>(this.K e i).2.2⟩
theorem Nn(h:AsmIs ts):(eU ts).y.length<100000000:=by
 have n:(eU ts).y.length<=(NG ts).length:=by
  refine Kk _ _ (kGs (Mh ts)) λr k=>?_;obtain⟨c,g,f,i,fs,j,_,rfl⟩:=(QQ ts r).1 k;obtain⟨d,e,rs,l,rfl,_⟩:=BG.1 g;have m:=PZ h (yJ e);unfold NG;refine List.mem_flatMap.2 ⟨d,e,?_⟩;have b:=λv=>Jj (XV (WL ts) d).E v (ZK (XV (WL ts) d) f) m.evals
  exact List.mem_flatMap.2 ⟨_,PY (b 0),List.mem_flatMap.2 ⟨_,PY (b 1),List.mem_map.2 ⟨_,PY (b 2),Z⟩⟩⟩
 have o:=Kl ts 0;have p:4^(XL P.XG ts).toNat<=4^4:=Nat.pow_le_pow_right (by omega) (by have:=h.t.rd;omega)
 grind [WL,kIc]
end Q
def zNZ(w:ν)(ts:ι R.Th)(e:Ending)(w':ν):Prop:=∃(ov:φ) (rs:ι (ι O)) (c:Bool) (D:π->Prop),e=I (.tuple #[ov,z c])/\ZE w' D ov rs/\J.Grew (4*T ts+3) [] rs false c (J.sZ (J.pss ts) J.W0) (J.sQ (J.pss ts) J.W0)/\σ (W (V w)) w w'
theorem FW.th{n:ν}{g:π}{j ev:φ}{l:ν}{pss:ι (ι J.Pth)}{L:π}(h:FW n g j ev 3 l)(f:Au n g j pss)(t:∀ps∈pss,∀p∈ps,T p.e<=100/\T p.g=4)(v:∀ps∈pss,T ps<=1000):
  YW l l (λk=>k=g) g j ev XQ XQ XQ XQ XQ pss J.W0 [] [] (List.replicate 3 XQ) L [] false J.W0.base:=by
 have m:=h.blk.lt;have d:∀b,ev.ownBlock=M b->b≠g:=λb c e=>by have:=(h.row.lt b c).1;have:=h.lg;omega
 refine⟨JX.refl _ _,f.x h.x,m,h.blk,⟨?_,by simp[J.W0,J.cP],λi q=>?_⟩,λb c e=>d b c e,⟨C,0,Z,xF _,Or.inl ⟨Z,Z,Z⟩⟩,(λb c=>by cases c),⟨Or.inl ⟨Z,Z⟩⟩,xF _,Z,(λb c=>by cases c),⟨[],⟨Z,λi u a o=>by simp at o⟩,Or.inl ⟨Z,Z⟩⟩,?_,by simp,λx e=>by omega,Z,λx e=>Or.inl e,by simp[J.W0,J.cP],by simp[J.W0,J.cP],Z,t,v⟩
 ·have:=SlC.own h.row (by omega)
  grind [J.W0,J.cP]
 ·have r:i<3:=by simpa[J.W0,J.cP]using q
  have:i=0\/i=1\/i=2:=by omega
  rcases this with rfl|rfl|rfl<;>exact XT.nil _ _
 ·exact List.Pairwise.nil
theorem zGk{B0 ct:π}{ts:ι R.Th}(hT:ThW w B0 bt ts)(hp:0<T ts)(hF:∀W',J.Reach (J.pss ts) J.W0 W'->J.FinOk (4*T ts+3) W'):
  ρ ψ 22 #[VV bt (T ts) ct,z S] w (zNZ w ts):=by
 have HT:=aD hT;have HF:=aD hF;have HP:=aD hp;clear hT hF hp;go_in;refine fU _ _ _ _ ?_;show bC ψ ((uF f22).drop 0) _ _ w;refine aH Z λr d=>?_;go_wp2;apply d.o;refine aH Z λr d=>?_;go_wp2;apply d.o;refine aH Z λr d=>?_;go_wp2;apply d.o;have ad:aC (σ (W (V w)) w (w.alloc (.cells #[z S,Y C 0 0,Y C 0 0,Y C 0 0,Y C 0 0,Y C 0 0,Y C 0 0,Y C 0 0,z false] 109))):=bB;refine zIb (g:=W (V w)) HT ⟨xF _,Blk.new w (jw S XQ XQ XQ XQ XQ XQ XQ false) 109,World.ownsRow_nil _ _ _ _,trivial,λk ⟨x,hx,_⟩=>by simp at hx,(λb hb=>by cases hb),ad⟩ ⟨Z,Z,Z,Z,Z,Z⟩ λa1 w1 pv Us f1 o1=>?_;refine zLv o1.blk f1.sz f1.df f1.s6 λa2 w2 ev sz df s6 A=>?_;have X:0<(J.pss ts).length:=by rw[J.fQ];exact HP
 have aa:(J.pss ts).length<=4:=by rw[J.fQ];exact HT.n
 have m:∀ps∈J.pss ts,∃(t:π) (h:t<T ts),ps=J.gT ts[t] t:=λps j=>by
  grind [J.pss]
 have j:=o1.ps X λps j=>by
  grind [J.fT,J.gT]
 have ab:=A.th (L:=4*T ts+3) j λps j p hp=>by
  obtain⟨t,h,rfl⟩:=m ps j;obtain⟨q,hq,rfl⟩:=List.mem_map.1 hp;have O:=(HT.at_ t h).1;have:=J.iC _ O.fit O.sz 4 [] (by simp) (by simp) q hq;simp only[J.Pth.kT,x6];omega λps j=>by
  obtain⟨t,h,rfl⟩:=m ps j;have:=J.dH ts[t].body 4 [];simp only[J.gT,x6];omega
 have ae:=aD (Ma X aa (J.pss ts).length 0 (by omega) w2 _ _ _ _ _ _ _ _ _ _ _ ab Z HF);have E:=aD o1;have G:=aD A.x;clear ab j m o1 A f1;rw[eH sz df];simp only[List.range,List.range.loop,List.map_cons,List.map_nil,s6];generalize gA a2=f;clear s6 sz df;refine aH Z λr d=>?_;go_wp2_with(first|(go_at_call 40;refine ae.mono ?_;rintro e w5 ⟨rfl,D',an,ap,am,ao,ak,ac,ai,c',aj,al,(HJ:aC _),ag,ah,(l:aC _),(HG:aC _)⟩;clear ag ah));apply d.o;have c7:=HJ.blk.cell (i:=7) (v:=ac) Z;have c8:=HJ.blk.cell (i:=8) (v:=z c') Z;have lg:=HJ.blk.lt;refine aH Z λK1 af=>?_;go_quiet (fail);apply af;refine aH Z λr _=>?_;go_wp2;refine bodyPost_ret (results_tmp2 (t:=4) (u:=5) Z _ _ _) Z ?_;have K:σ (W (V w)) w w5:=⟨l.os.trans (G.os.trans E.be.os),l.tape.trans (G.tape.trans E.be.tape),l.output.trans (G.output.trans E.be.output),x1 E.be.size (x1 G.size l.size),λk hk=>by
  have s1:=E.be.size;have s2:=G.size;rw[l.block k (by omega) (by omega),G.block k (by omega) (by omega),E.be.block k hk]⟩
 have hd:σ (W (V w5)) w5 (w5.drewN nq):=eD _ _ nq;exact⟨ac,ai,c',D',Z,HJ.y.x (JX.of (P:=λ_=>False) hd) λ_ _ e=>e.elim,HG,K.trans (hd.mono K.size)⟩
namespace Q
theorem kLS(h:AsmIs ts):∀r∈(eU ts).y,T r<1000:=λr j=>by
 obtain⟨c,b,l,f,fs,i,_,rfl⟩:=(QQ ts r).1 j;obtain⟨d,e,rs,k,rfl,_⟩:=BG.1 b;have:=(PZ h (yJ e)).g
 grind [mY,List.length_nil]
end Q
def zOW{c:π}{ts:ι R.Th}(h:ThsAt w B (VV bt (T ts) c) ts vs Fs)(d:∀t∈ts,J.ThOk t)(j:T ts<=4):ThW w B bt ts:=by
 refine⟨(h.own.lt bt Z).2,j,λt b=>⟨d _ (x3 b),?_⟩⟩;have e:t<T vs:=by rw[h.lv];exact b
 have i:t<T Fs:=by rw[h.lF];exact b
 obtain⟨f,g,k⟩:=G7 ts vs h.lv t ts[t] vs[t] (by simp[b]) (by simp[e]);exact⟨vs[t],Fs[t],(h.own.cellAt _ (by omega)).trans f,(h.own.cellAt _ (by omega)).trans g,h.kid t ts[t] vs[t] Fs[t] (by simp[b]) (by simp[e]) (by simp[i])⟩
theorem HandO.X(h:HandO B w ov rs vs)(c:σ (W (V w)) w w'):HandO B w' ov rs vs:=by
 refine⟨h.y.X c,h.hand.own λu d k e=>?_,h.lo,h.lr⟩;obtain⟨i,b,rfl⟩:=List.mem_iff_getElem.1 d;obtain⟨f,e1,e2⟩:=h.hand.ex i (by rw[<- h.y.len];exact b) vs[i] (x2 b)
 grind [Value.ownBlock,Below.block,WO.lt]
def HandO.ll(h:HandO B w ov rs vs):LL w ov rs:=by
 obtain⟨a,c,e,n⟩:=h.y.form;refine⟨a,c,e,λm=>?_⟩;obtain⟨b,e1,_,e2,e3⟩:=n m;refine⟨b,e1,e2,λi f=>?_⟩;have g:i<T vs:=by rw[h.y.len];exact f
 obtain⟨k,l,d⟩:=h.hand.ex i f vs[i] (x2 g);exact⟨k,_,by rw[e3 i g,l],d.lt,λj o=>d.cell j o⟩
theorem ZE.ll{D:π->Prop}(h:ZE w D ov rs):LL w ov rs:=by
 obtain⟨g,f,h⟩:=h
 rcases h with⟨rfl,rfl⟩|⟨b,d,rfl,o,j,_,_⟩
 ·exact⟨C,0,Z,λh=>ω h (by simp)⟩
 ·refine⟨_,d,Z,λn=>⟨b,Z,j,λi e=>?_⟩⟩;have k:i<T g:=by rw[f.1];exact e
  obtain⟨a,c,l,m,f3,_⟩:=f.2 i g[i] rs[i] (x2 k) (x2 e)
  grind
def pD.of{i:ν}(h:pD N w1 i gw)(m:σ (W (V w)) w w1)(l:N<=W (V w)):pD N w i gw:=by
 obtain⟨p,n,j,q,o,k,a,b,c,d,e,f,g,h⟩:=h;exact⟨p,n,j,q,o,k,a,b,c,d,e,f,g,(m.mono l).trans h⟩
def pD.nil{t:φ}(d:w.heap[gw]?=M (.cells #[t,Y C 0 0,Y C 0 0] 26 (0,0)))(c:σ (W (V w)) w w')(f:N<=W (V w)):pD N w w' gw:=by
 have e:=dC d;have b:=(c.block gw e).trans d;exact⟨C,0,0,C,0,0,by simp[World.cell?,b],by simp[World.cell?,b],λh=>ω h (by omega),λh=>ω h (by omega),by omega,by omega,Nat.lt_of_lt_of_le e c.size,c.mono f⟩
def zLw(N gw:π)(t:φ)(c i:O)(l:Option Addr)(m tc:π)(w:ν)(k:(c != 0)=S)(f:w.heap[gw]?=M (.cells #[t,Y C 0 0,Y C 0 0] 26 (0,0)))(d:N<=W (V w)):
  ρ ψ 8 #[.pointer (M ⟨gw,0,C⟩),Y C 0 0,z false,H F c,H F i,Y l m tc,H F c,H F i,z S] w λe w'=>e=I (z S)/\pD N w w' gw:=by
 have j:aC (pD N w w gw):=pD.nil f (xR _ _) d;clear f d;have g:∀b,(binOp .eql 23 (Y C 0 0) (Y C 0 0)).run ψ b=.ok (z S) b:=λb=>run_eql_nil_slice b _ 37 C 0 0 0 0 (by kernel_rfl)
 go_in;go_wp2;go_ret;exact⟨Z,j⟩
def zMM(N gw bt ct K:π)(t ov:φ)(cl:Bool)(rows:ι (ι τ))(vs:ι φ)(ts:ι R.Th)(w:ν)(l:w.heap[gw]?=M (.cells #[t,Y C 0 0,Y C 0 0] 26 (0,0)))(j:N<=gw)(h:HandO N w ov rows vs)(E:T rows<100000000)(G:∀r∈rows,T r<1000)(x:ThW w K bt ts)(hp:0<T ts)(v:∀W',J.Reach (J.pss ts) J.W0 W'->J.FinOk (4*T ts+3) W')(d:∀rs c,J.Grew (4*T ts+3) [] rs false c (J.sZ (J.pss ts) J.W0) (J.sQ (J.pss ts) J.W0)->rs=rows/\c=cl):
  ρ ψ 8 #[.pointer (M ⟨gw,0,C⟩),ov,z cl,H F 0,H F 0,VV bt (T ts) ct,H F 0,H F 0,z S] w λe w'=>e=I (z S)/\pD N w w' gw:=by
 have hl:=dC l;obtain⟨xa,xc,n,_⟩:=h.y.form;have O:=aD l;have q:=aD h;have HT:=aD x;have L:=aD v;have HQ:=aD d;have u:=aD G;have k:N<=W (V w):=by omega
 have aa:(cl==cl)=S:=by simp
 clear l h x v d G;subst n;go_in;go_wp2_with(first
  |(go_at_call 22;refine(zGk HT hp L).mono ?_;rintro e w1 ⟨jv,rs,c,D,rfl,b,g,(p:aC _)⟩;obtain⟨hr,hc⟩:=HQ.o rs c g;subst hr;subst hc;have JR:=aD b.ll;obtain⟨ja,jc,m,_⟩:=b.ll;subst m;clear b g;dsimp only)
  |(go_at_call 23;refine(Vg _ _ rs _ (q.X p).ll JR E u).mono ?_;rintro e w2 ⟨rfl,f⟩;have i:=aD (bT p f);clear f)
  |(go_at_call 24;refine(zMf ((i.block gw hl).trans O) j (q.X i) E u).mono ?_;rintro e w3 ⟨rfl,A⟩;have HM:=aD (A.of i k);clear A))
 go_ret;exact⟨Z,HM⟩
theorem zHf(N gw:π)(t:φ)(s:ξ)(w:ν)(j:Tab w)(hs:s.size<=8192)(D:w.heap[gw]?=M (.cells #[t,Y C 0 0,Y C 0 0] 26 (0,0)))(ab:N<=gw):
  ρ ψ 4 #[.pointer (M ⟨gw,0,C⟩),U s,z S] w λe w'=>e=I (z S)/\pD N w w' gw:=by
 have hl:=dC D;obtain⟨hk,hc⟩:=Z8 s.toList;have HG:=aD D;have i:N<=W (V w):=by omega
 have HR:=aD λw=>zNN s w hs
 cases ze:(eQ s.toList).2.1 != 0
 ·have h0:(eQ s.toList).2.1=0:=by simpa using ze
  obtain⟨b,u,_⟩:=kNf h0;have A:(fZ s.toList).2=(0,0):=by grind
  obtain⟨k,n⟩:=hc (by rw[A]);obtain⟨(r:aC _),v,_,_⟩:=J.lU n b.t;have m:=aD (zLp s w j h0 u (kMO b) (Nn b));have K:=aD (kLS b);have G:=aD (Nn b);have HQ:=aD λrs c (g:J.Grew (4*(fZ s.toList).1.length+3) [] rs false c (J.sZ (J.pss (fZ s.toList).1) J.W0) (J.sQ (J.pss (fZ s.toList).1) J.W0))=>J.sK n b.t g;have h4:(fZ s.toList).1.length<=4:=by have:=b.t.few;omega
  have hp:0<(fZ s.toList).1.length:=by have:=List.length_pos_iff.2 b.t.ne;omega
  have HF:=aD (J.zD r hp h4);have HP:aC (∀w,ρ ψ 7 #[U s] w λe w'=>∃bt f B vs Fs,e=I (.tuple #[VV bt (fZ s.toList).1.length f,H F 0,H F 0])/\ThsAt w' B (VV bt (fZ s.toList).1.length f) (fZ s.toList).1 vs Fs/\σ (W (V w)) w w'):=λw=>by
   refine(HR w).mono ?_;rintro e w' ⟨tv,rfl,h1,_,hb⟩
   grind
  clear hk hc ze h0 u A n b v HR D j;generalize(fZ s.toList).1=ts at*;generalize Q.eU (eQ s.toList).1=SO at*;go_in;go_wp2_with(first
   |(go_at_call 6;refine m.mono ?_;rintro e w1 ⟨ov,vs,rfl,(HO:aC _),(E:aC _)⟩;obtain⟨xa,xc,ac,_⟩:=HO.y.form;subst ac;dsimp only)
   |(go_at_call 7;refine(HP _).mono ?_;rintro e w2 ⟨bt,f,B,us,Fs,rfl,l,d⟩;have aa:=aD (zOW l r h4);have O:=aD (HO.X d);have p:=aD (bT E d);clear l d;dsimp only)
   |(go_at_call 8;refine(zMM N gw bt f B t _ SO.clash SO.y vs ts _ ((p.block gw hl).trans HG) ab (O.mono i) G K aa hp HF HQ).mono ?_;rintro e w3 ⟨rfl,x⟩;have L:=aD (x.of p i);clear x))
  go_ret;exact⟨Z,L⟩
 ·have m:=aD (Yt s w j ze);have HP:aC (∀w,ρ ψ 7 #[U s] w λe w'=>∃a q cc,e=I (.tuple #[Y a q cc,H F (eQ s.toList).2.1,H F (eQ s.toList).2.2])/\σ (W (V w)) w w'):=λw=>by
   refine(HR w).mono ?_;rintro e w' ⟨tv,rfl,_,⟨a,q,cc,rfl⟩,hb⟩
   grind
  clear hk hc HR D j;generalize(eQ s.toList).2.1=ec at*;generalize(eQ s.toList).2.2=lc at*;have HZ:=aD ze;clear ze;go_in;go_wp2_with(first
   |(go_at_call 6;refine m.mono ?_;rintro e w1 ⟨rfl,(E:aC _)⟩;dsimp only)
   |(go_at_call 7;refine(HP _).mono ?_;rintro e w2 ⟨va,vq,vc,rfl,d⟩;have p:=aD (bT E d);clear d;dsimp only)
   |(go_at_call 8;refine(zLw N gw t ec lc va vq vc _ HZ ((p.block gw hl).trans HG) (x1 i p.size)).mono ?_;rintro e w3 ⟨rfl,x⟩;have L:=aD (x.of p i);clear x))
  go_ret;exact⟨Z,L⟩
theorem zKc(s:ξ)(w:ν)(d:Tab w):ρ ψ 3 #[U s] w λe w'=>e=I (z S)/\σ (W (V w)) w w':=by
 by_cases hs:s.size<=8192
 ·have f:¬(8192:O)<s.size:=by omega
  go_in;go_wp2_with(first
   |(go_at_call 4;refine(zHf (W (V w)) (W (V w)) (U ⟨#[]⟩) s _ (d.X bB) hs (by exact heap_alloc_new w _) (xF _)).mono ?_;rintro e w1 ⟨rfl,y,v,t,A,x,u,m,n,g,i,p,q,r,j⟩;have HB:=aD (((xR (W (V w)) w).alloc (xF _) _).trans j);have k:=aD g;have l:=aD i;clear j g i)
   |(go_at_call 5;refine(zKG (W (V w)) y A v x t u _ r m n k l p q).mono ?_;rintro e D ⟨rfl,b⟩;have c:=aD (HB.trans (b.mono HB.size));clear b))
  go_ret;exact⟨Z,c⟩
 ·have f:(8192:O)<s.size:=by omega
  go_in;go_wp2;go_ret
  simp_all [xR]
