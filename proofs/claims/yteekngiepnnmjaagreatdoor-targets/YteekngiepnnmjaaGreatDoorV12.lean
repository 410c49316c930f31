import Derived.Deep.CutBlock
import Derived.Test.YteekngiepnnmjaaGreatDoorV11
set_option linter.all false
set_option maxHeartbeats 0
namespace Go.Proofs.YteekngiepnnmjaaGreatDoor
open Go Go.RowKit Go.Proofs.Tryz P Q R
open scoped Classical
set_option maxRecDepth 1000000
open _root_ renaming UInt8->T,UInt8->σ,List->W,List->ν,ByteArray->u,ByteArray->ι,beq_eq_false_iff_ne->ψ,Int->z,Int->φ,if_neg->ρ,Nat->S,Nat->τ,if_pos->π,Option->δ,Bool->t,Bool->γ
open Go renaming results_tmp2->ω,bodyPost_ret->ξ,World->θ
open Go.RowKit renaming Below->η,intOf->ε
open Go.Proofs.Tryz renaming underlying45->ζ
variable {w w':θ}{g:τ}{r:ν (ν σ) × γ}{a:ν σ}
open List renaming length->M
open _root_.Array renaming size->H
open Go.World renaming heap->D
open Bool renaming false->Y,true->C
open Option renaming none->O,some->I
open Go.Value renaming slice->G,string->E
open Go.Ending renaming returned->U
open Go.Obj renaming cells->N
open _root_.ByteArray renaming toList->xF
open Or renaming inr->xR,inl->x1
open Go.Value renaming string->xW
open Nat renaming le_refl->x3,zero_add->x6,zero_le->x7
open List renaming mem_cons_of_mem->x4,getElem?_eq_getElem->x8,getElem_mem->x9,drop_eq_getElem_cons->xb,drop_eq_nil_of_le->xc,cons_append->xe,dropLast_concat_getLast->xg,forall_mem_cons->xh
open Go.RowKit.Below renaming refl->x5
open Go.World renaming ownsRow_nil->xa
open Bool renaming eq_iff_iff->xd
namespace R
def jC:W u:=[⟨#[108,100]⟩,⟨#[115,116]⟩,⟨#[97,116,111,109]⟩,⟨#[102,101,110,99,101]⟩,⟨#[98,97,114]⟩,⟨#[109,111,118]⟩,⟨#[97,100,100]⟩,⟨#[115,117,98]⟩,⟨#[115,101,116,101,113]⟩]
def uY:W u:=[⟨#[100,118]⟩,⟨#[118,97]⟩,⟨#[100,118,97]⟩,⟨#[]⟩,⟨#[]⟩,⟨#[100,97]⟩,⟨#[100,97,97]⟩,⟨#[100,97,97]⟩,⟨#[100,97,97]⟩]
def bO(x:W T):W u->S
 |[]=>0
 |y::r=>if y.toList=x then 0 else bO x r+1
theorem Ha(x:W T):∀l,bO x l<=M l
 |[]=>x3 _
 |y::r=>by
  have:=Ha x r
  grind [bO]
theorem Hb(x:W T):∀(l:W u) (j:S) (b:j<M l),j<bO x l->l[j].toList≠x
 |y::r,0,_,h=>by
  grind [bO]
 |y::r,j+1,b,h=>by
  rw[bO]at h;split at h
  ·omega
  ·simpa using Hb x r j (by simpa using b) (by omega)
theorem Hc(x:W T):∀(l:W u) (h:bO x l<M l),l[bO x l].toList=x
 |y::r,h=>by
  have b:=h;rw[bO]at b
  split at b
  ·simp_all [bO]
  ·rename_i e;have e1:bO x (y::r)=bO x r+1:=by rw[bO,ρ e]
   simp only[e1];exact Hc x r (by simpa using b)
def iT(ks:W T)(xs:W (W T)):W (W T):=List.zipWith bN ks xs
theorem Ws(y:u)(b:W u)(j:S)(c:j<y.size)(d:j<M b):(iT y.toList (b.map xF)).take (j+1)=(iT y.toList (b.map xF)).take j++[bN y[j] b[j].toList]:=by
 unfold iT;rw[List.take_succ_eq_append_getElem (by grind [cV])]
 grind [JF]
def sA:W T:=[97,99,113,95,114,101,108,32,99,116,97,32,103,112,117]
def sB:W T:=[97,99,113,114,101,108,32,98,108,111,99,107,32,100,101,118,105,99,101]
def sN(m:S):u:=if m=0 then⟨#[97,99,113,114,101,108]⟩else if m=1 then⟨#[98,108,111,99,107]⟩else⟨#[100,101,118,105,99,101]⟩
def FF(x:W T):δ (W T):=if 0<=inn x sB then O else if 0<=inn x sA then I (sN (inn x sA).toNat).toList else I x
def oI(out:W (W T)):W (W T)->W (W T)×t
 |[]=>(out,C)
 |x::r=>match FF x with
  |none=>([],Y)
  |some y=>oI (out++[y]) r
def dO:W T:=[61]
def pP:W T:=[108,111,97,100]
def rK:W T:=[115,116,111,114,101]
def dZ:W T:=[97,100,100]
def iO:W T:=[101,120,99,104]
def oZ:W T:=[115,119,97,112]
def uW:W T:=[102,101,110,99,101]
def MZ:W T:=[98,97,114,114,105,101,114]
def AG:W T:=[115,121,110,99]
def VC:S->W T
 |0=>[43]
 |1=>[45]
 |_=>[61,61]
def mE(k:S)(a hs:W (W T)):W (W T)×t :=
 match k with
 |0=>oI [a.getD 0 [],dO,pP,a.getD 1 []] hs
 |1=>oI [rK,a.getD 0 [],a.getD 1 []] hs
 |2=>match hs with
  |[]=>([],Y)
  |h::r=>if h=dZ then oI [a.getD 0 [],dO,dZ,a.getD 1 [],a.getD 2 []] r else if h=iO then oI [a.getD 0 [],dO,oZ,a.getD 1 [],a.getD 2 []] r else([],Y)
 |3=>oI [uW] hs
 |4=>([MZ],hs==[AG])
 |5=>([a.getD 0 [],dO,a.getD 1 []],hs.isEmpty)
 |k+6=>([a.getD 0 [],dO,a.getD 1 [],VC k,a.getD 2 []],hs.isEmpty)
def IL(k:S):W T:=(uY.map xF).getD k []
def rJ(h0:W T)(hs xs:W (W T)):W (W T)×t :=
 if bO h0 jC=9 then([],Y)else if M xs≠(IL (bO h0 jC)).length then([],Y)else mE (bO h0 jC) (iT (IL (bO h0 jC)) xs) hs
end R
theorem Hd{t:TypeId}{b:W u}(h:w.heap[g]?=I (N (b.map xW).toArray t (0,0))):XO w g 0 b:=λi s c=>by
 simp[World.cell?,h,c]
theorem Wt(c:H (D w)=g)(b:W u)(t:TypeId):XO (w.alloc (N (b.map xW).toArray t)) g 0 b:=by grind [Hd,heap_alloc_new]
def MH(w:θ)(b:W u)(t:TypeId):XO (w.alloc (N (b.map xW).toArray t)) (H (D w)) 0 b:=Hd (heap_alloc_new w _)
def Wu(w:θ)(o:Obj){p:Addr}(h:p.block<H (D w)):(w.alloc o).cell? p=w.cell? p:=by
 unfold World.cell?;rw[Below.heap_alloc _ _ _ h]
def zU(w w':θ)(e:Ending)(r:W (W T)×t):Prop:=∃v,e=U (.tuple #[v,.bool r.2])/\(∃a n c,v=G a n c)/\(r.2=C->∃(g c:S) (ws:W u),v=VV g (M ws) c/\M ws<=c/\M ws<9500/\ws.map xF=r.1/\XO w' g 0 ws/\g<H (D w'))/\η (H (D w)) w w'
theorem tU(h:r.2=Y)(b:η (H (D w)) w w')(v:Value)(d:∃a n c,v=G a n c):zU w w' (U (.tuple #[v,.bool Y])) r :=
 ⟨v,by rw[h],d,λe=>by grind,b⟩
def NA{c:S}(d:W u)(b:t)(i:r.2=b)(f:d.map xF=r.1)(m:M d<9500)(k:M d<=c)(n:XO w' g 0 d)(l:g<H (D w'))(j:η (H (D w)) w w'):zU w w' (U (.tuple #[VV g (M d) c,.bool b])) r :=
 ⟨_,by rw[i],⟨_,_,_,Z⟩,λe=>⟨g,c,d,Z,k,m,f,n,l⟩,j⟩
theorem Wv(gh ch:τ)(va:Value)(J:ι)(z B:ν ι)(w:θ)(hw:XO w gh 0 (J::z))(ha:wF w va B)(hc:M z+1<=ch)(hz:M z<9000)(bZ:M B<9000):
  Calls prog 37 #[VV gh (M z+1) ch,va] w λe w'=>zU w w' e (rJ J.toList (z.map xF) (B.map xF)):=by
 obtain⟨aa,ac,rfl,bY,bq⟩:=ha;have aN:aC (bO J.toList jC=9->rJ J.toList (z.map xF) (B.map xF)=([],Y)):=λe=>by simp_all [rJ]
 have aB:aC (bO J.toList jC≠9->∀y:ι,uY[bO J.toList jC]?=I y->(M B≠y.size->rJ J.toList (z.map xF) (B.map xF)=([],Y))/\(M B=y.size->rJ J.toList (z.map xF) (B.map xF)=mE (bO J.toList jC) (iT y.toList (B.map xF)) (z.map xF))):=λe y hy=>by
  have hk:IL (bO J.toList jC)=y.toList:=by grind [IL]
  simp_all [rJ,cV]
 generalize rJ J.toList (z.map xF) (B.map xF)=V at*;go_in;go_wp2_with fail;go_name_world W0 hE;have hN:XO W0 (H (D w)) 0 jC:=by
  have h:=MH w jC 9;rw[<- hE];exact λi s e=>(Wu _ _ (by simp)).trans (h i s e)
 have hK:XO W0 (H (D w)+1) 0 uY:=by
  have h:=MH (w.alloc (N (jC.map xW).toArray 9)) uY 9;rw[show(w.alloc (N (jC.map xW).toArray 9)).heap.size=H (D w)+1 by simp]at h;rw[<- hE];exact h
 have aE:η (H (D w)) w W0:=by rw[<- hE];exact(bB).alloc (by simp) _
 have aw:H (D W0)=H (D w)+2:=by rw[<- hE];simp
 have hW:=hw.X aE;have bn:=aD hW;clear hE;obtain⟨bs,ak,(bV:aC _)⟩:=hW.head;have HN:=aD hN;have HK:=aD hK;have d:=aD aE;clear hN hK aE hW hw;have bb:=Ha J.toList jC;have cj:bO J.toList jC<=9:=bb;have aK:=aD (Hb J.toList jC);have aJ:=aD (Hc J.toList jC);clear bb;generalize bO J.toList jC=k0 at*;have bT:H (D w)+2<=H (D W0):=by omega
 have bU:=aD aw;have aH:H (D w)<H (D W0):=by omega
 have aY:H (D w)+1<H (D W0):=by omega
 clear aw;go_loopw[8] (λi wr=>∃k:τ,k<=k0/\i=.int .i64 k/\η (H (D W0)) W0 wr) λi _=>k0-(ε i).toNat
 case atStart=>exact⟨0,by omega,Z,x5 _ _⟩
 case round =>
  obtain⟨k,hk,rfl,l⟩:=hrel;have hh:=cK l ak bs;have bL:=l.size;by_cases hlt:k<k0
  ·have ag:k<M jC:=by show k<9;omega
   have e1:=HN.get k ag;rw[x6]at e1;have aU:=cK l aH e1;clear e1;have ba:(jC[k].toList==J.toList)=Y:=by rw[ψ];exact aK k ag hlt
   have bz:(k:φ)<9:=by omega
   generalize jC[k]=x at*;go_wp2;go_quiet (fail);go_wp2;go_roundw;exact⟨k+1,by omega,by go_num,l.trans (iU _ _ _)⟩;simp[ε];omega
  ·have bC:k=k0:=by omega
   subst bC;have bw:k=9\/k<9/\∃x y:ι,wr.cell? ⟨H (D w),k,O⟩=I (E x)/\(x.toList==J.toList)=C/\wr.cell? ⟨H (D w)+1,k,O⟩=I (E y)/\W0.cell? ⟨H (D w)+1,k,O⟩=I (E y)/\uY[k]?=I y/\y.size<=3:=by
    by_cases c:k=9
    ·exact x1 c
    ·have ag:k<M jC:=by show k<9;omega
     have af:k<M uY:=by show k<9;omega
     have e1:=HN.get k ag;have e2:=HK.get k af;rw[x6]at e1 e2;have:∀y∈uY,y.size<=3:=by decide
     exact xR ⟨by omega,jC[k],uY[k],cK l aH e1,beq_iff_eq.2 (aJ ag),cK l aY e2,e2,x8 af,this _ (x9 af)⟩
   rcases bw with rfl|⟨ag,x,y,aU,ba,bu,au,aq,bP⟩
   ·have hd:decide ((9:φ)<9)=Y:=Z;go_wp2;go_quiet (fail);go_wp2;exact ξ (ω (t:=4) (u:=5) Z _ _ _) Z (tU (by rw[aN.o (by simp)]) (d.trans ((l.trans (iU _ _ _)).mono d.size)) _ ⟨_,_,_,Z⟩)
   ·have bz:(k:φ)<9:=by omega
    have bQ:((k:φ)==9)=Y:=by rw[ψ];omega
    cases hlen:(M B:φ) != (y.size:φ)
    rotate_left
    ·go_wp2;go_quiet (fail);go_wp2;exact ξ (ω (t:=4) (u:=5) Z _ _ _) Z (tU (by rw[((aB.o (by omega)) y aq).1 λe=>by rw[e]at hlen;simp at hlen]) (d.trans ((l.trans (iU _ _ _)).mono d.size)) _ ⟨_,_,_,Z⟩)
    have ad:aC (M B=y.size):=by
     have:(M B:φ)=(y.size:φ):=by simpa using hlen
     unfold aC;omega
    go_wp2;go_quiet (fail);go_wp2;have br:η (H (D W0)) W0 (wr.drewN nq):=l.trans (iU _ _ _);clear hh aU bu hlen l bL;go_loopw[9,10] (λav i wq=>∃(j:τ) (na:δ Addr) (nc:τ) (us:ν ι),j<=M B/\M us=j/\av=G na j nc/\i=.int .i64 j/\aC (us.map xF=(iT y.toList (B.map xF)).take j)/\aC (wq.ownsRow (H (D W0)) 9 1 av j (us.map xW))/\η (H (D W0)) W0 wq) λ_ i _=>M B-(ε i).toNat
    case atStart=>exact⟨0,O,0,[],x7 _,Z,Z,Z,Z,xa _ _ _ _,br⟩
    case round =>
     obtain⟨j,na,nc,us,hj,ao,rfl,rfl,HU,HO,n⟩:=hrel;have A:=n.size;by_cases hlt:j<M B
     ·have aV:=lI hlt;obtain⟨ga,rfl,bK,ca⟩:=bq (by intro e;rw[e]at hlt;simp at hlt);have bg:=(bK.X (d.trans (n.mono d.size))).get j hlt;rw[x6]at bg;have cm:=cK n aY au;have aX:j<y.size:=by rw[<- ad.o];exact hlt
      have cd:=lI aX;have aI:aC ((us++[nA (bN y[j] B[j].toList)]).map xF=(iT y.toList (B.map xF)).take (j+1)):=by
       simp_all [Ws,nA]
      go_wp2;go_quiet (first|(go_at_call 15;exact Calls.quiet_of_same (Gz _ _ _)));have aS:=iU (H (D wr)) wr nq;have aL:=aD (bH HO λi hi=>aS.block i (HO.lt i hi).2);have aR:η (H (D W0)) W0 (wr.drewN nq):=n.trans (iU _ _ _);generalize wr.drewN nq=Wq at*;generalize nA (bN y[j] B[j].toList)=u at*;have bd:=aR.size;clear aS bg;go_wp2_with(first
       |(at_builtin;refine qH Tryz.infoStr ζ Z Z (.tmp 67) (.tmp 69) Z Z Z Z Z aL (by omega) (by omega) ?_))
      intro g1 ah w4 al ab bp aZ;go_wp2_with fail;go_roundw;exact⟨j+1,_,_,us++[u],by omega,by simp[ao],Z,by go_num,aI,by unfold aC;simpa using al,(aR.alloc bd _).grown ab (by simp;omega) λi hi=>(aL.lt i hi).1⟩;simp[ε];omega
     ·have bA:j=M B:=by omega
      have aV:=lN hlt;have aP:aC (us.map xF=iT y.toList (B.map xF)):=by
       simp_all [aC,List.take_of_length_le,iT,cV]
      have f:aC (V=mE k (us.map xF) (z.map xF)):=by
       unfold aC;rw[aP.o];exact((aB (by omega)) y aq).2 ad
      clear aB aN aP;have af:k=0\/k=1\/k=2\/k=3\/k=4\/k=5\/k=6\/k=7\/k=8:=by omega
      clear HU aK aJ HN HK ba au hlt;subst bA;obtain⟨o1,c1,q,K,be⟩:=Du gh 0 (M z) ch hc;have m:=aD (be wr J z Z (bn.X n));clear be;go_upto_block 4 with fail
      go_cut[0,12,13,14]from 73 to 171 λhv ov _ _ wx=>∃(o2 c2 go co:τ) (F out:ν ι),hv=G (I ⟨gh,o2,O⟩) (M F) c2/\ov=VV go (M out) co/\aC (XO wx gh o2 F)/\aC (wx.ownsRow (H (D W0)) 9 1 ov (M out) (out.map xW))/\aC (mE k (us.map xF) (z.map xF)=oI (out.map xF) (F.map xF))/\M F<9000/\M out<=5/\M F<=c2/\η (H (D W0)) W0 wx
      case first =>
       have HL:aC (M us=y.size):=ao.trans ad;clear ao;generalize(M B)=nx at*
       rcases af with rfl|rfl|rfl|rfl|rfl|rfl|rfl|rfl|rfl
       all_goals
        obtain rfl:=Option.some.inj aq;have hl:=HL.o
        rcases us with _|⟨u0,_|⟨u1,_|⟨u2,_|⟨u3,us⟩⟩⟩⟩
        all_goals try(cases hl;done)
        clear HL hl
        first|(have hn:nx=2:=ad.o;subst hn)|(have hn:nx=3:=ad.o;subst hn)|(have hn:nx=0:=ad.o;subst hn)
        try(obtain⟨g,bW,e,_,cl⟩:=HO.form (by decide);injection e with e1 e2 e3;subst e1;have bG:=HO.cellAt 0 (by decide);have bJ:=HO.cellAt 1 (by decide);(try have aI:=HO.cellAt 2 (by decide));simp at bG bJ;(try simp at aI);clear e2 e3)
       iterate 2
        ·go_wp2;go_region;go_wp2;go_meet
         first|exact⟨o1,c1,H (D wr),4,z,[_,_,_,_],Z,Z,m.X (((x5 _ _).drew).alloc (x3 _) _),LH wr.drew A _ (by simp),by simp[aC,mE,bI,dO,pP],hz,by simp,q,n.drew.alloc A _⟩|exact⟨o1,c1,H (D wr),3,z,[_,_,_],Z,Z,m.X (((x5 _ _).drew).alloc (x3 _) _),LH wr.drew A _ (by simp),by simp[aC,mE,bI,rK],hz,by simp,q,n.drew.alloc A _⟩
       ·match z,f,m,hz,hc,q,K with
        |[],f,m,hz,hc,q,K =>
         go_wp2;exact ξ (ω (t:=4) (u:=5) Z _ _ _) Z (tU (r:=V) (by rw[f.o];rfl) (d.trans (n.mono d.size)) (G O 0 0) ⟨O,0,0,Z⟩)
        |x::r,f,m,hz,hc,q,K =>
         obtain⟨ap,bM,_⟩:=m.head;obtain⟨o3,c3,bt,bS,ax⟩:=Du gh o1 (M r) c1 q;have aQ:=aD (ax wr x r Z m);have bc:M r<9000:=by simp at hz;omega
         have ce:((M r:φ)+1==0)=Y:=by rw[ψ];omega
         have cf:(((M r+1:τ):φ)==0)=Y:=by rw[ψ];omega
         simp only[List.length_cons]at K hz hc q;clear ax
         cases hA:x.toList==[97,100,100]<;>cases hX:x.toList==[101,120,99,104]
         ·go_wp2;exact ξ (ω (t:=4) (u:=5) Z _ _ _) Z (tU (r:=V) (by rw[f.o];have a:=beq_eq_false_iff_ne.1 hA;have b:=beq_eq_false_iff_ne.1 hX;simp[mE,dZ,iO,a,b]) (d.trans (n.mono d.size)) (G O 0 0) ⟨O,0,0,Z⟩)
         iterate 2
          ·go_wp2;go_region;go_wp2;go_meet;exact⟨o3,c3,H (D wr),5,r,[_,_,_,_,_],Z,Z,aQ.X (((x5 _ _).drew).alloc (x3 _) _),LH wr.drew A _ (by simp),by unfold aC;first|(have a:=beq_eq_false_iff_ne.1 hA;have b:=beq_iff_eq.1 hX;simp[mE,bI,dO,dZ,iO,oZ,a,b];done)|(have a:=beq_iff_eq.1 hA;have b:=beq_eq_false_iff_ne.1 hX;simp[mE,bI,dO,dZ,iO,oZ,a,b];done),bc,by simp,bt,n.drew.alloc A _⟩
         ·exact absurd ((beq_iff_eq.1 hA).symm.trans (beq_iff_eq.1 hX)) (by decide)
       ·go_wp2;go_meet;exact⟨o1,c1,H (D wr),1,z,[⟨#[102,101,110,99,101]⟩],Z,Z,m.X bB,LH wr A [⟨#[102,101,110,99,101]⟩] (by simp),by simp_all [aC,mE,uW],hz,by simp,q,n.alloc A _⟩
       ·have S:∀b:γ,V.2=b->zU w (wr.alloc (N ([⟨#[98,97,114,114,105,101,114]⟩].map xW).toArray 9)).drew (U (.tuple #[VV (H (D wr)) 1 1,.bool b])) V:=λb e=>by
         refine NA [⟨#[98,97,114,114,105,101,114]⟩] _ e ?_ (by simp) (x3 _) (MH wr _ _) (by show _<(wr.alloc _).heap.size;simp) (d.trans ((n.alloc A _).drew.mono d.size));rw[f.o];simp[mE,bI,MZ]
        have v:=aD S;clear S
        match z,f,m,hz,hc,q,K with
        |[],f,m,hz,hc,q,K =>
         go_wp2;go_region;go_wp2;exact ξ (ω (t:=4) (u:=5) Z _ _ _) Z (v Y (by rw[f.o];rfl))
        |[x],f,m,hz,hc,q,K =>
         obtain⟨ap,bM,_⟩:=m.head
         cases hx:x.toList==[115,121,110,99]
         ·go_wp2;go_region;go_wp2;exact ξ (ω (t:=4) (u:=5) Z _ _ _) Z (v Y (by rw[f.o];simpa[mE,AG]using hx))
         ·go_wp2;go_region;go_wp2;exact ξ (ω (t:=4) (u:=5) Z _ _ _) Z (v C (by rw[f.o];simpa[mE,AG]using hx))
        |x::x2::r,f,m,hz,hc,q,K =>
         have aH:(((x::x2::r).length:φ)==1)=Y:=by rw[ψ];simp;omega
         generalize hL:(x::x2::r).length=L at*;go_wp2;go_region;go_wp2;exact ξ (ω (t:=4) (u:=5) Z _ _ _) Z (v Y (by rw[f.o];simp[mE,AG]))
       ·have S:∀b:γ,V.2=b->zU w (wr.alloc (N ([u0,⟨#[61]⟩,u1].map xW).toArray 9)).drew (U (.tuple #[VV (H (D wr)) 3 3,.bool b])) V:=λb e=>by
         refine NA [u0,⟨#[61]⟩,u1] _ e ?_ (by simp) (x3 _) (MH wr _ _) (by show _<(wr.alloc _).heap.size;simp) (d.trans ((n.alloc A _).drew.mono d.size));rw[f.o];simp[mE,bI,dO]
        have v:=aD S;clear S;go_wp2;go_region;go_wp2;exact ξ (ω (t:=4) (u:=5) Z _ _ _) Z (v ((M z:φ)==0) (by rw[f.o];cases z<;>simp[mE];omega))
       all_goals
        have S:∀(W:θ) (sg:ι),H (D W)=H (D wr)+1->η (H (D W0)) W0 W->V=([u0.toList,dO,u1.toList,sg.toList,u2.toList],(z.map xF).isEmpty)->zU w (W.alloc (N ([u0,⟨#[61]⟩,u1,sg,u2].map xW).toArray 9)).drew (U (.tuple #[VV (H (D wr)+1) 5 5,.bool ((M z:φ)==0)])) V:=λW sg e1 e2 e3=>by
         refine NA [u0,⟨#[61]⟩,u1,sg,u2] _ ?_ ?_ (by simp) (x3 _) (Wt e1 _ _) (by show _<(W.alloc _).heap.size;simp;omega) (d.trans ((e2.alloc e2.size _).drew.mono d.size))
         ·rw[e3];cases z<;>simp;omega
         ·rw[e3];simp[bI,dO]
        have v:=aD S;clear S;go_wp2;go_region;go_wp2;exact ξ (ω (t:=4) (u:=5) Z _ _ _) Z (v _ _ (by simp) (n.alloc A _) (by rw[f.o];simp[mE,VC,bI]))
      case rest =>
       obtain⟨o2,c2,go,co,F,out,rfl,rfl,ar,bj,bl,bc,cg,ck,aF⟩:=hcut;have bk:aC (V=oI (out.map xF) (F.map xF)):=by simp_all [aC]
       clear f bl m K q HO ao af aq bP;have bm:aC (XO W0 gh o2 F):=λi s hi=>(aF.cell (p:=⟨gh,o2+i,O⟩) ak).symm.trans (ar i s hi)
       have bR:=aF.size;clear ar;go_wp2_with fail;go_loopw[12,15] (λov i wq=>∃(j gq cq:τ) (T:ν ι),j<=M F/\ov=VV gq (M T) cq/\i=.int .i64 j/\aC (V=oI (T.map xF) ((F.map xF).drop j))/\aC (wq.ownsRow (H (D W0)) 9 1 ov (M T) (T.map xW))/\M T<=5+j/\η (H (D W0)) W0 wq) λ_ i _=>M F-(ε i).toNat
       case atStart=>exact⟨0,go,co,out,x7 _,Z,Z,bk,bj,by omega,aF⟩
       case round =>
        obtain⟨j,gq,cq,T,hj,rfl,rfl,aA,ay,ci,ai⟩:=hrel;have bD:=ai.size;by_cases hlt:j<M F
        ·have aW:=lI hlt;have ap:=cK ai ak (bm.get j hlt);have HD:aC ((F.map xF).drop j=F[j].toList::(F.map xF).drop (j+1)):=by
          simp_all [aC,xb]
         generalize F[j]=x at*;have cb:gh<H (D wr):=by omega
         go_upto_region 41 with(first|(go_at_call 27;refine(lZ x sA _ _ Z (by simp)).mono ?_;rintro e w5 ⟨rfl,am⟩;have ae:=ai.trans (am.mono bD);have bf:=cK ae ak ((ai.cell (p:=⟨gh,o2+j,O⟩) ak).symm.trans ap)))
         have bh:aC (0<=inn x.toList sB->V.2=Y):=λh=>by rw[aA.o,HD.o,oI,FF,π h]
         have bi:aC (∀u:ι,¬0<=inn x.toList sB->u.toList=(if 0<=inn x.toList sA then(sN (inn x.toList sA).toNat).toList else x.toList)->V=oI ((T++[u]).map xF) ((F.map xF).drop (j+1))):=λu h1 h2=>by
          rw[aA.o,HD.o,oI,FF,ρ h1,List.map_append]
          split at h2
          ·simp_all [π]
          simp_all [ρ]
         have bX:inn x.toList sA<3:=by
          have h:=Dr x.toList (bF 32 sA) 0;have e:(bF 32 sA).length=3:=by decide
          unfold inn;omega
         generalize inn x.toList sA=a1 at*;by_cases hB:0<=inn x.toList sB
         ·go_wp2_with(first|(go_at_call 27;refine(lZ x sB _ _ Z (by simp)).mono ?_;rintro e w7 ⟨rfl,aj⟩));exact ξ (ω (t:=4) (u:=5) Z _ _ _) Z (tU (r:=V) (bh hB) (d.trans ((ae.trans (aj.mono ae.size)).mono d.size)) (G O 0 0) ⟨O,0,0,Z⟩)
         have aG:¬0<=a1\/a1=0\/a1=1\/a1=2:=by omega
         rcases aG with hA|rfl|rfl|rfl
         all_goals
          go_upto_region 46 with(first|(go_at_call 27;refine(lZ x sB _ _ Z (by simp)).mono ?_;rintro e w7 ⟨rfl,aj⟩;have an:=ae.trans (aj.mono ae.size);have az:=aD (bH ay λi hi=>(am.trans (aj.mono am.size)).block i (ay.lt i hi).2)))
          go_name_world W7 hE;have aT:η (H (D W0)) W0 W7:=by rw[<- hE];first|exact an|exact an.alloc an.size _
          have aM:aC (W7.ownsRow (H (D W0)) 9 1 (VV gq (M T) cq) (M T) (T.map xW)):=by rw[<- hE];first|exact az.o|exact az.alloc _
          have bE:=aT.size;clear hE ap bf aj an az am ae;go_wp2_with(first
           |(at_builtin;refine qH Tryz.infoStr ζ Z Z (.tmp 196) (.tmp 198) Z Z Z Z Z aM (by omega) (by omega) ?_))
          intro g1 ah w4 al ab bp aZ;obtain⟨u,hw,hR⟩:∃u:ι,w4.ownsRow (H (D W0)) 9 1 (VV g1 (M T+1) ah) (M T+1) (T.map xW++[E u])/\V=oI ((T++[u]).map xF) ((F.map xF).drop (j+1)):=⟨_,al,bi _ (by omega) (by first|rfl|rw[ρ (by omega)])⟩;go_wp2_with fail;go_roundw;exact⟨j+1,g1,ah,T++[u],by omega,by simp,by go_num,hR,by unfold aC;simpa using hw,by simp;omega,(aT.alloc bE _).grown ab (by simp;omega) λi hi=>(aM.lt i hi).1⟩;simp[ε];omega
        ·have cc:j=M F:=by omega
         have aW:¬(j:φ)<M F:=by omega
         obtain⟨(bo:aC _),bv,bx⟩:=vH ay (by simp);have aO:aC (V=(T.map xF,C)):=by
          unfold aC;rw[aA.o,xc (by simp;omega)];rfl
         go_wp2;exact ξ (ω (t:=4) (u:=5) Z _ _ _) Z (NA T C (by rw[aO.o]) (by rw[aO.o]) (by omega) bv bo bx (d.trans (ai.mono d.size)))
namespace R
def oN(last:t)(x:W T):δ (W T):=if x.isEmpty then O else if(x.getLast?==I 44)==last then O else I (if last then x else x.dropLast)
def kN(acc:W (W T)):W (W T)->δ (W (W T))
 |[]=>I acc
 |x::r=>match oN r.isEmpty x with
  |none=>O
  |some a=>kN (acc++[a]) r
def rN(w0:W T):δ (W (W T))->W (W T)×t
 |none=>([],Y)
 |some a=>if w0.isEmpty||w0.getLast?==I 44 then([],Y)else match bF 46 w0 with
  |[]=>([],Y)
  |h0::hs=>rJ h0 hs a
def iJ(l:W T):W (W T)×t:=match bF 32 l with
 |[]=>([],Y)
 |w0::ws=>rN w0 (kN [] ws)
end R
theorem P.CC(c:T):∀(l x:W T),x∈bF c l->M x<=M l
 |[],x,h=>by grind [bF]
 |a::l,x,h=>by
  rw[bF]at h
  split at h
  ·rcases List.mem_cons.1 h with rfl|h
   ·simp
   ·have:=P.CC c l x h;simp;omega
  ·split at h
   ·rename_i p t e
    rcases List.mem_cons.1 h with rfl|h
    ·have:=P.CC c l p (by grind);simp;omega
    ·have:=P.CC c l x (by grind);simp;omega
   ·simp at h;simp[h]
def Ww{B n c:S}{i:δ Addr}{f:W u}(h:w.ownsRow B 9 1 (G i n c) n (f.map xW))(q:M f=n):wF w (G i n c) f:=by
 subst q;have o:=h.2
 rcases o with⟨e,_⟩|⟨k,j,l,e,_,_,b,_⟩
 ·injection e with e1 e2 e3
  subst e1 e3;exact⟨O,0,Z,by omega,λd=>absurd (List.eq_nil_of_length_eq_zero e2) d⟩
 ·injection e with e1 e2 e3
  subst e1 e3;obtain⟨m,_,p⟩:=vH h Z;exact⟨_,_,Z,b,λ_=>⟨k,Z,m,p⟩⟩
def OX(x:u)(h:0<x.size):(x.toList.getLast?==I 44)=(((x[x.size-1]'(by omega)).toNat:z)==44):=by
 have b:x.size-1<x.size:=by omega
 rw[List.getLast?_eq_getElem?,cV,x8 (by rw[cV];omega),JF x (x.size-1) b,xd];simp only[beq_iff_eq,Option.some.injEq];constructor
 ·intro e;rw[e];rfl
 ·intro e;rw[<- UInt8.ofNat_toNat (x:=x[x.size-1])];rw[show x[x.size-1].toNat=44 by omega];rfl
theorem He(s:ι)(w:θ)(hs:s.size<=8192):
  Calls prog 17 #[E s] w λe w'=>zU w w' e (iJ s.toList):=by
 generalize ay:iJ s.toList=l;go_in;go_upto_region 2 with(first|(go_at_call 13;refine(IU s 32 _ hs).mono ?_;rintro e w1 ⟨g,aP,n,d,y,rfl,ae,f,aK,aW,aX,k⟩;obtain⟨ab,aY,aN⟩:=vH f (by simp;omega)))
 have ag:aC (∀x∈d::y,x.size<=8192):=λx hx=>by
  have h:=CC 32 s.toList x.toList (by rw[<- ae.o];exact List.mem_map.2 ⟨x,hx,Z⟩)
  grind [cV]
 have aF:d.size<=8192:=ag.o d (by simp);have ac:aC (l=rN d.toList (kN [] (y.map xF))):=by grind [aC,iJ]
 obtain⟨aR,_,_⟩:=ab.head;have ai:=aD ab;obtain⟨m,rfl⟩:∃m,n=m+1:=⟨n-1,by omega⟩;have ap:M y=m:=by omega
 have B:=aD ap;clear f aK ay ab ap;go_wp2_with(first|(go_at_call 13;refine(IU d 46 _ aF).mono ?_;rintro e w2 ⟨gh,ch,nh,h0,hh,rfl,ad,F,aG,aT,aU,c⟩));obtain⟨au,am,aM⟩:=vH F (by simp;omega);have aj:=aD au;clear au F;go_loopw[6,7] (λav i wr=>∃(j:τ) (na:δ Addr) (nc:τ) (A:ν ι),j<=m/\M A=j/\av=G na j nc/\i=.int .i64 (j+1:τ)/\aC (l=rN d.toList (kN (A.map xF) ((y.map xF).drop j)))/\aC (wr.ownsRow (H (D w2)) 9 1 av j (A.map xW))/\η (H (D w2)) w2 wr) λ_ i _=>m+1-(ε i).toNat
 case atStart=>exact⟨0,O,0,[],x7 _,Z,Z,Z,ac,xa _ _ _ _,x5 _ _⟩
 case round =>
  obtain⟨j,na,nc,A,hj,S,rfl,rfl,HU,HO,b⟩:=hrel;by_cases hlt:j<m
  ·have aH:((j+1:τ):φ)<((m+1:τ):φ):=by omega
   have aI:j<M y:=by rw[B.o];exact hlt
   have aa:=b.size;have bb:wr.cell? ⟨g,j+1,O⟩=I (E y[j]):=by
    have h1:=(ai.X (c.trans (b.mono c.size))).get (j+1) (by simp;omega)
    grind
   have ax:aC (y[j].size<=8192):=ag.o _ (x4 _ (x9 aI));have al:g<H (D wr):=by have:=c.size;omega
   have HD:aC ((y.map xF).drop j=y[j].toList::(y.map xF).drop (j+1)):=by
    grind [aC,xb]
   have HL:aC (((y.map xF).drop (j+1)).isEmpty=((j:φ)+1==(m:φ))):=by
    unfold aC;rw[xd,List.isEmpty_iff,List.drop_eq_nil_iff];simp;rw[B.o];omega
   generalize y[j]=x at*;generalize aQ:((j:φ)+1==(m:φ))=bl at*;by_cases hx0:x.size=0
   ·have aO:¬(0:φ)<x.size:=by omega
    have aw:((x.size:φ)==0)=C:=by grind
    have z:aC (l.2=Y):=by
     unfold aC;have:x.toList.isEmpty=C:=by grind [cV]
     rw[HU.o,HD.o,kN,oN,π this];rfl
    clear hx0;cases bl
    all_goals
     go_wp2;exact ξ (ω (t:=2) (u:=3) Z _ _ _) Z (tU (r:=l) z (k.trans ((c.trans (b.mono c.size)).mono k.size)) (G O 0 0) ⟨O,0,0,Z⟩)
   ·have ba:(0:φ)<x.size:=by omega
    have aw:((x.size:φ)==0)=Y:=by grind
    have hw:wrap64 ((x.size:φ)-1)=(x.size:φ)-1:=by have h9:=ax.o;unfold wrap64;omega
    have aq:(0:φ)<=x.size-1:=by omega
    have ar:(x.size:φ)-1<(x.size:φ):=by omega
    have K:x.size-1<x.size:=by omega
    have HG:aC ((x.toList.getLast?==I 44)=(((x[x.size-1]'K).toNat:φ)==44)):=OX x (by omega);have HN:aC (x.toList.isEmpty=Y):=by
     grind [aC,cV]
    generalize aB:(((x[x.size-1]'K).toNat:φ)==44)=bc at*
    cases bc<;>cases bl
    ·have z:aC (l.2=Y):=by unfold aC;rw[HU.o,HD.o,kN,oN,HN.o,HG.o,HL.o];rfl
     go_wp2;exact ξ (ω (t:=2) (u:=3) Z _ _ _) Z (tU (r:=l) z (k.trans ((c.trans (b.mono c.size)).mono k.size)) (G O 0 0) ⟨O,0,0,Z⟩)
    ·have V:aC (l=rN d.toList (kN ((A++[x]).map xF) ((y.map xF).drop (j+1)))):=by
      grind [aC,kN,oN]
     have W:=aD HO.o;go_wp2_with(first
      |(at_builtin;refine qH Tryz.infoStr ζ Z Z (.tmp 63) (.tmp 65) Z Z Z Z Z W (by omega) (by omega) ?_))
     intro g1 ak w4 f q az an;go_wp2_with fail;go_roundw;exact⟨j+1,_,_,A++[x],by omega,by simp[S],Z,by go_num,V,by unfold aC;simpa using f,(b.alloc aa _).grown q (by simp;omega) λi hi=>(HO.lt i hi).1⟩;simp[ε];omega
    ·have V:aC (l=rN d.toList (kN ((A++[x.extract 0 (x.size-1)]).map xF) ((y.map xF).drop (j+1)))):=by
      grind [aC,kN,oN,mX,List.dropLast_eq_take,cV]
     have aZ:∀wx,(Instr.slice 9 (E x) O (I (.int .i64 ((x.size:φ)-1))) O).run prog wx=.ok (E (x.extract 0 (x.size-1))) wx:=λwx=>by
      rw[run_slice_string_to_if _ _ _ _ _ underlying9,π (by omega)]
      congr 3;omega
     generalize x.extract 0 (x.size-1)=u at*;have W:=aD HO.o;go_wp2_with(first
      |(at_builtin;refine qH Tryz.infoStr ζ Z Z (.tmp 63) (.tmp 65) Z Z Z Z Z W (by omega) (by omega) ?_))
     intro g1 ak w4 f q az an;go_wp2_with fail;go_roundw;exact⟨j+1,_,_,A++[u],by omega,by simp[S],Z,by go_num,V,by unfold aC;simpa using f,(b.alloc aa _).grown q (by simp;omega) λi hi=>(HO.lt i hi).1⟩;simp[ε];omega
    ·have z:aC (l.2=Y):=by unfold aC;rw[HU.o,HD.o,kN,oN,HN.o,HG.o,HL.o];rfl
     go_wp2;exact ξ (ω (t:=2) (u:=3) Z _ _ _) Z (tU (r:=l) z (k.trans ((c.trans (b.mono c.size)).mono k.size)) (G O 0 0) ⟨O,0,0,Z⟩)
  ·obtain rfl:m=j:=by omega
   have aH:¬((m+1:τ):φ)<((m+1:τ):φ):=by omega
   have aa:=b.size;have L:η (H (D w)) w wr:=k.trans ((c.trans (b.mono c.size)).mono k.size);have aS:wr.cell? ⟨g,0,O⟩=I (E d):=by
    have h1:=(ai.X (c.trans (b.mono c.size))).get 0 (by simp);simpa using h1
   have ah:aC (l=rN d.toList (I (A.map xF))):=by
    unfold aC;rw[HU.o,xc (by simp;rw[B.o];omega)];rfl
   have al:g<H (D wr):=by have:=c.size;omega
   have aV:m<9000:=by
    have h9:=CG 32 s.toList;rw[<- ae.o,cV]at h9;simp[B.o]at h9;omega
   clear HU ac;by_cases hd1:d.size=0
   ·have aE:((d.size:φ)==0)=C:=by rw[beq_iff_eq];omega
    have z:aC (l.2=Y):=by
     grind [aC,cV,rN]
    clear hd1;go_wp2;exact ξ (ω (t:=2) (u:=3) Z _ _ _) Z (tU (r:=l) z L (G O 0 0) ⟨O,0,0,Z⟩)
   ·have aE:((d.size:φ)==0)=Y:=by rw[ψ];omega
    have hw:wrap64 ((d.size:φ)-1)=(d.size:φ)-1:=by unfold wrap64;omega
    have aq:(0:φ)<=d.size-1:=by omega
    have ar:(d.size:φ)-1<(d.size:φ):=by omega
    have K:d.size-1<d.size:=by omega
    have HG:aC ((d.toList.getLast?==I 44)=(((d[d.size-1]'K).toNat:φ)==44)):=OX d (by omega);have HN:aC (d.toList.isEmpty=Y):=by
     grind [aC,cV]
    generalize aB:(((d[d.size-1]'K).toNat:φ)==44)=bc at*;cases bc
    rotate_left
    ·have z:aC (l.2=Y):=by unfold aC;rw[ah.o,rN,HN.o,HG.o];rfl
     go_wp2;exact ξ (ω (t:=2) (u:=3) Z _ _ _) Z (tU (r:=l) z L (G O 0 0) ⟨O,0,0,Z⟩)
    ·have z:aC (l=rJ h0.toList (hh.map xF) (A.map xF)):=by
      grind [aC,rN]
     have T:wF wr (G na m nc) A:=by
      exact Ww HO S
     obtain⟨p,rfl⟩:∃p,nh=p+1:=⟨nh-1,by omega⟩;have aJ:M hh=p:=by omega
     subst aJ;have J:=Wv gh ch (G na m nc) h0 hh A wr (aj.X b) T am (by
      have h9:=CG 46 d.toList;rw[<- ad.o,cV]at h9
      grind) (by omega)
     rw[<- z.o]at J;have af:=aD J;clear J z;clear T aG am aj ad ah HG HN hd1 hw aq ar S HO B;go_upto_region 19 with fail
     go_wp2_with(first|(go_at_call 37;refine af.mono ?_;rintro e w9 aL;obtain⟨v,rfl,⟨va,vn,vc,rfl⟩,ao,aA⟩:=aL));exact ξ (ω (t:=2) (u:=3) Z _ _ _) Z ⟨_,Z,⟨_,_,_,Z⟩,ao,L.trans (aA.mono L.size)⟩
namespace P
theorem sC(c:T):∀q:W T,c∉q/\bF c q=[q]\/∃x r,q=x++c::r/\c∉x/\bF c q=x::bF c r
 |[]=>x1 ⟨by simp,Z⟩
 |a::q=>by
  by_cases e:a=c
  ·subst e;exact xR ⟨[],q,Z,by simp,by rw[bF,π rfl]⟩
  ·rcases sC c q with⟨b,d⟩|⟨x,r,b,d,f⟩
   ·simp_all [Ne.symm,bF,ρ]
   ·exact xR ⟨a::x,r,by grind,by grind,by rw[bF,ρ e,f]⟩
theorem FB:∀(a q:W T),(32:T)∉a->dV 44 32 (a++44::32::q)=a::dV 44 32 q
 |[],q,_=>Dd 44 32 q
 |c::a,q,h=>by
  have b:(32:T)∉a:=λe=>h (x4 _ e)
  rw[xe,EI 44 32 c _ λ⟨_,e⟩=>by
   cases a with
   |nil=>simp at e
   |cons d a=>simp at e;exact b (by grind),FB a q b]
  rfl
theorem GL:∀(a:W T),(32:T)∉a->dV 44 32 a=[a]
 |[],_=>Z
 |c::a,h=>by
  have b:(32:T)∉a:=λe=>h (x4 _ e)
  rw[EI 44 32 c _ λ⟨_,e⟩=>by
   cases a with
   |nil=>simp at e
   |cons d a=>simp at e;exact b (by grind),GL a b]
  rfl
theorem NS:∀(x q:W T),(32:T)∉x->x.getLast?≠I 44->∃p t,dV 44 32 (x++32::q)=p::t/\(32:T)∈p
 |[],q,_,_=>by
  have h:=EI 44 32 32 q (λ⟨e,_⟩=>by simp at e);rw[List.nil_append,h]
  cases e:dV 44 32 q with
  |nil=>exact absurd e (DB _ _ _)
  |cons p t=>exact⟨32::p,t,Z,by simp⟩
 |c::x,q,h,hl=>by
  have b:(32:T)∉x:=λe=>h (x4 _ e)
  have i:x.getLast?≠I 44:=by
   grind
  obtain⟨p,t,e1,e2⟩:=NS x q b i;rw[xe,EI 44 32 c _ λ⟨f,e⟩=>by
   cases x with
   |nil=>simp at hl;exact hl f
   |cons d x=>simp at e;exact b (by grind),e1]
  exact⟨c::p,t,Z,x4 _ e2⟩
end P
namespace R
theorem W5{x:W T}(h:oN Y x=I a):x=a++[44]:=by
 unfold oN at h
 split at h
 ·cases h
 split at h
 ·cases h
 rename_i c d;simp at d h;rw[<- h];obtain⟨y,b,rfl⟩:∃y b,x=y++[b]:=⟨x.dropLast,x.getLast (by simpa using c),(xg (by simpa using c)).symm⟩
 grind
theorem W6{x:W T}(h:oN C x=I a):x=a:=by
 grind [oN]
theorem W8:∀(n:S) (q:W T),M q<=n->∀b out,kN b (bF 32 q)=I out->out=b++dV 44 32 q:=by
 intro n
 induction n with
 |zero =>
  grind [bF,kN,oN]
 |succ n ih =>
  intro q j b out h
  rcases sC 32 q with⟨i,d⟩|⟨x,r,rfl,d,f⟩
  ·grind [kN,W6,GL]
  ·rw[f,kN]at h;have c:(bF 32 r).isEmpty=Y:=by
    grind [vT]
   rw[c]at h
   cases e:oN Y x with
   |none=>rw[e]at h;cases h
   |some a =>
    rw[e]at h;have k:=W5 e
    grind [FB]
theorem W9:∀(n:S) (q:W T),M q<=n->(∀p∈dV 44 32 q,p≠[]/\(32:T)∉p/\(44:T)∉p)->∀b,kN b (bF 32 q)=I (b++dV 44 32 q):=by
 intro n
 induction n with
 |zero =>
  grind [dV]
 |succ n ih =>
  intro q l d b
  rcases sC 32 q with⟨j,c⟩|⟨x,r,rfl,c,k⟩
  ·grind [GL,oN,kN]
  ·by_cases hl:x.getLast?=I 44
   ·obtain⟨a,rfl⟩:∃a,x=a++[44]:=by
     have m:x≠[]:=by grind
     refine⟨x.dropLast,?_⟩
     grind [xg]
    have f:(32:T)∉a:=λe=>c (by simp[e])
    have e:a++[44]++32::r=a++44::32::r:=by simp
    rw[e]at d⊢;rw[FB a r f]at d⊢;have i:(bF 32 r).isEmpty=Y:=by
     grind [vT]
    have e2:oN Y (a++[44])=I a:=by
     unfold oN;simp
    grind [x4,kN]
   ·obtain⟨p,t,e1,e2⟩:=NS x r c hl
    grind
end R
namespace P
theorem oP(n:S)(h:n<10):dI (n:z)=[UInt8.ofNat (48+n)]:=by grind [dI,Lib.decDigits_one]
theorem LX(n:S)(h:n<10):nU (n:z)=[37,114,UInt8.ofNat (48+n)]:=by grind [nU,oP]
theorem VS(d:T):d=48/\mC d 4=(0,C)\/d=49/\mC d 4=(1,C)\/d=50/\mC d 4=(2,C)\/d=51/\mC d 4=(3,C)\/d≠48/\d≠49/\d≠50/\d≠51/\(mC d 4).2=Y:=by
 by_cases h0:d=48
 ·subst h0;exact x1 ⟨Z,Z⟩
 by_cases h1:d=49
 ·subst h1;exact xR (x1 ⟨Z,Z⟩)
 by_cases h2:d=50
 ·subst h2;exact xR (xR (x1 ⟨Z,Z⟩))
 by_cases h3:d=51
 ·subst h3;exact xR (xR (xR (x1 ⟨Z,Z⟩)))
 refine xR (xR (xR (xR ⟨h0,h1,h2,h3,?_⟩)))
 cases e:(mC d 4).2
 ·rfl
 ·have e4:d=48\/d=49\/d=50\/d=51:=by
   simp only[mC,Bool.and_eq_true,decide_eq_true_eq]at e;have e5:d.toNat=48\/d.toNat=49\/d.toNat=50\/d.toNat=51:=by omega
   rcases e5 with e5|e5|e5|e5
   ·exact x1 (UInt8.toNat_inj.1 e5)
   ·exact xR (x1 (UInt8.toNat_inj.1 e5))
   ·exact xR (xR (x1 (UInt8.toNat_inj.1 e5)))
   ·exact xR (xR (xR (UInt8.toNat_inj.1 e5)))
  grind
theorem BP(w:W T):(∃d,w=[37,114,d]/\eB w=mC d 4/\(mC d 4).2=C)\/(eB w).2=Y/\∀d,w=[37,114,d]->(mC d 4).2=Y:=by
 have b:nU 0=[37,114,48]:=LX 0 (by decide);have c:nU 1=[37,114,49]:=LX 1 (by decide);have e:nU 2=[37,114,50]:=LX 2 (by decide);have f:nU 3=[37,114,51]:=LX 3 (by decide);by_cases h:∃d,w=[37,114,d]
 ·grind [VS,eB]
 simp_all [absurd,eB,ρ]
theorem IK(w:W T):(eB w).2=(cX (bN 100 w)).2/\((eB w).2=C->(eB w).1=(cX (bN 100 w)).1):=by
 rcases BP w with⟨d,rfl,e1,e2⟩|⟨e1,e2⟩
 ·grind [bN,cX]
 ·rw[e1];refine⟨?_,λh=>by cases h⟩
  match w,e2 with
  |[],_=>rfl
  |[_],_=>rfl
  |[_,_],_=>rfl
  |[a,b,d],e2 =>
   simp only[bN];rw[ρ (by decide)];by_cases ha:a=37
   ·rw[π ha]
    grind [cX]
   ·rw[ρ ha];rfl
  |_::_::_::_::_,_=>rfl
theorem TR(w:W T):(gZ w).2=(jI (bN 118 w)).2/\((gZ w).2=C->(gZ w).1=(jI (bN 118 w)).1):=by
 have c:rR 0=[91,120,93]:=Z;have e:rR 1=[91,121,93]:=Z;have f:rR 2=[91,122,93]:=Z;by_cases h:∃d,w=[91,d,93]
 ·grind [bN,gZ,jI]
 ·have e1:(gZ w).2=Y:=by
   simp_all [gZ,ρ]
  rw[e1];refine⟨?_,λh=>by cases h⟩;have:bN 118 w=[63]:=by
   match w,h with
   |[],_=>rfl
   |[_],_=>rfl
   |[_,_],_=>rfl
   |[a,b,d],h =>
    simp only[bN,if_true];rw[ρ];rintro⟨rfl,rfl⟩;exact h ⟨b,Z⟩
   |_::_::_::_::_,_=>rfl
  rw[this];rfl
theorem zY(w:W T):(dJ w).2=(dG (bN 97 w)).2/\((dJ w).2=C->(dJ w).1=(dG (bN 97 w)).1):=by
 have i:dI 0=[48]:=oP 0 (by decide);have j:dI 1=[49]:=oP 1 (by decide);have k:dI 2=[50]:=oP 2 (by decide);have l:dI 3=[51]:=oP 3 (by decide)
 match w with
 |[a] =>
  have e:bN 97 [a]=[a]:=by simp[bN]
  rw[e];unfold dJ;rw[i,j,k,l]
  rcases VS a with⟨rfl,e⟩|⟨rfl,e⟩|⟨rfl,e⟩|⟨rfl,e⟩|⟨o,p,q,s,e⟩
  ·simp[dG,e]
  ·simp[dG,e]
  ·simp[dG,e]
  ·simp[dG,e]
  ·grind [BP,dG]
 |[] =>
  have c:(eB []).2=Y:=by
   grind [BP]
  have e:bN 97 []=[63]:=Z;rw[e];unfold dJ;rw[i,j,k,l];simp[c];decide
 |[a,b] =>
  have c:(eB [a,b]).2=Y:=by
   grind [BP]
  have e:bN 97 [a,b]=[63]:=Z;rw[e];unfold dJ;rw[i,j,k,l];simp[c];decide
 |[a,b,d] =>
  have n:=IK [a,b,d];have e2:bN 97 [a,b,d]=bN 100 [a,b,d]:=by simp[bN]
  have e3:dJ [a,b,d]=(⟨C,(eB [a,b,d]).1⟩,(eB [a,b,d]).2):=by
   grind [dJ]
  rw[e2,e3];have m:bN 100 [a,b,d]=[b,d]\/bN 100 [a,b,d]=[63]:=by
   grind [bN]
  rcases m with m|m
  ·grind [dG]
  ·rw[m]at n⊢;have z:(eB [a,b,d]).2=Y:=n.1;exact⟨by simp only[z];decide,λh=>by grind⟩
 |a::b::d::f::r =>
  have c:(eB (a::b::d::f::r)).2=Y:=by
   grind [BP]
  have e:bN 97 (a::b::d::f::r)=[63]:=Z;rw[e];unfold dJ;rw[i,j,k,l];simp[c];decide
def oU(k o s:z):VW:={VW.zero with kind:=k,q:=o,scope:=s}
def rL(k o s:z):W T:=(dE k).1++if rU k then rB o s else[]
def fA:W (z×z×z):=([0,1,2,3,4]:W z).flatMap (λk=>([0,1,2,3,4,5]:W z).flatMap λo=>(([0,1]:W z).filter λs=>YV k o&&(o != 0||s==0)).map λs=>(k,o,s))++([5,6,7,8,9]:W z).map λk=>(k,0,0)
def Hf(b:W (W T))(next:z):∀r∈fA,jF (rL r.1 r.2.1 r.2.2) b next 11 0=fY (oU r.1 r.2.1 r.2.2) (dE r.1).2 b:=by
 have e:fA=[(0,0,0),(0,1,0),(0,1,1),(0,2,0),(0,2,1),(1,0,0),(1,1,0),(1,1,1),(1,3,0),(1,3,1),(2,1,0),(2,1,1),(2,2,0),(2,2,1),(2,3,0),(2,3,1),(2,4,0),(2,4,1),(3,1,0),(3,1,1),(3,2,0),(3,2,1),(3,3,0),(3,3,1),(3,4,0),(3,4,1),(4,4,0),(4,4,1),(4,5,0),(4,5,1),(5,0,0),(6,0,0),(7,0,0),(8,0,0),(9,0,0)]:=by decide
 rw[e];simp only[xh];refine⟨Z,Z,Z,Z,Z,Z,Z,Z,Z,Z,Z,Z,Z,Z,Z,Z,Z,Z,Z,Z,Z,Z,Z,Z,Z,Z,Z,Z,Z,Z,Z,Z,Z,Z,Z,?_⟩;simp
theorem Hg(b:z)(w:W T):∀(f k:S) {o s:z},nL b w f k=I (o,s)->∃j,k<=j/\j<k+f/\YV b ((j/2:S):z)=C/\w=rB ((j/2:S):z) ((j%2:S):z)
 |0,k,o,s,h=>by simp[nL]at h
 |f+1,k,o,s,h=>by
  rw[nL]at h
  split at h
  ·grind
  ·obtain⟨j,c,d,e⟩:=Hg b w f (k+1) h
   grind
theorem Xa(s:VW)(c:T)(w:W T):(mV s c w).1.kind=s.kind:=by
 grind [mV]
def PJ:∀(cs:W T) (b:W (W T)) (s:VW),(nB s cs b).2=C->(nB s cs b).1.kind=s.kind
 |[],_,_,_=>Z
 |_::_,[],_,_=>Z
 |c::cs,w::b,s,h=>by
  rw[nB]at h⊢
  split at h
  ·rename_i e;rw[π e,PJ cs b _ h,Xa]
  ·cases h
theorem Xb(s:VW)(w:W T):(kD s w).1.kind=s.kind:=by
 grind [kD]
theorem MA(first:W T)(c:W (W T))(next:z):∀(f:S) (k:z),(jF first c next f k).2=C->∃j,k<=j/\j<k+f/\(∃b,first=(dE j).1++b/\if rU j then ∃n,n<12/\YV j ((n/2:S):z)=C/\b=rB ((n/2:S):z) ((n%2:S):z)else b=[])/\(jF first c next f k).1.kind=j
 |0,k,h=>by simp[jF]at h
 |f+1,k,h=>by
  have e:(if k==10 then{VW.zero with kind:=k,label:=next}else{VW.zero with kind:=k}:VW).kind=k:=by grind
  rw[jF]at h⊢;simp only at h⊢;generalize(if k==10 then{VW.zero with kind:=k,label:=next}else{VW.zero with kind:=k}:VW)=l at h e⊢;have i:∀g:(jF first c next f (k+1)).2=C,∃j,k<=j/\j<k+(f+1:S)/\(∃b,first=(dE j).1++b/\if rU j then ∃n,n<12/\YV j ((n/2:S):z)=C/\b=rB ((n/2:S):z) ((n%2:S):z)else b=[])/\(jF first c next f (k+1)).1.kind=j:=λg=>by
   obtain⟨j,m,o,p⟩:=MA first c next f (k+1) g
   grind
  by_cases c1:(dE k).1.isPrefixOf first=C
  ·rw[π c1]at h⊢;by_cases c2:(kD l (first.drop (dE k).1.length)).2=C
   ·rw[π c2]at h⊢;obtain⟨b,d⟩:=List.isPrefixOf_iff_prefix.1 c1;refine⟨k,Int.le_refl _,by omega,⟨b,d.symm,?_⟩,?_⟩
    ·rw[<- d,List.drop_left]at c2;unfold kD at c2;rw[e]at c2;by_cases c3:rU k=C
     ·rw[π c3];rw[π c3]at c2
      grind [Hg]
     grind
    ·unfold fY at h⊢;by_cases c3:((dE k).2.length != M c)=C
     ·grind
     simp_all [ρ,PJ,Xb]
   grind
  grind
def Xc{first:W T}{b:W (W T)}{next:z}(h:(jF first b next 11 0).2=C)(m:(jF first b next 11 0).1.kind≠10):∃r∈fA,first=rL r.1 r.2.1 r.2.2:=by
 obtain⟨j,t,u,⟨s,i,e⟩,l⟩:=MA first b next 11 0 h
 rw[l]at m;have k:j=0\/j=1\/j=2\/j=3\/j=4\/j=5\/j=6\/j=7\/j=8\/j=9:=by omega
 have f:∀j∈([0,1,2,3,4]:W z),∀n∈List.range 12,YV j ((n/2:S):z)=C->∃r∈fA,(dE j).1++rB ((n/2:S):z) ((n%2:S):z)=rL r.1 r.2.1 r.2.2:=by decide
 have d:∀j∈([5,6,7,8,9]:W z),∃r∈fA,(dE j).1++[]=rL r.1 r.2.1 r.2.2:=by decide
 by_cases c:rU j=C
 ·rw[π c]at e;obtain⟨n,o,p,q⟩:=e;rw[i,q];refine f j ?_ n (List.mem_range.2 o) p
  rcases k with rfl|rfl|rfl|rfl|rfl|rfl|rfl|rfl|rfl|rfl
  all_goals first|(exfalso;revert c;decide)|simp
 ·rw[ρ c]at e;rw[i,e];refine d j ?_
  rcases k with rfl|rfl|rfl|rfl|rfl|rfl|rfl|rfl|rfl|rfl
  all_goals first|(exfalso;apply c;decide)|simp
end P
namespace R
def vQ(x:W T):W (W T)->S
 |[]=>0
 |y::r=>if y=x then 0 else vQ x r+1
def Hh(x:W T):∀l:W u,bO x l=vQ x (l.map xF)
 |[]=>Z
 |y::r=>by rw[bO,List.map_cons,vQ,Hh x r]
def yD:W (W T):=[[108,100],[115,116],[97,116,111,109],[102,101,110,99,101],[98,97,114],[109,111,118],[97,100,100],[115,117,98],[115,101,116,101,113]]
def yG:W (W T):=[[100,118],[118,97],[100,118,97],[],[],[100,97],[100,97,97],[100,97,97],[100,97,97]]
def Xd:jC.map xF=yD:=by simp[jC,yD,bI]
def Xe:uY.map xF=yG:=by simp[uY,yG,bI]
def CX(m:S):W T:=if m=0 then[97,99,113,114,101,108]else if m=1 then[98,108,111,99,107]else[100,101,118,105,99,101]
theorem Xf(m:S):(sN m).toList=CX m:=by
 unfold sN CX
 grind [bI]
def zQ(x:W T):δ (W T):=if 0<=inn x sB then O else if 0<=inn x sA then I (CX (inn x sA).toNat)else I x
def Xg(x:W T):FF x=zQ x:=by unfold FF zQ;rw[Xf]
def fW(out:W (W T)):W (W T)->W (W T)×t
 |[]=>(out,C)
 |x::r=>match zQ x with
  |none=>([],Y)
  |some y=>fW (out++[y]) r
def FJ:∀(r out:W (W T)),oI out r=fW out r
 |[],_=>Z
 |x::r,out=>by
  rw[oI,fW,Xg]
  cases zQ x with
  |none=>rfl
  |some y=>exact FJ r _
def qI(k:S)(a hs:W (W T)):W (W T)×t :=
 match k with
 |0=>fW [a.getD 0 [],dO,pP,a.getD 1 []] hs
 |1=>fW [rK,a.getD 0 [],a.getD 1 []] hs
 |2=>match hs with
  |[]=>([],Y)
  |h::r=>if h=dZ then fW [a.getD 0 [],dO,dZ,a.getD 1 [],a.getD 2 []] r else if h=iO then fW [a.getD 0 [],dO,oZ,a.getD 1 [],a.getD 2 []] r else([],Y)
 |3=>fW [uW] hs
 |4=>([MZ],hs==[AG])
 |5=>([a.getD 0 [],dO,a.getD 1 []],hs.isEmpty)
 |k+6=>([a.getD 0 [],dO,a.getD 1 [],VC k,a.getD 2 []],hs.isEmpty)
def Xh(k:S)(a b:W (W T)):mE k a b=qI k a b:=by
 match k with
 |0=>exact FJ _ _
 |1=>exact FJ _ _
 |2 =>
  cases b with
  |nil=>rfl
  |cons h r=>simp only[mE,qI,FJ]
 |3=>exact FJ _ _
 |4=>rfl
 |5=>rfl
 |k+6=>rfl
def xZ(h0:W T)(hs xs:W (W T)):W (W T)×t :=
 if vQ h0 yD=9 then([],Y)else if M xs≠(yG.getD (vQ h0 yD) []).length then([],Y)else qI (vQ h0 yD) (iT (yG.getD (vQ h0 yD) []) xs) hs
def JD(b:W T)(c d:W (W T)):rJ b c d=xZ b c d:=by
 unfold rJ xZ IL;rw[Hh,Xd,Xe,Xh]
def OW(o:z):W T:=if o==0 then[119,101,97,107]else if o==1 then[114,101,108,97,120,101,100]else if o==2 then[97,99,113,117,105,114,101]else if o==3 then[114,101,108,101,97,115,101]else if o==4 then[97,99,113,114,101,108]else[115,99]
def iR(o s:z):W (W T):=OW o::if o==0 then[]else[if s==0 then[98,108,111,99,107]else[100,101,118,105,99,101]]
def sX(k o s:z)(a:W (W T)):W (W T):=
 if k==0 then[a.getD 0 [],dO,pP,a.getD 1 []]++iR o s
 else if k==1 then[rK,a.getD 0 [],a.getD 1 []]++iR o s
 else if k==2 then[a.getD 0 [],dO,dZ,a.getD 1 [],a.getD 2 []]++iR o s
 else if k==3 then[a.getD 0 [],dO,oZ,a.getD 1 [],a.getD 2 []]++iR o s
 else if k==4 then[uW]++iR o s
 else if k==5 then[MZ]
 else if k==6 then[a.getD 0 [],dO,a.getD 1 []]
 else[a.getD 0 [],dO,a.getD 1 [],if k==7 then[43]else if k==8 then[45]else[61,61],a.getD 2 []]
def kd(k:z):W T:=if k==0 then[100,118]else if k==1 then[118,97]else if k==2||k==3 then[100,118,97]else if k==4||k==5 then[]else if k==6 then[100,97]else[100,97,97]
def Hi(k o s:z)(xs:W (W T)):Prop:=∃h0 hs,bF 46 (rL k o s)=h0::hs/\rJ h0 hs xs=if M xs≠(kd k).length then([],Y)else(sX k o s (iT (kd k) xs),C)
def fJ{k o s:z}{b:W (W T)}(c:W T)(d:W (W T))(e:bF 46 (rL k o s)=c::d)(f:xZ c d b=if M b≠(kd k).length then([],Y)else(sX k o s (iT (kd k) b),C)):Hi k o s b:=⟨c,d,e,by rw[JD];exact f⟩
def Hj:fA=[(0,0,0),(0,1,0),(0,1,1),(0,2,0),(0,2,1),(1,0,0),(1,1,0),(1,1,1),(1,3,0),(1,3,1),(2,1,0),(2,1,1),(2,2,0),(2,2,1),(2,3,0),(2,3,1),(2,4,0),(2,4,1),(3,1,0),(3,1,1),(3,2,0),(3,2,1),(3,3,0),(3,3,1),(3,4,0),(3,4,1),(4,4,0),(4,4,1),(4,5,0),(4,5,1),(5,0,0),(6,0,0),(7,0,0),(8,0,0),(9,0,0)]:=by decide
def Hk(b:W (W T)):∀r∈fA,Hi r.1 r.2.1 r.2.2 b:=by
 rw[Hj];simp only[xh];refine⟨fJ _ _ Z Z,fJ _ _ Z Z,fJ _ _ Z Z,fJ _ _ Z Z,fJ _ _ Z Z,fJ _ _ Z Z,fJ _ _ Z Z,fJ _ _ Z Z,fJ _ _ Z Z,fJ _ _ Z Z,fJ _ _ Z Z,fJ _ _ Z Z,fJ _ _ Z Z,fJ _ _ Z Z,fJ _ _ Z Z,fJ _ _ Z Z,fJ _ _ Z Z,fJ _ _ Z Z,fJ _ _ Z Z,fJ _ _ Z Z,fJ _ _ Z Z,fJ _ _ Z Z,fJ _ _ Z Z,fJ _ _ Z Z,fJ _ _ Z Z,fJ _ _ Z Z,fJ _ _ Z Z,fJ _ _ Z Z,fJ _ _ Z Z,fJ _ _ Z Z,fJ _ _ Z Z,fJ _ _ Z Z,fJ _ _ Z Z,fJ _ _ Z Z,fJ _ _ Z Z,?_⟩;simp
end R
