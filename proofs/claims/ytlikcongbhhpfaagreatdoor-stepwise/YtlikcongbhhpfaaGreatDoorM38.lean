import Derived.Test.YtlikcongbhhpfaaGreatDoorM37
import Derived.Test.YtlikcongbhhpfaaGreatDoorM36
set_option linter.unusedVariables false
set_option linter.unusedSimpArgs false
set_option maxHeartbeats 12800000
namespace Go.Proofs.YtlikcongbhhpfaaGreatDoor
open Go Go.RowKit Go.Proofs.Tryz P Q
set_option maxRecDepth 1000000
variable {t:JV}{r:Run}{w:Wd}{R:Int}{p:JR->Bool}{ts:List JV}{α:Type}
open Go.Value renaming slice->C,bool->N,int->T
open Option renaming none->I,some->M
open Bool renaming false->G,true->J
open Go.Obj renaming cells->U
open Go.Ending renaming returned->H
open Go.IntKind renaming i64->W
open Nat renaming le_refl->xF,le_trans->x6,lt_of_le_of_lt->xd,pow_le_pow_right->xe
open Or renaming inr->xR,inl->xW
open Go.RowKit.Below renaming refl->x3,heap_alloc->xg
open List renaming range->x4,foldl_cons->x5,length_cons->x7,mem_cons_of_mem->x8,length_append->x9,mem_cons->xb,length_map->xh,map_cons->xi,getElem_mem->xj,drop_eq_nil_of_le->xk,append_assoc->xl,filter_append->xm,filter_map->xo,mem_nil_iff->xp,flatMap_cons->xq,getElem?_eq_getElem->xr,filter_congr->xt,mem_flatMap->xu
namespace Q
theorem Rh(a:MA)(c:Cand):a.y.length<=(lS a c).y.length:=oQ _ (Ak _ _ _ _) _ _
theorem Ri(ts:List JV):(dM (dD (KC ts) I (LX (MP (KC ts))))).foldl lS ⟨[],G⟩=OB ts:=by rw[<- Ac];rfl
end Q
theorem Rj(B bt F:Nat)(ts:List JV)(w:World)(h:bK w B (JQ bt ts.length F) ts)(hn:ts.length<20)(bl:∀t∈ts,(∀s∈t.S,NZ s)/\t.S.length<900/\OM t.S<100000)(bo:∀r∈KC ts,r.length<100000000)(bp:∀rs∈KC ts,∀r∈rs,r.g.length=4/\∀e∈r.E,e.h<MU)(hW:∀d,MV (MP (KC ts)) d->WdOk (KZ (KC ts) d))(av:(OB ts).y.length<100000000):
  Calls prog 19 #[.agg #[JQ bt ts.length F]] w fun e w'=>∃ov vs,e=H (.tuple #[ov,N (OB ts).clash])/\LA w' 0 ov (OB ts).y vs/\Below w.heap.size w w':=by
 obtain⟨k0,k1,bH,ar⟩:=hJ w #[JQ bt ts.length F] #[C I 0 0,N G] 52 70;have HT:=JO (h.keep fun k hk=>ar.block k hk);have aN:=JO bl;have aO:=JO bo;have aP:=JO bp;have HW:=JO hW;have al:=JO av;have aH:=JO ar;have aL:=JO (Ri ts);generalize OB ts=i at*;go_enter func19,ntmps19;go_upto_region 2 with fail
 generalize hE:(w.alloc (U #[JQ bt ts.length F] 52)).alloc (U #[C I 0 0,N G] 70)=W0 at*;have bx:=aB k0 0 _ Z;have l1:w.heap.size+1<W0.heap.size:=by omega
 have K1:=JO k1;go_upto_region 3 with(first
  |(go_at_call 34;refine(Ab B bt F ts _ HT.o hn aN.o).mono ?_;rintro e x ⟨rv,vs,aF,gb,gd,rfl,⟨xa,xn,xc,az⟩,ax,bh,bi,bD,bE,bk,bd⟩;obtain⟨ya,yc,O⟩:=qV ax.ow;rw[az]at O;simp only[Value.slice.injEq]at O;obtain⟨-,br, -⟩:=O;subst br;subst az;have aT:=JO ax;have aQ:=JO bh;have aR:=JO bi;have B1:=JO bd;have KB:JP ((x.alloc (U #[C I 0 0,C I 0 0,C I 0 0,C I 0 0,C I 0 0,C I 0 0,C I 0 0,C I 0 0,C I 0 0,C I 0 0,C I 0 0,C I 0 0,C I 0 0,C I 0 0,C I 0 0,C I 0 0,N G,C I 0 0,C I 0 0,C I 0 0,N G,N G] 87)).heap[x.heap.size]?=M (U #[C I 0 0,C I 0 0,C I 0 0,C I 0 0,C I 0 0,C I 0 0,C I 0 0,C I 0 0,C I 0 0,C I 0 0,C I 0 0,C I 0 0,C I 0 0,C I 0 0,C I 0 0,C I 0 0,N G,C I 0 0,C I 0 0,C I 0 0,N G,N G] 87 (0,0))):=heap_alloc_new x _;have BA:JP (Below x.heap.size x (x.alloc (U #[C I 0 0,C I 0 0,C I 0 0,C I 0 0,C I 0 0,C I 0 0,C I 0 0,C I 0 0,C I 0 0,C I 0 0,C I 0 0,C I 0 0,C I 0 0,C I 0 0,C I 0 0,C I 0 0,N G,C I 0 0,C I 0 0,C I 0 0,N G,N G] 87))):=(x3 _ _).alloc (xF _) _)
  |(refine wpList_store_mid Z 87 (.tmp 5) (.tmp 8) Z x.heap.size 0 (fF (C xa (KC ts).length xc) (JQ gb (KC ts).length (KC ts).length) (JQ gd (KC ts).length (KC ts).length) (N G)) Z Z (qP KB.o (by simp[fF])) (by kernel_rfl) (by simp[fF,Value.oneCell']) ?_;have SW:=JO (vG (fF (C xa (KC ts).length xc) (JQ gb (KC ts).length (KC ts).length) (JQ gd (KC ts).length (KC ts).length) (N G)).toList KB.o (by simp[fF]));generalize(x.alloc (U #[C I 0 0,C I 0 0,C I 0 0,C I 0 0,C I 0 0,C I 0 0,C I 0 0,C I 0 0,C I 0 0,C I 0 0,C I 0 0,C I 0 0,C I 0 0,C I 0 0,C I 0 0,C I 0 0,N G,C I 0 0,C I 0 0,C I 0 0,N G,N G] 87)).setCells x.heap.size 0 (fF (C xa (KC ts).length xc) (JQ gb (KC ts).length (KC ts).length) (JQ gd (KC ts).length (KC ts).length) (N G)).toList=W1 at*))
 obtain⟨s0,s1,s2⟩:=SW.o;have BL:=JO (s2 x x.heap.size (xF _) BA.o);have S0:=JO s0;have bG:=B1.o.size;have KG:=JO ((BL.o.block _ (by omega)).trans ((B1.o.block _ l1).trans K1.o));have aI:JP (Below w.heap.size w W1):=JW (JW aH.o (xF _) B1.o) (xF _) BL.o;have aS:JP (oP w x.heap.size (w.heap.size+1) ⟨C xa (KC ts).length xc,vs,aF,gb,gd⟩ (KC ts) lS i W1 (dM (dD (KC ts) I (LX (MP (KC ts))))).length):=⟨I,_,_,_,_,_,_,Ah (t:=70) aT.o aQ.o aR.o bk (by simpa using S0.o) BL.o KG.o (xW Z) (by omega) (by omega) (by omega) aI.o,aL.o,Z⟩;generalize(⟨C xa (KC ts).length xc,vs,aF,gb,gd⟩:WA)=A at*;generalize x.heap.size=q at*;obtain⟨μ,hμ⟩:=sD (oP w q (w.heap.size+1) A (KC ts) lS i);have am:=JO hμ;simp only[Act.put];go_loopw[] (fun wr=>∃m,JP (oP w q (w.heap.size+1) A (KC ts) lS i wr m)) fun wr=>μ wr
 case atStart=>exact⟨_,aS⟩
 case round =>
  obtain⟨hI,bw⟩:=am.o wr (by obtain⟨n,h⟩:=hrel;exact⟨n,h.o⟩);obtain⟨st,ds,rest,an,ov,aE,fp,hB,bc,aw⟩:=hI;have BO:=JO hB;have FD:=JO bc;have HL:=JO aw;go_upto_region 4 with(first|(go_at_call 35;refine(Aa q A _ st ds rest _ BO.o.cand (by rw[AY];exact hn) aO.o aP.o HW.o).mono ?_;rintro e Y ⟨b,rfl,hF,h1⟩;have ak:=JO hF;rcases h1 with⟨rfl,ab⟩|⟨rfl,s,bz,c,gr,j,ab,bj,bg⟩))
  ·obtain⟨L,aq⟩:=BO.o.frame ak.o;have aK:=JO L;have ai:=JO aq;have bf:an=i:=by
    have V:=FD.o;rw[ab]at V;exact V
   subst bf;have c0:=L.o.cell;have c1:=L.clash;have bs:=L.o.lt;obtain⟨oa,oc,bm,_⟩:=L.o.y.form;subst bm;go_upto_region 6 with fail
   go_region_held3 (fun w'=>w'.cell? ⟨w.heap.size+1,1,I⟩=M (N an.clash)/\w'.cell? ⟨w.heap.size+1,0,I⟩=M (C oa an.y.length oc)) (first|exact⟨c1,c0⟩) (first
    |(go_at_call 38;refine(Ag (w.heap.size+1) (C oa an.y.length oc) _ (by exact c0) (by exact bs) ⟨_,_,_,Z⟩).mono ?_;rintro e w3 ⟨rfl,rfl⟩))
   all_goals
    (try go_wp2)
    go_ret2;exact⟨_,aE,Z,aK.o.o.y.X (x3 _ _).drew,ai.o.drew⟩
  ·have B2:=JO (BO.o.next ak.o j.on bj bg);obtain⟨l,bq⟩:=j.on.rs s Z;have ao:=JO bq;have v:=j.on.box.lt;have a:=l.fc;have aA:=j.c12;have aC:=l.c0;have aD:=l.c1;have z:=JO j.rel;obtain⟨fx,aa,ac,_⟩:=l.fin.form;obtain⟨ea,ec,au,_⟩:=l.wdi.K.form;obtain⟨ra,rc,ay,_⟩:=l.wdi.g.form;have ae:=JO l.fin;have ap:=JO l.wdi;have ah:JP ((dM (dD (KC ts) (M s) c)).foldl lS (lS an (OE (s.wd,s.ds)))=i):=by
    have V:=FD.o;rw[ab,x5]at V;exact V
   have aM:JP ((dM (dD (KC ts) (M s) c)).length+1=μ wr):=by
    have V:=HL.o;rw[ab,x7]at V;exact V
   have ag:(lS an (OE (s.wd,s.ds))).y.length<100000000:=by
    have V:=oQ _ Rh (dM (dD (KC ts) (M s) c)) (lS an (OE (s.wd,s.ds)));have h4:=al.o;rw[ah.o]at V;omega
   have af:=JO ag;have aj:=JO (Af s.wd.E);obtain⟨⟨ev,rg,⟨n,bA,g1,g2,g3,g4,g5,g6,g7,g8,g9⟩,cv,aY,bu,bv⟩,u,dr,rr⟩:=s;simp only at ac a aA aC aD au ay z ae ap ao aj;subst ac;subst au;subst ay;have k0:Y.cell? ⟨q,2,I⟩=M (C fx n aa):=a 0 _ Z;have k1:Y.cell? ⟨q,3,I⟩=M (JQ g1 n n):=a 1 _ Z;have k2:Y.cell? ⟨q,4,I⟩=M (JQ g2 n n):=a 2 _ Z;have k3:Y.cell? ⟨q,5,I⟩=M (JQ g3 n n):=a 3 _ Z;have k4:Y.cell? ⟨q,6,I⟩=M (JQ g4 n n):=a 4 _ Z;have k5:Y.cell? ⟨q,7,I⟩=M (JQ g5 n n):=a 5 _ Z;have k6:Y.cell? ⟨q,8,I⟩=M (JQ g6 n n):=a 6 _ Z;have k7:Y.cell? ⟨q,9,I⟩=M (JQ g7 n n):=a 7 _ Z;have k8:Y.cell? ⟨q,10,I⟩=M (JQ g8 n n):=a 8 _ Z;have k9:Y.cell? ⟨q,11,I⟩=M (JQ g9 n n):=a 9 _ Z;go_upto_region 5 with(first
    |(go_at_call 36;refine(Mr (FA.mk n (C fx n aa) g1 g2 g3 g4 g5 g6 g7 g8 g9) (KK u.E) gr (OE (u,dr)).D _ ae.o z.o).mono ?_;rintro e w3 ⟨q3,rfl,bn,be⟩;have B3:=JO be;have aW:=JO bn))
   have KA:JP ((w3.alloc (U #[JQ q3 n n] 76)).heap[w3.heap.size]?=M (U #[JQ q3 n n] 76 (0,0))):=heap_alloc_new w3 _;have BA:JP (Below w3.heap.size w3 (w3.alloc (U #[JQ q3 n n] 76))):=(x3 _ _).alloc (xF _) _;generalize w3.alloc (U #[JQ q3 n n] 76)=Va at*;have f:=JO (JW B3.o (xF _) BA.o);have ad:=JO (B2.o.X f.o);have aJ:=JO (ae.o.X f.o);have aX:=JO (ap.o.X f.o);have aV:=JO (z.o.X f.o);have aU:=JO (aW.o.X BA.o);obtain⟨bI,bJ,bL⟩:=bF KA.o;have m0:=JS f.o v k0;have m1:=JS f.o v k1;have m2:=JS f.o v k2;have m3:=JS f.o v k3;have m4:=JS f.o v k4;have m5:=JS f.o v k5;have m6:=JS f.o v k6;have m7:=JS f.o v k7;have m8:=JS f.o v k8;have m9:=JS f.o v k9;have bM:=JS f.o v aA;have bN:=JS f.o v aC;have bO:=JS f.o v aD;generalize bC:w3.heap.size=bb at*;go_wp2_with(first
    |(go_at_call 37;refine(Qd (w.heap.size+1) an ov aE fp _ _ u (FA.mk n (C fx n aa) g1 g2 g3 g4 g5 g6 g7 g8 g9) (KK u.E) gr (OE (u,dr)).D q3 ((KK u.E).KU (OE (u,dr)).D) _ ad.o.ans aX.o ao.o aJ.o aj.o aV.o aU.o (fun k e=>ad.o.nb k ⟨_,Z,xW e⟩) af.o).mono ?_;rintro e w4 ⟨rfl,bP,bQ,bB,aZ,ba⟩;have aG:=JO (ad.o.grow aZ ba)))
   have hR:oP w q (w.heap.size+1) A (KC ts) lS i w4 (dM (dD (KC ts) (M ⟨⟨C ea u.E.length ec,C ra u.g.length rc,FA.mk n (C fx n aa) g1 g2 g3 g4 g5 g6 g7 g8 g9,cv,aY,bu,bv⟩,u,dr,rr⟩) c)).length:=⟨_,_,_,_,_,_,_,aG.o,ah.o,Z⟩;go_roundw
   case rel=>exact⟨_,hR⟩
   case measure =>
    have h1:=(am.o _ ⟨_,hR⟩).2 _ hR;have h2:=aM.o;omega
namespace P
def NP:List JR->Int
 |[]=>0
 |s::r=>(if s.k==4 then 1 else if s.k==5 then 2 else 0)+NP r
def evT:List JV->Int
 |[]=>0
 |t::r=>NP t.S+evT r
end P
theorem Rn(B X n y:Nat)(ts:List JV)(w:World)(h:bK w B (JQ X n y) ts)(Y:n=ts.length)(ag:n<10)(g:∀t∈ts,t.S.length<10000):
  Calls prog 47 #[.agg #[JQ X n y]] w fun e w'=>e=H (N (decide (50<evT ts)))/\Below w.heap.size w w':=by
 have HA:=JO h;have L:=JO Y;have HS:=JO g;clear h Y g;go_enter func47,ntmps47;go_wp2;go_loopw[3,11] (fun c i wr=>∃k:Nat,∃m:Int,k<=n/\i=T W k/\c=T W m/\0<=m/\m<=20000*k/\JP (evT ts=m+evT (ts.drop k))/\Below w.heap.size w wr) fun _ i _=>n-(intOf i).toNat
 case atStart=>exact⟨0,0,Nat.zero_le _,Z,Z,by omega,by omega,by unfold JP;simp,(x3 _ _).alloc (xF _) _⟩
 case round =>
  obtain⟨k,m,hk,rfl,rfl,ae,af,HB,a⟩:=hrel;by_cases hlt:k<n
  ·have v:k<ts.length:=by rw[<- L.o];exact hlt
   obtain⟨u,sa,sc,c0,c1,c2,ho⟩:=kP HA.o L.o k v;have d0:=JS a u c0;have d1:=JS a u c1;have d2:=JS a u c2;have ad:=HS.o ts[k] (xj v);have HD:=JO (kM ts k v);have HO:=JO ho;generalize g:ts[k]=t at*;have V:0<t.S.length->∃b,sa=M ⟨b,0,I⟩/\b<w.heap.size:=fun h0=>by
    rcases ho.2 with⟨e,ab⟩|⟨b',c',aa,e,ac,O,_⟩
    ·omega
    ·simp only[Value.slice.injEq]at e;exact⟨b',e.1,(Array.getElem?_eq_some_iff.1 O).1⟩
   have s:Below w.heap.size w (wr.alloc (U #[T W t.block,T W t.i,C sa t.S.length sc] 96)):=a.alloc a.size _;have K:=JO s;go_wp2;go_loopw[3,18] (fun c j w2=>∃q:Nat,∃p:Int,q<=t.S.length/\j=T W q/\c=T W p/\m<=p/\p<=m+2*q/\JP (m+NP t.S=p+NP (t.S.drop q))/\Below w.heap.size w w2) fun _ j _=>t.S.length-(intOf j).toNat
   case atStart=>exact⟨0,m,Nat.zero_le _,Z,Z,by omega,by omega,by unfold JP;simp,K.o⟩
   case round =>
    obtain⟨q,p,hq,rfl,rfl,ah,ai,D,a⟩:=hrel;by_cases hql:q<t.S.length
    ·obtain⟨b,rfl,A⟩:=V (by omega);have F:=JO (eH (kJ HO.o Z q hql) (a.block b A));have E:=JO (kM t.S q hql);generalize g:t.S[q]=x at F E;have f:=a.size
     cases h4:x.k==4
     rotate_left
     ·have d:JP (m+NP t.S=p+1+NP (t.S.drop (q+1))):=by
       unfold JP;rw[D.o,E.o,NP];simp[h4];omega
      go_wp2_with(first|(refine dC (.tmp 20) Z Z b (q*11) x Z F.o ?_));go_roundw
      case rel=>exact⟨q+1,p+1,by omega,by go_num,by go_num,by omega,by simp;omega,d,a.alloc f _⟩
      case measure=>simp[intOf];omega
     have z:¬x.k=4:=by simpa using h4
     cases h5:x.k==5
     ·have d:JP (m+NP t.S=p+NP (t.S.drop (q+1))):=by
       unfold JP;rw[D.o,E.o,NP];simp[z,h5]
      go_wp2_with(first|(refine dC (.tmp 20) Z Z b (q*11) x Z F.o ?_));go_roundw
      case rel=>exact⟨q+1,p,by omega,by go_num,by go_num,by omega,by simp;omega,d,a.alloc f _⟩
      case measure=>simp[intOf];omega
     ·have d:JP (m+NP t.S=p+2+NP (t.S.drop (q+1))):=by
       unfold JP;rw[D.o,E.o,NP];simp[z,h5];omega
      go_wp2_with(first|(refine dC (.tmp 20) Z Z b (q*11) x Z F.o ?_));go_roundw
      case rel=>exact⟨q+1,p+2,by omega,by go_num,by go_num,by omega,by simp;omega,d,a.alloc f _⟩
      case measure=>simp[intOf];omega
    ·have l:JP (evT ts=p+evT (ts.drop (k+1))):=by
      have e:m+NP t.S=p:=by rw[D.o,xk (by omega)];simp[NP]
      unfold JP;rw[HB.o,HD.o,evT];omega
     go_wp2;go_roundw
     case rel=>exact⟨k+1,p,by omega,by go_num,Z,by omega,by simp;omega,l,a⟩
     case measure=>simp[intOf];omega
  ·have l:JP (evT ts=m):=by
    unfold JP;rw[HB.o,xk (by have:=L.o;omega)];simp[evT]
   go_wp2;go_ret;rw[l.o];exact⟨Z,a⟩
namespace P
theorem A1(a:List (List UInt8)):∀(k:Nat) (r:Rd),NL k r->r.i=k->NL (k+a.length) (NE r a).1/\r.i<=(NE r a).1.i/\((NE r a).2=G->r.i<(NE r a).1.i):=by
 induction a with
 |nil=>intro k r h _;exact⟨h,by simp[NE],by simp[NE]⟩
 |cons x r ih =>
  intro k q h d;have c:=Az x h d;have b:(dA {q with i:=q.i+1} x).1.i=q.i+1:=(yH {q with i:=q.i+1} x).1;simp only[NE]
  cases e:(dA {q with i:=q.i+1} x).2
  ·refine⟨?_,?_,?_⟩
   ·have g:=c.good;refine⟨⟨g.few,fun t e=>?_,g.O,g.ifs0,?_,g.JU,g.lin0,?_⟩,c.O,?_⟩
    ·have:=g.stm t e;simp;omega
    ·have:=g.ifs1;simp at*;omega
    ·have:=g.lin1;simp at*;omega
    ·have:=c.cn;simp at*;omega
   ·simp[b];omega
   ·simp[b];omega
  ·obtain⟨f,j,l⟩:=ih (k+1) _ c (by rw[b,d];simp);simp only[if_true];refine⟨?_,?_,?_⟩
   ·rw[show k+(x::r).length=k+1+r.length by simp;omega];exact f
   ·rw[b]at j;omega
   ·intro m;have:=l m;rw[b]at this;omega
theorem A3(l:List UInt8)(h:(bG l).2=0):(bG l).1≠[]/\(bG l).1.length<=4/\∀t∈(bG l).1,t.S.length<=l.length:=by
 have j:=wM 10 l;obtain⟨b,f,c⟩:=A1 (KD 10 l).dropLast 0 Rd.KJ GH Z;have g:(KD 10 l).dropLast.length<=l.length:=by rw[List.length_dropLast];omega
 unfold bG at h⊢;simp only[]at h⊢
 cases hq:(NE Rd.KJ (KD 10 l).dropLast).2
 ·have:=c hq;have z:Rd.KJ.i=0:=Z;simp[hq]at h;omega
 ·simp only[hq,if_true]at h⊢
  split at h
  ·have z:Rd.KJ.i=0:=Z;simp at h;omega
  ·rename_i a;rw[if_neg a];refine⟨fun e=>a (xR (xR e)),b.good.few,fun t d=>?_⟩;have:=b.good.stm t d;omega
def NT(l:List UInt8):List JV×Int×Int :=
 if 2000<l.length then([],1,0)
 else if(bG l).2 != 0 then([],2,(bG l).2)
 else if dN (bG l).1 (bG l).1 != 0 then([],3,dN (bG l).1 (bG l).1)
 else if hZ (bG l).1||decide (50<evT (bG l).1)then([],4,0)
 else((bG l).1,0,0)
end P
theorem Ro(s:ByteArray)(w:World)(hT:Tab w):
  Calls prog 27 #[.string s] w fun e j=>∃A,e=H (.tuple #[.agg #[A],T W (NT s.toList).2.1,T W (NT s.toList).2.2])/\(∃a m c,A=C a m c)/\
   ((NT s.toList).2.1=0->∃l i,A=JQ l (NT s.toList).1.length i/\bK j w.heap.size A (NT s.toList).1)/\Below w.heap.size w j:=by
 by_cases h1:2000<s.size
 ·have q:JP (NT s.toList=([],1,0)):=by unfold JP NT;rw[MS,if_pos h1]
  have h':(2000:Int)<(s.size:Int):=by omega
  go_enter func27,ntmps27;go_wp2;rw[q.o];exact lY (p:=2) (u:=3) (v:=4) w.heap.size (C I 0 0) _ _ (by kernel_rfl) Z Z Z (by exact heap_alloc_new w _) Z ⟨_,Z,⟨_,_,_,Z⟩,fun h=>by simp at h,(x3 _ _).alloc (xF _) _⟩
 have h':¬(2000:Int)<(s.size:Int):=by omega
 have hs:s.size<=8192:=by omega
 cases h2:(bG s.toList).2 != 0
 rotate_left
 ·have q:JP (NT s.toList=([],2,(bG s.toList).2)):=by unfold JP NT;rw[MS,if_neg h1,h2];rfl
  go_enter func27,ntmps27;go_wp2_with(first|(go_at_call 46;refine(A0 s _ hs (hT.X ((x3 _ _).alloc (xF _) _))).mono ?_;rintro e k ⟨A,rfl,n,f⟩;obtain⟨ta,i,rfl,D⟩:=n.form;have aa:w.heap.size+1<=k.heap.size:=(by have:=f.size;simp at this;omega);have b:k.heap[w.heap.size]?=M (U #[C I 0 0] 52 (0,0)):=(by rw[f.block _ (by simp)];exact heap_alloc_new w _);obtain⟨z0,z1,z2⟩:=dG b;have g:=JO b;have x:JP (Below w.heap.size w k):=((x3 _ _).alloc (xF _) _).trans (f.mono (by simp))));rw[q.o];refine lY (p:=2) (u:=3) (v:=4) w.heap.size (C I 0 0) _ _ (by kernel_rfl) Z Z Z ?_ Z ⟨_,Z,⟨_,_,_,Z⟩,fun h=>by simp at h,?_⟩
  ·rw[xg _ _ _ (by simp;omega)];exact bC g.o 0 _
  ·exact(x.o.setCell (xF _) _).alloc (by simp;omega) _
 obtain⟨Y,ab,B⟩:=A3 s.toList (by simpa using h2);have z:∀t∈(bG s.toList).1,t.S.length<10000:=fun t ht=>by have:=B t ht;rw[MS]at this;omega
 have hc:(dN (bG s.toList).1 (bG s.toList).1 != 0)=J/\JP (NT s.toList=([],3,dN (bG s.toList).1 (bG s.toList).1))\/(dN (bG s.toList).1 (bG s.toList).1 != 0)=G/\hZ (bG s.toList).1=J/\JP (NT s.toList=([],4,0))\/(dN (bG s.toList).1 (bG s.toList).1 != 0)=G/\hZ (bG s.toList).1=G/\decide (50<evT (bG s.toList).1)=J/\JP (NT s.toList=([],4,0))\/(dN (bG s.toList).1 (bG s.toList).1 != 0)=G/\hZ (bG s.toList).1=G/\decide (50<evT (bG s.toList).1)=G/\JP (NT s.toList=((bG s.toList).1,0,0)):=by
  unfold JP NT;rw[MS,if_neg h1,h2]
  cases dN (bG s.toList).1 (bG s.toList).1 != 0<;>cases hZ (bG s.toList).1<;>cases decide (50<evT (bG s.toList).1)<;>simp
 rcases hc with⟨K,q⟩|⟨K,L,q⟩|⟨K,L,h6,q⟩|⟨K,L,h6,q⟩
 all_goals
  go_enter func27,ntmps27;go_wp2_with(first|(go_at_call 46;refine(A0 s _ hs (hT.X ((x3 _ _).alloc (xF _) _))).mono ?_;rintro e k ⟨A,rfl,n,f⟩;obtain⟨ta,i,rfl,D⟩:=n.form;have b:k.heap[w.heap.size]?=M (U #[C I 0 0] 52 (0,0)):=(by rw[f.block _ (by simp)];exact heap_alloc_new w _);obtain⟨z0,z1,z2⟩:=dG b;have g:=JO b;have F:=JO n;have x:JP (Below w.heap.size w k):=((x3 _ _).alloc (xF _) _).trans (f.mono (by simp));obtain⟨l,rfl⟩:=D Y;have E:JP (∀j:World,Below (k.alloc (U #[JQ l (bG s.toList).1.length i] 52)).heap.size (k.alloc (U #[JQ l (bG s.toList).1.length i] 52)) j->bK j (w.heap.size+1) (JQ l (bG s.toList).1.length i) (bG s.toList).1/\Below w.heap.size w j/\j.heap[w.heap.size]?=M (U #[C I 0 0] 52 (0,0))/\j.heap[k.heap.size]?=M (U #[JQ l (bG s.toList).1.length i] 52 (0,0))/\k.heap.size<j.heap.size):=fun j O=>uZ F.o x.o g.o O)|(go_at_call 32;refine(AF (w.heap.size+1) l _ i (bG s.toList).1 _ (by exact(E.o _ (x3 _ _)).1) Z (by omega) z).mono ?_;rintro e w2 ⟨rfl,d⟩;obtain⟨t2,v2,r2,q2,l2⟩:=E.o w2 d;obtain⟨y0,y1,y2⟩:=dG r2;obtain⟨x0,x1,x2⟩:=dG q2;have T2:=JO t2;have R2:=JO r2)|(go_at_call 33;refine(JC (w.heap.size+1) l _ i (bG s.toList).1 _ (by exact T2.o) Z (by omega) z).mono ?_;rintro e w3 ⟨rfl,y⟩;(try rw[L]);obtain⟨t3,v3,r3,q3,l3⟩:=E.o w3 (d.trans (y.mono d.size));obtain⟨y0,y1,y2⟩:=dG r3;obtain⟨x0,x1,x2⟩:=dG q3;have T3:=JO t3;have R3:=JO r3)|(go_at_call 47;refine(Rn (w.heap.size+1) l _ i (bG s.toList).1 _ (by exact T3.o) Z (by omega) z).mono ?_;rintro e w4 ⟨rfl,V⟩;(try rw[h6]);obtain⟨t4,v4,r4,q4,l4⟩:=E.o w4 ((d.trans (y.mono d.size)).trans (V.mono (d.trans (y.mono d.size)).size));obtain⟨y0,y1,y2⟩:=dG r4;obtain⟨x0,x1,x2⟩:=dG q4;have T4:=JO t4;have R4:=JO r4));rw[q.o]
 ·exact lY (p:=2) (u:=3) (v:=4) w.heap.size (C I 0 0) _ _ (by kernel_rfl) Z Z Z (by exact bC R2.o 0 _) Z ⟨_,Z,⟨_,_,_,Z⟩,fun h=>by simp at h,v2.setCell (xF _) _⟩
 ·exact lY (p:=2) (u:=3) (v:=4) w.heap.size (C I 0 0) _ _ (by kernel_rfl) Z Z Z (by exact bC R3.o 0 _) Z ⟨_,Z,⟨_,_,_,Z⟩,fun h=>by simp at h,v3.setCell (xF _) _⟩
 ·exact lY (p:=2) (u:=3) (v:=4) w.heap.size (C I 0 0) _ _ (by kernel_rfl) Z Z Z (by exact bC R4.o 0 _) Z ⟨_,Z,⟨_,_,_,Z⟩,fun h=>by simp at h,v4.setCell (xF _) _⟩
 ·exact lY (p:=2) (u:=3) (v:=4) w.heap.size _ _ _ (by kernel_rfl) Z Z Z (by exact bC R4.o 0 _) Z ⟨_,Z,⟨_,_,_,Z⟩,fun _=>⟨_,_,Z,T4.o.set _⟩,v4.setCell (xF _) _⟩
namespace Q
structure KerOk(ts:List JV):Prop where
 few:ts.length<20
 thr:∀t∈ts,(∀s∈t.S,NZ s)/\t.S.length<900/\OM t.S<100000
 rb:∀r∈KC ts,r.length<100000000
 rn:∀rs∈KC ts,∀r∈rs,r.g.length=4/\∀e∈r.E,e.h<MU
 wd:∀d,MV (MP (KC ts)) d->WdOk (KZ (KC ts) d)
end Q
theorem Rp(s:ByteArray)(w:World)(L:Tab w)(K:(NT s.toList).2.1=0)(v:(NT s.toList).2.2=0)(u:KerOk (NT s.toList).1)(i:(Q.MI (NT s.toList).1).y.length<100000000):
  Calls prog 14 #[.string s] w fun e B=>∃j A,e=H (.tuple #[j,N (Q.MI (NT s.toList).1).clash,T W 0,T W 0])/\LA B 0 j (Q.MI (NT s.toList).1).y A/\Below w.heap.size w B:=by
 have a:=JO (Ro s w L);unfold JP at a;rw[K,v]at a;have f:=JO a;generalize(NT s.toList).1=ts at*;have d:=JO u;have c:=JO i;generalize O:(Q.MI ts).clash=V;have F:=JO O;go_enter func14,ntmps14;go_wp2_with(first
  |(go_at_call 27;refine f.o.mono ?_;rintro e S ⟨X,rfl,_,b,g⟩;obtain⟨n,z,rfl,b⟩:=b Z;have l:=JO (b.keep (w':=S.alloc (U #[C (M ⟨n,0,I⟩) ts.length z] 52)) fun k u=>xg _ _ _ u);have D:=JO (g.alloc g.size (U #[C (M ⟨n,0,I⟩) ts.length z] 52)))
  |(go_at_call 28;refine(Qm _ n z ts _ l.o d.o.few d.o.thr d.o.rb d.o.rn d.o.wd c.o).mono ?_;rw[F.o];rintro e Y ⟨j,A,rfl,x,q⟩;have m:=JO x;have E:=JO (JW D.o (xF _) q)))
 refine bodyPost_ret (RJ Z _ _ _) Z ⟨j,A,Z,m.o,E.o⟩
theorem Rq(s:ByteArray)(w:World)(O:s.size<=8192)(K:(KM s.toList).2.1=0)(v:(KM s.toList).2.2=0)(u:KerOk (KM s.toList).1)(i:(OB (KM s.toList).1).y.length<100000000):
  Calls prog 8 #[.string s] w fun e B=>∃j A,e=H (.tuple #[j,N (OB (KM s.toList).1).clash,T W 0,T W 0])/\LA B 0 j (OB (KM s.toList).1).y A/\Below w.heap.size w B:=by
 have a:=JO (QI s w O);unfold JP at a;rw[K,v]at a;have f:=JO a;generalize(KM s.toList).1=ts at*;have d:=JO u;have c:=JO i;generalize L:(OB ts).clash=V;have F:=JO L;go_enter func8,ntmps8;go_wp2_with(first
  |(go_at_call 18;refine f.o.mono ?_;rintro e S ⟨X,rfl,_,b,g⟩;obtain⟨n,z,rfl,b,_⟩:=b Z;have l:=JO (b.keep (w':=S.alloc (U #[C (M ⟨n,0,I⟩) ts.length z] 52)) fun k u=>xg _ _ _ u);have D:=JO (g.alloc g.size (U #[C (M ⟨n,0,I⟩) ts.length z] 52)))
  |(go_at_call 19;refine(Rj _ n z ts _ l.o d.o.few d.o.thr d.o.rb d.o.rn d.o.wd c.o).mono ?_;rw[F.o];rintro e Y ⟨j,A,rfl,x,q⟩;have m:=JO x;have E:=JO (JW D.o (xF _) q)))
 refine bodyPost_ret (RJ Z _ _ _) Z ⟨j,A,Z,m.o,E.o⟩
namespace Q
def PE(s:JR):Bool:=s.k==2||s.k==3
theorem A4(m:Ex)(d v:Int)(s:Nat):(m.aZ d v s).E=m.E:=by unfold Ex.aZ;split<;>rfl
theorem IP(m:Ex)(d:Int)(r:Nat):(m.aM d r).E=m.E:=A4 _ _ _ _
theorem BU(m:Ex)(d v:Int)(s:Nat):(m.aZ d v s).g.length=m.g.length:=by unfold Ex.aZ;split<;>simp
def gO(m:Ex)(st:JR):List Ev :=
 if st.k==0 then[{m.V 0 st with value:=(m.Y%4:Nat)}]
 else if st.k==1 then[{m.V 1 st with value:=m.value st.a,h:=m.A|||m.Ea st.a}]
 else if st.k==2 then[{m.V 0 st with value:=(m.Y%4:Nat)},{m.V 1 st with value:=(m.value st.a+(m.aN st).aI m.E.length)%4,h:=m.A|||(m.Ea st.a|||one (m.E.length:Nat))}]
 else if st.k==3 then[{m.V 0 st with value:=(m.Y%4:Nat)},{m.V 1 st with value:=m.value st.a,h:=m.A|||m.Ea st.a}]
 else if st.k==4 then[m.V 2 st]
 else if st.k==5 then[m.V 3 st,m.V 4 st]
 else[]
theorem Rt(m:Ex)(a:JR):(m.aW a).E=m.E++gO m a:=by
 unfold Ex.aW gO;by_cases h0:(a.k==0)=J
 ·rw[if_pos h0,if_pos h0,IP];rfl
 rw[if_neg h0,if_neg h0];by_cases h1:(a.k==1)=J
 ·rw[if_pos h1,if_pos h1];rfl
 rw[if_neg h1,if_neg h1];by_cases h2:(a.k==2)=J
 ·rw[if_pos (by rw[h2];rfl),if_pos h2];unfold Ex.step;rw[if_pos h2,IP];show m.E++[_]++[_]=_;rw[xl];rfl
 rw[if_neg h2];by_cases h3:(a.k==3)=J
 ·rw[if_pos (by rw[h3];simp),if_pos h3];unfold Ex.step;rw[if_neg h2,IP];show m.E++[_]++[_]=_;rw[xl];rfl
 rw[if_neg (by simp only[Bool.not_eq_true]at h2 h3;rw[h2,h3];simp),if_neg h3];by_cases h4:(a.k==4)=J
 ·rw[if_pos h4,if_pos h4];rfl
 rw[if_neg h4,if_neg h4];by_cases h5:(a.k==5)=J
 ·rw[if_pos h5,if_pos h5];rfl
 rw[if_neg h5,if_neg h5]
 split
 ·rw[A4];simp
 ·simp
def kD(p:Ex×Nat)(st:JR):List Ev:=if p.2==0 then(if st.k==10 then[]else gO p.1 st)else[]
theorem AQ(p:Ex×Nat)(a:JR):(aG p a).1.E=p.1.E++kD p a:=by
 unfold aG kD
 split
 ·split
  ·simp[Ex.lT]
  ·exact Rt _ _
 ·split
  ·simp
  ·split<;>simp
theorem Ru(m:Ex)(a:JR):((gO m a).length:Int)<=(if nE a then 1 else 0)+((if PE a then 1 else 0)+if a.k==5 then 1 else 0):=by
 unfold gO nE PE;by_cases h0:a.k=0
 ·simp[h0]
 by_cases h1:a.k=1
 ·simp[h1]
 by_cases h2:a.k=2
 ·simp[h2]
 by_cases h3:a.k=3
 ·simp[h3]
 by_cases h4:a.k=4
 ·simp[h4]
 by_cases h5:a.k=5
 ·simp[h5]
 simp[h0,h1,h2,h3,h4,h5]
 split<;>omega
theorem Rv(p:Ex×Nat)(a:JR):((kD p a).length:Int)<=(if nE a then 1 else 0)+((if PE a then 1 else 0)+if a.k==5 then 1 else 0):=by
 have:=Ru p.1 a;have b:(0:Int)<=(if nE a then 1 else 0)+((if PE a then 1 else 0)+if a.k==5 then 1 else 0):=by
  (repeat' split)<;>omega
 unfold kD
 split
 ·split
  ·simpa using b
  ·exact this
 ·simpa using b
theorem Rw(m:Ex)(a:JR):(((gO m a).filter MQ).length:Int)<=if MO a then 1 else 0:=by
 unfold gO MO;by_cases h0:a.k=0
 ·simp[h0,MQ,Ex.V]
 by_cases h1:a.k=1
 ·simp[h1,MQ,Ex.V]
 by_cases h2:a.k=2
 ·simp[h2,MQ,Ex.V]
 by_cases h3:a.k=3
 ·simp[h3,MQ,Ex.V]
 by_cases h4:a.k=4
 ·by_cases h5:a.q=5
  ·simp[h4,h5,MQ,Ex.V]
  ·simp[h4,h5,MQ,Ex.V]
 by_cases h5:a.k=5
 ·simp[h5,MQ,Ex.V]
 simp[h0,h1,h2,h3,h4,h5]
theorem Rx(p:Ex×Nat)(a:JR):(((kD p a).filter MQ).length:Int)<=if MO a then 1 else 0:=by
 have:=Rw p.1 a;have b:(0:Int)<=if MO a then 1 else 0:=by split<;>omega
 unfold kD
 split
 ·split
  ·simpa using b
  ·exact this
 ·simpa using b
theorem A5:∀(a:List JR) (p:Ex×Nat),((a.foldl aG p).1.E.length:Int)<=p.1.E.length+(JU nE a+(JU PE a+LF a))
 |[],p=>by simp[JU,LF]
 |s::a,p=>by
  rw[x5];have b:=A5 a (aG p s);have c:=Rv p s;rw[AQ,x9]at b;simp only[JU,LF];push_cast at b;omega
theorem A6:∀(a:List JR) (p:Ex×Nat),(((a.foldl aG p).1.E.filter MQ).length:Int)<=(p.1.E.filter MQ).length+JU MO a
 |[],p=>by simp[JU]
 |s::a,p=>by
  rw[x5];have b:=A6 a (aG p s);have c:=Rx p s;rw[AQ,xm,x9]at b;simp only[JU];push_cast at b;omega
theorem A7:∀(a:List JR) (p:Ex×Nat) (n:Nat),(∀s∈a,NZ s)->p.1.Ok n->(a.foldl aG p).1.Ok (n+a.length)
 |[],p,n,_,h=>h
 |s::a,p,n,hs,h=>by
  rw[x5,x7,show n+(a.length+1)=n+1+a.length by omega];exact A7 a _ _ (fun x b=>hs x (x8 _ b)) (IE h (hs s (by simp)))
theorem Ry(m:Ex)(a:JR):(m.aW a).g.length=m.g.length:=by
 unfold Ex.aW Ex.aM Ex.step Ex.aM
 split
 ·rw[BU];rfl
 split
 ·rfl
 split
 ·rw[BU];split<;>rfl
 split
 ·rfl
 split
 ·rfl
 split
 ·rw[BU]
 ·rfl
theorem Rz(p:Ex×Nat)(a:JR):(aG p a).1.g.length=p.1.g.length:=by
 unfold aG
 split
 ·split
  ·rfl
  ·exact Ry _ _
 ·split
  ·rfl
  ·split<;>rfl
theorem A8:∀(a:List JR) (p:Ex×Nat),(a.foldl aG p).1.g.length=p.1.g.length
 |[],p=>Z
 |s::a,p=>by rw[x5,A8 a,Rz]
structure RunOk(r:Run)(t:JV):Prop where
 g:r.g.length=4
 vals:∀x∈r.g,0<=x/\x<4
 K:∀e∈r.E,0<=e.value/\e.value<4/\e.h<MU
 len:(r.E.length:Int)<=JU nE t.S+(JU PE t.S+LF t.S)
 sc:((r.E.filter MQ).length:Int)<=JU MO t.S
theorem A9:∀(a:List JR) (c:Nat),((a.foldl (fun c b=>if eE b.k then c*4 else c) c:Nat):Int)=c*4^(JU LM a).toNat
 |[],c=>by simp[JU]
 |s::a,c=>by
  rw[x5,A9 a];have d:=(oO LM a).1;simp only[JU];have e:LM s=eE s.k:=Z;rw[e]
  cases hr:eE s.k
  ·simp
  ·simp only[if_true];rw[show(1+JU LM a).toNat=(JU LM a).toNat+1 by omega,Int.pow_succ];push_cast;rw[Int.mul_comm (4^_) 4,Int.mul_assoc]
theorem yT(a:List JR):OM a=4^(JU LM a).toNat:=by
 have:=A9 a 1;unfold OM;have b:((4^(JU LM a).toNat:Nat):Int)=4^(JU LM a).toNat:=by push_cast;rfl
 rw[<- Int.natCast_inj,this,b];simp
theorem zT{i:Nat}(j:∀s∈t.S,NZ s)(k:OM t.S<1000000000)(h:r∈fT t i):RunOk r t:=by
 unfold fT fQ at h;obtain⟨c,a,rfl⟩:=List.mem_map.1 h;have f:c<OM t.S:=by simpa using(List.mem_filter.1 a).1
 have b:=A7 t.S (Ex.start i t.block c,0) 0 j (CR _ _ _ (by omega));have d:=A5 t.S (Ex.start i t.block c,0);have e:=A6 t.S (Ex.start i t.block c,0);simp only[Ex.start,List.filter_nil,List.length_nil]at d e;exact⟨A8 t.S (Ex.start i t.block c,0),b.g,b.K,by simp only[gQ,nJ,Ex.run];simp only[Ex.start];push_cast at d;omega,by simp only[gQ,nJ,Ex.run];simp only[Ex.start];push_cast at e;omega⟩
structure WI(w:Wd)(E S R:Int):Prop where
 pos:0<w.E.length
 len:(w.E.length:Int)<=E
 sc:((w.E.filter MQ).length:Int)<=S
 g:(w.g.length:Int)=R
 vals:∀x∈w.g,0<=x/\x<4
 K:∀e∈w.E,0<=e.value/\e.value<4/\e.h<MU
theorem Ba(n:Nat)(l:List Ev):((l.map (OO n)).filter MQ).length=(l.filter MQ).length:=by
 rw[xo,xh];rfl
theorem WI.join{E S:Int}(h:WI w E S R)(b:RunOk r t)(k:JU nE t.S<=8)(l:LF t.S<=2):WI (w.join r) (E+(10+JU PE t.S)) (S+JU MO t.S) (R+4):=by
 have i:=h.len;have j:=h.sc;have m:=b.len;have n:=b.sc;refine⟨by have:=h.pos;simp[Wd.join];omega,by simp[Wd.join];omega,?_,by simp[Wd.join,b.g,h.g],fun x c=>?_,fun e a=>?_⟩
 ·simp only[Wd.join];rw[xm,x9,Ba];push_cast;omega
 ·simp only[Wd.join]at c
  rcases List.mem_append.1 c with c|c
  ·exact h.vals x c
  ·exact b.vals x c
 ·simp only[Wd.join]at a
  rcases List.mem_append.1 a with a|a
  ·exact h.K e a
  ·obtain⟨d,f,rfl⟩:=List.mem_map.1 a;exact⟨(b.K d f).1,(b.K d f).2.1,TJ _ _⟩
structure ThrOk(t:JV):Prop where
 ok:∀s∈t.S,NZ s
 le:JU nE t.S<=8
 br:LF t.S<=2
 cd:OM t.S<1000000000
theorem Bb:∀(ts:List JV) (i:Nat) (w:Wd) (a:List Int) (E S R:Int),(∀t∈ts,ThrOk t)->MV (MP (dP i ts)) a->WI w E S R->WI (gM w (dP i ts) a) (E+(10*ts.length+KQ PE ts)) (S+KQ MO ts) (R+4*ts.length)
 |[],i,w,a,E,S,R,ht,hd,h=>by
  cases a with
  |nil=>simpa[dP,gM,KQ]using h
  |cons d a=>simp[dP,MP,MV]at hd
 |t::ts,i,w,a,E,S,R,ht,hd,h=>by
  cases a with
  |nil=>simp[dP,MP,MV]at hd
  |cons d a =>
   simp only[dP,MP,xi,MV]at hd;have b:d.toNat<(fT t i).length:=by omega
   simp only[dP,gM];rw[dif_pos b];have c:=ht t (by simp);simp only[KQ,x7];rw[show E+(10*((ts.length+1:Nat):Int)+(JU PE t.S+KQ PE ts))=E+(10+JU PE t.S)+(10*ts.length+KQ PE ts)by push_cast;omega,show S+(JU MO t.S+KQ MO ts)=S+JU MO t.S+KQ MO ts by omega,show R+4*((ts.length+1:Nat):Int)=R+4+4*ts.length by push_cast;omega];exact Bb ts (i+1) _ a _ _ _ (fun u e=>ht u (x8 _ e)) hd.2.2 (h.join (zT c.ok c.cd (xj b)) c.le c.br)
theorem Bc:WI ⟨MX,[]⟩ 3 0 0:=by
 refine⟨by decide,by decide,by decide,by decide,fun x b=>by simp at b,fun e a=>?_⟩;simp only[MX,xb,xp,or_false]at a
 rcases a with rfl|rfl|rfl<;>exact⟨by decide,by decide,by decide⟩
theorem Be{p q:JR->Bool}(h:∀s,p s=J->q s=J):∀l,KQ p l<=KQ q l
 |[]=>by simp[KQ]
 |t::l=>by
  have a:=tL h t.S;have b:=Be h l;simp only[KQ];omega
theorem xM{p:JR->Bool}:∀{l:List JV} {t:JV},t∈l->JU p t.S<=KQ p l
 |u::l,t,h=>by
  have a:0<=KQ p l:=by
   clear h
   induction l with
   |nil=>simp[KQ]
   |cons v l ih=>simp only[KQ];have:=(oO p v.S).1;omega
  simp only[KQ]
  rcases List.mem_cons.1 h with rfl|h
  ·omega
  ·have:=xM (p:=p) h;have:=(oO p u.S).1;omega
theorem Bf(h:KerIs ts):∀t∈ts,ThrOk t:=fun t a=>by
 refine⟨h.ok t a,h.le t a,h.br t a,?_⟩;rw[yT];have b:=xM (p:=LM) a;have c:=h.rd;exact xd (xe (by omega) (by omega:(JU LM t.S).toNat<=4)) (by decide)
theorem Bg(h:KerIs ts){d:List Int}(c:MV (MP (KC ts)) d):WI (KZ (KC ts) d) 46 3 (4*ts.length):=by
 have a:=Bb ts 0 _ d _ _ _ (Bf h) c Bc;have e:KQ PE ts<=KQ MN ts:=Be fun s b=>by
  simp only[PE,MN,oS]at *
  rcases Bool.or_eq_true _ _▸b with b|b<;>rw[b]<;>simp ts
 have f:=h.wr;have i:=h.few;have j:=h.sc;exact⟨a.pos,Int.le_trans a.len (by omega),Int.le_trans a.sc (by omega),by have:=a.g;rw[Int.zero_add]at this;exact this,a.vals,a.K⟩
theorem Bh:∀(b:Int) (a:List Int),(LX (b::a)).length=(LX a).length*b.toNat:=by
 intro b a;simp only[LX]
 induction LX a with
 |nil=>simp
 |cons r l ih=>rw[xq,x9,ih,x7,Nat.add_mul];simp;omega
theorem Bi(g:Nat->Int)(p:Nat->Bool)(c:Nat)(d:0<c):∀(L:List Nat),(∀i∈L,g i<=c/\(p i=G->g i=1))->(LX (L.map g)).length<=c^(L.filter p).length
 |[],_=>by simp[LX]
 |i::L,h=>by
  rw[xi,Bh];have a:=Bi g p c d L fun j e=>h j (x8 _ e);have b:=h i (by simp);rw[List.filter_cons]
  cases hp:p i
  ·simp only[Bool.false_eq_true,if_false];rw[b.2 hp];simpa using a
  ·simp only[if_true,x7];rw[Nat.pow_succ];exact Nat.mul_le_mul a (by omega)
theorem Bj(p:Ev->Bool)(es:List Ev)(i:Nat)(h:i<=es.length):((x4 i).filter fun k=>p (ev es k)).length<=(es.filter p).length:=by
 have b:(x4 es.length).map (ev es)=es:=by
  refine List.ext_getElem (by simp) fun k d a=>?_
  simp only[List.getElem_map,List.getElem_range,ev];simp[List.getD,xr a]
 have c:(es.filter p).length=((x4 es.length).filter fun k=>p (ev es k)).length:=by
  conv=>lhs;rw[<- b]
  rw[xo,xh];rfl
 rw[c];exact List.Sublist.length_le (List.Sublist.filter _ (List.range_sublist.2 h))
theorem Bk{es:List Ev}(h:(es.filter MQ).length<=3):(LX (KY es (LC es))).length<=64:=by
 unfold KY;have g:(LC es).length=es.length:=by simp[LC]
 have e:∀k,k<es.length->(LC es).getD k (-1)=if MQ (ev es k)then 0 else -1:=fun k b=>by
  simp[LC,ev,List.getD,xr b]
 have f:=Bi (jT es (LC es)) (fun i=>MQ (ev es i)) 4 (by omega) (x4 (LC es).length) fun i c=>by
  have c:i<es.length:=by simpa[g]using c
  have a:(x4 i).filter (iY es (LC es) i)=(x4 i).filter fun k=>MQ (ev es i)&&(MQ (ev es k)&&(ev es k).j != -1):=by
   refine xt fun k b=>?_
   have b:k<i:=by simpa using b
   unfold iY;rw[e i c,e k (by omega)]
   cases MQ (ev es i)<;>cases MQ (ev es k)<;>simp
  have l:((x4 i).filter (iY es (LC es) i)).length<=(es.filter MQ).length:=by
   rw[a];refine x6 ?_ (Bj MQ es i (by omega));refine List.Sublist.length_le ?_;rw[show(x4 i).filter (fun k=>MQ (ev es i)&&(MQ (ev es k)&&(ev es k).j != -1))=((x4 i).filter fun k=>MQ (ev es k)).filter fun k=>MQ (ev es i)&&(ev es k).j != -1 by rw[List.filter_filter];exact xt fun k _=>by cases MQ (ev es i)<;>cases MQ (ev es k)<;>simp];exact List.filter_sublist
  refine⟨by unfold jT;omega,fun d=>?_⟩;have d:MQ (ev es i)=G:=d;unfold jT;rw[a,d,show(x4 i).filter (fun k=>G&&(MQ (ev es k)&&(ev es k).j != -1))=[]from List.filter_eq_nil_iff.2 fun _ _=>by simp];rfl
 refine x6 f ?_;exact x6 (xe (by omega) (x6 (Bj MQ es _ (by omega)) h)) (by decide)
theorem Bl(h:WI w 46 3 R)(b:R<100):WdOk w :=
 ⟨h.pos,by have:=h.len;omega,fun e a=>(h.K e a).2.2,by have:=h.g;omega,h.vals,fun e a=>⟨(h.K e a).1,(h.K e a).2.1⟩,xd (Bk (by have:=h.sc;omega)) (by decide)⟩
theorem vV:∀{ts:List JV} {i:Nat} {a:List Run},a∈dP i ts->∃t∈ts,∃k,a=fT t k
 |t::ts,i,a,h=>by
  simp only[dP]at h
  rcases List.mem_cons.1 h with rfl|h
  ·exact⟨t,by simp,i,Z⟩
  ·obtain⟨u,b,k,e⟩:=vV h;exact⟨u,x8 _ b,k,e⟩
theorem BP(t:JV)(i:Nat):(fT t i).length<=OM t.S:=by
 unfold fT fQ;rw[xh];exact x6 (List.length_filter_le _ _) (by simp)
theorem RK(h:KerIs ts):KerOk ts:=by
 have c:=Bf h;have q:=h.few;have f:∀t∈ts,OM t.S<=256:=fun t a=>by
  rw[yT];have n:=xM (p:=LM) a;have o:=h.rd;exact x6 (xe (by omega) (by omega:(JU LM t.S).toNat<=4)) (by decide)
 refine⟨by omega,fun t a=>⟨(c t a).ok,?_,xd (f t a) (by decide)⟩,fun m b=>?_,fun m b r l=>?_,fun d i=>Bl (Bg h i) (by omega)⟩
 ·exact xd (h.len t a) (by decide)
 ·obtain⟨t,a,k,rfl⟩:=vV b;exact xd (x6 (BP t k) (f t a)) (by decide)
 ·obtain⟨t,a,k,rfl⟩:=vV b;have:=zT (c t a).ok (c t a).cd l;exact⟨this.g,fun e j=>(this.K e j).2.2⟩
theorem BQ{r y:List Int}:∀{l:List (List Int)},y∈dZ l r↔y=r\/y∈l
 |[]=>by simp[dZ]
 |x::l=>by
  rw[dZ]
  split
  ·rw[xb,BQ (l:=l),xb];constructor
   ·rintro(h|h|h)
    ·exact xR (xW h)
    ·exact xW h
    ·exact xR (xR h)
   ·rintro(h|h|h)
    ·exact xR (xW h)
    ·exact xW h
    ·exact xR (xR h)
  ·split
   ·rename_i a;have b:x=r:=YP (by simpa using a);rw[b];constructor
    ·exact fun h=>xR h
    ·rintro(h|h)
     ·rw[h];simp
     ·exact h
   ·rw[xb]
theorem uC{α:Type}(F:MA->α->MA)(c:α->List Int->Prop)(d:∀a x r,r∈(F a x).y↔r∈a.y\/c x r)(r:List Int):∀(l:List α) (a:MA),r∈(l.foldl F a).y↔r∈a.y\/∃x∈l,c x r
 |[],a=>by simp
 |x::l,a=>by
  rw[x5,uC F c d r l,d];constructor
  ·rintro((h|h)|⟨y,b,h⟩)
   ·exact xW h
   ·exact xR ⟨x,by simp,h⟩
   ·exact xR ⟨y,x8 _ b,h⟩
  ·rintro(h|⟨y,b,h⟩)
   ·exact xW (xW h)
   ·rcases List.mem_cons.1 b with rfl|b
    ·exact xW (xR h)
    ·exact xR ⟨y,b,h⟩
def pY(w:Wd):List (List Int):=LX (KY w.E (aE w.E))
def OI(w:Wd)(ds:List Int):List Int:=LK (aE w.E) ds
def tR(c:Cand)(ds:List Int):Bool:=c.F.cT c.D (c.F.KU c.D) (OI c.wd ds)
theorem RL(ts:List JV)(r:List Int):r∈(OB ts).y↔∃c∈PW ts,∃d∈pY c.wd,tR c d=J/\r=OH c.wd (OI c.wd d):=by
 unfold OB;rw[uC lS (fun c r=>∃d∈pY c.wd,tR c d=J/\r=OH c.wd (OI c.wd d)) ?_ r]
 ·simp
 ·intro a c r;unfold lS sM;rw[uC (jJ c.wd c.F c.D (c.F.KU c.D)) (fun d r=>tR c d=J/\r=OH c.wd (OI c.wd d)) ?_ r]
  ·rfl
  ·intro a d r;unfold jJ tR OI
   split
   ·rename_i h;rw[BQ];constructor
    ·rintro(b|b)
     ·exact xR ⟨h,b⟩
     ·exact xW b
    ·rintro(b|b)
     ·exact xR b
     ·exact xW b.2
   ·rename_i h;constructor
    ·exact xW
    ·rintro(b|b)
     ·exact b
     ·exact absurd b.1 h
theorem sS{α:Type}(F:MA->α->MA)(b:∀a x,OX a.y->OX (F a x).y):∀(l:List α) (a:MA),OX a.y->OX (l.foldl F a).y
 |[],a,h=>h
 |x::l,a,h=>by rw[x5];exact sS F b l _ (b a x h)
theorem R5(ts:List JV):OX (OB ts).y:=by
 refine sS _ (fun a c h=>?_) _ _ List.Pairwise.nil;refine sS _ (fun a b h=>?_) _ _ h;unfold jJ
 split
 ·exact BH h
 ·exact h
theorem QZ{c:Cand}:c∈PW ts↔∃d∈LX (MP (KC ts)),∃b∈LX (NV (KL (KZ (KC ts) d).E)),c=⟨KZ (KC ts) d,KK (KZ (KC ts) d).E,(KK (KZ (KC ts) d).E).D (gK (KL (KZ (KC ts) d).E) b)⟩/\c.F.bR c.D=G:=by
 unfold PW vZ;simp only[xu,List.mem_filter,List.mem_map,Bool.not_eq_true'];constructor
 ·rintro⟨d,e,⟨⟨b,a,rfl⟩,h⟩⟩;exact⟨d,e,b,a,Z,h⟩
 ·rintro⟨d,e,b,a,rfl,h⟩;exact⟨d,e,⟨⟨b,a,Z⟩,h⟩⟩
theorem BZ{α:Type}[DecidableEq α]:∀(l m:List α),l.Nodup->(∀x∈l,x∈m)->l.length<=m.length
 |[],m,_,_=>by simp
 |x::l,m,h,hs=>by
  have a:=hs x (by simp);have c:=BZ l (m.erase x) (List.nodup_cons.1 h).2 fun y b=>(List.mem_erase_of_ne fun e:y=x=>(List.nodup_cons.1 h).1 (by rw[<- e];exact b)).2 (hs y (x8 _ b));have d:=List.length_erase_of_mem a;have f:=List.length_pos_of_mem a;simp only[x7];omega
theorem Bm{l:List (List Int)}(h:OX l):l.Nodup:=by
 refine List.Pairwise.imp ?_ h;intro a b c e;rw[e,YQ]at c;omega
theorem IX:∀(ts:List JV) (i:Nat),(LX (MP (dP i ts))).length<=4^(KQ LM ts).toNat
 |[],i=>by simp[dP,MP,LX,KQ]
 |t::ts,i=>by
  simp only[dP,MP,xi];rw[Bh];have a:=IX ts (i+1);have b:=BP t i;rw[yT]at b;have d:=(oO LM t.S).1;have c:0<=KQ LM ts:=by
   clear a
   induction ts with
   |nil=>simp[KQ]
   |cons v l ih=>simp only[KQ];have:=(oO LM v.S).1;omega
  simp only[KQ];rw[show(JU LM t.S+KQ LM ts).toNat=(KQ LM ts).toNat+(JU LM t.S).toNat by omega,Nat.pow_add];exact Nat.mul_le_mul a (by simpa using b)
def tA:List Int:=[0,1,2,3]
theorem sR{x:Int}(h:0<=x/\x<4):x∈tA:=by
 simp only[tA,xb,xp,or_false];omega
def uF(ts:List JV):List (List Int):=(LX (MP (KC ts))).flatMap fun d=>tA.flatMap fun a=>tA.flatMap fun b=>tA.map fun c=>(KZ (KC ts) d).g++[a,b,c]
theorem zD{α β:Type}(f:α->List β)(n:Nat)(h:∀a,(f a).length=n):∀l:List α,(l.flatMap f).length=l.length*n
 |[]=>by simp
 |a::l=>by rw[xq,x9,zD f n h l,h,x7,Nat.succ_mul];omega
theorem Bn(ts:List JV):(uF ts).length=(LX (MP (KC ts))).length*64:=by
 unfold uF;refine zD _ _ (fun d=>?_) _;rw[zD _ 16 fun a=>?_]
 ·rfl
 ·rw[zD _ 4 fun b=>?_]
  ·rfl
  ·simp[tA]
theorem PY:∀{c a:List Int},a∈LX c->MV c a
 |[],a,h=>by simp[LX]at h;rw[h];trivial
 |b::c,a,h=>by
  simp only[LX,xu,List.mem_map,List.mem_range]at h;obtain⟨r,e,d,f,rfl⟩:=h;exact⟨by omega,by omega,PY e⟩
theorem RN(h:KerIs ts):(OB ts).y.length<100000000:=by
 have f:(OB ts).y.length<=(uF ts).length:=by
  refine BZ _ _ (Bm (R5 ts)) fun r l=>?_;obtain⟨c,j,e,k,_,rfl⟩:=(RL ts r).1 l;obtain⟨d,b,q,m,rfl,_⟩:=QZ.1 j;have n:=Bl (Bg h (PY b)) (by have:=h.few;omega);unfold uF;refine List.mem_flatMap.2 ⟨d,b,?_⟩;have a:=fun v=>EQ (KZ (KC ts) d).E v (OI (KZ (KC ts) d) e) n.evals
  exact List.mem_flatMap.2 ⟨_,sR (a 0),List.mem_flatMap.2 ⟨_,sR (a 1),List.mem_map.2 ⟨_,sR (a 2),Z⟩⟩⟩
 have g:=IX ts 0;have i:4^(KQ LM ts).toNat<=4^4:=xe (by omega) (by have:=h.rd;omega);have o:(LX (MP (KC ts))).length<=256:=x6 g i;rw[Bn]at f;omega
end Q
theorem Bo(s:ByteArray)(w:World)(c:s.size<=8192)(a:(KM s.toList).2.1=0):
  Calls prog 8 #[.string s] w fun e b=>∃ov vs,e=H (.tuple #[ov,N (OB (KM s.toList).1).clash,T W 0,T W 0])/\LA b 0 ov (OB (KM s.toList).1).y vs/\Below w.heap.size w b :=
 Rq s w c a (EU a).2.1 (RK (QK a)) (RN (QK a))
end Go.Proofs.YtlikcongbhhpfaaGreatDoor
