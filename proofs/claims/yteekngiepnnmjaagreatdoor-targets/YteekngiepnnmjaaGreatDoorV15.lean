import Derived.Test.YteekngiepnnmjaaGreatDoorV12
import Derived.Test.YteekngiepnnmjaaGreatDoorV14
set_option linter.all false
set_option maxHeartbeats 0
namespace Go.Proofs.YteekngiepnnmjaaGreatDoor
open Go Go.RowKit Go.Proofs.Tryz P Q R
open scoped Classical
set_option maxRecDepth 1000000
open _root_ renaming UInt8->T,UInt8->σ,List->W,List->ν,if_neg->H,if_neg->ι,if_false->ω,if_pos->I,if_pos->ξ,if_true->ψ,Int->S,Int->φ,Option->ρ,decide_eq_true_iff->η
open Go.RowKit renaming Below->τ,intOf->ζ
open Go renaming heap_alloc_new->π
variable {A B C e h0 l p v w:ν σ}{r:Rd}{i k n o s:φ}{st:VW}{hs m ws:ν (ν σ)}
open List renaming length->D
open _root_.Array renaming size->F
open Go.World renaming heap->K
open Bool renaming true->Y,false->G
open Option renaming some->U,none->M
open Go.Value renaming slice->L
open Bool renaming false_eq_true->xF,and_eq_true->x4
open Or renaming inr->xR
open Nat renaming le_refl->xW
open Prod renaming ext->x5
open UInt8 renaming ofNat->x6
open List renaming mem_singleton->x7,eq_nil_of_length_eq_zero->x9,mem_of_getLast?->xa,dropLast_sublist->xb
open Int renaming le_refl->x8
namespace P
def iK:W VW->S
 |[]=>0
 |s::r=>(if s.kind==4 then 1 else if s.kind==5 then 2 else 0)+iK r
def evT:W VZ->S
 |[]=>0
 |t::r=>iK t.S+evT r
end P
theorem Ys(B bt n H:Nat)(f:ν VZ)(w:World)(h:gF w B (VV bt n H) f)(hn:n=D f)(ai:n<10)(d:∀t∈f,D t.S<10000):
  Calls prog 31 #[.agg #[VV bt n H]] w λe w'=>e=.returned (.bool (decide (50<evT f)))/\τ (F (K w)) w w':=by
 have HA:=aD h;have HN:=aD hn;have HS:=aD d;clear h hn d;go_in;go_wp2;go_loopw[3,11] (λc i wr=>∃k:Nat,∃m:S,k<=n/\i=.int .i64 k/\c=.int .i64 m/\0<=m/\m<=20000*k/\aC (evT f=m+evT (f.drop k))/\τ (F (K w)) w wr) λ_ i _=>n-(ζ i).toNat
 case atStart=>exact⟨0,0,Nat.zero_le _,Z,Z,by omega,by omega,by unfold aC;simp,bB⟩
 case round =>
  obtain⟨k,m,hk,rfl,rfl,ag,ah,HB,a⟩:=hrel;by_cases hlt:k<n
  ·have E:k<D f:=by rw[<- HN.o];exact hlt
   obtain⟨z,sa,sc,c0,c1,c2,W⟩:=FK HA.o HN k E;have d0:=cK a z c0;have d1:=cK a z c1;have d2:=cK a z c2;have af:=HS.o f[k] (List.getElem_mem E);have HD:=aD (CZ f k E);have HO:=aD W;generalize d:f[k]=t at*;have X:0<D t.S->∃b,sa=U ⟨b,0,M⟩/\b<F (K w):=λh0=>by
    rcases W.2 with⟨e,ac⟩|⟨b',c',ab,e,ad,ae,_⟩
    ·omega
    grind
   clear d c0 c1 c2 W;have aa:F (K w)<=F (K wr):=a.size;have u:τ (F (K w)) w (wr.alloc (.cells #[.int .i64 t.block,.int .i64 t.i,L sa (D t.S) sc] 132)):=a.alloc aa _;have N:=aD u;clear u a;go_wp2;go_loopw[3,18] (λc j w2=>∃q:Nat,∃p:S,q<=D t.S/\j=.int .i64 q/\c=.int .i64 p/\m<=p/\p<=m+2*q/\aC (m+iK t.S=p+iK (t.S.drop q))/\τ (F (K w)) w w2) λ_ j _=>D t.S-(ζ j).toNat
   case atStart=>exact⟨0,m,Nat.zero_le _,Z,Z,by omega,by omega,by unfold aC;simp,N⟩
   case round =>
    obtain⟨q,p,hq,rfl,rfl,aj,ak,O,a⟩:=hrel;by_cases hql:q<D t.S
    ·obtain⟨b,rfl,I⟩:=X (by omega);have J:=aD (lC (GT HO Z q hql) (a.block b I));have T:=aD (CZ t.S q hql);generalize d:t.S[q]=st at J T;clear d;have x:=a.size
     cases h4:st.kind==4
     rotate_left
     ·have g:aC (m+iK t.S=p+1+iK (t.S.drop (q+1))):=by
       unfold aC;rw[O.o,T.o,iK];simp[h4];omega
      go_wp2_with(first|(refine rC (.tmp 20) Z Z b (q*11) st Z J ?_));go_roundw;exact⟨q+1,p+1,by omega,by go_num,by go_num,by omega,by simp;omega,g,a.alloc x _⟩;simp[ζ];omega
     have V:¬st.kind=4:=by simpa using h4
     cases h5:st.kind==5
     ·have g:aC (m+iK t.S=p+iK (t.S.drop (q+1))):=by
       simp_all [aC,iK]
      go_wp2_with(first|(refine rC (.tmp 20) Z Z b (q*11) st Z J ?_));go_roundw;exact⟨q+1,p,by omega,by go_num,by go_num,by omega,by simp;omega,g,a.alloc x _⟩;simp[ζ];omega
     ·have g:aC (m+iK t.S=p+2+iK (t.S.drop (q+1))):=by
       unfold aC;rw[O.o,T.o,iK];simp[V,h5];omega
      go_wp2_with(first|(refine rC (.tmp 20) Z Z b (q*11) st Z J ?_));go_roundw;exact⟨q+1,p+2,by omega,by go_num,by go_num,by omega,by simp;omega,g,a.alloc x _⟩;simp[ζ];omega
    ·have y:aC (evT f=p+evT (f.drop (k+1))):=by
      have e:m+iK t.S=p:=by rw[O.o,List.drop_eq_nil_of_le (by omega)];simp[iK]
      unfold aC;rw[HB.o,HD.o,evT];omega
     go_wp2;go_roundw;exact⟨k+1,p,by omega,by go_num,Z,by omega,by simp;omega,y,a⟩;simp[ζ];omega
  ·have y:aC (evT f=m):=by
    grind [aC,evT]
   go_wp2;go_ret;rw[y.o];exact⟨Z,a⟩
namespace P
theorem Hy(a:W (W T)):∀(k:Nat) (r:Rd),YQ k r->r.i=k->YQ (k+D a) (YS r a).1/\r.i<=(YS r a).1.i/\((YS r a).2=G->r.i<(YS r a).1.i):=by
 induction a with
 |nil=>intro k r h _;exact⟨h,by simp[YS],by simp[YS]⟩
 |cons x r ih =>
  intro k q h u;have b:=Dl x h u;have c:(gM {q with i:=q.i+1} x).1.i=q.i+1:=(JG {q with i:=q.i+1} x).1;simp only[YS]
  cases d:(gM {q with i:=q.i+1} x).2
  ·refine⟨?_,?_,?_⟩
   ·have g:=b.good;refine⟨⟨g.few,λt d=>?_,g.O,g.ifs0,?_,g.VY,g.lin0,?_⟩,b.O,?_⟩
    ·have:=g.stm t d;simp;omega
    ·have:=g.ifs1;simp at*;omega
    ·grind
    ·have:=b.cn;simp at*;omega
   ·simp[c];omega
   ·simp[c];omega
  ·obtain⟨f,j,y⟩:=ih (k+1) _ b (by omega);simp only[ψ];refine⟨?_,?_,?_⟩
   ·rw[show k+(x::r).length=k+1+D r by simp;omega];exact f
   ·rw[c]at j;omega
   omega
theorem Hz(l:W T)(h:(cW l).2=0):(cW l).1≠[]/\(cW l).1.length<=4/\∀t∈(cW l).1,D t.S<=D l:=by
 have j:=CG 10 l;obtain⟨b,f,c⟩:=Hy (bF 10 l).dropLast 0 Rd.WB UQ Z;have g:(bF 10 l).dropLast.length<=D l:=by grind
 unfold cW at h⊢;simp only[]at h⊢
 cases hq:(YS Rd.WB (bF 10 l).dropLast).2
 ·have:=c hq;have z:Rd.WB.i=0:=Z;simp[hq]at h;omega
 ·simp only[hq,ψ]at h⊢
  split at h
  ·have z:Rd.WB.i=0:=Z;simp at h;omega
  ·rename_i a;rw[H a];refine⟨λe=>a (xR (xR e)),b.good.few,λt d=>?_⟩;have:=b.good.stm t d;omega
def eQ(l:W T):W VZ×S×S :=
 if 2000<D l then([],1,0)
 else if(cW l).2 != 0 then([],2,(cW l).2)
 else if lV (cW l).1 (cW l).1 != 0 then([],3,lV (cW l).1 (cW l).1)
 else if lK (cW l).1||decide (50<evT (cW l).1)then([],4,0)
 else((cW l).1,0,0)
end P
theorem H9(s:ByteArray)(w:World)(hT:Tab w):
  Calls prog 11 #[.string s] w λe y=>∃N,e=.returned (.tuple #[.agg #[N],.int .i64 (eQ s.toList).2.1,.int .i64 (eQ s.toList).2.2])/\(∃a m c,N=L a m c)/\
   ((eQ s.toList).2.1=0->∃z x,N=VV z (eQ s.toList).1.length x/\gF y (F (K w)) N (eQ s.toList).1)/\τ (F (K w)) w y:=by
 by_cases h1:2000<s.size
 ·have E:aC (eQ s.toList=([],1,0)):=by unfold aC eQ;rw[cV,ξ h1]
  have h':(2000:S)<s.size:=by omega
  go_in;go_wp2;rw[E.o];exact CI (p:=2) (u:=3) (v:=4) (F (K w)) (L M 0 0) _ _ (by kernel_rfl) Z Z Z (by exact π w _) Z ⟨_,Z,⟨_,_,_,Z⟩,λh=>by simp at h,bB⟩
 have h':¬(2000:S)<s.size:=by omega
 have hs:s.size<=8192:=by omega
 cases h2:(cW s.toList).2 != 0
 rotate_left
 ·have E:aC (eQ s.toList=([],2,(cW s.toList).2)):=by unfold aC eQ;rw[cV,ι h1,h2];rfl
  go_in;go_wp2_with(first|(go_at_call 28;refine(Gs s _ hs (hT.X bB)).mono ?_;rintro e q ⟨N,rfl,g,d⟩;obtain⟨ta,x,rfl,W⟩:=g.form;have V:F (K w)+1<=F (K q):=(by have:=d.size;simp at this;omega);have b:q.heap[F (K w)]?=U (.cells #[L M 0 0] 40 (0,0)):=(by rw[d.block _ (by simp)];exact π w _);obtain⟨z0,z1,z2⟩:=qR b;have j:=aD b;have O:=aD g;have H:aC (τ (F (K w)) w q):=(bB).trans (d.mono (by simp));clear b g d));rw[E.o];refine CI (p:=2) (u:=3) (v:=4) (F (K w)) (L M 0 0) _ _ (by kernel_rfl) Z Z Z ?_ Z ⟨_,Z,⟨_,_,_,Z⟩,λh=>by simp at h,?_⟩
  ·rw[Below.heap_alloc _ _ _ (by simp;omega)];exact cI j 0 _
  ·exact(H.setCell (xW _) _).alloc (by simp;omega) _
 obtain⟨ac,ad,T⟩:=Hz s.toList (by simpa using h2);have J:∀t∈(cW s.toList).1,D t.S<10000:=λt ht=>by grind [cV]
 clear T;have hc:(lV (cW s.toList).1 (cW s.toList).1 != 0)=Y/\aC (eQ s.toList=([],3,lV (cW s.toList).1 (cW s.toList).1))\/(lV (cW s.toList).1 (cW s.toList).1 != 0)=G/\lK (cW s.toList).1=Y/\aC (eQ s.toList=([],4,0))\/(lV (cW s.toList).1 (cW s.toList).1 != 0)=G/\lK (cW s.toList).1=G/\decide (50<evT (cW s.toList).1)=Y/\aC (eQ s.toList=([],4,0))\/(lV (cW s.toList).1 (cW s.toList).1 != 0)=G/\lK (cW s.toList).1=G/\decide (50<evT (cW s.toList).1)=G/\aC (eQ s.toList=((cW s.toList).1,0,0)):=by
  unfold aC eQ;rw[cV,ι h1,h2]
  grind
 rcases hc with⟨h4,E⟩|⟨h4,h5,E⟩|⟨h4,h5,h6,E⟩|⟨h4,h5,h6,E⟩
 all_goals
  go_in;go_wp2_with(first|(go_at_call 28;refine(Gs s _ hs (hT.X bB)).mono ?_;rintro e q ⟨N,rfl,g,d⟩;obtain⟨ta,x,rfl,W⟩:=g.form;have V:F (K w)+1<=F (K q):=(by have:=d.size;simp at this;omega);have b:q.heap[F (K w)]?=U (.cells #[L M 0 0] 40 (0,0)):=(by rw[d.block _ (by simp)];exact π w _);obtain⟨z0,z1,z2⟩:=qR b;have j:=aD b;have O:=aD g;have H:aC (τ (F (K w)) w q):=(bB).trans (d.mono (by simp));obtain⟨z,rfl⟩:=W ac;have TK:aC (∀y:World,τ (q.alloc (.cells #[VV z (cW s.toList).1.length x] 40)).heap.size (q.alloc (.cells #[VV z (cW s.toList).1.length x] 40)) y->gF y (F (K w)+1) (VV z (cW s.toList).1.length x) (cW s.toList).1/\τ (F (K w)) w y/\y.heap[F (K w)]?=U (.cells #[L M 0 0] 40 (0,0))/\y.heap[F (K q)]?=U (.cells #[VV z (cW s.toList).1.length x] 40 (0,0))/\F (K q)<F (K y)):=λy aa=>Qe O H j aa;clear b g d)|(go_at_call 29;refine(Qa (F (K w)+1) z _ x (cW s.toList).1 _ (by exact(TK _ (Below.refl _ _)).1) Z (by omega) J).mono ?_;rintro e w2 ⟨rfl,f⟩;obtain⟨(T2:aC _),v2,(R2:aC _),q2,l2⟩:=TK.o w2 f;obtain⟨y0,y1,y2⟩:=qR R2;obtain⟨x0,x1,x2⟩:=qR q2;clear q2)|(go_at_call 30;refine(Qc (F (K w)+1) z _ x (cW s.toList).1 _ (by exact T2) Z (by omega) J).mono ?_;rintro e w3 ⟨rfl,I⟩;(try rw[h5]);obtain⟨t3,v3,r3,q3,l3⟩:=TK.o w3 (f.trans (I.mono f.size));obtain⟨y0,y1,y2⟩:=qR r3;obtain⟨x0,x1,x2⟩:=qR q3;have T3:=aD t3;have R3:=aD r3;clear t3 r3 q3)|(go_at_call 31;refine(Ys (F (K w)+1) z _ x (cW s.toList).1 _ (by exact T3) Z (by omega) J).mono ?_;rintro e w4 ⟨rfl,ab⟩;(try rw[h6]);obtain⟨t4,v4,r4,q4,l4⟩:=TK.o w4 ((f.trans (I.mono f.size)).trans (ab.mono (f.trans (I.mono f.size)).size));obtain⟨y0,y1,y2⟩:=qR r4;obtain⟨x0,x1,x2⟩:=qR q4;have T4:=aD t4;have R4:=aD r4;clear t4 r4 q4));rw[E.o]
 ·exact CI (p:=2) (u:=3) (v:=4) (F (K w)) (L M 0 0) _ _ (by kernel_rfl) Z Z Z (by exact cI R2 0 _) Z ⟨_,Z,⟨_,_,_,Z⟩,λh=>by simp at h,v2.setCell (xW _) _⟩
 ·exact CI (p:=2) (u:=3) (v:=4) (F (K w)) (L M 0 0) _ _ (by kernel_rfl) Z Z Z (by exact cI R3 0 _) Z ⟨_,Z,⟨_,_,_,Z⟩,λh=>by simp at h,v3.setCell (xW _) _⟩
 ·exact CI (p:=2) (u:=3) (v:=4) (F (K w)) (L M 0 0) _ _ (by kernel_rfl) Z Z Z (by exact cI R4 0 _) Z ⟨_,Z,⟨_,_,_,Z⟩,λh=>by simp at h,v4.setCell (xW _) _⟩
 ·exact CI (p:=2) (u:=3) (v:=4) (F (K w)) _ _ _ (by kernel_rfl) Z Z Z (by exact cI R4 0 _) Z ⟨_,Z,⟨_,_,_,Z⟩,λ_=>⟨_,_,Z,T4.set _⟩,v4.setCell (xW _) _⟩
def Yt(s:ByteArray)(w:World)(b:Tab w)(d:((eQ s.toList).2.1 != 0)=Y):
  Calls prog 6 #[.string s] w λe c=>e=.returned (.tuple #[L M 0 0,.bool G,.int .i64 (eQ s.toList).2.1,.int .i64 (eQ s.toList).2.2])/\τ (F (K w)) w c:=by
 go_in;go_wp2_with(first|(go_at_call 11;refine(H9 s _ b).mono ?_;rintro e t ⟨q,rfl,⟨f,j,g,rfl⟩,_,a⟩));refine bodyPost_ret (Gt Z _ _ _) Z ⟨Z,?_⟩;exact a.alloc a.size _
namespace P
def JZ:∀r∈fA,r.1<5->∀st:VW,st.kind=r.1->st.scope=0->gQ st (iR r.2.1 r.2.2)=({st with q:=r.2.1,scope:=r.2.2},Y):=by
 rw[Hj];simp only[List.forall_mem_cons]
 repeat' apply And.intro
 all_goals first
  |(intro c st f g
    obtain⟨k,l,d,v,a,b,o,s,j⟩:=st;simp only at f g;subst f g
    first|rfl|(exfalso;revert c;decide))
  |simp
theorem uX(c:T)(w:W T):(bN c w).length<=2:=by
 unfold bN
 grind
theorem Yu(h:(cX A).2=Y):∃d,A=[114,d]:=by
 match A,h with
 |[a,b],h =>
  simp only[cX]at h;by_cases e:a=114
  ·exact⟨b,by rw[e]⟩
  ·grind
theorem DC{c:W T}{r:W (W T)}(h:(cX A).2=Y):gR (A::e::c::r)=kV (A::e::c::r):=by
 grind [Yu,gR]
theorem DI{c:W T}{r:W (W T)}(a:D A<=2)(h:(cX A).2=G):(gR (A::e::c::r)).2=G:=by
 have n:∀l:W T,2<D l->(A==l)=G:=λl h=>by grind
 simp only[gR,n [115,116,111,114,101] (by decide),n [102,101,110,99,101] (by decide),n [98,97,114,114,105,101,114] (by decide),n [101,110,100] (by decide),xF,ω]
 split
 ·rfl
 grind [kV]
def oY(k o s:S)(xs:W (W T)):Prop:=(gR (sX k o s (iT (kd k) xs))).2=(fY (oU k o s) (dE k).2 xs).2/\((fY (oU k o s) (dE k).2 xs).2=Y->(gR (sX k o s (iT (kd k) xs))).1=(fY (oU k o s) (dE k).2 xs).1)
section
variable {k o s:φ}
theorem Yv(q:(k,o,s)∈fA)(g:k=0)(x0 a:W T):oY k o s [x0,a]:=by
 unfold oY;subst g;have j:=JZ _ q (by omega);have e1:sX 0 o s (iT (kd 0) [x0,a])=bN 100 x0::dO::pP::bN 118 a::iR o s:=Z;have e2:fY (oU 0 o s) (dE 0).2 [x0,a]=if(eB x0).2 then if(gZ a).2 then({oU 0 o s with dest:=(eB x0).1,z:=(gZ a).1},Y)else(VW.zero,G)else(VW.zero,G):=Z
 obtain⟨b,c⟩:=IK x0;obtain⟨d,f⟩:=TR a;rw[e1,e2]
 cases hR:(eB x0).2
 ·grind [DI,uX]
 ·rw[hR]at b c;rw[DC b.symm];have e3:kV (bN 100 x0::dO::pP::bN 118 a::iR o s)=load {VW.zero with dest:=(cX (bN 100 x0)).1} (bN 118 a::iR o s):=by
   simp[kV,dO,pP,<- b]
  rw[e3,<- c rfl]
  cases hV:(gZ a).2
  ·grind [LA]
  ·rw[hV]at d f;rw[JI _ _ _ d.symm,j _ rfl rfl,<- f rfl];exact⟨Z,λ_=>Z⟩
theorem Yw(j:(k,o,s)∈fA)(f:k=1)(x0 b:W T):oY k o s [x0,b]:=by
 unfold oY;subst f;have g:=JZ _ j (by omega);have e1:gR (sX 1 o s (iT (kd 1) [x0,b]))=if(jI (bN 118 x0)).2 then if(dG (bN 97 b)).2 then gQ {VW.zero with kind:=1,z:=(jI (bN 118 x0)).1,a:=(dG (bN 97 b)).1} (iR o s)else(VW.zero,G)else(VW.zero,G):=by
  show store (rK::bN 118 x0::bN 97 b::iR o s)=_
  grind [store,eU]
 have e2:fY (oU 1 o s) (dE 1).2 [x0,b]=if(gZ x0).2 then if(dJ b).2 then({oU 1 o s with z:=(gZ x0).1,a:=(dJ b).1},Y)else(VW.zero,G)else(VW.zero,G):=Z
 obtain⟨q,t⟩:=TR x0;obtain⟨c,d⟩:=zY b;rw[e1,e2,<- q,<- c]
 cases hV:(gZ x0).2
 ·grind
 cases hA:(dJ b).2
 ·grind
 rw[<- t hV,<- d hA];simp only[ψ];rw[g _ rfl rfl];exact⟨Z,λ_=>Z⟩
theorem Yx(u:(k,o,s)∈fA)(d:k=2\/k=3)(x0 b c:W T):oY k o s [x0,b,c]:=by
 unfold oY;have t:=JZ _ u (by omega);have e1:sX k o s (iT (kd k) [x0,b,c])=bN 100 x0::dO::(if k==2 then dZ else oZ)::bN 118 b::bN 97 c::iR o s:=by rcases d with rfl|rfl<;>rfl
 have e2:fY (oU k o s) (dE k).2 [x0,b,c]=if(eB x0).2 then if(gZ b).2 then if(dJ c).2 then({oU k o s with dest:=(eB x0).1,z:=(gZ b).1,a:=(dJ c).1},Y)else(VW.zero,G)else(VW.zero,G)else(VW.zero,G):=by rcases d with rfl|rfl<;>rfl
 obtain⟨f,g⟩:=IK x0;obtain⟨x,y⟩:=TR b;obtain⟨j,q⟩:=zY c;rw[e1,e2]
 cases hR:(eB x0).2
 ·grind [DI,uX]
 ·rw[hR]at f g;rw[DC f.symm];have e3:kV (bN 100 x0::dO::(if k==2 then dZ else oZ)::bN 118 b::bN 97 c::iR o s)=step {VW.zero with dest:=(cX (bN 100 x0)).1} k (bN 118 b::bN 97 c::iR o s):=by
   grind [kV,dO,dZ,oZ]
  rw[e3,<- g rfl];simp only[step,eU];rw[<- x,<- j]
  cases hV:(gZ b).2
  ·grind
  cases hA:(dJ c).2
  ·grind
  rw[<- y hV,<- q hA];simp only[ψ];rw[t _ rfl rfl];exact⟨Z,λ_=>Z⟩
def Yy(c:(k,o,s)∈fA)(a:k=4):oY k o s []:=by
 unfold oY;subst a;have b:=JZ _ c (by omega) {VW.zero with kind:=4} Z Z;have e1:gR (sX 4 o s (iT (kd 4) []))=gQ {VW.zero with kind:=4} (iR o s):=Z;rw[e1,b];exact⟨Z,λ_=>Z⟩
def VF(b:(k,o,s)∈fA)(a:5<=k):o=0/\s=0:=by
 have:∀r∈fA,5<=r.1->r.2.1=0/\r.2.2=0:=by decide
 exact this _ b a
def Yz(b:(k,o,s)∈fA)(a:k=5):oY k o s []:=by
 unfold oY;subst a;obtain⟨rfl,rfl⟩:=VF b (by decide);exact⟨Z,λ_=>Z⟩
theorem Y0(q:(k,o,s)∈fA)(j:k=6)(x0 b:W T):oY k o s [x0,b]:=by
 unfold oY;subst j;obtain⟨rfl,rfl⟩:=VF q (by decide);have e1:sX 6 0 0 (iT (kd 6) [x0,b])=[bN 100 x0,dO,bN 97 b]:=Z;have e2:fY (oU 6 0 0) (dE 6).2 [x0,b]=if(eB x0).2 then if(dJ b).2 then({oU 6 0 0 with dest:=(eB x0).1,a:=(dJ b).1},Y)else(VW.zero,G)else(VW.zero,G):=Z
 obtain⟨f,g⟩:=IK x0;obtain⟨c,d⟩:=zY b;rw[e1,e2]
 cases hR:(eB x0).2
 ·grind [DI,uX]
 ·rw[hR]at f g;rw[DC f.symm];have e3:kV [bN 100 x0,dO,bN 97 b]=sum {VW.zero with dest:=(cX (bN 100 x0)).1} [bN 97 b]:=by
   grind [uX,kV,dO]
  rw[e3,<- g rfl]
  cases hA:(dJ b).2
  ·grind [JE]
  ·rw[hA]at c d;rw[A7 _ _ c.symm,<- d rfl];exact⟨Z,λ_=>Z⟩
theorem Y1(E:(k,o,s)∈fA)(g:k=7\/k=8\/k=9)(x0 c d:W T):oY k o s [x0,c,d]:=by
 unfold oY;obtain⟨rfl,rfl⟩:=VF E (by omega);have e1:sX k 0 0 (iT (kd k) [x0,c,d])=[bN 100 x0,dO,bN 97 c,if k==7 then[43]else if k==8 then[45]else[61,61],bN 97 d]:=by rcases g with rfl|rfl|rfl<;>rfl
 have e2:fY (oU k 0 0) (dE k).2 [x0,c,d]=if(eB x0).2 then if(dJ c).2 then if(dJ d).2 then({oU k 0 0 with dest:=(eB x0).1,a:=(dJ c).1,b:=(dJ d).1},Y)else(VW.zero,G)else(VW.zero,G)else(VW.zero,G):=by rcases g with rfl|rfl|rfl<;>rfl
 obtain⟨t,u⟩:=IK x0;obtain⟨j,q⟩:=zY c;obtain⟨y,z⟩:=zY d;rw[e1,e2]
 cases hR:(eB x0).2
 ·grind [DI,uX]
 ·rw[hR]at t u;rw[DC t.symm];have f:sign (if k==7 then[43]else if k==8 then[45]else[61,61])=(k,Y):=by rcases g with rfl|rfl|rfl<;>rfl
  generalize(if k==7 then[43]else if k==8 then[45]else[61,61]:W T)=x at f⊢;have e3:kV [bN 100 x0,dO,bN 97 c,x,bN 97 d]=sum {VW.zero with dest:=(cX (bN 100 x0)).1} [bN 97 c,x,bN 97 d]:=by
   grind [uX,kV,dO]
  rw[e3,<- u rfl]
  cases hA:(dJ c).2
  ·grind [JE]
  ·rw[hA]at j q;rw[A8 _ _ _ _ j.symm (by rw[f]),<- q rfl,f,<- y]
   cases hB:(dJ d).2
   ·grind
   ·rw[<- z hB];exact⟨Z,λ_=>Z⟩
end
def Y2(a:(k,o,s)∈fA):(kd k).length=(dE k).2.length:=by
 have:∀r∈fA,(kd r.1).length=(dE r.1).2.length:=by decide
 exact this _ a
def Ia(a:(k,o,s)∈fA):k=0\/k=1\/(k=2\/k=3)\/k=4\/k=5\/k=6\/k=7\/k=8\/k=9:=by
 have:∀r∈fA,r.1=0\/r.1=1\/(r.1=2\/r.1=3)\/r.1=4\/r.1=5\/r.1=6\/r.1=7\/r.1=8\/r.1=9:=by decide
 exact this _ a
def Ib(a:(k,o,s)∈fA)(c:W (W T))(d:D c=(kd k).length):oY k o s c:=by
 have e:(kd k).length=if k=4\/k=5 then 0 else if k=0\/k=1\/k=6 then 2 else 3:=by rcases Ia a with h|h|(h|h)|h|h|h|(h|h|h)<;>subst h<;>rfl
 rw[e]at d
 rcases c with _|⟨x0,_|⟨b,_|⟨f,_|⟨g,c⟩⟩⟩⟩<;>rcases Ia a with h|h|h|h|h|h|h<;>first
  |exact Yv a h x0 b
  |exact Yw a h x0 b
  |exact Yx a h x0 b f
  |exact Yy a h
  |exact Yz a h
  |exact Y0 a h x0 b
  |exact Y1 a h x0 b f
  |(exfalso;simp at d;(repeat' split at d)<;>omega)
def CF(p:W T):Prop:=p≠[]/\(32:T)∉p/\(44:T)∉p
def Ic(h:(eB w).2=Y):CF w:=by
 rcases BP w with⟨d,rfl,_,e⟩|⟨e,_⟩
 ·rcases VS d with⟨rfl,_⟩|⟨rfl,_⟩|⟨rfl,_⟩|⟨rfl,_⟩|⟨_,_,_,_,e2⟩
  all_goals first|(rw[e]at e2;cases e2;done)|exact⟨by simp,by decide,by decide⟩
 ·rw[h]at e;cases e
def Y3(h:(gZ w).2=Y):CF w:=by
 unfold gZ at h
 repeat' split at h
 all_goals first|(rename_i e;rw[e];exact⟨by decide,by decide,by decide⟩)|cases h
def KO(h:(dJ w).2=Y):CF w:=by
 have a:dI 0=[48]:=oP 0 (by decide);have b:dI 1=[49]:=oP 1 (by decide);have c:dI 2=[50]:=oP 2 (by decide);have d:dI 3=[51]:=oP 3 (by decide);unfold dJ at h;rw[a,b,c,d]at h
 repeat' split at h
 all_goals first|exact Ic h|(rename_i e;rw[e];exact⟨by decide,by decide,by decide⟩)
def Y4{c:T}(a:c=100\/c=118\/c=97\/c=98)(h:(mV st c w).2=Y):CF w:=by
 rcases a with rfl|rfl|rfl|rfl
 ·exact Ic h
 ·exact Y3 h
 ·exact KO h
 ·exact KO h
theorem Ie:∀(cs:W T) (ws:W (W T)) (st:VW),D cs=D ws->(∀c∈cs,c=100\/c=118\/c=97\/c=98)->(nB st cs ws).2=Y->∀w∈ws,CF w
 |[],[],_,_,_,_,w,a=>by simp at a
 |c::cs,x::ws,st,hl,hc,h,w,a=>by
  rw[nB]at h
  split at h
  ·rename_i e
   rcases List.mem_cons.1 a with rfl|a
   ·exact Y4 (hc c (by simp)) e
   ·exact Ie cs ws _ (by simpa using hl) (λc h=>hc c (List.mem_cons_of_mem _ h)) h w a
  ·cases h
 |[],_::_,_,hl,_,_,_,_=>by simp at hl
 |_::_,[],_,hl,_,_,_,_=>by simp at hl
theorem UH(l:W T):∃w0 ws,bF 32 l=w0::ws/\(gX l).1=w0/\(ws=[]/\(gX l).2=[]\/∃q,ws=bF 32 q/\(gX l).2=dV 44 32 q):=by
 unfold gX
 rcases sC 32 l with⟨g,b⟩|⟨x,r,rfl,b,d⟩
 ·refine⟨l,[],b,?_,Or.inl ⟨Z,?_⟩⟩
  ·simp only;have:=List.takeWhile_append_of_pos (l₁:=l) (l₂:=[]) (p:=λc=>c != 32) λa f=>by
    grind
   simpa using this
  grind
 ·have j:∀a∈x,(a != 32)=Y:=λa f=>by
   grind
  refine⟨x,bF 32 r,d,?_,xR ⟨r,Z,?_⟩⟩
  ·simp_all
  simp_all
def Y5(a:(k,o,s)∈fA):((rL k o s).isEmpty||(rL k o s).getLast?==U 44)=G:=by
 have:∀r∈fA,((rL r.1 r.2.1 r.2.2).isEmpty||(rL r.1 r.2.1 r.2.2).getLast?==U 44)=G:=by decide
 exact this _ a
theorem Y6(a:(k,o,s)∈fA):∀c∈(dE k).2,c=100\/c=118\/c=97\/c=98:=by
 have:∀r∈fA,∀c∈(dE r.1).2,c=100\/c=118\/c=97\/c=98:=by decide
 exact this _ a
theorem Y7{next:S}(h:(eJ l next).2=Y)(d:(eJ l next).1.kind≠10):(iJ l).2=Y/\(gR (iJ l).1).2=Y/\(gR (iJ l).1).1=(eJ l next).1:=by
 obtain⟨z,ws,e1,e2,e3⟩:=UH l;unfold eJ at h d⊢;obtain⟨⟨k,o,s⟩,f,g⟩:=Xc h d;simp only at g;rw[g,Hf _ _ _ f]at h d⊢;rw[e2]at g;simp only at h d⊢;have j:(gX l).2.length=(dE k).2.length:=by
  grind [fY]
 have a:∀w∈(gX l).2,CF w:=by
  unfold fY at h;rw[H (by grind)]at h
  grind [Ie,Y6]
 have t:kN [] ws=U (gX l).2:=by
  rcases e3 with⟨rfl,e4⟩|⟨q,rfl,e4⟩
  ·rw[e4];rfl
  ·rw[e4]at a⊢;exact W9 (D q) q (xW _) a []
 obtain⟨h0,hs,x,y⟩:=Hk (gX l).2 _ f;simp only at x y;have u:=Y2 f;have b:iJ l=(sX k o s (iT (kd k) (gX l).2),Y):=by
  simp_all [iJ,rN,Y5,xF,ω,H]
 have c:=Ib f (gX l).2 (by omega);rw[b];exact⟨Z,by rw[c.1];exact h,c.2 h⟩
theorem Y8(c:T):∀(n:Nat) (a b:W T),D a<=n->bF c a=bF c b->a=b:=by
 intro n
 induction n with
 |zero =>
  intro a b h e;have t:a=[]:=x9 (by omega);subst t
  rcases sC c b with⟨_,g⟩|⟨x,r,rfl,_,j⟩
  ·grind [bF]
  grind [bF,vT]
 |succ n ih =>
  intro a b h e
  rcases sC c a with⟨_,g⟩|⟨x,r,rfl,_,j⟩
  ·rcases sC c b with⟨_,d⟩|⟨y,q,rfl,_,f⟩
   ·grind
   grind [vT]
  ·rcases sC c b with⟨_,d⟩|⟨y,q,rfl,_,f⟩
   ·grind
   grind
end P
namespace R
theorem Y9(v:W T):inn v sA=if v=[97,99,113,95,114,101,108]then 0 else if v=[99,116,97]then 1 else if v=[103,112,117]then 2 else -1:=by
 unfold inn;rw[show bF 32 sA=[[97,99,113,95,114,101,108],[99,116,97],[103,112,117]]by decide];by_cases h1:v=[97,99,113,95,114,101,108]
 ·subst h1;decide
 by_cases h2:v=[99,116,97]
 ·subst h2;decide
 by_cases h3:v=[103,112,117]
 ·subst h3;decide
 simp_all [gW,Ne.symm]
theorem Za(v:W T):inn v sB=if v=[97,99,113,114,101,108]then 0 else if v=[98,108,111,99,107]then 1 else if v=[100,101,118,105,99,101]then 2 else -1:=by
 unfold inn;rw[show bF 32 sB=[[97,99,113,114,101,108],[98,108,111,99,107],[100,101,118,105,99,101]]by decide];by_cases h1:v=[97,99,113,114,101,108]
 ·subst h1;decide
 by_cases h2:v=[98,108,111,99,107]
 ·subst h2;decide
 by_cases h3:v=[100,101,118,105,99,101]
 ·subst h3;decide
 simp_all [gW,Ne.symm]
def back(y:W T):W T:=if y=[97,99,113,114,101,108]then[97,99,113,95,114,101,108]else if y=[98,108,111,99,107]then[99,116,97]else if y=[100,101,118,105,99,101]then[103,112,117]else y
theorem Zb{h y:W T}(e:zQ h=U y):h=back y:=by
 unfold zQ at e;rw[Y9,Za]at e;by_cases b1:h=[97,99,113,114,101,108]
 ·grind
 by_cases b2:h=[98,108,111,99,107]
 ·grind
 by_cases b3:h=[100,101,118,105,99,101]
 ·grind
 rw[H b1,H b2,H b3]at e;by_cases a1:h=[97,99,113,95,114,101,108]
 ·subst a1;simp[CX]at e;rw[<- e];rfl
 by_cases a2:h=[99,116,97]
 ·subst a2;simp[CX]at e;rw[<- e];rfl
 by_cases a3:h=[103,112,117]
 ·subst a3;simp[CX]at e;rw[<- e];rfl
 simp_all [H,back]
theorem xH:∀(hs out ws:W (W T)),fW out hs=(ws,Y)->∃m,ws=out++m/\hs=m.map back
 |[],out,ws,h=>⟨[],by grind [fW],Z⟩
 |x::r,out,ws,h=>by
  rw[fW]at h
  cases e:zQ x with
  |none=>rw[e]at h;simp at h
  |some y =>
   rw[e]at h;obtain⟨m,a,b⟩:=xH r _ _ h
   grind [Zb]
def RP(k o s:S):W (W T):=
 if k==0 then[108,100]::(iR o s).map back
 else if k==1 then[115,116]::(iR o s).map back
 else if k==2 then[97,116,111,109]::dZ::(iR o s).map back
 else if k==3 then[97,116,111,109]::iO::(iR o s).map back
 else if k==4 then[102,101,110,99,101]::(iR o s).map back
 else if k==5 then[[98,97,114],AG]
 else if k==6 then[[109,111,118]]
 else if k==7 then[[97,100,100]]
 else if k==8 then[[115,117,98]]
 else[[115,101,116,101,113]]
def Zc:∀r∈fA,bF 46 (rL r.1 r.2.1 r.2.2)=RP r.1 r.2.1 r.2.2:=by decide
end R
namespace P
theorem Zd{o:W T}(h:(order o).2=Y):0<=(order o).1/\(order o).1<6/\o=OW (order o).1:=by
 unfold order at h⊢
 repeat' split at h
 all_goals first|(cases h;done)|skip
 all_goals(rename_i e;simp_all [OW])
theorem Ze{s:W T}(h:(scope s).2=Y):((scope s).1=0\/(scope s).1=1)/\s=if(scope s).1==0 then[98,108,111,99,107]else[100,101,118,105,99,101]:=by
 grind [scope]
def Ig:∀k∈([0,1,2,3,4]:W S),∀o∈([0,1,2,3,4,5]:W S),∀s∈([0,1]:W S),YV k o=Y->(o != 0||s==0)=Y->(k,o,s)∈fA:=by decide
theorem KX(j:0<=st.kind/\st.kind<5)(h:(gQ st m).2=Y):∃o s,(st.kind,o,s)∈fA/\m=iR o s:=by
 have b:st.kind∈([0,1,2,3,4]:W S):=by simp;omega
 cases m with
 |nil=>cases h
 |cons o r =>
  have h0:(if(order o).2&&YV st.kind (order o).1 then if(order o).1==0 then({st with q:=(order o).1},r.isEmpty)else match r with|[s]=>({st with q:=(order o).1,scope:=(scope s).1},(scope s).2)|_=>({st with q:=(order o).1},G)else(st,G)).2=Y:=by
   rcases r with _|⟨s,_|⟨t,r⟩⟩<;>(simp only[gQ]at h;split at h<;>simp_all)
  split at h0
  ·rename_i c;rw[x4]at c;obtain⟨u,x,f⟩:=Zd c.1;have g:(order o).1∈([0,1,2,3,4,5]:W S):=by simp;omega
   split at h0
   ·rename_i a;have e:(order o).1=0:=by simpa using a
    have d:r=[]:=by simpa using h0
    refine⟨0,0,Ig _ b 0 (by simp) 0 (by simp) (by grind) Z,?_⟩;rw[d,f,e];rfl
   ·rename_i a
    rcases r with _|⟨s,_|⟨t,r⟩⟩
    ·cases h0
    ·obtain⟨y,z⟩:=Ze h0;refine⟨(order o).1,(scope s).1,Ig _ b _ g _ (by simp;omega) c.2 (by grind),?_⟩;unfold iR
     grind
    ·cases h0
  ·cases h0
theorem Zf(a:D A<=2)(h:(gR (A::dO::pP::B::m)).2=Y):∃o s,((0:S),o,s)∈fA/\m=iR o s:=by
 cases hR:(cX A).2
 ·grind [DI]
 ·rw[DC hR]at h;have e3:kV (A::dO::pP::B::m)=load {VW.zero with dest:=(cX A).1} (B::m):=by
   grind [kV,pP]
  rw[e3]at h
  cases hV:(jI B).2
  ·grind [LA]
  ·rw[JI _ _ _ hV]at h;exact KX ⟨by grind,by grind⟩ h
def Zg(h:(gR (rK::p::v::m)).2=Y):∃o s,((1:S),o,s)∈fA/\m=iR o s:=by
 have e:gR (rK::p::v::m)=store (rK::p::v::m):=Z;rw[e]at h;simp only[store]at h
 split at h
 ·have a:(eU {VW.zero with kind:=1} p v).1.kind=1:=by unfold eU;split<;>rfl
  have:=KX (by rw[a];constructor<;>decide) h
  rwa [a]at this
 ·cases h
theorem Ih(c:k=2\/k=3)(b:D A<=2)(h:(gR (A::dO::(if k==2 then dZ else oZ)::p::v::m)).2=Y):∃o s,(k,o,s)∈fA/\m=iR o s:=by
 cases hR:(cX A).2
 ·grind [DI]
 ·rw[DC hR]at h;have e3:kV (A::dO::(if k==2 then dZ else oZ)::p::v::m)=step {VW.zero with dest:=(cX A).1} k (p::v::m):=by
   grind [kV,dZ,oZ]
  rw[e3]at h;simp only[step]at h
  split at h
  ·have a:(eU { {VW.zero with dest:=(cX A).1}with kind:=k} p v).1.kind=k:=by unfold eU;split<;>rfl
   have:=KX (by rw[a];omega) h
   rwa [a]at this
  ·cases h
theorem Zh(h:(gR (uW::m)).2=Y):∃o s,((4:S),o,s)∈fA/\m=iR o s:=by
 have e:gR (uW::m)=gQ {VW.zero with kind:=4} m:=Z;rw[e]at h;exact KX (by grind) h
end P
namespace R
def yL(h0:W T)(hs:W (W T)):Prop:=∃r∈fA,h0::hs=RP r.1 r.2.1 r.2.2
def Zi(d:D A<=2)(c:(fW [A,dO,pP,B] hs).2=Y)(a:(gR (fW [A,dO,pP,B] hs).1).2=Y):yL [108,100] hs:=by
 obtain⟨m,e1,e2⟩:=xH hs [A,dO,pP,B] (fW [A,dO,pP,B] hs).fst (x5 Z c);rw[e1]at a;obtain⟨o,s,f,b⟩:=Zf d a;exact⟨(0,o,s),f,by rw[e2,show m=_ from b];rfl⟩
def Zj(c:(fW [rK,A,B] hs).2=Y)(a:(gR (fW [rK,A,B] hs).1).2=Y):yL [115,116] hs:=by
 obtain⟨m,e1,e2⟩:=xH hs [rK,A,B] (fW [rK,A,B] hs).fst (x5 Z c);rw[e1]at a;obtain⟨o,s,d,b⟩:=Zg a;exact⟨(1,o,s),d,by rw[e2,show m=_ from b];rfl⟩
def Zk(d:D A<=2)(c:(fW [A,dO,dZ,B,C] hs).2=Y)(a:(gR (fW [A,dO,dZ,B,C] hs).1).2=Y):yL [97,116,111,109] (dZ::hs):=by
 obtain⟨m,e1,e2⟩:=xH hs [A,dO,dZ,B,C] (fW [A,dO,dZ,B,C] hs).fst (x5 Z c);rw[e1]at a;obtain⟨o,s,f,b⟩:=Ih (k:=2) (Or.inl Z) d a;exact⟨(2,o,s),f,by rw[e2,show m=_ from b];rfl⟩
def Zl(d:D A<=2)(c:(fW [A,dO,oZ,B,C] hs).2=Y)(a:(gR (fW [A,dO,oZ,B,C] hs).1).2=Y):yL [97,116,111,109] (iO::hs):=by
 obtain⟨m,e1,e2⟩:=xH hs [A,dO,oZ,B,C] (fW [A,dO,oZ,B,C] hs).fst (x5 Z c);rw[e1]at a;obtain⟨o,s,f,b⟩:=Ih (k:=3) (xR Z) d a;exact⟨(3,o,s),f,by rw[e2,show m=_ from b];rfl⟩
def Zm(c:(fW [uW] hs).2=Y)(a:(gR (fW [uW] hs).1).2=Y):yL [102,101,110,99,101] hs:=by
 obtain⟨m,e1,e2⟩:=xH hs [uW] (fW [uW] hs).fst (x5 Z c);rw[e1]at a;obtain⟨o,s,d,b⟩:=Zh a;exact⟨(4,o,s),d,by rw[e2,show m=_ from b];rfl⟩
theorem IV(k:S)(a:k∈([5,6,7,8,9]:W S))(e:h0::hs=RP k 0 0):yL h0 hs:=by
 refine⟨(k,0,0),?_,e⟩
 grind [fA]
theorem Zn{c:W (W T)}(t:(xZ h0 hs c).2=Y)(u:(gR (xZ h0 hs c).1).2=Y):yL h0 hs:=by
 have g:∀n:Nat,D c=n->(n=0->c=[])/\(n=2->∃x y,c=[x,y])/\(n=3->∃x y z,c=[x,y,z]):=by
  intro n j;refine⟨λe=>x9 (by omega),λe=>?_,λe=>?_⟩
  ·match c,j.trans e with
   |[x,y],_=>exact⟨x,y,Z⟩
  ·match c,j.trans e with
   |[x,y,z],_=>exact⟨x,y,z,Z⟩
 have cut:∀(p:Nat),vQ h0 yD=p->p<9->D c=(yG.getD p []).length/\(qI p (iT (yG.getD p []) c) hs).2=Y/\(gR (qI p (iT (yG.getD p []) c) hs).1).2=Y:=by
  grind [xZ]
 by_cases c0:h0=[108,100]
 ·subst c0;obtain⟨d,a,b⟩:=cut 0 Z (by decide);obtain⟨x,y,rfl⟩:=(g 2 d).2.1 Z;exact Zi (A:=bN 100 x) (uX _ _) a b
 by_cases c1:h0=[115,116]
 ·subst c1;obtain⟨d,a,b⟩:=cut 1 Z (by decide);obtain⟨x,y,rfl⟩:=(g 2 d).2.1 Z;exact Zj a b
 by_cases c2:h0=[97,116,111,109]
 ·subst c2;obtain⟨d,a,b⟩:=cut 2 Z (by decide);obtain⟨x,y,z,rfl⟩:=(g 3 d).2.2 Z
  cases hs with
  |nil=>cases a
  |cons h r =>
   simp only[qI]at a b;by_cases d1:h=dZ
   ·rw[I d1]at a b;subst d1;exact Zk (A:=bN 100 x) (uX _ _) a b
   ·rw[H d1]at a b;by_cases d2:h=iO
    ·rw[I d2]at a b;subst d2;exact Zl (A:=bN 100 x) (uX _ _) a b
    grind
 by_cases c3:h0=[102,101,110,99,101]
 ·subst c3;obtain⟨d,a,b⟩:=cut 3 Z (by decide);exact Zm a b
 by_cases c4:h0=[98,97,114]
 ·subst c4;obtain⟨d,a,b⟩:=cut 4 Z (by decide);have e:hs=[AG]:=by grind [qI]
  exact IV 5 (by simp) (by rw[e];rfl)
 have f:∀p,5<=p->(qI p (iT (yG.getD p []) c) hs).2=Y->hs=[]:=by
  intro p E h;obtain⟨q,rfl⟩:∃q,p=q+5:=⟨p-5,by omega⟩
  cases q with
  |zero=>simpa[qI]using h
  |succ q=>simpa[qI]using h
 by_cases c5:h0=[109,111,118]
 ·subst c5;obtain⟨d,a,b⟩:=cut 5 Z (by decide);exact IV 6 (by simp) (by rw[f 5 (by decide) a];rfl)
 by_cases c6:h0=[97,100,100]
 ·subst c6;obtain⟨d,a,b⟩:=cut 6 Z (by decide);exact IV 7 (by simp) (by rw[f 6 (by decide) a];rfl)
 by_cases c7:h0=[115,117,98]
 ·subst c7;obtain⟨d,a,b⟩:=cut 7 Z (by decide);exact IV 8 (by simp) (by rw[f 7 (by decide) a];rfl)
 by_cases c8:h0=[115,101,116,101,113]
 ·subst c8;obtain⟨d,a,b⟩:=cut 8 Z (by decide);exact IV 9 (by simp) (by rw[f 8 (by decide) a];rfl)
 simp_all [vQ,yD,H,Ne.symm,xZ,I]
end R
namespace P
theorem Zo{cs:W T}(h:(fY st cs ws).2=Y):(fY st cs ws).1.kind=st.kind:=by
 unfold fY at h⊢
 split at h
 ·cases h
 simp_all [H,PJ]
theorem Zp(next:S)(a:(iJ l).2=Y)(b:(gR (iJ l).1).2=Y):(eJ l next).2=Y/\(eJ l next).1.kind≠10:=by
 obtain⟨g,ws,e1,e2,e3⟩:=UH l;unfold iJ at a b;rw[e1]at a b;simp only at a b
 cases hgo:kN [] ws with
 |none=>rw[hgo]at a;cases a
 |some xs =>
  rw[hgo]at a b;have t:xs=(gX l).2:=by
   rcases e3 with⟨rfl,e4⟩|⟨q,rfl,e4⟩
   ·grind [kN]
   ·rw[e4];simpa using W8 (D q) q (xW _) [] xs hgo
  rw[rN]at a b
  split at a
  ·cases a
  rename_i c;rw[H c]at b
  cases e5:bF 46 g with
  |nil=>rw[e5]at a;cases a
  |cons h0 hs =>
   rw[e5]at a b;simp only at a b;rw[JD]at a b;obtain⟨⟨k,o,s⟩,d,y⟩:=Zn a b;have u:g=rL k o s:=Y8 46 (D g) g _ (xW _) (by rw[e5,y];exact(Zc _ d).symm);obtain⟨z,E,f,x⟩:=Hk xs _ d;simp only at f x;rw[<- u,e5]at f;injection f with f s1'
   subst f s1';rw[<- JD,x]at a b;by_cases hl:D xs=(kd k).length
   ·rw[H λe=>e hl]at b;have j:=Ib d xs hl;unfold eJ;rw[e2,u,Hf _ _ _ d,<- t];simp only;rw[j.1]at b;refine⟨b,?_⟩;rw[Zo b];have:∀r∈fA,(oU r.1 r.2.1 r.2.2).kind≠10:=by decide
    exact this _ d
   grind
theorem Zq:∀(n:Nat),∀c∈Lib.decDigits n,48<=c.toNat/\c.toNat<=57:=by
 intro n
 induction n using Nat.strongRecOn with
 |ind n ih =>
  intro c a;have cT:∀k:Nat,k<10->48<=(x6 (48+k)).toNat/\(x6 (48+k)).toNat<=57:=λk b=>by
   rw[show(x6 (48+k)).toNat=(48+k)%256 by simp,Nat.mod_eq_of_lt (by omega)];omega
  grind [Gw,x7,OL]
def Ii(n:S):(32:T)∉YJ n:=by
 intro h;unfold YJ dI at h
 rcases List.mem_append.1 h with h|h
 ·simp at h
 ·have:=Zq _ _ h;simp at this
end P
namespace R
def mR(l:W T):Bool:=decide (3<D l)&&l.take 3==[98,122,32]
def zX(lab l:W T):ρ (W T):=match bF 32 (l.drop 3)with
 |[a,b]=>if b=lab/\2<=D a/\a.getLast?=U 44 then U a.dropLast else M
 |_=>M
end R
namespace P
def Zr(q:W T)(next:S):eJ (98::122::32::q) next=fY {VW.zero with kind:=10,label:=next} [97,108] (dV 44 32 q):=by
 have e:gX (98::122::32::q)=([98,122],dV 44 32 q):=by
  unfold gX;simp
 unfold eJ;rw[e];rfl
theorem Ij(q f:W T)(N:(32:T)∉f)(t:W T)(S:(32:T)∉t)(O:t≠[]):dV 44 32 q=[t,f]↔zX f (98::122::32::q)=U t:=by
 unfold zX;rw[show(98::122::32::q).drop 3=q from rfl]
 rcases sC 32 q with⟨J,j⟩|⟨a,r,rfl,j,H⟩
 ·grind [GL]
 ·rw[H];by_cases ha:a.getLast?=U 44
  ·obtain⟨b,rfl⟩:=List.getLast?_eq_some_iff.1 ha;have I:(32:T)∉b:=λe=>j (List.mem_append_left _ e)
   rw[show b++[44]++32::r=b++44::32::r by simp,FB b r I]
   rcases sC 32 r with⟨z,g⟩|⟨c,x,rfl,g,E⟩
   ·rw[GL r z,g];simp only[List.cons.injEq,and_true,List.getLast?_append,List.getLast?_singleton,List.dropLast_concat,List.length_append,List.length_singleton]
    grind
   ·rw[E]
    cases e5:bF 32 x with
    |nil=>exact absurd e5 (vT 32 x)
    |cons y ys =>
     simp only[reduceCtorEq,iff_false];intro h;injection h with h0 h
     by_cases hc:c.getLast?=U 44
     ·obtain⟨d,rfl⟩:=List.getLast?_eq_some_iff.1 hc
      grind [FB,DB]
     ·obtain⟨p,u,e1,e2⟩:=NS c x g hc
      grind
  ·obtain⟨p,u,e1,e2⟩:=NS a r j ha
   grind
theorem Ik(next:S)(h:mR l=Y):((eJ l next).2=Y↔∃t,zX (YJ next) l=U t/\(dG (bN 97 t)).2=Y)/\∀t,zX (YJ next) l=U t->(dG (bN 97 t)).2=Y->(eJ l next).1={VW.zero with kind:=10,label:=next,a:=(dG (bN 97 t)).1}:=by
 unfold mR at h;rw[x4,η]at h;obtain⟨q,rfl⟩:∃q,l=98::122::32::q:=by
  match l,h.1 with
  |a::b::c::q,_ =>
   have:=h.2;simp at this;exact⟨q,by grind⟩
 rw[Zr];have E:∀t,zX (YJ next) (98::122::32::q)=U t->(dG (bN 97 t)).2=Y->dV 44 32 q=[t,YJ next]/\(dJ t).2=Y/\(dJ t).1=(dG (bN 97 t)).1:=by
  intro t u x;obtain⟨f,H⟩:=zY t;rw[x]at f;have d:=KO f;exact⟨(Ij q _ (Ii next) t d.2.1 d.1).2 u,f,H f⟩
 have I:∀t,dV 44 32 q=[t,YJ next]->(dJ t).2=Y->fY {VW.zero with kind:=10,label:=next} [97,108] (dV 44 32 q)=({VW.zero with kind:=10,label:=next,a:=(dJ t).1},Y):=by
  grind [fY,nB,mV]
 refine⟨⟨λh=>?_,?_⟩,?_⟩
 ·unfold fY at h
  split at h
  ·cases h
  ·rename_i c
   match e:dV 44 32 q,(by simpa using c:2=(dV 44 32 q).length)with
   |[t,y],_ =>
    rw[e]at h;simp only[nB]at h
    split at h
    ·rename_i g;have g:(dJ t).2=Y:=g
     split at h
     ·rename_i j;have j:(y==YJ next)=Y:=j;have z:y=YJ next:=by simpa using j
      have d:=KO g;refine⟨t,(Ij q _ (Ii next) t d.2.1 d.1).1 (by rw[e,z]),?_⟩
      grind [zY]
     ·cases h
    ·cases h
 ·grind
 grind
theorem Zs{next:S}(h:mR l=G)(hs:(eJ l next).2=Y):(eJ l next).1.kind≠10:=by
 intro g;unfold eJ at hs g;obtain⟨j,z,E,⟨x,c,d⟩,f⟩:=MA _ _ next 11 0 hs;rw[g]at f;subst f;rw[show rU 10=G from rfl]at d;simp only[xF,ω]at d;subst d;rw[show(dE 10).1=[98,122]from rfl,List.append_nil]at c;rw[c]at hs;have e:jF [98,122] (gX l).2 next 11 0=fY {VW.zero with kind:=10,label:=next} [97,108] (gX l).2:=Z;rw[e]at hs;obtain⟨H,ws,e1,e2,e3⟩:=UH l;rw[c]at e2;subst e2;have b:(gX l).2.length=2:=by
  grind [fY,gX]
 rcases sC 32 l with⟨y,q⟩|⟨a,r,rfl,q,t⟩
 ·grind [vT]
 ·rw[t]at e1;injection e1 with e1 e1'
  subst e1;have u:r=[]:=by
   grind [mR]
  subst u;rw[show(gX ([98,122]++[32])).2=[[]]from rfl]at b;simp at b
end P
namespace R
def oC:W (W T)->Lh×Bool
 |[]=>(x0,G)
 |c::w=>jE (nA c) (w.map nA)
theorem Zt(w:W (W T)):(w.map nA).map ByteArray.toList=w:=by
 rw[List.map_map]
 conv=>rhs;rw[<- List.map_id w]
 grind [List.map_congr_left,yN]
def xI(ws:W (W T)):Prop:=∃c w,ws=c::w/\c≠[101,110,100]/\(c=[105,102]->2<=D w)
theorem IP{b c:W T}(a:D A<=2):xI (A::b::c::m):=⟨A,b::c::m,Z,λe=>by grind,λ_=>by simp⟩
def RN{c:W T}(a:c≠[101,110,100])(b:c≠[105,102]):xI (c::m):=⟨c,m,Z,a,λe=>absurd e b⟩
theorem Zu{k:Nat}{a:W (W T)}(b:(a.getD 0 []).length<=2)(h:(qI k a hs).2=Y):xI (qI k a hs).1:=by
 have S:∀out,(fW out hs).2=Y->∃m,(fW out hs).1=out++m:=λout h=>by
  grind [xH]
 match k,h with
 |0,h =>
  obtain⟨m,e⟩:=S _ h;show xI (fW _ hs).1;rw[e];exact IP b
 |1,h =>
  obtain⟨m,e⟩:=S _ h;show xI (fW _ hs).1;rw[e];exact RN (by decide) (by decide)
 |2,h =>
  cases hs with
  |nil=>cases h
  |cons x r =>
   have S:∀out,(fW out r).2=Y->∃m,(fW out r).1=out++m:=λout h=>by
    grind [xH]
   simp only[qI]at h⊢
   split at h
   ·rename_i c;rw[I c]
    grind [IP]
   ·rename_i c;rw[H c]
    split at h
    ·rename_i c;rw[I c]
     grind [IP]
    ·cases h
 |3,h =>
  obtain⟨m,e⟩:=S _ h;show xI (fW _ hs).1;rw[e];exact RN (by decide) (by decide)
 |4,h=>exact RN (by decide) (by decide)
 |5,h=>exact IP b
 |k+6,h=>exact IP b
theorem Zv(a:W T)(b:W (W T)):((iT a b).getD 0 []).length<=2:=by
 grind [iT,uX]
theorem OZ(h:(iJ l).2=Y):xI (iJ l).1:=by
 unfold iJ at h⊢
 split at h
 ·cases h
 ·rename_i d ws e
  cases hg:kN [] ws with
  |none=>rw[hg]at h;cases h
  |some xs =>
   rw[hg]at h;rw[rN]at h⊢
   split at h
   ·cases h
   rename_i c;rw[H c]
   split at h
   ·cases h
   ·rename_i h0 hs e2;rw[JD]at h⊢;unfold xZ at h⊢
    split at h
    ·cases h
    ·rename_i a;rw[H a]
     split at h
     ·cases h
     ·rename_i b;rw[H b];exact Zu (Zv _ _) h
theorem Il(h:xI ws):(gR ws).2=(oC ws).2/\((oC ws).2=Y->Twin (gR ws).1 (oC ws).1):=by
 obtain⟨c,w,rfl,g,d⟩:=h;by_cases hc:c=[105,102]
 ·subst hc;have f:=d Z
  match w,f with
  |a::b::w,_ =>
   have e1:(gR ([105,102]::a::b::w)).2=G:=by
    cases w<;>rfl
   have e2:(oC ([105,102]::a::b::w)).2=G:=by
    simp only[oC,jE,yN,List.map_cons];rw[H (by decide),H (by decide),H (by simp)]
    grind [VM,yN,BT]
   exact bf e1 e2
 ·have:=X7 (nA c) (w.map nA) (by grind [yN]) (by grind [yN]);rw[Zt,yN]at this;exact this
def Zw(ws:W (W T)):¬(oC ws).1.op.toList=[105,102]:=by
 cases ws with
 |nil=>simp[oC,x0,bI]
 |cons c w=>exact Yc _ _
structure AS where
 s:St
 nm:ν (ν σ)
 lb:φ
def AS.zero:AS:=⟨St.zero,[],0⟩
def thB:W T->ρ S
 |[46,116,104,114,101,97,100,32,48]=>U 0
 |[46,116,104,114,101,97,100,32,49]=>U 1
 |_=>M
def kQ(a:AS)(l:W T):ρ AS :=
 if 40<=a.s.count then M
 else if mR l then
  match zX (YJ (a.lb+1)) l with
  |some t=>if decide (D a.s.O<2)&&(bV (bN 97 t)).2 then U ⟨{a.s with count:=a.s.count+1,O:=a.s.O++[⟨[],(bV (bN 97 t)).1⟩]},a.nm++[YJ (a.lb+1)],a.lb+1⟩else M
  |none=>M
 else if(iJ l).2&&(oC (iJ l).1).2&&!(isB (oC (iJ l).1).1&&!a.s.O.isEmpty)then U {a with s:=put {a.s with count:=a.s.count+1} (.mk (oC (iJ l).1).1 [])}
 else M
def eN(a:AS)(i:S)(l:W T):ρ AS :=
 match thB l with
 |some b=>if a.s.O.isEmpty&&!(D a.s.ts==4)then U {a with s:={a.s with ts:=a.s.ts++[⟨b,[],i⟩],count:=0} }else M
 |none =>
  if a.s.ts.isEmpty then M
  else match a.s.O.getLast?,a.nm.getLast? with
   |some f,U n=>if l=n++[58]then U {a with s:=put {a.s with O:=a.s.O.dropLast} (.mk (gH f.a) f.l),nm:=a.nm.dropLast}else kQ a l
   |_,_=>kQ a l
end R
structure ARel(r:Rd)(a:AS):Prop where
 rel:Rel r a.s
 nm:a.nm=r.O.map YJ
 lb:a.lb=r.I
 inn:a.s.inner=0
 most:r.most=40
 I:0<=r.I
 pos:∀x∈r.O,0<x
def Zx:ARel Rd.WB AS.zero:=⟨⟨Z,by simp[Rd.WB],by simp[Rd.WB],Z,λl h=>by simp[Rd.WB,ZF]at h,Or.inl ⟨Z,Z,Z,Z,Z⟩⟩,Z,Z,Z,Z,x8 _,λx h=>by simp[Rd.WB]at h⟩
def IT(p:Rd×Bool)(o:ρ AS)(i:S):Prop :=
 p.1.i=i/\match o with
 |none=>p.2=G
 |some a=>p.2=Y/\ARel p.1 a
theorem ARel.bJ{a:AS}(h:ARel r a):(P.bJ r != 0)=!a.s.O.isEmpty:=by
 have b:=h.rel.jV;unfold P.bJ
 cases e:r.O.getLast? with
 |none =>
  rw[List.getLast?_eq_none_iff]at e
  grind
 |some x =>
  have c:=h.pos x (xa e)
  grind
theorem Im{b:S}(h:thB l=U b):(b=0\/b=1)/\l=kY b:=by
 have a:dI 0=[48]:=oP 0 (by decide);have c:dI 1=[49]:=oP 1 (by decide);unfold thB at h
 split at h
 ·simp_all [kY]
 ·simp_all [kY]
 ·cases h
def Zy(h:thB l=M):l≠kY 0/\l≠kY 1:=by
 have a:dI 0=[48]:=oP 0 (by decide);have b:dI 1=[49]:=oP 1 (by decide);constructor
 ·rintro rfl;rw[kY,a]at h;cases h
 ·rintro rfl;rw[kY,b]at h;cases h
theorem Zz{a:AS}(h:ARel r a)(i b:φ)(c:r.i=i)(z:0<i)(X:b=0\/b=1):
  IT (lJ r b r.i) (if a.s.O.isEmpty&&!(D a.s.ts==4)then U {a with s:={a.s with ts:=a.s.ts++[⟨b,[],i⟩],count:=0} }else M) i:=by
 have d:=h.rel.mK;have ho:=h.rel.jV;have hf:=h.rel.few;unfold lJ;by_cases hc:4<=D r.H\/0<D r.O
 ·rw[I hc,H]
  ·exact⟨c,Z⟩
  grind
 rw[H hc];have h0:a.s.O=[]:=List.length_eq_zero_iff.1 (by omega);have E:r.O=[]:=List.length_eq_zero_iff.1 (by omega);rw[I (by grind)];refine⟨c,Z,⟨⟨Z,by simp;omega,?_,?_,?_,?_⟩,h.nm,h.lb,h.inn,h.most,h.I,h.pos⟩⟩
 ·intro u f
  rcases List.mem_append.1 f with f|f
  ·exact h.rel.thr u f
  grind
 ·show a.s.inner=_;rw[GM,h.rel.inn];simp[ZF,tC]
 ·intro l d;rw[GM]at d;simp[ZF,tC]at d;exact h.rel.pos l d
 ·rcases h.rel.ths with⟨j,x,J,N,y⟩|⟨g,us,t,u,m,k,S,q,j,x,J,N,y,T,V,W⟩
  ·refine xR ⟨[],[],⟨b,[],i⟩,⟨b,r.i,[]⟩,0,0,[],[],by rw[x],by rw[j],ZI.nil 0,XK.nil 0,?_,Z,Z,c⟩
   grind [YR.nil]
  ·obtain⟨e1,e2,e3⟩:=y.none h0;refine xR ⟨a.s.ts,r.H,⟨b,[],i⟩,⟨b,r.i,[]⟩,k,k,[],[],Z,Z,?_,XK.nil k,?_,Z,Z,c⟩
   ·grind [ZI.bD]
   grind
theorem R.Ip(s:St)(x:Tree):(R.put s x).inner=s.inner:=by grind [R.put]
theorem Z0{next:S}(h:(eJ l next).2=Y):((eJ l next).1.kind==11)=G:=by
 grind [eJ,MA]
def IZ(r:Rd)(l:W T):Rd×Bool :=
 if !(eJ l (r.I+1)).2||(eJ l (r.I+1)).1.kind==5&&bJ r != 0 then(r,G)
 else fS r {(eJ l (r.I+1)).1 with i:=r.i}
theorem Iq{a:AS}(h:ARel r a)(i:φ)(l:ν σ)(d:r.i=i)(g:0<i)(f:a.s.ts≠[]):IT (IZ r l) (kQ a l) i:=by
 have j:r.H.isEmpty=G:=by
  have hl:=h.rel.mK
  grind
 have V:=h.rel.VY;have ho:=h.rel.jV;have S:=h.bJ;have hm:=h.most;have bad:∀(n:φ) (o:ρ AS),o=M->IT ({r with count:=n},G) o i:=λn o h=>by subst h;exact⟨d,Z⟩
 have c:∀o:ρ AS,o=M->IT (r,G) o i:=λo h=>by subst h;exact⟨d,Z⟩
 unfold IZ;rw[S]
 cases hs:(eJ l (r.I+1)).2
 ·simp only[Bool.not_false,Bool.true_or,ψ];apply c;unfold kQ;rw[h.lb]
  split
  ·rfl
  split
  ·rename_i u;have B:=(Ik (r.I+1) u).1
   split
   ·simp_all [H,x4,AJ]
   ·rfl
  ·rw[H];intro e;rw[x4,x4]at e
   grind [Il,OZ,Zp]
 have J:=Z0 hs;simp only[Bool.not_true,Bool.false_or];by_cases h40:40<=a.s.count
 ·simp_all [kQ,I,fS,xF,ω]
 have b:¬r.most<=r.count:=by omega
 unfold kQ;rw[H h40,h.lb]
 cases u:mR l
 ·have hk:=Zs u hs;obtain⟨W,s2,s3⟩:=Y7 hs hk;have E:=Il (OZ W);have e2:=E.1.symm.trans s2;have T:=E.2 e2;rw[s3]at T;have N:=T.br;rw[W,e2];simp only[xF,ω,Bool.true_and];rw[N]
  cases hq:(eJ l (r.I+1)).1.kind==5&&!a.s.O.isEmpty
  ·simp only[xF,ω,Bool.not_false,ψ];unfold fS;simp only[j,J,xF,ω];have z:((eJ l (r.I+1)).1.kind==10)=G:=T.k10;rw[H b,z];simp only[xF,ω];refine⟨d,Z,⟨?_,h.nm,Z,(Ip _ _).trans h.inn,h.most,h.I,h.pos⟩⟩;exact X8 {(eJ l (r.I+1)).1 with i:=r.i} (.mk (oC (iJ l).1).1 []) (r.count+1) (a.s.count+1) i a.s.inner h.rel f g (by rw[V]) (λk=>.leaf (T.i r.i) (Zw _) (.nil k)) d (by
    grind)
  grind
 ·obtain⟨B1,B2⟩:=Ik (r.I+1) u;obtain⟨t,X,y⟩:=B1.1 hs;rw[B2 t X y,X];simp only[ψ];have O:=AJ (bN 97 t);rw[<- O.1,y,Bool.and_true];rw[H (by simp)];unfold fS;simp only[j,xF,ω];rw[H (by simp),H b,I (by simp)];by_cases h2:2<=D r.O
  ·grind
  ·unfold branch;simp only;rw[H h2,H h2,I (by simp;omega)];refine⟨d,Z,⟨?_,?_,?_,h.inn,h.most,?_,?_⟩⟩
   ·refine Ya {VW.zero with kind:=10,i:=r.i,label:=r.I+1,a:=(dG (bN 97 t)).1} (bV (bN 97 t)).1 (r.count+1) (a.s.count+1) h.rel f Z ?_ (by rw[V]);exact⟨(O.2 y).symm,DO _ y⟩
   ·show a.nm++[YJ (r.I+1)]=(r.O++[r.I+1]).map YJ;rw[h.nm];simp
   ·rfl
   ·show 0<=r.I+1;have:=h.I;omega
   ·intro x q
    rcases List.mem_append.1 q with q|q
    ·exact h.pos x q
    ·rw[x7]at q;have:=h.I;omega
theorem Z1{a:AS}(h:ARel r a)(i:φ)(l:ν σ)(d:r.i=i)(u:0<i):IT (gM r l) (eN a i l) i:=by
 unfold eN
 cases hb:thB l with
 |some b =>
  obtain⟨E,c⟩:=Im hb;have e:gM r l=lJ r b r.i:=by
   unfold gM
   rcases E with rfl|rfl
   ·rw[I c]
   ·rw[H,I c];rw[c,kY,kY,show dI 0=[48]from oP 0 (by decide),show dI 1=[49]from oP 1 (by decide)];decide
  grind [Zz]
 |none =>
  obtain⟨n1,n2⟩:=Zy hb;have e:gM r l=if bJ r != 0&&l==YJ (bJ r)++[58]then fS r {VW.zero with kind:=11,i:=r.i}else IZ r l:=by
   simp_all [gM,IZ,H]
  rw[e];have T:=h.rel.mK;have V:=h.rel.jV;simp only;by_cases hn:a.s.ts=[]
  ·have W:r.H=[]:=List.length_eq_zero_iff.1 (by grind);rw[hn];simp only[List.isEmpty_nil,ψ];have z:∀st,fS r st=(r,G):=λst=>by grind [fS]
   unfold IZ;rw[z,z]
   split
   ·exact⟨d,Z⟩
   ·split<;>exact⟨d,Z⟩
  have g:a.s.ts.isEmpty=G:=by
   grind
  have t:r.H.isEmpty=G:=by
   grind
  rw[g];simp only[xF,ω]
  cases hg:r.O.getLast? with
  |none =>
   have N:r.O=[]:=List.getLast?_eq_none_iff.1 hg;have J:a.s.O=[]:=List.length_eq_zero_iff.1 (by grind)
   simp_all [bJ,List.getLast,H,Iq]
  |some x =>
   have X:=h.pos x (xa hg);have q:bJ r=x:=by grind [bJ]
   have j:a.nm.getLast?=U (YJ x):=by grind [ARel.nm]
   cases hf:a.s.O.getLast? with
   |none =>
    grind
   |some f =>
    rw[q,j];simp only;by_cases hL:l=YJ x++[58]
    ·rw[I (by grind),I hL];unfold fS;simp only[t,xF,ω,beq_self_eq_true,ψ];unfold pZ;rw[hg];refine⟨d,Z,⟨X9 {VW.zero with kind:=11,i:=r.i} x f h.rel Z hg hf,?_,h.lb,(Ip _ _).trans h.inn,h.most,h.I,?_⟩⟩
     ·show a.nm.dropLast=r.O.dropLast.map YJ
      grind [ARel.nm]
     ·intro y S;exact h.pos y ((xb _).subset S)
    simp_all [H,Iq]
namespace R
def lW(a:AS)(i:S):W (W T)->ρ AS×S
 |[]=>(U a,i)
 |x::xs=>match eN a (i+1) x with
  |none=>(M,i+1)
  |some b=>lW b (i+1) xs
end R
theorem Z2(c:W (W T)):∀(r:Rd) (a:AS) (i:S),ARel r a->r.i=i->0<=i ->
  (YS r c).1.i=(lW a i c).2/\match(lW a i c).1 with
   |none=>(YS r c).2=G
   |some b=>(YS r c).2=Y/\ARel (YS r c).1 b:=by
 induction c with
 |nil=>intro r a i h d h0;exact⟨d,Z,h⟩
 |cons x c ih =>
  intro r a i h d h0;have g:ARel {r with i:=r.i+1} a:=⟨⟨h.rel.VY,h.rel.few,h.rel.thr,h.rel.inn,h.rel.pos,h.rel.ths⟩,h.nm,h.lb,h.inn,h.most,h.I,h.pos⟩;obtain⟨j,f⟩:=Z1 g (i+1) x (by grind) (by omega);rw[YS,lW]
  cases e:eN a (i+1) x with
  |none =>
   grind
  |some b =>
   rw[e]at f;rw[f.1]
   grind
namespace R
def tT(x:Lh):Bool:=x.op.toList==jS.toList
def oX:W Th->S
 |[]=>0
 |t::r=>WF tT t.body+2*WF isB t.body+oX r
theorem Z3{a:W Th}(x:Tree)(h:a≠[]):yU a x≠[]:=by
 match a,h with
 |[t],_=>simp[yU]
 |t::u::r,_=>simp[yU]
theorem Ir{s:St}(x:Tree)(h:s.ts≠[]):(put s x).ts≠[]:=by
 grind [put,Z3]
theorem Z4{a b:AS}(c:a.s.ts≠[])(h:kQ a l=U b):b.s.ts≠[]:=by
 grind [kQ,Ir]
theorem It{a b:AS}(h:eN a i l=U b):b.s.ts≠[]:=by
 unfold eN at h
 split at h
 ·split at h
  ·injection h with h;rw[<- h];simp
  ·cases h
 grind [Ir,Z4]
theorem Z5(c:W (W T)):∀(a b:AS) (i:S),(lW a i c).1=U b->(lW a i c).2=i+D c/\(c≠[]->b.s.ts≠[]):=by
 induction c with
 |nil=>intro a b i _;exact⟨by simp[lW],λh=>absurd Z h⟩
 |cons x c ih =>
  grind [lW,It]
theorem Z6(b:W (W T)):∀(a:AS) (i:S),(lW a i b).1=M->i<(lW a i b).2:=by
 induction b with
 |nil=>intro a i h;simp[lW]at h
 |cons x b ih =>
  grind [lW,eN]
def yV(ts:W Th):W Th×S×S :=
 if 0<vD ts then([],3,vD ts)else if !DS ts||decide (50<oX ts)then([],4,0)else(ts,0,0)
def fZ(l:W T):W Th×S×S :=
 if 2000<D l then([],1,0)
 else match lW AS.zero 0 (bF 10 l).dropLast with
  |(M,i)=>([],2,i)
  |(U a,n)=>if(bF 10 l).getLast?≠U []\/n=0\/a.s.O≠[]then([],2,n+1)else yV a.s.ts
end R
theorem Iu:∀l:W VW,iK l=P.VY (λs=>s.kind==4) l+2*P.VY (λs=>s.kind==5) l
 |[]=>Z
 |s::r=>by
  rw[iK,P.VY,P.VY,Iu r]
  grind
def Twin.fe{x:Lh}(t:Twin st x):(x.op.toList==jS.toList)=(st.kind==4):=by
 rw[t.op,jS,bI];have h:=t.kd;have a:st.kind=0\/st.kind=1\/st.kind=2\/st.kind=3\/st.kind=4\/st.kind=5\/st.kind=6\/st.kind=7\/st.kind=8\/st.kind=9:=by omega
 rcases a with e|e|e|e|e|e|e|e|e|e<;>rw[e]<;>decide
theorem Z7{c:W R.Th}{d:W VZ}(h:eZ n c d k):evT d=oX c:=by
 induction h using eZ.ind with
 |nil=>rfl
 |cons f _ _ _ ih =>
  rw[evT,oX,ih,Iu];rw[f.VY (λs=>s.kind==4) tT (λ_ _ t=>t.fe) λst b=>by simp[b] λst b=>by simp[b] λa=>by simp[tT,vC,jS,bI]];rw[<- Ht,Hu f]
theorem Z8(l:ν σ):(eQ l).2=(fZ l).2/\((fZ l).2.1=0->∃k,eZ 0 (fZ l).1 (eQ l).1 k):=by
 unfold eQ fZ;by_cases hl:2000<D l
 ·grind
 rw[H hl,H hl];have E:=Z2 (bF 10 l).dropLast Rd.WB AS.zero 0 Zx rfl (by omega);have S:=Z5 (bF 10 l).dropLast AS.zero;have N:=Z6 (bF 10 l).dropLast AS.zero 0;have Z:(bF 10 l).dropLast=[]->(YS Rd.WB (bF 10 l).dropLast).1.H=[]:=λh=>by rw[h];rfl
 unfold cW;generalize YS Rd.WB (bF 10 l).dropLast=q at E Z⊢;have j:=λz=>S z 0
 clear S;generalize lW AS.zero 0 (bF 10 l).dropLast=o at E j N⊢;obtain⟨o,n⟩:=o;obtain⟨t,c⟩:=E
 cases o with
 |none =>
  grind
 |some s =>
  obtain⟨I,V⟩:=j s rfl;simp only[]at t c I⊢;obtain⟨c,a⟩:=c;simp only[c,ψ];have T:q.1.H=[]↔n=0:=by
   constructor
   ·intro h;have:s.s.ts=[]:=List.length_eq_zero_iff.1 (by rw[<- a.rel.mK,h];rfl)
    grind
   ·intro h;refine Z (List.length_eq_zero_iff.1 ?_);omega
  have h0:0<=n:=by omega
  have J:=a.rel.jV;have x:q.1.O=[]↔s.s.O=[]:=by
   grind
  by_cases hb:(bF 10 l).getLast?≠U []\/n=0\/s.s.O≠[]
  ·grind
  ·have d:¬((bF 10 l).getLast?≠U []\/q.1.O≠[]\/q.1.H=[]):=by
    grind
   rw[H hb,H d];have b:s.s.O=[]:=Classical.byContradiction λh=>hb (xR (xR h))
   obtain⟨k,W⟩:=a.rel.whole b;have g:lV q.1.H q.1.H=vD s.s.ts:=by
    have:=Yf W [] λu f=>(a.rel.thr u f).2
    grind [iX,vD]
   have y:0<=vD s.s.ts:=by rw[<- g];exact Yg _ _ λu f=>(a.rel.thr u f).1
   grind [Yd,Z7,yV]
namespace R
structure SzA(s:St):Prop where
 all:∀t∈s.ts,WV t.body<=40
 sum:Af s.ts+ZY s.O<=s.count
 VY:s.count<=40
 nth:D s.ts<=4
 nop:D s.O<=2
 blk:∀t∈s.ts,t.block=0\/t.block=1
structure NmA(a:AS)(k:φ):Prop where
 len:D a.nm=D a.s.O
 lb0:0<=a.lb
 lbk:a.lb<=k
 nms:∀x∈a.nm,D x<=5
def SzA.zero:SzA AS.zero.s:=⟨by simp[AS.zero,St.zero],by simp[AS.zero,St.zero,Af,ZY],by simp[AS.zero,St.zero],by simp[AS.zero,St.zero],by simp[AS.zero,St.zero],by simp[AS.zero,St.zero]⟩
def NmA.zero:NmA AS.zero 0:=⟨Z,x8 _,x8 _,by simp[AS.zero]⟩
theorem Iv(s:St)(x:Lh)(b:W Tree)(c:s.ts≠[])(g:∀t∈s.ts,WV t.body<=40)(j:Af s.ts+ZY s.O+(1+WV b)<=s.count)(q:s.count<=40)(a:D s.ts<=4)(z:D s.O<=2)(y:∀t∈s.ts,t.block=0\/t.block=1):SzA (put s (.mk x b)):=by
 obtain⟨N,t,e⟩:=mQ s.ts c;have H:=FO b;have I:=SK s.O;unfold put
 cases hop:s.O.isEmpty
 ·obtain⟨fs,f,d⟩:=mQ s.O (by grind);simp only[xF,ω];rw[d,NH];rw[d,EN]at j;refine⟨g,?_,q,a,?_,y⟩
  ·grind [=EN,=JA]
  grind
 ·simp only[ψ];rw[e,LV];rw[e,UJ]at j;rw[e]at g a y;have J:WV (t.body++[.mk x b])<=40:=by rw[JA];omega
  refine⟨λu E=>?_,?_,q,by simpa using a,z,λu E=>?_⟩
  ·grind
  ·grind [UJ,JA]
  grind
theorem Iw(fs:W Fr)(x:Tree):(DE fs x).length=D fs:=by
 match fs with
 |[]=>rfl
 |[t]=>rfl
 |t::u::r=>simp only[DE,List.length_cons,Iw (u::r) x]
theorem Ix(s:St)(x:Tree):(put s x).O.length=D s.O:=by
 grind [put,Iw]
theorem Z9(h:n<10000):(YJ n).length<=5:=by
 grind [Dn,YJ,dI]
theorem Iy{a b:AS}(d:a.s.ts≠[])(hs:SzA a.s)(c:NmA a k)(q:k+1<10000)(h:kQ a l=U b):SzA b.s/\NmA b (k+1):=by
 have h0:=c.lb0;have j:=c.lbk;unfold kQ at h
 split at h
 ·cases h
 rename_i f
 split at h
 ·split at h
  ·split at h
   ·rename_i g;rw[x4,η]at g;injection h with h;rw[<- h]
    refine⟨⟨hs.all,?_,?_,hs.nth,?_,hs.blk⟩,⟨?_,?_,?_,?_⟩⟩
    ·show Af a.s.ts+ZY (a.s.O++[_])<=a.s.count+1;have:=hs.sum
     grind [=EN,WV,lD]
    ·grind
    ·grind
    ·grind [NmA.len]
    ·show 0<=a.lb+1;omega
    ·grind
    grind [NmA.nms,Z9]
   ·cases h
  ·cases h
 ·split at h
  ·injection h with h;rw[<- h]
   refine⟨Iv _ _ _ d hs.all ?_ ?_ hs.nth hs.nop hs.blk,⟨c.len.trans (Ix {a.s with count:=a.s.count+1} (.mk (oC (iJ l).1).1 [])).symm,h0,by grind,c.nms⟩⟩
   ·have:=hs.sum
    grind [WV,lD]
   grind
  ·cases h
theorem Iz{a b:AS}(hs:SzA a.s)(j:NmA a k)(hk:k+1<10000)(h:eN a i l=U b):SzA b.s/\NmA b (k+1):=by
 have h0:=j.lb0;have V:=j.lbk;unfold eN at h
 split at h
 ·rename_i T H
  split at h
  ·rename_i u;injection h with h;rw[<- h]
   rw[x4]at u;have N:a.s.O=[]:=List.isEmpty_iff.1 u.1;have W:=hs.nth;have z:¬D a.s.ts=4:=by grind
   refine⟨⟨λt d=>?_,?_,by grind,by grind,hs.nop,λt d=>?_⟩,⟨j.len,h0,by grind,j.nms⟩⟩
   ·rcases List.mem_append.1 d with d|d
    ·exact hs.all t d
    grind [WV,lD]
   ·grind [ZY,UJ,WV,lD]
   ·rcases List.mem_append.1 d with d|d
    ·exact hs.blk t d
    ·rw[x7]at d;subst d;exact(Im H).1
  ·cases h
 ·split at h
  ·cases h
  ·rename_i c;have J:a.s.ts≠[]:=λe=>c (by grind)
   split at h
   ·rename_i f n q hm
    split at h
    ·injection h with h;rw[<- h]
     obtain⟨fs,g,e⟩:=mQ a.s.O (by grind);rw[e]at q;simp at q;subst q;have y:=hs.sum;have E:=hs.nop;have I:=j.len;rw[e,EN]at y;rw[e]at E I;have X:a.s.O.dropLast=fs:=by grind
     refine⟨?_,⟨?_,h0,by grind,λx S=>j.nms x ((xb _).subset S)⟩⟩
     ·grind [Iv,SzA.all,SzA.VY,SzA.nth,SzA.blk]
     grind [Ix]
    grind [Iy]
   grind [Iy]
end R
