import Derived.WalkSpells
import Derived.Deep.Draws
import Derived.Laws.AppendOwnNone
import Derived.Laws.IdiomStrings
import Derived.Test.YteekngiepnnmjaaGreatDoorV08
import Derived.Test.YteekngiepnnmjaaGreatDoorV09
import Derived.Test.YteekngiepnnmjaaGreatDoorV06
set_option linter.all false
set_option maxHeartbeats 0
namespace Go.Proofs.YteekngiepnnmjaaGreatDoor
open Go Go.RowKit Go.Proofs.Tryz P Q R
open scoped Classical
set_option maxRecDepth 1000000
open _root_ renaming List->O,List->σ,UInt8->S,ByteArray->ι,Bool->u,Nat->s,Nat->ρ,Int->H,Int->τ,if_true->η,if_false->γ,beq_eq_false_iff_ne->ε,absurd->θ
open Go renaming Value->r,Value->ω,World->ξ,Calls->π
open Go.RowKit renaming Below->ψ,intOf->δ
open Go.Proofs.Tryz renaming prog->ζ
variable {v:ω}{w w':ξ}{B cap n:ρ}{vs:σ ω}{Fs:σ (σ ρ)}{F:σ ρ}
open List renaming length->y
open _root_.Array renaming size->W
open Go.World renaming heap->K
open Option renaming some->Y,none->T
open Go.Value renaming string->C,int->I,slice->D
open Bool renaming true->E,false->z
open Go.Ending renaming returned->U
open Go.IntKind renaming i64->N
open Go.Obj renaming cells->A
open UInt8 renaming ofNat->xF
open Nat renaming le_refl->xR,zero_le->x9
open Go.Lib renaming decDigits->xW
open List renaming cons_append->x1,getElem?_append_left->x2,mem_flatten->x3,isEmpty_nil->x5,getElem_mem->xa,map_cons->xc,nodup_append->xd,getElem?_append_right->xe,mem_append->xg,take_succ_eq_append_getElem->xi,take_of_length_le->xj
open Bool renaming false_eq_true->x4,true_or->x6,and_true->x7
open Go.World renaming ownsRow_nil->x8
open _root_.ByteArray renaming toList->xb
open Option renaming mem_toList->xh
namespace P
theorem Gp(c:S)(n:H)(h:(mC c n).2=E):0<=(mC c n).1/\(mC c n).1<n:=by
 grind [mC]
theorem V1(l:O S)(h:(cX l).2=E):0<=(cX l).1/\(cX l).1<4:=by
 unfold cX at h⊢
 split at h
 ·split at h
  ·simp_all [if_pos,Gp]
  ·simp at h
 ·simp at h
def DO(l:O S)(h:(dG l).2=E):0<=(dG l).1.n/\(dG l).1.n<4:=by
 unfold dG at h⊢
 split at h
 ·exact Gp _ _ h
 ·exact V1 _ h
def DQ:IG ZD.zero:=⟨by decide,by decide⟩
def nE(s:VW):u:=s.kind != 11
def iE(s:VW):u:=s.kind==11
def iB(s:VW):u:=s.kind==10
theorem V2{b:O VZ}(h:b≠[])(s:VW):∃a t,b=a++[t]/\iQ b s=a++[{t with S:=t.S++[s]}]:=by
 rcases List.eq_nil_or_concat b with c|⟨a,t,rfl⟩
 ·exact θ c h
 grind [EC]
theorem Gq{p q:VW->u}(h:∀s,p s=E->q s=E):∀l,VY p l<=VY q l
 |[]=>by simp[VY]
 |s::l=>by
  have:=Gq h l;simp only[VY]
  grind
theorem Gr:∀l:O VW,(y l:H)=VY nE l+VY iE l
 |[]=>by simp[VY]
 |s::l=>by
  have:=Gr l;simp only[VY,nE,iE,List.length_cons]
  grind
end P
theorem V3(B:s)(w:ξ):eM (w.alloc (A #[D T 0 0,I N 40,I N 0,I N 0,D T 0 0] 125)) B (W (K w)) Rd.WB:=by
 refine⟨D T 0 0,D T 0 0,[],?_,x8 _ _ _ _,x8 _ _ _ _,trivial⟩
 grind [heap_alloc_new,Rd.WB]
theorem Gs(s:ι)(w:ξ)(hs:s.size<=8192)(hT:Tab w):
  π ζ 28 #[C s] w λe w'=>∃tv,e=U (.tuple #[.agg #[tv],I N (cW s.toList).2])/\gF w' (W (K w)) tv (cW s.toList).1/\ψ (W (K w)) w w':=by
 go_in;go_wp2_with fail;refine(P1 40 _).mono ?_;rintro e w0 ⟨rfl,t⟩;have aJ:W (K w)+1<=W (K w0):=by have:=t.size;simpa using this
 have l:w0.heap[W (K w)]?=Y (A #[D T 0 0] 40 (0,0)):=by
  rw[t.block _ (by simp)];exact heap_alloc_new w _
 obtain⟨z0,z1,z2⟩:=qR l;have ak:=aD l;have G:aC (ψ (W (K w)) w w0):=(bB).trans (t.mono (by simp));clear l t;go_wp2_with fail;refine(P0 s _ hs).mono ?_;rintro e w1 ⟨gl,cl,rows,last,rfl,HW,(ar:aC _),aR,aQ,az,ad,(au:aC _),g⟩;have ay:=aD ((V3 (W (K w1)) w0).X g);have m:w1.heap[W (K w)]?=Y (A #[D T 0 0] 40 (0,0)):=by
  rw[g.block _ (by simp;omega),Below.heap_alloc _ _ _ (by omega)];exact ak
 have al:=aD m;have J:aC (ψ (W (K w)) w w1):=(G.alloc (by omega) _).trans (g.mono (by simp;omega));have aK:W (K w0)+1<=W (K w1):=by have:=g.size;simpa using this
 have aH:y rows<9000:=by
  omega
 clear m g z0 z1 z2;go_wp2;go_loopw[18] (λi wr=>∃k:ρ,∃r:Rd,k<=y rows/\i=I N k/\aC (LoopA rows k r)/\aC (eM wr (W (K w1)) (W (K w0)) r)/\aC (XO wr gl 0 rows)/\
   aC (wr.heap[W (K w)]?=Y (A #[D T 0 0] 40 (0,0)))/\W (K w1)<=W (K wr)/\ψ (W (K w)) w wr) λi _=>y rows-(δ i).toNat
 case atStart=>exact⟨0,Rd.WB,x9 _,Z,Rx _,ay,ar,al,xR _,J⟩
 case round =>
  obtain⟨k,r,hk,rfl,L,HR,ac,HB,aE,b⟩:=hrel;have a:=L.good.good;have x:=L.good.O;have q:=L.lin;have aL:=L.good.cn;have ag:=(Dj x a.ifs0).1;have aG:=(Dj x a.ifs0).2;have aN:=a.ifs1;have aI:=aD x;clear x;by_cases hlt:k<y rows
  ·have ai:rows[k]?=Y rows[k]:=List.getElem?_eq_getElem hlt;have ax:=ac.o k rows[k] ai;simp only[Nat.zero_add]at ax;have aF:=au.o rows[k] (xa hlt);have aM:gl<W (K wr):=by omega
   have aO:=lI hlt;have av:=aD λh=>Ry L hlt h;have an:=aD λh=>Rz HW L hlt h;generalize rows[k]=row at*;have ab:=aD q;clear ai q
   cases ht:(gM {r with i:=r.i+1} row.toList).2
   all_goals
    have aB:=aD (HR.FC ((k:H)+1));go_wp2_with fail;refine(Tf (W (K w1)) (W (K w0)) k {r with i:=(k:H)+1} row _ aB aF ⟨a.few,a.stm⟩ (by omega) aE (by have:=a.O;simp;omega) a.ifs0 (by simp;omega) a.VY (by simp;omega) ag (by have h9:bJ {r with i:=(k:H)+1}=bJ r:=Z;omega) (hT.X b)).mono ?_;rintro e w3 ⟨he,V,j⟩;have eL:({r with i:=(k:H)+1}:Rd)={r with i:=r.i+1}:=by rw[ab.o]
    rw[eL]at he V;rw[ht]at he;subst he;have c:w3.heap[W (K w)]?=Y (A #[D T 0 0] 40 (0,0)):=(j.block _ (by omega) (by omega)).trans HB;obtain⟨z0,z1,z2⟩:=qR c;have aa:=aD c;have f:aC (ψ (W (K w)) w w3):=b.trans (j.X (by omega) (by omega));have aw:aC (XO w3 gl 0 rows):=ac.kept λ_=>j.block gl az (by simp at ad;omega);have aS:=j.size;have aq:=aD V;clear c j V eL;go_wp2
   ·rw[an.o ht];refine LM (p:=2) (u:=3) (W (K w)) (D T 0 0) _ (by kernel_rfl) Z Z (by exact cI aa 0 _) Z ⟨_,Z,gF.nil _ _,?_⟩;exact(f).setCell (xR _) _
   ·go_roundw;exact⟨k+1,_,by omega,by go_num,av ht,aq,aw,aa,by omega,f⟩;simp[δ];omega
  ·have aA:k=y rows:=by omega
   subst aA;have HE:=aD (R5 HW L);have aj:y r.H<6:=by have:=a.few;omega
   have af:y r.O<10:=by have:=a.O;omega
   obtain⟨z0,z1,z2⟩:=qR HB;have aP:¬(y rows:H)<(y rows:H):=by omega
   clear q a
   cases he:last.toList.isEmpty
   ·go_wp2;rw[kS HE,if_pos (Or.inl he)];refine LM (p:=2) (u:=3) (W (K w)) (D T 0 0) _ (by kernel_rfl) Z Z (by exact cI HB 0 _) Z ⟨_,Z,gF.nil _ _,?_⟩;exact b.setCell (xR _) _
   cases hw:decide (0<y r.H)&&decide (y r.O=0)
   ·have ah:last.toList.isEmpty=z\/y r.H=0\/0<y r.O:=by
     grind
    have ap:=aD ah;clear ah;go_wp2_with(first|(go_at_call 48;refine(Ca _ _ r _ HR aj af).mono ?_;rintro e w' ⟨rfl,rfl⟩;rw[hw]));rw[kS HE,if_pos ap.o];refine LM (p:=2) (u:=3) (W (K w)) (D T 0 0) _ (by kernel_rfl) Z Z (by exact cI HB 0 _) Z ⟨_,Z,gF.nil _ _,?_⟩;exact b.setCell (xR _) _
   ·have ae:¬(last.toList.isEmpty=z\/y r.H=0\/0<y r.O):=by
     grind
    have ao:=aD ae;clear ae;obtain⟨tv,ov,vs,(M:aC _)⟩:=HR.o;obtain⟨ta,tc,oa,oc,rfl,rfl⟩:=M.nN;go_wp2_with(first|(go_at_call 48;refine(Ca _ _ r _ HR aj af).mono ?_;rintro e w' ⟨rfl,rfl⟩;rw[hw])|(go_at_call 49;refine(P2 _ _ r _ _ vs _ M).mono ?_;rintro e w4 ⟨rfl,S⟩;have d:=(S.block _ (by omega)).trans HB;obtain⟨y0,y1,y2⟩:=qR d;have am:=aD d;clear d));rw[kS HE,if_neg ao.o];refine LM (p:=2) (u:=3) (W (K w)) _ _ (by kernel_rfl) Z Z (by exact cI am 0 _) Z ⟨_,Z,Pz M S (by omega) _,(b.trans (S.mono (by omega))).setCell (xR _) _⟩
theorem Gt{b:Func}{p q u v:Tmp}(h:b.results=#[.tmp p,.tmp q,.tmp u,.tmp v])(a:Array r)(c:Program)(w:ξ):
  (results b a).run c w=.ok (.tuple #[a.getD p undef,a.getD q undef,a.getD u undef,a.getD v undef]) w:=by
 simp_all [results]
theorem AR(v l:O S)(a:O (O S))(h:bF 32 l=a):inn v l=gW v 0 a:=by grind [inn]
theorem Gu(v:O S):inn v dM=if v=[120]then 0 else if v=[121]then 1 else if v=[122]then 2 else -1:=by
 rw[AR v dM [[120],[121],[122]] (by decide)];by_cases h1:v=[120]
 ·subst h1;decide
 by_cases h2:v=[121]
 ·subst h2;decide
 by_cases h3:v=[122]
 ·subst h3;decide
 simp_all [gW,Ne.symm]
theorem UG(v:O S):(jI v).2=decide (0<=inn v dM)/\((jI v).2=E->(jI v).1=inn v dM):=by
 grind [Gu,jI]
theorem BT(v:O S):inn v regs=if v=[114,48]then 0 else if v=[114,49]then 1 else if v=[114,50]then 2 else if v=[114,51]then 3 else -1:=by
 rw[AR v regs [[114,48],[114,49],[114,50],[114,51]] (by decide)];by_cases h1:v=[114,48]
 ·subst h1;decide
 by_cases h2:v=[114,49]
 ·subst h2;decide
 by_cases h3:v=[114,50]
 ·subst h3;decide
 by_cases h4:v=[114,51]
 ·subst h4;decide
 simp_all [gW,Ne.symm]
theorem V4(v:O S):inn v uQ=if v=[48]then 0 else if v=[49]then 1 else if v=[50]then 2 else if v=[51]then 3 else -1:=by
 rw[AR v uQ [[48],[49],[50],[51]] (by decide)];by_cases h1:v=[48]
 ·subst h1;decide
 by_cases h2:v=[49]
 ·subst h2;decide
 by_cases h3:v=[50]
 ·subst h3;decide
 by_cases h4:v=[51]
 ·subst h4;decide
 simp_all [gW,Ne.symm]
theorem Gv(c:S):(mC c 4).2=E↔c=48\/c=49\/c=50\/c=51:=by
 have:∀c:Fin 256,(mC (xF c.1) 4).2=E↔xF c.1=48\/xF c.1=49\/xF c.1=50\/xF c.1=51:=by decide +kernel
 have h:=this ⟨c.toNat,UInt8.toNat_lt c⟩;simpa using h
theorem BQ(v:O S):(cX v).2=decide (0<=inn v regs)/\((cX v).2=E->(cX v).1=inn v regs):=by
 rw[BT];by_cases h1:v=[114,48]
 ·subst h1;decide
 by_cases h2:v=[114,49]
 ·subst h2;decide
 by_cases h3:v=[114,50]
 ·subst h3;decide
 by_cases h4:v=[114,51]
 ·subst h4;decide
 have a:(cX v).2=z:=by
  cases hr:(cX v).2
  ·rfl
  ·exfalso;unfold cX at hr
   grind [Gv]
 grind
def vM(o:ZD):H:=if o.VX then -1-o.n else o.n
theorem AJ(v:O S):(dG v).2=(bV v).2/\((dG v).2=E->vM (dG v).1=(bV v).1):=by
 by_cases h1:v=[114,48]
 ·subst h1;decide
 by_cases h2:v=[114,49]
 ·subst h2;decide
 by_cases h3:v=[114,50]
 ·subst h3;decide
 by_cases h4:v=[114,51]
 ·subst h4;decide
 by_cases k1:v=[48]
 ·subst k1;decide
 by_cases k2:v=[49]
 ·subst k2;decide
 by_cases k3:v=[50]
 ·subst k3;decide
 by_cases k4:v=[51]
 ·subst k4;decide
 have a:(dG v).2=z:=by
  cases hr:(dG v).2
  ·rfl
  ·exfalso;unfold dG at hr
   grind [Gv,BQ,BT]
 grind [bV,BT,V4]
theorem Gw(n:s)(h:n<10):xW n=[xF (48+n)]:=by
 grind [xW]
theorem OL(n:s)(h:¬n<10):xW n=xW (n/10)++[xF (48+n%10)]:=by
 grind [xW]
def SU(w:ξ)(x:H)(b:0<=x)(h:x<256):(convert 102 9 (VV (W (K w)) 1 1)).run ζ (w.alloc (A #[I .u8 x] 5))=.ok (C ⟨#[xF x.toNat]⟩) (w.alloc (A #[I .u8 x] 5)):=by
 refine run_convert_bytes_back (P:=ζ) (w.alloc (A #[I .u8 x] 5)) 102 9 5 ⟨W (K w),0,T⟩ 1 [xF x.toNat] underlying102 underlying5 underlying9 ?_;intro j a
 match j,a with
 |0,_ =>
  simp[Addr.add];omega
theorem Gx(n:H)(w:ξ)(a:0<=n)(h:n<10):
  π ζ 14 #[I N n] w λe w'=>∃s,e=U (C s)/\jZ 1 s (dI n)/\ψ (W (K w)) w w':=by
 have b:=SU w (48+n%10) (by omega) (by omega);go_in;go_wp2;go_ret;refine⟨_,Z,⟨?_,by simp[qA]⟩,bB⟩
 grind [bI,dI,Gw]
theorem V5(n:H)(w:ξ)(f:10<=n)(h:n<100):
  π ζ 14 #[I N n] w λe w'=>∃s,e=U (C s)/\jZ 2 s (dI n)/\ψ (W (K w)) w w':=by
 have g:=SU w (48+n%10) (by omega) (by omega);have a:dI n=dI (n/10)++[xF (48+n%10).toNat]:=by
  grind [dI,OL]
 have c:=aD a;clear a;go_in;go_wp2_with(first|(go_at_call 14;refine(Gx (n/10) _ (by omega) (by omega)).mono ?_;rintro e j ⟨s,rfl,b,d⟩;have i:=b.size));go_ret;refine⟨_,Z,⟨?_,?_⟩,(bB).trans (d.mono (by simp))⟩
 ·rw[tZ,b.1,c.o,bI]
 grind [qA]
def V6(n:H)(w:ξ)(b:0<=n)(h:n<100):
  π ζ 14 #[I N n] w λe w'=>∃s,e=U (C s)/\jZ 2 s (dI n)/\ψ (W (K w)) w w':=by
 by_cases h1:n<10
 ·refine(Gx n w b h1).mono ?_;rintro e w' ⟨s,rfl,a,c⟩;exact⟨s,Z,⟨a.1,by have:=a.2;omega⟩,c⟩
 ·exact V5 n w (by omega) h
namespace R
def QN(a b:O S):s->O S->O S
 |0,_=>[]
 |n+1,l =>
  if decide (y a<=y l)&&l.take (y a)==a&&decide (0<y l)then b++QN a b n (l.drop (y a))
  else match l with
   |[]=>[]
   |x::r=>x::QN a b n r
def aqr:O S:=[97,99,113,114,101,108]
def Gy:O S:=[97,99,113,95,114,101,108]
def blk:O S:=[98,108,111,99,107]
def cta:O S:=[99,116,97]
def dvc:O S:=[100,101,118,105,99,101]
def gpu:O S:=[103,112,117]
def OB(a b s:O S):O S:=QN a b (y s+1) s
def V7(ord scope:O S):O S :=
 if ord==weak then OB aqr Gy ord else OB aqr Gy ord++[46]++OB dvc gpu (OB blk cta scope)
end R
def oW:O S:=[119,101,97,107]
def oR:O S:=[114,101,108,97,120,101,100]
def oA:O S:=[97,99,113,117,105,114,101]
def oL:O S:=[114,101,108,101,97,115,101]
def oQ:O S:=[97,99,113,114,101,108]
def oS:O S:=[115,99]
theorem AE(o:O S)(h:(P.order o).2=E):o=oW\/o=oR\/o=oA\/o=oL\/o=oQ\/o=oS:=by
 unfold P.order at h;by_cases h1:o=oW
 ·exact .inl h1
 by_cases h2:o=oR
 ·exact .inr (.inl h2)
 by_cases h3:o=oA
 ·grind
 by_cases h4:o=oL
 ·grind
 by_cases h5:o=oQ
 ·grind
 by_cases h6:o=oS
 ·grind
 exfalso;simp only[oW,oR,oA,oL,oQ,oS]at h1 h2 h3 h4 h5 h6
 grind
theorem V8(o:O S)(a:¬o=oW)(b:¬o=oR)(c:¬o=oA)(d:¬o=oL)(e:¬o=oQ)(f:¬o=oS):(P.order o).2=z:=by
 grind [AE]
theorem Wa(s:O S):(scope s).2=decide (0<=inn s DP)/\((scope s).2=E->s=[98,108,111,99,107]\/s=[100,101,118,105,99,101]):=by
 have e:bF 32 DP=[[98,108,111,99,107],[100,101,118,105,99,101]]:=by decide
 rw[AR s DP _ e];by_cases h1:s=[98,108,111,99,107]
 ·subst h1;decide
 by_cases h2:s=[100,101,118,105,99,101]
 ·subst h2;decide
 simp_all [scope,gW,Ne.symm]
def zR(kind:H)(orders:O S):Prop:=∀o,((P.order o).2&&YV kind (P.order o).1)=decide (0<=inn o orders)
theorem IY(a:H)(b:O S)(c:O (O S))(q:bF 32 b=c)(d:∀x∈c,x=oW\/x=oR\/x=oA\/x=oL\/x=oQ\/x=oS)(m:((P.order oW).2&&YV a (P.order oW).1)=decide (0<=gW oW 0 c))(i:((P.order oR).2&&YV a (P.order oR).1)=decide (0<=gW oR 0 c))(e:((P.order oA).2&&YV a (P.order oA).1)=decide (0<=gW oA 0 c))(f:((P.order oL).2&&YV a (P.order oL).1)=decide (0<=gW oL 0 c))(g:((P.order oQ).2&&YV a (P.order oQ).1)=decide (0<=gW oQ 0 c))(j:((P.order oS).2&&YV a (P.order oS).1)=decide (0<=gW oS 0 c)):zR a b:=by
 intro o;rw[AR o b c q];by_cases h1:o=oW
 ·subst h1;exact m
 by_cases h2:o=oR
 ·subst h2;exact i
 by_cases h3:o=oA
 ·subst h3;exact e
 by_cases h4:o=oL
 ·subst h4;exact f
 by_cases h5:o=oQ
 ·subst h5;exact g
 by_cases h6:o=oS
 ·subst h6;exact j
 rw[V8 o h1 h2 h3 h4 h5 h6];have:∀(l:O (O S)) (k:H),(∀x∈l,x=oW\/x=oR\/x=oA\/x=oL\/x=oQ\/x=oS)->gW o k l=-1:=by
  intro l
  induction l with
  |nil=>intro k _;rfl
  |cons x r ih =>
   intro k s;have p:(x==o)=z:=by
    cases hb:x==o
    ·rfl
    simp_all
   grind [gW]
 rw[this c 0 d];rfl
def Wb:zR 4 R.oFence:=IY 4 R.oFence [oQ,oS] (by decide) (by decide) (by decide) (by decide) (by decide) (by decide) (by decide) (by decide)
def Wc:zR 1 R.oStore:=IY 1 R.oStore [oW,oR,oL] (by decide) (by decide) (by decide) (by decide) (by decide) (by decide) (by decide) (by decide)
def We:zR 0 R.oLoad:=IY 0 R.oLoad [oW,oR,oA] (by decide) (by decide) (by decide) (by decide) (by decide) (by decide) (by decide) (by decide)
theorem Wf:zR 2 tB:=IY 2 tB [oR,oA,oL,oQ] (by decide) (by decide) (by decide) (by decide) (by decide) (by decide) (by decide) (by decide)
theorem Wg:zR 3 tB:=IY 3 tB [oR,oA,oL,oQ] (by decide) (by decide) (by decide) (by decide) (by decide) (by decide) (by decide) (by decide)
def ordW(o:H):O S:=if o==0 then oW else if o==1 then oR else if o==2 then oA else if o==3 then oL else if o==4 then oQ else oS
def scW(o s:H):O S:=if o==0 then[]else if s==0 then[98,108,111,99,107]else[100,101,118,105,99,101]
structure OkOS(o s:τ):Prop where
 o0:0<=o
 o1:o<6
 s0:s=0\/s=1
 w:o=0->s=0
structure Same(st st':VW)(x x':Lh):Prop where
 suf:A0 st'=46::V7 x'.ord.toList x'.scope.toList
 sc:(st'.q==5)=(x'.ord.toList==oS)
 stm:st'={st with q:=st'.q,scope:=st'.scope}
 ln:x'={x with ord:=x'.ord,scope:=x'.scope}
 od:x'.ord.toList=ordW st'.q
 sp:x'.scope.toList=scW st'.q st'.scope
 ok:OkOS st'.q st'.scope
theorem ME(c:VW)(x:Lh)(a:O S)(t:zR c.kind a)(j:x.scope.toList=[])(k:c.scope=0)(i:O ι):
  (gQ c (i.map xb)).2=(how x a i).2/\((how x a i).2=E->Same c (gQ c (i.map xb)).1 x (how x a i).1):=by
 match i with
 |[]=>exact⟨Z,λh=>by simp[how]at h⟩
 |o::r =>
  have p:=t o.toList;rw[xc]
  cases hk:decide (0<=inn o.toList a)
  ·rw[hk]at p;have q:gQ c (o.toList::r.map xb)=(c,z):=by
    simp_all [gQ]
   rw[q];have u:inn o.toList a<0:=by grind
   cases hw:o.toList==weak
   ·grind [Ds]
   grind [PW]
  ·rw[hk]at p;obtain⟨f,l⟩:(P.order o.toList).2=E/\YV c.kind (P.order o.toList).1=E:=by simpa using p
   cases hw:o.toList==weak
   ·have g:((P.order o.toList).1==0)=z:=by
     have b:¬o.toList=oW:=by intro e;rw[e]at hw;revert hw;decide
     rcases AE _ f with h|h|h|h|h|h
     ·exact θ h b
     all_goals(rw[h];decide)
    match r with
    |[]=>rw[PP x a o [] hw (by simp)];simp only[List.map_nil];rw[Nq c _ f l g];simp
    |[s] =>
     rw[Dt x a o s hw (of_decide_eq_true hk)];simp only[xc,List.map_nil];rw[Nr c _ _ f l g];have d:=Wa s.toList;refine⟨d.1,λh=>?_⟩;rw[<- d.1]at h;refine⟨?_,?_,Z,Z,?_,?_,?_⟩
     ·have b:¬o.toList=oW:=by intro e;rw[e]at hw;revert hw;decide
      unfold A0;simp only[g]
      rcases AE _ f with e|e|e|e|e|e
      ·exact θ e b
      all_goals(rcases d.2 h with e2|e2<;>(simp only[e,e2];decide))
     ·rcases AE _ f with e|e|e|e|e|e<;>(simp only[e];decide)
     ·rcases AE _ f with e|e|e|e|e|e<;>(simp only[e];decide)
     ·have b:¬o.toList=oW:=by intro e;rw[e]at hw;revert hw;decide
      rcases AE _ f with e|e|e|e|e|e
      ·exact θ e b
      all_goals(rcases d.2 h with e2|e2<;>(simp only[e,e2];decide))
     ·have b:¬o.toList=oW:=by intro e;rw[e]at hw;revert hw;decide
      rcases AE _ f with e|e|e|e|e|e
      ·exact θ e b
      all_goals(rcases d.2 h with e2|e2<;>(simp only[e,e2];exact⟨by decide,by decide,by decide,by decide⟩))
    |_::_::_=>rw[PP x a o _ hw (by simp)];simp only[xc];rw[Ns c _ _ _ _ f l g];simp
   ·have m:o.toList=oW:=by simpa[weak,oW]using hw
    have G:(P.order o.toList).1=0:=by rw[m];decide
    rw[PW x a o r hw,Np c _ _ f l G];refine⟨by rw[hk];simp,λ_=>⟨?_,?_,Z,Z,?_,?_,?_⟩⟩
    ·unfold A0;simp only[m,j,k];decide
    ·simp only[m];decide
    ·simp only[m];decide
    ·simp only[j];rfl
    ·simp only[k];exact⟨by decide,by decide,by decide,λ_=>Z⟩
namespace R
def qQ:O S:=[97,100,100]
def qZ:O S:=[115,119,97,112]
def XG(x:Lh):u:=x.op.toList==mG.toList||x.op.toList==qQ||x.op.toList==qZ
def XI(x:Lh):u:=x.op.toList==mD.toList||x.op.toList==qQ||x.op.toList==qZ
def XC(x:Lh):u:=x.op.toList==jS.toList&&x.ord.toList==oS
def isB(x:Lh):u:=x.op.toList==mP.toList
def sIf:ι:=⟨#[105,102]⟩
def gH(a:H):Lh:={x0 with op:=sIf,a:=a}
structure Tree where
 mk::
 x:Lh
 body:σ Tree
structure Th where
 block:τ
 body:σ Tree
 row:τ
structure Fr where
 l:σ Tree
 a:τ
structure St where
 ts:σ Th
 O:σ Fr
 count:τ
 inner:τ
def St.zero:St:=⟨[],[],0,0⟩
def yU:O Th->Tree->O Th
 |[],_=>[]
 |[t],s=>[{t with body:=t.body++[s]}]
 |t::u::r,s=>t::yU (u::r) s
def DE:O Fr->Tree->O Fr
 |[],_=>[]
 |[t],s=>[{t with l:=t.l++[s]}]
 |t::u::r,s=>t::DE (u::r) s
theorem LV(c:O Th)(t:Th)(s:Tree):yU (c++[t]) s=c++[{t with body:=t.body++[s]}]:=by
 induction c with
 |nil=>rfl
 |cons a r ih=>cases r with
  |nil=>rfl
  |cons b q=>simpa[yU]using ih
theorem NH(c:O Fr)(t:Fr)(s:Tree):DE (c++[t]) s=c++[{t with l:=t.l++[s]}]:=by
 induction c with
 |nil=>rfl
 |cons a r ih=>cases r with
  |nil=>rfl
  |cons b q=>simpa[DE]using ih
def put(s:St)(x:Tree):St:=if s.O.isEmpty then{s with ts:=yU s.ts x}else{s with O:=DE s.O x}
def nA(l:O S):ι:=⟨l.toArray⟩
theorem yN(l:O S):(nA l).toList=l:=by rw[nA,bI]
theorem CV(b:ι):nA b.toList=b:=by
 rw[nA,xB]
def WF(p:Lh->u):O Tree->H
 |[]=>0
 |⟨x,b⟩::r=>(if p x then 1 else 0)+WF p b+WF p r
def jP(p:Lh->u)(t:Tree):H:=(if p t.x then 1 else 0)+WF p t.body
theorem lD(p:Lh->u):WF p []=0:=by simp only[WF]
theorem mZ(p:Lh->u)(t:Tree)(r:O Tree):WF p (t::r)=jP p t+WF p r:=by cases t;simp only[WF,jP]
def rT(f0 f1:H):O Th->H
 |[]=>0
 |t::r =>
  let n:=WF isB t.body
  let f:=if t.block==0 then f0 else f1
  let g:=if f<0 then n else f
  if g != n||decide (2<n)then t.row
  else if t.block==0 then rT g f1 r else rT f0 g r
def vD(ts:O Th):H:=rT (-1) (-1) ts
def eY(p:Lh->u):O Th->H
 |[]=>0
 |t::r=>WF p t.body+eY p r
def DS(ts:O Th):u:=decide (eY XG ts<=4)&&decide (eY XI ts<=3)&&decide (eY XC ts<=3)
def bN(c:S):O S->O S
 |[a]=>if c=97 then[a]else[63]
 |[a,b,d]=>if c=118 then if a=91/\d=93 then[b]else[63]else if a=37 then[b,d]else[63]
 |_=>[63]
end R
theorem ba3(t:ι)(h:t.size=3):∃a b d,t=⟨#[a,b,d]⟩:=by
 have c:y t.toList=3:=by grind [cV]
 match ht:t.toList,c with
 |[a,b,d],_=>exact⟨a,b,d,by rw[<- CV t,ht];rfl⟩
theorem ba1(t:ι)(h:t.size=1):∃a,t=⟨#[a]⟩:=by
 have b:y t.toList=1:=by grind [cV]
 match ht:t.toList,b with
 |[a],_=>exact⟨a,by rw[<- CV t,ht];rfl⟩
def Wh(c:S)(l:O S)(b:y l≠3)(a:y l≠1):bN c l=[63]:=by
 match l,b,a with
 |[],_,_=>rfl
 |[_,_],_,_=>rfl
 |_::_::_::_::_,_,_=>rfl
theorem Wi(t:ι)(c:S)(w:ξ):
  π ζ 15 #[C t,I .u8 (c.toNat:H)] w λe w'=>∃r,e=U (C r)/\r.toList=bN c t.toList/\r.size<=2/\w'=w:=by
 have g:∀(x:S) (n:s),n<256->x≠xF n->((x.toNat:H)==(n:H))=z:=λx n k h=>by
  rw[ε];exact λe=>h (by rw[<- UInt8.ofNat_toNat (x:=x)];congr 1;omega)
 by_cases h3:t.size=3
 ·obtain⟨a,b,d,rfl⟩:=ba3 t h3;clear h3;have f:(⟨#[a,b,d]⟩:ι).toList=[a,b,d]:=bI #[a,b,d];by_cases c1:c=118
  ·subst c1;by_cases a1:a=91
   ·subst a1;by_cases d1:d=93
    ·subst d1;go_in;go_wp2;go_ret;exact⟨_,Z,by rw[mX,f];rfl,by rw[<- cV,mX,f];simp,Z⟩
    ·have q:((((⟨#[91,b,d]⟩:ι)[2]'(by show 2<3;omega)).toNat:H)==93)=z:=g d 93 (by decide) d1;go_in;go_wp2;go_ret;exact⟨_,Z,by grind [bN,bI],by decide,Z⟩
   ·have q:((((⟨#[a,b,d]⟩:ι)[0]'(by show 0<3;omega)).toNat:H)==91)=z:=g a 91 (by decide) a1;go_in;go_wp2;go_ret;exact⟨_,Z,by grind [bN,bI],by decide,Z⟩
  ·have j:((c.toNat:H)==118)=z:=g c 118 (by decide) c1;have p:((c.toNat:H) != 118)=E:=by grind
   by_cases a1:a=37
   ·subst a1;go_in;go_wp2;go_ret;exact⟨_,Z,by grind [mX,bN],by rw[<- cV,mX,f];simp,Z⟩
   ·have q:((((⟨#[a,b,d]⟩:ι)[0]'(by show 0<3;omega)).toNat:H)==37)=z:=g a 37 (by decide) a1;go_in;go_wp2
    all_goals go_ret
    all_goals exact⟨_,Z,by rw[f];simp[bN,c1,a1,bI],by decide,Z⟩
 ·by_cases h1:t.size=1
  ·obtain⟨a,rfl⟩:=ba1 t h1;clear h1 h3;have f:(⟨#[a]⟩:ι).toList=[a]:=bI #[a];by_cases c1:c=97
   ·subst c1;go_in;go_wp2;go_ret;exact⟨_,Z,by rw[f];rfl,by grind [cV],Z⟩
   ·have j:((c.toNat:H)==97)=z:=g c 97 (by decide) c1;go_in;go_wp2
    all_goals go_ret
    all_goals exact⟨_,Z,by rw[f];simp[bN,c1,bI],by decide,Z⟩
  ·have m:((t.size:H)==3)=z:=by rw[ε];omega
   have l:((t.size:H)==1)=z:=by grind
   have i:=aD (Wh c t.toList (by grind [cV]) (by grind [cV]));go_in;go_wp2
   all_goals go_ret
   all_goals exact⟨_,Z,by rw[i.o];exact bI #[63],by decide,Z⟩
theorem Gz(t:ι)(c:S)(w:ξ):
  π ζ 15 #[C t,I .u8 (c.toNat:H)] w λe w'=>e=U (C (nA (bN c t.toList)))/\w'=w:=by
 refine(Wi t c w).mono ?_
 grind [CV]
def mB:O Tree->O r->O r
 |t::l,v::vs=>(cO t.x v).toList++mB l vs
 |_,_=>[]
theorem Wj(l m:O Tree):∀(vs a:O r),y vs=y l->mB (l++m) (vs++a)=mB l vs++mB m a:=by
 induction l with
 |nil =>
  grind [mB]
 |cons t l ih =>
  intro vs a h
  cases vs with
  |nil=>simp at h
  |cons v vs=>simp only[x1,mB,ih vs a (by simpa using h),List.append_assoc]
theorem Wk(l:O Tree):∀(vs:O r),y vs=y l->∀(i:s) (t:Tree) (v:r),l[i]?=Y t->vs[i]?=Y v->∀j,j<9->(mB l vs)[i*9+j]?=(cO t.x v)[j]?:=by
 induction l with
 |nil=>intro vs _ i t v h;simp at h
 |cons t0 l ih =>
  intro vs c i t v a b j d
  cases vs with
  |nil=>simp at c
  |cons v0 vs =>
   cases i with
   |zero =>
    simp at a b;subst a b;simp only[mB];rw[x2 (by simp[cO];omega)];simp
   |succ i =>
    simp at a b;have:=ih vs (by simpa using c) i t v a b j d;simp only[mB];rw[xe (by simp[cO];omega),<- this]
    congr 1
    simp[cO];omega
def WX(w:ξ)(B:s)(v:r)(l:O Tree)(F:O s):Prop :=
 ∀M:r->O Tree->O s->Prop,(∀(v:r) (l:O Tree) (vs:O r) (Fs:O (O s)),w.ownsRow B 52 9 v (y l) (mB l vs)->y vs=y l->y Fs=y l ->
   (∀(i:s) (t:Tree) (u:r) (F:O s),l[i]?=Y t->vs[i]?=Y u->Fs[i]?=Y F->M u t.body F)->(v.ownBlock.toList++Fs.flatten).Nodup->M v l (v.ownBlock.toList++Fs.flatten))->M v l F
def WX.row{l:σ Tree}(j:w.ownsRow B 52 9 v (y l) (mB l vs))(k:y vs=y l)(e:y Fs=y l)(f:∀(i:ρ) (t:Tree) (u:ω) (F:σ ρ),l[i]?=Y t->vs[i]?=Y u->Fs[i]?=Y F->WX w B u t.body F)(g:(v.ownBlock.toList++Fs.flatten).Nodup):WX w B v l (v.ownBlock.toList++Fs.flatten):=
 λM a=>a v l vs Fs j k e (λi t u F b c d=>f i t u F b c d M a) g
def WX.ind{w:ξ}{B:ρ}{a:∀(v:ω) (l:σ Tree) (F:σ ρ),WX w B v l F->Prop}(row:∀{v:ω} {l:σ Tree} {vs:σ ω} {Fs:σ (σ ρ)} (j:w.ownsRow B 52 9 v (y l) (mB l vs)) (k:y vs=y l) (f:y Fs=y l)
   (e:∀(i:ρ) (t:Tree) (u:ω) (F:σ ρ),l[i]?=Y t->vs[i]?=Y u->Fs[i]?=Y F->WX w B u t.body F) (g:(v.ownBlock.toList++Fs.flatten).Nodup)
   (_:∀(i:ρ) (t:Tree) (u:ω) (F:σ ρ) (b:l[i]?=Y t) (c:vs[i]?=Y u) (d:Fs[i]?=Y F),a u t.body F (e i t u F b c d)),a v l (v.ownBlock.toList++Fs.flatten) (WX.row j k f e g)){v:ω}{l:σ Tree}{F:σ ρ}(h:WX w B v l F):a v l F h :=
 (h (λv l F=>∃h:WX w B v l F,a v l F h) λv l vs Fs j k f e g=>⟨WX.row j k f (λi t u F b c d=>(e i t u F b c d).1) g,row j k f _ g λi t u F b c d=>(e i t u F b c d).2⟩).2
def WX.cs{w:ξ}{B:ρ}{a:∀(v:ω) (l:σ Tree) (F:σ ρ),WX w B v l F->Prop}(row:∀{v:ω} {l:σ Tree} {vs:σ ω} {Fs:σ (σ ρ)} (e:w.ownsRow B 52 9 v (y l) (mB l vs)) (f:y vs=y l) (b:y Fs=y l)
   (c:∀(i:ρ) (t:Tree) (u:ω) (F:σ ρ),l[i]?=Y t->vs[i]?=Y u->Fs[i]?=Y F->WX w B u t.body F) (d:(v.ownBlock.toList++Fs.flatten).Nodup),a v l (v.ownBlock.toList++Fs.flatten) (WX.row e f b c d)){v:ω}{l:σ Tree}{F:σ ρ}(h:WX w B v l F):a v l F h :=
 WX.ind (λe f b c d _=>row e f b c d) h
theorem WX.nil(w:ξ)(B:ρ):WX w B (D T 0 0) [] []:=
 .row (Fs:=[]) (vs:=[]) (x8 _ _ _ _) Z Z (λi t u F h=>by simp at h) (by grind)
theorem WX.EJ{l:σ Tree}(h:WX w B v l F):F.Nodup:=by
 cases h using WX.cs with
 |row _ _ _ _ hn=>exact hn
def WX.own{l:σ Tree}(h:WX w B v l F):∀k,v.ownBlock=Y k->k∈F:=by
 intro k a
 cases h using WX.cs with
 |row _ _ _ _ _=>simp[a]
theorem WX.keep{l:σ Tree}(h:WX w B v l F)(c:∀k∈F,w'.heap[k]?=w.heap[k]?):WX w' B v l F:=by
 induction h using WX.ind with
 | @row v l vs Fs ho hv hF hc hn ih =>
  refine .row (bH ho λk e=>c k (by simp[e])) hv hF (λi t u F d f b=>ih i t u F d f b λk a=>c k ?_) hn;have:F∈Fs:=List.mem_of_getElem? b;simp only[xg,x3];exact Or.inr ⟨F,this,a⟩
theorem WX.gV{l:σ Tree}(h:WX w B v l F):∀k∈F,B<=k/\k<W (K w):=by
 induction h using WX.ind with
 | @row v l vs Fs ho hv hF hc hn ih =>
  intro k a;simp only[xg,x3,xh]at a
  rcases a with a|⟨F,b,a⟩
  ·exact ho.lt k a
  ·obtain⟨i,f,e⟩:=List.mem_iff_getElem.1 b;have c:i<y l:=by omega
   have d:i<y vs:=by omega
   exact ih i l[i] vs[i] F (by simp[c]) (by simp[d]) (by grind) k a
theorem WX.bD{f:ω}{l:σ Tree}{G:σ ρ}{x:Lh}{b:σ Tree}{m:ω}(h:WX w B v l F)(S:WX w B m b G)(V:∀k∈F,k∉G)(ho:∀vs:σ ω,w.ownsRow B 52 9 v (y l) (mB l vs)->w'.ownsRow B 52 9 f (y l+1) (mB l vs++(cO x m).toList))(X:∀k,k∈F\/k∈G->Y k≠v.ownBlock->w'.heap[k]?=w.heap[k]?)(d:f.ownBlock=v.ownBlock\/∀k,f.ownBlock=Y k->W (K w)<=k):
  ∃F',WX w' B f (l++[.mk x b]) F'/\∀k∈F',k∈F\/k∈G\/f.ownBlock=Y k:=by
 have O:=h.gV
 cases h using WX.cs with
 | @row _ _ vs Fs ho0 hv hF hc hn =>
  have g:(Fs++[G]).flatten=Fs.flatten++G:=by simp
  refine⟨f.ownBlock.toList++(Fs++[G]).flatten,.row (vs:=vs++[m]) ?_ (by simp[hv]) (by simp[hF]) ?_ ?_,?_⟩
  ·grind [Wj,List.length_append,mB]
  ·intro i t u F j J p;have o:∀k∈Fs.flatten,w'.heap[k]?=w.heap[k]?:=λk s=>by
    grind
   by_cases hi:i<y l
   ·rw[x2 hi]at j;rw[x2 (by omega)]at J;rw[x2 (by omega)]at p;refine(hc i t u F j J p).keep λk s=>o k ?_
    grind [x3]
   ·have r:i=y l:=by
     grind
    subst r;rw[xe (by omega)]at j J p;simp at j
    grind [WX.keep]
  ·rw[g];have H:=hn;rw[xd]at H;have q:(Fs.flatten++G).Nodup:=by
    rw[xd]
    grind [WX.EJ]
   rw[xd];refine⟨by grind,q,λa L c M e=>?_⟩;subst e;simp only[xh]at L
   rcases d with d|d
   ·grind
   grind [WX.gV]
  ·grind
namespace R
def fB(op ord:O S)(x:Lh):u:=x.op.toList==op&&(ord.isEmpty||x.ord.toList==ord)
def WV(l:O Tree):H:=WF (λ_=>E) l
def gO(p:Lh->u)(l:O Tree):0<=WF p l/\WF p l<=WF (λ_=>E) l:=by
 induction l using WF.induct with
 |case1=>simp[lD]
 |case2 x b r h1 h2 =>
  simp only[mZ,jP,η]
  split<;>omega
def SH(p:Lh->u)(a b:O Tree):WF p (a++b)=WF p a+WF p b:=by
 induction a with
 |nil=>simp[lD,mZ]
 |cons t r ih=>simp only[x1,lD,mZ,ih];omega
theorem G0(p:Lh->u)(l:O Tree)(k:s)(h:k<y l):WF p (l.take (k+1))=WF p (l.take k)+((if p l[k].x then 1 else 0)+WF p l[k].body):=by
 rw[xi h,SH]
 simp_all [lD,mZ,jP]
def G6(l:O Tree)(k:s)(h:k<y l):WV (l.take k)+1+WV l[k].body<=WV l:=by
 have a:=G0 (λ_=>E) l k h;have b:WF (λ_=>E) l=WF (λ_=>E) (l.take (k+1))+WF (λ_=>E) (l.drop (k+1)):=by
  rw[<- SH,List.take_append_drop]
 have c:=(gO (λ_=>E) (l.drop (k+1))).1;simp only[η]at a;unfold WV;omega
theorem MB(l:O Tree):(y l:H)<=WV l:=by
 induction l with
 |nil=>simp[WV,lD,mZ]
 |cons t r ih =>
  have:1<=jP (λ_=>E) t:=by
   cases t with
   |mk x b=>have:=(gO (λ_=>E) b).1;simp[jP];omega
  grind [WV,mZ]
end R
theorem WX.i{g:ρ}{l:σ Tree}(a:w.ownsRow B 52 9 (VV g n cap) n (mB l vs))(d:n=y l)(f:y vs=y l)(k:ρ)(c:k<y l)(u:ω)(e:vs[k]?=Y u):
  ∀j,j<9->w.cell? ⟨g,k*9+j,T⟩=(cO l[k].x u)[j]?:=by
 intro j b;rw[a.cellAt _ (by omega)]
 grind [Wk]
theorem Wl(f ord:ι){w0:ξ}{l:σ Tree}(h:WX w0 B v l F):WV l<10000->∀w:ξ,(∀k∈F,w.heap[k]?=w0.heap[k]?) ->
  π ζ 21 #[v,C f,C ord] w λe w'=>e=U (I N (WF (fB f.toList ord.toList) l))/\ψ (W (K w)) w w':=by
 induction h using WX.ind with
 | @row v l vs Fs ho hv hF hc hnd ih =>
 intro S w hk;have L:=(WX.row ho hv hF hc hnd).gV;have p:∀k∈v.ownBlock.toList++Fs.flatten,k<W (K w):=λk al=>by
  grind
 have how:w.ownsRow B 52 9 v (y l) (mB l vs):=bH ho λk e=>hk k (by simp[e]);have ag:∃a c,v=D a (y l) c/\(0<y l->∃b,a=Y ⟨b,0,T⟩/\b<W (K w)):=by
  rcases how.2 with⟨e,h0⟩|⟨k,c,ai,e,_⟩
  ·grind
  grind
 obtain⟨sa,sc,rfl,af⟩:=ag;have ah:=MB l;have HO:=aD how;have aa:=aD ih;have HK:=aD hk;have ab:=aD p;have HV:=aD hv;have HF:=aD hF;have HS:=aD S;have hn:y l<10000:=by omega
 generalize hN:y l=n at*;have X:=aD hN;clear hN how ih hk p hv hF S ho hc hnd L;go_in;go_wp2;go_loopw[7,8] (λc i wr=>∃k:ρ,k<=n/\i=I N k/\c=I N (WF (fB f.toList ord.toList) (l.take k))/\ψ (W (K w)) w wr) λ_ i _=>n-(δ i).toNat
 case atStart=>exact⟨0,x9 _,Z,by grind [lD],Below.refl _ _⟩
 case round =>
  obtain⟨k,hk,rfl,rfl,d⟩:=hrel;have am:=gO (fB f.toList ord.toList) (l.take k);by_cases p:k<n
  ·obtain⟨b,rfl,q⟩:=af (by omega);have s:k<y l:=by rw[X.o];exact p
   have ak:=lI p;have O:k<y vs:=by rw[HV.o];exact p
   have ad:k<y Fs:=by rw[HF.o];exact p
   have CE:=WX.i HO X.symm (by rw[HV.o,X.o]) k s vs[k] (by simp[O]);have c0:=cK d q (CE 0 (by omega));have c6:=cK d q (CE 6 (by omega));have c8:=cK d q (CE 8 (by omega));simp[cO]at c0 c6 c8;have ao:=G6 l k s;have ap:=(gO (λ_=>E) (l.take k)).1;have an:=gO (fB f.toList ord.toList) l[k].body;have hS:=HS.o;have V:aC (∀J:ξ,ψ (W (K w)) w J->π ζ 21 #[vs[k],C f,C ord] J λe w'=>e=U (I N (WF (fB f.toList ord.toList) l[k].body))/\ψ (W (K J)) J w'):=by
    intro J ac;refine aa k l[k] vs[k] Fs[k] (by simp[s]) (by simp[O]) (by simp[ad]) (by grind [WV]) J λj hj=>?_;have M:j∈(VV b n sc).ownBlock.toList++Fs.flatten:=by
     grind [x3]
    rw[ac.block j (ab.o j M),HK.o j M]
   have m:=aD (G0 (fB f.toList ord.toList) l k s);have aj:0<=WF (fB f.toList ord.toList) l[k].body/\WF (fB f.toList ord.toList) l[k].body<10000:=by grind [WV]
   have g:0<=WF (fB f.toList ord.toList) (l.take k)/\WF (fB f.toList ord.toList) (l.take k)<10000:=by grind [WV]
   generalize l[k]=t at*;generalize vs[k]=u at*;generalize WF (fB f.toList ord.toList) t.body=nb at*;generalize WF (fB f.toList ord.toList) (l.take k)=na at*;have r:W (K w)<=W (K wr):=d.size;have fin:∀H,ψ (W (K wr)) wr H->ψ (W (K w)) w H:=λH h1=>d.trans (h1.mono r)
   by_cases e1:t.x.op.toList=f.toList
   ·cases e2:ord.toList.isEmpty
    ·cases e3:t.x.ord.toList==ord.toList
     ·have G:fB f.toList ord.toList t.x=z:=by simp[fB,e3,e2]
      rw[G]at m;go_wp2_with(first|(go_at_call 21;refine(V _ (by first|exact d|exact d.alloc r _)).mono ?_;rintro e H ⟨rfl,g⟩));go_roundw;exact⟨k+1,by omega,by go_num,by rw[m.o];congr 1;first|(simp only[x4,γ];omega)|(simp only[η];omega),fin _ g⟩;simp[δ];omega
     ·have G:fB f.toList ord.toList t.x=E:=by simp[fB,e1,e3]
      rw[G]at m;go_wp2_with(first|(go_at_call 21;refine(V _ (by first|exact d|exact d.alloc r _)).mono ?_;rintro e H ⟨rfl,g⟩));go_roundw;exact⟨k+1,by omega,by go_num,by rw[m.o];congr 1;first|(simp only[x4,γ];omega)|(simp only[η];omega),fin _ g⟩;simp[δ];omega
    ·have G:fB f.toList ord.toList t.x=E:=by simp[fB,e1,e2]
     rw[G]at m;go_wp2_with(first|(go_at_call 21;refine(V _ (by first|exact d|exact d.alloc r _)).mono ?_;rintro e H ⟨rfl,g⟩));go_roundw;exact⟨k+1,by omega,by go_num,by rw[m.o];congr 1;first|(simp only[x4,γ];omega)|(simp only[η];omega),fin _ g⟩;simp[δ];omega
   ·have G:fB f.toList ord.toList t.x=z:=by simp[fB,e1]
    rw[G]at m;go_wp2_with(first|(go_at_call 21;refine(V _ (by first|exact d|exact d.alloc r _)).mono ?_;rintro e H ⟨rfl,g⟩));go_roundw;exact⟨k+1,by omega,by go_num,by rw[m.o];congr 1;first|(simp only[x4,γ];omega)|(simp only[η];omega),fin _ g⟩;simp[δ];omega
  ·have ae:k=n:=by omega
   subst ae;have HT:aC (l.take k=l):=xj (by have:=X.o;omega);go_wp2;go_ret;rw[HT.o];exact⟨Z,d⟩
def ZN:O R.Th->O r->O r
 |t::l,v::vs=>[I N t.block,v,I N t.row]++ZN l vs
 |_,_=>[]
theorem TE(l:O R.Th):∀(vs:O r),y vs=y l->(ZN l vs).length=y l*3:=by
 induction l with
 |nil=>intro vs _;simp[ZN]
 |cons t l ih =>
  intro vs h
  cases vs with
  |nil=>simp at h
  |cons v vs =>
   grind [ZN]
theorem G7(l:O R.Th):∀(vs:O r),y vs=y l->∀(i:s) (t:R.Th) (v:r),l[i]?=Y t->vs[i]?=Y v ->
  (ZN l vs)[i*3]?=Y (I N t.block)/\(ZN l vs)[i*3+1]?=Y v/\(ZN l vs)[i*3+2]?=Y (I N t.row):=by
 induction l with
 |nil=>intro vs _ i t v h;simp at h
 |cons t0 l ih =>
  intro vs a i t v b c
  cases vs with
  |nil=>simp at a
  |cons v0 vs =>
   cases i with
   |zero =>
    grind [ZN]
   |succ i =>
    simp at b c;have:=ih vs (by simpa using a) i t v b c;rw[show(i+1)*3=i*3+3 by omega]
    simp_all [ZN]
theorem TJ(l m:O R.Th):∀(vs a:O r),y vs=y l->ZN (l++m) (vs++a)=ZN l vs++ZN m a:=by
 induction l with
 |nil =>
  grind [ZN]
 |cons t l ih =>
  intro vs a h
  cases vs with
  |nil=>simp at h
  |cons v vs=>simp only[x1,ZN,ih vs a (by simpa using h),List.nil_append]
structure ThsAt(w:ξ)(B:ρ)(tv:ω)(ts:σ R.Th)(vs:σ ω)(Fs:σ (σ ρ)):Prop where
 own:w.ownsRow B 50 3 tv (y ts) (ZN ts vs)
 lv:y vs=y ts
 lF:y Fs=y ts
 kid:∀(i:ρ) (t:R.Th) (u:ω) (F:σ ρ),ts[i]?=Y t->vs[i]?=Y u->Fs[i]?=Y F->WX w B u t.body F
def ThsAt.keep{g:ω}{f:σ R.Th}(h:ThsAt w B g f vs Fs)(b:∀k,k<W (K w)->w'.heap[k]?=w.heap[k]?):ThsAt w' B g f vs Fs :=
 ⟨bH h.own λk e=>b k (h.own.lt k e).2,h.lv,h.lF,λi t u F c d a=>(h.kid i t u F c d a).keep λk j=>b k ((h.kid i t u F c d a).gV k j).2⟩
namespace R
def Wm(p:Lh->u)(a b:O Th):eY p (a++b)=eY p a+eY p b:=by
 induction a with
 |nil=>simp[eY]
 |cons t r ih=>simp only[x1,eY,ih];omega
def TS(p:Lh->u)(l:O Th)(k:s)(h:k<y l):eY p (l.take (k+1))=eY p (l.take k)+WF p l[k].body:=by
 rw[xi h,Wm];simp only[eY];omega
theorem RH(p:Lh->u)(l:O Th)(h:∀t∈l,WV t.body<10000):0<=eY p l/\eY p l<=y l*10000:=by
 induction l with
 |nil=>simp[eY]
 |cons t r ih =>
  have b:=ih λt a=>h t (by simp[a]);have c:=h t (by simp);have d:=gO p t.body
  grind [WV,eY]
theorem LJ(p q r:Lh->u)(h:∀x,(if p x then(1:H)else 0)=(if q x then 1 else 0)+if r x then 1 else 0):(∀t,jP p t=jP q t+jP r t)/\∀l,WF p l=WF q l+WF r l:=by
 have a:∀l,WF p l=WF q l+WF r l:=by
  intro l
  induction l using WF.induct with
  |case1=>simp[lD]
  |case2 x b l h1 h2 =>
   grind [mZ,jP]
 grind [jP]
def IQ:Lh->u:=fB [108,111,97,100] []
def GB:Lh->u:=fB [115,116,111,114,101] []
def pS:Lh->u:=fB [97,100,100] []
def qC:Lh->u:=fB [115,119,97,112] []
def FI:Lh->u:=fB [102,101,110,99,101] [115,99]
theorem Wn(l:O Tree):WF XG l=WF IQ l+WF pS l+WF qC l:=by
 have a:=(LJ XG IQ (λx=>pS x||qC x) λx=>by
  simp only[XG,IQ,pS,qC,fB,x5,x6,x7,mG,bI,qQ,qZ]
  grind).2 l
 have b:=(LJ (λx=>pS x||qC x) pS qC λx=>by
  simp only[pS,qC,fB,x5,x6,x7]
  grind).2 l
 rw[a,b];omega
theorem Wo(l:O Tree):WF XI l=WF GB l+WF pS l+WF qC l:=by
 have a:=(LJ XI GB (λx=>pS x||qC x) λx=>by
  simp only[XI,GB,pS,qC,fB,x5,x6,x7,mD,bI,qQ,qZ]
  grind).2 l
 have b:=(LJ (λx=>pS x||qC x) pS qC λx=>by
  simp only[pS,qC,fB,x5,x6,x7]
  grind).2 l
 rw[a,b];omega
def G8:XC=FI:=by
 funext x
 simp[XC,FI,fB,jS,bI,oS]
def G9:isB=fB [98,97,114,114,105,101,114] []:=by
 funext x
 simp[isB,fB,mP,bI]
end R
theorem ThsAt.get{b:ρ}{a:σ R.Th}(h:ThsAt w B (VV b n cap) a vs Fs)(s:n=y a)(x:∀t∈a,WV t.body<10000)(k:ρ)(d:k<y a):
  b<W (K w)/\∃u,w.cell? ⟨b,k*3,T⟩=Y (I N a[k].block)/\w.cell? ⟨b,k*3+1,T⟩=Y u/\w.cell? ⟨b,k*3+2,T⟩=Y (I N a[k].row)/\
   aC (∀(g ord:ι) (c:ξ),ψ (W (K w)) w c->π ζ 21 #[u,C g,C ord] c λe w'=>e=U (I N (WF (fB g.toList ord.toList) a[k].body))/\ψ (W (K c)) c w'):=by
 have i:k<y vs:=by rw[h.lv];exact d
 have p:k<y Fs:=by rw[h.lF];exact d
 have f:=h.own;rw[<- s]at f;obtain⟨l,m,o⟩:=G7 a vs h.lv k a[k] vs[k] (by simp[d]) (by simp[i]);refine⟨(f.lt b Z).2,vs[k],?_,?_,?_,?_⟩
 ·rw[f.cellAt _ (by omega)];exact l
 ·rw[f.cellAt _ (by omega)];exact m
 ·rw[f.cellAt _ (by omega)];exact o
 ·intro g ord c q;have L:=h.kid k a[k] vs[k] Fs[k] (by simp[d]) (by simp[i]) (by simp[p]);refine(Wl g ord L (x _ (xa d)) c λj r=>q.block j (L.gV j r).2).mono ?_
  grind
theorem Wp(B bt n cap:ρ)(d:σ R.Th)(vs:σ ω)(Fs:σ (σ ρ))(w:ξ)(h:ThsAt w B (VV bt n cap) d vs Fs)(hn:n=y d)(ad:n<10)(hs:∀t∈d,WV t.body<10000):
  π ζ 20 #[VV bt n cap] w λe w'=>e=U (.bool (DS d))/\ψ (W (K w)) w w':=by
 have HA:=aD h;have J:=aD hn;have L:=aD hs;clear h hn hs;go_in;go_wp2;go_loopw[3,4,5,6] (λa b c i wr=>∃k:ρ,k<=n/\i=I N k/\a=I N (eY R.XG (d.take k))/\b=I N (eY R.XI (d.take k))/\c=I N (eY R.XC (d.take k))/\ψ (W (K w)) w wr) λ_ _ _ i _=>n-(δ i).toNat
 case atStart=>exact⟨0,x9 _,Z,Z,Z,Z,Below.refl _ _⟩
 case round =>
  obtain⟨k,hk,rfl,rfl,rfl,rfl,g⟩:=hrel;have p:∀t∈d.take k,WV t.body<10000:=λt ht=>L t (List.mem_of_mem_take ht)
  have ac:((d.take k).length:τ)<=10:=by grind
  have b1:0<=eY R.XG (d.take k)/\eY R.XG (d.take k)<=100000:=by have:=RH R.XG _ p;omega
  have b2:0<=eY R.XI (d.take k)/\eY R.XI (d.take k)<=100000:=by have:=RH R.XI _ p;omega
  have b3:0<=eY R.XC (d.take k)/\eY R.XC (d.take k)<=100000:=by have:=RH R.XC _ p;omega
  by_cases hlt:k<n
  ·have m:k<y d:=by rw[<- J.o];exact hlt
   obtain⟨O,u,c0,c1,c2,HC⟩:=HA.get J L k m;have d1:=cK g O c1;have r:=TS R.XG d k m;have s:=TS R.XI d k m;have V:=TS R.XC d k m;rw[Wn]at r;rw[Wo]at s;rw[G8]at V;have hz:=L.o d[k] (xa m);unfold WV at hz;have e1:=gO IQ d[k].body;have e2:=gO GB d[k].body;have e3:=gO pS d[k].body;have e4:=gO qC d[k].body;have e5:=gO FI d[k].body;obtain⟨j,l⟩:∃f:ι->ι->τ,∀q ord,f q ord=WF (fB q.toList ord.toList) d[k].body:=⟨_,λ_ _=>Z⟩;have H:aC (∀(q ord:ι) (G:ξ),ψ (W (K w)) w G->π ζ 21 #[u,C q,C ord] G λe w'=>e=U (I N (j q ord))/\ψ (W (K w)) w w'):=λq ord G M=>by
    rw[l];refine(HC q ord G M).mono ?_;rintro e w' ⟨rfl,h2⟩;exact⟨Z,M.trans (h2.mono M.size)⟩
   have N1:WF IQ d[k].body=j ⟨#[108,111,97,100]⟩ ⟨#[]⟩:=by rw[l,bI,bI];rfl
   have N2:WF GB d[k].body=j ⟨#[115,116,111,114,101]⟩ ⟨#[]⟩:=by rw[l,bI,bI];rfl
   have N3:WF pS d[k].body=j ⟨#[97,100,100]⟩ ⟨#[]⟩:=by rw[l,bI,bI];rfl
   have N4:WF qC d[k].body=j ⟨#[115,119,97,112]⟩ ⟨#[]⟩:=by rw[l,bI,bI];rfl
   have N5:WF FI d[k].body=j ⟨#[102,101,110,99,101]⟩ ⟨#[115,99]⟩:=by rw[l,bI,bI];rfl
   rw[N1]at e1 r;rw[N2]at e2 s;rw[N3]at e3 r s;rw[N4]at e4 r s;rw[N5]at e5 V;have f1:0<=j ⟨#[108,111,97,100]⟩ ⟨#[]⟩/\j ⟨#[108,111,97,100]⟩ ⟨#[]⟩<10000:=by omega
   have f2:0<=j ⟨#[115,116,111,114,101]⟩ ⟨#[]⟩/\j ⟨#[115,116,111,114,101]⟩ ⟨#[]⟩<10000:=by omega
   have f3:0<=j ⟨#[97,100,100]⟩ ⟨#[]⟩/\j ⟨#[97,100,100]⟩ ⟨#[]⟩<10000:=by omega
   have f4:0<=j ⟨#[115,119,97,112]⟩ ⟨#[]⟩/\j ⟨#[115,119,97,112]⟩ ⟨#[]⟩<10000:=by omega
   have f5:0<=j ⟨#[102,101,110,99,101]⟩ ⟨#[115,99]⟩/\j ⟨#[102,101,110,99,101]⟩ ⟨#[115,99]⟩<10000:=by omega
   clear HC c0 c1 c2 N1 N2 N3 N4 N5 l;have S1:=aD r;have S2:=aD s;have S3:=aD V;rw[G8]at *;generalize eY R.XG (d.take k)=X at*;generalize eY R.XI (d.take k)=t2 at*;generalize eY FI (d.take k)=t3 at*;have ab:(k:τ)<n:=by omega
   go_wp2_with(first|(go_at_call 21;refine(H _ _ _ (by assumption)).mono ?_;rintro e w1 ⟨rfl,aa⟩));go_roundw;exact⟨k+1,by omega,by go_num,by rw[S1.o];congr 1;omega,by rw[S2.o];congr 1;omega,by rw[S3.o],by assumption⟩;simp[δ];omega
  ·have S:k=n:=by omega
   subst S;have HT:aC (d.take k=d):=xj (by have:=J.o;omega);rw[HT.o]at *;have x:aC (DS d=(decide (eY R.XG d<=4)&&decide (eY R.XI d<=3)&&decide (eY R.XC d<=3))):=Z;generalize eY R.XG d=X at*;generalize eY R.XI d=t2 at*;generalize eY R.XC d=t3 at*;by_cases g1:X<=4
   ·by_cases g2:t2<=3
    ·by_cases g3:t3<=3
     ·go_wp2;go_ret;rw[x.o];simp[g1,g2,g3];exact g
     ·go_wp2;go_ret;rw[x.o];simp[g1,g2,g3];exact g
    ·go_wp2;go_ret;rw[x.o,decide_eq_false (show ¬t2<=3 by omega)];simp;exact g
   ·go_wp2;go_ret;rw[x.o,decide_eq_false (show ¬X<=4 by omega)];simp;exact g
