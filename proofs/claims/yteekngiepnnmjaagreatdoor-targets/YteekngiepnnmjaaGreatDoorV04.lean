import Derived.Test.YteekngiepnnmjaaGreatDoorV02
import Derived.Test.YteekngiepnnmjaaGreatDoorV03
set_option linter.all false
set_option maxHeartbeats 0
namespace Go.Proofs.YteekngiepnnmjaaGreatDoor
open Go Go.RowKit Go.Proofs.Tryz P Q
open scoped Classical
set_option maxRecDepth 1000000
open _root_ renaming UInt8->u,UInt8->σ,ByteArray->O,ByteArray->ν,List->S,List->ι,Int->K,Int->ω,Nat->z,Nat->ψ,Bool->v,Bool->τ,absurd->η,if_neg->ζ
open Go.RowKit renaming intOf->ξ,Below->φ
open Go renaming World->ρ
open Go.Proofs.Tryz renaming prog->π
variable {a b:σ}{l s:ι σ}{g j k m:ψ}{bs:ι (ι σ)}{α:Type}{T:ω->ι σ}{w:ρ}{r:Rd}
open List renaming length->V
open Bool renaming false->Y,true->G
open Go.Value renaming string->U,int->L,bool->D
open Go.IntKind renaming i64->N
open Option renaming none->M,some->A
open Go.Ending renaming returned->W
open _root_.ByteArray renaming toList->xF
open Nat renaming zero_add->xR,le_refl->xW,zero_le->x3,lt_of_lt_of_le->xb
open Go.RowKit.Below renaming refl->x4,heap_setCell->xa
open List renaming take_append_drop->x5,take_of_length_le->x7,drop_eq_getElem_cons->x8
open Go.Instr renaming slice->x6
open Go.Result renaming andThen_ok->x9
namespace P
def dV(a b:u):S u->S (S u)
 |[]=>[[]]
 |[x]=>[[x]]
 |x::y::r=>if x=a/\y=b then[]::dV a b r else match dV a b (y::r)with
  |h::t=>(x::h)::t
  |[]=>[[x]]
def rY(c:S u):S (S u)->S (S u)
 |h::t=>(c++h)::t
 |[]=>[c]
theorem DB(a b:u):∀l:S u,dV a b l≠[]
 |[]=>by simp[dV]
 |[x]=>by simp[dV]
 |x::y::r=>by
  grind [dV]
theorem Dd(a b:u)(r:S u):dV a b (a::b::r)=[]::dV a b r:=by simp[dV]
theorem EI(a b x:u)(q:S u)(h:¬(x=a/\q.head?=A b)):dV a b (x::q)=rY [x] (dV a b q):=by
 cases q with
 |nil=>simp[dV,rY]
 |cons y r =>
  have c:¬(x=a/\y=b):=λe=>h ⟨e.1,by simp[e.2]⟩
  rw[dV,ζ c]
  cases hs:dV a b (y::r)with
  |nil=>exact η hs (DB _ _ _)
  |cons p t=>rfl
theorem Rf(c d:S u)(l:S (S u))(h:l≠[]):rY c (rY d l)=rY (c++d) l:=by
 cases l with
 |nil=>exact η Z h
 |cons p t=>simp[rY]
theorem De(l:S (S u))(h:l≠[]):rY [] l=l:=by
 cases l with
 |nil=>exact η Z h
 |cons p t=>simp[rY]
def Rg(a b:u)(l:S u)(h:V l<=1):dV a b l=[l]:=by
 match l,h with
 |[],_=>rfl
 |[x],_=>rfl
theorem UZ(a b:u):∀(l:S u),(dV a b l).length<=V l+1
 |[]=>by simp[dV]
 |[x]=>by simp[dV]
 |x::y::r=>by
  unfold dV;have c:=UZ a b r;have d:=UZ a b (y::r)
  grind
def gX(l:S u):S u×S (S u):=
 (l.takeWhile λc=>c != 32,if l.any λc=>c==32 then dV 44 32 ((l.dropWhile λc=>c != 32).drop 1)else[])
def eB(w:S u):K×v:=if w=nU 0 then(0,G)else if w=nU 1 then(1,G)else if w=nU 2 then(2,G)else if w=nU 3 then(3,G)else(0,Y)
def gZ(w:S u):K×v:=if w=rR 0 then(0,G)else if w=rR 1 then(1,G)else if w=rR 2 then(2,G)else(0,Y)
def dJ(w:S u):ZD×v :=
 if w=dI 0 then(⟨Y,0⟩,G)else if w=dI 1 then(⟨Y,1⟩,G)else if w=dI 2 then(⟨Y,2⟩,G)else if w=dI 3 then(⟨Y,3⟩,G)else(⟨G,(eB w).1⟩,(eB w).2)
def nL(kind:K)(w:S u):z->z->Option (K×K)
 |0,_=>M
 |f+1,k=>if YV kind ((k/2:z):K)&&w==rB ((k/2:z):K) ((k%2:z):K)then A (((k/2:z):K),((k%2:z):K))else nL kind w f (k+1)
def kD(st:VW)(w:S u):VW×v :=
 if rU st.kind then match nL st.kind w 12 0 with
  |some (o,s)=>({st with q:=o,scope:=s},G)
  |none=>(st,Y)
 else(st,w==[])
def mV(st:VW)(c:u)(w:S u):VW×v :=
 if c=100 then({st with dest:=(eB w).1},(eB w).2)
 else if c=118 then({st with z:=(gZ w).1},(gZ w).2)
 else if c=97 then({st with a:=(dJ w).1},(dJ w).2)
 else if c=98 then({st with b:=(dJ w).1},(dJ w).2)
 else(st,w==YJ st.label)
def nB(st:VW):S u->S (S u)->VW×v
 |c::cs,w::ws=>if(mV st c w).2 then nB (mV st c w).1 cs ws else(VW.zero,Y)
 |_,_=>(st,G)
def fY(st:VW)(cs:S u)(ws:S (S u)):VW×v :=
 if V cs != V ws then(VW.zero,Y)else nB st cs ws
def jF(first:S u)(ops:S (S u))(next:K):z->K->VW×v
 |0,_=>(VW.zero,Y)
 |f+1,k =>
  if(dE k).1.isPrefixOf first then
   let st:VW:=if k==10 then{VW.zero with kind:=k,label:=next}else{VW.zero with kind:=k}
   if(kD st (first.drop (dE k).1.length)).2 then fY (kD st (first.drop (dE k).1.length)).1 (dE k).2 ops
   else jF first ops next f (k+1)
  else jF first ops next f (k+1)
def eJ(l:S u)(next:K):VW×v:=jF (gX l).1 (gX l).2 next 11 0
def kY(b:K):S u:=[46,116,104,114,101,97,100,32]++dI b
def bJ(r:Rd):K:=r.O.getLast?.getD 0
def gM(r:Rd)(l:S u):Rd×v :=
 if l=kY 0 then lJ r 0 r.i else if l=kY 1 then lJ r 1 r.i
 else if bJ r != 0&&l==YJ (bJ r)++[58]then fS r {VW.zero with kind:=11,i:=r.i}
 else if !(eJ l (r.I+1)).2||(eJ l (r.I+1)).1.kind==5&&bJ r != 0 then(r,Y)
 else fS r {(eJ l (r.I+1)).1 with i:=r.i}
def YS(r:Rd):S (S u)->Rd×v
 |[]=>(r,G)
 |x::xs=>if(gM {r with i:=r.i+1} x).2 then YS (gM {r with i:=r.i+1} x).1 xs else((gM {r with i:=r.i+1} x).1,Y)
def Rd.WB:Rd:=⟨[],0,0,0,[],40⟩
def cW(l:S u):S VZ×K :=
 let q:=YS Rd.WB (bF 10 l).dropLast
 if q.2 then
  if(bF 10 l).getLast?≠A []\/q.1.O≠[]\/q.1.H=[]then([],q.1.i+1)else(q.1.H,0)
 else([],q.1.i)
theorem JG(r:Rd)(l:S u):(gM r l).1.i=r.i/\(gM r l).1.most=r.most:=by
 grind [gM,On,Ot]
theorem Df(d:S (S u)):∀(r c:Rd) (x:S u),YS r d=(c,G)->YS r (d++[x])=gM {c with i:=c.i+1} x:=by
 induction d with
 |nil =>
  grind [YS]
 |cons y ys ih =>
  grind [YS]
theorem Rh(c:S (S u)):∀(r:Rd) (d:S (S u)),(YS r c).2=Y->YS r (c++d)=YS r c:=by
 induction c with
 |nil=>intro r d h;simp[YS]at h
 |cons y zs ih =>
  grind [YS]
end P
theorem Dg(s:O)(a b:u)(k:z)(h:k+2<=s.size):((s.extract k (k+2)).toList==(⟨#[a,b]⟩:O).toList)=decide (s.toList.drop k=a::b::s.toList.drop (k+2)):=by
 have c:V s.toList=s.size:=cV s;have e:(s.extract k (k+2)).toList=(s.toList.drop k).take 2:=by
  grind [mX]
 have e2:(⟨#[a,b]⟩:O).toList=[a,b]:=by simp_all
 have e3:s.toList.drop k=(s.toList.drop k).take 2++s.toList.drop (k+2):=by
  grind [x5,List.drop_drop]
 grind
def pU(a b:u)(s:S u)(m j:z)(bs:S (S u)):Prop:=bs++rY ((s.take j).drop m) (dV a b (s.drop j))=dV a b s
theorem Ri(a b:u)(s:S u):pU a b s 0 0 []:=by grind [pU,De,DB]
theorem Rj(h:pU a b s m j bs)(c:s.drop j=a::b::s.drop (j+2)):pU a b s (j+2) (j+2) (bs++[(s.take j).drop m]):=by
 unfold pU at*
 grind [Dd,De,DB,rY]
theorem Rk(h:pU a b s m j bs)(n:m<=j)(f:j<V s)(e:¬s.drop j=a::b::s.drop (j+2)):pU a b s m (j+1) bs:=by
 unfold pU at*;have e1:s.drop j=s[j]::s.drop (j+1):=x8 f;have i:¬(s[j]=a/\(s.drop (j+1)).head?=A b):=by
  rintro⟨d,c⟩;apply e;rw[e1,d]
  congr 1
  cases hx:s.drop (j+1)with
  |nil=>rw[hx]at c;simp at c
  |cons y q =>
   rw[hx]at c;simp at c;have:s.drop (j+2)=q:=by rw[show j+2=j+1+1 by omega,<- List.drop_drop,hx];rfl
   rw[this,c]
 grind [EI,Rf,DB]
theorem Rm(h:pU a b s m j bs)(d:m<=j)(c:V s<=j+1):bs++[s.drop m]=dV a b s:=by
 unfold pU at h;rw[Rg a b (s.drop j) (by simp;omega)]at h;rw[<- h];simp only[rY]
 grind [x5]
theorem Ro(a b:σ)(s:ν)(w:ρ)(hs:s.size<=8192):
  Calls π 78 #[U s,U ⟨#[a,b]⟩] w λe S=>∃g q,∃F:ι ν,e=W (VV g (V F) q)/\F.map xF=dV a b s.toList/\
   S.ownsRow w.heap.size 9 1 (VV g (V F) q) (V F) (F.map Value.string)/\φ w.heap.size w S:=by
 have O:(⟨#[a,b]⟩:ν).size=2:=Z;generalize t:(⟨#[a,b]⟩:ν)=z at*;go_in;go_wp2;go_loopw[5,6,7] (λv f i wr=>∃k m:ψ,∃bs:ι ν,k<=s.size/\m<=k+1/\m<=s.size/\i=L N k/\f=L N m/\V bs<=k/\aC (pU a b s.toList m (max k m) (bs.map xF))/\
   wr.ownsRow w.heap.size 9 1 v (V bs) (bs.map Value.string)/\φ w.heap.size w wr) λ_ _ i _=>s.size-(ξ i).toNat
 case atStart=>exact⟨0,0,[],x3 _,x3 _,x3 _,Z,Z,xW _,Ri _ _ _,World.ownsRow_nil _ _ _ _,x4 _ _⟩
 case round =>
  obtain⟨k,m,bs,hk,hm,ac,rfl,rfl,X,y,n,c⟩:=hrel;by_cases hlt:k+2<=s.size
  ·have C:(k:ω)+2<=(s.size:ω):=by omega
   have aa:∀H,(x6 9 (U s) (A (L N (k:ω))) (A (L N ((k:ω)+2))) M).run π H=.ok (U (s.extract k (k+2))) H:=λH=>by
    rw[run_slice_string H 9 s N N _ _ underlying9 (by omega) (by omega) (by omega),show (k:ω).toNat=k by omega,show((k:ω)+2).toNat=k+2 by omega]
   by_cases hmk:m<=k
   ·have E:=lE hmk;have ad:max k m=k:=by omega
    by_cases hc:s.toList.drop k=a::b::s.toList.drop (k+2)
    ·have hq:((s.extract k (k+2)).toList==z.toList)=G:=by rw[<- t,Dg s a b k hlt];simpa using hc
     have HR:aC (pU a b s.toList (k+2) (k+2) ((bs++[s.extract m k]).map xF)):=by
      have h1:=y.o
      grind [Rj,mX]
     clear hc y;go_wp2_with(first
      |(at_builtin;refine qH Tryz.infoStr underlying45 Z Z (.tmp 38) (.tmp 43) Z Z Z Z Z n (by omega) c.size ?_))
     intro g q K p d u B;have x:φ w.heap.size w K:=(c.alloc c.size _).grown d (by have:=c.size;simp;omega) λj J=>(n.lt j J).1;clear n d u;go_wp2;go_roundw;exact⟨k+1,k+2,bs++[s.extract m k],by omega,by omega,by omega,by go_num,by go_num,by simp;omega,by rw[show max (k+1) (k+2)=k+2 by omega];exact HR,by simpa using p,x⟩;simp[ξ];omega
    ·have hq:((s.extract k (k+2)).toList==z.toList)=Y:=by rw[<- t,Dg s a b k hlt];simpa using hc
     have HR:aC (pU a b s.toList m (max (k+1) m) (bs.map xF)):=by
      grind [aC,Rk,cV]
     clear y hc;go_wp2
     grind [ξ]
   ·have E:=lM hmk;have ab:decide ((m:ω)<=k)=Y:=decide_eq_false E;have HR:aC (pU a b s.toList m (max (k+1) m) (bs.map xF)):=by
     grind
    clear y;go_wp2
    grind [ξ]
  ·have C:¬(k:ω)+2<=(s.size:ω):=by omega
   have ae:(m:ω)<=s.size:=by omega
   have I:aC ((bs++[s.extract m s.size]).map xF=dV a b s.toList):=by
    unfold aC;rw[List.map_append,List.map_cons,List.map_nil,mX,x7 (by simp_all [cV])];exact Rm y (by omega) (by rw[cV];omega)
   clear y;go_wp2_with(first
     |(at_builtin;refine qH Tryz.infoStr underlying45 Z Z (.tmp 49) (.tmp 53) Z Z Z Z Z n (by omega) c.size ?_))
   intro g q K p d u B;have x:φ w.heap.size w K:=(c.alloc c.size _).grown d (by have:=c.size;simp;omega) λj J=>(n.lt j J).1;clear n d u;go_wp2;go_ret;exact⟨g,q,bs++[s.extract m s.size],by simp,I,by simpa using p,x⟩
theorem JF(s:O)(k:z)(h:k<s.size):s.toList[k]'(by grind [cV])=s[k]:=by
 have e:s.toList=s.data.toList:=xB s;simp only[e];rfl
theorem Rp(l:S u)(k:z)(n:k<V l)(o:∀c∈l.take k,c≠32)(d:l[k]=32):gX l=(l.take k,dV 44 32 (l.drop (k+1))):=by
 have e:l=l.take k++32::l.drop (k+1):=by
  grind [x5,x8]
 have i:∀(p q:S u),(∀c∈p,c≠32)->(p++32::q).takeWhile λc=>c != 32=p/\(p++32::q).dropWhile λc=>c != 32=32::q/\(p++32::q).any λc=>c==32=G:=by
  intro p q
  induction p with
  |nil=>intro _;simp
  |cons x r ih =>
   intro h;have f:x≠32:=h x (by simp);obtain⟨a,b,c⟩:=ih λc d=>h c (by simp[d]);simp[f,a,b]
 grind [gX]
theorem Rq(l:S u)(d:∀c∈l,c≠32):gX l=(l,[]):=by
 unfold gX;have i:l.takeWhile λc=>c != 32=l:=by
  induction l with
  |nil=>rfl
  |cons x r ih=>have f:x≠32:=d x (by simp);simp[f,ih λc e=>d c (by simp[e])]
 grind
def wF(w:ρ)(v:Value)(ws:S O):Prop:=∃a cap,v=.slice a (V ws) cap/\V ws<=cap/\(ws≠[]->∃g,a=A ⟨g,0,M⟩/\XO w g 0 ws/\g<w.heap.size)
def Rr(s:O)(w w':ρ)(e:Ending):Prop:=∃(f:O) (v:Value) (ws:S O),e=W (.tuple #[U f,v])/\f.toList=(gX s.toList).1/\ws.map xF=(gX s.toList).2/\wF w' v ws/\f.size<=s.size/\V ws<=8193/\φ w.heap.size w w'
theorem Rs(s:ν)(w:ρ)(hs:s.size<=8192):
  Calls π 130 #[U s] w λe w'=>Rr s w w' e:=by
 go_in;go_wp2;go_loop [4] (λi=>∃k:ψ,k<=s.size/\i=L N k/\aC (∀c∈s.toList.take k,c≠32)) λi=>s.size-(ξ i).toNat
 case atStart=>exact⟨0,x3 _,Z,by unfold aC;simp⟩
 case round =>
  obtain⟨k,hk,rfl,p⟩:=hrel;by_cases hlt:k<s.size
  ·by_cases hc:s[k]=32
   ·have v:((s[k].toNat:ω)==32)=G:=by simp[hc]
    have f:aC (gX s.toList=(s.toList.take k,dV 44 32 (s.toList.drop (k+1)))):=Rp _ k (by grind [cV]) p (by grind [JF]);have S:=UA s (k+1) s.size;have H:(k:ω)+1<=(s.size:ω):=by omega
    have I:(k:ω)<=s.size:=by omega
    have J:=lI hlt;have X:((k:ω)+1).toNat=k+1:=by omega
    have F:(0:ω)<=k:=by omega
    have C:(0:ω)<=k+1:=by omega
    have z:aC ((s.extract 0 k).toList=s.toList.take k/\(s.extract (k+1) s.size).toList=s.toList.drop (k+1)):=by
     simp_all [aC,mX,x7,cV]
    have x:=UA s 0 k;have aa:IntKind.i64.wrap ((k:ω)+1)=(k:ω)+1:=by grind [IntKind.wrap,IntKind.bits]
    have K:∀d,(x6 9 (U s) (A (L N ((k:ω)+1))) M M).run π d=.ok (U (s.extract (k+1) s.size)) d:=λd=>by
     simp_all [run_slice_string_from_if]
    have O:∀d,(x6 9 (U s) M (A (L N (k:ω))) M).run π d=.ok (U (s.extract 0 k)) d:=λd=>by
     simp_all [run_slice_string_to_if]
    clear hc;go_wp2;go_region_with(go_at_call 78;refine(Ro 44 32 (s.extract (k+1) s.size) _ (by omega)).mono ?_;rintro e w1 ⟨g,t,ws,rfl,(y:aC _),(E:aC _),u⟩)
    all_goals
     go_wp2;go_ret2;obtain⟨o1,o2,o3⟩:=RZ E;refine⟨_,_,ws,Z,?_,?_,⟨_,t,Z,o2,λ_=>⟨g,Z,o1,o3⟩⟩,?_,?_,?_⟩
     ·rw[f.o];exact z.1
     ·rw[f.o,y.o,z.2]
     ·exact x
     ·have:=UZ 44 32 (s.extract (k+1) s.size).toList;rw[<- y.o,List.length_map,cV]at this;omega
     ·exact((x4 w.heap.size w).drew).trans (u.mono (by simp))
   ·have v:((s[k].toNat:ω)==32)=Y:=by
     cases hx:(s[k].toNat:ω)==32
     ·rfl
     ·exact η ((EO _ 32 (by omega)).1 hx) hc
    have q:aC (∀c∈s.toList.take (k+1),c≠32):=by
     intro c n;rw[yT s k hlt]at n
     rcases List.mem_append.1 n with h|h
     ·exact p c h
     grind
    clear hc;go_wp2;go_round;exact⟨k+1,by omega,by go_num,q⟩;simp[ξ];omega
  ·have f:aC (gX s.toList=(s.toList,[])):=Rq _ (by have B:=p.o;rw[x7 (by rw[cV];omega)]at B;exact B);go_wp2;go_ret2;refine⟨s,.slice M 0 0,[],Z,by rw[f.o],by rw[f.o];rfl,⟨M,0,Z,xW _,λh=>η Z h⟩,xW _,by simp,x4 _ _⟩
def chain{α:Type}(l:S u)(T:K->S u)(v:z->α)(d:α):z->z->α
 |0,_=>d
 |n+1,i=>if l=T (i:K)then v i else chain l T v d n (i+1)
theorem LD{α:Type}{l:S u}{T:K->S u}(v:z->α)(d:α):∀(k n i:z),k<n->(∀j,j<k->(l==T ((i+j:z):K))=Y)->(l==T ((i+k:z):K))=G->chain l T v d n i=v (i+k)
 |0,n+1,i,_,_,h=>by rw[chain,if_pos (show l=T (i:K)from eq_of_beq h)];rfl
 |k+1,n+1,i,h,hn,ht=>by
  rw[chain,ζ (show ¬l=T (i:K)from beq_eq_false_iff_ne.1 (hn 0 (by omega))),LD v d k n (i+1) (by omega) λj c=>by grind (by grind)];congr 1;omega
theorem NK{α:Type}{l:S u}{T:K->S u}(v:z->α)(d:α):∀(n i:z),(∀j,j<n->(l==T ((i+j:z):K))=Y)->chain l T v d n i=d
 |0,_,_=>Z
 |n+1,i,hn=>by
  rw[chain,ζ (show ¬l=T (i:K)from beq_eq_false_iff_ne.1 (hn 0 (by omega))),NK v d n (i+1) λj c=>by grind]
theorem UY(h:∀j:z,j<k->(l==T (j:K))=Y)(b:(l==T (k:K))=Y):∀j:z,j<k+1->(l==T (j:K))=Y:=λj c=>by
 grind
def Dh(s:O)(w:ρ):
  Calls π 177 #[U s] w λe f=>e=W (.tuple #[L N (eB s.toList).1,D (eB s.toList).2])/\f=w:=by
 rw[show eB s.toList=chain s.toList nU (λk=>((k:K),G)) (0,Y) 4 0 from rfl];go_in;go_wp2;go_loop [4] (λi=>∃k:z,k<=4/\i=L N k/\aC (∀j:z,j<k->(s.toList==nU (j:K))=Y)) λi=>4-(ξ i).toNat
 case atStart=>exact⟨0,by omega,Z,λj d=>by omega⟩
 case round =>
  obtain⟨k,q,rfl,c⟩:=hrel;by_cases hlt:k<4
  ·have n:(k:K)<4:=by omega
   cases hb:s.toList==nU (k:K)
   all_goals
    have HB:=aD hb;clear hb;go_wp2_with(first|(go_at_call 203;refine(Cc _ _ (by omega) (by omega)).mono ?_;rintro e f ⟨t,rfl,p,rfl⟩;have u:=(show(s.toList==t.toList)=(s.toList==nU (k:K))from by rw[p.1]).trans HB))
   ·go_round;exact⟨k+1,by omega,by go_num,UY c HB⟩;simp[ξ];omega
   ·go_ret2;rw[LD _ _ k _ 0 hlt (λj d=>by rw[xR];exact c.o j d) (by rw[xR];exact HB.o),xR];exact⟨Z,Z⟩
  ·go_wp2;go_ret2;rw[NK _ _ _ 0 λj d=>by rw[xR];exact c.o j (by omega)];exact⟨Z,Z⟩
def Rt(s:O)(w:ρ):
  Calls π 178 #[U s] w λe f=>e=W (.tuple #[L N (gZ s.toList).1,D (gZ s.toList).2])/\f=w:=by
 rw[show gZ s.toList=chain s.toList rR (λk=>((k:K),G)) (0,Y) 3 0 from rfl];go_in;go_wp2;go_loop [4] (λi=>∃k:z,k<=3/\i=L N k/\aC (∀j:z,j<k->(s.toList==rR (j:K))=Y)) λi=>3-(ξ i).toNat
 case atStart=>exact⟨0,by omega,Z,λj d=>by omega⟩
 case round =>
  obtain⟨k,q,rfl,c⟩:=hrel;by_cases hlt:k<3
  ·have n:(k:K)<3:=by omega
   cases hb:s.toList==rR (k:K)
   all_goals
    have HB:=aD hb;clear hb;go_wp2_with(first|(go_at_call 204;refine(Qi _ _).mono ?_;rintro e f ⟨t,rfl,p,rfl⟩;have u:=(show(s.toList==t.toList)=(s.toList==rR (k:K))from by rw[p.1]).trans HB))
   ·go_round;exact⟨k+1,by omega,by go_num,UY c HB⟩;simp[ξ];omega
   ·go_ret2;rw[LD _ _ k _ 0 hlt (λj d=>by rw[xR];exact c.o j d) (by rw[xR];exact HB.o),xR];exact⟨Z,Z⟩
  ·go_wp2;go_ret2;rw[NK _ _ _ 0 λj d=>by rw[xR];exact c.o j (by omega)];exact⟨Z,Z⟩
def Di{e:Func}{R:Ending->ρ->Prop}{a:Act}{p u:Tmp}(g:z)(o:ZD)(d:Value)(c:e.results=#[.cell p 135,.tmp u])(q:a.tmps.getD p undef=.pointer (A ⟨g,0,M⟩))(t:a.tmps.getD u undef=d)(h:w.heap[g]?=A (.cells #[D o.VX,L N o.n] 135 (0,0)))(i:a.defers=[])(f:R (W (.tuple #[.agg #[D o.VX,L N o.n],d])) w):bodyPost π e R .ret a w:=by
 refine bodyPost_ret (v:=.tuple #[.agg #[D o.VX,L N o.n],d]) ?_ i f;rw[results_cell_tmp c,q,t];have:(asAddr (.pointer (A ⟨g,0,M⟩))).run π w=.ok ⟨g,0,M⟩ w:=Z;rw[this,x9,yM w g _ _ _ h _ underlying135 rfl (by kernel_rfl),x9]
def PF{a b:Value}{t:TypeId}(h:w.heap[g]?=A (.cells #[a,b] t (0,0))):g<w.heap.size/\w.cell? ⟨g,0,M⟩=A a/\w.cell? ⟨g,1,M⟩=A b/\w.frozen? ⟨g,0,M⟩=Y/\w.frozen? ⟨g,1,M⟩=Y:=by
 refine⟨dC h,?_,?_,?_,?_⟩<;>simp[World.cell?,World.frozen?,h]
def Ru(s:ν)(w:ρ):
  Calls π 179 #[U s] w λe E=>e=W (.tuple #[.agg #[D (dJ s.toList).1.VX,L N (dJ s.toList).1.n],D (dJ s.toList).2])/\φ w.heap.size w E:=by
 rw[show dJ s.toList=chain s.toList dI (λk=>(⟨Y,(k:ω)⟩,G)) (⟨G,(eB s.toList).1⟩,(eB s.toList).2) 4 0 from rfl];go_in;go_wp2;go_loopw[4] (λi wr=>∃k:ψ,k<=4/\i=L N k/\aC (∀j:ψ,j<k->(s.toList==dI (j:ω))=Y)/\aC (wr.heap[w.heap.size]?=A (.cells #[D Y,L N 0] 135 (0,0)))/\φ w.heap.size w wr) λi _=>4-(ξ i).toNat
 case atStart=>exact⟨0,by omega,Z,λj B=>by omega,heap_alloc_new w _,bB⟩
 case round =>
  obtain⟨k,J,rfl,z,f,c⟩:=hrel;obtain⟨z0,z1,z2,z3,z4⟩:=PF f;have C:=c.size;by_cases hlt:k<4
  ·have H:(k:ω)<4:=by omega
   cases hb:s.toList==dI (k:ω)
   all_goals
    have HB:=aD hb;clear hb;go_wp2_with(first|(go_at_call 205;refine(Ql ⟨Y,(k:ω)⟩ _ (by simp) (by simp;omega)).mono ?_;rintro e F ⟨t,rfl,I,d⟩;have K:=(show(s.toList==t.toList)=(s.toList==dI (k:ω))from by rw[I.1];rfl).trans HB;have y:F.heap[wr.heap.size]?=A (.cells #[D Y,L N (k:ω)] 135 (0,0)):=(d.block _ (by simp)).trans (heap_alloc_new wr _);have q:F.heap[w.heap.size]?=A (.cells #[D Y,L N 0] 135 (0,0)):=(d.block _ (by simp;omega)).trans ((Below.heap_alloc _ _ _ z0).trans f);obtain⟨y0,y1,y2,y3,y4⟩:=PF y;obtain⟨O,S,X,v3,v4⟩:=PF q;have v:=aD q;have x:=aD ((c.alloc C _).trans (d.mono (by simp;omega)));clear y q d))
   ·go_roundw;exact⟨k+1,by omega,by go_num,UY z HB,v,x⟩;simp[ξ];omega
   ·rw[LD _ _ k _ 0 hlt (λj B=>by rw[xR];exact z.o j B) (by rw[xR];exact HB.o),xR];refine Di (p:=2) (u:=3) w.heap.size ⟨Y,(k:ω)⟩ _ (by kernel_rfl) Z Z ?_ Z ⟨Z,?_⟩
    ·rw[cI (cI v.o _ _)];rfl
    ·exact(x.setCell (xW _) _).setCell (xW _) _
  ·go_wp2_with(first|(go_at_call 177;refine(Dh s _).mono ?_;rintro e E ⟨rfl,rfl⟩));rw[NK _ _ _ 0 λj B=>by rw[xR];exact z.o j (by omega)];refine Di (p:=2) (u:=3) w.heap.size ⟨G,(eB s.toList).1⟩ _ (by kernel_rfl) Z Z ?_ Z ⟨Z,?_⟩
   ·rw[cI (cI f.o _ _)];rfl
   ·exact(c.setCell (xW _) _).setCell (xW _) _
namespace P
def Opn(r:Rd):Prop:=∀x∈r.O,0<=x/\x<=r.I
def Dj(h:Opn r)(c:0<=r.I):0<=bJ r/\bJ r<=r.I:=by
 unfold bJ
 cases hl:r.O.getLast? with
 |none=>exact⟨Int.le_refl _,c⟩
 |some x=>exact h x (List.mem_of_getLast? hl)
structure YQ(k:ψ)(r:Rd):Prop where
 good:Good k r
 O:Opn r
 cn:r.count<=k
theorem Rv(b l:K)(h:YQ (k+1) r):YQ (k+1) (lJ r b l).1:=by
 unfold lJ
 split
 ·exact h
 ·rename_i e;have c:=h.good;refine⟨⟨by simp;omega,?_,c.O,c.ifs0,c.ifs1,by simp,c.lin0,c.lin1⟩,h.O,by simp;omega⟩;intro t d;simp at d
  rcases d with d|rfl
  ·exact c.stm t d
  ·simp
theorem Dk(m:K)(h:YQ k r)(d:0<=m)(e:m<=k+1):YQ (k+1) {r with i:=m}:=by
 have c:=h.good;exact⟨⟨c.few,λt f=>by have:=c.stm t f;omega,c.O,c.ifs0,by have:=c.ifs1;simp;omega,c.VY,d,by simpa using e⟩,h.O,by have:=h.cn;simp;omega⟩
theorem Rw(m:K)(E:VW)(h:YQ k r)(n:0<=m)(p:m<=k+1):YQ (k+1) (fS {r with i:=m} E).1:=by
 have f:=h.good;have d:=Dk m h n p;have q:∀(o:S K) (i c:K) (s:VW),V o<=2->0<=i->i<=k+1->0<=c->Good (k+1) (put {r with i:=m,O:=o,I:=i,count:=c} s):=λo i c s v y H z =>
  ⟨by grind [put,Bp,Good.few],Bu _ _ _ f.stm,v,y,by grind [put],z,n,by grind [put]⟩
 have J:=f.ifs1;have t:=f.ifs0;have u:=f.VY;have F:=h.cn;have C:=f.O;unfold fS
 split
 ·exact d
 split
 ·unfold pZ
  split
  ·exact d
  ·refine⟨q _ r.I r.count _ (by simp;omega) t (by omega) u,?_,by grind [put]⟩;intro x e;exact h.O x (List.dropLast_subset _ e)
 split
 ·exact d
 split
 ·split
  ·exact⟨⟨d.good.few,d.good.stm,d.good.O,d.good.ifs0,d.good.ifs1,by simp;omega,d.good.lin0,d.good.lin1⟩,d.O,by simp;omega⟩
  ·rename_i B;unfold branch;rw[ζ B];refine⟨q (r.O++[r.I+1]) (r.I+1) (r.count+1) _ (by grind) (by omega) (by omega) (by omega),?_,by grind [put]⟩;intro x e;simp[put]at e⊢
   rcases e with e|rfl
   ·have:=h.O x e;omega
   ·omega
 ·refine⟨q r.O r.I (r.count+1) _ C t (by omega) (by omega),h.O,by grind [put]⟩
theorem Dl(l:S u)(h:YQ k r)(c:r.i=k):YQ (k+1) (gM {r with i:=r.i+1} l).1:=by
 grind [Dk,gM,Rv,Rw]
def UQ:YQ 0 Rd.WB:=⟨⟨by simp[Rd.WB],by simp[Rd.WB],by simp[Rd.WB],by simp[Rd.WB],by simp[Rd.WB],by simp[Rd.WB],by simp[Rd.WB],by simp[Rd.WB]⟩,by simp[Opn,Rd.WB],by simp[Rd.WB]⟩
end P
structure LoopA(rows:ι ν)(k:ψ)(r:Rd):Prop where
 run:YS Rd.WB ((rows.take k).map xF)=(r,G)
 good:YQ k r
 lin:r.i=k
def Rx(rows:S O):LoopA rows 0 Rd.WB:=⟨by simp[YS],UQ,Z⟩
theorem Ry{rows:S O}(h:LoopA rows k r)(d:k<V rows)(e:(gM {r with i:=r.i+1} rows[k].toList).2=G):
  LoopA rows (k+1) (gM {r with i:=r.i+1} rows[k].toList).1:=by
 have c:=JG {r with i:=r.i+1} rows[k].toList;refine⟨?_,Dl _ h.good h.lin,?_⟩
 ·grind [Bz,Df,LoopA.run]
 grind [LoopA.lin]
theorem Rz{s:O}{rows:S O}{last:O}(n:rows.map xF++[last.toList]=bF 10 s.toList)(h:LoopA rows k r)(o:k<V rows)(e:(gM {r with i:=r.i+1} rows[k].toList).2=Y):
  cW s.toList=([],(k:K)+1):=by
 have d:=JG {r with i:=r.i+1} rows[k].toList;have c:YS Rd.WB ((rows.take (k+1)).map xF)=gM {r with i:=r.i+1} rows[k].toList:=by
  grind [Bz,Df,LoopA.run]
 have f:(bF 10 s.toList).dropLast=(rows.take (k+1)).map xF++(rows.drop (k+1)).map xF:=by
  grind [x5]
 have:=Rh _ Rd.WB ((rows.drop (k+1)).map xF) (by rw[c];exact e);unfold cW;simp only[f,this,c,e];simp only[Bool.false_eq_true,if_false];rw[d.1,h.lin]
theorem R5{s:O}{rows:S O}{last:O}(d:rows.map xF++[last.toList]=bF 10 s.toList)(h:LoopA rows (V rows) r):
  cW s.toList=if last.toList.isEmpty=Y\/V r.H=0\/0<V r.O then([],(V rows:K)+1)else(r.H,0):=by
 have c:=h.run;rw[List.take_length]at c;have e1:last.toList=[]↔last.toList.isEmpty=G:=by grind
 unfold cW;simp only[<- d,List.dropLast_concat,c,List.getLast?_concat,if_true,h.lin]
 congr 1
 grind
theorem R7{ge ce gf cf ga ca gb:ψ}{t:ι J.E}{B al:ι ω}{a:Act}{au:ψ->ψ}{S:ψ->ψ->τ}{R0:Ending->ρ->Prop}(h:YZ w g ge ce gf cf ga ca t B al)(aw:∀i,i<V t->B.getD i 0<(V t:ω))(h3:3<=V t)(hf:TFa a g (V t) gb)(hb:TabAt w gb (V t) au S)(hR:∀(a:Act) (w1:ρ) (gc:ψ) (z:ψ->ψ),φ w.heap.size w w1->TabAt w1 gc (V t) z (λi k=>J.yes (J.nC t B (J.cl (V t) S) (V t) i k))->TFb a g (V t) gc->bC π ((tF f192).drop 9) (bodyPost π f192 R0) a w1):
  bC π ((tF f192).drop 5) (bodyPost π f192 R0) a w:=by
 obtain⟨sz,df,s0,s3,s4⟩:=hf;have hn:=h.n;have H:=aD h;have HB:=aD hb;have HR:=aD hR;have aE:=aD aw;have H3:=aD h3;clear h hR aw h3 hb;rw[eH sz df];simp only[List.range,List.range.loop,List.map_cons,List.map_nil,s0,s3,s4];generalize gA a=f;clear s0 s3 s4 sz df;refine aH Z λar I=>?_;go_wp2_with(first|(go_at_call 143;refine(QV gb (V t) au S _ HB).mono ?_;rintro e w1 ⟨gd,O,rfl,⟨ax,_,_⟩,av⟩;have HD:aC (JTab w1 gd (V t) O (J.cl (V t) S)):=ax;have B1:=aD av;clear ax av));apply I.o;generalize J.cl (V t) S=C at*;refine aH Z λar I=>?_;go_wp2_with(first|(go_at_call 142;refine(GH (V t) _ hn).mono ?_;rintro e w2 ⟨gc,z,rfl,⟨ay,_,ag⟩,am⟩;have aG:=aD ay;have HS:aC (∀i,i<V t->w.heap.size<=z i):=λi hi=>Nat.le_trans B1.size (ag i hi);have ao:aC (∀x,(x=gd\/∃i,i<V t/\x=O i)->∀j,j<V t->x≠z j):=(λx hx j hj e=>by have:=ag j hj;rcases hx with rfl|⟨i,hi,rfl⟩;have:=HD.top.lt;omega;have:=(HD.row i hi).lt;omega);have aB:=aD (HD.X am);have B2:=aD (bT B1 am);clear ay am ag));apply I.o;refine aH Z λar I=>?_;go_wp2;apply I.o;refine aH Z λK HK=>?_;go_wp2_with fail;go_loopw[15] (λq wr=>∃(i:ψ) (F:ψ->ψ->τ),i<=V t/\q=L N i/\aC (JTab wr gc (V t) z F)/\aC (JTab wr gd (V t) O C)/\aC (∀x y,x<V t->y<V t->x<i->F x y=J.yes (J.nC t B C (V t) x y))/\aC (φ w.heap.size w wr)) λq _=>V t-(ξ q).toNat
 case atStart=>exact⟨0,_,x3 _,Z,aG,aB,λx y _ _ h=>η h (Nat.not_lt_zero _),B2⟩
 case round =>
  obtain⟨i,F,hi,rfl,HT,HC,HI,ab⟩:=hrel;by_cases hlt:i<V t
  ·have aM:=lI hlt;go_wp2_with fail;go_loopw[16] (λq wr=>∃(k:ψ) (F:ψ->ψ->τ),k<=V t/\q=L N k/\aC (JTab wr gc (V t) z F)/\aC (JTab wr gd (V t) O C)/\aC (∀x y,x<V t->y<V t->x<i\/x=i/\y<k->F x y=J.yes (J.nC t B C (V t) x y))/\aC (φ w.heap.size w wr)) λq _=>V t-(ξ q).toNat
   case atStart=>exact⟨0,F,x3 _,Z,HT,HC,λx y hx hy h=>HI x y hx hy (by omega),ab⟩
   case round =>
    obtain⟨k,F,hk,rfl,HT,HC,HI,ab⟩:=hrel;by_cases hkt:k<V t
    ·have aN:=lI hkt;go_upto_region 31 with(first|(go_at_call 211;refine(DX g ge ce gf cf ga ca t B al _ (H.X ab) i k hlt hkt).mono ?_;rintro e w3 ⟨rfl,ai⟩;have B3:=aD (bT ab ai);have ah:=aD (HT.X ai);have aj:=aD (HC.X ai);clear ai))
     have HV:aC ((C i k||J.aQ t i k)=J.yes (J.nC t B C 3 i k)):=by
      have:J.nC t B C 3 i k↔(C i k||J.aQ t i k)=G:=⟨λc=>c.resolve_right λ⟨x,h1,h2,_⟩=>by omega,Or.inl⟩;unfold aC;rw[J.dA this]
      cases C i k||J.aQ t i k
      ·simp_all [J.kC]
      simp_all [J.gB]
     go_cut[]from 147 to 225 λwx=>aC (JTab wx gc (V t) z (eX F i k (J.yes (J.nC t B C 3 i k))))/\aC (JTab wx gd (V t) O C)/\aC (φ w.heap.size w wx)
     case first =>
      have KB:=ah.at_;have r1:=KB.row i hlt;have l1:=KB.lg;have l2:=KB.lr i hlt;have b0:=KB.bit i k hlt hkt;have f1:=(ah.row i hlt).free k;have KC:=aj.at_;have r2:=KC.row i hlt;have b2:=KC.bit i k hlt hkt;have l3:=KC.lg;have l4:=KC.lr i hlt;clear KB KC;have aF:aC (∀u,u=(C i k||J.aQ t i k)->JTab (w3.setCell ⟨z i,k,M⟩ (D u)) gc (V t) z (eX F i k (J.yes (J.nC t B C 3 i k)))/\JTab (w3.setCell ⟨z i,k,M⟩ (D u)) gd (V t) O C/\φ w.heap.size w (w3.setCell ⟨z i,k,M⟩ (D u))):=λu hu=>by
       rw[HV.o]at hu;subst hu;exact⟨ah.set i k hlt _,aj.keep λx hx=>xa _ _ _ _ (ao x hx i hlt),B3.setCell (p:=⟨z i,k,M⟩) (HS i hlt) _⟩
      clear HV;generalize aJ:C i k=c1 at*;clear aJ;generalize J.aQ t i k=c2 at*
      rcases LI c1 c2 with rfl|⟨rfl,rfl⟩|⟨rfl,rfl⟩
      all_goals
       go_region;go_wp2_with fail;have HN:=aD (aF.o _ Z);go_meet;exact⟨by first|exact HN.1|exact HN.1.X (eD _ _ _),by first|exact HN.2.1|exact HN.2.1.X (eD _ _ _),by first|exact HN.2.2|exact bT HN.2.2 (eD _ _ _)⟩
     obtain⟨aI,aA,az⟩:=hcut;clear HV ah aj B3;go_wp2_with fail;go_loopw[18] (λq wr=>∃(m:ψ) (v:τ),3<=m/\m<=V t/\q=L N m/\aC (JTab wr gc (V t) z (eX F i k v))/\aC (JTab wr gd (V t) O C)/\aC (v=J.yes (J.nC t B C m i k))/\aC (φ w.heap.size w wr)) λq _=>V t-(ξ q).toNat
     case atStart=>exact⟨3,_,xW _,H3,Z,aI,aA,Z,az⟩
     case round =>
      obtain⟨m,v,aO,hm,rfl,ac,ad,HV,aa⟩:=hrel;have KB:=ac.at_;have r1:=KB.row i hlt;have l1:=KB.lg;have l2:=KB.lr i hlt;have b1:=KB.bit i k hlt hkt;have f1:=(ac.row i hlt).free k;rw[show eX F i k v i k=v by simp[eX]]at b1;clear KB;have ae:aC (v=G\/m=V t->∀x y,x<V t->y<V t->x<i\/x=i/\y<k+1->eX F i k v x y=J.yes (J.nC t B C (V t) x y)):=λc x y hx hy hc=>by
       unfold eX;by_cases d:x=i/\y=k
       ·rw[if_pos d,d.1,d.2]
        rcases c with c|c
        ·rw[c,J.gB (J.tN hm (J.cG.1 (HV.symm.trans c)))]
        ·rw[HV.o,c]
       ·rw[ζ d];exact HI x y hx hy (by omega)
      by_cases hmt:m<V t
      ·have aP:=lI hmt;cases v
       ·have KI:=H.X aa;have he:=KI.e;have lg:=KI.lg;have le:=KI.le;have k1:=(KI.ev m hmt).k;have k2:=(KI.ev i hlt).k;have KC:=ad.at_;have r3:=KC.row m hmt;have b3:=KC.bit m k hmt hkt;have l3:=KC.lg;have l4:=KC.lr m hmt;clear KI KC ae;have af:aC (∀u,u=((J.ev t m).kind.toList==J.kR&&((J.ev t i).kind.toList==J.kW&&(C m k&&J.aL t B i m)))->u=J.yes (J.nC t B C (m+1) i k)):=λu hu=>by
         have n0:¬J.nC t B C m i k:=λc=>by have:=HV.o;rw[J.gB c]at this;cases this
         rw[J.dA (J.sG aO),hu];rw[J.dA (show J.nC t B C m i k\/_↔_ from⟨λc=>c.resolve_left n0,Or.inr⟩)]
         cases(J.ev t m).kind.toList==J.kR<;>cases(J.ev t i).kind.toList==J.kW<;>cases C m k<;>cases J.aL t B i m<;>first|exact(J.kC (by simp)).symm|exact(J.gB (by simp)).symm
        generalize J.ev t m=x1 at*;generalize J.ev t i=x2 at*;generalize aK:C m k=c3 at*;clear aK
        rcases QU (x1.kind.toList==J.kR) (x2.kind.toList==J.kW) c3 with p1|⟨p1,p2⟩|⟨p1,p2,rfl⟩|⟨p1,p2,rfl⟩
        case inr.inr.inl =>
         simp only[J.kR,J.kW]at p1 p2 af;rw[p1,p2]at af;go_wp2_with fail;go_region_with(go_at_call 212;refine(UB g ge ce gf cf ga ca t B al _ (H.X (by first|exact aa.o|exact aa.drew)) i m hlt hmt aE).mono ?_;rintro e w7 ⟨rfl,an⟩;have D7:aC (φ wr.heap.size wr w7):=(by first|exact an|exact((x4 wr.heap.size wr).drew).trans (an.mono (by simp)));have q1:=cK D7 l1 r1;have q2:=cK D7 l2 b1;have q3:=fK D7 l2 f1;have q4:=xb l1 D7.size;have q5:=xb l2 D7.size;clear an)
         all_goals
          have ak:=aD ((ac.X D7).set i k hlt (J.aL t B i m));rw[Rc]at ak;have aq:aC (JTab (w7.setCell ⟨z i,k,M⟩ (D (J.aL t B i m))) gd (V t) O C):=(ad.X D7).keep λx hx=>xa _ _ _ _ (ao x hx i hlt)
          have ap:aC (φ w.heap.size w (w7.setCell ⟨z i,k,M⟩ (D (J.aL t B i m)))):=(bT aa D7).setCell (p:=⟨z i,k,M⟩) (HS i hlt) _;go_wp2_with fail;go_roundw;exact⟨m+1,J.aL t B i m,by omega,by omega,by go_num,by first|exact ak|exact ak.X ((x4 _ _).drew),by first|exact aq|exact aq.X ((x4 _ _).drew),af _ (by simp),by first|exact ap|exact ap.drew⟩;simp[ξ];omega
        all_goals
         simp only[J.kR,J.kW]at p1 af
         try simp only[J.kW]at p2
         go_wp2_with fail;go_roundw;exact⟨m+1,Y,by omega,by omega,by go_num,ac,ad,af _ (by simp[*]),aa⟩;simp[ξ];omega
       ·go_wp2_with fail;go_roundw;exact⟨k+1,_,by omega,by go_num,ac,ad,ae (Or.inl Z),aa⟩;simp[ξ];omega
      ·have aP:¬(m:ω)<V t:=by omega
       go_wp2_with fail;go_roundw;exact⟨k+1,_,by omega,by go_num,ac,ad,ae (Or.inr (by omega)),aa⟩;simp[ξ];omega
    ·have aN:¬(k:ω)<V t:=by omega
     go_wp2_with fail;go_roundw;exact⟨i+1,F,by omega,by go_num,HT,HC,λx y hx hy h=>HI x y hx hy (by omega),ab⟩;simp[ξ];omega
  ·have aM:¬(i:ω)<V t:=by omega
   go_wp2_with fail;apply HK;refine HR _ _ gc z ab ?_ ⟨Z,Z,Z,Z,Z⟩;exact(HT.to λx y hx hy=>HI x y hx hy (by omega)).at_
