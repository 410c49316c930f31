import Derived.Deep.AppendLies
import Derived.WalkSpells
import Derived.Lib.ItoaNum
import Derived.Test.YtlikcongbhhpfaaGreatDoorM01
set_option linter.unusedVariables false
set_option linter.unusedSimpArgs false
set_option maxHeartbeats 12800000
namespace Go.Proofs.YtlikcongbhhpfaaGreatDoor
open Go Go.RowKit Go.Proofs.Tryz P
set_option maxRecDepth 1000000
variable {k:Nat}
open List renaming length->M
open _root_.Array renaming size->L
open Go.World renaming heap->D
open Go.Value renaming string->Y,int->N
open Bool renaming false->C,true->U
open Go.IntKind renaming i64->G
open Option renaming some->E
open Go.Value renaming string->xF,oneCell'->x9
open _root_.ByteArray renaming toList->xR,empty->x0,size_extract->xc
open Nat renaming le_refl->xW,zero_le->x5
open List renaming take_of_length_le->x1,cons_append->x2,length_take->x4,drop_append_of_le_length->xa
open Bool renaming false_eq_true->x3
open Go.World renaming ownsRow_nil->x6,news_of_block->xb
open Go.RowKit.Below renaming refl->x7
open Go.Instr renaming slice->x8
namespace P
def KD(c:UInt8):List UInt8->List (List UInt8)
 |[]=>[[]]
 |x::r=>if x=c then[]::KD c r else match KD c r with
  |h::t=>(x::h)::t
  |[]=>[[x]]
theorem lJ(c:UInt8)(l:List UInt8):KD c l≠[]:=by
 cases l with
 |nil=>simp[KD]
 |cons x r =>
  unfold KD
  split
  ·simp
  ·split<;>simp
theorem qA(c:UInt8)(r:List UInt8):KD c (c::r)=[]::KD c r:=by simp[KD]
theorem mP(c x:UInt8)(r:List UInt8)(h:x≠c)(a:List UInt8)(b:List (List UInt8))(e:KD c r=a::b):KD c (x::r)=(x::a)::b:=by simp[KD,h,e]
theorem SP(c x:UInt8)(l:List UInt8):∀(a:List (List UInt8)) (b:List UInt8),KD c l=a++[b]->KD c (l++[x])=if x=c then a++[b,[]]else a++[b++[x]]:=by
 induction l with
 |nil =>
  intro a b h;simp[KD]at h;have:a=[]/\b=[]:=by
   cases a with
   |nil=>simpa using h
   |cons p q=>simp at h
  obtain⟨rfl,rfl⟩:=this;by_cases hx:x=c<;>simp[KD,hx]
 |cons y r ih =>
  intro a b h;by_cases hy:y=c
  ·subst hy;rw[qA]at h
   cases a with
   |nil =>
    simp at h;exact absurd h.2 (lJ _ _)
   |cons p q =>
    simp at h;obtain⟨rfl,h⟩:=h;have:=ih q b h;rw[x2,qA,this]
    split<;>simp
  ·cases hs:KD c r with
   |nil=>exact absurd hs (lJ _ _)
   |cons p q =>
    rw[mP c y r hy p q hs]at h;rw[x2]
    cases a with
    |nil =>
     simp at h;obtain⟨rfl,rfl⟩:=h;have:=ih [] p (by simpa using hs);by_cases hx:x=c
     ·rw[if_pos hx]at this⊢;rw[mP c y _ hy p [[]] (by simpa using this)];simp
     ·rw[if_neg hx]at this⊢;rw[mP c y _ hy (p++[x]) [] (by simpa using this)];simp
    |cons p' q' =>
     simp at h;obtain⟨rfl,rfl⟩:=h;have:=ih (p::q') b (by simpa using hs);by_cases hx:x=c
     ·rw[if_pos hx]at this⊢;rw[mP c y _ hy p (q'++[b,[]]) (by simpa using this)];simp
     ·rw[if_neg hx]at this⊢;rw[mP c y _ hy p (q'++[b++[x]]) (by simpa using this)];simp
end P
theorem jW(s:ByteArray)(m k:Nat):(s.extract m k).toList=(s.toList.take k).drop m:=by
 rw[jF,jF,List.drop_take];simp
theorem tO(s:ByteArray)(k:Nat)(h:k<s.size):s.toList.take (k+1)=s.toList.take k++[s[k]]:=by
 rw[jF,List.take_succ_eq_append_getElem (by simpa using h)];rfl
theorem Tryz.infoStr:(prog.info? 9).map (fun i=>(i.zero,i.size,i.bytes))=E (E (Y x0),1,16):=by kernel_rfl
theorem IQ(c:UInt8)(s:ByteArray)(k m:Nat)(a:List ByteArray)(d:k<s.size)(h:KD c (s.toList.take k)=a.map xR++[(s.toList.take k).drop m])(b:s[k]=c):
  KD c (s.toList.take (k+1))=(a++[s.extract m k]).map xR++[(s.toList.take (k+1)).drop (k+1)]:=by
 rw[tO s k d,SP _ _ _ _ _ h,if_pos b];simp[jW];omega
theorem IK(c:UInt8)(s:ByteArray)(k m:Nat)(a:List ByteArray)(d:k<s.size)(e:m<=k)(h:KD c (s.toList.take k)=a.map xR++[(s.toList.take k).drop m])(b:¬s[k]=c):
  KD c (s.toList.take (k+1))=a.map xR++[(s.toList.take (k+1)).drop m]:=by
 rw[tO s k d,SP _ _ _ _ _ h,if_neg b];have:m<=(s.toList.take k).length:=by rw[x4,MS];omega
 rw[xa this]
theorem oG(a:UInt8)(n:Nat)(b:n<256):((a.toNat:Int)==(n:Int))=U↔a=UInt8.ofNat n:=by
 rw[SJ a n b];simp
theorem SQ(s:ByteArray)(c:UInt8)(k:Nat)(h:k<s.size):((s.extract k (k+1)).toList==(⟨#[c]⟩:ByteArray).toList)=decide (s[k]=c):=by
 have e:(s.extract k (k+1)).toList=[s[k]]:=by
  rw[jW,tO s k h,xa (by rw[x4,MS];omega),List.drop_of_length_le (by rw[x4];omega)];rfl
 have a:(⟨#[c]⟩:ByteArray).toList=[c]:=by rw[jF]
 rw[e,a];by_cases hc:s[k]=c<;>simp[hc]
theorem SU(c:UInt8)(s:ByteArray)(w:World)(hs:s.size<=8192):
  Calls prog 52 #[Y s,Y ⟨#[c]⟩] w fun e w'=>∃g p,∃I:List ByteArray,e=.returned (JQ g (M I) p)/\I.map xR=KD c s.toList/\
   w'.ownsRow (L (D w)) 9 1 (JQ g (M I) p) (M I) (I.map xF)/\Below (L (D w)) w w':=by
 obtain⟨i0,X,B,F,H⟩:=info_parts Tryz.infoStr;have aa:(⟨#[c]⟩:ByteArray).size=1:=Z;generalize q:(⟨#[c]⟩:ByteArray)=x at*;go_enter func52,ntmps52;go_wp2;go_loopw[5,6,7] (fun v f i wr=>∃k m:Nat,∃n:List ByteArray,k<=s.size/\m<=k/\i=N G k/\f=N G m/\M n<=k/\JP (KD c (s.toList.take k)=n.map xR++[(s.toList.take k).drop m])/\
   wr.ownsRow (L (D w)) 9 1 v (M n) (n.map xF)/\Below (L (D w)) w wr) fun _ _ i _=>s.size-(intOf i).toNat
 case atStart=>exact⟨0,0,[],x5 _,xW _,Z,Z,xW _,by unfold JP;simp[KD],x6 _ _ _ _,x7 _ _⟩
 case round =>
  obtain⟨k,m,n,hk,hm,rfl,rfl,ab,O,b,a⟩:=hrel;have ad:(m:Int)<=(k:Int):=by omega
  by_cases hlt:k<s.size
  ·have z:(k:Int)+1<=(s.size:Int):=by omega
   have ac:∀J,(x8 9 (Y s) (E (N G (k:Int))) (E (N G ((k:Int)+1))) none).run prog J=.ok (Y (s.extract k (k+1))) J:=fun J=>by
    rw[run_slice_string J 9 s G G _ _ underlying9 (by omega) (by omega) (by omega),show (k:Int).toNat=k by omega,show((k:Int)+1).toNat=k+1 by omega]
   by_cases hc:s[k]=c
   ·have hq:((s.extract k (k+1)).toList==x.toList)=U:=by rw[<- q,SQ s c k hlt];simpa using hc
    have HC:=JO hc;go_wp2_with(first
     |(at_builtin;refine wpList_append_lies _ Z (.tmp 38) (.tmp 43) 39 Z (L (D w)) 9 i0 (Y x0) 1 16 underlying39 X B F H Z (by decide) _ _ _ Z (b.alloc _) ⟨L (D wr),0,none⟩ 1 1 [Y (s.extract m k)] Z Z ?c1 ?c2 (by decide) ?c3 ?c4 ?c5 _ Z ?_))
    case c1 =>
     intro j u r
     match j,r with
     |0,r=>simp at r;subst r;simp[Addr.add]
    case c2=>intro u A;simp at A;subst A;rfl
    case c3=>unfold maxLen;omega
    case c4=>omega
    case c5=>have:=a.size;simp;omega
    intro g p W l d T y;have R:=IQ c s k m n hlt O.o HC.o;have K:=JO R;have t:Below (L (D w)) w W:=(a.alloc a.size _).grown d (by have:=a.size;simp;omega) fun j r=>(b.lt j r).1;go_wp2;go_roundw
    case rel=>exact⟨k+1,k+1,n++[s.extract m k],by omega,xW _,by go_num,by go_num,by simp;omega,K,by simpa using l,t⟩
    case measure=>simp[intOf];omega
   ·have hq:((s.extract k (k+1)).toList==x.toList)=C:=by rw[<- q,SQ s c k hlt];simpa using hc
    have K:=JO (IK c s k m n hlt hm O.o hc);go_wp2;go_roundw
    case rel=>exact⟨k+1,m,n,by omega,by omega,by go_num,Z,by omega,K,b,a⟩
    case measure=>simp[intOf];omega
  ·have z:¬(k:Int)+1<=(s.size:Int):=by omega
   have S:JP ((n++[s.extract m s.size]).map xR=KD c s.toList):=by
    have V:k=s.size:=by omega
    subst V;unfold JP;have:=O.o;rw[x1 (by rw[MS];exact xW _)]at this;rw[this];simp[jW,x1,MS]
   go_wp2_with(first
     |(at_builtin;refine wpList_append_lies _ Z (.tmp 49) (.tmp 53) 39 Z (L (D w)) 9 i0 (Y x0) 1 16 underlying39 X B F H Z (by decide) _ _ _ Z (b.alloc _) ⟨L (D wr),0,none⟩ 1 1 [Y (s.extract m s.size)] Z Z ?d1 ?d2 (by decide) ?d3 ?d4 ?d5 _ Z ?_))
   case d2=>first|rfl|(intro u A;simp at A;subst A;rfl)
   case d3=>unfold maxLen;omega
   case d4=>omega
   case d5=>have:=a.size;simp;omega
   intro g p W l d T y;have t:Below (L (D w)) w W:=(a.alloc a.size _).grown d (by have:=a.size;simp;omega) fun j r=>(b.lt j r).1;go_wp2;go_ret;exact⟨g,p,n++[s.extract m s.size],by simp,S.o,by simpa using l,t⟩
theorem FP{w:World}{B g a:Nat}{b:List ByteArray}(h:w.ownsRow B 9 1 (JQ g (M b) a) (M b) (b.map xF)):bM w g 0 b/\M b<=a/\g<L (D w):=by
 refine⟨fun i s e=>?_,?_,(h.lt g Z).2⟩
 ·have o:=(List.getElem?_eq_some_iff.1 e).1;rw[Nat.zero_add,h.cellAt i (by omega)];simp[e]
 ·rcases h.2 with⟨c,_⟩|⟨l,d,f,c,m,n,j,_⟩
  ·simp at c
  ·simp only[Value.slice.injEq]at c;omega
theorem yL(x:ByteArray)(l:List UInt8)(h:x.data.toList=l):x=⟨l.toArray⟩:=by
 subst h;cases x;simp
theorem vR(l:List UInt8):(⟨l.toArray⟩:ByteArray).toList=l:=by rw[jF]
theorem gD(a b:ByteArray):(a++b).toList=a.toList++b.toList:=by
 rw[jF,jF,jF];simp
theorem eK(l:Array UInt8):(⟨l⟩:ByteArray).toList=l.toList:=by rw[jF]
theorem fA(l:Array UInt8):(⟨l⟩:ByteArray).size=l.size:=rfl
def iO(k:Nat)(s:ByteArray)(l:List UInt8):Prop:=s.toList=l/\s.size<=k
theorem iO.size{s:ByteArray}{l:List UInt8}(h:iO k s l):s.size<=k:=h.2
theorem SV(s:ByteArray)(w:World)(hs:s.size<=10000000):
  Calls prog 10 #[Y s] w fun e w'=>∃v,∃r:List ByteArray,e=.returned v/\r.map xR=(KD 10 s.toList).dropLast/\(∀x∈r,x.size<=s.size)/\w'.ownsRow (L (D w)) 9 1 v (M r) (r.map xF)/\Below (L (D w)) w w':=by
 obtain⟨i0,hi,T,V,W⟩:=info_parts Tryz.infoStr;go_enter func10,ntmps10;go_wp2;go_loopw[3,4,5] (fun v f i wr=>∃k m:Nat,∃a:List ByteArray,∃q,v=q/\k<=s.size/\m<=k/\i=N G k/\f=N G m/\M a<=k/\JP (KD 10 (s.toList.take k)=a.map xR++[(s.toList.take k).drop m])/\
   JP (∀x∈a,x.size<=s.size)/\JP (wr.ownsRow (L (D w)) 9 1 q (M a) (a.map xF))/\JP (Below (L (D w)) w wr)) fun _ _ i _=>s.size-(intOf i).toNat
 case atStart=>exact⟨0,0,[],_,Z,x5 _,xW _,Z,Z,xW _,by unfold JP;simp[KD],fun x b=>by simp at b,x6 _ _ _ _,x7 _ _⟩
 case round =>
  obtain⟨k,m,a,q,S,hk,hm,rfl,rfl,ae,H,c,p,HB⟩:=hrel;have S:=S.symm;subst S;have ai:(m:Int)<=(k:Int):=by omega
  by_cases hlt:k<s.size
  ·have ab:(k:Int)<(s.size:Int):=by omega
   have ag:(0:Int)<=(k:Int):=by omega
   have aa:(k:Int)<=(s.size:Int):=by omega
   have ah:(0:Int)<=(m:Int):=by omega
   by_cases hc:s[k]=10
   ·have hq:((s[k].toNat:Int)==10)=U:=by rw[hc];rfl
    have HC:=JO hc;have aj:=HB.o.size;have af:∀y,(x8 9 (Y s) (E (N G (m:Int))) (E (N G (k:Int))) none).run prog y=.ok (Y (s.extract m k)) y:=fun y=>by
     rw[run_slice_string y 9 s G G _ _ underlying9 (by omega) (by omega) (by omega),show (k:Int).toNat=k by omega,show (m:Int).toNat=m by omega]
    have A:JP ((wr.alloc (.cells #[Y (s.extract m k)] 9)).ownsRow (L (D w)) 9 1 q (M a) (a.map xF)):=p.o.alloc _;have z:JP (∀j u,[xF (s.extract m k)][j]?=E u->(wr.alloc (.cells #[Y (s.extract m k)] 9)).cell? ((⟨L (D wr),0,none⟩:Addr).add j)=E u):=xb (cs:=#[Y (s.extract m k)]) (t:=9) (fr:=(0,0)) (heap_alloc_new wr _);go_wp2_with(first
     |(at_builtin;refine wpList_append_lies _ Z (.tmp 16) (.tmp 21) 39 Z (L (D w)) 9 i0 (Y x0) 1 16 underlying39 hi T V W Z (by decide) _ (M a) (a.map xF) Z (by exact A.o) ⟨L (D wr),0,none⟩ 1 1 [Y (s.extract m k)] Z Z (by exact z.o) (by simp[x9]) (by decide) (by unfold maxLen;omega) (by omega) (by simp;omega) _ Z ?_;intro g J w1 l d ad X))
    have F:=JO (IQ 10 s k m a hlt H.o HC.o);have K:JP (Below (L (D w)) w w1):=(HB.o.alloc HB.o.size _).grown d (by have:=HB.o.size;simp;omega) fun j hj=>(p.o.lt j hj).1;have B:JP (w1.ownsRow (L (D w)) 9 1 (JQ g (M a+1) J) (a++[s.extract m k]).length ((a++[s.extract m k]).map xF)):=by unfold JP;simpa using l
    have n:JP (∀x∈a++[s.extract m k],x.size<=s.size):=fun x b=>by
     rcases List.mem_append.1 b with b|b
     ·exact c.o x b
     ·simp at b;subst b;rw[xc];omega
    (try go_wp2)
    go_roundw
    case rel=>exact⟨k+1,k+1,a++[s.extract m k],_,Z,by omega,xW _,by go_num,by go_num,by simp;omega,F,n,B,K⟩
    case measure=>simp[intOf];omega
   ·have hq:((s[k].toNat:Int)==10)=C:=by
     rw[beq_eq_false_iff_ne];intro e;apply hc;apply UInt8.toNat_inj.1;have:s[k].toNat=10:=by omega
     rw[this];rfl
    have F:=JO (IK 10 s k m a hlt hm H.o hc);go_wp2;go_roundw
    case rel=>exact⟨k+1,m,a,_,Z,by omega,by omega,by go_num,Z,by omega,F,c,p,HB⟩
    case measure=>simp[intOf];omega
  ·have ac:decide ((k:Int)<(s.size:Int))=C:=decide_eq_false (by omega);have I:JP (a.map xR=(KD 10 s.toList).dropLast):=by
    have O:k=s.size:=by omega
    subst O;unfold JP;have:=H.o;rw[x1 (by rw[MS];exact xW _)]at this;rw[this];simp
   go_wp2;go_ret;exact⟨_,Z,a,I.o,c.o,p.o,HB.o⟩
namespace P
def kT(a t:List UInt8):Bool:=decide (M t<=M a)&&a.take (M t)==t
end P
theorem Hi(s t:ByteArray)(w:World):
  Calls prog 20 #[Y s,Y t] w fun e d=>e=.returned (.bool (kT s.toList t.toList))/\d=w:=by
 have HB:JP (kT s.toList t.toList=(decide (t.size<=s.size)&&(s.extract 0 t.size).toList==t.toList)):=by
  unfold JP kT;rw[MS,MS,jW,List.drop_zero]
 by_cases h:t.size<=s.size
 ·have c:(t.size:Int)<=(s.size:Int):=by omega
  have b:kT s.toList t.toList=((s.extract 0 t.size).toList==t.toList):=by rw[HB.o,decide_eq_true h,Bool.true_and]
  have a:=JO b;go_enter func20,ntmps20;go_wp2;go_ret;rw[a.o];exact⟨Z,Z⟩
 ·have c:decide ((t.size:Int)<=(s.size:Int))=C:=decide_eq_false (by omega);have b:kT s.toList t.toList=C:=by rw[HB.o,decide_eq_false h,Bool.false_and]
  have a:=JO b;go_enter func20,ntmps20;go_wp2;go_ret;rw[a.o];exact⟨Z,Z⟩
theorem BT(s:ByteArray)(w:World)(hs:s.size<=10000000):
  Calls prog 21 #[Y s] w fun e w'=>∃v,∃T:List ByteArray,e=.returned v/\T.map xR=KD 32 s.toList/\(∀x∈T,x.size<=s.size)/\w'.ownsRow (L (D w)) 9 1 v (M T) (T.map xF)/\Below (L (D w)) w w':=by
 obtain⟨i0,hi,I,J,K⟩:=info_parts Tryz.infoStr;go_enter func21,ntmps21;go_wp2;go_loopw[3,4,5] (fun v f i wr=>∃k m:Nat,∃a:List ByteArray,∃S,v=S/\k<=s.size+1/\m<=k/\i=N G k/\f=N G m/\M a<=k/\JP (k<=s.size->KD 32 (s.toList.take k)=a.map xR++[(s.toList.take k).drop m])/\JP (k=s.size+1->KD 32 s.toList=a.map xR)/\
   JP (∀x∈a,x.size<=s.size)/\JP (wr.ownsRow (L (D w)) 9 1 S (M a) (a.map xF))/\JP (Below (L (D w)) w wr)) fun _ _ i _=>s.size+1-(intOf i).toNat
 case atStart=>exact⟨0,0,[],_,Z,x5 _,xW _,Z,Z,xW _,fun _=>by simp[KD],fun h=>by omega,fun x p=>by simp at p,x6 _ _ _ _,x7 _ _⟩
 case round =>
  obtain⟨k,m,a,S,hv,hk,hm,rfl,rfl,ah,HS,HE,r,B,HB⟩:=hrel;have hv:=hv.symm;subst hv;have am:(m:Int)<=(k:Int):=by omega
  by_cases hlt:k<=s.size
  ·have ai:decide ((k:Int)<=(s.size:Int))=U:=decide_eq_true (by omega);have ak:(0:Int)<=(k:Int):=by omega
   have ae:(k:Int)<=(s.size:Int):=by omega
   have al:(0:Int)<=(m:Int):=by omega
   have d:=JO (HS.o hlt);have an:=HB.o.size;have aj:∀V,(x8 9 (Y s) (E (N G (m:Int))) (E (N G (k:Int))) none).run prog V=.ok (Y (s.extract m k)) V:=fun V=>by
    rw[run_slice_string V 9 s G G _ _ underlying9 (by omega) (by omega) (by omega),show (k:Int).toNat=k by omega,show (m:Int).toNat=m by omega]
   have F:JP ((wr.alloc (.cells #[Y (s.extract m k)] 9)).ownsRow (L (D w)) 9 1 S (M a) (a.map xF)):=B.o.alloc _;have A:JP (∀j u,[xF (s.extract m k)][j]?=E u->(wr.alloc (.cells #[Y (s.extract m k)] 9)).cell? ((⟨L (D wr),0,none⟩:Addr).add j)=E u):=xb (cs:=#[Y (s.extract m k)]) (t:=9) (fr:=(0,0)) (heap_alloc_new wr _);have l:JP (∀x∈a++[s.extract m k],x.size<=s.size):=fun x p=>by
    rcases List.mem_append.1 p with p|p
    ·exact r.o x p
    ·simp at p;subst p;rw[xc];omega
   by_cases he:k=s.size
   ·have ad:((k:Int)==(s.size:Int))=U:=by simp[he]
    have aa:JP (KD 32 s.toList=(a++[s.extract m k]).map xR):=by
     unfold JP;have h1:=d.o;rw[he,x1 (by rw[MS];exact xW _)]at h1;rw[h1];simp[jW,he];rw[x1 (by rw[MS];exact xW _)]
    have W:=JO he;clear he d;go_wp2_with(first
     |(at_builtin;refine wpList_append_lies _ Z (.tmp 22) (.tmp 27) 39 Z (L (D w)) 9 i0 (Y x0) 1 16 underlying39 hi I J K Z (by decide) _ (M a) (a.map xF) Z (by exact F.o) ⟨L (D wr),0,none⟩ 1 1 [Y (s.extract m k)] Z Z (by exact A.o) (by simp[x9]) (by decide) (by unfold maxLen;omega) (by omega) (by simp;omega) _ Z ?_;intro g y O c b ac H))
    have z:JP (Below (L (D w)) w O):=(HB.o.alloc HB.o.size _).grown b (by have:=HB.o.size;simp;omega) fun j hj=>(B.o.lt j hj).1;have q:JP (O.ownsRow (L (D w)) 9 1 (JQ g (M a+1) y) (a++[s.extract m k]).length ((a++[s.extract m k]).map xF)):=by unfold JP;simpa using c
    (try go_wp2)
    go_roundw
    case rel=>exact⟨k+1,k+1,a++[s.extract m k],_,Z,by omega,xW _,by go_num,by go_num,by simp;omega,fun h=>by have:=W.o;omega,fun _=>aa.o,l,q,z⟩
    case measure=>simp[intOf];omega
   ·have ad:((k:Int)==(s.size:Int))=C:=by rw[beq_eq_false_iff_ne];omega
    have n:k<s.size:=by omega
    have af:(k:Int)<(s.size:Int):=by omega
    by_cases hc:s[k]=32
    ·have hq:((s[k].toNat:Int)==32)=U:=by rw[hc];rfl
     have X:=JO (IQ 32 s k m a n d.o hc);go_wp2_with(first
      |(at_builtin;refine wpList_append_lies _ Z (.tmp 22) (.tmp 27) 39 Z (L (D w)) 9 i0 (Y x0) 1 16 underlying39 hi I J K Z (by decide) _ (M a) (a.map xF) Z (by exact F.o) ⟨L (D wr),0,none⟩ 1 1 [Y (s.extract m k)] Z Z (by exact A.o) (by simp[x9]) (by decide) (by unfold maxLen;omega) (by omega) (by simp;omega) _ Z ?_;intro g y O c b ac H))
     have z:JP (Below (L (D w)) w O):=(HB.o.alloc HB.o.size _).grown b (by have:=HB.o.size;simp;omega) fun j hj=>(B.o.lt j hj).1;have q:JP (O.ownsRow (L (D w)) 9 1 (JQ g (M a+1) y) (a++[s.extract m k]).length ((a++[s.extract m k]).map xF)):=by unfold JP;simpa using c
     (try go_wp2)
     go_roundw
     case rel=>exact⟨k+1,k+1,a++[s.extract m k],_,Z,by omega,xW _,by go_num,by go_num,by simp;omega,fun _=>X.o,fun h=>by omega,l,q,z⟩
     case measure=>simp[intOf];omega
    ·have hq:((s[k].toNat:Int)==32)=C:=by
      rw[beq_eq_false_iff_ne];intro e;apply hc;apply UInt8.toNat_inj.1;have:s[k].toNat=32:=by omega
      rw[this];rfl
     have X:=JO (IK 32 s k m a n hm d.o hc);go_wp2;go_roundw
     case rel=>exact⟨k+1,m,a,_,Z,by omega,by omega,by go_num,Z,by omega,fun _=>X.o,fun h=>by omega,r,B,HB⟩
     case measure=>simp[intOf];omega
  ·have ag:decide ((k:Int)<=(s.size:Int))=C:=decide_eq_false (by omega);have ab:JP (a.map xR=KD 32 s.toList):=(HE.o (by omega)).symm;go_wp2;go_ret;exact⟨_,Z,a,ab.o,r.o,B.o,HB.o⟩
namespace P
structure JV where
 block:Int
 i:Int
 S:List JR
structure Rd where
 H:List JV
 i:Int
 count:Int
 I:Int
 O:List Int
 most:Int
def Rd.zero:Rd:=⟨[],0,0,0,[],8⟩
def eR:List JV->JR->List JV
 |[],_=>[]
 |[t],s=>[{t with S:=t.S++[s]}]
 |t::u::r,s=>t::eR (u::r) s
theorem wG(c:List JV)(t:JV)(s:JR):eR (c++[t]) s=c++[{t with S:=t.S++[s]}]:=by
 induction c with
 |nil=>rfl
 |cons a r ih=>cases r with
  |nil=>rfl
  |cons b q=>simpa[eR]using ih
theorem uO(a:List JV)(s:JR):(eR a s).length=M a:=by
 match a with
 |[]=>rfl
 |[_]=>rfl
 |t::u::r=>simpa[eR]using uO (u::r) s
def put(r:Rd)(s:JR):Rd:={r with H:=eR r.H s}
def ends(r:Rd)(s:JR):Rd×Bool :=
 match r.O.getLast? with
 |none=>(r,C)
 |some l=>(put {r with O:=r.O.dropLast} {s with label:=l},U)
def gI(r:Rd)(s:JR):Rd×Bool :=
 if 2<=M r.O then(r,C)else(put {r with I:=r.I+1,O:=r.O++[r.I+1]} {s with label:=r.I+1},U)
def eW(r:Rd)(ws:List (List UInt8)):Rd×Bool :=
 if 4<=M r.H\/0<M r.O then(r,C)
 else match ws with
  |[_,[c]]=>if(cH c 2).2 then({r with H:=r.H++[⟨(cH c 2).1,r.i,[]⟩],count:=0},U)else(r,C)
  |_=>(r,C)
def MD(r:Rd)(ws:List (List UInt8)):Rd×Bool :=
 if ws.head?==E [116,104,114,101,97,100]then eW r ws
 else if r.H.isEmpty then(r,C)
 else
  let st:={(cI ws).1 with i:=r.i}
  if(cI ws).2 then
   if st.k==11 then ends r st
   else if 8<=r.count then(r,C)
   else if st.k==10 then
    if 2<=M r.O then({r with count:=r.count+1},C)else gI {r with count:=r.count+1} st
   else(put {r with count:=r.count+1} st,U)
  else(r,C)
def fB(r:Rd)(b l:Int):Rd×Bool :=
 if 4<=M r.H\/0<M r.O then(r,C)else({r with H:=r.H++[⟨b,l,[]⟩],count:=0},U)
def cZ(r:Rd)(st:JR):Rd×Bool :=
 if r.H.isEmpty then(r,C)
 else if st.k==11 then ends r st
 else if r.most<=r.count then(r,C)
 else if st.k==10 then
  if 2<=M r.O then({r with count:=r.count+1},C)else gI {r with count:=r.count+1} st
 else(put {r with count:=r.count+1} st,U)
theorem SX(r:Rd)(a:List UInt8)(c:UInt8):eW r [a,[c]]=if(cH c 2).2 then fB r (cH c 2).1 r.i else(r,C):=by
 unfold eW fB;by_cases h:4<=M r.H\/0<M r.O
 ·simp only[if_pos h];split<;>rfl
 ·simp only[if_neg h]
theorem CQ(r:Rd)(c:List UInt8)(a:List (List UInt8))(h:(c==[116,104,114,101,97,100])=C)(d:r.most=8):
  MD r (c::a)=if(cI (c::a)).2 then cZ r {(cI (c::a)).1 with i:=r.i}else(r,C):=by
 have b:((c::a).head?==E [116,104,114,101,97,100])=C:=by simpa using h
 unfold MD cZ;rw[b,d];simp only[x3,if_false]
 cases ht:r.H.isEmpty
 ·simp only[x3,if_false]
 ·simp
theorem SY(r:Rd)(b l:Int):(fB r b l).1.i=r.i/\(fB r b l).1.most=r.most:=by
 unfold fB;split<;>exact⟨Z,Z⟩
theorem Hj(r:Rd)(s:JR):(ends r s).1.i=r.i/\(ends r s).1.most=r.most:=by
 unfold ends;split<;>exact⟨Z,Z⟩
theorem Hk(r:Rd)(s:JR):(gI r s).1.i=r.i/\(gI r s).1.most=r.most:=by
 unfold gI;split<;>exact⟨Z,Z⟩
theorem ED(r:Rd)(s:JR):(cZ r s).1.i=r.i/\(cZ r s).1.most=r.most:=by
 unfold cZ
 split
 ·exact⟨Z,Z⟩
 split
 ·exact Hj r s
 split
 ·exact⟨Z,Z⟩
 split
 ·split
  ·exact⟨Z,Z⟩
  ·exact Hk _ s
 ·exact⟨Z,Z⟩
theorem Hl(r:Rd)(a:List (List UInt8)):(eW r a).1.i=r.i/\(eW r a).1.most=r.most:=by
 unfold eW
 split
 ·exact⟨Z,Z⟩
 split
 ·split<;>exact⟨Z,Z⟩
 ·exact⟨Z,Z⟩
theorem tC(r:Rd)(b:List (List UInt8))(a:r.most=8):(MD r b).1.i=r.i/\(MD r b).1.most=8:=by
 cases b with
 |nil =>
  unfold MD;simp only[List.head?_nil];have:((none:Option (List UInt8))==E [116,104,114,101,97,100])=C:=Z;rw[this];simp only[x3,if_false];have e:(cI []).2=C:=by rfl
  rw[e];simp only[x3,if_false]
  split<;>exact⟨Z,a⟩
 |cons c rs =>
  cases h:c==[116,104,114,101,97,100]
  ·rw[CQ r c rs h a]
   split
   ·have:=ED r {(cI (c::rs)).1 with i:=r.i};exact⟨this.1,this.2.trans a⟩
   ·exact⟨Z,a⟩
  ·have d:((c::rs).head?==E [116,104,114,101,97,100])=U:=by simpa using h
   unfold MD;rw[d,if_pos rfl];have:=Hl r (c::rs);exact⟨this.1,this.2.trans a⟩
def LZ(r:Rd):List (List UInt8)->Rd×Bool
 |[]=>(r,U)
 |x::xs =>
  if(MD {r with i:=r.i+1} (KD 32 x)).2 then LZ (MD {r with i:=r.i+1} (KD 32 x)).1 xs
  else((MD {r with i:=r.i+1} (KD 32 x)).1,C)
theorem SZ(b:List (List UInt8)):∀(r a:Rd) (x:List UInt8),LZ r b=(a,U)->LZ r (b++[x])=MD {a with i:=a.i+1} (KD 32 x):=by
 induction b with
 |nil =>
  intro r a x h;simp[LZ]at h;subst h;simp only[List.nil_append,LZ]
  cases ht:(MD {r with i:=r.i+1} (KD 32 x)).2
  ·simp[<- ht]
  ·simp[<- ht]
 |cons y ys ih =>
  intro r a x h;simp only[LZ]at h;simp only[x2,LZ]
  cases ht:(MD {r with i:=r.i+1} (KD 32 y)).2
  ·simp[ht]at h
  ·simp only[ht,if_true]at h⊢;exact ih _ _ _ h
theorem Hm(a:List (List UInt8)):∀(r:Rd) (b:List (List UInt8)),(LZ r a).2=C->LZ r (a++b)=LZ r a:=by
 induction a with
 |nil=>intro r b h;simp[LZ]at h
 |cons y zs ih =>
  intro r b h;simp only[x2,LZ]at h⊢
  cases ht:(MD {r with i:=r.i+1} (KD 32 y)).2
  ·simp
  ·simp only[ht,if_true]at h⊢;exact ih _ _ h
def aT(l:List UInt8):List JV×Int :=
 let q:=LZ Rd.zero (KD 10 l).dropLast
 if q.2 then
  if(KD 10 l).getLast?≠E []\/q.1.O≠[]\/q.1.H=[]then([],q.1.i+1)else(q.1.H,0)
 else([],q.1.i)
theorem kM{α:Type}(l:List α)(k:Nat)(h:k<M l):l.drop k=l[k]::l.drop (k+1):=List.drop_eq_getElem_cons h
theorem wM(c:UInt8)(l:List UInt8):(KD c l).length<=M l+1:=by
 induction l with
 |nil=>simp[KD]
 |cons x r ih =>
  unfold KD
  split
  ·simp;omega
  ·split
   ·rename_i h t e;rw[e]at ih;simp at ih⊢;omega
   ·simp
structure Good(k:Nat)(r:Rd):Prop where
 few:M r.H<=4
 stm:∀t∈r.H,M t.S<=k
 O:M r.O<=2
 ifs0:0<=r.I
 ifs1:r.I<=k
 JU:0<=r.count
 lin0:0<=r.i
 lin1:r.i<=k
theorem BE:Good 0 Rd.zero:=⟨by simp[Rd.zero],by simp[Rd.zero],by simp[Rd.zero],by simp[Rd.zero],by simp[Rd.zero],by simp[Rd.zero],by simp[Rd.zero],by simp[Rd.zero]⟩
theorem CL(d:List JV)(s:JR)(k:Nat)(h:∀t∈d,M t.S<=k):∀t∈eR d s,M t.S<=k+1:=by
 match d,h with
 |[],h=>intro t c;simp[eR]at c
 |[a],h =>
  intro t c;simp[eR]at c;subst c;have:=h a (by simp);simp;omega
 |a::b::r,h =>
  intro t c;simp only[eR,List.mem_cons]at c
  rcases c with rfl|c
  ·have:=h t (by simp);omega
  ·exact CL (b::r) s k (fun t c=>h t (by simp at c⊢;right;exact c)) t c
theorem TA{r:Rd}(p:List (List UInt8))(h:Good k r)(e:r.i+1<=k+1):Good (k+1) (MD {r with i:=r.i+1} p).1:=by
 have a:Good (k+1) {r with i:=r.i+1}:=⟨h.few,fun t b=>by have:=h.stm t b;omega,h.O,h.ifs0,by have:=h.ifs1;simp;omega,h.JU,by have:=h.lin0;simp;omega,by simpa using e⟩;have d:∀(o:List Int) (i c:Int) (s:JR),M o<=2->0<=i->i<=k+1->0<=c->Good (k+1) (put {r with i:=r.i+1,O:=o,I:=i,count:=c} s):=fun o i c s g j m n =>
  ⟨by simp only[put,uO];exact h.few,CL _ _ _ h.stm,g,j,by simpa[put]using m,n,a.lin0,a.lin1⟩
 unfold MD
 split
 ·unfold eW;by_cases hf':4<=M r.H\/0<M r.O
  ·rw[if_pos (by exact hf')];exact a
  ·rw[if_neg (by exact hf')]
   split
   ·split
    ·
     refine⟨by simp;omega,?_,a.O,a.ifs0,a.ifs1,by simp,a.lin0,a.lin1⟩;intro t b;simp at b
     rcases b with b|rfl
     ·exact a.stm t b
     ·simp
    ·exact a
   ·exact a
 ·split
  ·exact a
  ·simp only[]
   split
   ·split
    ·unfold ends
     split
     ·exact a
     ·rename_i l e;refine d _ r.I r.count _ ?_ h.ifs0 (by have:=h.ifs1;omega) h.JU;have:=h.O;simp;omega
    ·split
     ·exact a
     ·split
      ·split
       ·exact⟨a.few,a.stm,a.O,a.ifs0,a.ifs1,by have:=h.JU;simp;omega,a.lin0,a.lin1⟩
       ·rename_i f;unfold gI;rw[if_neg f];refine d _ _ _ _ ?_ (by have:=h.ifs0;simp;omega) (by have:=h.ifs1;simp;omega) (by have:=h.JU;simp;omega);simp at f⊢;omega
      ·exact d r.O r.I _ _ h.O h.ifs0 (by have:=h.ifs1;omega) (by have:=h.JU;omega)
   ·exact a
def dK(n:Int):List UInt8:=Lib.decDigits n.toNat
def cS(n:Int):List UInt8:=[37,114]++dK n
def TB(v:Int):List UInt8:=if v==0 then[120]else if v==1 then[121]else[122]
def dY(o:MR):List UInt8:=if o.KI then cS o.n else dK o.n
def yP(o:Int):List UInt8 :=
 if o==1 then[114,101,108,97,120,101,100]else if o==2 then[97,99,113,117,105,114,101]else if o==3 then[114,101,108,101,97,115,101]
 else if o==4 then[97,99,113,95,114,101,108]else[115,99]
def sO(st:JR):List UInt8 :=
 if st.q==0 then[46,119,101,97,107]else[46]++yP st.q++if st.scope==0 then[46,99,116,97]else[46,103,112,117]
def eB(v:Int):List UInt8:=[91]++TB v++[93]
def fE(n:Int):List UInt8:=[76]++dK n
def dS(st:JR):List UInt8 :=
 if st.k==0 then[108,100]++sO st++[32]++cS st.dest++[44,32]++eB st.z
 else if st.k==1 then[115,116]++sO st++[32]++eB st.z++[44,32]++dY st.a
 else if st.k==2 then[97,116,111,109,46,97,100,100]++sO st++[32]++cS st.dest++[44,32]++eB st.z++[44,32]++dY st.a
 else if st.k==3 then[97,116,111,109,46,101,120,99,104]++sO st++[32]++cS st.dest++[44,32]++eB st.z++[44,32]++dY st.a
 else if st.k==4 then[102,101,110,99,101]++sO st
 else if st.k==5 then[98,97,114,46,115,121,110,99]
 else if st.k==6 then[109,111,118,32]++cS st.dest++[44,32]++dY st.a
 else if st.k==7 then[97,100,100,32]++cS st.dest++[44,32]++dY st.a++[44,32]++dY st.b
 else if st.k==8 then[115,117,98,32]++cS st.dest++[44,32]++dY st.a++[44,32]++dY st.b
 else if st.k==9 then[115,101,116,101,113,32]++cS st.dest++[44,32]++dY st.a++[44,32]++dY st.b
 else if st.k==11 then fE st.label++[58]
 else[98,122,32]++dY st.a++[44,32]++fE st.label
def iT:List JR->List UInt8
 |[]=>[]
 |s::r=>dS s++[10]++iT r
def sZ(t:JV):List UInt8:=[46,116,104,114,101,97,100,32]++dK t.block++[10]++iT t.S
def write:List JV->List UInt8
 |[]=>[]
 |t::r=>sZ t++write r
structure NY(st:JR):Prop where
 d0:0<=st.dest
 d1:st.dest<100
 a0:0<=st.a.n
 a1:st.a.n<100
 b0:0<=st.b.n
 b1:st.b.n<100
 l0:0<=st.label
 l1:st.label<100
theorem Hn(n:Int)(h:n<100):(dK n).length<=2:=by
 have:∀i:Fin 100,(Lib.decDigits i.1).length<=2:=by decide +kernel
 unfold dK;by_cases h0:0<=n
 ·exact this ⟨n.toNat,by omega⟩
 ·rw[show n.toNat=0 by omega];exact this ⟨0,by omega⟩
def OL(k:Int):Bool:=k==0||k==1||k==2||k==3
def TD(k:Int):Bool:=k==6||k==7||k==8||k==9
end P
end Go.Proofs.YtlikcongbhhpfaaGreatDoor
