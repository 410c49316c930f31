import Derived.Test.YtlikcongbhhpfaaGreatDoorM09
set_option linter.unusedVariables false
set_option linter.unusedSimpArgs false
set_option maxHeartbeats 12800000
namespace Go.Proofs.YtlikcongbhhpfaaGreatDoor
open Go Go.RowKit Go.Proofs.Tryz P Q
set_option maxRecDepth 1000000
variable {a b:UInt8}{s:List UInt8}{j m:Nat}{bs:List (List UInt8)}{w:World}
open List renaming length->X
open _root_.Array renaming size->F
open Go.World renaming heap->S
open Bool renaming false->Y,true->G
open Go.Value renaming string->C,int->U,bool->D
open Go.IntKind renaming i64->E
open Option renaming none->N,some->M
open Go.Ending renaming returned->L
open Nat renaming le_refl->xF,zero_le->x0
open _root_.ByteArray renaming toList->xR,empty->xa
open List renaming take_of_length_le->xW,take_append_drop->x2,length_take->x3,cons_append->x5,drop_of_length_le->x6,drop_eq_getElem_cons->x7,drop_append_of_le_length->x8,map_append->x9
open Go.RowKit.Below renaming refl->x1,heap_alloc->xc
open Go.Instr renaming slice->x4
open Go.Result renaming andThen_ok->xb
namespace P
def eF(a b:UInt8):List UInt8->List (List UInt8)
 |[]=>[[]]
 |[x]=>[[x]]
 |x::y::r=>if x=a/\y=b then[]::eF a b r else match eF a b (y::r)with
  |h::t=>(x::h)::t
  |[]=>[[x]]
def mU(c:List UInt8):List (List UInt8)->List (List UInt8)
 |h::t=>(c++h)::t
 |[]=>[c]
theorem zC(a b:UInt8):∀l:List UInt8,eF a b l≠[]
 |[]=>by simp[eF]
 |[x]=>by simp[eF]
 |x::y::r=>by
  unfold eF
  split
  ·simp
  ·split<;>simp
theorem UO(a b:UInt8)(r:List UInt8):eF a b (a::b::r)=[]::eF a b r:=by simp[eF]
theorem IS(a b x:UInt8)(q:List UInt8)(h:¬(x=a/\q.head?=M b)):eF a b (x::q)=mU [x] (eF a b q):=by
 cases q with
 |nil=>simp[eF,mU]
 |cons y r =>
  have c:¬(x=a/\y=b):=fun e=>h ⟨e.1,by simp[e.2]⟩
  rw[eF,if_neg c]
  cases hs:eF a b (y::r)with
  |nil=>exact absurd hs (zC _ _ _)
  |cons p t=>rfl
theorem Kd(c d:List UInt8)(l:List (List UInt8))(h:l≠[]):mU c (mU d l)=mU (c++d) l:=by
 cases l with
 |nil=>exact absurd Z h
 |cons p t=>simp[mU]
theorem UP(l:List (List UInt8))(h:l≠[]):mU [] l=l:=by
 cases l with
 |nil=>exact absurd Z h
 |cons p t=>simp[mU]
theorem Ke(a b:UInt8)(l:List UInt8)(h:X l<=1):eF a b l=[l]:=by
 match l,h with
 |[],_=>rfl
 |[x],_=>rfl
theorem BS(a b:UInt8):∀(l:List UInt8),(eF a b l).length<=X l+1
 |[]=>by simp[eF]
 |[x]=>by simp[eF]
 |x::y::r=>by
  unfold eF;have d:=BS a b r;have c:=BS a b (y::r)
  split
  ·simp;omega
  ·split
   ·rename_i e;rw[e]at c;simp at c⊢;omega
   ·simp
def lH(l:List UInt8):List UInt8×List (List UInt8):=
 (l.takeWhile fun c=>c != 32,if l.any fun c=>c==32 then eF 44 32 ((l.dropWhile fun c=>c != 32).drop 1)else[])
def fK(w:List UInt8):Int×Bool:=if w=cS 0 then(0,G)else if w=cS 1 then(1,G)else if w=cS 2 then(2,G)else if w=cS 3 then(3,G)else(0,Y)
def jQ(w:List UInt8):Int×Bool:=if w=eB 0 then(0,G)else if w=eB 1 then(1,G)else if w=eB 2 then(2,G)else(0,Y)
def eJ(w:List UInt8):MR×Bool :=
 if w=dK 0 then(⟨Y,0⟩,G)else if w=dK 1 then(⟨Y,1⟩,G)else if w=dK 2 then(⟨Y,2⟩,G)else if w=dK 3 then(⟨Y,3⟩,G)else(⟨G,(fK w).1⟩,(fK w).2)
def iP(kind:Int)(w:List UInt8):Nat->Nat->Option (Int×Int)
 |0,_=>N
 |f+1,k=>if OQ kind ((k/2:Nat):Int)&&w==kG ((k/2:Nat):Int) ((k%2:Nat):Int)then M (((k/2:Nat):Int),((k%2:Nat):Int))else iP kind w f (k+1)
def fX(st:JR)(w:List UInt8):JR×Bool :=
 if NI st.k then match iP st.k w 12 0 with
  |some (o,s)=>({st with q:=o,scope:=s},G)
  |none=>(st,Y)
 else(st,w==[])
def fN(st:JR)(c:UInt8)(w:List UInt8):JR×Bool :=
 if c=100 then({st with dest:=(fK w).1},(fK w).2)
 else if c=118 then({st with z:=(jQ w).1},(jQ w).2)
 else if c=97 then({st with a:=(eJ w).1},(eJ w).2)
 else if c=98 then({st with b:=(eJ w).1},(eJ w).2)
 else(st,w==fE st.label)
def lC(st:JR):List UInt8->List (List UInt8)->JR×Bool
 |c::cs,w::ws=>if(fN st c w).2 then lC (fN st c w).1 cs ws else(JR.zero,Y)
 |_,_=>(st,G)
def jK(st:JR)(cs:List UInt8)(ws:List (List UInt8)):JR×Bool :=
 if X cs != X ws then(JR.zero,Y)else lC st cs ws
def iV(first:List UInt8)(ops:List (List UInt8))(next:Int):Nat->Int->JR×Bool
 |0,_=>(JR.zero,Y)
 |f+1,k =>
  if(LI k).1.isPrefixOf first then
   let st:JR:=if k==10 then{JR.zero with k:=k,label:=next}else{JR.zero with k:=k}
   if(fX st (first.drop (LI k).1.length)).2 then jK (fX st (first.drop (LI k).1.length)).1 (LI k).2 ops
   else iV first ops next f (k+1)
  else iV first ops next f (k+1)
def cV(l:List UInt8)(next:Int):JR×Bool:=iV (lH l).1 (lH l).2 next 11 0
def eQ(b:Int):List UInt8:=[46,116,104,114,101,97,100,32]++dK b
def eT(r:Rd):Int:=r.O.getLast?.getD 0
def dA(r:Rd)(l:List UInt8):Rd×Bool :=
 if l=eQ 0 then fB r 0 r.i else if l=eQ 1 then fB r 1 r.i
 else if eT r != 0&&l==fE (eT r)++[58]then cZ r {JR.zero with k:=11,i:=r.i}
 else if !(cV l (r.I+1)).2||(cV l (r.I+1)).1.k==5&&eT r != 0 then(r,Y)
 else cZ r {(cV l (r.I+1)).1 with i:=r.i}
def NE(r:Rd):List (List UInt8)->Rd×Bool
 |[]=>(r,G)
 |x::xs=>if(dA {r with i:=r.i+1} x).2 then NE (dA {r with i:=r.i+1} x).1 xs else((dA {r with i:=r.i+1} x).1,Y)
def Rd.KJ:Rd:=⟨[],0,0,0,[],40⟩
def bG(l:List UInt8):List JV×Int :=
 let q:=NE Rd.KJ (KD 10 l).dropLast
 if q.2 then
  if(KD 10 l).getLast?≠M []\/q.1.O≠[]\/q.1.H=[]then([],q.1.i+1)else(q.1.H,0)
 else([],q.1.i)
theorem yH(r:Rd)(l:List UInt8):(dA r l).1.i=r.i/\(dA r l).1.most=r.most:=by
 unfold dA
 split
 ·exact SY _ _ _
 split
 ·exact SY _ _ _
 split
 ·exact ED _ _
 split
 ·exact⟨Z,Z⟩
 ·exact ED _ _
theorem UQ(d:List (List UInt8)):∀(r c:Rd) (x:List UInt8),NE r d=(c,G)->NE r (d++[x])=dA {c with i:=c.i+1} x:=by
 induction d with
 |nil =>
  intro r c x h;simp[NE]at h;subst h;simp only[List.nil_append,NE]
  cases ht:(dA {r with i:=r.i+1} x).2
  ·simp[<- ht]
  ·simp[<- ht]
 |cons y ys ih =>
  intro r c x h;simp only[NE]at h;simp only[x5,NE]
  cases ht:(dA {r with i:=r.i+1} y).2
  ·simp[ht]at h
  ·simp only[ht,if_true]at h⊢;exact ih _ _ _ h
theorem Kf(c:List (List UInt8)):∀(r:Rd) (d:List (List UInt8)),(NE r c).2=Y->NE r (c++d)=NE r c:=by
 induction c with
 |nil=>intro r d h;simp[NE]at h
 |cons y zs ih =>
  intro r d h;simp only[x5,NE]at h⊢
  cases ht:(dA {r with i:=r.i+1} y).2
  ·simp
  ·simp only[ht,if_true]at h⊢;exact ih _ _ h
end P
theorem UR(s:ByteArray)(a b:UInt8)(k:Nat)(h:k+2<=s.size):((s.extract k (k+2)).toList==(⟨#[a,b]⟩:ByteArray).toList)=decide (s.toList.drop k=a::b::s.toList.drop (k+2)):=by
 have e:(s.extract k (k+2)).toList=(s.toList.drop k).take 2:=by
  rw[jW,List.take_drop]
 have d:(⟨#[a,b]⟩:ByteArray).toList=[a,b]:=by rw[jF]
 have c:s.toList.drop k=(s.toList.drop k).take 2++s.toList.drop (k+2):=by
  have:=(x2 2 (s.toList.drop k)).symm
  rwa [List.drop_drop]at this
 rw[e,d];by_cases hc:(s.toList.drop k).take 2=[a,b]
 ·rw[hc]at c⊢;have:s.toList.drop k=a::b::s.toList.drop (k+2):=by rw[c];rfl
  simp[this]
 ·have g:¬s.toList.drop k=a::b::s.toList.drop (k+2):=fun f=>hc (by rw[f];rfl)
  rw[decide_eq_false g];simpa using hc
def kV(a b:UInt8)(s:List UInt8)(m j:Nat)(bs:List (List UInt8)):Prop:=bs++mU ((s.take j).drop m) (eF a b (s.drop j))=eF a b s
theorem Kg(a b:UInt8)(s:List UInt8):kV a b s 0 0 []:=by unfold kV;simp[UP _ (zC a b s)]
theorem Kh(h:kV a b s m j bs)(c:s.drop j=a::b::s.drop (j+2)):kV a b s (j+2) (j+2) (bs++[(s.take j).drop m]):=by
 unfold kV at*;rw[c,UO]at h;rw[<- h];have e:(s.take (j+2)).drop (j+2)=[]:=x6 (by rw[x3];omega);rw[e,UP _ (zC _ _ _)];simp[mU]
theorem Ki(h:kV a b s m j bs)(k:m<=j)(f:j<X s)(i:¬s.drop j=a::b::s.drop (j+2)):kV a b s m (j+1) bs:=by
 unfold kV at*;have e:s.drop j=s[j]::s.drop (j+1):=x7 f;have d:¬(s[j]=a/\(s.drop (j+1)).head?=M b):=by
  rintro⟨g,c⟩;apply i;rw[e,g]
  congr 1
  cases hx:s.drop (j+1)with
  |nil=>rw[hx]at c;simp at c
  |cons y q =>
   rw[hx]at c;simp at c;have:s.drop (j+2)=q:=by rw[show j+2=j+1+1 by omega,<- List.drop_drop,hx];rfl
   rw[this,c]
 rw[e,IS a b _ _ d,Kd _ _ _ (zC _ _ _)]at h;rw[<- h,List.take_succ_eq_append_getElem f,x8 (by rw[x3];omega)]
theorem Kj(h:kV a b s m j bs)(d:m<=j)(c:X s<=j+1):bs++[s.drop m]=eF a b s:=by
 unfold kV at h;rw[Ke a b (s.drop j) (by simp;omega)]at h;rw[<- h];simp only[mU];by_cases hl:j<=X s
 ·rw[<- x8 (by rw[x3];omega),x2]
 ·rw[xW (by omega),x6 (l:=s) (i:=j) (by omega),List.append_nil]
theorem Kk(a b:UInt8)(s:ByteArray)(w:World)(hs:s.size<=8192):
  Calls prog 52 #[C s,C ⟨#[a,b]⟩] w fun e w'=>∃g p,∃T:List ByteArray,e=L (JQ g (X T) p)/\T.map xR=eF a b s.toList/\
   w'.ownsRow (F (S w)) 9 1 (JQ g (X T) p) (X T) (T.map Value.string)/\Below (F (S w)) w w':=by
 obtain⟨i0,hi,J,K,O⟩:=info_parts Tryz.infoStr;have ad:(⟨#[a,b]⟩:ByteArray).size=2:=Z;generalize q:(⟨#[a,b]⟩:ByteArray)=z at*;go_enter func52,ntmps52;go_wp2;go_loopw[5,6,7] (fun v f i wr=>∃k m:Nat,∃bs:List ByteArray,k<=s.size/\m<=k+1/\m<=s.size/\i=U E k/\f=U E m/\X bs<=k/\JP (kV a b s.toList m (max k m) (bs.map xR))/\
   wr.ownsRow (F (S w)) 9 1 v (X bs) (bs.map Value.string)/\Below (F (S w)) w wr) fun _ _ i _=>s.size-(intOf i).toNat
 case atStart=>exact⟨0,0,[],x0 _,x0 _,x0 _,Z,Z,xF _,Kg _ _ _,World.ownsRow_nil _ _ _ _,x1 _ _⟩
 case round =>
  obtain⟨k,m,bs,hk,hm,ag,rfl,rfl,ae,V,d,c⟩:=hrel;by_cases hlt:k+2<=s.size
  ·have B:(k:Int)+2<=(s.size:Int):=by omega
   have af:∀W,(x4 9 (C s) (M (U E (k:Int))) (M (U E ((k:Int)+2))) N).run prog W=.ok (C (s.extract k (k+2))) W:=fun W=>by
    rw[run_slice_string W 9 s E E _ _ underlying9 (by omega) (by omega) (by omega),show (k:Int).toNat=k by omega,show((k:Int)+2).toNat=k+2 by omega]
   by_cases hmk:m<=k
   ·have ac:(m:Int)<=(k:Int):=by omega
    have H:max k m=k:=by omega
    by_cases hc:s.toList.drop k=a::b::s.toList.drop (k+2)
    ·have hq:((s.extract k (k+2)).toList==z.toList)=G:=by rw[<- q,UR s a b k hlt];simpa using hc
     have y:JP (kV a b s.toList (k+2) (k+2) ((bs++[s.extract m k]).map xR)):=by
      have t:=V.o;rw[H]at t;rw[x9,List.map_cons,List.map_nil,jW];exact Kh t hc
     go_wp2_with(first
      |(at_builtin;refine wpList_append_lies _ Z (.tmp 38) (.tmp 43) 39 Z (F (S w)) 9 i0 (C xa) 1 16 underlying39 hi J K O Z (by decide) _ _ _ Z (d.alloc _) ⟨F (S wr),0,N⟩ 1 1 [C (s.extract m k)] Z Z ?c1 ?c2 (by decide) ?c3 ?c4 ?c5 _ Z ?_))
     case c1 =>
      intro j u r
      match j,r with
      |0,r=>simp at r;subst r;simp[Addr.add]
     case c2=>intro u I;simp at I;subst I;rfl
     case c3=>unfold maxLen;omega
     case c4=>omega
     case c5=>have:=c.size;simp;omega
     intro g p w1 n l ab A;have x:Below (F (S w)) w w1:=(c.alloc c.size _).grown l (by have:=c.size;simp;omega) fun j r=>(d.lt j r).1;go_wp2;go_roundw
     case rel=>exact⟨k+1,k+2,bs++[s.extract m k],by omega,by omega,by omega,by go_num,by go_num,by simp;omega,by rw[show max (k+1) (k+2)=k+2 by omega];exact y,by simpa using n,x⟩
     case measure=>simp[intOf];omega
    ·have hq:((s.extract k (k+2)).toList==z.toList)=Y:=by rw[<- q,UR s a b k hlt];simpa using hc
     have y:JP (kV a b s.toList m (max (k+1) m) (bs.map xR)):=by
      have t:=V.o;rw[H]at t;unfold JP;rw[show max (k+1) m=k+1 by omega];exact Ki t hmk (by rw[MS];omega) hc
     go_wp2;go_roundw
     case rel=>exact⟨k+1,m,bs,by omega,by omega,by omega,by go_num,Z,by omega,y,d,c⟩
     case measure=>simp[intOf];omega
   ·have ac:¬(m:Int)<=(k:Int):=by omega
    have y:JP (kV a b s.toList m (max (k+1) m) (bs.map xR)):=by
     have t:=V.o;unfold JP;rw[show max (k+1) m=max k m by omega];exact t
    go_wp2;go_roundw
    case rel=>exact⟨k+1,m,bs,by omega,by omega,by omega,by go_num,Z,by omega,y,d,c⟩
    case measure=>simp[intOf];omega
  ·have B:¬(k:Int)+2<=(s.size:Int):=by omega
   have ah:(m:Int)<=(s.size:Int):=by omega
   have aa:JP ((bs++[s.extract m s.size]).map xR=eF a b s.toList):=by
    unfold JP;rw[x9,List.map_cons,List.map_nil,jW,xW (by rw[MS];exact xF _)];exact Kj V.o (by omega) (by rw[MS];omega)
   go_wp2_with(first
     |(at_builtin;refine wpList_append_lies _ Z (.tmp 49) (.tmp 53) 39 Z (F (S w)) 9 i0 (C xa) 1 16 underlying39 hi J K O Z (by decide) _ _ _ Z (d.alloc _) ⟨F (S wr),0,N⟩ 1 1 [C (s.extract m s.size)] Z Z ?d1 ?d2 (by decide) ?d3 ?d4 ?d5 _ Z ?_))
   case d2=>first|rfl|(intro u I;simp at I;subst I;rfl)
   case d3=>unfold maxLen;omega
   case d4=>omega
   case d5=>have:=c.size;simp;omega
   intro g p w1 n l ab A;have x:Below (F (S w)) w w1:=(c.alloc c.size _).grown l (by have:=c.size;simp;omega) fun j r=>(d.lt j r).1;go_wp2;go_ret;exact⟨g,p,bs++[s.extract m s.size],by simp,aa.o,by simpa using n,x⟩
theorem US(s:ByteArray)(k:Nat)(h:k<s.size):s.toList[k]'(by rw[MS];exact h)=s[k]:=by
 have e:s.toList=s.data.toList:=jF s;simp only[e];rfl
theorem Kl(l:List UInt8)(k:Nat)(g:k<X l)(i:∀c∈l.take k,c≠32)(d:l[k]=32):lH l=(l.take k,eF 44 32 (l.drop (k+1))):=by
 have e:l=l.take k++32::l.drop (k+1):=by
  conv=>lhs;rw[<- x2 k l]
  rw[x7 g,d]
 have f:∀(p q:List UInt8),(∀c∈p,c≠32)->(p++32::q).takeWhile fun c=>c != 32=p/\(p++32::q).dropWhile fun c=>c != 32=32::q/\(p++32::q).any fun c=>c==32=G:=by
  intro p q
  induction p with
  |nil=>intro _;simp
  |cons x r ih =>
   intro h;have n:x≠32:=h x (by simp);obtain⟨a,b,c⟩:=ih fun c d=>h c (by simp[d]);simp[n,a,b]
 obtain⟨a,b,c⟩:=f (l.take k) (l.drop (k+1)) i;unfold lH;rw[<- e]at a b c;rw[a,b,c];simp
theorem Km(l:List UInt8)(e:∀c∈l,c≠32):lH l=(l,[]):=by
 unfold lH;have f:l.takeWhile fun c=>c != 32=l:=by
  induction l with
  |nil=>rfl
  |cons x r ih=>have i:x≠32:=e x (by simp);simp[i,ih fun c d=>e c (by simp[d])]
 have g:l.any fun c=>c==32=Y:=by
  rw[List.any_eq_false];intro c d;simpa using e c d
 rw[f,g];rfl
def tX(w:World)(v:Value)(ws:List ByteArray):Prop:=∃a cap,v=.slice a (X ws) cap/\X ws<=cap/\(ws≠[]->∃g,a=M ⟨g,0,N⟩/\bM w g 0 ws/\g<F (S w))
def Kn(s:ByteArray)(w w':World)(e:Ending):Prop:=∃(f:ByteArray) (v:Value) (ws:List ByteArray),e=L (.tuple #[C f,v])/\f.toList=(lH s.toList).1/\ws.map xR=(lH s.toList).2/\tX w' v ws/\f.size<=s.size/\X ws<=8193/\Below (F (S w)) w w'
theorem Ko(s:ByteArray)(w:World)(hs:s.size<=8192):
  Calls prog 165 #[C s] w fun e w'=>Kn s w w' e:=by
 go_enter func165,ntmps165;go_wp2;go_loop [4] (fun i=>∃k:Nat,k<=s.size/\i=U E k/\JP (∀c∈s.toList.take k,c≠32)) fun i=>s.size-(intOf i).toNat
 case atStart=>exact⟨0,x0 _,Z,by unfold JP;simp⟩
 case round =>
  obtain⟨k,hk,rfl,p⟩:=hrel;by_cases hlt:k<s.size
  ·by_cases hc:s[k]=32
   ·have u:((s[k].toNat:Int)==32)=G:=by simp[hc]
    have f:JP (lH s.toList=(s.toList.take k,eF 44 32 (s.toList.drop (k+1)))):=Kl _ k (by rw[MS];exact hlt) p.o (by rw[US s k hlt];exact hc);have T:=UG s (k+1) s.size;have J:(k:Int)<(s.size:Int):=by omega
    have v:((k:Int)+1).toNat=k+1:=by omega
    have I:(0:Int)<=(k:Int):=by omega
    have A:JP ((s.extract 0 k).toList=s.toList.take k/\(s.extract (k+1) s.size).toList=s.toList.drop (k+1)):=by
     unfold JP;rw[jW,jW,xW (i:=s.size) (by rw[MS];exact xF _)];simp
    have y:=UG s 0 k;have V:IntKind.i64.wrap ((k:Int)+1)=(k:Int)+1:=by simp[IntKind.wrap,IntKind.signed,IntKind.bits];omega
    have K:∀d,(x4 9 (C s) (M (U E ((k:Int)+1))) N N).run prog d=.ok (C (s.extract (k+1) s.size)) d:=fun d=>by
     rw[run_slice_string_from_if _ _ _ _ _ underlying9,if_pos (by omega),v]
    have O:∀d,(x4 9 (C s) N (M (U E (k:Int))) N).run prog d=.ok (C (s.extract 0 k)) d:=fun d=>by
     rw[run_slice_string_to_if _ _ _ _ _ underlying9,if_pos (by omega)];rfl
    go_wp2;go_region_with(go_at_call 52;refine(Kk 44 32 (s.extract (k+1) s.size) _ (by omega)).mono ?_;rintro e w1 ⟨g,r,ws,rfl,x,n,t⟩;have z:=JO x;have H:=JO n)
    all_goals
     go_wp2;go_ret2;obtain⟨W,o2,o3⟩:=FP H.o;refine⟨_,_,ws,Z,?_,?_,⟨_,r,Z,o2,fun _=>⟨g,Z,W,o3⟩⟩,?_,?_,?_⟩
     ·rw[f.o];exact A.o.1
     ·rw[f.o,z.o,A.o.2]
     ·exact y
     ·have:=BS 44 32 (s.extract (k+1) s.size).toList;rw[<- z.o,List.length_map,MS]at this;omega
     ·exact((x1 (F (S w)) w).drew).trans (t.mono (by simp))
   ·have u:((s[k].toNat:Int)==32)=Y:=by
     cases hx:(s[k].toNat:Int)==32
     ·rfl
     ·exact absurd ((oG _ 32 (by omega)).1 hx) hc
    have q:JP (∀c∈s.toList.take (k+1),c≠32):=by
     intro c l;rw[tO s k hlt]at l
     rcases List.mem_append.1 l with h|h
     ·exact p.o c h
     ·simp at h;rw[h];exact hc
    go_wp2;go_round
    case rel=>exact⟨k+1,by omega,by go_num,q⟩
    case measure=>simp[intOf];omega
  ·have f:JP (lH s.toList=(s.toList,[])):=Km _ (by have B:=p.o;rw[xW (by rw[MS];omega)]at B;exact B);go_wp2;go_ret2;refine⟨s,.slice N 0 0,[],Z,by rw[f.o],by rw[f.o];rfl,⟨N,0,Z,xF _,fun h=>absurd Z h⟩,xF _,by simp,x1 _ _⟩
theorem Kp(l:List UInt8)(k:Nat)(g:k<4)(f:∀j:Nat,j<k->(l==cS (j:Int))=Y)(h:(l==cS (k:Int))=G):fK l=((k:Int),G):=by
 have d:l=cS (k:Int):=by simpa using h
 have c:∀j:Nat,j<k->¬l=cS (j:Int):=fun j e=>by simpa using f j e
 have:k=0\/k=1\/k=2\/k=3:=by omega
 unfold fK
 rcases this with rfl|rfl|rfl|rfl
 ·rw[if_pos (show l=cS 0 from d)];rfl
 ·rw[if_neg (show ¬l=cS 0 from c 0 (by omega)),if_pos (show l=cS 1 from d)];rfl
 ·rw[if_neg (show ¬l=cS 0 from c 0 (by omega)),if_neg (show ¬l=cS 1 from c 1 (by omega)),if_pos (show l=cS 2 from d)];rfl
 ·rw[if_neg (show ¬l=cS 0 from c 0 (by omega)),if_neg (show ¬l=cS 1 from c 1 (by omega)),if_neg (show ¬l=cS 2 from c 2 (by omega)),if_pos (show l=cS 3 from d)];rfl
theorem Kq(l:List UInt8)(e:∀j:Nat,j<4->(l==cS (j:Int))=Y):fK l=(0,Y):=by
 have c:∀j:Nat,j<4->¬l=cS (j:Int):=fun j d=>by simpa using e j d
 unfold fK;rw[if_neg (show ¬l=cS 0 from c 0 (by omega)),if_neg (show ¬l=cS 1 from c 1 (by omega)),if_neg (show ¬l=cS 2 from c 2 (by omega)),if_neg (show ¬l=cS 3 from c 3 (by omega))]
theorem Kr(l:List UInt8)(k:Nat)(g:k<3)(f:∀j:Nat,j<k->(l==eB (j:Int))=Y)(h:(l==eB (k:Int))=G):jQ l=((k:Int),G):=by
 have d:l=eB (k:Int):=by simpa using h
 have c:∀j:Nat,j<k->¬l=eB (j:Int):=fun j e=>by simpa using f j e
 have:k=0\/k=1\/k=2:=by omega
 unfold jQ
 rcases this with rfl|rfl|rfl
 ·rw[if_pos (show l=eB 0 from d)];rfl
 ·rw[if_neg (show ¬l=eB 0 from c 0 (by omega)),if_pos (show l=eB 1 from d)];rfl
 ·rw[if_neg (show ¬l=eB 0 from c 0 (by omega)),if_neg (show ¬l=eB 1 from c 1 (by omega)),if_pos (show l=eB 2 from d)];rfl
theorem Ks(l:List UInt8)(e:∀j:Nat,j<3->(l==eB (j:Int))=Y):jQ l=(0,Y):=by
 have c:∀j:Nat,j<3->¬l=eB (j:Int):=fun j d=>by simpa using e j d
 unfold jQ;rw[if_neg (show ¬l=eB 0 from c 0 (by omega)),if_neg (show ¬l=eB 1 from c 1 (by omega)),if_neg (show ¬l=eB 2 from c 2 (by omega))]
theorem Kt(l:List UInt8)(k:Nat)(g:k<4)(f:∀j:Nat,j<k->(l==dK (j:Int))=Y)(h:(l==dK (k:Int))=G):eJ l=(⟨Y,(k:Int)⟩,G):=by
 have d:l=dK (k:Int):=by simpa using h
 have c:∀j:Nat,j<k->¬l=dK (j:Int):=fun j e=>by simpa using f j e
 have:k=0\/k=1\/k=2\/k=3:=by omega
 unfold eJ
 rcases this with rfl|rfl|rfl|rfl
 ·rw[if_pos (show l=dK 0 from d)];rfl
 ·rw[if_neg (show ¬l=dK 0 from c 0 (by omega)),if_pos (show l=dK 1 from d)];rfl
 ·rw[if_neg (show ¬l=dK 0 from c 0 (by omega)),if_neg (show ¬l=dK 1 from c 1 (by omega)),if_pos (show l=dK 2 from d)];rfl
 ·rw[if_neg (show ¬l=dK 0 from c 0 (by omega)),if_neg (show ¬l=dK 1 from c 1 (by omega)),if_neg (show ¬l=dK 2 from c 2 (by omega)),if_pos (show l=dK 3 from d)];rfl
theorem Ku(l:List UInt8)(e:∀j:Nat,j<4->(l==dK (j:Int))=Y):eJ l=(⟨G,(fK l).1⟩,(fK l).2):=by
 have c:∀j:Nat,j<4->¬l=dK (j:Int):=fun j d=>by simpa using e j d
 unfold eJ;rw[if_neg (show ¬l=dK 0 from c 0 (by omega)),if_neg (show ¬l=dK 1 from c 1 (by omega)),if_neg (show ¬l=dK 2 from c 2 (by omega)),if_neg (show ¬l=dK 3 from c 3 (by omega))]
theorem UT(s:ByteArray)(w:World):
  Calls prog 209 #[C s] w fun e l=>e=L (.tuple #[U E (fK s.toList).1,D (fK s.toList).2])/\l=w:=by
 go_enter func209,ntmps209;go_wp2;go_loop [4] (fun i=>∃k:Nat,k<=4/\i=U E k/\JP (∀j:Nat,j<k->(s.toList==cS (j:Int))=Y)) fun i=>4-(intOf i).toNat
 case atStart=>exact⟨0,by omega,Z,fun j n=>by omega⟩
 case round =>
  obtain⟨k,r,rfl,d⟩:=hrel;by_cases hlt:k<4
  ·have p:(k:Int)<4:=by omega
   cases hb:s.toList==cS (k:Int)
   ·have f:JP (∀j:Nat,j<k+1->(s.toList==cS (j:Int))=Y):=fun j n=>by
     by_cases e:j=k
     ·rw[e];exact hb
     ·exact d.o j (by omega)
    have HB:=JO hb;go_wp2_with(first|(go_at_call 135;refine(zY _ _ (by omega) (by omega)).mono ?_;rintro e l ⟨t,rfl,g,rfl⟩;have q:(s.toList==t.toList)=Y:=by rw[g.1];exact HB.o));go_round
    case rel=>exact⟨k+1,by omega,by go_num,f⟩
    case measure=>simp[intOf];omega
   ·have c:=JO (Kp s.toList k hlt d.o hb);have HB:=JO hb;go_wp2_with(first|(go_at_call 135;refine(zY _ _ (by omega) (by omega)).mono ?_;rintro e l ⟨t,rfl,g,rfl⟩;have q:(s.toList==t.toList)=G:=by rw[g.1];exact HB.o));go_ret2;rw[c.o];exact⟨Z,Z⟩
  ·have c:JP (fK s.toList=(0,Y)):=Kq _ fun j n=>d.o j (by omega);go_wp2;go_ret2;rw[c.o];exact⟨Z,Z⟩
theorem Kv(s:ByteArray)(w:World):
  Calls prog 210 #[C s] w fun e l=>e=L (.tuple #[U E (jQ s.toList).1,D (jQ s.toList).2])/\l=w:=by
 go_enter func210,ntmps210;go_wp2;go_loop [4] (fun i=>∃k:Nat,k<=3/\i=U E k/\JP (∀j:Nat,j<k->(s.toList==eB (j:Int))=Y)) fun i=>3-(intOf i).toNat
 case atStart=>exact⟨0,by omega,Z,fun j n=>by omega⟩
 case round =>
  obtain⟨k,r,rfl,d⟩:=hrel;by_cases hlt:k<3
  ·have p:(k:Int)<3:=by omega
   cases hb:s.toList==eB (k:Int)
   ·have f:JP (∀j:Nat,j<k+1->(s.toList==eB (j:Int))=Y):=fun j n=>by
     by_cases e:j=k
     ·rw[e];exact hb
     ·exact d.o j (by omega)
    have HB:=JO hb;go_wp2_with(first|(go_at_call 136;refine(EH _ _).mono ?_;rintro e l ⟨t,rfl,g,rfl⟩;have q:(s.toList==t.toList)=Y:=by rw[g.1];exact HB.o));go_round
    case rel=>exact⟨k+1,by omega,by go_num,f⟩
    case measure=>simp[intOf];omega
   ·have c:=JO (Kr s.toList k hlt d.o hb);have HB:=JO hb;go_wp2_with(first|(go_at_call 136;refine(EH _ _).mono ?_;rintro e l ⟨t,rfl,g,rfl⟩;have q:(s.toList==t.toList)=G:=by rw[g.1];exact HB.o));go_ret2;rw[c.o];exact⟨Z,Z⟩
  ·have c:JP (jQ s.toList=(0,Y)):=Ks _ fun j n=>d.o j (by omega);go_wp2;go_ret2;rw[c.o];exact⟨Z,Z⟩
theorem UU{e:Func}{R:Ending->World->Prop}{a:Act}{p u:Tmp}(g:Nat)(o:MR)(d:Value)(c:e.results=#[.cell p 102,.tmp u])(k:a.tmps.getD p undef=.pointer (M ⟨g,0,N⟩))(l:a.tmps.getD u undef=d)(h:w.heap[g]?=M (.cells #[D o.KI,U E o.n] 102 (0,0)))(i:a.defers=[])(f:R (L (.tuple #[.agg #[D o.KI,U E o.n],d])) w):bodyPost prog e R .ret a w:=by
 refine bodyPost_ret (v:=.tuple #[.agg #[D o.KI,U E o.n],d]) ?_ i f;rw[results_cell_tmp c,k,l];have:(asAddr (.pointer (M ⟨g,0,N⟩))).run prog w=.ok ⟨g,0,N⟩ w:=Z;rw[this,xb,rQ w g _ _ _ h _ underlying102 rfl (by kernel_rfl),xb]
theorem FG{g:Nat}{a b:Value}{t:TypeId}(h:w.heap[g]?=M (.cells #[a,b] t (0,0))):g<F (S w)/\w.cell? ⟨g,0,N⟩=M a/\w.cell? ⟨g,1,N⟩=M b/\w.frozen? ⟨g,0,N⟩=Y/\w.frozen? ⟨g,1,N⟩=Y:=by
 refine⟨(Array.getElem?_eq_some_iff.1 h).1,?_,?_,?_,?_⟩<;>simp[World.cell?,World.frozen?,h]
theorem UV(s:ByteArray)(w:World):
  Calls prog 211 #[C s] w fun e I=>e=L (.tuple #[.agg #[D (eJ s.toList).1.KI,U E (eJ s.toList).1.n],D (eJ s.toList).2])/\Below (F (S w)) w I:=by
 go_enter func211,ntmps211;go_wp2;go_loopw[4] (fun i wr=>∃k:Nat,k<=4/\i=U E k/\JP (∀j:Nat,j<k->(s.toList==dK (j:Int))=Y)/\JP (wr.heap[F (S w)]?=M (.cells #[D Y,U E 0] 102 (0,0)))/\Below (F (S w)) w wr) fun i _=>4-(intOf i).toNat
 case atStart=>exact⟨0,by omega,Z,fun j H=>by omega,heap_alloc_new w _,(x1 _ _).alloc (xF _) _⟩
 case round =>
  obtain⟨k,T,rfl,r,f,c⟩:=hrel;obtain⟨J,z1,z2,z3,z4⟩:=FG f.o;have l:=c.size;by_cases hlt:k<4
  ·have K:(k:Int)<4:=by omega
   cases hb:s.toList==dK (k:Int)
   ·have v:JP (∀j:Nat,j<k+1->(s.toList==dK (j:Int))=Y):=fun j H=>by
     by_cases e:j=k
     ·rw[e];exact hb
     ·exact r.o j (by omega)
    have HB:=JO hb;go_wp2_with(first|(go_at_call 137;refine(zI ⟨Y,(k:Int)⟩ _ (by simp) (by simp;omega)).mono ?_;rintro e B ⟨t,rfl,A,d⟩;have O:(s.toList==t.toList)=Y:=by rw[A.1];exact HB.o));go_roundw
    case rel=>exact⟨k+1,by omega,by go_num,v,by unfold JP;rw[d.block _ (by simp;omega),xc _ _ _ J];exact f.o,(c.alloc l _).trans (d.mono (by simp;omega))⟩
    case measure=>simp[intOf];omega
   ·have q:=JO (Kt s.toList k hlt r.o hb);have HB:=JO hb;go_wp2_with(first|(go_at_call 137;refine(zI ⟨Y,(k:Int)⟩ _ (by simp) (by simp;omega)).mono ?_;rintro e B ⟨t,rfl,A,d⟩;have O:(s.toList==t.toList)=G:=(by rw[A.1];exact HB.o);have z:B.heap[F (S wr)]?=M (.cells #[D Y,U E (k:Int)] 102 (0,0)):=(d.block _ (by simp)).trans (heap_alloc_new wr _);have g:B.heap[F (S w)]?=M (.cells #[D Y,U E 0] 102 (0,0)):=(d.block _ (by simp;omega)).trans ((xc _ _ _ J).trans f.o);obtain⟨y0,y1,y2,y3,y4⟩:=FG z;obtain⟨V,W,v2,v3,v4⟩:=FG g;have x:=JO g;have y:=JO ((c.alloc l _).trans (d.mono (by simp;omega)))));rw[q.o];refine UU (p:=2) (u:=3) (F (S w)) ⟨Y,(k:Int)⟩ _ (by kernel_rfl) Z Z ?_ Z ⟨Z,?_⟩
    ·rw[bC (bC x.o _ _)];rfl
    ·exact(y.o.setCell (xF _) _).setCell (xF _) _
  ·have q:JP (eJ s.toList=(⟨G,(fK s.toList).1⟩,(fK s.toList).2)):=Ku _ fun j H=>r.o j (by omega);go_wp2_with(first|(go_at_call 209;refine(UT s _).mono ?_;rintro e I ⟨rfl,rfl⟩));rw[q.o];refine UU (p:=2) (u:=3) (F (S w)) ⟨G,(fK s.toList).1⟩ _ (by kernel_rfl) Z Z ?_ Z ⟨Z,?_⟩
   ·rw[bC (bC f.o _ _)];rfl
   ·exact(c.setCell (xF _) _).setCell (xF _) _
end Go.Proofs.YtlikcongbhhpfaaGreatDoor
