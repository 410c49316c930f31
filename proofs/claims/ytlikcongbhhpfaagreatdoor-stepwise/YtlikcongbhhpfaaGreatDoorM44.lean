import Derived.Test.YtlikcongbhhpfaaGreatDoorM43
set_option linter.unusedVariables false
set_option linter.unusedSimpArgs false
set_option maxHeartbeats 12800000
namespace Go.Proofs.YtlikcongbhhpfaaGreatDoor
open Go Go.RowKit Go.Proofs.Tryz P Q
set_option maxRecDepth 1000000
variable {r r1:Rd}{A:List JV}{t:JV}{g:List Row}{s st:JR}{i:Int}{o:List Int}
open List renaming length->E
open Bool renaming true->Y,false->C
open Option renaming some->G
open Bool renaming and_eq_true->xF,false_eq_true->x2
open List renaming mem_cons_of_mem->xR,cons_append->xW,eq_nil_of_length_eq_zero->x0,flatten_cons->x1
namespace P
def chk:Int->List Int->List JR->Option (Int×List Int)
 |i,o,[]=>G (i,o)
 |i,o,s::r =>
  if s.k==10 then if s.label==i+1&&decide (E o<2)then chk (i+1) (o++[i+1]) r else none
  else if s.k==11 then match o.getLast? with
   |some l=>if s.label==l then chk i o.dropLast r else none
   |none=>none
  else chk i o r
theorem qD:∀(a b:List JR) (i:Int) (o:List Int),chk i o (a++b)=(chk i o a).bind fun p=>chk p.1 p.2 b
 |[],b,i,o=>Z
 |s::a,b,i,o=>by
  rw[xW,chk,chk]
  split
  ·split
   ·exact qD a b _ _
   ·rfl
  split
  ·split
   ·split
    ·exact qD a b _ _
    ·rfl
   ·rfl
  ·exact qD a b _ _
def qT(x:Row)(st:JR):Prop:=∃st0,cI (KD 32 x)=(st0,Y)/\StL st0 st
def tZ(g:List Row)(t:JV):Prop:=∃x body c,g=x::body/\KD 32 x=[eM,[c]]/\(cH c 2).2=Y/\t.block=(cH c 2).1/\gH qT body t.S
theorem Tt{x:Row}(v:r.most=8)(u:OU x=C)(y:r.H=A++[t])(h:MD {r with i:=r.i+1} (KD 32 x)=(r1,Y)):
  ∃st,r1.H=A++[{t with S:=t.S++[st]}]/\qT x st/\chk r.I r.O [st]=G (r1.I,r1.O)/\r1.most=8:=by
 have j:=tC {r with i:=r.i+1} (KD 32 x) v;rw[h]at j
 rcases xH (r:={r with i:=r.i+1}) v h with⟨c,z,_,_⟩|⟨st,p,a,c,q,z,B⟩
 ·unfold OU at u;rw[z]at u;simp at u
 ·unfold cZ at a;rw[if_neg (by show ¬r.H.isEmpty=Y;rw[y];simp)]at a;have f:∀(q:Rd) (s:JR),q.H=r.H->(put q s).H=A++[{t with S:=t.S++[s]}]:=fun q s e=>by
   show eR q.H s=_;rw[e,y,wG]
  split at a
  ·rename_i d;unfold ends at a
   split at a
   ·simp at a
   ·rename_i l n;simp only[Prod.mk.injEq,and_true]at a;subst a;refine⟨_,f _ _ Z,⟨st,p,⟨Z⟩⟩,?_,j.2⟩;have d:st.k=11:=by simpa using d
    simp only[chk];rw[d];have n:r.O.getLast?=G l:=n;rw[n];simp[put]
  ·rename_i d;have d:st.k≠11:=by simpa using d
   split at a
   ·simp at a
   ·split at a
    ·rename_i b;have b:st.k=10:=by simpa using b
     split at a
     ·simp at a
     ·rename_i m;unfold gI at a;rw[if_neg m]at a;simp only[Prod.mk.injEq,and_true]at a;subst a;refine⟨_,f _ _ Z,⟨st,p,⟨Z⟩⟩,?_,j.2⟩;simp only[chk];rw[b];have m:¬2<=E r.O:=m;simp[put,show E r.O<2 by omega]
    ·rename_i b;have b:st.k≠10:=by simpa using b
     simp only[Prod.mk.injEq,and_true]at a;subst a;refine⟨_,f _ _ Z,⟨st,p,⟨Z⟩⟩,?_,j.2⟩;simp only[chk];rw[if_neg (by simpa using b),if_neg (by simpa using d)];rfl
theorem D0:∀(b:List Row) {r r1:Rd} {A:List JV} {t:JV},r.most=8->(∀x∈b,OU x=C)->r.H=A++[t]->LZ r b=(r1,Y) ->
  ∃a,r1.H=A++[{t with S:=t.S++a}]/\gH qT b a/\chk r.I r.O a=G (r1.I,r1.O)/\r1.most=8
 |[],r,r1,A,t,hm,_,ht,h=>by
  simp[LZ]at h;subst h;exact⟨[],by simpa using ht,trivial,Z,hm⟩
 |x::b,r,r1,A,t,hm,hx,ht,h=>by
  simp only[LZ]at h
  split at h
  ·rename_i c;obtain⟨st,l,m,n,p⟩:=Tt (r1:=(MD {r with i:=r.i+1} (KD 32 x)).1) hm (hx x (by simp)) ht (by rw[<- c]);obtain⟨a,e,f,j,k⟩:=D0 b p (fun y d=>hx y (xR _ d)) l h;refine⟨st::a,by rw[e];simp,⟨m,f⟩,?_,k⟩;rw[show st::a=[st]++a from rfl,qD,n];exact j
  ·simp at h
def kL:Int->List JV->Option Int
 |i,[]=>G i
 |i,t::r=>match chk i [] t.S with
  |some (j,[])=>kL j r
  |_=>none
theorem CP:∀(a b:List Row) {r r1:Rd},LZ r (a++b)=(r1,Y)->∃r2,LZ r a=(r2,Y)/\LZ r2 b=(r1,Y)
 |[],b,r,r1,h=>⟨r,Z,h⟩
 |x::a,b,r,r1,h=>by
  rw[xW]at h;simp only[LZ]at h⊢
  split at h
  ·rename_i c;rw[if_pos c];exact CP a b h
  ·simp at h
theorem D1(v:GOk g)(m:r.most=8)(h:LZ r g=(r1,Y)):r.O=[]/\∃t,r1.H=r.H++[t]/\tZ g t/\chk r.I [] t.S=G (r1.I,r1.O)/\r1.most=8:=by
 obtain⟨x,a,rfl,d,p⟩:=v.is;simp only[LZ]at h
 split at h
 ·rename_i y;have e:MD {r with i:=r.i+1} (KD 32 x)=((MD {r with i:=r.i+1} (KD 32 x)).1,Y):=by rw[<- y]
  have l:=tC {r with i:=r.i+1} (KD 32 x) m
  rcases xH (r:={r with i:=r.i+1}) m e with⟨c,j,u,b⟩|⟨st,K,b,c,q,j,k⟩
  ·unfold fB at b
   split at b
   ·simp at b
   ·rename_i f;simp only[Prod.mk.injEq,and_true]at b;have n:r.O=[]:=by
     have:¬0<E r.O:=fun e=>f (Or.inr e)
     exact x0 (by omega)
    rw[<- b]at h l;obtain⟨J,z,B,D,F⟩:=D0 a (A:=r.H) (t:=⟨(cH c 2).1,r.i+1,[]⟩) l.2 p Z h;refine⟨n,_,z,⟨x,a,c,Z,j,u,Z,?_⟩,?_,F⟩
    ·simpa using B
    ·have:chk r.I r.O J=G (r1.I,r1.O):=D;rw[n]at this;simpa using this
  ·unfold OU at d;rw[j]at d;simp only[List.head?_cons,beq_iff_eq,Option.some.injEq]at d;rw[d]at k;simp at k
 ·simp at h
theorem D2:∀(a:List (List Row)) {r r1:Rd},(∀g∈a,GOk g)->r.most=8->LZ r a.flatten=(r1,Y)->r.O=[]->r1.O=[]->∃d,r1.H=r.H++d/\gH tZ a d/\kL r.I d=G r1.I
 |[],r,r1,_,_,h,_,_=>by
  simp[LZ]at h;subst h;exact⟨[],by simp,trivial,Z⟩
 |g::a,r,r1,hg,hm,h,ho,ho1=>by
  rw[x1]at h;obtain⟨v,j,b⟩:=CP g a.flatten h;obtain⟨_,t,p,q,u,f⟩:=D1 (hg g (by simp)) hm j;have c:v.O=[]:=by
   cases a with
   |nil=>simp[LZ]at b;rw[b];exact ho1
   |cons g2 a =>
    rw[x1]at b;obtain⟨x,k,_⟩:=CP g2 a.flatten b;exact(D1 (hg g2 (by simp)) f k).1
  obtain⟨d,l,m,n⟩:=D2 a (fun g e=>hg g (xR _ e)) f b c ho1;refine⟨t::d,by rw[l,p];simp,⟨q,m⟩,?_⟩;rw[kL,u,c];exact n
theorem pI{d:List UInt8}(h:(aS d).2=Y):0<=(aS d).1/\(aS d).1<4:=by
 match d,h with
 |[],h=>simp[aS]at h
 |[_],h=>simp[aS]at h
 |[c,e],h =>
  simp only[aS]at h⊢
  split at h
  ·rename_i a;rw[if_pos a];simp only[cH,xF,decide_eq_true_eq]at h⊢;omega
  ·simp at h
 |_::_::_::_,h=>simp[aS]at h
theorem zO(v:List UInt8):0<=(cR v).1/\(cR v).1<3:=by
 unfold cR
 repeat' split
 all_goals exact⟨by decide,by decide⟩
theorem mJ{w:List UInt8}(h:(aO w).2=Y):OW (aO w).1:=by
 have KP:∀l,(aS l).2=Y->OW ⟨Y,(aS l).1⟩:=fun l h=>pI h
 match w,h with
 |[],h=>simp[aO,aS]at h
 |[c],h =>
  simp only[aO,cH,xF,decide_eq_true_eq]at h⊢;exact⟨by show(0:Int)<=_;simp only;omega,by show(_:Int)<4;simp only;omega⟩
 |[c,d],h=>exact KP _ h
 |a::b::c::d,h=>exact KP _ h
theorem Tu{s:List UInt8}(h:(cX s).2=Y):(cX s).1=7\/(cX s).1=8\/(cX s).1=9:=by
 unfold cX at h⊢
 split
 ·exact Or.inl Z
 split
 ·exact Or.inr (Or.inl Z)
 split
 ·exact Or.inr (Or.inr Z)
 ·rename_i a b c;rw[if_neg a,if_neg b,if_neg c]at h;simp at h
theorem kC:OW MR.zero:=⟨by decide,by decide⟩
theorem Tv{n:List (List UInt8)}(h:mD n st):Lay st:=by
 have m:(0:Int)<=0/\(0:Int)<4:=by omega
 have l:(0:Int)<=0/\(0:Int)<3:=by omega
 rcases h with⟨p,v,r,o,s, -,f,k,j,rfl⟩|⟨d,v,r,o,s, -,c,f,j,rfl⟩|⟨d,p,v,r,o,s, -,c,f,k,j,rfl⟩|⟨d,p,v,r,o,s, -,c,f,k,j,rfl⟩|⟨r,o,s, -,j,rfl⟩|⟨-,rfl⟩|⟨a, -,f,rfl⟩|⟨-,rfl⟩|⟨d,a, -,c,f,rfl⟩|⟨d,a,s,b, -,c,f,k,j,rfl⟩
 ·exact⟨by show(0:Int)<=1;omega,by show(1:Int)<=11;omega,fun _=>j,fun h=>absurd h (show ¬NI 1=C by decide),m,fun _=>Z,zO p,fun h=>absurd (show(118:UInt8)∈(LI 1).2 by decide) h,mJ k,fun h=>absurd (show(97:UInt8)∈(LI 1).2 by decide) h,kC,fun _=>Z,fun e=>absurd e (show ¬(1:Int)=11 by decide)⟩
 ·exact⟨by show(0:Int)<=0;omega,by show(0:Int)<=11;omega,fun _=>j,fun h=>absurd h (show ¬NI 0=C by decide),pI c,fun h=>absurd (show(100:UInt8)∈(LI 0).2 by decide) h,zO v,fun h=>absurd (show(118:UInt8)∈(LI 0).2 by decide) h,kC,fun _=>Z,kC,fun _=>Z,fun _=>Z⟩
 ·exact⟨by show(0:Int)<=2;omega,by show(2:Int)<=11;omega,fun _=>j,fun h=>absurd h (show ¬NI 2=C by decide),pI c,fun h=>absurd (show(100:UInt8)∈(LI 2).2 by decide) h,zO p,fun h=>absurd (show(118:UInt8)∈(LI 2).2 by decide) h,mJ k,fun h=>absurd (show(97:UInt8)∈(LI 2).2 by decide) h,kC,fun _=>Z,fun e=>absurd e (show ¬(2:Int)=11 by decide)⟩
 ·exact⟨by show(0:Int)<=3;omega,by show(3:Int)<=11;omega,fun _=>j,fun h=>absurd h (show ¬NI 3=C by decide),pI c,fun h=>absurd (show(100:UInt8)∈(LI 3).2 by decide) h,zO p,fun h=>absurd (show(118:UInt8)∈(LI 3).2 by decide) h,mJ k,fun h=>absurd (show(97:UInt8)∈(LI 3).2 by decide) h,kC,fun _=>Z,fun e=>absurd e (show ¬(3:Int)=11 by decide)⟩
 ·exact⟨by show(0:Int)<=4;omega,by show(4:Int)<=11;omega,fun _=>j,fun h=>absurd h (show ¬NI 4=C by decide),m,fun _=>Z,l,fun _=>Z,kC,fun _=>Z,kC,fun _=>Z,fun _=>Z⟩
 ·exact⟨by decide,by decide,fun h=>absurd h (by decide),fun _=>⟨Z,Z⟩,m,fun _=>Z,l,fun _=>Z,kC,fun _=>Z,kC,fun _=>Z,fun _=>Z⟩
 ·exact⟨by show(0:Int)<=10;omega,by show(10:Int)<=11;omega,fun h=>absurd h (show ¬NI 10=Y by decide),fun _=>⟨Z,Z⟩,m,fun _=>Z,l,fun _=>Z,mJ f,fun h=>absurd (show(97:UInt8)∈(LI 10).2 by decide) h,kC,fun _=>Z,fun e=>absurd e (show ¬(10:Int)=11 by decide)⟩
 ·exact⟨by decide,by decide,fun h=>absurd h (by decide),fun _=>⟨Z,Z⟩,m,fun _=>Z,l,fun _=>Z,kC,fun _=>Z,kC,fun _=>Z,fun _=>Z⟩
 ·exact⟨by show(0:Int)<=6;omega,by show(6:Int)<=11;omega,fun h=>absurd h (show ¬NI 6=Y by decide),fun _=>⟨Z,Z⟩,pI c,fun h=>absurd (show(100:UInt8)∈(LI 6).2 by decide) h,l,fun _=>Z,mJ f,fun h=>absurd (show(97:UInt8)∈(LI 6).2 by decide) h,kC,fun _=>Z,fun e=>absurd e (show ¬(6:Int)=11 by decide)⟩
 ·rcases Tu j with e|e|e<;>rw[e]
  ·exact⟨by show(0:Int)<=7;omega,by show(7:Int)<=11;omega,fun h=>absurd h (show ¬NI 7=Y by decide),fun _=>⟨Z,Z⟩,pI c,fun h=>absurd (show(100:UInt8)∈(LI 7).2 by decide) h,l,fun _=>Z,mJ f,fun h=>absurd (show(97:UInt8)∈(LI 7).2 by decide) h,mJ k,fun h=>absurd (show(98:UInt8)∈(LI 7).2 by decide) h,fun e=>absurd e (show ¬(7:Int)=11 by decide)⟩
  ·exact⟨by show(0:Int)<=8;omega,by show(8:Int)<=11;omega,fun h=>absurd h (show ¬NI 8=Y by decide),fun _=>⟨Z,Z⟩,pI c,fun h=>absurd (show(100:UInt8)∈(LI 8).2 by decide) h,l,fun _=>Z,mJ f,fun h=>absurd (show(97:UInt8)∈(LI 8).2 by decide) h,mJ k,fun h=>absurd (show(98:UInt8)∈(LI 8).2 by decide) h,fun e=>absurd e (show ¬(8:Int)=11 by decide)⟩
  ·exact⟨by show(0:Int)<=9;omega,by show(9:Int)<=11;omega,fun h=>absurd h (show ¬NI 9=Y by decide),fun _=>⟨Z,Z⟩,pI c,fun h=>absurd (show(100:UInt8)∈(LI 9).2 by decide) h,l,fun _=>Z,mJ f,fun h=>absurd (show(97:UInt8)∈(LI 9).2 by decide) h,mJ k,fun h=>absurd (show(98:UInt8)∈(LI 9).2 by decide) h,fun e=>absurd e (show ¬(9:Int)=11 by decide)⟩
theorem Lay.lab(h:Lay st)(l b:Int):Lay {st with i:=l,label:=b}:=⟨h.k0,h.k1,h.os,h.no,h.d,h.dn,h.v,h.vn,h.a,h.an,h.b,h.bn,h.e11⟩
theorem Tw{x:Row}(h:qT x st):Lay st:=by
 obtain⟨c,a,b⟩:=h;rw[b.eq];exact(Tv (XW a)).lab _ _
theorem QU{α β:Type}{R:α->β->Prop}:∀{x:List α} {y:List β},gH R x y->∀b∈y,∃a∈x,R a b
 |[],[],_,b,d=>by cases d
 |a::x,c::y,h,b,d=>by
  rcases List.mem_cons.1 d with rfl|d
  ·exact⟨a,by simp,h.1⟩
  ·obtain⟨q,e,f⟩:=QU h.2 b d;exact⟨q,xR _ e,f⟩
 |[],_::_,h,_,_=>h.elim
 |_::_,[],h,_,_=>h.elim
theorem Tx(h:tZ g t):∀s∈t.S,Lay s:=fun s b=>by
 obtain⟨x,a,c,_,_,_,_,h⟩:=h;obtain⟨y,_,q⟩:=QU h s b;exact Tw q
theorem D4(h:Lay st)(m:0<=st.label)(p:st.label<100)(c:UInt8):(eO st c).length<=3:=by
 have r:∀n:Fin 4,(cS (n.1:Int)).length<=3/\(dY ⟨C,(n.1:Int)⟩).length<=3:=by decide +kernel
 have v:∀n:Fin 3,(eB (n.1:Int)).length<=3:=by decide +kernel
 have l:∀n:Fin 100,(fE (n.1:Int)).length<=3:=by decide +kernel
 have e:∀d:Int,0<=d/\d<4->(cS d).length<=3/\(dY ⟨C,d⟩).length<=3:=fun d k=>by
  have:=r ⟨d.toNat,by omega⟩;rw[show((⟨d.toNat,by omega⟩:Fin 4).1:Int)=d by show(d.toNat:Int)=d;omega]at this;exact this
 have j:∀o:MR,OW o->(dY o).length<=3:=fun o f=>by
  obtain⟨b,n⟩:=o;cases b
  ·exact(e n f).2
  ·show(cS n).length<=3;exact(e n f).1
 unfold eO
 split
 ·exact(e _ h.d).1
 split
 ·have:=v ⟨st.z.toNat,by have:=h.v;omega⟩;rw[show((⟨st.z.toNat,by have:=h.v;omega⟩:Fin 3).1:Int)=st.z by show(st.z.toNat:Int)=_;have:=h.v;omega]at this;exact this
 split
 ·exact j _ h.a
 split
 ·exact j _ h.b
 ·have:=l ⟨st.label.toNat,by omega⟩;rw[show((⟨st.label.toNat,by omega⟩:Fin 100).1:Int)=st.label by show(st.label.toNat:Int)=_;omega]at this;exact this
theorem D5(h:Lay st):st.k=0\/st.k=1\/st.k=2\/st.k=3\/st.k=4\/st.k=5\/st.k=6\/st.k=7\/st.k=8\/st.k=9\/st.k=10\/st.k=11:=by
 have:=h.k0;have:=h.k1;omega
theorem GL(p:JR->Bool):∀l:List JR,0<=JU p l
 |[]=>by simp[JU]
 |s::l=>by have:=GL p l;simp only[JU];split<;>omega
theorem Ty(h:Lay st)(j:0<=st.label)(l:st.label<100):(10:UInt8)∉dS st/\((dS st).length:Int)+1<=if st.k=11 then 5 else 36:=by
 by_cases h11:st.k=11
 ·rw[IT st (by simpa using h11),if_pos h11];have p:=XZ j l;have d:=D4 h j l 108;have d:(fE st.label).length<=3:=d;refine⟨?_,by simp;omega⟩;simp[p.2]
 ·rw[if_neg h11,xN st (by simpa using h11)];obtain⟨_,m,u⟩:=YA h [] 0 h11;have e:(LI st.k).1++(if NI st.k then kG st.q st.scope else[])=nY st.k st.q st.scope:=Z;rw[e];have d:=D4 h j l;have n:∀c,(10:UInt8)∉eO st c:=fun c=>((YE h j l) c).2
  have f:(LI st.k).2=[]\/(∃a,(LI st.k).2=[a])\/(∃a b,(LI st.k).2=[a,b])\/∃a b c,(LI st.k).2=[a,b,c]:=by
   rcases D5 h with e|e|e|e|e|e|e|e|e|e|e|e<;>rw[e]<;>simp[LI]
  rcases f with e|⟨a,e⟩|⟨a,b,e⟩|⟨a,b,c,e⟩<;>rw[e]
  ·exact⟨by simp[fJ,m.2],by simp[fJ];omega⟩
  ·have:=d a;exact⟨by simp[fJ,m.2,n],by simp[fJ];omega⟩
  ·have:=d a;have:=d b;exact⟨by simp[fJ,m.2,n],by simp[fJ];omega⟩
  ·have:=d a;have:=d b;have:=d c;exact⟨by simp[fJ,m.2,n],by simp[fJ];omega⟩
theorem Tz(h:Lay st)(a:st.k≠11):∃c q,dS st=c::q/\c≠46/\c≠76:=by
 have:∃c q,(LI st.k).1=c::q/\c≠46/\c≠76:=by
  rcases D5 h with e|e|e|e|e|e|e|e|e|e|e|e<;>rw[e]<;>exact⟨_,_,Z,by decide,by decide⟩
 obtain⟨c,q,e,b,d⟩:=this;rw[xN st (by simpa using a),e];exact⟨c,_,Z,b,d⟩
structure In40(A:List JV)(t:JV)(r:Rd):Prop where
 th:r.H=A++[t]
 most:r.most=40
 c0:0<=r.count
 i0:0<=r.I
 O:∀x∈r.O,1<=x
theorem T0{l:Int}(h:r.O.getLast?=G l):eT r=l:=by unfold eT;rw[h];rfl
theorem T1(h:In40 A t r)(y:Lay st)(l0:0<=st.label)(l1:st.label<100)(d:chk r.I r.O [st]=G (i,o))(hb:st.k=5->r.O=[])(T:r.count+(if nE st then 1 else 0)<=40):
  ∃r1 s',dA {r with i:=r.i+1} (dS st)=(r1,Y)/\In40 A {t with S:=t.S++[s']} r1/\StL st s'/\r1.I=i/\r1.O=o/\r1.count=r.count+if nE st then 1 else 0:=by
 have p:∀(q:Rd) (s:JR),q.H=r.H->(put q s).H=A++[{t with S:=t.S++[s]}]:=fun q s e=>by
  show eR q.H s=_;rw[e,h.th,wG]
 have v:r.H.isEmpty=C:=by rw[h.th];simp
 by_cases h11:st.k=11
 ·simp only[chk]at d;rw[h11]at d;simp only[show((11:Int)==10)=C from rfl,x2,if_false,beq_self_eq_true,if_true]at d
  cases hol:r.O.getLast? with
  |none=>rw[hol]at d;simp at d
  |some l =>
   rw[hol]at d;simp only at d
   split at d
   ·rename_i m;have m:st.label=l:=by simpa using m
    simp only[Option.some.injEq,Prod.mk.injEq]at d;have X:1<=l:=h.O l (List.mem_of_getLast? hol);have B:eT {r with i:=r.i+1}=l:=T0 hol;have j:dS st=fE l++[58]:=by rw[IT st (by simpa using h11),m]
    have n:∀b,dS st≠eQ b:=fun b e=>by rw[j]at e;simp[fE,eQ]at e
    refine⟨put {r with i:=r.i+1,O:=r.O.dropLast} {JR.zero with k:=11,i:=r.i+1,label:=l},_,?_,⟨p _ _ Z,h.most,h.c0,h.i0,fun x u=>h.O x (List.dropLast_subset _ u)⟩,⟨?_⟩,d.1,d.2,?_⟩
    ·unfold dA;rw[if_neg (n 0),if_neg (n 1),B,j,if_pos (by simp;omega)];unfold cZ ends;rw[if_neg (by show ¬r.H.isEmpty=Y;rw[v];decide),if_pos (by rfl),hol]
    ·have V:=y.no (by rw[h11];decide);have z2:=y.dn (by rw[h11];decide);have z3:=y.vn (by rw[h11];decide);have z5:=y.bn (by rw[h11];decide);have z4:=y.e11 h11;obtain⟨U,line,N,aa,a,b,aF,scope,f⟩:=st;simp only at*;rw[h11,V.1,V.2,z2,z3,z4,z5];rfl
    ·unfold nE;rw[h11];simp[put]
   ·simp at d
 ·obtain⟨c,q,j,K,L⟩:=Tz y h11;have n:∀b,dS st≠eQ b:=fun b e=>by rw[j]at e;simp[eQ]at e;exact K e.1
  have M:∀b,dS st≠fE b++[58]:=fun b e=>by rw[j]at e;simp[fE]at e;exact L e.1
  have z:nE st=Y:=by unfold nE;simpa using h11
  rw[z]at T;simp only[if_true]at T;have F:=Ng y h11 l0 l1 (r.I+1) fun J=>by
   simp only[chk]at d;rw[J]at d;simp only[beq_self_eq_true,if_true]at d
   split at d
   ·rename_i c;simp only[xF,beq_iff_eq]at c;exact c.1
   ·simp at d
  have D:dA {r with i:=r.i+1} (dS st)=cZ {r with i:=r.i+1} {st with i:=r.i+1,label:=if st.k=10 then r.I+1 else 0}:=by
   unfold dA;rw[if_neg (n 0),if_neg (n 1),if_neg (by
    rw[xF];rintro⟨_,e⟩;exact M _ (by simpa using e))]
   show(if(!(cV (dS st) (r.I+1)).2||(cV (dS st) (r.I+1)).1.k==5&&eT {r with i:=r.i+1} != 0)=Y then _ else cZ _ {(cV (dS st) (r.I+1)).1 with i:=r.i+1})=_;rw[F,if_neg];simp only[Bool.not_true,Bool.false_or,xF,beq_iff_eq,bne_iff_ne,ne_eq,not_and,Classical.not_not];intro W;unfold eT;show r.O.getLast?.getD 0=0;rw[hb W];rfl
  rw[D];unfold cZ;rw[if_neg (by show ¬r.H.isEmpty=Y;rw[v];decide),if_neg (by simpa using h11),if_neg (by show ¬r.most<=r.count;rw[h.most];omega)];simp only[chk]at d;by_cases h10:st.k=10
  ·rw[h10]at d;simp only[beq_self_eq_true,if_true]at d
   split at d
   ·rename_i c;simp only[xF,beq_iff_eq,decide_eq_true_eq]at c;simp only[Option.some.injEq,Prod.mk.injEq]at d;rw[if_pos (by simpa using h10),if_neg (by show ¬2<=E r.O;omega)];unfold gI;rw[if_neg (by show ¬2<=E r.O;omega)];refine⟨_,_,Z,⟨p _ _ Z,h.most,?_,?_,fun x u=>?_⟩,⟨Z⟩,d.1,d.2,?_⟩
    ·have:=h.c0;show 0<=r.count+1;omega
    ·have:=h.i0;show 0<=r.I+1;omega
    ·have u:x∈r.O++[r.I+1]:=u
     rcases List.mem_append.1 u with u|u
     ·exact h.O x u
     ·have:=h.i0;simp at u;omega
    ·rw[z];rfl
   ·simp at d
  ·rw[if_neg (by simpa using h10),if_neg (by simpa using h11)]at d;simp only[Option.some.injEq,Prod.mk.injEq]at d;rw[if_neg (by simpa using h10)];refine⟨_,_,Z,⟨p _ _ Z,h.most,?_,h.i0,h.O⟩,⟨Z⟩,d.1,d.2,?_⟩
   ·have:=h.c0;show 0<=r.count+1;omega
   ·rw[z];rfl
theorem zM{l:List JR}{d:Int}(h:MC d (s::l)=none):(s.k=5->¬0<d)/\MC (d+(if s.k=10 then 1 else 0)-if s.k=11 then 1 else 0) l=none:=by
 simp only[MC]at h;by_cases h10:s.k=10
 ·rw[h10]at h⊢;simp at h⊢;exact h
 by_cases h11:s.k=11
 ·rw[h11]at h⊢;simp at h⊢;exact h
 rw[if_neg (by simpa using h10),if_neg (by simpa using h11)]at h;rw[if_neg h10,if_neg h11,Int.add_zero,Int.sub_zero]
 split at h
 ·split at h
  ·simp at h
  ·exact⟨fun _=>by assumption,h⟩
 ·rename_i a;exact⟨fun e=>absurd (by simpa using e) a,h⟩
theorem Ez{j:Int}{a:List Int}(h:chk i o [s]=G (j,a)):(E a:Int)=E o+(if s.k=10 then 1 else 0)-if s.k=11 then 1 else 0:=by
 simp only[chk]at h;by_cases h10:s.k=10
 ·rw[h10]at h⊢;simp only[beq_self_eq_true,if_true]at h
  split at h
  ·simp only[Option.some.injEq,Prod.mk.injEq]at h;rw[<- h.2];simp
  ·simp at h
 by_cases h11:s.k=11
 ·rw[h11]at h⊢;simp only[show((11:Int)==10)=C from rfl,x2,if_false,beq_self_eq_true,if_true]at h
  cases hol:o.getLast? with
  |none=>rw[hol]at h;simp at h
  |some l =>
   rw[hol]at h;simp only at h
   split at h
   ·simp only[Option.some.injEq,Prod.mk.injEq]at h;have:o≠[]:=fun e=>by rw[e]at hol;simp at hol
    have:=List.length_pos_iff.2 this;rw[<- h.2,List.length_dropLast];simp;omega
   ·simp at h
 rw[if_neg (by simpa using h10),if_neg (by simpa using h11)]at h;simp only[Option.some.injEq,Prod.mk.injEq]at h;rw[<- h.2,if_neg h10,if_neg h11];omega
theorem yC:∀(a b:List (List UInt8)) {r d:Rd},NE r a=(d,Y)->NE r (a++b)=NE d b
 |[],b,r,d,h=>by simp[NE]at h;rw[h];rfl
 |x::a,b,r,d,h=>by
  rw[xW];simp only[NE]at h⊢
  split at h
  ·rename_i c;rw[if_pos c];exact yC a b h
  ·simp at h
theorem E4{A:List JV}:∀(a:List JR) {t:JV} {r:Rd} {i:Int} {o:List Int},In40 A t r->(∀s∈a,Lay s/\0<=s.label/\s.label<100)->chk r.I r.O a=G (i,o)->MC (E r.O) a=none->r.count+JU nE a<=40 ->
  ∃r1 c,NE r (a.map dS)=(r1,Y)/\In40 A {t with S:=t.S++c} r1/\PB a c/\r1.I=i/\r1.O=o
 |[],t,r,i,o,h,_,b,_,_=>by
  simp only[chk,Option.some.injEq,Prod.mk.injEq]at b;exact⟨r,[],Z,by simpa using h,trivial,b.1,b.2⟩
 |s::a,t,r,i,o,h,hl,b,hi,hn=>by
  rw[show s::a=[s]++a from rfl,qD]at b
  cases h1:chk r.I r.O [s]with
  |none=>rw[h1]at b;simp at b
  |some p =>
   obtain⟨j,F⟩:=p;rw[h1]at b;have b:chk j F a=G (i,o):=b;obtain⟨N,f⟩:=zM hi;have d:=Ez h1;obtain⟨l,m,n⟩:=hl s (by simp);simp only[JU]at hn;have U:=GL nE a;obtain⟨r1,T,H,J,K,L,e,M⟩:=T1 h l m n h1 (fun q=>x0 (by have:=N q;omega)) (by omega);rw[<- L,<- e]at b;rw[<- d,<- e]at f;obtain⟨k,c,u,v,y,z,B⟩:=E4 a J (fun x D=>hl x (xR _ D)) b f (by rw[M];omega);refine⟨k,T::c,?_,by simpa using v,⟨K,y⟩,z,B⟩;rw[List.map_cons,show dS s::a.map dS=[dS s]++a.map dS from rfl,yC [dS s] (a.map dS) (d:=r1) (by simp only[NE];rw[H];rfl)];exact u
def T5(t:JV):List (List UInt8):=eQ t.block::t.S.map dS
def oR(us:List JV):List (List UInt8):=us.flatMap T5
structure ThOk(t:JV):Prop where
 blk:t.block=0\/t.block=1
 lay:∀s∈t.S,Lay s/\0<=s.label/\s.label<100
 inn:MC 0 t.S=none
 few:JU nE t.S<=40
theorem E5:∀(c:List JV) {r:Rd} {i:Int},r.most=40->0<=r.I->r.O=[]->E r.H+E c<=4->(∀u∈c,ThOk u)->kL r.I c=G i->∃r1 l,NE r (oR c)=(r1,Y)/\r1.H=r.H++l/\gH ThL c l/\r1.O=[]
 |[],r,i,_,_,ho,_,_,_=>⟨r,[],Z,by simp,trivial,ho⟩
 |u::c,r,i,hm,h0,ho,hn,hu,d=>by
  simp only[kL]at d
  cases h1:chk r.I [] u.S with
  |none=>rw[h1]at d;simp at d
  |some p =>
   obtain⟨j,o⟩:=p;rw[h1]at d
   cases o with
   |cons a o=>simp at d
   |nil =>
    have d:kL j c=G i:=d;have k:=hu u (by simp);simp only[List.length_cons]at hn;have N:dA {r with i:=r.i+1} (eQ u.block)=({r with i:=r.i+1,H:=r.H++[⟨u.block,r.i+1,[]⟩],count:=0},Y):=by
     have e:∀b,fB {r with i:=r.i+1} b (r.i+1)=({r with i:=r.i+1,H:=r.H++[⟨b,r.i+1,[]⟩],count:=0},Y):=fun b=>by
      unfold fB;rw[if_neg (by show ¬(4<=E r.H\/0<E r.O);rw[ho];simp;omega)]
     unfold dA
     rcases k.blk with m|m
     ·rw[m,if_pos rfl];exact e 0
     ·rw[m,if_neg (by decide +kernel),if_pos rfl];exact e 1
    obtain⟨r1,n,z,f,B,D,F⟩:=E4 (A:=r.H) u.S (t:=⟨u.block,r.i+1,[]⟩) (r:={r with i:=r.i+1,H:=r.H++[⟨u.block,r.i+1,[]⟩],count:=0}) (i:=j) (o:=[]) ⟨Z,hm,Int.le_refl _,h0,fun x q=>by rw[show({r with i:=r.i+1,H:=r.H++[⟨u.block,r.i+1,[]⟩],count:=0}:Rd).O=[]from ho]at q;cases q⟩ k.lay (by show chk r.I r.O u.S=_;rw[ho];exact h1) (by show MC (E r.O:Int) u.S=none;rw[ho];exact k.inn) (by have:=k.few;show 0+_<=_;omega);obtain⟨y,l,J,K,L,M⟩:=E5 c (r:=r1) (i:=i) f.most f.i0 F (by rw[f.th];simp;omega) (fun v T=>hu v (xR _ T)) (by rw[D];exact d);refine⟨y,⟨u.block,r.i+1,n⟩::l,?_,?_,⟨⟨Z,B⟩,L⟩,M⟩
    ·have e:oR (u::c)=[eQ u.block]++(u.S.map dS++oR c):=Z;rw[e,yC [eQ u.block] _ (d:={r with i:=r.i+1,H:=r.H++[⟨u.block,r.i+1,[]⟩],count:=0}) (by simp only[NE];rw[N];rfl),yC _ _ z];exact J
    ·rw[K,f.th];simp
end P
end Go.Proofs.YtlikcongbhhpfaaGreatDoor
