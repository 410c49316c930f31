import Derived.Lib.ItoaWalk
import Derived.WalkSpells
import Derived.Test.YtehclbpoabdpoaaGreatDoorO07
set_option linter.all false
set_option maxHeartbeats 0
namespace Go.Proofs.YtehclbpoabdpoaaGreatDoor
open Go Go.RowKit Go.Proofs.Tryz P Q
set_option maxRecDepth 1000000
variable {w:World}{g:Nat}{e:Ev}{st:MV}{r:Rd}
open Go.World renaming cell?->D,heap->y
open _root_.Array renaming size->A
open Go.Value renaming int->Y,bool->U
open Go.IntKind renaming i64->C
open Bool renaming true->G
open Go.Obj renaming cells->E
open Go.Ending renaming returned->N
open Option renaming none->M,some->L
open Go.RowKit.Below renaming refl->xF
open Nat renaming le_refl->xR
open Go.Value renaming agg->xW
open Bool renaming false_eq_true->x3
def Jq(a b:ByteArray):(a++b).toList=a.toList++b.toList:=by
 rw[oO,oO,oO];simp
def bQ(l:Array UInt8):(⟨l⟩:ByteArray).toList=l.toList:=by rw[oO]
def VF(l:Array UInt8):(⟨l⟩:ByteArray).size=l.size:=rfl
namespace P
def acq(o:Int):Bool:=o==2||o==4
def rel(o:Int):Bool:=o==3||o==4
end P
def Jr(k:Int)(w:World):
  Calls prog 191 #[Y C k] w fun e a=>e=N (U (acq k))/\a=w:=by
 go_enter func191,ntmps191;go_wp2
 all_goals go_ret
 all_goals simp[acq, *]
def Jt(k:Int)(w:World):
  Calls prog 190 #[Y C k] w fun e a=>e=N (U (P.rel k))/\a=w:=by
 go_enter func190,ntmps190;go_wp2
 all_goals go_ret
 all_goals simp[P.rel, *]
def NK(w:World)(g:Nat)(e:Ev):Prop:=w.heap[g]?=L (E (aG e) 180 (0,0))
def NK.lt(h:NK w g e):g<A (y w):=(Array.getElem?_eq_some_iff.1 h).1
def NK.X{a:World}(h:NK w g e)(b:Below (A (y w)) w a):NK a g e:=by unfold NK at*;rw[b.block g (Array.getElem?_eq_some_iff.1 h).1];exact h
def NK.alloc(h:NK w g e)(o:Obj):NK (w.alloc o) g e:=h.X ((xF _ _).alloc (xR _) _)
def NK.new(w:World)(e:Ev):NK (w.alloc (E (aG e) 180)) (A (y w)) e:=heap_alloc_new w _
def NK.F(h:NK w g e):D w ⟨g,0,M⟩=L (Y C e.B)/\D w ⟨g,1,M⟩=L (Y C e.j)/\D w ⟨g,2,M⟩=L (Y C e.block)/\D w ⟨g,3,M⟩=L (Y C e.z)/\D w ⟨g,4,M⟩=L (Y C e.value)/\D w ⟨g,5,M⟩=L (Y C e.q)/\D w ⟨g,6,M⟩=L (Y C e.scope)/\D w ⟨g,7,M⟩=L (Y C e.u)/\D w ⟨g,8,M⟩=L (U e.step)/\D w ⟨g,9,M⟩=L (Y .u64 (e.h:Nat))/\(∀j,w.frozen? ⟨g,j,M⟩=false)/\g<A (y w):=by
 unfold NK at h;refine⟨?_,?_,?_,?_,?_,?_,?_,?_,?_,?_,?_,(Array.getElem?_eq_some_iff.1 h).1⟩
 all_goals first|(intro j;simp[World.frozen?,h])|simp[World.cell?,h,aG]
def Ju(a b:Ev)(w:World):
  Calls prog 162 #[.agg (aG a),.agg (aG b)] w fun x w'=>x=N (U (Q.aD a b))/\Below (A (y w)) w w':=by
 have HB:MT (Below (A (y w)) w ((w.alloc (E (aG a) 180)).alloc (E (aG b) 180))):=((xF _ _).alloc (xR _) _).alloc (by simp) _;have EA:MT (NK ((w.alloc (E (aG a) 180)).alloc (E (aG b) 180)) (A (y w)) a):=(NK.new w a).alloc _;have EB:MT (NK ((w.alloc (E (aG a) 180)).alloc (E (aG b) 180)) (A (y w)+1) b):=by
  have:=NK.new (w.alloc (E (aG a) 180)) b;simpa[MT]using this
 cases h0:a.j == -1||b.j == -1
 rotate_left
 ·have k:=MS (Hn h0)
  cases h1:a.j == -1
  ·have h2:(b.j == -1)=G:=by rw[h1]at h0;exact h0
   simp only[aG];go_enter func162,ntmps162;go_wp2;go_ret;rw[k.o];exact⟨Z,HB.o⟩
  ·simp only[aG];go_enter func162,ntmps162;go_wp2;go_ret;rw[k.o];exact⟨Z,HB.o⟩
 have h1:(a.j == -1)=false:=(Bool.or_eq_false_iff.1 h0).1;have h2:(b.j == -1)=false:=(Bool.or_eq_false_iff.1 h0).2
 cases h3:a.j==b.j
 rotate_left
 ·have k:=MS (Ho h0 h3);simp only[aG];go_enter func162,ntmps162;go_wp2;go_ret;rw[k.o];exact⟨Z,HB.o⟩
 cases ha:bP a
 ·have k:=MS (UQ h0 h3 (by rw[ha];rfl));simp only[aG];go_enter func162,ntmps162;go_wp2_with(first|(go_at_call_of 189 (xW #[Y C a.B,Y C a.j,Y C a.block,Y C a.z,Y C a.value,Y C a.q,Y C a.scope,Y C a.u,U a.step,Y .u64 (a.h:Nat)]);refine(AM a _).mono ?_;rintro x w1 ⟨rfl,c⟩;rw[ha];have d:=MS (EA.X c);have f:=MS (EB.X c);have l:=MS (HB.trans (c.mono (by simp;omega)));obtain⟨p,s,t,v,H,I,J,K,O,S,T,V⟩:=d.F;obtain⟨W,q1,q2,q3,q4,q5,q6,q7,q8,q9,qf,ql⟩:=f.F));go_ret;rw[k.o];exact⟨Z,l.o⟩
 cases hb:bP b
 ·have k:=MS (UQ h0 h3 (by rw[ha,hb];rfl));simp only[aG];go_enter func162,ntmps162;go_wp2_with(first|(go_at_call_of 189 (xW #[Y C a.B,Y C a.j,Y C a.block,Y C a.z,Y C a.value,Y C a.q,Y C a.scope,Y C a.u,U a.step,Y .u64 (a.h:Nat)]);refine(AM a _).mono ?_;rintro x w1 ⟨rfl,c⟩;rw[ha];have d:=MS (EA.X c);have f:=MS (EB.X c);have l:=MS (HB.trans (c.mono (by simp;omega)));obtain⟨p,s,t,v,H,I,J,K,O,S,T,V⟩:=d.F;obtain⟨W,q1,q2,q3,q4,q5,q6,q7,q8,q9,qf,ql⟩:=f.F)|(go_at_call_of 189 (xW #[Y C b.B,Y C b.j,Y C b.block,Y C b.z,Y C b.value,Y C b.q,Y C b.scope,Y C b.u,U b.step,Y .u64 (b.h:Nat)]);refine(AM b _).mono ?_;rintro x w2 ⟨rfl,i⟩;rw[hb];have m:=MS (d.X i);have n:=MS (f.X i);have B2:=MS (l.trans (i.mono (by have:=l.size;omega)));obtain⟨p,s,t,v,H,I,J,K,O,S,T,V⟩:=m.F;obtain⟨W,q1,q2,q3,q4,q5,q6,q7,q8,q9,qf,ql⟩:=n.F));go_ret;rw[k.o];exact⟨Z,B2.o⟩
 have k:=MS (Hp h0 h3 (by rw[ha,hb];rfl))
 cases h4:a.block==b.block<;>cases h5:a.scope==1<;>cases h6:b.scope==1
 all_goals
  simp only[aG];go_enter func162,ntmps162;go_wp2_with(first|(go_at_call_of 189 (xW #[Y C a.B,Y C a.j,Y C a.block,Y C a.z,Y C a.value,Y C a.q,Y C a.scope,Y C a.u,U a.step,Y .u64 (a.h:Nat)]);refine(AM a _).mono ?_;rintro x w1 ⟨rfl,c⟩;rw[ha];have d:=MS (EA.X c);have f:=MS (EB.X c);have l:=MS (HB.trans (c.mono (by simp;omega)));obtain⟨p,s,t,v,H,I,J,K,O,S,T,V⟩:=d.F;obtain⟨W,q1,q2,q3,q4,q5,q6,q7,q8,q9,qf,ql⟩:=f.F)|(go_at_call_of 189 (xW #[Y C b.B,Y C b.j,Y C b.block,Y C b.z,Y C b.value,Y C b.q,Y C b.scope,Y C b.u,U b.step,Y .u64 (b.h:Nat)]);refine(AM b _).mono ?_;rintro x w2 ⟨rfl,i⟩;rw[hb];have m:=MS (d.X i);have n:=MS (f.X i);have B2:=MS (l.trans (i.mono (by have:=l.size;omega)));obtain⟨p,s,t,v,H,I,J,K,O,S,T,V⟩:=m.F;obtain⟨W,q1,q2,q3,q4,q5,q6,q7,q8,q9,qf,ql⟩:=n.F));go_ret;rw[k.o,h4,h5,h6];exact⟨Z,B2.o⟩
def Jv(e:Ev)(w:World):
  Calls prog 164 #[.agg (aG e)] w fun x b=>x=N (U (e.B==1&&P.rel e.q))/\Below (A (y w)) w b:=by
 cases h0:e.B==1
 all_goals
  simp only[aG];go_enter func164,ntmps164;go_wp2_with(first|(go_at_call 190;refine(Jt _ _).mono ?_;rintro x b ⟨rfl,a⟩;have a:=a.symm;subst a));go_ret;exact⟨Z,(xF _ _).alloc (xR _) _⟩
def Jw(e:Ev)(w:World):
  Calls prog 165 #[.agg (aG e)] w fun x b=>x=N (U (e.B==0&&acq e.q))/\Below (A (y w)) w b:=by
 cases h0:e.B==0
 all_goals
  simp only[aG];go_enter func165,ntmps165;go_wp2_with(first|(go_at_call 191;refine(Jr _ _).mono ?_;rintro x b ⟨rfl,a⟩;have a:=a.symm;subst a));go_ret;exact⟨Z,(xF _ _).alloc (xR _) _⟩
namespace P
def Jx{p:List UInt8}(h:(bZ p).2=G):∃d,p=[114,d]:=by
 match p,h with
 |[],h=>simp[bZ]at h
 |[_],h=>simp[bZ]at h
 |[c,d],h =>
  simp only[bZ]at h
  split at h
  ·rename_i e;exact⟨d,by rw[e]⟩
  ·simp at h
 |_::_::_::_,h=>simp[bZ]at h
def ordW(o:Int):List UInt8:=if o==0 then[119,101,97,107]else if o==1 then[114,101,108,97,120,101,100]else if o==2 then[97,99,113,117,105,114,101]else if o==3 then[114,101,108,101,97,115,101]else if o==4 then[97,99,113,114,101,108]else[115,99]
def Jy{o:List UInt8}(h:(order o).2=G):o=ordW (order o).1/\((order o).1=0\/(order o).1=1\/(order o).1=2\/(order o).1=3\/(order o).1=4\/(order o).1=5):=by
 unfold order at h⊢
 repeat' split at h
 all_goals first
  |(simp at h;done)
  |(rename_i e;have e2:=eq_of_beq e;subst e2;decide)
def Jz{a:MV}{r:List (List UInt8)}(h:dI st r=(a,G)):(∃o,r=[o]/\o=ordW 0/\a={st with q:=0})\/∃o s,r=[o,s]/\(order o).2=G/\(scope s).2=G/\(order o).1≠0/\a={st with q:=(order o).1,scope:=(scope s).1}/\QM st.B (order o).1=G:=by
 cases r with
 |nil=>simp[dI]at h
 |cons o r =>
  simp only[dI]at h
  split at h
  ·rename_i b;simp only[Bool.and_eq_true]at b
   split at h
   ·rename_i c;simp only[Prod.mk.injEq]at h;have f:r=[]:=by simpa using h.2
    subst f;have d:=(Jy b.1).1;rw[show(order o).1=0 by simpa using c]at d;exact Or.inl ⟨o,Z,d,h.1.symm⟩
   ·rename_i c
    match r,h with
    |[],h=>simp at h
    |[s],h =>
     simp only[Prod.mk.injEq]at h;exact Or.inr ⟨o,s,Z,b.1,h.2,by simpa using c,h.1.symm,b.2⟩
    |_::_::_,h=>simp at h
  ·simp at h
structure PR(st:MV):Prop where
 d0:0<=st.dest
 d1:st.dest<4
 a0:0<=st.a.n
 a1:st.a.n<4
 b0:0<=st.b.n
 b1:st.b.n<4
 l0:st.label=0
def oT:PR MV.zero:=⟨by decide,by decide,by decide,by decide,by decide,by decide,Z⟩
def JK(c:UInt8)(n:Int)(h:(eD c n).2=G):0<=(eD c n).1/\(eD c n).1<n:=by
 simp[eD]at h⊢;omega
def VG(l:List UInt8)(h:(bZ l).2=G):0<=(bZ l).1/\(bZ l).1<4:=by
 unfold bZ at h⊢
 split at h
 ·split at h
  ·rename_i a;simp only[if_pos a];exact JK _ _ h
  ·simp at h
 ·simp at h
def pW(l:List UInt8)(h:(cF l).2=G):0<=(cF l).1.n/\(cF l).1.n<4:=by
 unfold cF at h⊢
 split at h
 ·exact JK _ _ h
 ·exact VG _ h
def BZ(hs:PR st)(c:List (List UInt8)):PR (dI st c).1:=by
 have a:∀o,PR {st with q:=o}:=fun o=>⟨hs.d0,hs.d1,hs.a0,hs.a1,hs.b0,hs.b1,hs.l0⟩
 have b:∀o s,PR {st with q:=o,scope:=s}:=fun o s=>⟨hs.d0,hs.d1,hs.a0,hs.a1,hs.b0,hs.b1,hs.l0⟩
 unfold dI
 split
 ·exact hs
 ·split
  ·split
   ·exact a _
   ·split
    ·exact b _ _
    ·exact a _
  ·exact hs
def VH(hs:PR st)(p v:List UInt8)(h:(iC st p v).2=G):PR (iC st p v).1:=by
 unfold iC at h⊢
 split at h
 ·rename_i a;simp only[a,if_true];have:=pW v h;exact⟨hs.d0,hs.d1,this.1,this.2,hs.b0,hs.b1,hs.l0⟩
 ·simp at h
def zZ(hs:PR st)(k:Int):PR {st with B:=k}:=⟨hs.d0,hs.d1,hs.a0,hs.a1,hs.b0,hs.b1,hs.l0⟩
def J3(hs:PR st)(a:List (List UInt8)):PR (load st a).1:=by
 unfold load
 split
 ·exact hs
 ·split
  ·refine BZ (st:={st with B:=0,z:=_}) ?_ _;exact⟨hs.d0,hs.d1,hs.a0,hs.a1,hs.b0,hs.b1,hs.l0⟩
  ·exact hs
def VI(hs:PR st)(k:Int)(a:List (List UInt8))(h:(step st k a).2=G):PR (step st k a).1:=by
 match a,h with
 |[],h=>simp[step]at h
 |[_],h=>simp[step]at h
 |p::v::r,h =>
  cases ht:(iC {st with B:=k} p v).2
  ·rw[KP st k p v r ht]at h;simp at h
  ·rw[JF st k p v r ht];exact BZ (VH (zZ hs k) p v ht) r
def J4(hs:PR st)(c:List (List UInt8))(h:(sum st c).2=G):PR (sum st c).1:=by
 match c,h with
 |[],h=>simp[sum]at h
 |[a],h =>
  cases ha:(cF a).2
  ·simp[sum,ha]at h
  ·rw[GZ st a ha];have:=pW a ha;exact⟨hs.d0,hs.d1,this.1,this.2,hs.b0,hs.b1,hs.l0⟩
 |[_,_],h=>simp[sum]at h
 |[a,s,b],h =>
  cases ha:(cF a).2
  ·simp[sum,ha]at h
  ·cases hg:(sign s).2
   ·simp[sum,ha,hg]at h
   ·rw[KJ st a s b ha hg]at h⊢;have d:=pW a ha;have f:=pW b h;exact⟨hs.d0,hs.d1,d.1,d.2,f.1,f.2,hs.l0⟩
 |_::_::_::_::_,h=>simp[sum]at h
def J5(j:List (List UInt8))(h:(fP j).2=G):PR (fP j).1:=by
 match j,h with
 |[],h=>simp[fP]at h
 |[_],h=>simp[fP]at h
 |[_,_],h=>simp[fP]at h
 |d::e::c::r,h =>
  unfold fP at h⊢;simp only at h⊢;by_cases he:(e==[61])=G
  ·by_cases hr:(bZ d).2=G
   ·rw[if_pos he,if_pos hr]at h⊢;have k:=VG d hr;have a:PR {MV.zero with dest:=(bZ d).1}:=⟨k.1,k.2,oT.a0,oT.a1,oT.b0,oT.b1,Z⟩
    split at h
    ·rename_i b;rw[if_pos b];exact J3 a r
    ·rename_i b;rw[if_neg b]
     split at h
     ·rename_i f;rw[if_pos f];exact VI a 2 r h
     ·rename_i f;rw[if_neg f]
      split at h
      ·rename_i i;rw[if_pos i];exact VI a 3 r h
      ·rename_i i;rw[if_neg i];exact J4 a (c::r) h
   ·rw[if_pos he,if_neg hr]at h;simp at h
  ·rw[if_neg he]at h;simp at h
def J6(k:List (List UInt8))(h:(cR k).2=G):PR (cR k).1:=by
 match k,h with
 |[],h=>simp[cR]at h
 |c::r,h =>
  unfold cR at h⊢;simp only at h⊢
  split at h
  ·rename_i b;rw[if_pos b]
   match r,h with
   |[],h=>simp[store]at h
   |[_],h=>simp[store]at h
   |p::v::q,h =>
    unfold store at h⊢;simp only at h⊢
    cases ht:(iC {MV.zero with B:=1} p v).2
    ·simp[ht]at h
    ·simp only[if_true];exact BZ (VH (zZ oT 1) p v ht) q
  ·rename_i b;rw[if_neg b]
   split at h
   ·rename_i d;rw[if_pos d];exact BZ (zZ oT 4) r
   ·rename_i d;rw[if_neg d]
    split at h
    ·rename_i f;rw[if_pos f];exact zZ oT 5
    ·rename_i f;rw[if_neg f]
     split at h
     ·rename_i i;rw[if_pos i]
      match r,h with
      |[],h=>simp[oY]at h
      |[a],h =>
       have:=pW a h;exact⟨oT.d0,oT.d1,this.1,this.2,oT.b0,oT.b1,Z⟩
      |_::_::_,h=>simp[oY]at h
     ·rename_i i;rw[if_neg i]
      split at h
      ·rename_i j;rw[if_pos j];exact zZ oT 11
      ·rename_i j;rw[if_neg j];exact J5 (c::r) h
structure Tidy(r:Rd):Prop where
 few:r.H.length<=4
 c0:0<=r.count
 c8:r.count<=8
 non:r.H=[]->r.count=0
 i0:0<=r.I
 i1:r.I<=8*((r.H.length-1:Nat):Int)+r.count
 O:∀o∈r.O,0<=o/\o<100
 thr:∀t∈r.H,0<=t.block/\t.block<100/\∀s∈t.S,QN s
def J7:Tidy Rd.zero:=⟨by simp[Rd.zero],by simp[Rd.zero],by simp[Rd.zero],by simp[Rd.zero],by simp[Rd.zero],by simp[Rd.zero],by simp[Rd.zero],by simp[Rd.zero]⟩
def IY(h:PR st)(j c:Int)(d:0<=c)(f:c<100):QN {st with i:=j,label:=c}:=
 ⟨h.d0,by have:=h.d1;show st.dest<100;omega,h.a0,by have:=h.a1;show st.a.n<100;omega,h.b0,by have:=h.b1;show st.b.n<100;omega,d,f⟩
def VJ(f:List NB)(s:MV)(hs:QN s)(h:∀t∈f,0<=t.block/\t.block<100/\∀s∈t.S,QN s):∀t∈fB f s,0<=t.block/\t.block<100/\∀s∈t.S,QN s:=by
 match f,h with
 |[],h=>intro t c;simp[fB]at c
 |[a],h =>
  intro t c;simp[fB]at c;subst c;have:=h a (by simp);refine⟨this.1,this.2.1,fun x d=>?_⟩;simp at d
  rcases d with d|rfl
  ·exact this.2.2 x d
  ·exact hs
 |a::b::r,h =>
  intro t c;simp only[fB,List.mem_cons]at c
  rcases c with rfl|c
  ·exact h t (by simp)
  ·exact VJ (b::r) s hs (fun t c=>h t (by simp at c⊢;right;exact c)) t c
def GF(s:MV)(h:Tidy r)(hs:QN s):Tidy (put r s):=by
 have a:(put r s).H.length=r.H.length:=xY _ _;refine⟨by rw[a];exact h.few,h.c0,h.c8,fun e=>h.non (by have:=congrArg List.length e;rw[a]at this;exact List.eq_nil_of_length_eq_zero (by simpa using this)),h.i0,by rw[a];exact h.i1,h.O,VJ _ _ hs h.thr⟩
def VK(s:List (List UInt8))(h:Tidy r):Tidy (cW {r with i:=r.i+1} s).1:=by
 have f:Tidy {r with i:=r.i+1}:=⟨h.few,h.c0,h.c8,h.non,h.i0,h.i1,h.O,h.thr⟩;unfold cW
 split
 ·unfold eG;by_cases u:4<=r.H.length\/0<r.O.length
  ·rw[if_pos (by exact u)];exact f
  ·rw[if_neg (by exact u)]
   split
   ·rename_i a c _;by_cases hd:(eD c 2).2=G
    ·rw[if_pos hd];have p:=JK c 2 hd;refine⟨by simp;omega,by simp,by simp,by simp,h.i0,?_,h.O,?_⟩
     ·have:=h.i1;have k:=h.non;have z:=h.c8
      cases d:r.H with
      |nil=>rw[d]at this;rw[k d]at this;simp at this⊢;omega
      |cons t q=>rw[d]at this;simp at this⊢;omega
     ·intro t d;simp at d
      rcases d with d|rfl
      ·exact h.thr t d
      ·exact⟨p.1,by show(eD c 2).1<100;omega,by simp⟩
    ·rw[if_neg hd];exact f
   ·exact f
 ·split
  ·exact f
  ·rename_i _ v;simp only[]
   split
   ·rename_i hs;have k:=J6 s hs
    split
    ·unfold fC
     split
     ·exact f
     ·rename_i l J;have K:l∈r.O:=List.mem_of_getLast? J;have m:=h.O l K;refine GF _ ⟨h.few,h.c0,h.c8,h.non,h.i0,h.i1,fun o x=>h.O o (List.dropLast_subset _ x),h.thr⟩ ?_;exact IY k _ _ m.1 m.2
    ·split
     ·exact f
     ·rename_i z;have B:r.count<8:=by simpa using z
      have n:r.H≠[]:=by simpa using v
      have j:Tidy {r with i:=r.i+1,count:=r.count+1}:=⟨h.few,by have:=h.c0;show 0<=r.count+1;omega,by show r.count+1<=8;omega,fun e=>absurd e n,h.i0,by have:=h.i1;show r.I<=8*((r.H.length-1:Nat):Int)+(r.count+1);omega,h.O,h.thr⟩
      split
      ·split
       ·exact j
       ·rename_i x;unfold branch;rw[if_neg x];have S:=h.i1;have u:=h.few;have F:=h.i0;have p:r.I+1<100:=by omega
        refine GF _ ⟨j.few,j.c0,j.c8,j.non,by show 0<=r.I+1;omega,by show r.I+1<=8*((r.H.length-1:Nat):Int)+(r.count+1);omega,?_,j.thr⟩ (IY k _ _ (by show 0<=r.I+1;omega) p);intro o b;simp at b
        rcases b with b|rfl
        ·exact h.O o b
        ·exact⟨by omega,p⟩
      ·refine GF _ j ?_;have:=IY k (r.i+1) 0 (by omega) (by omega);have e:({(cR s).1 with i:=r.i+1}:MV)={(cR s).1 with i:=r.i+1,label:=0}:=by
        have:=k.l0;rw[<- this]
       rw[e];exact this
   ·exact f
def J8(a:List (List UInt8)):∀r:Rd,Tidy r->Tidy (OX r a).1:=by
 induction a with
 |nil=>intro r h;exact h
 |cons x q ih =>
  intro r h;simp only[OX]
  split
  ·exact ih _ (VK _ h)
  ·exact VK _ h
def J9(l:List UInt8):∀t∈(cS l).1,0<=t.block/\t.block<100/\∀s∈t.S,QN s:=by
 have h:=J8 (ND 10 l).dropLast Rd.zero J7;unfold cS;simp only[]
 split
 ·split
  ·intro t a;simp at a
  ·exact h.thr
 ·intro t a;simp at a
end P
def VL(s:ByteArray)(w:World)(hs:s.size<=8192):
  Calls prog 25 #[.string s] w fun e n=>∃H,e=N (.tuple #[.agg #[H],Y C (PK s.toList).2.1,Y C (PK s.toList).2.2])/\(∃a m c,H=.slice a m c)/\
   ((PK s.toList).2.1=0->∃z B,H=MU z (PK s.toList).1.length B/\fN n (A (y w)) H (PK s.toList).1/\(PK s.toList).1.length<=4/\(∀t∈(PK s.toList).1,t.S.length<3000)/\∀t∈(PK s.toList).1,0<=t.block/\t.block<100/\∀x∈t.S,P.QN x)/\Below (A (y w)) w n:=by
 unfold PK;rw[jR];by_cases h1:2000<s.size
 ·rw[if_pos h1];refine(Jn s w hs h1).mono ?_;rintro e n ⟨rfl,f⟩;exact⟨_,Z,⟨_,_,_,Z⟩,fun h=>by simp at h,f⟩
 rw[if_neg h1]
 cases h2:(cS s.toList).2 != 0
 rotate_left
 ·refine(Jo s w hs (by omega) h2).mono ?_;rintro e n ⟨rfl,f⟩;exact⟨_,Z,⟨_,_,_,Z⟩,fun h=>by simp at h,f⟩
 simp only[x3,if_false];have h':¬(2000:Int)<(s.size:Int):=by omega
 obtain⟨ab,X,d⟩:=VE s.toList (by simpa using h2);have j:∀t∈(cS s.toList).1,t.S.length<10000:=fun t ht=>by have:=d t ht;rw[jR]at this;omega
 have K:MT (∀t∈(cS s.toList).1,t.S.length<3000):=fun t ht=>by have:=d t ht;rw[jR]at this;omega
 clear d
 cases h3:kX (cS s.toList).1 != 0
 case' false =>
  cases h4:iU (cS s.toList).1 (cS s.toList).1 != 0
  case' false=>cases h5:jQ (cS s.toList).1
 all_goals
  simp only[x3,if_false,if_true];go_enter func25,ntmps25;go_wp2_with(first|(go_at_call 41;refine(VC s _ hs).mono ?_;rintro e w1 ⟨H,rfl,k,i⟩;obtain⟨ta,B,rfl,ac⟩:=k.form;have ad:A (y w)+1<=A (y w1):=(by have:=i.size;simp at this;omega);have b:w1.heap[A (y w)]?=L (E #[.slice M 0 0] 40 (0,0)):=(by rw[i.block _ (by simp)];exact heap_alloc_new w _);obtain⟨z0,z1,z2⟩:=oC b;have F:=MS b;have O:=MS k;have J:MT (Below (A (y w)) w w1):=((xF _ _).alloc (xR _) _).trans (i.mono (by simp));obtain⟨z,rfl⟩:=ac ab;have I:=MS fun n aa=>Jp (w':=n) O.o J.o F.o aa;clear b k i)|(go_at_call 42;refine(Jj (A (y w)+1) z _ B (cS s.toList).1 _ (by exact(I.o _ (xF _ _)).1) Z (by omega) j).mono ?_;rintro e w2 ⟨rfl,f⟩;have HB:=MS (f);obtain⟨t,V,r,q,l⟩:=I.o _ HB.o;obtain⟨y0,y1,y2⟩:=oC r;obtain⟨x0,x1,x2⟩:=oC q;have T:=MS t;have W:=MS r;clear t r q)|(go_at_call 29;refine(Ji (A (y w)+1) z _ B (cS s.toList).1 _ (by exact T.o) Z (by omega) j).mono ?_;rintro e w2 ⟨rfl,f⟩;have HB:=MS (HB.trans (f.mono HB.size));obtain⟨t,V,r,q,l⟩:=I.o _ HB.o;obtain⟨y0,y1,y2⟩:=oC r;obtain⟨x0,x1,x2⟩:=oC q;have T:=MS t;have W:=MS r;clear t r q)|(go_at_call 30;refine(Jl (A (y w)+1) z _ B (cS s.toList).1 _ (by exact T.o) Z (by omega) j).mono ?_;rintro e w2 ⟨rfl,f⟩;have HB:=MS (HB.trans (f.mono HB.size));obtain⟨t,V,r,q,l⟩:=I.o _ HB.o;obtain⟨y0,y1,y2⟩:=oC r;obtain⟨x0,x1,x2⟩:=oC q;have T:=MS t;have W:=MS r;clear t r q));refine JQ (p:=2) (u:=3) (v:=4) (A (y w)) _ _ _ (by kernel_rfl) Z Z Z (by exact bX W.o 0 _) Z ⟨_,Z,⟨_,_,_,Z⟩,fun h=>?_,V.setCell (xR _) _⟩
  first|(simp at h;done)|exact⟨z,B,Z,T.set _,X,K.o,J9 s.toList⟩
