import Derived.Deep.RegionHeld3
import Derived.Test.YtehclbpoabdpoaaGreatDoorO01
set_option linter.all false
set_option maxHeartbeats 0
namespace Go.Proofs.YtehclbpoabdpoaaGreatDoor
open Go Go.RowKit Go.Proofs.Tryz P
set_option maxRecDepth 1000000
variable {w:World}{b:Nat}
open _root_.Array renaming size->M
open Go.World renaming heap->H,cell?->L
open List renaming length->D
open Go.Value renaming string->Y,slice->N
open Option renaming none->C,some->I
open Bool renaming false->O,true->E
open Go.Ending renaming returned->G
open Go.Obj renaming cells->U
open _root_.ByteArray renaming toList->xF
open Nat renaming le_refl->xR,lt_of_lt_of_le->x4
open List renaming map_cons->xW,map_nil->x2,eq_nil_of_length_eq_zero->x3
open Go.RowKit.Below renaming refl->x1
def cA{t:TypeId}{c:Array Value}(h:w.heap[b]?=I (U c t (0,0)))(j:Nat):L w ⟨b,j,C⟩=c[j]?:=by
 simp[World.cell?,h]
def fL{B:Nat}{a:World}{F:Nat->Option Value}(c:Below B w a)(e:b<B)(d:∀j,L w ⟨b,j,C⟩=F j)(j:Nat):L a ⟨b,j,C⟩=F j:=(c.cell (p:=⟨b,j,C⟩) e).trans (d j)
def bB.fs{g:Nat}{c:MV}(h:bB w g c):g<M (H w)/\(∀i,w.frozen? ⟨g,i,C⟩=O)/\∀i,L w ⟨g,i,C⟩=#[Value.int .i64 c.B,.int .i64 c.i,.int .i64 c.dest,.int .i64 c.z,.bool c.a.MW,.int .i64 c.a.n,.bool c.b.MW,.int .i64 c.b.n,.int .i64 c.q,.int .i64 c.scope,.int .i64 c.label][i]?:=⟨h.lt,h.free,h.cell⟩
def yH(g:Nat)(c:MV)(p v:ByteArray)(w:World)(j:bB w g c):
  Calls prog 167 #[.pointer (I ⟨g,0,C⟩),Y p,Y v] w fun e d=>e=G (.bool (iC c p.toList v.toList).2)/\bB d g (iC c p.toList v.toList).1/\w.grownBy d (I g):=by
 cases hv:(fT p.toList).2
 ·go_enter func167,ntmps167;go_wp2_with(first|(go_at_call 195;refine(yN _ _).mono ?_;rintro e d ⟨rfl,rfl⟩)|(go_at_call 169;refine(rO _ _).mono ?_;rintro e n ⟨rfl,f⟩));go_ret;simp only[iC,hv];exact⟨Z,j,fH _ _⟩
 ·go_enter func167,ntmps167;go_wp2_with(first|(go_at_call 195;refine(yN _ _).mono ?_;rintro e d ⟨rfl,rfl⟩)|(go_at_call 169;refine(rO _ _).mono ?_;rintro e n ⟨rfl,f⟩;have i:=j.X f;obtain⟨m,l,k⟩:=i.fs));go_ret;have e:iC c p.toList v.toList=({c with z:=(fT p.toList).1,a:=(cF v.toList).1},(cF v.toList).2):=by simp[iC,hv]
  rw[e];exact⟨Z,((i.mJ _).rH _).alloc _,uA (dG (dG (dG (mR f _) _ _) _ _) _ _) _⟩
def tZ(g b off n k:Nat)(f:MV)(l:List ByteArray)(w:World)(j:bB w g f)(K:NQ w b off l)(d:D l=n)(S:n<=k)(v:b≠g):
  Calls prog 168 #[.pointer (I ⟨g,0,C⟩),N (I ⟨b,off,C⟩) n k] w fun e c=>e=G (.bool (dI f (l.map xF)).2)/\bB c g (dI f (l.map xF)).1/\w.grownBy c (I g):=by
 obtain⟨A,z,x⟩:=j.fs
 cases l with
 |nil =>
  simp at d;subst d;go_enter func168,ntmps168;go_wp2;go_ret;exact⟨Z,j,fH _ _⟩
 |cons o r =>
  obtain⟨T,m,i⟩:=K.head;have F:1<=n:=by simp at d;omega
  cases ho1:(P.order o.toList).2
  ·go_enter func168,ntmps168;go_wp2_with(first|(go_at_call 196;refine(xV _ _).mono ?_;rintro e c ⟨rfl,rfl⟩)|(go_at_call 154;refine(xZ _ _ _).mono ?_;rintro e c ⟨rfl,rfl⟩)|(go_at_call 197;refine(xQ _ _).mono ?_;rintro e c ⟨rfl,rfl⟩));go_ret;simp only[xW,Fw f _ _ ho1];exact⟨Z,j,fH _ _⟩
  cases ho2:QM f.B (P.order o.toList).1
  ·go_enter func168,ntmps168;go_wp2_with(first|(go_at_call 196;refine(xV _ _).mono ?_;rintro e c ⟨rfl,rfl⟩)|(go_at_call 154;refine(xZ _ _ _).mono ?_;rintro e c ⟨rfl,rfl⟩)|(go_at_call 197;refine(xQ _ _).mono ?_;rintro e c ⟨rfl,rfl⟩));go_ret;simp only[xW,Fx f _ _ ho2];exact⟨Z,j,fH _ _⟩
  cases h0:(P.order o.toList).1==0
  ·match r,i,d with
   |[],_,d =>
    simp at d;subst d;go_enter func168,ntmps168;go_wp2_with(first|(go_at_call 196;refine(xV _ _).mono ?_;rintro e c ⟨rfl,rfl⟩)|(go_at_call 154;refine(xZ _ _ _).mono ?_;rintro e c ⟨rfl,rfl⟩)|(go_at_call 197;refine(xQ _ _).mono ?_;rintro e c ⟨rfl,rfl⟩));go_ret;simp only[xW,x2,TO f _ ho1 ho2 h0];exact⟨Z,j.fR _,dG (fH _ _) _ _⟩
   |[s],i,d =>
    obtain⟨y,_,_⟩:=i.head;simp at d;subst d;go_enter func168,ntmps168;go_wp2_with(first|(go_at_call 196;refine(xV _ _).mono ?_;rintro e c ⟨rfl,rfl⟩)|(go_at_call 154;refine(xZ _ _ _).mono ?_;rintro e c ⟨rfl,rfl⟩)|(go_at_call 197;refine(xQ _ _).mono ?_;rintro e c ⟨rfl,rfl⟩));go_ret;simp only[xW,x2,TP f _ _ ho1 ho2 h0];exact⟨Z,(j.fR _).iN _,dG (dG (fH _ _) _ _) _ _⟩
   |s::t::q,i,d =>
    have J:3<=n:=by simp at d;omega
    go_enter func168,ntmps168;go_wp2_with(first|(go_at_call 196;refine(xV _ _).mono ?_;rintro e c ⟨rfl,rfl⟩)|(go_at_call 154;refine(xZ _ _ _).mono ?_;rintro e c ⟨rfl,rfl⟩)|(go_at_call 197;refine(xQ _ _).mono ?_;rintro e c ⟨rfl,rfl⟩));go_ret;simp only[xW,TQ f _ _ _ _ ho1 ho2 h0];exact⟨Z,j.fR _,dG (fH _ _) _ _⟩
  ·have p:(P.order o.toList).1=0:=by simpa using h0
   have u:MT (dI f (o.toList::r.map xF)=({f with q:=0},(r.map xF).isEmpty)):=TN f _ _ ho1 ho2 p;rw[p]at ho2;have V:((n:Int)==1)=r.isEmpty:=by
    cases r with
    |nil=>simp at d;subst d;rfl
    |cons a q=>simp at d;simp;omega
   go_enter func168,ntmps168;go_wp2_with(first|(go_at_call 196;refine(xV _ _).mono ?_;rintro e c ⟨rfl,rfl⟩)|(go_at_call 154;refine(xZ _ _ _).mono ?_;rintro e c ⟨rfl,rfl⟩)|(go_at_call 197;refine(xQ _ _).mono ?_;rintro e c ⟨rfl,rfl⟩));go_ret;simp only[xW,u.o];exact⟨by simp,j.fR _,dG (fH _ _) _ _⟩
def Gk(g b off n c:Nat)(i:MV)(l:List ByteArray)(w:World)(j:bB w g i)(F:NQ w b off l)(m:D l=n)(K:n<=c)(a:b≠g):
  Calls prog 171 #[.pointer (I ⟨g,0,C⟩),N (I ⟨b,off,C⟩) n c] w fun e k=>e=G (.bool (P.load i (l.map xF)).2)/\bB k g (P.load i (l.map xF)).1/\w.grownBy k (I g):=by
 obtain⟨x,v,u⟩:=j.fs
 cases l with
 |nil =>
  simp at m;subst m;go_enter func171,ntmps171;go_wp2;go_ret;exact⟨Z,j,fH _ _⟩
 |cons o r =>
  obtain⟨S,t,q⟩:=F.head;have y:1<=n:=by simp at m;omega
  have p:D r=n-1:=by simp at m;omega
  cases ho1:(fT o.toList).2
  ·go_enter func171,ntmps171;go_wp2_with(first|(go_at_call 195;refine(yN _ _).mono ?_;rintro e k ⟨rfl,rfl⟩));go_ret;simp only[xW,GR i _ _ ho1];exact⟨Z,j,fH _ _⟩
  have s:=MS (FL i o.toList (r.map xF) ho1);by_cases hcap:c=1
  ·have A:r=[]:=x3 (by omega);subst A;go_enter func171,ntmps171;go_wp2_with(first|(go_at_call 195;refine(yN _ _).mono ?_;rintro e k ⟨rfl,rfl⟩)|(go_at_call 168;refine(tZ _ _ _ _ _ {i with B:=0,z:=(fT o.toList).1} [] _ (by exact(j.cZ _).mJ _) (NQ.nil _ _ _) (by simp;omega) (by omega) a).mono ?_;rintro e J ⟨rfl,f,d⟩));go_ret;simp only[xW,cV s];exact⟨Z,f,nM (dG (dG (fH _ _) _ _) _ _) d⟩
  ·go_enter func171,ntmps171;go_wp2_with(first|(go_at_call 195;refine(yN _ _).mono ?_;rintro e k ⟨rfl,rfl⟩)|(go_at_call 168;refine(tZ _ _ _ _ _ {i with B:=0,z:=(fT o.toList).1} r _ (by exact(j.cZ _).mJ _) (by exact(q.set a _ _).set a _ _) p (by omega) a).mono ?_;rintro e J ⟨rfl,f,d⟩));go_ret;simp only[xW,cV s];exact⟨Z,f,nM (dG (dG (fH _ _) _ _) _ _) d⟩
def Gl(g b off n q:Nat)(k:Int)(o:MV)(A:List ByteArray)(w:World)(u:bB w g o)(J:NQ w b off A)(j:D A=n)(hc:n<=q)(c:b≠g):
  Calls prog 172 #[.pointer (I ⟨g,0,C⟩),.int .i64 k,N (I ⟨b,off,C⟩) n q] w fun e m=>e=G (.bool (P.step o k (A.map xF)).2)/\bB m g (P.step o k (A.map xF)).1/\w.grownBy m (I g):=by
 obtain⟨ac,X,W⟩:=u.fs
 match A,J,j with
 |[],_,j =>
  simp at j;subst j;go_enter func172,ntmps172;go_wp2;go_ret;exact⟨Z,u,fH _ _⟩
 |[_],_,j =>
  simp at j;subst j;go_enter func172,ntmps172;go_wp2;go_ret;exact⟨Z,u,fH _ _⟩
 |p::v::r,J,j =>
  obtain⟨t,T,x⟩:=J.head;obtain⟨f,_,S⟩:=x.head;have ad:2<=n:=by simp at j;omega
  have K:D r=n-2:=by simp at j;omega
  clear j J x;have aa:0<n:=by omega
  have ab:(1:Int)<(n:Int):=by omega
  cases ht:(iC {o with B:=k} p.toList v.toList).2
  ·have F:=MS (KP o k p.toList v.toList (r.map xF) ht);go_enter func172,ntmps172;go_wp2_with fail;go_region_held3 (fun m=>L m ⟨b,off,C⟩=I (Y p)/\L m ⟨b,off+1,C⟩=I (Y v)) (first|exact⟨(cY c).trans t,(cY c).trans f⟩|exact⟨y,z⟩) (first|(go_at_call 167;refine(yH g {o with B:=k} _ _ _ ?_).mono ?_;(exact(u.cZ _).drew);rintro e V ⟨rfl,l,d⟩;have y:=d.cell (a:=⟨b,off,C⟩) (v:=Y p) ((cY c).trans t) (by simpa using c);have z:=d.cell (a:=⟨b,off+1,C⟩) (v:=Y v) ((cY c).trans f) (by simpa using c)));go_wp2;go_ret;simp only[xW,cV F];exact⟨Z,l,nM (zB (dG (fH _ _) _ _)) d⟩
  have F:=MS (JF o k p.toList v.toList (r.map xF) ht);by_cases hcap:q=2
  ·have hr:r=[]:=x3 (by omega);subst hr;go_enter func172,ntmps172;go_wp2_with fail;go_region_held3 (fun m=>L m ⟨b,off,C⟩=I (Y p)/\L m ⟨b,off+1,C⟩=I (Y v)) (first|exact⟨(cY c).trans t,(cY c).trans f⟩|exact⟨y,z⟩) (first|(go_at_call 167;refine(yH g {o with B:=k} _ _ _ ?_).mono ?_;(exact(u.cZ _).drew);rintro e V ⟨rfl,l,d⟩;have y:=d.cell (a:=⟨b,off,C⟩) (v:=Y p) ((cY c).trans t) (by simpa using c);have z:=d.cell (a:=⟨b,off+1,C⟩) (v:=Y v) ((cY c).trans f) (by simpa using c)));go_wp2_with(first|(go_at_call 168;refine(tZ _ _ _ _ _ _ [] _ l (NQ.nil _ _ _) (by simp;omega) (by omega) c).mono ?_;rintro e w2 ⟨rfl,s,i⟩));go_ret;simp only[xW,cV F];exact⟨Z,s,nM (nM (zB (dG (fH _ _) _ _)) d) i⟩
  ·go_enter func172,ntmps172;go_wp2_with fail;go_region_held3 (fun m=>L m ⟨b,off,C⟩=I (Y p)/\L m ⟨b,off+1,C⟩=I (Y v)) (first|exact⟨(cY c).trans t,(cY c).trans f⟩|exact⟨y,z⟩) (first|(go_at_call 167;refine(yH g {o with B:=k} _ _ _ ?_).mono ?_;(exact(u.cZ _).drew);rintro e V ⟨rfl,l,d⟩;have y:=d.cell (a:=⟨b,off,C⟩) (v:=Y p) ((cY c).trans t) (by simpa using c);have z:=d.cell (a:=⟨b,off+1,C⟩) (v:=Y v) ((cY c).trans f) (by simpa using c)));go_wp2_with(first|(go_at_call 168;refine(tZ _ _ _ _ _ _ r _ l (by exact((S.set c _ _).drew).grown d c) K (by omega) c).mono ?_;rintro e w2 ⟨rfl,s,i⟩));go_ret;simp only[xW,cV F];exact⟨Z,s,nM (nM (zB (dG (fH _ _) _ _)) d) i⟩
def Gm(g b off n z:Nat)(k:MV)(p:List ByteArray)(w:World)(q:bB w g k)(r:NQ w b off p)(y:D p=n)(W:b≠g):
  Calls prog 173 #[.pointer (I ⟨g,0,C⟩),N (I ⟨b,off,C⟩) n z] w fun e V=>e=G (.bool (sum k (p.map xF)).2)/\bB V g (sum k (p.map xF)).1/\w.grownBy V (I g):=by
 by_cases h1:n=1
 ·subst h1
  match p,r,y with
  |[a],r,y =>
  obtain⟨hd,d,_⟩:=r.head
  cases ha:(cF a.toList).2
  ·have j:=MS (CG k a.toList [] ha);go_enter func173,ntmps173;go_wp2_with(first|(go_at_call 169;refine(rO _ _).mono ?_;rintro e t ⟨rfl,f⟩));go_ret;simp only[xW,x2,cV j];exact⟨Z,(q.X f).alloc _,uA (mR f _) _⟩
  ·have j:=MS (GZ k a.toList ha);go_enter func173,ntmps173;go_wp2_with(first|(go_at_call 169;refine(rO _ _).mono ?_;rintro e t ⟨rfl,f⟩;have i:=q.X f;obtain⟨o,m,l⟩:=i.fs));go_ret;simp only[xW,x2,cV j];exact⟨Z,((i.cZ _).rH _).alloc _,uA (dG (dG (dG (mR f _) _ _) _ _) _ _) _⟩
 by_cases h3:n=3
 ·subst h3
  match p,r,y with
  |[a,s,c],r,y =>
  obtain⟨hd,d,K⟩:=r.head;obtain⟨v,_,S⟩:=K.head;obtain⟨B,_,_⟩:=S.head
  cases ha:(cF a.toList).2
  ·have j:=MS (CG k a.toList [s.toList,c.toList] ha);go_enter func173,ntmps173;go_wp2_with(first|(go_at_call 169;refine(rO _ _).mono ?_;rintro e t ⟨rfl,f⟩));go_ret;simp only[xW,x2,cV j];exact⟨Z,(q.X f).alloc _,uA (mR f _) _⟩
  cases hs:(sign s.toList).2
  ·have j:=MS (TR k a.toList s.toList c.toList ha hs);go_enter func173,ntmps173;go_wp2_with(first|(go_at_call_of 169 (Value.string a);refine(rO _ _).mono ?_;rintro e t ⟨rfl,f⟩;have i:=q.X f;obtain⟨o,m,l⟩:=i.fs;have A:b<M (H t):=x4 d f.size;have e1:=MZ f d v)|(go_at_call 198;refine(TS _ _).mono ?_;rintro e T ⟨rfl,rfl⟩));go_ret;simp only[xW,x2,cV j];exact⟨Z,((i.cZ _).rH _).alloc _,uA (dG (dG (dG (mR f _) _ _) _ _) _ _) _⟩
  ·have j:=MS (KJ k a.toList s.toList c.toList ha hs);go_enter func173,ntmps173;go_wp2_with(first|(go_at_call_of 169 (Value.string a);refine(rO _ _).mono ?_;rintro e t ⟨rfl,f⟩;have i:=q.X f;obtain⟨o,m,l⟩:=i.fs;have A:b<M (H t):=x4 d f.size;have e1:=MZ f d v;have e2:=MZ f d B)|(go_at_call 198;refine(TS _ _).mono ?_;rintro e T ⟨rfl,rfl⟩));have F:=((i.cZ 6).rH (cF a.toList).1).alloc (U #[.bool (cF a.toList).1.MW,.int .i64 (cF a.toList).1.n] 135);refine(rO _ _).mono ?_;rintro e T ⟨rfl,u⟩;have x:=F.X u;have J:w.grownBy T (I g):=nM (uA (dG (dG (dG (mR f _) _ _) _ _) _ _) _) (mR u _);obtain⟨o,m,l⟩:=x.fs;go_wp2;go_ret;simp only[xW,x2,cV j];exact⟨Z,((x.cZ _).bM _).alloc _,uA (dG (dG (dG J _ _) _ _) _ _) _⟩
 ·have j:=MS (EX k (p.map xF) (by simp;omega) (by simp;omega));have aa:((n:Int) != 1)=E:=by rw[bne_iff_ne];omega
  have ab:((n:Int) != 3)=E:=by rw[bne_iff_ne];omega
  go_enter func173,ntmps173;go_wp2;go_ret;simp only[cV j];exact⟨Z,q,fH _ _⟩
def Gn(b off n j:Nat)(g:List ByteArray)(w:World)(l:NQ w b off g)(i:D g=n):
  Calls prog 149 #[N (I ⟨b,off,C⟩) n j] w fun e t=>e=G (nI (oY (g.map xF)))/\Below (M (H w)) w t:=by
 by_cases h2:n=2
 ·subst h2
  match g,l,i with
  |[a,c],l,i =>
  obtain⟨x,o,m⟩:=l.head;obtain⟨r,_,_⟩:=m.head;go_enter func149,ntmps149;go_wp2_with(first|(go_at_call 169;refine(rO _ _).mono ?_;rintro e z ⟨rfl,k⟩;have s:=(bB.new w MV.zero).X k)|(refine mX (.tmp 2) (.tmp 18) Z Z (M (H w)) _ {MV.zero with B:=10,a:=(cF c.toList).1} Z Z (by exact s.alloc _) ?_;intro v f d));refine rF (p:=2) (u:=3) (M (H w)) {MV.zero with B:=10,a:=(cF c.toList).1} (cF c.toList).2 (by kernel_rfl) Z Z f Z ⟨Z,?_⟩;exact kS ((((x1 _ _).alloc (xR _) _).trans (k.mono (by simp))).alloc (by have:=k.size;simp at this;omega) _) d (xR _)
 ·have y:((n:Int) != 2)=E:=by rw[bne_iff_ne];omega
  have e:oY (g.map xF)=(MV.zero,O):=by
   match g,i with
   |[],_=>rfl
   |[_],_=>rfl
   |[_,_],i=>simp at i;omega
   |_::_::_::_,_=>rfl
  have q:=MS e;go_enter func149,ntmps149;go_wp2_with(first|(refine mX (.tmp 2) (.tmp 9) Z Z (M (H w)) _ MV.zero Z Z (by exact bB.new _ MV.zero) ?_;intro v f d));rw[cV q];refine rF (p:=2) (u:=3) (M (H w)) MV.zero O (by kernel_rfl) Z Z f Z ⟨Z,?_⟩;exact kS ((x1 _ _).alloc (xR _) _) d (xR _)
def Gp(b off n j:Nat)(c:ByteArray)(r:List ByteArray)(w:World)(v:NQ w b off (c::r))(t:D r=n-1)(z:1<=n)(A:n<=j):
  Calls prog 148 #[N (I ⟨b,off,C⟩) n j] w fun e x=>e=G (nI (fence ((c::r).map xF)))/\Below (M (H w)) w x:=by
 obtain⟨F,s,o⟩:=v.head;have q:∀(w:World),bB ((w.alloc (U (aV MV.zero) 137)).alloc (U (aV {MV.zero with B:=4}) 137)) (M (H w)+1) {MV.zero with B:=4}:=fun w=>by
  have:=bB.new (w.alloc (U (aV MV.zero) 137)) {MV.zero with B:=4};simpa using this
 have i:∀(g:World),bB g (M (H w)+1) (dI {MV.zero with B:=4} (r.map xF)).1->((w.alloc (U (aV MV.zero) 137)).alloc (U (aV {MV.zero with B:=4}) 137)).grownBy g (I (M (H w)+1)) ->
   bB g (M (H w)) MV.zero/\Below (M (H w)) w g:=fun g _ a=>by
  refine⟨((bB.new w MV.zero).alloc _).aC (a.block (M (H w)) (by simp;omega) (by simp)),?_⟩;exact kS (((x1 _ _).alloc (xR _) _).alloc (by simp) _) a (by simp)
 by_cases hcap:j=1
 ·have l:r=[]:=x3 (by omega);subst l;go_enter func148,ntmps148;go_wp2_with fail;refine(tZ _ _ _ _ _ {MV.zero with B:=4} [] _ (by exact q w) (NQ.nil _ _ _) (by simp;omega) (by omega) (by omega)).mono ?_;rintro e g ⟨rfl,f,a⟩;obtain⟨l,m⟩:=i g f a;go_wp2_with(first|(refine rT (.tmp 4) Z Z (M (H w)+1) _ Z f ?_)|(refine mX (.tmp 2) (.tmp 14) Z Z (M (H w)) _ _ Z Z (by exact l) ?_;intro y k d));refine rF (p:=2) (u:=3) (M (H w)) _ _ (by kernel_rfl) Z Z k Z ⟨Z,kS m d (xR _)⟩
 ·go_enter func148,ntmps148;go_wp2_with fail;refine(tZ _ _ _ _ _ {MV.zero with B:=4} r _ (by exact q w) (by exact(o.alloc _).alloc _) t (by omega) (by omega)).mono ?_;rintro e g ⟨rfl,f,a⟩;obtain⟨l,m⟩:=i g f a;go_wp2_with(first|(refine rT (.tmp 4) Z Z (M (H w)+1) _ Z f ?_)|(refine mX (.tmp 2) (.tmp 14) Z Z (M (H w)) _ _ Z Z (by exact l) ?_;intro y k d));refine rF (p:=2) (u:=3) (M (H w)) _ _ (by kernel_rfl) Z Z k Z ⟨Z,kS m d (xR _)⟩
def dD(w:World)(t:MV):World:=(w.alloc (U (aV MV.zero) 137)).alloc (U (aV t) 137)
def yS(w:World)(t:MV):bB (dD w t) (M (H w)+1) t:=by
 have:=bB.new (w.alloc (U (aV MV.zero) 137)) t;simpa[dD]using this
def CJ(w:World)(t:MV):Below (M (H w)) w (dD w t):=((x1 _ _).alloc (xR _) _).alloc (by simp) _
def zA{w1:World}{t:MV}(a:(dD w t).grownBy w1 (I (M (H w)+1))):bB w1 (M (H w)) MV.zero/\Below (M (H w)) w w1:=by
 refine⟨((bB.new w MV.zero).alloc _).aC (a.block (M (H w)) (by simp[dD];omega) (by simp)),?_⟩;exact kS (CJ w t) a (by omega)
def NQ.dD{off:Nat}{a:List ByteArray}(h:NQ w b off a)(t:MV):NQ (dD w t) b off a:=h.X (CJ w t)
def TZ{α:Type}(l:List α)(h:3<=D l):∃a b c r,l=a::b::c::r:=by
 match l,h with
 |a::b::c::r,_=>exact⟨a,b,c,r,Z⟩
def Gq(b off n g:Nat)(m:List ByteArray)(w:World)(hw:NQ w b off m)(F:D m=n)(hc:n<=g)(f:b<M (H w)):
  Calls prog 147 #[N (I ⟨b,off,C⟩) n g] w fun e k=>e=G (nI (P.store (m.map xF)))/\Below (M (H w)) w k:=by
 by_cases h3:n<3
 ·have e:P.store (m.map xF)=(MV.zero,O):=by
   match m,F with
   |[],_=>rfl
   |[_],_=>rfl
   |[_,_],_=>rfl
   |_::_::_::_,F=>simp at F;omega
  have HE:=MS e;clear e;go_enter func147,ntmps147;go_wp2_with(first|(refine mX (.tmp 2) (.tmp 9) Z Z (M (H w)) _ MV.zero Z Z (by exact bB.new _ MV.zero) ?_;intro w2 j d));rw[cV HE];refine rF (p:=2) (u:=3) (M (H w)) MV.zero O (by kernel_rfl) Z Z j Z ⟨Z,?_⟩;exact kS ((x1 _ _).alloc (xR _) _) d (xR _)
 obtain⟨q,p,v,r,rfl⟩:=TZ m (by omega);obtain⟨_,_,J⟩:=hw.head;obtain⟨x,_,K⟩:=J.head;obtain⟨y,_,ac⟩:=K.head;have X:D r=n-3:=by simp at F;omega
 have ad:(1:Int)<(n:Int):=by omega
 have ae:(2:Int)<(n:Int):=by omega
 have af:3<=n:=by omega
 clear F h3 hw J K;have e1:=((CJ w {MV.zero with B:=1}).cell (p:=⟨b,off+1,C⟩) f).trans x;have e2:=((CJ w {MV.zero with B:=1}).cell (p:=⟨b,off+2,C⟩) f).trans y;have o:=MS e1;have s:=MS e2;clear e1 e2
 cases ht:(iC {MV.zero with B:=1} p.toList v.toList).2
 ·go_enter func147,ntmps147;go_wp2_with fail;go_region_held3 (fun k=>L k ⟨b,off+1,C⟩=I (Y p)/\L k ⟨b,off+2,C⟩=I (Y v)) (first|exact⟨cV o,cV s⟩|exact⟨S,T⟩) (first|(go_at_call 167;refine(yH (M (H w)+1) {MV.zero with B:=1} _ _ _ ?_).mono ?_;(exact(yS w {MV.zero with B:=1}).drew);rintro e V ⟨rfl,i,c⟩;have S:=c.cell (a:=⟨b,off+1,C⟩) (v:=Y p) (cV o) (by simp;omega);have T:=c.cell (a:=⟨b,off+2,C⟩) (v:=Y v) (cV s) (by simp;omega)));obtain⟨hr,W⟩:=zA (w:=w) (t:={MV.zero with B:=1}) (w1:=V) (TV c);clear c S T i x y o s;go_wp2_with(first|(refine mX (.tmp 2) (.tmp 20) Z Z (M (H w)) _ MV.zero Z Z (by exact hr) ?_;intro w2 j d));have e:P.store ((q::p::v::r).map xF)=(MV.zero,O):=by simp[P.store,ht]
  rw[e];refine rF (p:=2) (u:=3) (M (H w)) MV.zero O (by kernel_rfl) Z Z j Z ⟨Z,kS W d (xR _)⟩
 by_cases hcap:g=3
 all_goals
  go_enter func147,ntmps147;go_wp2_with fail;go_region_held3 (fun k=>L k ⟨b,off+1,C⟩=I (Y p)/\L k ⟨b,off+2,C⟩=I (Y v)) (first|exact⟨cV o,cV s⟩|exact⟨S,T⟩) (first|(go_at_call 167;refine(yH (M (H w)+1) {MV.zero with B:=1} _ _ _ ?_).mono ?_;(exact(yS w {MV.zero with B:=1}).drew);rintro e V ⟨rfl,i,c⟩;have S:=c.cell (a:=⟨b,off+1,C⟩) (v:=Y p) (cV o) (by simp;omega);have T:=c.cell (a:=⟨b,off+2,C⟩) (v:=Y v) (cV s) (by simp;omega)));go_wp2_with(first|(go_at_call 168;refine(tZ _ _ _ _ _ _ r _ i (by first|exact NQ.grown (NQ.drew (NQ.dD (off:=off+3) ac {MV.zero with B:=1})) c (by omega)|(rw[x3 (l:=r) (by omega)];exact NQ.nil _ _ _)) X (by omega) (by omega)).mono ?_;rintro e w2 ⟨rfl,ab,A⟩;obtain⟨hr,W⟩:=zA (w:=w) (t:={MV.zero with B:=1}) (w1:=w2) (TV (nM c A)))|(refine rT (.tmp 4) Z Z (M (H w)+1) _ Z ab ?_)|(refine mX (.tmp 2) (.tmp 24) Z Z (M (H w)) _ _ Z Z (by exact hr) ?_;intro w3 aa z));have e:P.store ((q::p::v::r).map xF)=dI (iC {MV.zero with B:=1} p.toList v.toList).1 (r.map xF):=by simp[P.store,ht]
  rw[e];refine rF (p:=2) (u:=3) (M (H w)) _ _ (by kernel_rfl) Z Z aa Z ⟨Z,kS W z (xR _)⟩
def Gr(a:List (List UInt8))(h:D a<3):fP a=(MV.zero,O):=by
 match a,h with
 |[],_=>rfl
 |[_],_=>rfl
 |[_,_],_=>rfl
def UA(d e c:List UInt8)(r:List (List UInt8))(h:(e==[61])=O):fP (d::e::c::r)=(MV.zero,O):=by simp[fP,h]
def Gs(d e c:List UInt8)(r:List (List UInt8))(h:(bZ d).2=O):fP (d::e::c::r)=(MV.zero,O):=by simp[fP,h]
abbrev zD(d:ByteArray):MV:={MV.zero with dest:=(bZ d.toList).1}
def Gt(d:ByteArray)(e c:List UInt8)(r:List (List UInt8))(a:(e==[61])=E)(g:(bZ d.toList).2=E)(f:(c==[108,111,97,100])=E):fP (d.toList::e::c::r)=P.load (zD d) r:=by simp[fP,a,g,f]
def Gu(d:ByteArray)(e c:List UInt8)(r:List (List UInt8))(f:(e==[61])=E)(i:(bZ d.toList).2=E)(g:(c==[108,111,97,100])=O)(a:(c==[97,100,100])=E):fP (d.toList::e::c::r)=P.step (zD d) 2 r:=by simp[fP,f,i,g,a]
def Gv(d:ByteArray)(e c:List UInt8)(r:List (List UInt8))(f:(e==[61])=E)(i:(bZ d.toList).2=E)(g:(c==[108,111,97,100])=O)(a:(c==[97,100,100])=O)(hs:(c==[115,119,97,112])=E):fP (d.toList::e::c::r)=P.step (zD d) 3 r:=by simp[fP,f,i,g,a,hs]
def Gw(d:ByteArray)(e c:List UInt8)(r:List (List UInt8))(f:(e==[61])=E)(i:(bZ d.toList).2=E)(g:(c==[108,111,97,100])=O)(a:(c==[97,100,100])=O)(hs:(c==[115,119,97,112])=O):fP (d.toList::e::c::r)=sum (zD d) (c::r):=by simp[fP,f,i,g,a,hs]
def Gx(b off n i:Nat)(v:List ByteArray)(w:World)(F:NQ w b off v)(B:D v=n)(hc:n<=i)(A:b<M (H w)):
  Calls prog 150 #[N (I ⟨b,off,C⟩) n i] w fun e J=>e=G (nI (fP (v.map xF)))/\Below (M (H w)) w J:=by
 by_cases h3:n<3
 ·have K:=MS (Gr (v.map xF) (by simp;omega));go_enter func150,ntmps150;go_wp2_with(first|(refine mX (.tmp 2) (.tmp 16) Z Z (M (H w)) _ MV.zero Z Z (by exact bB.new _ MV.zero) ?_;intro z g a));rw[cV K];refine rF (p:=2) (u:=3) (M (H w)) MV.zero O (by kernel_rfl) Z Z g Z ⟨Z,?_⟩;exact kS ((x1 _ _).alloc (xR _) _) a (xR _)
 obtain⟨d,e,c,r,rfl⟩:=TZ v (by omega);obtain⟨T,_,o⟩:=F.head;obtain⟨V,_,q⟩:=o.head;obtain⟨W,_,s⟩:=q.head;have m:D r=n-3:=by simp at B;omega
 have ab:3<=n:=by omega
 have X:(1:Int)<(n:Int):=by omega
 have aa:(2:Int)<(n:Int):=by omega
 clear B h3 F o
 cases he:e.toList==[61]
 case' true =>
  cases hr:(bZ d.toList).2
  case' true =>
   cases hl:c.toList==[108,111,97,100]
   case' false =>
    cases ha:c.toList==[97,100,100]
    case' false =>
     cases hs:c.toList==[115,119,97,112]
 all_goals
  by_cases hcap:i=3
  all_goals
   have S:¬i=2:=by omega
   go_enter func150,ntmps150;go_wp2_with(first
    |(go_at_call 170;refine(TU _ _).mono ?_;rintro e J ⟨rfl,rfl⟩)
    |(go_at_call 171;refine(Gk (M (H w)+1) _ _ _ _ (zD d) r _ (by exact yS w (zD d)) (by first|exact NQ.dD (off:=off+3) s (zD d)|(rw[x3 (l:=r) (by omega)];exact NQ.nil _ _ _)) m (by omega) (by omega)).mono ?_;rintro e j ⟨rfl,k,f⟩;obtain⟨y,x⟩:=zA (w:=w) (t:=zD d) (w1:=j) f)
    |(go_at_call 172;refine(Gl (M (H w)+1) _ _ _ _ _ (zD d) r _ (by exact yS w (zD d)) (by first|exact NQ.dD (off:=off+3) s (zD d)|(rw[x3 (l:=r) (by omega)];exact NQ.nil _ _ _)) m (by omega) (by omega)).mono ?_;rintro e j ⟨rfl,k,f⟩;obtain⟨y,x⟩:=zA (w:=w) (t:=zD d) (w1:=j) f)
    |(go_at_call 173;refine(Gm (M (H w)+1) _ _ _ _ (zD d) (c::r) _ (by exact yS w (zD d)) (by exact NQ.dD (off:=off+2) q (zD d)) (by simp;omega) (by omega)).mono ?_;rintro e j ⟨rfl,k,f⟩;obtain⟨y,x⟩:=zA (w:=w) (t:=zD d) (w1:=j) f)
    |(refine rT (.tmp 6) Z Z (M (H w)+1) _ Z k ?_)
    |(refine mX (.tmp 2) (.tmp 50) Z Z (M (H w)) _ _ Z Z (by exact y) ?_;intro z g a)
    |(refine mX (.tmp 2) (.tmp 26) Z Z (M (H w)) _ MV.zero Z Z (by exact bB.new _ MV.zero) ?_;intro z g a)
    |(refine mX (.tmp 2) (.tmp 16) Z Z (M (H w)) _ MV.zero Z Z (by exact bB.new _ MV.zero) ?_;intro z g a))
   simp only[xW]
   first|rw[UA _ _ _ _ he]|rw[Gs _ _ _ _ hr]|rw[Gt _ _ _ _ he hr hl]|rw[Gu _ _ _ _ he hr hl ha]|rw[Gv _ _ _ _ he hr hl ha hs]|rw[Gw _ _ _ _ he hr hl ha hs]
   refine rF (p:=2) (u:=3) (M (H w)) _ _ (by kernel_rfl) Z Z g Z ⟨Z,?_⟩
   first|exact kS x a (xR _)|exact kS ((x1 _ _).alloc (xR _) _) a (xR _)
def UB(b off n l:Nat)(c:ByteArray)(r:List ByteArray)(w:World)(m:NQ w b off (c::r))(t:D r=n-1)(v:1<=n)(s:n<=l)(y:b<M (H w)):
  Calls prog 121 #[N (I ⟨b,off,C⟩) n l] w fun e F=>e=G (nI (cR ((c::r).map xF)))/\Below (M (H w)) w F:=by
 obtain⟨J,_,_⟩:=m.head;have i:(c::r).length=n:=by simp;omega
 have A:((n:Int)==1)=(r.map xF).isEmpty:=by
  cases r with
  |nil=>simp at t;simp;omega
  |cons a q=>simp at t;simp;omega
 have K:((n:Int)==0)=O:=by simp;omega
 cases h1:c.toList==[115,116,111,114,101]
 case' true=>have k:MT (cR (c.toList::r.map xF)=P.store (c.toList::r.map xF)):=by unfold MT;simp[cR,h1]
 case' false =>
  cases h2:c.toList==[102,101,110,99,101]
  case' true=>have k:MT (cR (c.toList::r.map xF)=fence (c.toList::r.map xF)):=by unfold MT;simp[cR,h1,h2]
  case' false =>
   cases h3:c.toList==[98,97,114,114,105,101,114]
   case' true=>have k:MT (cR (c.toList::r.map xF)=({MV.zero with B:=5},(r.map xF).isEmpty)):=by unfold MT;simp[cR,h1,h2,h3]
   case' false =>
    cases h4:c.toList==[105,102]
    case' true=>have k:MT (cR (c.toList::r.map xF)=oY (c.toList::r.map xF)):=by unfold MT;simp[cR,h1,h2,h3,h4]
    case' false =>
     cases h5:c.toList==[101,110,100]
     case' true=>have k:MT (cR (c.toList::r.map xF)=({MV.zero with B:=11},(r.map xF).isEmpty)):=by unfold MT;simp[cR,h1,h2,h3,h4,h5]
     case' false =>
      have k:MT (cR (c.toList::r.map xF)=fP (c.toList::r.map xF)):=by unfold MT;simp[cR,h1,h2,h3,h4,h5]
 all_goals
  go_enter func121,ntmps121;go_wp2_with(first
   |(go_at_call 147;refine(Gq _ _ _ _ (c::r) _ (by exact m.alloc _) i s (by simp;omega)).mono ?_;rintro e x ⟨f,g⟩;rw[nI]at f;subst f;have o:=(bB.new w MV.zero).X g)
   |(go_at_call 148;refine(Gp _ _ _ _ c r _ (by exact m.alloc _) t v s).mono ?_;rintro e x ⟨f,g⟩;rw[nI]at f;subst f;have o:=(bB.new w MV.zero).X g)
   |(go_at_call 149;refine(Gn _ _ _ _ (c::r) _ (by exact m.alloc _) i).mono ?_;rintro e x ⟨f,g⟩;rw[nI]at f;subst f;have o:=(bB.new w MV.zero).X g)
   |(go_at_call 150;refine(Gx _ _ _ _ (c::r) _ (by exact m.alloc _) i s (by simp;omega)).mono ?_;rintro e x ⟨f,g⟩;rw[nI]at f;subst f;have o:=(bB.new w MV.zero).X g)
   |(refine mX (.tmp 2) (.tmp _) Z Z (M (H w)) _ _ Z Z (by exact o) ?_;intro z j d)
   |(refine mX (.tmp 2) (.tmp _) Z Z (M (H w)) _ {MV.zero with B:=5} Z Z (by exact bB.new w MV.zero) ?_;intro z j d)
   |(refine mX (.tmp 2) (.tmp _) Z Z (M (H w)) _ {MV.zero with B:=11} Z Z (by exact bB.new w MV.zero) ?_;intro z j d))
  try simp only[xW]
  rw[cV k];refine rF (p:=2) (u:=3) (M (H w)) _ _ (by kernel_rfl) Z (by first|rfl|simp) j Z ⟨Z,?_⟩
  first|exact kS (((x1 _ _).alloc (xR _) _).trans (g.mono (by simp))) d (xR _)|exact kS ((x1 _ _).alloc (xR _) _) d (xR _)
