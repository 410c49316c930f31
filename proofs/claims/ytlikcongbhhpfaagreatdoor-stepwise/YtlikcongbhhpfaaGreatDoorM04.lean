import Derived.Deep.RegionHeld3
import Derived.Test.YtlikcongbhhpfaaGreatDoorM03
set_option linter.unusedVariables false
set_option linter.unusedSimpArgs false
set_option maxHeartbeats 12800000
namespace Go.Proofs.YtlikcongbhhpfaaGreatDoor
open Go Go.RowKit Go.Proofs.Tryz P Q
set_option maxRecDepth 1000000
variable {w:World}
open _root_.Array renaming size->N
open Go.World renaming heap->M,cell?->H
open List renaming length->L
open Go.Value renaming string->Y,slice->U
open Option renaming none->C,some->O
open Go.Ending renaming returned->I
open Bool renaming false->G
open Go.Obj renaming cells->E
open _root_.ByteArray renaming toList->xF
open List renaming map_cons->xR,map_nil->x1,eq_nil_of_length_eq_zero->x2
open Nat renaming le_refl->xW,lt_of_lt_of_le->x3
open Go.RowKit.Below renaming refl->x0
theorem rZ(g:Nat)(b:JR)(p v:ByteArray)(w:World)(j:KH w g b):
  Calls prog 168 #[.pointer (O ⟨g,0,C⟩),Y p,Y v] w fun e c=>e=I (.bool (P.MI b p.toList v.toList).2)/\KH c g (P.MI b p.toList v.toList).1/\w.grownBy c (O g):=by
 cases hv:(cR p.toList).2
 ·go_enter func168,ntmps168;go_wp2_with(first|(go_at_call 190;refine(vX _ _).mono ?_;rintro e c ⟨rfl,rfl⟩)|(go_at_call 170;refine(oL _ _).mono ?_;rintro e A ⟨rfl,d⟩));go_ret;simp only[P.MI,hv];exact⟨Z,j,eA _ _⟩
 ·go_enter func168,ntmps168;go_wp2_with(first|(go_at_call 190;refine(vX _ _).mono ?_;rintro e c ⟨rfl,rfl⟩)|(go_at_call 170;refine(oL _ _).mono ?_;rintro e A ⟨rfl,d⟩;have f:=j.X d;obtain⟨y,x,k,l,m,n,o,q,r,s,t,u,i⟩:=f.F));go_ret;have e:P.MI b p.toList v.toList=({b with z:=(cR p.toList).1,a:=(aO v.toList).1},(aO v.toList).2):=by simp[P.MI,hv]
  rw[e];exact⟨Z,((f.iG _).fM _).alloc _,nZ (dB (dB (dB (nM d _) _ _) _ _) _ _) _⟩
theorem pZ(g b off n l:Nat)(f:JR)(m:List ByteArray)(w:World)(j:KH w g f)(hw:bM w b off m)(d:L m=n)(hc:n<=l)(y:b≠g):
  Calls prog 169 #[.pointer (O ⟨g,0,C⟩),U (O ⟨b,off,C⟩) n l] w fun e c=>e=I (.bool (dI f (m.map xF)).2)/\KH c g (dI f (m.map xF)).1/\w.grownBy c (O g):=by
 obtain⟨ab,aa,z,A,B,D,J,K,S,T,V,W,u⟩:=j.F
 cases m with
 |nil =>
  simp at d;subst d;go_enter func169,ntmps169;go_wp2;go_ret;exact⟨Z,j,eA _ _⟩
 |cons o r =>
  obtain⟨hd,p,i⟩:=hw.head;have ac:1<=n:=by simp at d;omega
  cases ho1:(aF o.toList).2
  ·go_enter func169,ntmps169;go_wp2_with(first|(go_at_call 191;refine(uB _ _).mono ?_;rintro e c ⟨rfl,rfl⟩)|(go_at_call 188;refine(nW _ _ _).mono ?_;rintro e c ⟨rfl,rfl⟩)|(go_at_call 192;refine(uE _ _).mono ?_;rintro e c ⟨rfl,rfl⟩));go_ret;simp only[xR,G6 f _ _ ho1];exact⟨Z,j,eA _ _⟩
  cases ho2:OQ f.k (aF o.toList).1
  ·go_enter func169,ntmps169;go_wp2_with(first|(go_at_call 191;refine(uB _ _).mono ?_;rintro e c ⟨rfl,rfl⟩)|(go_at_call 188;refine(nW _ _ _).mono ?_;rintro e c ⟨rfl,rfl⟩)|(go_at_call 192;refine(uE _ _).mono ?_;rintro e c ⟨rfl,rfl⟩));go_ret;simp only[xR,G7 f _ _ ho2];exact⟨Z,j,eA _ _⟩
  cases h0:(aF o.toList).1==0
  ·match r,i,d with
   |[],_,d =>
    simp at d;subst d;go_enter func169,ntmps169;go_wp2_with(first|(go_at_call 191;refine(uB _ _).mono ?_;rintro e c ⟨rfl,rfl⟩)|(go_at_call 188;refine(nW _ _ _).mono ?_;rintro e c ⟨rfl,rfl⟩)|(go_at_call 192;refine(uE _ _).mono ?_;rintro e c ⟨rfl,rfl⟩));go_ret;simp only[xR,x1,RX f _ ho1 ho2 h0];exact⟨Z,j.dF _,dB (eA _ _) _ _⟩
   |[s],i,d =>
    obtain⟨X,_,_⟩:=i.head;simp at d;subst d;go_enter func169,ntmps169;go_wp2_with(first|(go_at_call 191;refine(uB _ _).mono ?_;rintro e c ⟨rfl,rfl⟩)|(go_at_call 188;refine(nW _ _ _).mono ?_;rintro e c ⟨rfl,rfl⟩)|(go_at_call 192;refine(uE _ _).mono ?_;rintro e c ⟨rfl,rfl⟩));go_ret;simp only[xR,x1,RY f _ _ ho1 ho2 h0];exact⟨Z,(j.dF _).fO _,dB (dB (eA _ _) _ _) _ _⟩
   |s::t::q,i,d =>
    have ad:3<=n:=by simp at d;omega
    go_enter func169,ntmps169;go_wp2_with(first|(go_at_call 191;refine(uB _ _).mono ?_;rintro e c ⟨rfl,rfl⟩)|(go_at_call 188;refine(nW _ _ _).mono ?_;rintro e c ⟨rfl,rfl⟩)|(go_at_call 192;refine(uE _ _).mono ?_;rintro e c ⟨rfl,rfl⟩));go_ret;simp only[xR,RZ f _ _ _ _ ho1 ho2 h0];exact⟨Z,j.dF _,dB (eA _ _) _ _⟩
  ·have v:(aF o.toList).1=0:=by simpa using h0
   have x:JP (dI f (o.toList::r.map xF)=({f with q:=0},(r.map xF).isEmpty)):=RW f _ _ ho1 ho2 v;rw[v]at ho2;have hr:((n:Int)==1)=r.isEmpty:=by
    cases r with
    |nil=>simp at d;subst d;rfl
    |cons a q=>simp at d;simp;omega
   go_enter func169,ntmps169;go_wp2_with(first|(go_at_call 191;refine(uB _ _).mono ?_;rintro e c ⟨rfl,rfl⟩)|(go_at_call 188;refine(nW _ _ _).mono ?_;rintro e c ⟨rfl,rfl⟩)|(go_at_call 192;refine(uE _ _).mono ?_;rintro e c ⟨rfl,rfl⟩));go_ret;simp only[xR,x.o];exact⟨by simp,j.dF _,dB (eA _ _) _ _⟩
theorem TV(g b off n c:Nat)(i:JR)(m:List ByteArray)(w:World)(j:KH w g i)(hw:bM w b off m)(p:L m=n)(hc:n<=c)(a:b≠g):
  Calls prog 172 #[.pointer (O ⟨g,0,C⟩),U (O ⟨b,off,C⟩) n c] w fun e l=>e=I (.bool (P.load i (m.map xF)).2)/\KH l g (P.load i (m.map xF)).1/\w.grownBy l (O g):=by
 obtain⟨X,W,x,y,A,B,D,J,K,S,T,V,v⟩:=j.F
 cases m with
 |nil =>
  simp at p;subst p;go_enter func172,ntmps172;go_wp2;go_ret;exact⟨Z,j,eA _ _⟩
 |cons o r =>
  obtain⟨hd,u,s⟩:=hw.head;have aa:1<=n:=by simp at p;omega
  have q:L r=n-1:=by simp at p;omega
  cases ho1:(cR o.toList).2
  ·go_enter func172,ntmps172;go_wp2_with(first|(go_at_call 190;refine(vX _ _).mono ?_;rintro e l ⟨rfl,rfl⟩));go_ret;simp only[xR,G8 i _ _ ho1];exact⟨Z,j,eA _ _⟩
  have t:=JO (G9 i o.toList (r.map xF) ho1);by_cases hcap:c=1
  ·have hr:r=[]:=x2 (by omega);subst hr;go_enter func172,ntmps172;go_wp2_with(first|(go_at_call 190;refine(vX _ _).mono ?_;rintro e l ⟨rfl,rfl⟩)|(go_at_call 169;refine(pZ _ _ _ _ _ {i with k:=0,z:=(cR o.toList).1} [] _ (by exact(j.cK _).iG _) (bM.nil _ _ _) (by simp;omega) (by omega) a).mono ?_;rintro e w1 ⟨rfl,f,d⟩));go_ret;simp only[xR,bD t];exact⟨Z,f,lE (dB (dB (eA _ _) _ _) _ _) d⟩
  ·go_enter func172,ntmps172;go_wp2_with(first|(go_at_call 190;refine(vX _ _).mono ?_;rintro e l ⟨rfl,rfl⟩)|(go_at_call 169;refine(pZ _ _ _ _ _ {i with k:=0,z:=(cR o.toList).1} r _ (by exact(j.cK _).iG _) (by exact(s.set a _ _).set a _ _) q (by omega) a).mono ?_;rintro e w1 ⟨rfl,f,d⟩));go_ret;simp only[xR,bD t];exact⟨Z,f,lE (dB (dB (eA _ _) _ _) _ _) d⟩
theorem zS(g b off n q:Nat)(k:Int)(o:JR)(z:List ByteArray)(w:World)(u:KH w g o)(D:bM w b off z)(m:L z=n)(hc:n<=q)(c:b≠g):
  Calls prog 173 #[.pointer (O ⟨g,0,C⟩),.int .i64 k,U (O ⟨b,off,C⟩) n q] w fun e l=>e=I (.bool (P.step o k (z.map xF)).2)/\KH l g (P.step o k (z.map xF)).1/\w.grownBy l (O g):=by
 obtain⟨al,ai,W,X,aa,ab,ac,ad,ae,af,ag,ah,T⟩:=u.F
 match z,D,m with
 |[],_,m =>
  simp at m;subst m;go_enter func173,ntmps173;go_wp2;go_ret;exact⟨Z,u,eA _ _⟩
 |[_],_,m =>
  simp at m;subst m;go_enter func173,ntmps173;go_wp2;go_ret;exact⟨Z,u,eA _ _⟩
 |p::v::r,D,m =>
  obtain⟨t,S,J⟩:=D.head;obtain⟨f,_,K⟩:=J.head;have am:2<=n:=by simp at m;omega
  have B:L r=n-2:=by simp at m;omega
  have aj:0<n:=by omega
  have ak:(1:Int)<(n:Int):=by omega
  cases ht:(P.MI {o with k:=k} p.toList v.toList).2
  ·have A:=JO (SB o k p.toList v.toList (r.map xF) ht);go_enter func173,ntmps173;go_wp2_with fail;go_region_held3 (fun l=>H l ⟨b,off,C⟩=O (Y p)/\H l ⟨b,off+1,C⟩=O (Y v)) (first|exact⟨(aV c).trans t,(aV c).trans f⟩|exact⟨x,y⟩) (first|(go_at_call 168;refine(rZ g {o with k:=k} _ _ _ ?_).mono ?_;(exact(u.cK _).drew);rintro e V ⟨rfl,j,d⟩;have x:=d.cell (a:=⟨b,off,C⟩) (v:=Y p) ((aV c).trans t) (by simpa using c);have y:=d.cell (a:=⟨b,off+1,C⟩) (v:=Y v) ((aV c).trans f) (by simpa using c)));go_wp2;go_ret;simp only[xR,bD A];exact⟨Z,j,lE (uQ (dB (eA _ _) _ _)) d⟩
  have A:=JO (SC o k p.toList v.toList (r.map xF) ht);by_cases hcap:q=2
  ·have hr:r=[]:=x2 (by omega);subst hr;go_enter func173,ntmps173;go_wp2_with fail;go_region_held3 (fun l=>H l ⟨b,off,C⟩=O (Y p)/\H l ⟨b,off+1,C⟩=O (Y v)) (first|exact⟨(aV c).trans t,(aV c).trans f⟩|exact⟨x,y⟩) (first|(go_at_call 168;refine(rZ g {o with k:=k} _ _ _ ?_).mono ?_;(exact(u.cK _).drew);rintro e V ⟨rfl,j,d⟩;have x:=d.cell (a:=⟨b,off,C⟩) (v:=Y p) ((aV c).trans t) (by simpa using c);have y:=d.cell (a:=⟨b,off+1,C⟩) (v:=Y v) ((aV c).trans f) (by simpa using c)));go_wp2_with(first|(go_at_call 169;refine(pZ _ _ _ _ _ _ [] _ j (bM.nil _ _ _) (by simp;omega) (by omega) c).mono ?_;rintro e w2 ⟨rfl,s,i⟩));go_ret;simp only[xR,bD A];exact⟨Z,s,lE (lE (uQ (dB (eA _ _) _ _)) d) i⟩
  ·go_enter func173,ntmps173;go_wp2_with fail;go_region_held3 (fun l=>H l ⟨b,off,C⟩=O (Y p)/\H l ⟨b,off+1,C⟩=O (Y v)) (first|exact⟨(aV c).trans t,(aV c).trans f⟩|exact⟨x,y⟩) (first|(go_at_call 168;refine(rZ g {o with k:=k} _ _ _ ?_).mono ?_;(exact(u.cK _).drew);rintro e V ⟨rfl,j,d⟩;have x:=d.cell (a:=⟨b,off,C⟩) (v:=Y p) ((aV c).trans t) (by simpa using c);have y:=d.cell (a:=⟨b,off+1,C⟩) (v:=Y v) ((aV c).trans f) (by simpa using c)));go_wp2_with(first|(go_at_call 169;refine(pZ _ _ _ _ _ _ r _ j (by exact((K.set c _ _).drew).grown d c) B (by omega) c).mono ?_;rintro e w2 ⟨rfl,s,i⟩));go_ret;simp only[xR,bD A];exact⟨Z,s,lE (lE (uQ (dB (eA _ _) _ _)) d) i⟩
theorem Ig(g b off n aa:Nat)(l:JR)(B:List ByteArray)(w:World)(D:KH w g l)(J:bM w b off B)(W:L B=n)(ah:b≠g):
  Calls prog 174 #[.pointer (O ⟨g,0,C⟩),U (O ⟨b,off,C⟩) n aa] w fun e w'=>e=I (.bool (sum l (B.map xF)).2)/\KH w' g (sum l (B.map xF)).1/\w.grownBy w' (O g):=by
 by_cases h1:n=1
 ·subst h1
  match B,J,W with
  |[a],J,W =>
  obtain⟨hd,d,_⟩:=J.head
  cases ha:(aO a.toList).2
  ·have j:=JO (SD l a.toList [] ha);go_enter func174,ntmps174;go_wp2_with(first|(go_at_call 170;refine(oL _ _).mono ?_;rintro e K ⟨rfl,f⟩));go_ret;simp only[xR,x1,bD j];exact⟨Z,(D.X f).alloc _,nZ (nM f _) _⟩
  ·have j:=JO (SE l a.toList ha);go_enter func174,ntmps174;go_wp2_with(first|(go_at_call 170;refine(oL _ _).mono ?_;rintro e K ⟨rfl,f⟩;have i:=D.X f;obtain⟨A,z,m,o,p,q,r,t,u,v,x,y,k⟩:=i.F));go_ret;simp only[xR,x1,bD j];exact⟨Z,((i.cK _).fM _).alloc _,nZ (dB (dB (dB (nM f _) _ _) _ _) _ _) _⟩
 by_cases h3:n=3
 ·subst h3
  match B,J,W with
  |[a,s,c],J,W =>
  obtain⟨hd,d,af⟩:=J.head;obtain⟨T,_,ag⟩:=af.head;obtain⟨ac,_,_⟩:=ag.head
  cases ha:(aO a.toList).2
  ·have j:=JO (SD l a.toList [s.toList,c.toList] ha);go_enter func174,ntmps174;go_wp2_with(first|(go_at_call 170;refine(oL _ _).mono ?_;rintro e K ⟨rfl,f⟩));go_ret;simp only[xR,x1,bD j];exact⟨Z,(D.X f).alloc _,nZ (nM f _) _⟩
  cases hs:(cX s.toList).2
  ·have j:=JO (Ha l a.toList s.toList c.toList ha hs);go_enter func174,ntmps174;go_wp2_with(first|(go_at_call_of 170 (Value.string a);refine(oL _ _).mono ?_;rintro e K ⟨rfl,f⟩;have i:=D.X f;obtain⟨A,z,m,o,p,q,r,t,u,v,x,y,k⟩:=i.F;have ab:b<N (M K):=x3 d f.size;have e1:=JS f d T)|(go_at_call 193;refine(SH _ _).mono ?_;rintro e w2 ⟨rfl,rfl⟩));go_ret;simp only[xR,x1,bD j];exact⟨Z,((i.cK _).fM _).alloc _,nZ (dB (dB (dB (nM f _) _ _) _ _) _ _) _⟩
  ·have j:=JO (SF l a.toList s.toList c.toList ha hs);go_enter func174,ntmps174;go_wp2_with(first|(go_at_call_of 170 (Value.string a);refine(oL _ _).mono ?_;rintro e K ⟨rfl,f⟩;have i:=D.X f;obtain⟨A,z,m,o,p,q,r,t,u,v,x,y,k⟩:=i.F;have ab:b<N (M K):=x3 d f.size;have e1:=JS f d T;have e2:=JS f d ac)|(go_at_call 193;refine(SH _ _).mono ?_;rintro e w2 ⟨rfl,rfl⟩));have ad:=((i.cK 6).fM (aO a.toList).1).alloc (E #[.bool (aO a.toList).1.KI,.int .i64 (aO a.toList).1.n] 102);refine(oL _ _).mono ?_;rintro e w2 ⟨rfl,S⟩;have V:=ad.X S;have ae:w.grownBy w2 (O g):=lE (nZ (dB (dB (dB (nM f _) _ _) _ _) _ _) _) (nM S _);obtain⟨A,z,m,o,p,q,r,t,u,v,x,y,k⟩:=V.F;go_wp2;go_ret;simp only[xR,x1,bD j];exact⟨Z,((V.cK _).wJ _).alloc _,nZ (dB (dB (dB ae _ _) _ _) _ _) _⟩
 ·have j:=JO (Hb l (B.map xF) (by simp;omega) (by simp;omega));have ai:((n:Int) != 1)=true:=by rw[bne_iff_ne];omega
  have aj:((n:Int) != 3)=true:=by rw[bne_iff_ne];omega
  go_enter func174,ntmps174;go_wp2;go_ret;simp only[bD j];exact⟨Z,D,eA _ _⟩
theorem Ih(b off n j:Nat)(g:List ByteArray)(w:World)(m:bM w b off g)(i:L g=n):
  Calls prog 149 #[U (O ⟨b,off,C⟩) n j] w fun e v=>e=I (gB (kN (g.map xF)))/\Below (N (M w)) w v:=by
 by_cases h2:n=2
 ·subst h2
  match g,m,i with
  |[a,c],m,i =>
  obtain⟨y,q,o⟩:=m.head;obtain⟨s,_,_⟩:=o.head;go_enter func149,ntmps149;go_wp2_with(first|(go_at_call 170;refine(oL _ _).mono ?_;rintro e A ⟨rfl,l⟩;have t:=(KH.bA w JR.zero).X l)|(refine eU (.tmp 2) (.tmp 18) Z Z (N (M w)) _ {JR.zero with k:=10,a:=(aO c.toList).1} Z Z (by exact t.alloc _) ?_;intro x f d));refine eP (p:=2) (u:=3) (N (M w)) {JR.zero with k:=10,a:=(aO c.toList).1} (aO c.toList).2 (by kernel_rfl) Z Z f Z ⟨Z,?_⟩;exact dX ((((x0 _ _).alloc (xW _) _).trans (l.mono (by simp))).alloc (by have:=l.size;simp at this;omega) _) d (xW _)
 ·have z:((n:Int) != 2)=true:=by rw[bne_iff_ne];omega
  have e:kN (g.map xF)=(JR.zero,G):=by
   match g,i with
   |[],_=>rfl
   |[_],_=>rfl
   |[_,_],i=>simp at i;omega
   |_::_::_::_,_=>rfl
  have r:=JO e;go_enter func149,ntmps149;go_wp2_with(first|(refine eU (.tmp 2) (.tmp 9) Z Z (N (M w)) _ JR.zero Z Z (by exact KH.bA _ JR.zero) ?_;intro x f d));rw[bD r];refine eP (p:=2) (u:=3) (N (M w)) JR.zero G (by kernel_rfl) Z Z f Z ⟨Z,?_⟩;exact dX ((x0 _ _).alloc (xW _) _) d (xW _)
theorem Ii(b off n j:Nat)(c:ByteArray)(r:List ByteArray)(w:World)(x:bM w b off (c::r))(v:L r=n-1)(A:1<=n)(B:n<=j):
  Calls prog 148 #[U (O ⟨b,off,C⟩) n j] w fun e y=>e=I (gB (fence ((c::r).map xF)))/\Below (N (M w)) w y:=by
 obtain⟨D,t,q⟩:=x.head;have s:∀(w:World),KH ((w.alloc (E (aC JR.zero) 104)).alloc (E (aC {JR.zero with k:=4}) 104)) (N (M w)+1) {JR.zero with k:=4}:=fun w=>by
  have:=KH.bA (w.alloc (E (aC JR.zero) 104)) {JR.zero with k:=4};simpa using this
 have i:∀(g:World),KH g (N (M w)+1) (dI {JR.zero with k:=4} (r.map xF)).1->((w.alloc (E (aC JR.zero) 104)).alloc (E (aC {JR.zero with k:=4}) 104)).grownBy g (O (N (M w)+1)) ->
   KH g (N (M w)) JR.zero/\Below (N (M w)) w g:=fun g _ a=>by
  refine⟨((KH.bA w JR.zero).alloc _).aA (a.block (N (M w)) (by simp;omega) (by simp)),?_⟩;exact dX (((x0 _ _).alloc (xW _) _).alloc (by simp) _) a (by simp)
 by_cases hcap:j=1
 ·have m:r=[]:=x2 (by omega);subst m;go_enter func148,ntmps148;go_wp2_with fail;refine(pZ _ _ _ _ _ {JR.zero with k:=4} [] _ (by exact s w) (bM.nil _ _ _) (by simp;omega) (by omega) (by omega)).mono ?_;rintro e g ⟨rfl,f,a⟩;obtain⟨m,o⟩:=i g f a;go_wp2_with(first|(refine eV (.tmp 4) Z Z (N (M w)+1) _ Z f ?_)|(refine eU (.tmp 2) (.tmp 14) Z Z (N (M w)) _ _ Z Z (by exact m) ?_;intro z l d));refine eP (p:=2) (u:=3) (N (M w)) _ _ (by kernel_rfl) Z Z l Z ⟨Z,dX o d (xW _)⟩
 ·go_enter func148,ntmps148;go_wp2_with fail;refine(pZ _ _ _ _ _ {JR.zero with k:=4} r _ (by exact s w) (by exact(q.alloc _).alloc _) v (by omega) (by omega)).mono ?_;rintro e g ⟨rfl,f,a⟩;obtain⟨m,o⟩:=i g f a;go_wp2_with(first|(refine eV (.tmp 4) Z Z (N (M w)+1) _ Z f ?_)|(refine eU (.tmp 2) (.tmp 14) Z Z (N (M w)) _ _ Z Z (by exact m) ?_;intro z l d));refine eP (p:=2) (u:=3) (N (M w)) _ _ (by kernel_rfl) Z Z l Z ⟨Z,dX o d (xW _)⟩
def cG(w:World)(t:JR):World:=(w.alloc (E (aC JR.zero) 104)).alloc (E (aC t) 104)
theorem nP(w:World)(t:JR):KH (cG w t) (N (M w)+1) t:=by
 have:=KH.bA (w.alloc (E (aC JR.zero) 104)) t;simpa[cG]using this
theorem yZ(w:World)(t:JR):Below (N (M w)) w (cG w t):=((x0 _ _).alloc (xW _) _).alloc (by simp) _
theorem nH{w1:World}{t:JR}(a:(cG w t).grownBy w1 (O (N (M w)+1))):KH w1 (N (M w)) JR.zero/\Below (N (M w)) w w1:=by
 refine⟨((KH.bA w JR.zero).alloc _).aA (a.block (N (M w)) (by simp[cG];omega) (by simp)),?_⟩;exact dX (yZ w t) a (by omega)
theorem bM.cG{b off:Nat}{a:List ByteArray}(h:bM w b off a)(t:JR):bM (cG w t) b off a:=h.X (yZ w t)
theorem TW{α:Type}(l:List α)(h:3<=L l):∃a b c r,l=a::b::c::r:=by
 match l,h with
 |a::b::c::r,_=>exact⟨a,b,c,r,Z⟩
theorem Ij(b off n m:Nat)(B:List ByteArray)(w:World)(hw:bM w b off B)(T:L B=n)(hc:n<=m)(l:b<N (M w)):
  Calls prog 147 #[U (O ⟨b,off,C⟩) n m] w fun e i=>e=I (gB (P.store (B.map xF)))/\Below (N (M w)) w i:=by
 by_cases h3:n<3
 ·have e:P.store (B.map xF)=(JR.zero,G):=by
   match B,T with
   |[],_=>rfl
   |[_],_=>rfl
   |[_,_],_=>rfl
   |_::_::_::_,T=>simp at T;omega
  have HE:=JO e;go_enter func147,ntmps147;go_wp2_with(first|(refine eU (.tmp 2) (.tmp 9) Z Z (N (M w)) _ JR.zero Z Z (by exact KH.bA _ JR.zero) ?_;intro S o d));rw[bD HE];refine eP (p:=2) (u:=3) (N (M w)) JR.zero G (by kernel_rfl) Z Z o Z ⟨Z,?_⟩;exact dX ((x0 _ _).alloc (xW _) _) d (xW _)
 obtain⟨q,p,v,r,rfl⟩:=TW B (by omega);obtain⟨_,_,ab⟩:=hw.head;obtain⟨V,_,ac⟩:=ab.head;obtain⟨W,_,ad⟩:=ac.head;have X:L r=n-3:=by simp at T;omega
 have ae:(1:Int)<(n:Int):=by omega
 have af:(2:Int)<(n:Int):=by omega
 have e1:=((yZ w {JR.zero with k:=1}).cell (p:=⟨b,off+1,C⟩) l).trans V;have e2:=((yZ w {JR.zero with k:=1}).cell (p:=⟨b,off+2,C⟩) l).trans W;have y:=JO e1;have z:=JO e2
 cases ht:(P.MI {JR.zero with k:=1} p.toList v.toList).2
 ·go_enter func147,ntmps147;go_wp2_with fail;go_region_held3 (fun i=>H i ⟨b,off+1,C⟩=O (Y p)/\H i ⟨b,off+2,C⟩=O (Y v)) (first|exact⟨bD y,bD z⟩|exact⟨J,K⟩) (first|(go_at_call 168;refine(rZ (N (M w)+1) {JR.zero with k:=1} _ _ _ ?_).mono ?_;(exact(nP w {JR.zero with k:=1}).drew);rintro e A ⟨rfl,j,c⟩;have J:=c.cell (a:=⟨b,off+1,C⟩) (v:=Y p) (bD y) (by simp;omega);have K:=c.cell (a:=⟨b,off+2,C⟩) (v:=Y v) (bD z) (by simp;omega)));obtain⟨F,D⟩:=nH (w:=w) (t:={JR.zero with k:=1}) (w1:=A) (DV c);go_wp2_with(first|(refine eU (.tmp 2) (.tmp 20) Z Z (N (M w)) _ JR.zero Z Z (by exact F) ?_;intro S o d));have e:P.store ((q::p::v::r).map xF)=(JR.zero,G):=by simp[P.store,ht]
  rw[e];refine eP (p:=2) (u:=3) (N (M w)) JR.zero G (by kernel_rfl) Z Z o Z ⟨Z,dX D d (xW _)⟩
 by_cases hcap:m=3
 ·have aa:r=[]:=x2 (by omega);subst aa;go_enter func147,ntmps147;go_wp2_with fail;go_region_held3 (fun i=>H i ⟨b,off+1,C⟩=O (Y p)/\H i ⟨b,off+2,C⟩=O (Y v)) (first|exact⟨bD y,bD z⟩|exact⟨J,K⟩) (first|(go_at_call 168;refine(rZ (N (M w)+1) {JR.zero with k:=1} _ _ _ ?_).mono ?_;(exact(nP w {JR.zero with k:=1}).drew);rintro e A ⟨rfl,j,c⟩;have J:=c.cell (a:=⟨b,off+1,C⟩) (v:=Y p) (bD y) (by simp;omega);have K:=c.cell (a:=⟨b,off+2,C⟩) (v:=Y v) (bD z) (by simp;omega)));go_wp2_with(first|(go_at_call 169;refine(pZ _ _ _ _ _ _ [] _ j (bM.nil _ _ _) (by simp;omega) (by omega) (by omega)).mono ?_;rintro e S ⟨rfl,x,g⟩;obtain⟨F,D⟩:=nH (w:=w) (t:={JR.zero with k:=1}) (w1:=S) (DV (lE c g)))|(refine eV (.tmp 4) Z Z (N (M w)+1) _ Z x ?_)|(refine eU (.tmp 2) (.tmp 24) Z Z (N (M w)) _ _ Z Z (by exact F) ?_;intro w3 s f));have e:P.store ((q::p::v::[]).map xF)=dI (P.MI {JR.zero with k:=1} p.toList v.toList).1 (([]:List ByteArray).map xF):=by simp[P.store,ht]
  rw[e];refine eP (p:=2) (u:=3) (N (M w)) _ _ (by kernel_rfl) Z Z s Z ⟨Z,dX D f (xW _)⟩
 ·go_enter func147,ntmps147;go_wp2_with fail;go_region_held3 (fun i=>H i ⟨b,off+1,C⟩=O (Y p)/\H i ⟨b,off+2,C⟩=O (Y v)) (first|exact⟨bD y,bD z⟩|exact⟨J,K⟩) (first|(go_at_call 168;refine(rZ (N (M w)+1) {JR.zero with k:=1} _ _ _ ?_).mono ?_;(exact(nP w {JR.zero with k:=1}).drew);rintro e A ⟨rfl,j,c⟩;have J:=c.cell (a:=⟨b,off+1,C⟩) (v:=Y p) (bD y) (by simp;omega);have K:=c.cell (a:=⟨b,off+2,C⟩) (v:=Y v) (bD z) (by simp;omega)));go_wp2_with(first|(go_at_call 169;refine(pZ _ _ _ _ _ _ r _ j (by exact bM.grown (bM.drew (bM.cG (off:=off+3) ad {JR.zero with k:=1})) c (by omega)) X (by omega) (by omega)).mono ?_;rintro e S ⟨rfl,x,g⟩;obtain⟨F,D⟩:=nH (w:=w) (t:={JR.zero with k:=1}) (w1:=S) (DV (lE c g)))|(refine eV (.tmp 4) Z Z (N (M w)+1) _ Z x ?_)|(refine eU (.tmp 2) (.tmp 24) Z Z (N (M w)) _ _ Z Z (by exact F) ?_;intro w3 s f));have e:P.store ((q::p::v::r).map xF)=dI (P.MI {JR.zero with k:=1} p.toList v.toList).1 (r.map xF):=by simp[P.store,ht]
  rw[e];refine eP (p:=2) (u:=3) (N (M w)) _ _ (by kernel_rfl) Z Z s Z ⟨Z,dX D f (xW _)⟩
theorem Ik(a:List (List UInt8))(h:L a<3):eG a=(JR.zero,G):=by
 match a,h with
 |[],_=>rfl
 |[_],_=>rfl
 |[_,_],_=>rfl
theorem Il(d e c:List UInt8)(r:List (List UInt8))(h:(e==[61])=G):eG (d::e::c::r)=(JR.zero,G):=by simp[eG,h]
theorem Im(d e c:List UInt8)(r:List (List UInt8))(h:(aS d).2=G):eG (d::e::c::r)=(JR.zero,G):=by simp[eG,h]
theorem Ip(b off n l:Nat)(D:List ByteArray)(w:World)(K:bM w b off D)(J:L D=n)(hc:n<=l)(F:b<N (M w)):
  Calls prog 150 #[U (O ⟨b,off,C⟩) n l] w fun e v=>e=I (gB (eG (D.map xF)))/\Below (N (M w)) w v:=by
 by_cases h3:n<3
 ·have k:=JO (Ik (D.map xF) (by simp;omega));go_enter func150,ntmps150;go_wp2_with(first|(refine eU (.tmp 2) (.tmp 16) Z Z (N (M w)) _ JR.zero Z Z (by exact KH.bA _ JR.zero) ?_;intro x f a));rw[bD k];refine eP (p:=2) (u:=3) (N (M w)) JR.zero G (by kernel_rfl) Z Z f Z ⟨Z,?_⟩;exact dX ((x0 _ _).alloc (xW _) _) a (xW _)
 obtain⟨d,e,c,r,rfl⟩:=TW D (by omega);obtain⟨S,_,A⟩:=K.head;obtain⟨T,_,B⟩:=A.head;obtain⟨V,_,z⟩:=B.head;have y:L r=n-3:=by simp at J;omega
 have aa:3<=n:=by omega
 have W:(1:Int)<(n:Int):=by omega
 have X:(2:Int)<(n:Int):=by omega
 clear J h3 K A
 cases he:e.toList==[61]
 ·have k:=JO (Il d.toList e.toList c.toList (r.map xF) he);go_enter func150,ntmps150;go_wp2_with(first|(refine eU (.tmp 2) (.tmp 16) Z Z (N (M w)) _ JR.zero Z Z (by exact KH.bA _ JR.zero) ?_;intro x f a));simp only[xR];rw[bD k];refine eP (p:=2) (u:=3) (N (M w)) JR.zero G (by kernel_rfl) Z Z f Z ⟨Z,?_⟩;exact dX ((x0 _ _).alloc (xW _) _) a (xW _)
 cases hr:(aS d.toList).2
 ·have k:=JO (Im d.toList e.toList c.toList (r.map xF) hr);go_enter func150,ntmps150;go_wp2_with(first|(go_at_call 171;refine(oM _ _).mono ?_;rintro e v ⟨rfl,rfl⟩)|(refine eU (.tmp 2) (.tmp 26) Z Z (N (M w)) _ JR.zero Z Z (by exact KH.bA _ JR.zero) ?_;intro x f a));simp only[xR];rw[bD k];refine eP (p:=2) (u:=3) (N (M w)) JR.zero G (by kernel_rfl) Z Z f Z ⟨Z,?_⟩;exact dX ((x0 _ _).alloc (xW _) _) a (xW _)
 cases hl:c.toList==[108,111,97,100]
 rotate_left
 ·have k:JP (eG (d.toList::e.toList::c.toList::r.map xF)=P.load {JR.zero with dest:=(aS d.toList).1} (r.map xF)):=by
   unfold JP;simp[eG,he,hr,hl]
  by_cases q:l=3
  ·have s:r=[]:=x2 (by omega);subst s;go_enter func150,ntmps150;go_wp2_with(first
    |(go_at_call 171;refine(oM _ _).mono ?_;rintro e v ⟨rfl,rfl⟩)
    |(go_at_call 172;refine(TV (N (M w)+1) _ _ _ _ {JR.zero with dest:=(aS d.toList).1} [] _ (by exact nP w {JR.zero with dest:=(aS d.toList).1}) (bM.nil _ _ _) (by simp;omega) (by omega) (by omega)).mono ?_;rintro e j ⟨rfl,i,g⟩;obtain⟨o,m⟩:=nH (w:=w) (t:={JR.zero with dest:=(aS d.toList).1}) (w1:=j) g)
    |(refine eV (.tmp 6) Z Z (N (M w)+1) _ Z i ?_)
    |(refine eU (.tmp 2) (.tmp 50) Z Z (N (M w)) _ _ Z Z (by exact o) ?_;intro x f a))
   simp only[xR];rw[bD k];refine eP (p:=2) (u:=3) (N (M w)) _ _ (by kernel_rfl) Z Z f Z ⟨Z,dX m a (xW _)⟩
  ·go_enter func150,ntmps150;go_wp2_with(first
    |(go_at_call 171;refine(oM _ _).mono ?_;rintro e v ⟨rfl,rfl⟩)
    |(go_at_call 172;refine(TV (N (M w)+1) _ _ _ _ {JR.zero with dest:=(aS d.toList).1} r _ (by exact nP w {JR.zero with dest:=(aS d.toList).1}) (by exact bM.cG (off:=off+3) z {JR.zero with dest:=(aS d.toList).1}) y (by omega) (by omega)).mono ?_;rintro e j ⟨rfl,i,g⟩;obtain⟨o,m⟩:=nH (w:=w) (t:={JR.zero with dest:=(aS d.toList).1}) (w1:=j) g)
    |(refine eV (.tmp 6) Z Z (N (M w)+1) _ Z i ?_)
    |(refine eU (.tmp 2) (.tmp 50) Z Z (N (M w)) _ _ Z Z (by exact o) ?_;intro x f a))
   simp only[xR];rw[bD k];refine eP (p:=2) (u:=3) (N (M w)) _ _ (by kernel_rfl) Z Z f Z ⟨Z,dX m a (xW _)⟩
 cases ha:c.toList==[97,100,100]
 rotate_left
 ·have k:JP (eG (d.toList::e.toList::c.toList::r.map xF)=P.step {JR.zero with dest:=(aS d.toList).1} 2 (r.map xF)):=by
   unfold JP;simp[eG,he,hr,hl,ha]
  by_cases q:l=3
  ·have s:r=[]:=x2 (by omega);subst s;go_enter func150,ntmps150;go_wp2_with(first
    |(go_at_call 171;refine(oM _ _).mono ?_;rintro e v ⟨rfl,rfl⟩)
    |(go_at_call 173;refine(zS (N (M w)+1) _ _ _ _ 2 {JR.zero with dest:=(aS d.toList).1} [] _ (by exact nP w {JR.zero with dest:=(aS d.toList).1}) (bM.nil _ _ _) (by simp;omega) (by omega) (by omega)).mono ?_;rintro e j ⟨rfl,i,g⟩;obtain⟨o,m⟩:=nH (w:=w) (t:={JR.zero with dest:=(aS d.toList).1}) (w1:=j) g)
    |(refine eV (.tmp 6) Z Z (N (M w)+1) _ Z i ?_)
    |(refine eU (.tmp 2) (.tmp 50) Z Z (N (M w)) _ _ Z Z (by exact o) ?_;intro x f a))
   simp only[xR];rw[bD k];refine eP (p:=2) (u:=3) (N (M w)) _ _ (by kernel_rfl) Z Z f Z ⟨Z,dX m a (xW _)⟩
  ·go_enter func150,ntmps150;go_wp2_with(first
    |(go_at_call 171;refine(oM _ _).mono ?_;rintro e v ⟨rfl,rfl⟩)
    |(go_at_call 173;refine(zS (N (M w)+1) _ _ _ _ 2 {JR.zero with dest:=(aS d.toList).1} r _ (by exact nP w {JR.zero with dest:=(aS d.toList).1}) (by exact bM.cG (off:=off+3) z {JR.zero with dest:=(aS d.toList).1}) y (by omega) (by omega)).mono ?_;rintro e j ⟨rfl,i,g⟩;obtain⟨o,m⟩:=nH (w:=w) (t:={JR.zero with dest:=(aS d.toList).1}) (w1:=j) g)
    |(refine eV (.tmp 6) Z Z (N (M w)+1) _ Z i ?_)
    |(refine eU (.tmp 2) (.tmp 50) Z Z (N (M w)) _ _ Z Z (by exact o) ?_;intro x f a))
   simp only[xR];rw[bD k];refine eP (p:=2) (u:=3) (N (M w)) _ _ (by kernel_rfl) Z Z f Z ⟨Z,dX m a (xW _)⟩
 cases hs:c.toList==[115,119,97,112]
 rotate_left
 ·have k:JP (eG (d.toList::e.toList::c.toList::r.map xF)=P.step {JR.zero with dest:=(aS d.toList).1} 3 (r.map xF)):=by
   unfold JP;simp[eG,he,hr,hl,ha,hs]
  by_cases q:l=3
  ·have s:r=[]:=x2 (by omega);subst s;go_enter func150,ntmps150;go_wp2_with(first
    |(go_at_call 171;refine(oM _ _).mono ?_;rintro e v ⟨rfl,rfl⟩)
    |(go_at_call 173;refine(zS (N (M w)+1) _ _ _ _ 3 {JR.zero with dest:=(aS d.toList).1} [] _ (by exact nP w {JR.zero with dest:=(aS d.toList).1}) (bM.nil _ _ _) (by simp;omega) (by omega) (by omega)).mono ?_;rintro e j ⟨rfl,i,g⟩;obtain⟨o,m⟩:=nH (w:=w) (t:={JR.zero with dest:=(aS d.toList).1}) (w1:=j) g)
    |(refine eV (.tmp 6) Z Z (N (M w)+1) _ Z i ?_)
    |(refine eU (.tmp 2) (.tmp 50) Z Z (N (M w)) _ _ Z Z (by exact o) ?_;intro x f a))
   simp only[xR];rw[bD k];refine eP (p:=2) (u:=3) (N (M w)) _ _ (by kernel_rfl) Z Z f Z ⟨Z,dX m a (xW _)⟩
  ·go_enter func150,ntmps150;go_wp2_with(first
    |(go_at_call 171;refine(oM _ _).mono ?_;rintro e v ⟨rfl,rfl⟩)
    |(go_at_call 173;refine(zS (N (M w)+1) _ _ _ _ 3 {JR.zero with dest:=(aS d.toList).1} r _ (by exact nP w {JR.zero with dest:=(aS d.toList).1}) (by exact bM.cG (off:=off+3) z {JR.zero with dest:=(aS d.toList).1}) y (by omega) (by omega)).mono ?_;rintro e j ⟨rfl,i,g⟩;obtain⟨o,m⟩:=nH (w:=w) (t:={JR.zero with dest:=(aS d.toList).1}) (w1:=j) g)
    |(refine eV (.tmp 6) Z Z (N (M w)+1) _ Z i ?_)
    |(refine eU (.tmp 2) (.tmp 50) Z Z (N (M w)) _ _ Z Z (by exact o) ?_;intro x f a))
   simp only[xR];rw[bD k];refine eP (p:=2) (u:=3) (N (M w)) _ _ (by kernel_rfl) Z Z f Z ⟨Z,dX m a (xW _)⟩
 have k:JP (eG (d.toList::e.toList::c.toList::r.map xF)=sum {JR.zero with dest:=(aS d.toList).1} (c.toList::r.map xF)):=by
  unfold JP;simp[eG,he,hr,hl,ha,hs]
 have q:¬l=2:=by omega
 go_enter func150,ntmps150;go_wp2_with(first
  |(go_at_call 171;refine(oM _ _).mono ?_;rintro e v ⟨rfl,rfl⟩)
  |(go_at_call 174;refine(Ig (N (M w)+1) _ _ _ _ {JR.zero with dest:=(aS d.toList).1} (c::r) _ (by exact nP w {JR.zero with dest:=(aS d.toList).1}) (by exact bM.cG (off:=off+2) B {JR.zero with dest:=(aS d.toList).1}) (by simp;omega) (by omega)).mono ?_;rintro e j ⟨rfl,i,g⟩;obtain⟨o,m⟩:=nH (w:=w) (t:={JR.zero with dest:=(aS d.toList).1}) (w1:=j) g)
  |(refine eV (.tmp 6) Z Z (N (M w)+1) _ Z i ?_)
  |(refine eU (.tmp 2) (.tmp 50) Z Z (N (M w)) _ _ Z Z (by exact o) ?_;intro x f a))
 simp only[xR];rw[bD k];refine eP (p:=2) (u:=3) (N (M w)) _ _ (by kernel_rfl) Z Z f Z ⟨Z,dX m a (xW _)⟩
end Go.Proofs.YtlikcongbhhpfaaGreatDoor
