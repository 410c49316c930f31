import Derived.Test.YtonodfjdiepglaaGreatDoorL15
set_option linter.unusedVariables false
set_option linter.unusedSimpArgs false
set_option maxHeartbeats 12800000
namespace Go.Proofs.YtonodfjdiepglaaGreatDoor
open Go Go.RowKit Go.Proofs.Tryz P Q R
set_option maxRecDepth 1000000
open Nat renaming le_refl→xF,lt_of_lt_of_le→xW
open List renaming range→xR
open Go.World renaming cell?→xa
open Go.Value renaming int→xb
open Go.IntKind renaming i64→xc
theorem AV (i k:Nat):((i:Int)==(k:Int))=!(i != k):=by
 by_cases h:i=k
 ·subst h;simp
 ·have a:¬ ((i:Int)=(k:Int)):=by omega
  rw[beq_eq_false_iff_ne.2 a,show (i != k)=true by simpa using h];rfl
theorem wG (a:FA) (f:EE) (i k:Nat) (d g:Ev) (w:World) (q:Ej w a f) :
  Calls prog 114 #[.agg (zAn a),.int .i64 (i:Int),.agg (aI d),.int .i64 (k:Int),.agg (aI g)] w fun e w'=>e=.returned (.bool (f.bW i d k g))/\Below w.heap.size w w':=by
 have o:Hid (f.bW i d k g=(d.kind==1&&i != k&&!Q.bR f.strong i k&&d.var==g.var&&zNz g)):=rfl;obtain⟨x,c,p,M⟩:=q.form;have s:=q.n64;have B:=q.len;obtain⟨n,ev,g1,u,g3,g4,g5,g6,g7,g8,g9⟩:=a;simp only at p s B M;subst p;simp only[zAn];obtain⟨k0,k1,k2,aa,m⟩:=lD w #[.slice x n c,.slice (some ⟨g1,0,none⟩) n n,.slice (some ⟨u,0,none⟩) n n,.slice (some ⟨g3,0,none⟩) n n,.slice (some ⟨g4,0,none⟩) n n,.slice (some ⟨g5,0,none⟩) n n,.slice (some ⟨g6,0,none⟩) n n,.slice (some ⟨g7,0,none⟩) n n,.slice (some ⟨g8,0,none⟩) n n,.slice (some ⟨g9,0,none⟩) n n] (aI d) (aI g) 75 146 146;have z:=zAa (q.r2.below m);have j:=zAa m;have K:Hid (zAP _ _ d):=k1;have L:Hid (zAP _ _ g):=k2;simp only[aI] at *;clear m q M;have t:(d.kind != 1)=!(d.kind==1):=rfl;have r:=AV i k
 cases z1:(d.kind==1)
 ·rw[z1] at t;have l:Hid (f.bW i d k g=false):=by unfold Hid;rw[o.out,z1];rfl
  go_enter func114,ntmps114;go_wp2;go_ret;rw[l.out];exact⟨rfl,j.out⟩
 rw[z1] at t
 cases z2:(i != k)
 ·rw[z2] at r;have l:Hid (f.bW i d k g=false):=by unfold Hid;rw[o.out,z1,z2];rfl
  go_enter func114,ntmps114;go_wp2;go_ret;rw[l.out];exact⟨rfl,j.out⟩
 rw[z2] at r
 cases z3:bR f.strong (i:Int) (k:Int)
 rotate_left
 ·have l:Hid (f.bW i d k g=false):=by unfold Hid;rw[o.out,z1,z2,z3];rfl
  go_enter func114,ntmps114;go_wp2_with (first | (go_at_call 80;refine (jU u n f.strong (i:Int) (k:Int) _ z.out).mono ?_;rintro e N ⟨rfl,b⟩;rw[z3]));go_ret;rw[l.out];exact⟨rfl,aK j.out (xF _) b⟩
 cases z4:(d.var==g.var)
 ·have l:Hid (f.bW i d k g=false):=by unfold Hid;rw[o.out,z1,z2,z3,z4];rfl
  go_enter func114,ntmps114;go_wp2_with (first | (go_at_call 80;refine (jU u n f.strong (i:Int) (k:Int) _ z.out).mono ?_;rintro e N ⟨rfl,b⟩;rw[z3];have v:=zAa (K.out.below b);obtain⟨x0,C,D,x3,E,F,G,H,I,J,xf,xl⟩:=v.out.facts;clear x0 C D E F G H I J;have y:=zAa (L.out.below b);obtain⟨O,S,T,y3,U,V,W,X,Y,Z,yf,yl⟩:=y.out.facts;clear O S T U V W X Y Z));go_ret;rw[l.out];exact⟨rfl,aK j.out (xF _) b⟩
 ·have l:Hid (f.bW i d k g=zNz g):=by unfold Hid;rw[o.out,z1,z2,z3,z4];rfl
  go_enter func114,ntmps114;go_wp2_with (first | (go_at_call 80;refine (jU u n f.strong (i:Int) (k:Int) _ z.out).mono ?_;rintro e N ⟨rfl,b⟩;rw[z3];have v:=zAa (K.out.below b);obtain⟨x0,C,D,x3,E,F,G,H,I,J,xf,xl⟩:=v.out.facts;clear x0 C D E F G H I J;have y:=zAa (L.out.below b);obtain⟨O,S,T,y3,U,V,W,X,Y,Z,yf,yl⟩:=y.out.facts) | (go_at_call 125;refine (zV g _).mono ?_;rintro e w2 ⟨rfl,A⟩));go_ret;rw[l.out];exact⟨rfl,aK (aK j.out (xF _) b) (xF _) A⟩
theorem zGT (a:FA) (f:EE) (I:Nat) (bf:List Nat) (w:World) (Z:Ej w a f) (hb:Eh w I a.n bf) :
  Calls prog 95 #[.agg (zAn a),.agg #[.slice (some ⟨I,0,none⟩) a.n a.n]] w fun e w'=>e=.returned (.bool (f.cL bf))/\Below w.heap.size w w':=by
 have M:Hid (f.cL bf=(xR a.n).any fun i=>(xR a.n).any fun k=>f.bY bf i k):=by unfold Hid EE.cL;rw[Z.len]
 obtain⟨x,c,ai,hx⟩:=Z.form;have ak:=Z.n64;have aa:=Z.len;obtain⟨n,ev,N,O,S,T,U,V,W,X,Y⟩:=a;simp only at ai ak aa hx;subst ai;simp only[zAn];simp only at M hb;have ad:=zAa Z.ev;obtain⟨k0,k1,aL,J⟩:=iM w #[.slice x n c,.slice (some ⟨N,0,none⟩) n n,.slice (some ⟨O,0,none⟩) n n,.slice (some ⟨S,0,none⟩) n n,.slice (some ⟨T,0,none⟩) n n,.slice (some ⟨U,0,none⟩) n n,.slice (some ⟨V,0,none⟩) n n,.slice (some ⟨W,0,none⟩) n n,.slice (some ⟨X,0,none⟩) n n,.slice (some ⟨Y,0,none⟩) n n] #[.slice (some ⟨I,0,none⟩) n n] 75 73;have HF:=zAa (Z.below J);have RB:=zAa (hb.below J);have D:=zAa J;clear J Z hb;go_enter func95,ntmps95;go_upto_region 1 with fail
 generalize hE:(w.alloc (.cells #[.slice x n c,.slice (some ⟨N,0,none⟩) n n,.slice (some ⟨O,0,none⟩) n n,.slice (some ⟨S,0,none⟩) n n,.slice (some ⟨T,0,none⟩) n n,.slice (some ⟨U,0,none⟩) n n,.slice (some ⟨V,0,none⟩) n n,.slice (some ⟨W,0,none⟩) n n,.slice (some ⟨X,0,none⟩) n n,.slice (some ⟨Y,0,none⟩) n n] 75)).alloc (.cells #[.slice (some ⟨I,0,none⟩) n n] 73)=d at *;have ao:=aD k0 0 _ rfl;obtain⟨K,f1,r⟩:=cE k1;have l0:w.heap.size<d.heap.size:=by omega
 have K0:=zAa k0;clear hE k0 k1 f1;go_wp2;go_loopw [12] (fun i wr=>∃ (k:Nat),k<=n/\i=.int .i64 k/\Hid ((xR k).any (fun i=>(xR n).any fun k=>f.bY bf i k)=false)/\Hid (Below d.heap.size d wr)) (fun i _=>n-(intOf i).toNat)
 case atStart=>exact⟨0,Nat.zero_le _,rfl,by simp[Hid],Below.refl _ _⟩
 case round =>
  obtain⟨k,hk,rfl,HT,HI⟩:=hrel;have ap:=aC HI.out l0 ao;have aF:=xW l0 HI.out.size;by_cases hlt:k<n
  ·have aH:(k:Int)<(n:Int):=by omega
   obtain⟨p,rfl,ah⟩:=hx (by omega);have L:p<d.heap.size:=by omega
   have af:Hid (wr.rangeAt p (k*10) (aI (Q.ev f.Ea k)).toList):=fY (ad.out.cM aa.symm k (by omega)) ((HI.out.block p L).trans (D.out.block p ah));have ag:=zAa (zR (fun i=>(xR n).any fun k=>f.bY bf i k) k);have am:Hid (∀ q,f.bY bf k q=(f.bW k (Q.ev f.Ea k) q (Q.ev f.Ea q)&&!Q.bR bf k q&&!Q.bR bf q k)):=fun q=>rfl
   generalize Q.ev f.Ea k=B at *;have ab:Hid (zAP (wr.alloc (.cells (aI B) 146)) wr.heap.size B):=zAP.bT wr B;have ae:Hid (Below d.heap.size d (wr.alloc (.cells (aI B) 146))):=HI.out.alloc HI.out.size _;go_wp2_with (first | (refine cQ (.tmp 15) rfl rfl p (k*10) B rfl af.out ?_));go_loopw [20] (fun j wq=>∃ (q:Nat),q<=n/\j=.int .i64 q/\Hid ((xR q).any (fun j=>f.bY bf k j)=false)/\Hid (Below d.heap.size d wq)/\Hid (zAP wq wr.heap.size B)) (fun j _=>n-(intOf j).toNat)
   case atStart=>exact⟨0,Nat.zero_le _,rfl,by simp[Hid],ae,ab⟩
   case round =>
    clear ap ae ab af aF;obtain⟨q,hq,rfl,HU,HJ,HA⟩:=hrel;by_cases hql:q<n
    ·have aJ:(q:Int)<(n:Int):=by omega
     have G:Hid (wr.rangeAt p (q*10) (aI (Q.ev f.Ea q)).toList):=fY (ad.out.cM aa.symm q (by omega)) ((HJ.out.block p L).trans (D.out.block p ah));have H:=zAa (zR (fun j=>f.bY bf k j) q);have E:=zAa (am.out q);generalize Q.ev f.Ea q=l at *;have m:Hid (Below d.heap.size d (wr.alloc (.cells (aI l) 146))):=HJ.out.alloc HJ.out.size _;have v:=zAa (HA.out.alloc (.cells (aI l) 146));have al:=zAa (zAP.bT wr l);have z:=zAa (RB.out.below m.out);have F:=zAa (HF.out.below m.out);have g:=(m.out.block _ l0).trans K0.out;have aE:=xW l0 m.out.size;have aG:=xW r m.out.size;have d1:=aC m.out r K;have aq:(wr.alloc (.cells (aI l) 146)).cell? ⟨w.heap.size,0,none⟩=some (.slice (some ⟨p,0,none⟩) n c):=by simp only[xa,g];rfl
     have ar:(wr.alloc (.cells (aI l) 146)).cell? ⟨w.heap.size,1,none⟩=some (.slice (some ⟨N,0,none⟩) n n):=by simp only[xa,g];rfl
     have au:(wr.alloc (.cells (aI l) 146)).cell? ⟨w.heap.size,2,none⟩=some (.slice (some ⟨O,0,none⟩) n n):=by simp only[xa,g];rfl
     have av:(wr.alloc (.cells (aI l) 146)).cell? ⟨w.heap.size,3,none⟩=some (.slice (some ⟨S,0,none⟩) n n):=by simp only[xa,g];rfl
     have aw:(wr.alloc (.cells (aI l) 146)).cell? ⟨w.heap.size,4,none⟩=some (.slice (some ⟨T,0,none⟩) n n):=by simp only[xa,g];rfl
     have ax:(wr.alloc (.cells (aI l) 146)).cell? ⟨w.heap.size,5,none⟩=some (.slice (some ⟨U,0,none⟩) n n):=by simp only[xa,g];rfl
     have ay:(wr.alloc (.cells (aI l) 146)).cell? ⟨w.heap.size,6,none⟩=some (.slice (some ⟨V,0,none⟩) n n):=by simp only[xa,g];rfl
     have az:(wr.alloc (.cells (aI l) 146)).cell? ⟨w.heap.size,7,none⟩=some (.slice (some ⟨W,0,none⟩) n n):=by simp only[xa,g];rfl
     have aA:(wr.alloc (.cells (aI l) 146)).cell? ⟨w.heap.size,8,none⟩=some (.slice (some ⟨X,0,none⟩) n n):=by simp only[xa,g];rfl
     have aB:(wr.alloc (.cells (aI l) 146)).cell? ⟨w.heap.size,9,none⟩=some (.slice (some ⟨Y,0,none⟩) n n):=by simp only[xa,g];rfl
     obtain⟨x0,x1,x2,x3,x4,x5,x6,x7,x8,x9,xf,xl⟩:=v.out.facts;obtain⟨y0,y1,y2,y3,y4,y5,y6,y7,y8,y9,yf,yl⟩:=al.out.facts;simp only[aI] at x0 x1 x2 x3 x4 x5 x6 x7 x8 x9 xf xl y0 y1 y2 y3 y4 y5 y6 y7 y8 y9 yf yl d1 aE aG aq ar au av aw ax ay az aA aB;clear g
     cases z1:f.bW k B q l
     ·have A:Hid ((xR (q+1)).any (fun j=>f.bY bf k j)=false):=by unfold Hid;rw[H.out,HU.out,E.out,z1];rfl
      go_wp2_with (first | (refine cQ (.tmp 23) rfl rfl p (q*10) l rfl G.out ?_) | (go_at_call 114;refine (wG (FA.mk n (.slice (some ⟨p,0,none⟩) n c) N O S T U V W X Y) f k q B l _ F.out).mono ?_;rintro e v1 ⟨rfl,b⟩;rw[z1];have s:Hid (Below d.heap.size d v1):=aK m.out (xF _) b;have t:=zAa (v.out.below b);have p1:=aC s.out r K;have q1:=xW r s.out.size));go_roundw
      case rel=>exact⟨q+1,by omega,by go_num,A,s,t⟩
      case measure=>simp[intOf];omega
     cases z2:bR bf (k:Int) (q:Int)
     rotate_left
     ·have A:Hid ((xR (q+1)).any (fun j=>f.bY bf k j)=false):=by unfold Hid;rw[H.out,HU.out,E.out,z1,z2];rfl
      go_wp2_with (first | (refine cQ (.tmp 23) rfl rfl p (q*10) l rfl G.out ?_) | (go_at_call 114;refine (wG (FA.mk n (.slice (some ⟨p,0,none⟩) n c) N O S T U V W X Y) f k q B l _ F.out).mono ?_;rintro e v1 ⟨rfl,b⟩;rw[z1];have s:Hid (Below d.heap.size d v1):=aK m.out (xF _) b;have t:=zAa (v.out.below b);have p1:=aC s.out r K;have q1:=xW r s.out.size) | (go_at_call_of 80 (xb xc (k:Int));refine (jU I n bf (k:Int) (q:Int) _ (z.out.below b)).mono ?_;rintro e v2 ⟨rfl,o⟩;rw[z2];have u:Hid (Below d.heap.size d v2):=aK s.out (xF _) o;have y:=zAa (t.out.below o);have p2:=aC u.out r K;have q2:=xW r u.out.size));go_roundw
      case rel=>exact⟨q+1,by omega,by go_num,A,u,y⟩
      case measure=>simp[intOf];omega
     cases z3:bR bf (q:Int) (k:Int)
     rotate_left
     ·have A:Hid ((xR (q+1)).any (fun j=>f.bY bf k j)=false):=by unfold Hid;rw[H.out,HU.out,E.out,z1,z2,z3];rfl
      go_wp2_with (first | (refine cQ (.tmp 23) rfl rfl p (q*10) l rfl G.out ?_) | (go_at_call 114;refine (wG (FA.mk n (.slice (some ⟨p,0,none⟩) n c) N O S T U V W X Y) f k q B l _ F.out).mono ?_;rintro e v1 ⟨rfl,b⟩;rw[z1];have s:Hid (Below d.heap.size d v1):=aK m.out (xF _) b;have t:=zAa (v.out.below b);have p1:=aC s.out r K;have q1:=xW r s.out.size) | (go_at_call 80;refine (jU I n bf (q:Int) (k:Int) _ ((z.out.below b).below o)).mono ?_;rintro e v3 ⟨rfl,C⟩;rw[z3];have B3:Hid (Below d.heap.size d v3):=aK u.out (xF _) C;have ac:=zAa (y.out.below C)) | (go_at_call_of 80 (xb xc (k:Int));refine (jU I n bf (k:Int) (q:Int) _ (z.out.below b)).mono ?_;rintro e v2 ⟨rfl,o⟩;rw[z2];have u:Hid (Below d.heap.size d v2):=aK s.out (xF _) o;have y:=zAa (t.out.below o);have p2:=aC u.out r K;have q2:=xW r u.out.size));go_roundw
      case rel=>exact⟨q+1,by omega,by go_num,A,B3,ac⟩
      case measure=>simp[intOf];omega
     ·have HV:Hid (f.cL bf=true):=by
       unfold Hid;rw[M.out];refine AX _ (k+1) n hlt ?_;rw[ag.out,AX (fun j=>f.bY bf k j) (q+1) n hql (by rw[H.out,E.out,z1,z2,z3];simp)];simp
      go_wp2_with (first | (refine cQ (.tmp 23) rfl rfl p (q*10) l rfl G.out ?_) | (go_at_call 114;refine (wG (FA.mk n (.slice (some ⟨p,0,none⟩) n c) N O S T U V W X Y) f k q B l _ F.out).mono ?_;rintro e v1 ⟨rfl,b⟩;rw[z1];have s:Hid (Below d.heap.size d v1):=aK m.out (xF _) b;have t:=zAa (v.out.below b);have p1:=aC s.out r K;have q1:=xW r s.out.size) | (go_at_call 80;refine (jU I n bf (q:Int) (k:Int) _ ((z.out.below b).below o)).mono ?_;rintro e v3 ⟨rfl,C⟩;rw[z3];have B3:Hid (Below d.heap.size d v3):=aK u.out (xF _) C;have ac:=zAa (y.out.below C)) | (go_at_call_of 80 (xb xc (k:Int));refine (jU I n bf (k:Int) (q:Int) _ (z.out.below b)).mono ?_;rintro e v2 ⟨rfl,o⟩;rw[z2];have u:Hid (Below d.heap.size d v2):=aK s.out (xF _) o;have y:=zAa (t.out.below o);have p2:=aC u.out r K;have q2:=xW r u.out.size));go_ret;rw[HV.out];exact⟨rfl,aK D.out (xF _) B3.out⟩
    ·have an:Hid ((xR (k+1)).any (fun i=>(xR n).any fun k=>f.bY bf i k)=false):=by
      have h1:=HU.out;rw[show q=n by omega] at h1;unfold Hid;rw[ag.out,HT.out,h1];rfl
     go_wp2;go_roundw
     case rel=>exact⟨k+1,by omega,by go_num,an,HJ⟩
     case measure=>simp[intOf];omega
  ·have aj:k=n:=by omega
   have HV:Hid (f.cL bf=false):=by unfold Hid;rw[M.out,<- aj];have h1:=HT.out;rw[<- aj] at h1;exact h1
   go_wp2;go_ret;rw[HV.out];exact⟨rfl,aK D.out (xF _) HI.out⟩
end Go.Proofs.YtonodfjdiepglaaGreatDoor
