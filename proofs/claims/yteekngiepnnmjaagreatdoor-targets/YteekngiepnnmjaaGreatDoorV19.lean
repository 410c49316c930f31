import Derived.Test.YteekngiepnnmjaaGreatDoorV18
set_option linter.all false
set_option maxHeartbeats 0
namespace Go.Proofs.YteekngiepnnmjaaGreatDoor
open Go Go.RowKit Go.Proofs.Tryz P Q
open scoped Classical
set_option maxRecDepth 1000000
open Go.RowKit renaming Below->K,Below->σ
open _root_ renaming List->z,List->ν,Nat->U,Nat->ι
open Go renaming World->ω,Value->ξ,heap_alloc_new->ψ,Calls->φ
open Go.Proofs.Tryz renaming prog->ρ
variable {W w w':ω}{α:Type}{gb n:ι}{bs:ν Int}{v:ξ}{ls:ν (ν ι)}{gs:ν ι}{o:Obj}
open Option renaming none->Y,some->O
open Go.Value renaming slice->M,agg->T
open Go.Obj renaming cells->H
open Bool renaming false->A
open Go.RowKit.Below renaming refl->xF,heap_alloc->x5
open Nat renaming lt_of_lt_of_le->xR,le_refl->xW,zero_le->x3
open List renaming range->x1
open Or renaming inl->x2
open Go.World renaming frozen?->x4
open Go.Value renaming ownBlock->x6
def kU(a:FA)(gr:U):Array ξ:=#[a.ev,VV a.g1 a.n a.n,VV a.g2 a.n a.n,VV a.g3 a.n a.n,VV a.g4 a.n a.n,VV a.g5 a.n a.n,VV a.g6 a.n a.n,VV a.g7 a.n a.n,VV a.g8 a.n a.n,VV a.g9 a.n a.n,VV gr a.n a.n]
def Ju(c:Array ξ)(u v:ξ)(a b d:TypeId):(∀w',K (((w.alloc (H c a)).alloc (H #[u] b)).alloc (H #[v] d)).heap.size (((w.alloc (H c a)).alloc (H #[u] b)).alloc (H #[v] d)) w'->(∀i,w'.cell? ⟨w.heap.size,i,Y⟩=c[i]?)/\w'.cell? ⟨w.heap.size+1,0,Y⟩=O u/\w'.cell? ⟨w.heap.size+2,0,Y⟩=O v/\w.heap.size+2<w'.heap.size)/\K w.heap.size w (((w.alloc (H c a)).alloc (H #[u] b)).alloc (H #[v] d)):=by
 obtain⟨j,k,l,g,f⟩:=wT w c #[u] #[v] a b d;generalize((w.alloc (H c a)).alloc (H #[u] b)).alloc (H #[v] d)=W at*;refine⟨λw' e=>?_,f⟩;have m:=e.size;exact⟨λi=>cK e (by omega) (cA j i),cK e (by omega) (cA k 0),cK e (by omega) (cA l 0),by omega⟩
def zGL(a:FA)(f:Ex)(j:ι)(rd:ν ι)(d:ι)(cs:ν ι)(g:ι)(u:ν ι)(w:ω)(E:Ee w a f)(D:Ec w j a.n rd)(y:Ec w d a.n cs)(z:Ec w g a.n u):
  φ ρ 67 #[T (kU a j),T #[VV d a.n a.n],T #[VV g a.n a.n]] w λe w'=>e=.returned (.bool (Ah rd cs u))/\σ w.heap.size w w':=by
 obtain⟨x,c,k,_⟩:=E.form;obtain⟨n,ev,L,N,U,V,g5,g6,g7,g8,g9⟩:=a;simp only at k D y z;subst k;have HR:=aD D;have t:=aD y;have I:=aD z;clear E D y z;simp only[XP,kU]
 cases h1:cJ cs
 case' false=>cases h2:cJ (YB u cs)
 all_goals
  go_in;go_upto_region 1 with fail
  refine jD (λW=>(∀w',σ W.heap.size W w'->(∀i,w'.cell? ⟨w.heap.size,i,Y⟩=(kU (FA.mk n (M x n c) L N U V g5 g6 g7 g8 g9) j)[i]?)/\w'.cell? ⟨w.heap.size+1,0,Y⟩=O (VV d n n)/\w'.cell? ⟨w.heap.size+2,0,Y⟩=O (VV g n n)/\w.heap.size+2<w'.heap.size)/\σ w.heap.size w W) (Ju _ _ _ _ _ _) ?_;rintro W ⟨s,(B:aC _)⟩;simp only[kU,XP]at s;have C:=aD s;obtain⟨p,q,r,l⟩:=s W (xF _ _);have S:=aD (xF W.heap.size W);clear s;go_wp2_with(first
   |(go_at_call_of 111 (VV d n n);refine(LS d n _ _ (t.o.X (bT B S))).mono ?_;rintro e w1 ⟨rfl,b⟩;rw[h1];have S:=aD (bT S b);obtain⟨p,q,r,l⟩:=C.o _ S;clear b)
   |(go_at_call_of 102 (VV g n n);refine(pO g d n _ _ _ (I.o.X (bT B S)) (t.o.X (bT B S))).mono ?_;rintro e w2 ⟨F,rfl,m,b⟩;have J:=aD m;have S:=aD (bT S b);obtain⟨p,q,r,l⟩:=C.o _ S;clear m b)
   |(go_at_call_of 111 (VV F n n);refine(LS F n _ _ J).mono ?_;rintro e w3 ⟨rfl,b⟩;rw[h2];have S:=aD (bT S b);obtain⟨p,q,r,l⟩:=C.o _ S;clear b)
   |(go_at_call_of 101 (VV j n n);refine(DJ j d n _ _ _ (HR.o.X (bT B S)) (t.o.X (bT B S))).mono ?_;rintro e w4 ⟨G,rfl,m,b⟩;have K:=aD m;have S:=aD (bT S b);obtain⟨p,q,r,l⟩:=C.o _ S;clear m b)
   |(go_at_call_of 112 (VV G n n);refine(Ud G n _ _ K).mono ?_;rintro e w5 ⟨rfl,b⟩;have S:=aD (bT S b);clear b))
  go_ret;refine⟨?_,bT B S⟩;unfold Ah
  first|(rw[h1];rfl)|(rw[h1,h2];rfl)
def zJq(a:FA)(f:Ex)(d:U)(rd:ν U)(gb:U)(j:ν U)(w:ω)(I:Ee w a f)(k:Ec w d a.n rd)(b:Ec w gb a.n j):
  φ ρ 70 #[T (XP a),T #[VV d a.n a.n],T #[VV gb a.n a.n]] w λe w'=>oB w w' a.n (YB rd j) e:=by
 obtain⟨x,c,g,_⟩:=I.form;obtain⟨n,ev,q,r,s,t,u,D,E,F,G⟩:=a;simp only at g k b;subst g;have HR:=aD k;have HB:=aD b;simp only[XP];go_in;go_upto_region 1 with fail
 refine jD (λW=>(∀w',σ W.heap.size W w'->(w'.cell? ⟨w.heap.size+1,0,Y⟩=O (VV d n n)/\w'.cell? ⟨w.heap.size+2,0,Y⟩=O (VV gb n n))/\w'.heap[w.heap.size+3]?=O (H #[M Y 0 0] 83 (0,0)))/\σ w.heap.size w W/\w.heap.size+3<W.heap.size) ?_ ?_
 ·have h:=RW w (XP (FA.mk n (M x n c) q r s t u D E F G)) #[VV d n n] #[VV gb n n] #[M Y 0 0] 85 83 83 83;exact⟨λw' b=>⟨⟨(kG b (by simp) (cA h.2.1)) 0,(kG b (by simp) (cA h.2.2.1)) 0⟩,(b.block _ (by simp)).trans h.2.2.2.1⟩,h.2.2.2.2.2,by simp⟩
 rintro W ⟨C,b,l⟩;have C:=aD C;have B:=aD b;obtain⟨L,N⟩:=(C W (xF _ _)).1;go_wp2_with(first
  |(go_at_call_of 102 (VV d n n);refine(pO d gb n _ _ _ (HR.o.X B) (HB.o.X B)).mono ?_;rintro e S ⟨K,rfl,J,b⟩;have i:=aD b;have z:=(cU (C _ i).2).2.1;have y:=(cU (C _ i).2).1;have Q1:=aD J))
 all_goals
  (try go_wp2)
  have m:=(C _ i).2;exact pR (p:=6) (w.heap.size+3) _ (by kernel_rfl) Z (by exact cI m 0 _) Z ⟨K,Z,GY m Q1 (bT B i) (by omega)⟩
theorem Jv(a:FA)(f:Ex)(q:ι)(rd:ν ι)(gb:ι)(F:ν ι)(d:ι)(L:ν ι)(w:ω)(G:Ee w a f)(J:Ec w q a.n rd)(b:Ec w gb a.n F)(I:Ec w d a.n L):
  φ ρ 71 #[T (kU a q),T #[VV gb a.n a.n],T #[VV d a.n a.n]] w λe w'=>e=.returned (.bool (f.XJ rd F L))/\σ w.heap.size w w':=by
 obtain⟨x,c,m,_⟩:=G.form;obtain⟨n,ev,g1,p,g3,g4,k,g6,g7,g8,g9⟩:=a;simp only at m J b I;subst m;have j:=aD G;have HR:=aD J;have HB:=aD b;have y:=aD I;clear G J b I;simp only[XP,kU]
 cases h1:f.mA L F
 all_goals
  go_in;go_upto_region 1 with fail
  refine jD (λW=>(∀w',σ W.heap.size W w'->(∀i,w'.cell? ⟨w.heap.size,i,Y⟩=(kU (FA.mk n (M x n c) g1 p g3 g4 k g6 g7 g8 g9) q)[i]?)/\w'.cell? ⟨w.heap.size+1,0,Y⟩=O (VV gb n n)/\w'.cell? ⟨w.heap.size+2,0,Y⟩=O (VV d n n)/\w.heap.size+2<w'.heap.size)/\σ w.heap.size w W) (Ju _ _ _ _ _ _) ?_;rintro W ⟨r,(B:aC _)⟩;simp only[kU,XP]at r;have C:=aD r;obtain⟨c0,c1,c2,l⟩:=r W (xF _ _);have S:=aD (xF W.heap.size W);clear r
 ·go_upto_region 4 with(first
   |(go_at_call 113;refine(Fl _ f d _ gb _ _ (j.o.X (bT B S)) (y.o.X (bT B S)) (HB.o.X (bT B S))).mono ?_;rintro e w1 ⟨rfl,b⟩;rw[h1];have S:=aD (bT S b);obtain⟨c0,c1,c2,l⟩:=C.o _ S;clear b)
   |(go_at_call 114;refine(Uj _ f q _ gb _ d _ _ (j.o.X (bT B S)) (HR.o.X (bT B S)) (HB.o.X (bT B S)) (y.o.X (bT B S))).mono ?_;rintro e t ⟨s,rfl,g,b⟩;have z:=aD g;have S:=aD (bT S b);clear g b))
  refine jD (λU=>(∀w',σ U.heap.size U w'->w'.cell? ⟨w.heap.size,2,Y⟩=O (VV p n n)/\w'.cell? ⟨w.heap.size,5,Y⟩=O (VV k n n)/\w'.cell? ⟨t.heap.size,0,Y⟩=O (VV s n n))/\σ t.heap.size t U) ⟨λw' b=>⟨(C w' (bT S (uU b).1)).1 2,(C w' (bT S (uU b).1)).1 5,(uU b).2.1⟩,bB⟩ ?_;rintro U ⟨(D:aC _),K⟩;have u:=aD (bT B (bT S K));have z:=aD (z.o.X K);obtain⟨d1,d2,d3⟩:=D.o U (xF _ _);clear K c0 c1 c2 l;go_region_held3 (λw'=>w'.cell? ⟨w.heap.size,2,Y⟩=O (VV p n n)/\w'.cell? ⟨w.heap.size,5,Y⟩=O (VV k n n)/\w'.cell? ⟨t.heap.size,0,Y⟩=O (VV s n n)) (first|exact⟨d1,d2,d3⟩|exact D _ E.o|exact D _ N.o|exact D _ V) (first
   |(go_at_call_of 100 (VV q4 n n);refine(Fj q4 n _ _ Q4).mono ?_;rintro e w5 ⟨rfl,b⟩;have V:=aD (bT N b))
   |(go_at_call_of 61 (VV k n n);refine(pG k q3 n _ _ _ (j.o.r5.X (bT u E)) Q3).mono ?_;rintro e w4 ⟨q4,rfl,g,b⟩;have N:=aD (bT E b);have Q4:=aD g)
   |(go_at_call_of 101 (VV s n n);refine(DJ s p n _ _ _ (z.o.X (xF _ _).drew) (j.o.r2.X u.o.drew)).mono ?_;rintro e w3 ⟨q3,rfl,g,b⟩;have E:aC (σ U.heap.size U w3):=((xF U.heap.size U).drew).trans (b.mono (by simp));have Q3:=aD g))
  all_goals
   go_wp2;go_ret;refine⟨?_,bT u V⟩;unfold Ex.XJ;rw[h1];rfl
 ·go_wp2_with(first
   |(go_at_call 113;refine(Fl _ f d _ gb _ _ (j.o.X B) (y.o.X B) (HB.o.X B)).mono ?_;rintro e w1 ⟨rfl,(S:aC _)⟩;rw[h1]))
  go_ret;refine⟨?_,bT B S⟩
  simp_all [Ex.XJ]
theorem zJr(a:FA)(f:Ex)(v:ξ)(ps:z Int)(w:ω)(J:Ee w a f)(hv:YA w v ps)(ah:ps.length=a.n):
  φ ρ 69 #[T (XP a),v] w λe w'=>oB w w' a.n (YP f.E ps) e:=by
 have ap:aC (YP f.E ps=(x1 a.n).foldl (DN f.E ps) (WY a.n)):=by unfold aC YP;rw[J.len]
 obtain⟨va,vc,rfl,aI⟩:=hv.form;have ak:0<a.n->∃g,va=O ⟨g,0,Y⟩/\g<w.heap.size/\∀i,i<a.n->w.cell? ⟨g,i,Y⟩=O (.int .i64 (ps.getD i 0)):=λh0=>by
  grind
 clear aI;rw[ah];obtain⟨x,c,ac,hx⟩:=J.form;have B:=J.n64;have I:=J.len;obtain⟨n,ev,g1,g2,g3,g4,g5,g6,g7,g8,g9⟩:=a;simp only at ac B I hx;subst ac;simp only[XP];simp only at ap ah ak;have L:=aD J.ev;clear J hv;go_in;go_upto_region 1 with fail
 refine jD (λW=>W.heap[w.heap.size]?=O (H (XP (FA.mk n (M x n c) g1 g2 g3 g4 g5 g6 g7 g8 g9)) 85 (0,0))/\W.heap[w.heap.size+1]?=O (H #[M Y 0 0] 83 (0,0))/\W.heap.size=w.heap.size+2/\σ w.heap.size w W) (nZ _ _ _ _ _) ?_;rintro W0 ⟨k0,k1,aH,ab⟩;have F:W0.cell? ⟨w.heap.size,0,Y⟩=O (M x n c):=cA k0 0;have l:=aD ab;have l1:w.heap.size+1<W0.heap.size:=by omega
 have l0:w.heap.size<W0.heap.size:=by omega
 have K1:=aD k1;clear k0 k1 aH ab;go_wp2_with(first|(go_at_call 98;refine(yA n _ B).mono ?_;rintro e w1 ⟨gn,rfl,aj,aB,ag,ad,G⟩;have HS:=aD (Fill.start ⟨aj,ag,ad⟩ aB G);have aP:=G.size;have S:=HS.o.cell (p:=⟨w.heap.size,0,Y⟩) l0 F;clear aj G ag ad));go_loopw[17] (λi wr=>∃(k:ι) (t:z ι),k<=n/\i=.int .i64 k/\aC (t=(x1 k).foldl (DN f.E ps) (WY n))/\aC (Fill W0 wr w1.heap.size gn n t)) λi _=>n-(intOf i).toNat
 case atStart=>exact⟨0,_,x3 _,Z,Z,HS⟩
 case round =>
  clear S;obtain⟨k,t,hk,rfl,HT,s⟩:=hrel;obtain⟨b0,b1,b2⟩:=cU s.o.box;have aA:=s.o.cell (p:=⟨w.heap.size,0,Y⟩) l0 F;have aJ:=xR l0 s.o.bel.size;by_cases hlt:k<n
  ·have aM:=lI hlt;obtain⟨r,rfl,aa⟩:=hx (by omega);obtain⟨V,rfl,af,ai⟩:=ak (by omega);have y:r<W0.heap.size:=by omega
   have m:V<W0.heap.size:=by omega
   have N:aC (wr.rangeAt r (k*10) (aK (Q.ev f.E k)).toList):=lC (L.o.cZ I.symm k (by omega)) ((s.o.bel.block r y).trans (l.o.block r aa));have au:aC (W0.cell? ⟨V,k,Y⟩=O (.int .i64 (ps.getD k 0))):=cK l af (ai k (by omega));have ax:aC ((x1 (k+1)).foldl (DN f.E ps) (WY n)=(x1 n).foldl (JM f.E ps k) t):=by grind [aC,jT,DN]
   have an:aC (∀q,ZQ f.E ps k q=((Q.ev f.E k).kind==1&&(Q.ev f.E q).kind==1&&(Q.ev f.E k).z==(Q.ev f.E q).z&&decide (ps.getD k 0<ps.getD q 0))):=λq=>Z
   generalize Q.ev f.E k=e1 at*;generalize aE:ps.getD k 0=pk at*;clear aE;have K:aC (WN (wr.alloc (H (aK e1) 180)) wr.heap.size e1):=WN.new wr e1;have D:=aD (s.o.alloc (H (aK e1) 180));have U:=D.o.cell (p:=⟨w.heap.size,0,Y⟩) l0 F;go_wp2_with(first|(refine jQ (.tmp 20) Z Z r (k*10) e1 Z N ?_));go_loopw[25] (λj wq=>∃(q:ι) (u:z ι),q<=n/\j=.int .i64 q/\aC (u=(x1 q).foldl (JM f.E ps k) t)/\aC (Fill W0 wq w1.heap.size gn n u)/\aC (WN wq wr.heap.size e1)) λj _=>n-(intOf j).toNat
   case atStart=>exact⟨0,t,x3 _,Z,Z,D,K⟩
   case round =>
    clear U aA D K b0 b1 b2 N aJ;obtain⟨q,u,hq,rfl,HU,HJ,HA⟩:=hrel;by_cases hql:q<n
    ·have aO:=lI hql;have aw:aC (wr.rangeAt r (q*10) (aK (Q.ev f.E q)).toList):=lC (L.o.cZ I.symm q (by omega)) ((HJ.o.bel.block r y).trans (l.o.block r aa));have av:aC (W0.cell? ⟨V,q,Y⟩=O (.int .i64 (ps.getD q 0))):=cK l af (ai q (by omega));have HB:=aD (an.o q);have d:aC ((x1 (q+1)).foldl (JM f.E ps k) t=oK (ZQ f.E ps k q) u k q):=by unfold aC;rw[jT,<- HU.o];rfl
     rw[HB.o]at d;generalize Q.ev f.E q=e2 at*;generalize aF:ps.getD q 0=pq at*;clear aF;have b:=aD (HJ.o.alloc (H (aK e2) 180));have C:=aD (HA.o.alloc (H (aK e2) 180));have ay:=b.o.cell (p:=⟨V,k,Y⟩) m au;have az:=b.o.cell (p:=⟨V,q,Y⟩) m av;have aL:=xR m b.o.bel.size;obtain⟨x0,xf,xl⟩:=C.o.fs;have al:=aD (WN.new wr e2);obtain⟨y0,yf,yl⟩:=al.o.fs;simp only[aK]at x0 xf xl y0 yf yl ay az aL
     cases z1:e1.kind==1
     case' true =>
      cases z2:e2.kind==1
      case' true =>
       cases z3:e1.z==e2.z
       case' true=>cases z4:decide (pk<pq)
     all_goals
      rw[z1]at d
      try rw[z2]at d
      try rw[z3]at d
      try(rw[z4]at d;first|have hz:=of_decide_eq_true z4|have hz:=of_decide_eq_false z4)
      go_wp2_with(first|(refine jQ (.tmp 28) Z Z r (q*10) e2 Z aw ?_));go_quiet (fail)
      all_goals
       go_wp2_with(first|(go_at_call 99;refine(DR w1.heap.size 0 gn n u (k:Int) (q:Int) _ (b.o.keep (iU _ _ _)).pN b.o.rel.fits).mono ?_;rintro e wc ⟨rfl,aG,ae⟩;have aq:=aD ((b.o.keep (iU _ _ _)).grown ae aG);have am:=aD (WN.grown (C.o.X (iU _ _ _)) (b.o.keep (iU _ _ _)).rel.at_ ae)));go_roundw
       first|exact⟨q+1,u,by omega,by go_num,d.o.symm,b.o.keep (iU _ _ _),C.o.X (iU _ _ _)⟩|exact⟨q+1,_,by omega,by go_num,d.o.symm,aq,am⟩
       simp[intOf];omega
    ·have ar:aC (u=(x1 (k+1)).foldl (DN f.E ps) (WY n)):=by unfold aC;rw[ax.o,HU.o,show q=n by omega]
     go_wp2;go_roundw;exact⟨k+1,u,by omega,by go_num,ar,HJ⟩;simp[intOf];omega
  ·have aN:k=n:=by omega
   have ao:aC (t=YP f.E ps):=by grind [aC]
   obtain⟨q1,q2⟩:=s.o.o l K1 (by omega);rw[ao.o]at q1;go_wp2_with(first|(refine nQ (.tmp 5) Z Z w1.heap.size _ Z s.o.box ?_)|(refine yX (.tmp 4) (.tmp 71) Z Z (w.heap.size+1) _ _ Z Z ((s.o.bel.block _ l1).trans K1) Z ?_));refine pR (p:=4) (w.heap.size+1) _ (by kernel_rfl) Z q2 Z q1
namespace Q
theorem yK{α:Type}(F:XU->α->XU)(b:∀a x,a.y.length<=(F a x).y.length):∀(l:z α) (a:XU),a.y.length<=(l.foldl F a).y.length
 |[],a=>xW _
 |x::l,a=>by rw[List.foldl_cons];exact Nat.le_trans (b a x) (yK F b l _)
end Q
theorem Jw{a d:ω}{c gd:U}{b:ν Int}(k:WO a c b)(i:WO a gb bs)(j:WO a gd (hZ bs.length))(m:c≠gd)(p:gb≠gd)(l:bs.length=b.length)(g:d.heap[a.heap.size]?=O (H #[VV c b.length b.length,VV gb bs.length bs.length,VV gd bs.length bs.length,.bool A] 146 (0,0)))(f:K a.heap.size a d):YE d a.heap.size c gb gd b bs (hZ bs.length) (XH bs):=by
 obtain⟨q,r,z,s,t,tl⟩:=IE g;have u:=k.lt;have x:=i.lt;have y:=j.lt;have e:(hZ bs.length).length=bs.length:=by simp[hZ]
 exact⟨q,k.X f,⟨A,⟨r,by grind,s,t,tl,i.X f,j.X f,by omega,by omega,p,e⟩,x2 ⟨Z,Z,Z⟩⟩,l,m,by omega⟩
def zMh(a:FA)(f:Ex)(k:ι)(rd:ν ι)(w:ω)(hf:Ee w a f)(hr:Ec w k a.n rd):
  φ ρ 59 #[T (XP a),T #[VV k a.n a.n]] w λe w'=>oB w w' a.n (f.aL rd) e:=by
 obtain⟨x,c,m,_⟩:=hf.form;obtain⟨n,ev,g1,J,g3,g4,g5,g6,K,g8,g9⟩:=a;simp only at m hr;subst m;have S:=aD hf;have HR:=aD hr;simp only[XP];go_in;go_upto_region 1 with fail
 refine jD (λW=>(∀w',σ W.heap.size W w'->(w'.cell? ⟨w.heap.size,2,Y⟩=O (VV J n n)/\w'.cell? ⟨w.heap.size,7,Y⟩=O (VV K n n)/\w'.cell? ⟨w.heap.size+1,0,Y⟩=O (VV k n n))/\w'.heap[w.heap.size+2]?=O (H #[M Y 0 0] 83 (0,0)))/\σ w.heap.size w W/\w.heap.size+2<W.heap.size) ?_ ?_
 ·have h:=wT w (XP (FA.mk n (M x n c) g1 J g3 g4 g5 g6 K g8 g9)) #[VV k n n] #[M Y 0 0] 85 83 83;exact⟨λw' b=>⟨⟨(kG b (by simp;omega) (cA h.1)) 2,(kG b (by simp;omega) (cA h.1)) 7,(kG b (by simp) (cA h.2.1)) 0⟩,(b.block _ (by simp)).trans h.2.2.1⟩,h.2.2.2.2,by simp⟩
 rintro W ⟨C,b,l⟩;have C:=aD C;have B:=aD b;obtain⟨c1,c2,c3⟩:=(C W (xF _ _)).1;go_upto_region 2 with(first
  |(go_at_call_of 101 (VV k n n);refine(DJ k J n _ _ _ (HR.o.X B) (S.o.r2.X B)).mono ?_;rintro e j ⟨g,rfl,d,b⟩;have N:=aD b;have Q1:=aD d))
 refine jD (λV=>V.heap[j.heap.size]?=O (H #[VV g n n] 83 (0,0))/\σ j.heap.size j V) ⟨ψ _ _,bB⟩ ?_;rintro V ⟨k1,hv⟩;have t:=aD (bT N hv);have Q1:=aD (Q1.o.X hv);have K1:=aD k1;obtain⟨d1,_,l1⟩:=cU k1;obtain⟨c1,c2,c3⟩:=(C V t).1;go_upto_region 3 with(first
  |(go_at_call_of 80 (VV q2 n n);refine(Fi q2 n _ _ Q2).mono ?_;rintro e D ⟨q,rfl,d,b⟩;have i:=aD (bT B2 b);have Q3:=aD d)
  |(go_at_call_of 102 (VV g n n);refine(pO g K n _ _ _ Q1 (S.o.r7.X (bT B t))).mono ?_;rintro e w2 ⟨q2,rfl,d,b⟩;have B2:=aD b;have Q2:=aD d))
 refine jD (λU=>(∀w',σ U.heap.size U w'->(w'.cell? ⟨j.heap.size,0,Y⟩=O (VV g n n)/\w'.cell? ⟨D.heap.size,0,Y⟩=O (VV q n n))/\σ W.heap.size W w')/\Ec U g n (lR rd f.G)/\Ec U q n (oM (YB (lR rd f.G) f.L))) ⟨λw' b=>⟨⟨kG (bT (i.o.alloc i.o.size _) b) l1 (cA K1) 0,(uU b).2.1⟩,bT t (bT (i.o.alloc i.o.size _) b)⟩,Q1.o.X (i.o.alloc i.o.size _),Q3.o.X bB⟩ ?_;rintro U ⟨E,u,I⟩;have E:=aD E;have u:=aD u;have I:=aD I;have lw:w.heap.size+2<j.heap.size:=xR l N.o.size;have aa:w.heap.size+2<D.heap.size:=xR (xR l t.o.size) i.o.size;go_region_held3 (λw'=>w'.cell? ⟨j.heap.size,0,Y⟩=O (VV g n n)/\w'.cell? ⟨D.heap.size,0,Y⟩=O (VV q n n)) (first|exact(E _ (xF _ _).drew).1|exact(E _ F).1|exact(E _ r).1|exact⟨(fC (show j.heap.size≠_ by omega)).trans (E _ r).1.1,(fC (show D.heap.size≠_ by omega)).trans (E _ r).1.2⟩) (first
  |(go_at_call_of 61 (VV g n n);refine(pG g q4 n _ _ _ (u.o.X F) Q4).mono ?_;rintro e w5 ⟨q5,rfl,d,b⟩;have r:=aD (bT F b);have s:=aD (E.o _ r).2;have z:=(cU (C _ s).2).2.1;have y:=(cU (C _ s).2).1;have Q5:=aD d)
  |(go_at_call_of 102 (VV q n n);refine(pO q g n _ _ _ (I.o.X (xF _ _).drew) (u.o.X (xF _ _).drew)).mono ?_;rintro e w4 ⟨q4,rfl,d,b⟩;have F:aC (σ U.heap.size U w4):=((xF U.heap.size U).drew).trans (b.mono (by simp));have Q4:=aD d))
 all_goals
  (try go_wp2)
  have kc:=(C _ s).2;exact pR (p:=4) (w.heap.size+2) _ (by kernel_rfl) Z (by exact cI kc 0 _) Z ⟨q5,Z,GY kc Q5 (bT B s) (by omega)⟩
def zJs(ga:ι)(ah:ν ι)(gl:ι)(lk:ν ι)(n:ι)(w:ω)(ha:Ec w ga n ah)(hl:Ec w gl n lk):
  φ ρ 109 #[T #[VV ga n n],T #[VV gl n n]] w λe w'=>oB w w' n (NV ah lk) e:=by
 obtain⟨k0,k1,k2,bb,(ay:aC _)⟩:=wT w #[VV ga n n] #[VV gl n n] #[M Y 0 0] 83 83 83;have Ra:=aD (ha.X ay);have Rl:=aD (hl.X ay);clear ha hl;go_in;go_upto_region 1 with fail
 generalize hE:((w.alloc (H #[VV ga n n] 83)).alloc (H #[VV gl n n] 83)).alloc (H #[M Y 0 0] 83)=W0 at*;have c:=gE k0 0 _ Z;have f:w.heap.size<W0.heap.size:=by omega
 have ar:∀j,W0.frozen? ⟨w.heap.size,j,Y⟩=A:=λj=>by simp[x4,k0]
 have aI:=aD k0;have d:=gE k1 0 _ Z;have g:w.heap.size+1<W0.heap.size:=by omega
 have au:∀j,W0.frozen? ⟨w.heap.size+1,j,Y⟩=A:=λj=>by simp[x4,k1]
 have aJ:=aD k1;have t:=gE k2 0 _ Z;have J:w.heap.size+2<W0.heap.size:=by omega
 have av:∀j,W0.frozen? ⟨w.heap.size+2,j,Y⟩=A:=λj=>by simp[x4,k2]
 have aK:=aD k2;have bi:w.heap.size+3<=W0.heap.size:=by omega
 clear hE bb k0 k1 k2;go_cut[5]from 6 to 10 λp wx=>∃gx qx,p=.pointer (O ⟨gx,0,Y⟩)/\wx.heap[gx]?=O (H #[VV qx n n] 83 (0,0))/\Ec wx qx n (dY lk (YB lk ah))/\σ W0.heap.size W0 wx/\W0.heap.size<=gx
 case first =>
  clear t ar au av;have aR:=xW W0.heap.size;go_region_held3 (λw'=>w'.cell? ⟨w.heap.size,0,Y⟩=O (VV ga n n)/\w'.cell? ⟨w.heap.size+1,0,Y⟩=O (VV gl n n)) (first|exact⟨c,d⟩|exact⟨(lQ f).trans c,(lQ g).trans d⟩|exact⟨D,E⟩|exact⟨(lQ aj).trans D,(lQ ak).trans E⟩|exact⟨u,x⟩|exact⟨(lQ al).trans u,(lQ am).trans x⟩|exact⟨(fC (by omega)).trans u,(fC (by omega)).trans x⟩) (first
   |(go_at_call_of 61 (VV gl n n);refine(pG gl aS n _ _ _ (Rl.o.X (by first|exact b.o|exact b.o.alloc b.o.size _)) (by first|exact ap.o|exact ap.o.X bB)).mono ?_;rintro e r ⟨bk,rfl,U,q⟩;have l:aC (σ W0.heap.size W0 r):=(by first|exact bT b q|exact bT (b.o.alloc b.o.size _) q);have u:=cK l f c;have x:=cK l g d;have al:=xR f l.o.size;have am:=xR g l.o.size;(try(have aA:r.cell? ⟨k.heap.size,0,Y⟩=O (M Y 0 0)/\r.frozen? ⟨k.heap.size,0,Y⟩=A/\r.heap[k.heap.size]?=O (H #[M Y 0 0] 83 (0,0)):=by first|exact vG q|exact vG (w:=k.drew) q));(try(have B:r.cell? ⟨W0.heap.size,0,Y⟩=O (M Y 0 0)/\r.frozen? ⟨W0.heap.size,0,Y⟩=A/\r.heap[W0.heap.size]?=O (H #[M Y 0 0] 83 (0,0)):=JQ q az));(try have bc:=aA.1);(try have bf:=aA.2.1);(try have bc:=B.1);(try have bf:=B.2.1);have K:=aD U;clear U)
   |(go_at_call_of 102 (VV gl n n);refine(pO gl ga n _ _ _ (Rl.o.X (by first|exact(xF _ _).drew|exact((xF _ _).drew).alloc (by simp) _)) (Ra.o.X (by first|exact(xF _ _).drew|exact((xF _ _).drew).alloc (by simp) _))).mono ?_;rintro e k ⟨aS,rfl,S,y⟩;have b:aC (σ W0.heap.size W0 k):=(by first|exact((xF W0.heap.size W0).drew).trans (y.mono (by simp))|exact(((xF W0.heap.size W0).drew).alloc (by simp) _).trans (y.mono (by simp)));have D:=cK b f c;have E:=cK b g d;have aj:=xR f b.o.size;have ak:=xR g b.o.size;(try(have az:k.cell? ⟨W0.heap.size,0,Y⟩=O (M Y 0 0)/\k.frozen? ⟨W0.heap.size,0,Y⟩=A/\k.heap[W0.heap.size]?=O (H #[M Y 0 0] 83 (0,0)):=by first|exact vG y|exact vG (w:=W0.drew) y));(try have bc:=az.1);(try have bf:=az.2.1);have ap:=aD S;clear S))
  all_goals
   (try go_wp2)
   go_meet
   first|exact ML l K.o|exact xQ l aR K B.2.2|exact xQ l b.o.size K aA.2.2
 case rest =>
 obtain⟨ba,an,rfl,(aY:aC _),(aq:aC _),a,bh⟩:=hcut;have aN:=aD (Ra.o.X a);have bg:=aD (Rl.o.X a);have aX:=aD (bT ay a);have I:=cK a f c;have aO:=cK a g d;have L:=cK a J t;have aP:=QM a f ar;have ac:=xR f a.size;have bd:=aD ((a.block _ f).trans aI);have aQ:=QM a g au;have bj:=xR g a.size;have be:=aD ((a.block _ g).trans aJ);have N:=QM a J av;have i:=xR J a.size;have ao:=aD ((a.block _ J).trans aK);obtain⟨ai,aZ,aH⟩:=cU aY;clear a c d t;go_upto_region 2 with fail
 clear aO;clear aP aQ aZ;go_region_held3 (λw'=>w'.cell? ⟨w.heap.size,0,Y⟩=O (VV ga n n)/\w'.cell? ⟨ba,0,Y⟩=O (VV an n n)) (first|exact⟨I,ai⟩|exact⟨ad,ae⟩|exact⟨af,ag⟩|exact⟨F,G⟩|exact⟨(fC (by omega)).trans F,(fC (by omega)).trans G⟩) (first
  |(go_at_call_of 80 (VV aw n n);refine(Fi aw n _ _ aM).mono ?_;rintro e aW ⟨ax,rfl,ab,aF⟩;have m:aC (σ wc.heap.size wc aW):=bT z aF;have F:=cK m ac I;have G:=cK m aH ai;have bq:=fK m i (N 0);have bn:=cK m i L;have C:=aD ab;clear ab)
  |(go_at_call_of 61 (VV an n n);refine(pG an aT n _ _ _ (aq.o.X s) aL).mono ?_;rintro e aV ⟨aw,rfl,aa,aE⟩;have z:aC (σ wc.heap.size wc aV):=bT s aE;have af:=cK z ac I;have ag:=cK z aH ai;have bp:=fK z i (N 0);have bm:=cK z i L;have aM:=aD aa;clear aa)
  |(go_at_call_of 102 (VV ga n n);refine(pO ga an n _ _ _ (aN.o.X (xF _ _).drew) (aq.o.X (xF _ _).drew)).mono ?_;rintro e aU ⟨aT,rfl,V,aB⟩;have s:aC (σ wc.heap.size wc aU):=((xF wc.heap.size wc).drew).trans (aB.mono (by simp));have ad:=cK s ac I;have ae:=cK s aH ai;have bo:=fK s i (N 0);have bl:=cK s i L;have aL:=aD V;clear V))
 all_goals
  (try go_wp2)
  have KR:=cI ((m.o.block _ i).trans ao) 0 (VV ax n n);refine pR (p:=4) (w.heap.size+2) _ (by kernel_rfl) Z (by exact KR) Z ⟨ax,Z,⟨(C).at_.aG (Below.heap_setCell _ _ _ _ (by have:=C.o.at_;unfold XA at this;intro e;rw[e]at this;rw[(m.o.block _ i).trans ao.o]at this;simp at this)),(C).len,(C).fits⟩,(bT aX m).setCell (p:=⟨w.heap.size+2,0,Y⟩) (by simp) _⟩
theorem zKJ(a:FA)(f:Ex)(F:ι)(rd:ν ι)(gs:ι)(aL:ν ι)(r:ι)(lk:ν ι)(w:ω)(G:Ee w a f)(V:Ec w F a.n rd)(J:Ec w gs a.n aL)(I:Ec w r a.n lk):
  φ ρ 66 #[T (kU a F),T #[VV gs a.n a.n],T #[VV r a.n a.n]] w λe w'=>oB w w' a.n (f.cause aL lk) e:=by
 obtain⟨x,c,s,_⟩:=G.form;obtain⟨n,ev,g,g2,g3,g4,g5,g6,g7,g8,g9⟩:=a;simp only at s V J I;subst s;have S:=aD G;have HS:=aD J;have HL:=aD I;clear G V J I;simp only[XP,kU];go_in;go_upto_region 1 with fail
 refine jD (λW=>(∀w',σ W.heap.size W w'->(w'.cell? ⟨w.heap.size,1,Y⟩=O (VV g n n)/\w'.cell? ⟨w.heap.size+1,0,Y⟩=O (VV gs n n)/\w'.cell? ⟨w.heap.size+2,0,Y⟩=O (VV r n n))/\w'.heap[w.heap.size+3]?=O (H #[M Y 0 0] 83 (0,0)))/\σ w.heap.size w W/\w.heap.size+3<W.heap.size) ?_ ?_
 ·have h:=RW w (kU (FA.mk n (M x n c) g g2 g3 g4 g5 g6 g7 g8 g9) F) #[VV gs n n] #[VV r n n] #[M Y 0 0] 97 83 83 83;exact⟨λw' b=>⟨⟨(kG b (by simp;omega) (cA h.1)) 1,(kG b (by simp_all) (cA h.2.1)) 0,(kG b (by simp) (cA h.2.2.1)) 0⟩,(b.block _ (by simp)).trans h.2.2.2.1⟩,h.2.2.2.2.2,by simp⟩
 rintro W ⟨C,(B:aC _),l⟩;have C:=aD C;obtain⟨c1,c2,c3⟩:=(C W (xF _ _)).1;go_upto_region 2 with(first
  |(go_at_call 109;refine(zJs g _ r _ n _ (S.o.r1.X B) (HL.o.X B)).mono ?_;rintro e i ⟨t,rfl,(Q1:aC _),(j:aC _)⟩))
 refine jD (λU=>(∀w',σ U.heap.size U w'->(w'.cell? ⟨w.heap.size,1,Y⟩=O (VV g n n)/\w'.cell? ⟨w.heap.size+1,0,Y⟩=O (VV gs n n)/\w'.cell? ⟨i.heap.size,0,Y⟩=O (VV t n n))/\σ W.heap.size W w')/\σ i.heap.size i U) ⟨λw' b=>⟨⟨(C w' (bT j (uU b).1)).1.1,(C w' (bT j (uU b).1)).1.2.1,(uU b).2.1⟩,bT j (uU b).1⟩,bB⟩ ?_;rintro U ⟨E,K⟩;have E:=aD E;have Q1:=aD (Q1.o.X K);have N:=aD (bT B (bT j K));have lw:w.heap.size+3<i.heap.size:=xR l j.o.size;clear c1 c2 c3 K;go_region_held3 (λw'=>w'.cell? ⟨w.heap.size,1,Y⟩=O (VV g n n)/\w'.cell? ⟨w.heap.size+1,0,Y⟩=O (VV gs n n)/\w'.cell? ⟨i.heap.size,0,Y⟩=O (VV t n n)) (first|exact(E _ (xF _ _).drew).1|exact(E _ u).1|exact(E _ D).1|exact(E _ L).1|exact(E _ k).1|exact⟨(fC (show w.heap.size≠_ by omega)).trans (E _ k).1.1,(fC (show w.heap.size+1≠_ by omega)).trans (E _ k).1.2.1,(fC (show i.heap.size≠_ by omega)).trans (E _ k).1.2.2⟩) (first
  |(go_at_call_of 61 (VV q2 n n);refine(pG q2 q4 n _ _ _ q Q4).mono ?_;rintro e w5 ⟨q5,rfl,d,b⟩;have k:=aD (bT L b);have m:=aD (E.o _ k).2;have z:=(cU (C _ m).2).2.1;have y:=(cU (C _ m).2).1;have l':=(cU (C _ m).2).2.2;have Q5:=aD d;clear d b)
  |(go_at_call_of 102 (VV q3 n n);refine(pO q3 t n _ _ _ Q3 (Q1.o.X D)).mono ?_;rintro e w4 ⟨q4,rfl,d,b⟩;have L:=aD (bT D b);have q:=aD (q.o.X b);have Q4:=aD d;clear d b)
  |(go_at_call_of 110 (VV gs n n);refine(Fh gs n _ _ (HS.o.X (bT N u))).mono ?_;rintro e w3 ⟨q3,rfl,d,b⟩;have D:=aD (bT u b);have q:=aD (q.o.X b);have Q3:=aD d;clear d b)
  |(go_at_call_of 61 (VV t n n);refine(pG t g n _ _ _ (Q1.o.X (xF _ _).drew) (S.o.r1.X N.o.drew)).mono ?_;rintro e w2 ⟨q2,rfl,d,b⟩;have u:aC (σ U.heap.size U w2):=((xF U.heap.size U).drew).trans (b.mono (by simp));have q:=aD d;clear d b))
 all_goals
  (try go_wp2)
  have kc:=(C _ m).2;exact pR (p:=6) (w.heap.size+3) _ (by kernel_rfl) Z (by exact cI kc 0 _) Z ⟨q5,Z,GY kc Q5 (bT B m) (by omega)⟩
def Tryz.infoRel1:(prog.info? 83).map (λi=>(i.zero,i.size,i.bytes))=O (O (T #[M Y 0 0]),1,24):=by kernel_rfl
structure Es(w:ω)(v:ξ)(n:ι)(ls:ν (ν ι))(gs:ν ι):Prop where
 own:w.ownsRow 0 83 1 v ls.length (gs.map λg=>VV g n n)
 len:gs.length=ls.length
 rel:∀i (h:i<ls.length) (g:ι),gs[i]?=O g->Ec w g n ls[i]
namespace Q
def kFC(a:z Ev):(XD a).length=a.length:=by simp[XD]
def AH(f:Ex)(rd:z U)(w:Wd)(l:z (z Int)):z (z U):=(l.filter λds=>Ah rd (f.WE rd w ds) (f.Eb (WT (XD w.E) ds))).map (f.WE rd w)
theorem kGk(f:Ex)(rd:z U)(w:Wd)(r:z Int)(q:z (z Int)):AH f rd w (r::q)=if Ah rd (f.WE rd w r) (f.Eb (WT (XD w.E) r))then f.WE rd w r::AH f rd w q else AH f rd w q:=by
 grind [AH]
end Q
def Es.X(h:Es w v n ls gs)(a:σ w.heap.size w w'):Es w' v n ls gs :=
 ⟨bH h.own λk e=>a.block k (h.own.lt k e).2,h.len,λi c g b=>(h.rel i c g b).X a⟩
theorem Es.push{f:ξ}{q:ι}{l:ν ι}(h:Es w v n ls gs)(r:Ec w q n l)(p:w'.ownsRow 0 83 1 f (ls.length+1) ((gs.map λg=>VV g n n)++[VV q n n]))(k:(w.alloc o).grownBy w' v.ownBlock):Es w' f n (ls++[l]) (gs++[q]):=by
 have K:∀{g l},Ec w g n l->Ec w' g n l:=λ{g l} b=>by
  refine⟨b.at_.aG ((k.block g (by have:=b.lt;simp;omega) λe=>?_).trans (x5 _ _ _ b.lt)),b.len,b.fits⟩;have d:=b.at_;unfold XA at d;exact gG h.own d (by decide) e.symm
 refine⟨by simpa using p,by simp[h.len],λi m j a=>?_⟩;by_cases hlt:i<ls.length
 ·rw[List.getElem?_append_left (by rw[h.len];exact hlt)]at a;rw[List.getElem_append_left hlt];exact K (h.rel i hlt j a)
 ·have c:i=ls.length:=by simp at m;omega
  subst c;rw[List.getElem?_append_right (by rw[h.len];exact xW _)]at a
  grind
theorem Es.nil(w:ω)(n:ι):Es w (M Y 0 0) n [] []:=⟨by grind [World.ownsRow_nil],Z,λi h=>by simp at h⟩
def Es.AM{a o gd:ι}{p:ν Int}{b:Bool}(h:Es w v n ls gs)(f:Eo w w' a o gd)(j:∀k,v.ownBlock=O k->k≠a/\k≠gd){l:TypeId}{m:Array ξ}(r:YI w a o gb gd bs p b)(s:w.heap[a]?=O (H m l (0,0)))(d:178≠l):Es w' v n ls gs :=
 ⟨bH h.own λk e=>f.block k (j k e).1 (j k e).2,h.len,λi u g c=>by
  have q:=h.rel i u g c;exact⟨q.at_.aG (f.block g (wW q.at_ s d) (wW q.at_ (t:=3) r.digits (by decide))),q.len,q.fits⟩⟩
abbrev CT(w:ω)(b n:U)(x:Option Addr)(c g1 g2 g3 g4 g5 g6 g7 g8 g9 gr:U):Prop:=∀i,w.cell? ⟨b,i,Y⟩=(#[M x n c,M (O ⟨g1,0,Y⟩) n n,M (O ⟨g2,0,Y⟩) n n,M (O ⟨g3,0,Y⟩) n n,M (O ⟨g4,0,Y⟩) n n,M (O ⟨g5,0,Y⟩) n n,M (O ⟨g6,0,Y⟩) n n,M (O ⟨g7,0,Y⟩) n n,M (O ⟨g8,0,Y⟩) n n,M (O ⟨g9,0,Y⟩) n n,M (O ⟨gr,0,Y⟩) n n]:Array ξ)[i]?
def TX(W:ω)(n:U)(l:z U)(p:ξ)(wx:ω):Prop:=∃gx qx,p=.pointer (O ⟨gx,0,Y⟩)/\wx.heap[gx]?=O (H #[VV qx n n] 83 (0,0))/\Ec wx qx n l/\K W.heap.size W wx/\W.heap.size<=gx
def bA(h:K W.heap.size W w):K W.heap.size W (w.alloc o):=h.alloc h.size _
def bR:K W.heap.size W W.drew:=(xF _ _).drew
def sS:K W.heap.size W (W.drew.alloc o):=bA bR
def GA(Wz:ω)(go gro gb gd N1:U)(f:Ex)(rd:z U)(wd:Q.Wd)(n:U)(fin:z (z U))(p:ξ×ω)(m:U):Prop :=
 ∃ds rest done gs,YE p.2 go gro gb gd (XD wd.E) (XR wd.E (XD wd.E)) ds rest/\K Wz.heap.size Wz p.2/\done++AH f rd wd rest=fin/\Es p.2 p.1 n done gs/\(∀k,p.1.ownBlock=O k->N1<=k)/\rest.length=m/\N1<=p.2.heap.size/\∃cg,p.2.heap[go]?=O (H cg 146 (0,0))
theorem zJt(I:α->U->Prop):∃ μ:α->U,∀w,(∃n,I w n)->I w (μ w)/\∀m,I w m->μ w<=m:=by
 have a:∀P:U->Prop,(∃n,P n)->∃n,P n/\∀m,P m->n<=m:=by
  intro P d;obtain⟨n,b⟩:=d
  induction n using Nat.strongRecOn with
  |ind n ih =>
   grind
 have c:∀w,∃n,(∃n,I w n)->I w n/\∀m,I w m->n<=m:=λw=>by
  by_cases h:∃n,I w n
  ·obtain⟨n,b⟩:=a (I w) h;exact⟨n,λ_=>b⟩
  simp_all
 exact⟨λw=>Classical.choose (c w),λw=>Classical.choose_spec (c w)⟩
theorem zJu(a:FA)(f:Ex)(gr:ι)(rd:ν ι)(ev rg:ξ)(s:Q.Wd)(w:ω)(hf:Ee w a f)(hr:Ec w gr a.n rd)(hw:YU w ev rg s)(aO:f.E=s.E)(ah:s.E.length<=64)(ak:(f.cF rd s).length<100000000):
  φ ρ 34 #[T (kU a gr),T #[ev,rg]] w λe w'=>∃v gs,e=.returned v/\Es w' v a.n (f.cF rd s) gs/\K w.heap.size w w':=by
 have ao:a.n=s.E.length:=by rw[<- hf.len,aO]
 obtain⟨ea,ec,rfl,_⟩:=hw.K.form;obtain⟨ra,rc,rfl,_⟩:=hw.g.form;obtain⟨x,c,aM,_⟩:=hf.form;obtain⟨n,ev,g1,g2,g3,g4,g5,g6,g7,g8,g9⟩:=a;simp only at aM hr ao;subst aM;have HF:=aD hf;have HR:=aD hr;have HW:=aD hw;have am:=aD (kFC s.E);have ax:=aD (Jl s.E (XD s.E));have ay:=aD (Jk s.E (XD s.E) (by rw[am.o];exact ah));have bb:aC (∀r,(WT (XD s.E) r).length=n):=λr=>by rw[DY,am.o,ao]
 have av:(XD s.E).length<=64:=by rw[am.o];exact ah
 have an:(XR s.E (XD s.E)).length<10000:=by rw[ax.o];omega
 have aE:=aD ak;have aZ:aC (f.cF rd s=AH f rd s (XH (XR s.E (XD s.E)))):=Z;generalize f.cF rd s=fin at*;clear hf hr hw aO ao ak;simp only[XP,kU];go_in;go_upto_region 1 with fail
 refine jD (λW=>(∀w',K W.heap.size W w'->CT w' w.heap.size n x c g1 g2 g3 g4 g5 g6 g7 g8 g9 gr/\∀i,w'.cell? ⟨w.heap.size+1,i,Y⟩=#[M ea s.E.length ec,M ra s.g.length rc][i]?)/\K w.heap.size w W) ?_ ?_
 ·have h:=nZ w (kU (FA.mk n (M x n c) g1 g2 g3 g4 g5 g6 g7 g8 g9) gr) #[M ea s.E.length ec,M ra s.g.length rc] 97 80;exact⟨λw' d=>⟨kG d (by simp;omega) (cA h.1),kG d (by simp) (cA h.2.1)⟩,h.2.2.2⟩
 rintro W ⟨C,d⟩;obtain⟨c0,_⟩:=C W (xF _ _);have C:=aD C;have B:=aD d;clear d;go_upto_region 3 with(first
  |(go_at_call 59;refine(zMh _ f gr _ _ (HF.o.X B) (HR.o.X B)).mono ?_;rintro e w1 ⟨q1,rfl,z,d⟩;have B1:=aD d;have Q1:=aD z;clear z d))
 clear c0;refine jD (λU=>(∀w',K U.heap.size U w'->CT w' w.heap.size n x c g1 g2 g3 g4 g5 g6 g7 g8 g9 gr/\w'.cell? ⟨w1.heap.size,0,Y⟩=O (VV q1 n n))/\K w1.heap.size w1 U) ⟨λw' d=>⟨(C w' (bT B1 (uU d).1)).1,(uU d).2.1⟩,bB⟩ ?_;rintro U ⟨G,hu⟩;have G:=aD G;have Q1:=aD (Q1.o.X hu);have BC:=aD (bT B1 hu);have BU:=aD (bT B BC);clear hu;go_cut[7]from 16 to 23 λp wx=>TX U n (dY (f.bZ (f.aL rd)) f.J) p wx
 case first =>
  go_region_held3 (λw'=>CT w' w.heap.size n x c g1 g2 g3 g4 g5 g6 g7 g8 g9 gr/\w'.cell? ⟨w1.heap.size,0,Y⟩=O (VV q1 n n)) (first|exact G _ (xF _ _)|exact G _ bR|exact G _ bB|exact G _ sS|exact G _ u.o|exact G _ (bA u)|exact G _ I.o|exact G _ (bA I)|exact G _ (I.o.setCell (by first|exact xW _|exact u.o.size) _)) (first
   |(go_at_call_of 61 (VV q2 n n);refine(pG q2 g3 n _ _ _ (by first|exact Q2.o|exact Q2.o.X bB) (HF.o.r3.X (bT BU (by first|exact u.o|exact bA u)))).mono ?_;rintro e w3 ⟨q3,rfl,z,d⟩;have I:aC (K U.heap.size U w3):=(by first|exact bT u d|exact bT (bA u) d);(first|have D:wP w3 U.heap.size:=JQ d D|have D:wP w3 F.heap.size:=vG d|skip);(try have⟨bc,bf,_⟩:=D);have Q3:=aD z;clear z)
   |(go_at_call 60;refine(V0 _ f q1 _ _ (HF.o.X (bT BU (by first|exact bR|exact sS))) (Q1.o.X (by first|exact bR|exact sS))).mono ?_;rintro e F ⟨q2,rfl,z,d⟩;have u:aC (K U.heap.size U F):=(by first|exact bT bR d|exact bT sS d);(try have D:wP F U.heap.size:=vG (w:=U.drew) d);(try have⟨bc,bf,_⟩:=D);have Q2:=aD z;clear z))
  all_goals
   (try go_wp2)
   go_meet
   first|exact ML I Q3.o|exact xQ I (xW _) Q3 D.2.2|exact xQ I u.o.size Q3 D.2.2
 case rest =>
 obtain⟨g,q,rfl,kx,z,d,_⟩:=hcut;have E:aC (∀w',K wc.heap.size wc w'->CT w' w.heap.size n x c g1 g2 g3 g4 g5 g6 g7 g8 g9 gr/\w'.cell? ⟨w1.heap.size,0,Y⟩=O (VV q1 n n)/\w'.cell? ⟨g,0,Y⟩=O (VV q n n)):=λw' h=>⟨(G _ (bT d h)).1,(G _ (bT d h)).2,kG h (cU kx).2.2 (cA kx) 0⟩
 have HQ:=aD z;have Q1:=aD (Q1.o.X d);have BZ:=aD (bT BU d);obtain⟨_,c1⟩:=C.o _ (bT BC d);clear kx z d G BC BU B B1 C;go_upto_region 4 with fail
 generalize wc=Wz at*;go_upto_region 5 with(first
  |(go_at_call 62;refine(Vy _ _ s.E _ (HW.o.X BZ).K ⟨_,_,_,Z⟩ ah).mono ?_;rintro e F ⟨L,gb,gd,rfl,aU,aR,aS,bi,bg,bh,aW,aX,aH⟩;have B1:=aD aH;have IR:=aD aU;have IB:=aD aR;have ID:=aD aS;clear aU aR aS aH c1))
 refine jD (λU=>∃N,U.heap.size=N/\(∀k,k<Wz.heap.size->k<N)/\(Wz.heap.size<=F.heap.size/\F.heap.size<N)/\(Wz.heap.size<=L/\L<N)/\(Wz.heap.size<=gb/\gb<N)/\(Wz.heap.size<=gd/\gd<N)/\GA Wz F.heap.size L gb gd N f rd s n fin (M Y 0 0,U) (XH (XR s.E (XD s.E))).length) ?_ ?_
 ·have bt:=B1.o.size;have bp:=IR.o.lt;have bq:=IB.o.lt;have br:=ID.o.lt;refine⟨_,Z,?_,?_,?_,?_,?_,_,_,[],[],Jw IR IB ID aW aX ax (ψ _ _) bB,bT B1 bB,by rw[List.nil_append];exact aZ.o.symm,Es.nil _ _,λk e=>by simp[x6]at e,Z,xW _,_,ψ _ _⟩<;>simp<;>omega
 rintro W1 ⟨N1,hN,be,ae,aQ,aP,al,aj⟩;have aj:=aD aj;clear B1 IR IB ID bi bg bh aW aX hN;generalize F.heap.size=go at*;obtain⟨μ,hμ⟩:=zJt (GA Wz go L gb gd N1 f rd s n fin);have aF:=aD hμ;clear hμ;go_loopw[5] (λv wr=>∃v' m,v=v'/\aC (GA Wz go L gb gd N1 f rd s n fin (v',wr) m)) λv wr=>μ (v,wr)
 case atStart=>exact⟨_,_,Z,aj⟩
 case round =>
 obtain⟨vv,m0,ar,h0⟩:=hrel;have ar:=ar.symm;subst ar;obtain⟨hI,aV⟩:=aF.o (vv,wr) ⟨m0,h0⟩;clear h0 aV aj;obtain⟨bd,aw,done,gs,ai,ad,aN,S,au,af,ag,cg,aq⟩:=hI;simp only at ai ad S au af ag aq;have ab:=aD aq;have aa:=aD ai;have y:=aD ad;have FD:=aD aN;have V:=aD S;have ac:=aD au;have HL:=aD af;have bn:done.length<100000000:=by
  have:=aE.o
  grind
 obtain⟨va,vc,bj⟩:=nP S.own;subst bj;clear ai ad aN S au af aq;go_upto_region 6 with(first|(go_at_call 63;refine(F8 go L gb gd _ _ bd aw _ aa an ay).mono ?_;rintro e F ⟨h1,hT⟩;have HT:=aD hT;clear hT;rcases h1 with⟨hr,rfl⟩|⟨r,q',hr,rfl,aY,aK⟩))
 all_goals
  obtain⟨b,aI⟩:=aa.o.XY.XY;have V:=aD (V.o.AM HT (λk e=>⟨by have:=ac.o k e;omega,by have:=ac.o k e;omega⟩) aI ab (by decide));have y:aC (K Wz.heap.size Wz F):=y.o.trans (HT.o.X ae.1 al.1);have FD:=FD.o;rw[hr]at FD
 ·go_wp2;go_ret;simp only[AH,List.filter_nil,List.map_nil,List.append_nil]at FD;rw[<- FD];exact⟨_,gs,Z,V,bT BZ y⟩
 have FD:=aD FD;have HL:aC (q'.length+1=μ (Value.slice va done.length vc,wr)):=by
  simp_all [List.length_cons]
 have ab:aC (∃cg,F.heap[go]?=O (H cg 146 (0,0))):=by
  obtain⟨c',h5,_⟩:=HT.o.shape _ _ _ ab;exact⟨c',h5⟩
 have aa:=aD aY;have aB:=aD aK;have bl:N1<=F.heap.size:=by rw[HT.o.size];exact ag
 have HF:=aD (HF.o.X (bT BZ y));have HR:=aD (HR.o.X (bT BZ y));have Q1:=aD (Q1.o.X y);have HQ:=aD (HQ.o.X y);have G:aC (∀w',K F.heap.size F w'->CT w' w.heap.size n x c g1 g2 g3 g4 g5 g6 g7 g8 g9 gr/\w'.cell? ⟨w1.heap.size,0,Y⟩=O (VV q1 n n)/\w'.cell? ⟨g,0,Y⟩=O (VV q n n)):=λw' h=>E w' (bT y h)
 clear hr aY aK HT aI ag E;go_cut[9]from 27 to 30 λp wx=>TX F n (f.Eb (WT (XD s.E) r)) p wx
 case first =>
  go_region_held3 (λw'=>CT w' w.heap.size n x c g1 g2 g3 g4 g5 g6 g7 g8 g9 gr) (first|exact(G _ (xF _ _)).1|exact(G _ bR).1|exact(G _ bB).1|exact(G _ sS).1|exact(G _ u).1|exact(G _ (bA u)).1|exact(G _ I).1|exact(G _ (bA I)).1|exact(G _ (I.o.setCell (by first|exact xW _|exact u.o.size) _)).1) (first
   |(go_at_call 64;refine(Uk _ f _ (WT (XD s.E) r) _ (HF.o.X (by first|exact u.o|exact bA u)) (by first|exact PL.o|exact PL.o.X bB) (bb r)).mono ?_;rintro e w4 ⟨q3,rfl,z,d⟩;have I:aC (K F.heap.size F w4):=(by first|exact bT u d|exact bT (bA u) d);(first|have D:wP w4 F.heap.size:=JQ d D|have D:wP w4 w3.heap.size:=vG d|skip);(try have⟨bc,bf,_⟩:=D);have Q3:=aD z;clear z)
   |(go_at_call 65;refine(Gd go L gb gd _ _ r q' _ (aa.o.X (by first|exact bR|exact sS)) aB ay av).mono ?_;rintro e w3 ⟨gp,rfl,aT,bo,d⟩;have u:aC (K F.heap.size F w3):=(by first|exact bT bR d|exact bT sS d);(try have D:wP w3 F.heap.size:=vG (w:=F.drew) d);(try have⟨bc,bf,_⟩:=D);have PL:=aD (show YA _ (VV gp (XD s.E).length (XD s.E).length) (WT (XD s.E) r)from by have h9:=aT.rG (XD s.E).length (by rw[DY];exact xW _);rw[DY]at h9;exact h9);clear aT))
  all_goals
   (try go_wp2)
   go_meet
   first|exact ML I Q3.o|exact xQ I (xW _) Q3 D.2.2|exact xQ I u.o.size Q3 D.2.2
 case rest =>
 obtain⟨h,qh,rfl,kx,z,d,_⟩:=hcut;have E:aC (∀w',K wc.heap.size wc w'->(CT w' w.heap.size n x c g1 g2 g3 g4 g5 g6 g7 g8 g9 gr/\w'.cell? ⟨w1.heap.size,0,Y⟩=O (VV q1 n n)/\w'.cell? ⟨g,0,Y⟩=O (VV q n n))/\w'.cell? ⟨h,0,Y⟩=O (VV qh n n)):=λw' l=>⟨G _ (bT d l),kG l (cU kx).2.2 (cA kx) 0⟩
 have QH:=aD z;have BY:=aD d;clear kx z d G aB;go_upto_region 7 with fail
 generalize wc=Wy at*;go_cut[10]from 31 to 36 λp wx=>TX Wy n (f.cause (f.aL rd) (dY (dY (f.bZ (f.aL rd)) f.J) (f.Eb (WT (XD s.E) r)))) p wx
 case first =>
  go_region_held3 (λw'=>(CT w' w.heap.size n x c g1 g2 g3 g4 g5 g6 g7 g8 g9 gr/\w'.cell? ⟨w1.heap.size,0,Y⟩=O (VV q1 n n)/\w'.cell? ⟨g,0,Y⟩=O (VV q n n))/\w'.cell? ⟨h,0,Y⟩=O (VV qh n n)) (first|exact E _ (xF _ _)|exact E _ bR|exact E _ bB|exact E _ sS|exact E _ u.o|exact E _ (bA u)|exact E _ I.o|exact E _ (bA I)|exact E _ (I.o.setCell (by first|exact xW _|exact u.o.size) _)) (first
   |(go_at_call 66;refine(zKJ _ f gr rd q1 _ q2 _ _ (HF.o.X (bT BY (by first|exact u.o|exact bA u))) (HR.o.X (bT BY (by first|exact u.o|exact bA u))) (Q1.o.X (bT BY (by first|exact u.o|exact bA u))) (by first|exact Q2.o|exact Q2.o.X bB)).mono ?_;rintro e w4 ⟨q3,rfl,z,d⟩;have I:aC (K Wy.heap.size Wy w4):=(by first|exact bT u d|exact bT (bA u) d);(first|have D:wP w4 Wy.heap.size:=JQ d D|have D:wP w4 w3.heap.size:=vG d|skip);(try have⟨bc,bf,_⟩:=D);have Q3:=aD z;clear z)
   |(go_at_call_of 61 (VV q n n);refine(pG q qh n _ _ _ (HQ.o.X (bT BY (by first|exact bR|exact sS))) (QH.o.X (by first|exact bR|exact sS))).mono ?_;rintro e w3 ⟨q2,rfl,z,d⟩;have u:aC (K Wy.heap.size Wy w3):=(by first|exact bT bR d|exact bT sS d);(try have D:wP w3 Wy.heap.size:=vG (w:=Wy.drew) d);(try have⟨bc,bf,_⟩:=D);have Q2:=aD z;clear z))
  all_goals
   (try go_wp2)
   go_meet
   first|exact ML I Q3.o|exact xQ I (xW _) Q3 D.2.2|exact xQ I u.o.size Q3 D.2.2
 case rest =>
 obtain⟨j,qj,rfl,kx,z,d,_⟩:=hcut;have QJ:=aD z;have QH:=aD (QH.o.X d);have HF:=aD (HF.o.X (bT BY d));have HR:=aD (HR.o.X (bT BY d));have BY:=aD (bT BY d);obtain⟨⟨c0,_⟩,c1⟩:=E.o _ d;obtain⟨c2,_,l2⟩:=cU kx;clear kx z d E;go_upto_region 8 with fail
 generalize wc=Wx at*;have aA:=aD (kGk f rd s r q');have FD:=FD.o;rw[aA.o]at FD;unfold Ex.WE Ex.cQ at FD;have FD:=aD FD;clear aA;generalize(f.cause (f.aL rd) (dY (dY (f.bZ (f.aL rd)) f.J) (f.Eb (WT (XD s.E) r))))=cs at*;generalize(f.Eb (WT (XD s.E) r))=fb at*;obtain⟨cg,aJ⟩:=ab.o;have az:=aD aJ;clear aJ ab
 cases zc:Ah rd cs fb
 all_goals
  rw[zc]at FD;go_wp2_with(first
   |(go_at_call 67;refine(zGL _ f gr rd qj cs qh fb _ HF HR QJ QH).mono ?_;rintro e w6 ⟨rfl,d⟩;rw[zc];have B6:=aD (bT BY d);have QJ:=aD (QJ.o.X d);have c2:=cK d l2 c2;have bu:=B6.o.size;have ba:aC ((w6.alloc (H #[M (O ⟨qj,0,Y⟩) n n] 83)).ownsRow 0 83 1 (M va done.length vc) done.length (gs.map λg=>M (O ⟨g,0,Y⟩) n n)):=bH V.o.own λk e=>(x5 _ _ _ (by have:=(V.o.own.lt k e).2;omega)).trans (B6.o.block k (V.o.own.lt k e).2);clear d)
   |(at_builtin;refine wD Tryz.infoRel1 underlying98 Z Z (.tmp 41) (.tmp 43) Z Z Z Z Z (by exact ba) (by omega) (x3 _) ?_;intro gn cn w7 ap t aG bk))
 have hR:GA Wz go L gb gd N1 f rd s n fin (M va done.length vc,w6) q'.length:=⟨r,q',done,gs,aa.o.X B6,bT y B6,FD,V.o.X B6,ac,Z,by grind,cg,(B6.o.block go (by omega)).trans az⟩
 rotate_left
 have hO:∀k,k<N1->(Value.slice va done.length vc).ownBlock≠O k:=λk h1 e=>by have:=ac.o k e;omega
 have hK:∀k,k<N1->w7.heap[k]?=F.heap[k]?:=λk h1=>(t.block k (by simp;omega) λe=>hO k h1 e.symm).trans ((x5 _ _ _ (by omega)).trans (B6.o.block k (by omega)))
 have bm:w6.heap.size+1<=w7.heap.size:=by have:=t.size;simpa using this
 have hR:GA Wz go L gb gd N1 f rd s n fin (VV gn (done.length+1) cn,w7) q'.length:=by
  refine⟨r,q',done++[cs],gs++[qj],aa.o.off (hK _ ae.2) (hK _ aQ.2) (hK _ aP.2) (hK _ al.2) (by grind),⟨(t.os.trans B6.o.os).trans y.o.os,(t.tape.trans B6.o.tape).trans y.o.tape,(t.output.trans B6.o.output).trans y.o.output,by grind,λk hk=>(hK k (be k hk)).trans (y.o.block k hk)⟩,by rw[<- FD.o];simp,Es.push (V.o.X B6) QJ ap t,λk e=>?_,Z,by grind,cg,(hK _ ae.2).trans az⟩;simp[x6]at e;subst e
  rcases aG with h4|h4
  ·exact ac _ h4
  ·simp at h4;omega
 all_goals
  go_roundw;exact⟨_,_,Z,hR⟩;exact Nat.lt_of_le_of_lt ((aF _ ⟨_,hR⟩).2 _ hR) (Nat.lt_of_lt_of_eq (Nat.lt_succ_self _) HL)
def zMi(g:ι)(q:XU)(s:ξ)(vs:ν ξ)(I:ν ι)(vr:ξ)(r:ν Int)(G:FA)(f:Ex)(gr C:ι)(cs:ν ι)(w:ω)(hA:Ei w g q s vs I)(hr:YA w vr r)(B:ZX r/\r.length<1000)(ad:∀k,vr.ownBlock=O k->¬Wr g s k)(hf:Ee w G f)(hc:Ec w C G.n cs)(hn:q.y.length<100000000):
  φ ρ 74 #[.pointer (O ⟨g,0,Y⟩),vr,T (kU G gr),T #[VV C G.n G.n]] w λe w'=>e=.returned (.tuple #[])/\∃j m i,Ei w' g ⟨eI q.y r,if q.clash then true else f.bP cs⟩ j m i/\Ek (Wr g s) w w' s j I i:=by
 obtain⟨x,c,ab,_⟩:=hf.form;obtain⟨n,ev,S,U,V,g4,g5,g6,g7,g8,g9⟩:=G;obtain⟨ya,yc,rfl,_⟩:=hr.form;simp only at ab hc;subst ab;simp only[kU];obtain⟨k0,k1,ah,(l:aC _)⟩:=nZ w #[M x n c,VV S n n,VV U n n,VV V n n,VV g4 n n,VV g5 n n,VV g6 n n,VV g7 n n,VV g8 n n,VV g9 n n,VV gr n n] #[VV C n n] 97 83;have al:=aD hA;have p:=aD (hA.X l);have HR:=aD (hr.X l);have HF:=aD (hf.X l);have HC:=aD (hc.X l);have t:=aD ad;generalize ac:(⟨eI q.y r,if q.clash then true else f.bP cs⟩:XU)=fin;have N:=aD ac;clear ac;have lg:=hA.o.lt;have u:=aD hA.o.gU;have ai:w.heap.size+2<=0+w.heap.size+2:=by omega
 clear ai hf hc hr hA ad;go_in;go_upto_region 1 with fail
 generalize hE:(w.alloc (H #[M x n c,VV S n n,VV U n n,VV V n n,VV g4 n n,VV g5 n n,VV g6 n n,VV g7 n n,VV g8 n n,VV g9 n n,VV gr n n] 97)).alloc (H #[VV C n n] 83)=W0 at*;have l0:w.heap.size<W0.heap.size:=by omega
 have l1:w.heap.size+1<W0.heap.size:=by omega
 have K0:=aD k0;have K1:=aD k1;clear hE ah k0 k1
 cases z:q.clash
 ·go_wp2_with(first
   |(go_at_call 82;refine(Hl 0 g _ s q.y vs I r _ p.o.o HR p.o.ok.rise p.o.ok.small B hn (x3 _) λk e=>⟨λe2=>t k e (x2 e2),λe2=>t k e (Or.inr e2)⟩).mono ?_;rintro e d ⟨rfl,j,m,i,D,a⟩;have HO:=aD D;have OF:=aD a;have J:d.cell? ⟨g,1,Y⟩=O (.bool q.clash):=a.c1.trans p.o.clash;rw[z]at J;have F:g<d.heap.size:=D.lt;have KE:aC (∀k,k<W0.heap.size->¬Wr g s k->d.heap[k]?=W0.heap[k]?):=λk h1 h2=>a.block k h1 (λe=>h2 (x2 e)) λe=>h2 (Or.inr e);have b:d.heap[w.heap.size]?=O (H #[M x n c,VV S n n,VV U n n,VV V n n,VV g4 n n,VV g5 n n,VV g6 n n,VV g7 n n,VV g8 n n,VV g9 n n,VV gr n n] 97 (0,0)):=(a.block _ l0 (by omega) λe=>by have:=u.o _ e;omega).trans K0;have E:d.heap[w.heap.size+1]?=O (H #[VV C n n] 83 (0,0)):=(a.block _ l1 (by omega) λe=>by have:=u.o _ e;omega).trans K1;have aj:w.heap.size<d.heap.size:=xR l0 a.size;have ak:w.heap.size+1<d.heap.size:=xR l1 a.size;clear D a;have d0:=gE b 0 _ Z;have d1:=gE b 1 _ Z;have d2:=gE b 2 _ Z;have d3:=gE b 3 _ Z;have d4:=gE b 4 _ Z;have d5:=gE b 5 _ Z;have d6:=gE b 6 _ Z;have d7:=gE b 7 _ Z;have d8:=gE b 8 _ Z;have d9:=gE b 9 _ Z;have e0:=gE E 0 _ Z;clear b E;have ag:=aD (HF.o.wr p KE);have ae:=aD (HC.o.wr p KE);have K:aC (Ei d g ⟨eI q.y r,A⟩ j m i):=⟨HO,J,p.o.ok.eI r B _⟩)
   |(go_at_call 83;refine(Vz (FA.mk n (M x n c) S U V g4 g5 g6 g7 g8 g9) f C cs _ ag ae).mono ?_;rintro e w2 ⟨rfl,aa⟩;have L:=aD aa;have q1:=cK L F J;have am:=xR F L.o.size;have fz:=(K.o.X L).GJ;clear aa))
  go_end0;refine⟨Z,j,m,i,?_,?_⟩
  ·have h5:=(K.o.X L).sY (f.bP cs);rw[<- N.o,z];exact h5
  ·exact(((Ek.refl (Wr g s) w s I).X l).trans OF.o.af λk _ e=>e).X L.o|>.x (XF.oO _ _ _ _) λk _ e=>x2 e
 ·go_wp2_with(first
   |(go_at_call 82;refine(Hl 0 g _ s q.y vs I r _ p.o.o HR p.o.ok.rise p.o.ok.small B hn (x3 _) λk e=>⟨λe2=>t k e (x2 e2),λe2=>t k e (Or.inr e2)⟩).mono ?_;rintro e d ⟨rfl,j,m,i,D,a⟩;have HO:=aD D;have OF:=aD a;have J:d.cell? ⟨g,1,Y⟩=O (.bool q.clash):=a.c1.trans p.o.clash;rw[z]at J;have F:g<d.heap.size:=D.lt;have KE:aC (∀k,k<W0.heap.size->¬Wr g s k->d.heap[k]?=W0.heap[k]?):=λk h1 h2=>a.block k h1 (λe=>h2 (x2 e)) λe=>h2 (Or.inr e);have b:d.heap[w.heap.size]?=O (H #[M x n c,VV S n n,VV U n n,VV V n n,VV g4 n n,VV g5 n n,VV g6 n n,VV g7 n n,VV g8 n n,VV g9 n n,VV gr n n] 97 (0,0)):=(a.block _ l0 (by omega) λe=>by have:=u.o _ e;omega).trans K0;have E:d.heap[w.heap.size+1]?=O (H #[VV C n n] 83 (0,0)):=(a.block _ l1 (by omega) λe=>by have:=u.o _ e;omega).trans K1;have aj:w.heap.size<d.heap.size:=xR l0 a.size;have ak:w.heap.size+1<d.heap.size:=xR l1 a.size;clear D a))
  go_end0;refine⟨Z,j,m,i,?_,?_⟩
  ·rw[<- N.o,z];exact⟨HO,J,p.o.ok.eI r B _⟩
  exact((Ek.refl (Wr g s) w s I).X l).trans OF.o.af λk _ e=>e
