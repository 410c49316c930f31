import Derived.Test.YteekngiepnnmjaaGreatDoorV21
import Derived.Test.YteekngiepnnmjaaGreatDoorV24
set_option linter.all false
set_option maxHeartbeats 0
namespace Go.Proofs.YteekngiepnnmjaaGreatDoor
open Go Go.RowKit Go.Proofs.Tryz P Q R
open scoped Classical
set_option maxRecDepth 1000000
open _root_ renaming List->W,List->σ,beq_iff_eq->ν,decide_eq_true_eq->ι,Int->N,Int->ω,Nat->O,Nat->ξ,if_neg->π,or_false->δ,beq_eq_false_iff_ne->ε
open Go renaming World->ψ,Value->φ,wp_block->ρ,ownsRow_setCell_other->ζ,bodyPost->γ,wpList_append_lies->θ,wp_loop->κ
open Go.Proofs.Tryz renaming prog->τ
open Go.RowKit renaming intOf->η,Below->υ
variable {a b bl bt c5 g g5 gr hi i j k lo m n nt t y z:ξ}{es l:σ J.E}{w w' w1 w5 ws:ψ}{p:J.Pth}{pv v ve:φ}{ons:σ φ}{tg:Bool}{Is:σ (ξ × ξ × ξ)}{ts:σ R.Th}{R0:Ending->ψ->Prop}{e:J.E}{s:J.PS}
open List renaming length->K
open Go.World renaming cell?->V
open Bool renaming true->Y,false->I
open Option renaming some->U,none->S
open Go.Value renaming slice->T
open Go.Obj renaming cells->A
open Bool renaming and_eq_true->xF,or_eq_true->x5,or_eq_false_iff->xk,not_eq_true'->xl,false_eq_true->xr,not_eq_true->xs
open Or renaming inl->xR,inr->xW
open Nat renaming lt_of_lt_of_le->x6,lt_or_ge->xa,zero_le->xm,le_trans->xo
open List renaming range->x7,map_cons->x8,map_nil->x9,getElem_mem->xb,any_eq_true->xd,replicate->xg,mem_singleton->xh,mem_cons->xi,mem_nil_iff->xj,mem_cons_of_mem->xn,getElem?_append_right->xp,length_map->xq,isEmpty_iff->xt,getElem?_append_left->xv,exists_cons_of_ne_nil->xw,append_assoc->xx,length_cons->xy,getElem_cons_zero->xz
open Int renaming toNat_natCast->xc
open Prod renaming fst->xe
open Go.Value renaming ownBlock->xu
namespace Q
namespace Sys
def cQ(X:Sys)(fb:O->O->Prop)(a b:O):Prop:=(X.bZ a b\/X.J a b)\/fb a b
def vV(X:Sys)(fb:O->O->Prop)(a b:O):Prop:=X.cQ fb a b\/Th (X.cQ fb) X.C a b
def base(X:Sys)(fb:O->O->Prop):O->O->Prop:=TC λa b=>X.vV fb a b\/Th X.C (X.vV fb) a b
def cause(X:Sys)(fb:O->O->Prop)(a b:O):Prop:=(X.base fb a b\/X.C a b)\/Th (λa b=>X.aL b a) (X.base fb) a b
structure TMay(X:Sys)(rows fb:ξ->ξ->Prop):Prop where
 circ:∀i,¬X.cause fb i i
 fenc:∀i,¬Th fb (X.cause fb) i i
 back:∀i k,¬(X.rd i k/\X.cause fb i k)
 split:∀i,¬Th (Th X.L X.misses) X.bh i i
 stand:∀i,¬TC (λa b=>rows a b\/X.comm a b/\X.G a b) i i
 agree:∀i,¬Th (λa b=>X.bh a b\/X.misses a b) (X.cause fb) i i
end Sys
def Ao(es:W Ev)(i k:O):Prop:=i<K es/\k<K es/\isRow i (ev es i) k (ev es k)=Y
def fbR(es:W Ev)(fs:W N)(i k:O):Prop:=i<K es/\k<K es/\An i (ev es i) k (ev es k)=Y/\fs.getD i 0<fs.getD k 0
theorem WJ.IF{r:σ ξ}{R:ξ->ξ->Prop}(c:WJ n r R):xV r=Y↔∃i k,R i k:=by
 unfold xV;rw[xd];constructor
 ·rintro⟨x,d,h⟩;obtain⟨i,hi,rfl⟩:=List.getElem_of_mem d;obtain⟨k,o⟩:=Nat.exists_testBit_of_ne_zero (by simpa using h);exact⟨i,k,(c.bit i k).1 (by grind [WS])⟩
 ·rintro⟨i,k,h⟩;have f:=(c.bit i k).2 h
  grind [xb,WS]
section
variable {es:σ Ev}{rs:σ ω}
theorem Mg(q:K es<=64){fs:W N}(o:K fs=K es):WJ (K es) ((WG es).Eb fs) (fbR es fs):=by
 have h:=OK q (λi k=>cD (WG es).N (i:N) (k:N)&&decide (fs.getD i 0<fs.getD k 0)) (vW (WG es).N fs) (λr i=>by unfold vW;rw[o];rfl);have e:(WG es).Eb fs=(x7 (K es)).foldl (vW (WG es).N fs) (WY (K es)):=by grind [Ex.Eb,II]
 rw[e];refine⟨h.1,λa b=>?_⟩;rw[h.2];unfold fbR;constructor
 ·rintro⟨c,d,f⟩;rw[xF,ι]at f
  grind [Ko,qS]
 ·rintro⟨c,d,f,u⟩;refine⟨c,d,?_⟩;rw[xF,ι]
  grind [qS,Ko]
def VR(c:K es<=64)(r:K rs=K es)(ps:W N){fs:W N}(u:K fs=K es):WJ (K es) ((WG es).cause ((WG es).aL ((WG es).D rs)) (dY ((WG es).cQ ((WG es).D rs)) ((WG es).Eb fs))) ((WH es rs ps).cause (fbR es fs)):=by
 have d:WJ (K es) (WG es).C (WH es rs ps).C:=⟨(Km c).1,(Km c).2⟩;have q:WJ (K es) (dY ((WG es).cQ ((WG es).D rs)) ((WG es).Eb fs)) ((WH es rs ps).cQ (fbR es fs)):=
  ((kIW c r ps).or (O:=(WH es rs ps).J) ⟨(Kn c).1,(Kn c).2⟩).or (Mg c u)
 have f:WJ (K es) _ ((WH es rs ps).vV (fbR es fs)):=q.or (q.jU c d);have o:WJ (K es) (NV (WG es).C (dY ((WG es).cQ ((WG es).D rs)) ((WG es).Eb fs))) ((WH es rs ps).base (fbR es fs)):=(f.or (d.jU c f)).cl c;exact(o.or d).or (((QO c r ps).tJ c).jU c o)
theorem kLF(c:K es<=64)(E:K rs=K es)(ps:W ω){fs:W ω}(C:K fs=K es){rd cs:W ξ}(e1:rd=(WG es).D rs)(e2:cs=(WG es).cause ((WG es).aL rd) (dY ((WG es).cQ rd) ((WG es).Eb fs))):
  Ah rd cs ((WG es).Eb fs)=Y/\(WG es).XJ rd (YP es ps) (YB rd (YP es ps))=Y/\Ab cs (YP es ps) (YB rd (YP es ps))=Y↔(WH es rs ps).TMay (Ao es) (fbR es fs):=by
 subst e1;have q:=VR c E ps C;rw[<- e2]at q;have d:WJ (K es) (YP es ps) (WH es rs ps).bh:=kHX c ps;have o:=UR c E ps;have f:WJ (K es) _ (WH es rs ps).misses:=o.jU c d;have x:WJ (K es) (VP ((WG es).D rs) (YP es ps) (YB ((WG es).D rs) (YP es ps))) (WH es rs ps).comm:=((o.tJ c).or d).or f;have F:=xT (q.nM c);have H:=xT (((Mg c C).jU c q).nM c);have J:=xT ((o.and q).IF);have L:=xT (((WJ.jU c (Kw (rs:=rs) c ps) f).jU c d).nM c);have M:=xT ((WJ.or (R:=Ao es) ⟨(Kp c).1,(Kp c).2⟩ (x.and (O:=(WH es rs ps).G) ⟨(wV c).1,(wV c).2⟩)).pJ c);have N:=xT (((d.or f).jU c q).nM c);unfold Ah Ex.XJ Ab Ex.mA;constructor
 ·rintro⟨r,u,B⟩
  split at r
  ·cases r
  rename_i a
  split at u
  ·cases u
  rename_i b;rw[xs,xk]at a;rw[xs]at b;rw[xl]at r u B;exact⟨λi h=>F.1 a.1 ⟨i,h⟩,λi h=>H.1 a.2 ⟨i,h⟩,λi k h=>J.1 r ⟨i,k,h⟩,λi h=>L.1 b ⟨i,h⟩,λi h=>M.1 u ⟨i,h⟩,λi h=>N.1 B ⟨i,h⟩⟩
 ·intro m
  grind [Sys.TMay.circ,Sys.TMay.fenc,Sys.TMay.back,Sys.TMay.split,Sys.TMay.stand,Sys.TMay.agree]
end
def xL(w:Wd):W (W N):=XH (XR w.E (XD w.E))
structure tgtMay(c:Cand)(ds fs:σ ω):Prop where
 cause:Ah c.D (c.F.WE c.D c.wd fs) (c.F.Eb (WT (XD c.wd.E) fs))=Y
 stand:c.F.XJ c.D (YP c.F.E (ZK c.wd ds)) (YB c.D (YP c.F.E (ZK c.wd ds)))=Y
 agree:Ab (c.F.WE c.D c.wd fs) (YP c.F.E (ZK c.wd ds)) (YB c.D (YP c.F.E (ZK c.wd ds)))=Y
theorem BE(f:Ex)(rd:W O)(w:Wd)(x:W O):x∈f.cF rd w↔∃fs∈xL w,Ah rd (f.WE rd w fs) (f.Eb (WT (XD w.E) fs))=Y/\x=f.WE rd w fs:=by
 grind [Ex.cF,xL]
theorem kEP(w:Wd)(f:Ex)(rd:W O)(cs:W (W O))(c:W N)(a:XU)(r:W N):r∈(qB w f rd cs a c).y↔r∈a.y\/f.XJ rd (YP f.E (ZK w c)) (YB rd (YP f.E (ZK w c)))=Y/\∃x∈cs,Ab x (YP f.E (ZK w c)) (YB rd (YP f.E (ZK w c)))=Y/\r=mY w (ZK w c):=by
 unfold qB;rw[show WT (WQ w.E) c=ZK w c from rfl];generalize ZK w c=ps;generalize mY w ps=o;generalize YP f.E ps=d;generalize YB rd d=q
 split
 ·rename_i h;rw[JU (qL o f d q) (λx r=>Ab x d q=Y/\r=o) (λa x r=>?_) r]
  ·simp[h]
  grind [qL,Kj]
 grind
theorem QQ(ts:W VZ)(r:W N):r∈(eU ts).y↔∃c∈DH ts,∃d∈wY c.wd,∃fs∈xL c.wd,tgtMay c d fs/\r=mY c.wd (ZK c.wd d):=by
 unfold eU;rw[JU mS (λc r=>∃d∈wY c.wd,∃fs∈xL c.wd,tgtMay c d fs/\r=mY c.wd (ZK c.wd d)) ?_ r]
 ·simp
 ·intro a c r;have C:r∈(vB c.wd c.F c.D (c.F.cF c.D c.wd) a).y↔r∈a.y\/∃d∈wY c.wd,∃fs∈xL c.wd,tgtMay c d fs/\r=mY c.wd (ZK c.wd d):=by
   unfold vB;rw[show XH (XR c.wd.E (WQ c.wd.E))=wY c.wd from rfl];rw[JU _ _ (λa d r=>kEP c.wd c.F c.D (c.F.cF c.D c.wd) d a r) r];constructor
   ·rintro(q|⟨d,u,q,x,G,o,B⟩)
    ·exact xR q
    ·rw[BE c.F c.D c.wd x]at G;obtain⟨fs,f,H,e⟩:=G;rw[e]at o;exact xW ⟨d,u,fs,f,tgtMay.mk H q o,B⟩
   ·rintro(q|⟨d,u,fs,f,o,B⟩)
    ·exact xR q
    ·exact xW ⟨d,u,o.stand,c.F.WE c.D c.wd fs,(BE c.F c.D c.wd (c.F.WE c.D c.wd fs)).2 ⟨fs,f,o.cause,Z⟩,o.agree,B⟩
  unfold mS
  split
  ·rename_i h;rw[xt]at h;refine⟨xR,λq=>q.elim id λ⟨d,_,fs,f,o,_⟩=>?_⟩;have:=(BE c.F c.D c.wd (c.F.WE c.D c.wd fs)).2 ⟨fs,f,o.cause,Z⟩
   grind
  ·exact C
theorem Mh(ts:W VZ):YX (eU ts).y:=by
 refine LQ _ (λa c h=>?_) _ _ List.Pairwise.nil;unfold mS
 split
 ·exact h
 refine LQ _ (λa d h=>?_) _ _ h
 grind [qB,LQ,qL,NI]
end Q
def zMK{P:Program}{l:W Code}{Q:Exit->Act->ψ->Prop}{a:Act}(h:bC P l (Exit.then (Q .normal) Q) a w):bC P l Q a w:=GE l (λe _ _ c=>by cases e<;>exact c) h
def PQ.len(h:PQ w lo hi z p ve gr ons):∃c d,V w ⟨z,0,S⟩=U (T c (K p.e) d):=by
 obtain⟨q,f,o,_⟩:=h.zt;obtain⟨c,d,rfl⟩:=nP h.eo;exact⟨c,d,f.cell o⟩
theorem zML{cl ct:ξ}{b:ω}{ps:σ J.Pth}{q:ξ×ξ×ξ}{a:Act}{Q:Exit->Act->ψ->Prop}(hQ:nR Q)(hp:PL w Is ps)(h1:Is[k]?=U q)(h2:ps[k]?=U p)(hn:K p.e<1000)(hk:k<m)(ht:t<nt)(c1:V w ⟨bl,k,S⟩=U (hJ q))(c2:V w ⟨bt,t*3,S⟩=U (.int .i64 b))(n1:¬jH bl Is)(n2:¬jH bt Is)(l1:bl<w.heap.size)(l2:bt<w.heap.size)(hf:O2 a (VV bt nt ct) tg g t (VV bl m cl) k)(hN:∀a' w',O2 a' (VV bt nt ct) tg g t (VV bl m cl) k->PL w' Is (ps.set k (p.kT t b))->JX (λx=>jH x Is) w w'->Q .normal a' w'):
  bC τ ((uC f22).drop 0) Q a w:=by
 have ak:k<K ps:=(List.getElem?_eq_some_iff.1 h2).1;have H0:aC (PL w Is (ps.set k (p.fG t b 0))):=by
  grind [J.Pth.rD,List.set_getElem_self,aC]
 have HN:=aD hN;have ap:=lI hk;clear hN hp h2;obtain⟨⟨N,D,E,F,G,H⟩,L,M⟩:=hf;rw[eH N D];simp only[x7,List.range.loop,x8,x9,E,F,G,H,L,M];generalize gA a=f;clear E F G H L M N D;refine aH Z λC r=>?_;go_wp2;apply r.o;refine lH 1 zOS Z λK8 ag=>?_;rw[uC1];refine ρ (κ (λa w'=>∃i,i<=K p.e/\O3 a (VV bt nt ct) tg g t (VV bl m cl) k i/\PL w' Is (ps.set k (p.fG t b i))/\JX (λx=>jH x Is) w w') (λa _=>K p.e-(η (gA a 10)).toNat) ⟨0,xm _,⟨⟨⟨Z,Z,Z,Z,Z,Z⟩,Z,Z⟩,Z⟩,H0,JX.refl _ _⟩ λa w1 hL=>?_);obtain⟨i,hi,hf,(O:aC _),(u:aC _)⟩:=hL;refine fU _ _ _ _ ?_;show bC τ ((uN f22).drop 0) _ a w1;have X:K p.e-(η (gA a 10)).toNat=K p.e-i:=by rw[hf.s10];simp[η]
 rw[X];clear X;have e2:(ps.set k (p.fG t b i))[k]?=U (p.fG t b i):=List.getElem?_set_self ak;obtain⟨ve,gr,ons,hq⟩:=O.get k q _ h1 e2;have W:=hq.len;rw[J.Pth.kE]at W;obtain⟨ea,ec,c3⟩:=W;obtain⟨zb,aa,_⟩:=hq.zt;have lz:=aa.lt;have d1:=(iF (i:=k) (u.block bl l1 n1)).trans c1;have d2:=(iF (i:=t*3) (u.block bt l2 n2)).trans c2;have al:=x6 l1 u.size;have am:=x6 l2 u.size;have ab:=aD d1;have ac:=aD d2;have an:=aD c1;have ao:=aD c2;unfold hJ at d1;have ad:=aD e2;have ae:=aD h1;clear hq aa c1 c2 H0 h1 e2;obtain⟨⟨⟨N,D,E,F,G,H⟩,L,M⟩,B⟩:=hf;rw[eH N D];simp only[x7,List.range.loop,x8,x9,E,F,G,H,L,M,B];generalize gA a=f2;clear E F G H L M B N D;by_cases hlt:i<K p.e
 ·have aj:=lI hlt;refine aH Z λC r=>?_;go_wp2;apply r.o;refine aH Z λC r=>?_;go_wp2;apply r.o;refine lH 2 zOT Z λK2 af=>?_;rw[uN2];refine ρ (fU _ _ _ _ (zMK ?_));show bC τ ((uD f22).drop 0) _ _ w1;refine zOV (λc a d v w h=>hQ c a d v w h) O ae ad (by grind [J.Pth.kE]) (by grind [J.Pth.kE]) hk ht ab ac n1 n2 al am ⟨⟨⟨Z,Z,Z,Z,Z,Z⟩,Z,Z⟩,Z⟩ λa3 w3 f3 h3 x3=>?_;apply af;rw[List.set_set,J.Pth.qU _ _ _ _ hlt]at h3;have H3:=aD h3;have ah:=aD (u.trans x3 λ_ _ e=>e);clear h3 x3;obtain⟨⟨⟨N,D,E,F,G,H⟩,L,M⟩,B⟩:=f3;rw[eH N D];simp only[x7,List.range.loop,x8,x9,E,F,G,H,L,M,B];generalize gA a3=f3;clear E F G H L M B N D;refine aH Z λC r=>?_;go_wp2;apply r.o;refine⟨⟨i+1,hlt,⟨⟨⟨Z,Z,Z,Z,Z,Z⟩,Z,Z⟩,Z⟩,H3,ah⟩,?_⟩;show K p.e-((i:ω)+1).toNat<K p.e-i;omega
 ·have ai:i=K p.e:=by omega
  have aj:=lN hlt;have HE:aC (p.fG t b i=p.kT t b):=by grind [J.Pth.rX]
  clear ai;refine aH Z λC r=>?_;go_wp2;apply r.o;refine aH Z λC _=>?_;go_wp2;apply ag;refine HN _ _ ⟨⟨Z,Z,Z,Z,Z,Z⟩,Z,Z⟩ (by rw[<- HE.o];exact O) u
theorem zLu{cl ct:ξ}{b:ω}{ps:σ J.Pth}{a:Act}{Q:Exit->Act->ψ->Prop}(hQ:nR Q)(hp:PL w Is ps)(hn:∀p∈ps,K p.e<1000)(hm:K ps<100000)(ht:t<nt)(c1:∀(k:ξ) (q:ξ×ξ×ξ),Is[k]?=U q->V w ⟨bl,k,S⟩=U (hJ q))(c2:V w ⟨bt,t*3,S⟩=U (.int .i64 b))(n1:¬jH bl Is)(n2:¬jH bt Is)(l1:bl<w.heap.size)(l2:bt<w.heap.size)(hf:O1 a (VV bt nt ct) tg g t)(H:gA a 8=VV bl (K ps) cl)(hN:∀a' w',O1 a' (VV bt nt ct) tg g t->gA a' 8=VV bl (K ps) cl->PL w' Is (ps.map λp=>p.kT t b)->JX (λx=>jH x Is) w w'->bC τ ((uB f22).drop 3) Q a' w'):
  bC τ ((uB f22).drop 1) Q a w:=by
 have ag:=hp.len;have H0:aC (PL w Is (J.iH ps t b 0)):=by grind [aC,J.qN]
 have HN:=aD hN;clear hN hp;obtain⟨L,C,D,E,F,G⟩:=hf;rw[eH L C];simp only[x7,List.range.loop,x8,x9,D,E,F,G,H];generalize gA a=f;clear D E F G H L C;refine aH Z (λB r=>?_);go_wp2;apply r.o;refine lH 2 zOQ Z (λK8 ac=>?_);rw[uB2];refine ρ (κ (λa w'=>∃k,k<=K ps/\O2 a (VV bt nt ct) tg g t (VV bl (K ps) cl) k/\PL w' Is (J.iH ps t b k)/\JX (λx=>jH x Is) w w') (λa _=>K ps-(η (gA a 9)).toNat) ⟨0,xm _,⟨⟨Z,Z,Z,Z,Z,Z⟩,Z,Z⟩,H0,JX.refl _ _⟩ (λa w1 hL=>?_));obtain⟨k,hk,hf,X,aa⟩:=hL;refine fU _ _ _ _ ?_;show bC τ ((uM f22).drop 0) _ a w1;have W:K ps-(η (gA a 9)).toNat=K ps-k:=by rw[hf.s9];simp[η]
 rw[W];clear W H0;have N:=aD X;have u:=aD aa;clear X aa;obtain⟨⟨L,C,D,E,F,G⟩,H,M⟩:=hf;rw[eH L C];simp only[x7,List.range.loop,x8,x9,D,E,F,G,H,M];generalize gA a=f2;clear D E F G H M L C;by_cases hlt:k<K ps
 ·have af:=lI hlt;have O:k<K Is:=by omega
  refine aH Z (λB r=>?_);go_wp2;apply r.o;refine aH Z (λB r=>?_);go_wp2;apply r.o;refine lH 2 zOR Z (λK2 ab=>?_);rw[uM2];refine ρ (fU _ _ _ _ ?_);show bC τ ((uC f22).drop 0) _ _ w1;refine zML (q:=Is[k]) (λc a d v w h=>hQ c a d v w h) N (by simp[O]) (J.sV ps t b k hlt) (hn _ (xb hlt)) hlt ht ((iF (i:=k) (u.block bl l1 n1)).trans (c1 k _ (by simp[O]))) ((iF (i:=t*3) (u.block bt l2 n2)).trans c2) n1 n2 (x6 l1 u.size) (x6 l2 u.size) ⟨⟨Z,Z,Z,Z,Z,Z⟩,Z,Z⟩ (λa3 w3 f3 h3 x3=>?_);apply ab;rw[J.qY ps t b k hlt]at h3;have H3:=aD h3;have ad:=aD (u.trans x3 (λ_ _ e=>e));clear h3 x3;obtain⟨⟨L,C,D,E,F,G⟩,H,M⟩:=f3;rw[eH L C];simp only[x7,List.range.loop,x8,x9,D,E,F,G,H,M];generalize gA a3=f3;clear D E F G H M L C;refine aH Z (λB r=>?_);go_wp2;apply r.o;refine⟨⟨k+1,hlt,⟨⟨Z,Z,Z,Z,Z,Z⟩,Z,Z⟩,H3,ad⟩,?_⟩;show K ps-((k:ω)+1).toNat<K ps-k;omega
 ·have ae:k=K ps:=by omega
  have af:=lN hlt;have HE:aC (J.iH ps t b k=ps.map λp=>p.kT t b):=by grind [aC,J.tG]
  clear ae;refine aH Z (λB r=>?_);go_wp2;apply r.o;refine aH Z (λB _=>?_);go_wp2;apply ac;exact HN _ _ ⟨Z,Z,Z,Z,Z,Z⟩ Z (by rw[<- HE.o];exact N) u
abbrev Str:=W (O×O×O)
def TL(w:ψ):W (φ×Str)->W (W J.Pth)->Prop
 |[],[]=>True
 |x::r,ps::pss=>(∃B,w.ownsRow B 114 1 x.1 (K ps) (x.2.map hJ))/\PL w x.2 ps/\TL w r pss
 |_,_=>False
def InT(k:O)(Us:W (φ×Str)):Prop:=∃x∈Us,x.1.ownBlock=U k\/jH k x.2
def TL.len{w:ψ}:∀{c:σ (φ×Str)} {pss:σ (σ J.Pth)},TL w c pss->K c=K pss
 |[],[],_=>Z
 |_::_,_::_,h=>by simp[TL.len h.2.2]
 |[],_::_,h=>h.elim
 |_::_,[],h=>h.elim
def TL.lt{w:ψ}{k:ξ}:∀{f:σ (φ×Str)} {pss:σ (σ J.Pth)},TL w f pss->InT k f->k<w.heap.size
 |[],[],_,⟨x,d,_⟩=>by simp at d
 |a::r,_::_,h,⟨x,d,c⟩=>by
  rcases List.mem_cons.1 d with rfl|d
  ·obtain⟨B,o⟩:=h.1
   rcases c with c|c
   ·exact(o.lt k c).2
   ·exact h.2.1.lt c
  ·exact TL.lt h.2.2 ⟨x,d,c⟩
 |[],_::_,h,_=>h.elim
 |_::_,[],h,_=>h.elim
def TL.keep{w w':ψ}(d:w.heap.size<=w'.heap.size):∀{c:σ (φ×Str)} {pss:σ (σ J.Pth)},TL w c pss->(∀k,InT k c->w'.heap[k]?=w.heap[k]?)->TL w' c pss
 |[],[],_,_=>trivial
 |a::r,_::_,h,hk=>by
  obtain⟨⟨B,q⟩,f,o⟩:=h;exact⟨⟨B,bH q λk e=>hk k ⟨a,by simp,xR e⟩⟩,f.keep (λk e=>hk k ⟨a,by simp,xW e⟩) d,TL.keep d o λk ⟨x,u,e⟩=>hk k ⟨x,xn _ u,e⟩⟩
 |[],_::_,h,_=>h.elim
 |_::_,[],h,_=>h.elim
def TL.bD{w:ψ}{u:φ}{Is:Str}{ps:σ J.Pth}{B:ξ}(f:w.ownsRow B 114 1 u (K ps) (Is.map hJ))(d:PL w Is ps):∀{c:σ (φ×Str)} {pss:σ (σ J.Pth)},TL w c pss->TL w (c++[(u,Is)]) (pss++[ps])
 |[],[],_=>⟨⟨B,f⟩,d,trivial⟩
 |a::r,_::_,h=>⟨h.1,h.2.1,TL.bD f d h.2.2⟩
 |[],_::_,h=>h.elim
 |_::_,[],h=>h.elim
def TL.get{w:ψ}:∀{c:σ (φ×Str)} {pss:σ (σ J.Pth)},TL w c pss->∀(t:ξ) (x:φ×Str) (ps:σ J.Pth),c[t]?=U x->pss[t]?=U ps->(∃B,w.ownsRow B 114 1 x.1 (K ps) (x.2.map hJ))/\PL w x.2 ps
 |[],[],_,t,x,ps,h,_=>by simp at h
 |a::r,b::_,h,t,x,ps,h1,h2=>by
  cases t with
  |zero=>simp at h1 h2;subst h1 h2;exact⟨h.1,h.2.1⟩
  |succ t=>exact TL.get h.2.2 t x ps (by simpa using h1) (by simpa using h2)
 |[],_::_,h,_,_,_,_,_=>h.elim
 |_::_,[],h,_,_,_,_,_=>h.elim
def XQ:φ:=T S 0 0
structure OI(w:ψ)(g:ξ)(tg:Bool)(pss:σ (σ J.Pth))(pv:φ)(Us:σ (φ×Str))(w':ψ):Prop where
 g0:w.heap.size<=g
 blk:Blk w' g (jw tg pv XQ XQ XQ XQ XQ XQ I) 109
 row:w'.ownsRow (g+1) 110 1 pv (K pss) (Us.map xe)
 tl:TL w' Us pss
 up:∀k,InT k Us->g<k
 no:∀b,pv.ownBlock=U b->¬InT b Us
 be:υ w.heap.size w w'
theorem OI.next{u wc:ψ}{pss:σ (σ J.Pth)}{H:σ (φ×Str)}{Is:Str}{ps:σ J.Pth}(h:OI w g tg pss pv H w1)(C:υ w1.heap.size w1 u)(hr:u.ownsRow w1.heap.size 114 1 v (K ps) (Is.map hJ))(N:∀q∈Is,w1.heap.size<=q.1)(aa:∀b,v.ownBlock=U b->¬jH b Is)(c:JX (λx=>jH x Is) u wc)(hp:PL wc Is ps)(f:w5.ownsRow (g+1) 110 1 (VV g5 (K pss+1) c5) (K pss+1) (H.map xe++[v]))(o:(wc.alloc (A #[v] 110)).grownBy w5 pv.ownBlock)(F:pv.ownBlock=U g5\/g5=wc.heap.size+1):
  OI w g tg (pss++[ps]) (VV g5 (K pss+1) c5) (H++[(v,Is)]) (w5.setCell ⟨g,1,S⟩ (VV g5 (K pss+1) c5)):=by
 have s1:=C.size;have s2:=c.size;have E:υ wc.heap.size wc (wc.alloc (A #[v] 110)):=bB;have sa:(wc.alloc (A #[v] 110)).heap.size=wc.heap.size+1:=by simp
 have s3:=o.size;rw[sa]at s3;have lg:g<w1.heap.size:=h.blk.lt;have pb:∀b,pv.ownBlock=U b->g<b/\b<w1.heap.size:=λb G=>by have:=h.row.lt b G;omega
 have X:∀k,jH k Is->w1.heap.size<=k:=λk ⟨q,q1,q2,_⟩=>xo (N q q1) q2
 have vb:∀b,v.ownBlock=U b->w1.heap.size<=b/\b<u.heap.size:=λb G=>hr.lt b G
 have kb:∀k,k<u.heap.size->¬jH k Is->pv.ownBlock≠U k->w5.heap[k]?=u.heap[k]?:=λk r k2 O =>
  (o.block k (by omega) λe=>O e.symm).trans ((E.block k (by omega)).trans (c.block k r k2))
 have kc:∀k,k<wc.heap.size->pv.ownBlock≠U k->w5.heap[k]?=wc.heap[k]?:=λk r O=>(o.block k (by omega) λe=>O e.symm).trans (E.block k r)
 have r:∀k,k<w1.heap.size->pv.ownBlock≠U k->w5.heap[k]?=w1.heap[k]?:=λk L M=>(kb k (by omega) λe=>by grind M).trans (C.block k L)
 have D:∀k,k≠g->(w5.setCell ⟨g,1,S⟩ (VV g5 (K pss+1) c5)).heap[k]?=w5.heap[k]?:=λk d=>Below.heap_setCell _ _ _ _ d
 refine⟨h.g0,?_,?_,?_,?_,?_,?_⟩
 ·have:=(h.blk.keep (r g lg λe=>by grind)).set 1 (VV g5 (K pss+1) c5);exact this
 ·rw[List.length_append,List.map_append];exact ζ f λe=>by have:=(f.lt g e).1;omega _
 ·refine TL.bD (B:=w1.heap.size) ?_ ?_ (TL.keep (by simp;omega) h.tl λk d=>?_)
  ·grind [bH]
  ·refine hp.keep (λk e=>?_) (by simp;omega)
   grind [PL.lt]
  ·have a1:=h.up k d;have a2:=h.tl.lt d
   grind [OI.no]
 ·rintro k ⟨x,c,d⟩
  rcases List.mem_append.1 c with c|c
  ·exact h.up k ⟨x,c,d⟩
  grind
 ·intro b G;have e0:g5=b:=Option.some.inj G;subst e0;rintro⟨x,c,d⟩
  rcases List.mem_append.1 c with c|c
  ·rcases F with e|e
   ·exact h.no _ e ⟨x,c,d⟩
   ·have:=h.tl.lt ⟨x,c,d⟩;omega
  ·simp at c;subst c
   rcases F with e|e
   ·grind
   grind [PL.lt]
 ·have s0:=h.be.size;have W:=h.g0;refine⟨?_,?_,?_,by simp;omega,λk d=>?_⟩
  ·exact(o.os.trans (E.os.trans (c.os.trans C.os))).trans h.be.os
  ·exact(o.tape.trans (E.tape.trans (c.tape.trans C.tape))).trans h.be.tape
  ·exact(o.output.trans (E.output.trans (c.output.trans C.output))).trans h.be.output
  ·rw[D k (by omega),r k (by omega) λe=>by grind];exact h.be.block k d
namespace J
def gT(th:R.Th)(j:O):W Pth:=(paths th.body 4 []).map λp=>p.kT (j:N) th.block
def pss(ts:W R.Th):W (W Pth):=ts.mapIdx λj th=>gT th j
theorem fQ(ts:W R.Th):(pss ts).length=K ts:=by simp[pss]
theorem sR(ts:W R.Th)(t:O)(h:t<K ts):(pss ts).take (t+1)=(pss ts).take t++[gT ts[t] t]:=by
 grind [List.take_succ_eq_append_getElem,pss]
def iC(l:W Tree)(d:fitL l)(f:(WV l).toNat<42):∀(n:O) (r:W N),(∀v∈r,0<=v/\v<4)->n+K r<1000->∀p∈paths l n r,K p.e<=82/\K p.g=4
 |0,r,hr,hn,p,c=>by
  simp[paths]at c;subst c;have:=fO l _ 0 (eF hr (by omega)) d;exact⟨by have:=this.e;simp only[PS.kO];omega,this.rl⟩
 |n+1,r,hr,hn,p,c=>by
  unfold paths at c
  split at c
  ·obtain⟨v,o,c⟩:=List.mem_flatMap.1 c;have q:=List.mem_range.1 o;exact iC l d f n (r++[(v:N)]) (λx u=>(List.mem_append.1 u).elim (hr x) λe=>by simp at e;omega) (by simp;omega) p c
  ·simp at c;subst c;have:=fO l _ 0 (eF hr (by omega)) d;exact⟨by have:=this.e;simp only[PS.kO];omega,this.rl⟩
structure ThOk(th:R.Th):Prop where
 fit:fitL th.body
 sz:(WV th.body).toNat<42
 rd:WF isRd th.body<=4
 s8:(WV th.body).toNat<=40
end J
structure ThW(w:ψ)(B0 bt:ξ)(ts:σ R.Th):Prop where
 lt:bt<w.heap.size
 n:K ts<=4
 at_:∀(t:ξ) (h:t<K ts),J.ThOk ts[t]/\∃u F,V w ⟨bt,t*3,S⟩=U (.int .i64 ts[t].block)/\V w ⟨bt,t*3+1,S⟩=U u/\WX w B0 u ts[t].body F
def Tryz.infoPs:(prog.info? 110).map (λi=>(i.zero,i.size,i.bytes))=U (U (T S 0 0),1,24):=by kernel_rfl
theorem zIb{w0:ψ}{B0 ct:ξ}{a:Act}(hT:ThW w B0 bt ts)(hO:OI w g tg [] XQ [] w0)(hf:O1 a (VV bt (K ts) ct) tg g 0)(hN:∀a' w' pv N,O1 a' (VV bt (K ts) ct) tg g (K ts)->OI w g tg (J.pss ts) pv N w'->bC τ ((uF f22).drop 4) (γ τ f22 R0) a' w'):
  bC τ ((uF f22).drop 3) (γ τ f22 R0) a w0:=by
 obtain⟨i0,hi,aE,aF,aG⟩:=uV Tryz.infoPs;have HN:=aD hN;have aN:=hT.n;have HT:=aD hT;clear hN hT;refine lH 3 Mf Z λK8 ar=>?_;rw[uF3];refine ρ (κ (λa w'=>∃t pv N,t<=K ts/\O1 a (VV bt (K ts) ct) tg g t/\OI w g tg ((J.pss ts).take t) pv N w') (λa _=>K ts-(η (gA a 7)).toNat) ⟨0,XQ,[],xm _,hf,by simpa using hO⟩ λa w1 hL=>?_);clear hf hO;obtain⟨t,pv,N,ht,hf,hO⟩:=hL;refine fU _ _ _ _ ?_;show bC τ ((uL f22).drop 0) _ a w1;have am:K ts-(η (gA a 7)).toNat=K ts-t:=by rw[hf.s7];simp[η]
 rw[am];clear am;have HO:=aD hO;clear hO;obtain⟨sz,df,s0,s1,s6,s7⟩:=hf;rw[eH sz df];simp only[x7,List.range.loop,x8,x9,s0,s1,s6,s7];generalize gA a=f;clear s0 s1 s6 s7 sz df;by_cases hlt:t<K ts
 ·have aA:=lI hlt;obtain⟨C,u,F,H,W,q3⟩:=HT.at_ t hlt;have M:=HT.lt;have E:=HO.be;have az:=aD (J.sR ts t hlt);have an:((J.pss ts).take t).length=t:=by grind [J.fQ]
  have ay:=aD (cK E M H);have ap:=aD (zKb q3 C.fit C.sz bt (t*3) 4 [] w1 (T S 0 0) (λk hk=>E.block k (q3.gV k hk).2) (cK E M W) (x6 M E.size) (xR ⟨Z,_,_,Z⟩) (XT.nil _ _) (by simp) (by have:=C.rd;simp;omega) (by simp));have ax:aC (∀p∈J.paths ts[t].body 4 [],K p.e<1000):=λp hp=>by have:=(J.iC _ C.fit C.sz 4 [] (by simp) (by simp) p hp).1;omega
  have ad:aC (0<(J.paths ts[t].body 4 []).length/\(J.paths ts[t].body 4 []).length<100000):=⟨J.fT _ _ _,by grind [J.dH]⟩;have ac:aC (J.gT ts[t] t=(J.paths ts[t].body 4 []).map λp=>p.kT (t:ω) ts[t].block):=Z;clear H W q3 C;generalize J.paths ts[t].body 4 []=ps at*;generalize ts[t].block=bk at*;generalize J.gT ts[t] t=aI at*;have ao:bt<w1.heap.size:=x6 M E.size;refine aH Z λB c=>?_;go_wp2;apply c.o;refine aH Z λB c=>?_;go_wp2;apply c.o;refine lH 2 zOP Z λK2 aq=>?_;rw[uL2];refine ρ (fU _ _ _ _ ?_);show bC τ ((uB f22).drop 0) _ _ w1;refine aH Z λB c=>?_;go_wp2_with(first|(go_at_call 39;refine ap.mono ?_;rintro e wb ⟨v,Is,rfl,p1,p2,p3,p4,p5⟩;have ab:=aD p1;have aw:=aD p2;have L:=aD p3;have ai:=aD p4;have x:=aD p5;clear p1 p2 p3 p4 p5));apply c.o;obtain⟨bl,cl,rfl,aj⟩:∃bl cl,v=VV bl (K ps) cl/\∀j u,(Is.map hJ)[j]?=U u->V wb ⟨bl,j,S⟩=U u:=by
   rcases SlC.own ab ad.1 with⟨_,e2,_⟩|⟨b,aJ,e1,e2,_⟩
   ·have:=ad.1;omega
   grind
  have n2:¬jH bt Is:=λ⟨q,H,W,_⟩=>by have:=L.o q H;omega
  refine zLu (b:=bk) (Is:=Is) (λ_ _ d _ _ h=>by cases d<;>exact h) aw ax ad.2 hlt (λk q hq=>aj k _ (by simp[hq])) (cK x ao ay) (ai bl Z) n2 (ab.lt bl Z).2 (x6 ao x.size) ⟨Z,Z,Z,Z,Z,Z⟩ Z λa3 D f3 g3 h3 x3=>?_;rw[<- ac.o]at h3;have ak:K aI=K ps:=by rw[ac.o];simp
  have av:aC (∀(g5 c5:ξ) (w5:ψ),w5.ownsRow (g+1) 110 1 (VV g5 (t+1) c5) (t+1) (N.map xe++[VV bl (K ps) cl])->(D.alloc (A #[VV bl (K ps) cl] 110)).grownBy w5 pv.ownBlock->pv.ownBlock=U g5\/g5=D.heap.size+1->OI w g tg ((J.pss ts).take (t+1)) (VV g5 (t+1) c5) (N++[(VV bl (K ps) cl,Is)]) (w5.setCell ⟨g,1,S⟩ (VV g5 (t+1) c5))):=λg5 c5 w5 H W q3=>by
   have hr:=ab.o;rw[<- ak]at hr H W⊢;have:=OI.next (g5:=g5) (c5:=c5) (w5:=w5) HO x hr L ai x3 h3;rw[an,<- az.o]at this;exact this H W q3
  have ae:aC ((D.alloc (A #[VV bl (K ps) cl] 110)).ownsRow (g+1) 110 1 pv t (N.map xe)):=by
   have hr:=HO.row;rw[an]at hr;refine qO (w:=D) (bH (w:=wb) (qO hr x) λk e=>?_) bB;have kl:=hr.lt k e;exact x3.block k (x6 kl.2 x.size) λ⟨q,H,W,_⟩=>by have:=L.o q H;omega
  have lg:=HO.blk.lt;have aa:aC (Blk D g (jw tg pv XQ XQ XQ XQ XQ XQ I) 109):=(HO.blk.X x).keep (x3.block g (x6 lg x.size) λ⟨q,H,W,_⟩=>by have:=L.o q H;omega);have cg:=aa.cell (i:=1) (v:=pv) Z;have fg:=aa.free 1;have af:=aa.lt;have aM:g+1<=D.heap.size+1:=by omega
  obtain⟨oa,oc,rfl⟩:=nP ae;have ah:aC (∀b,xu (T oa t oc)=U b->b≠g):=λb hb e=>by have:=(ae.lt b hb).1;omega
  have ag:aC (υ D.heap.size D (D.alloc (A #[VV bl (K ps) cl] 110))):=bB;obtain⟨sz,df,s0,s1,s6,s7⟩:=f3;clear aj n2 h3 x3 ak ac;rw[eH sz df];simp only[x7,List.range.loop,x8,x9,s0,s1,s6,s7,g3];generalize gA a3=f3;clear s0 s1 s6 s7 sz df g3;refine aH Z λB c=>?_;go_wp2_with(first|(at_builtin;refine θ _ Z (.tmp 73) (.tmp 75) 106 Z (g+1) 110 i0 (T S 0 0) 1 24 underlying106 hi aE aF aG Z (by decide) _ t (N.map xe) Z ae ⟨D.heap.size,0,S⟩ 1 1 [VV bl (K ps) cl] Z Z (λj u hu=>by rw[tK,Nat.zero_add];exact(Blk.new D [VV bl (K ps) cl] 110).cell hu) (by simp;rfl) (by decide) (by unfold maxLen;omega) (by omega) (by simp;omega) (D.heap.size+1) (by simp) ?_;intro g5 c5 w5 G r O al;have au:=aD (av.o g5 c5 w5 G r O);have aK:=(r.cell_far ⟨g,1,S⟩ (by simp;omega) λe=>ah g e.symm Z).trans (cK ag af cg);have aL:=(r.frozen_far ⟨g,1,S⟩ (by simp;omega) λe=>ah g e.symm Z).trans (fK ag af fg);have aO:g<w5.heap.size:=(by have:=r.size;simp at this;omega);clear G r O al));apply c.o;clear cg fg af;refine aH Z λB c=>?_;go_wp2;apply c.o;apply aq;refine aH Z λB c=>?_;go_wp2;apply c.o;refine⟨⟨t+1,_,_,hlt,⟨Z,Z,Z,Z,Z,Z⟩,au⟩,?_⟩;show K ts-((t:ω)+1).toNat<K ts-t;omega
 ·have aB:t=K ts:=by omega
  have aA:¬(t:ω)<K ts:=by omega
  have HE:aC ((J.pss ts).take t=J.pss ts):=by grind [aC,J.fQ]
  rw[HE.o]at HO;subst aB;refine aH Z λB c=>?_;go_wp2;apply c.o;refine aH Z λB _=>?_;go_wp2;apply ar;exact HN _ _ _ _ ⟨Z,Z,Z,Z,Z,Z⟩ HO
theorem PQ.pat(h:PQ w lo hi z p ve gr ons)(B:g<lo):PAt w g z p:=by
 obtain⟨C,c,d,f⟩:=h.zt;have z0:=h.z0;have r:=h.r0;refine⟨c.lt,by omega,⟨ve,ons,c.cell d,⟨?_,h.ol,λi hi=>(h.on i hi).of (λx _ e=>by omega)⟩,λe=>by have:=(h.eo.lt g e).1;omega⟩,⟨_,c.cell f,?_,λe=>by have o:gr=g:=Option.some.inj e;omega⟩⟩
 ·rcases Nat.eq_zero_or_pos (K p.e)with e|e
  ·refine xR ⟨h.e0 e,e,?_⟩;have:=h.eo.1
   simp_all
  ·exact SlC.own h.eo e
 ·rw[h.rl];exact xW ⟨gr,4,Z,λj u q=>h.rb.cell q,h.rb.lt,Nat.le_refl _,by simp[WU,h.rl],by omega⟩
theorem OI.ps{pss:σ (σ J.Pth)}{c:σ (φ×Str)}(h:OI w g tg pss pv c w')(M:0<K pss)(r:∀ps∈pss,0<K ps):Au w' g pv pss:=by
 rcases SlC.own h.row M with⟨_,e,_⟩|⟨b,u,e1,e2,e3,_⟩
 ·omega
 have W:=(h.row.lt b (by rw[e1];rfl)).1;refine⟨b,u,e1,e3,by omega,λt ps F=>?_⟩;have o:t<K c:=by grind
 have L:c[t]?=U c[t]:=by simp[o]
 obtain⟨⟨B,N⟩,O⟩:=h.tl.get t c[t] ps L F;refine⟨c[t].1,e2 t _ (by simp[o]),?_⟩;have C:=r ps (List.mem_of_getElem? F)
 rcases SlC.own N C with⟨_,e,_⟩|⟨D,q,E,H,f3,_⟩
 ·omega
 have f:∀k,c[t].1.ownBlock=U k\/jH k c[t].2->g<k:=λk x=>h.up k ⟨c[t],xb o,x⟩
 refine⟨D,q,E,f3,by have:=f D (xR (by rw[E];rfl));omega,λk p x=>?_⟩;have d:k<c[t].2.length:=by grind
 obtain⟨ve,gr,ons,r⟩:=O.get k c[t].2[k] p (by simp[d]) x;refine⟨c[t].2[k].2.2,H k _ (by simp[d,hJ]),r.pat ?_⟩;have z0:=r.z0;have G:=r.z1;have X:=f c[t].2[k].2.2 (xW ⟨_,xb d,z0,G⟩)
 rcases xa g c[t].2[k].1 with e|e
 ·exact e
 ·have:=f g (xW ⟨_,xb d,e,by omega⟩);omega
namespace J
def fw(v:N):E:=⟨-1, -1,⟨#[119]⟩,v,0,⟨#[119,101,97,107]⟩,⟨#[]⟩,I,0,[]⟩
def fws(n:O):W E:=(x7 n).map λ(v:O)=>fw (v:N)
theorem tO(n:O):fws (n+1)=fws n++[fw (n:N)]:=by simp[fws,List.range_succ]
theorem cP(n:O):(fws n).length=n:=by simp[fws]
def W0:Wd:=⟨fws 3,[],[]⟩
end J
theorem Au.x{pss:σ (σ J.Pth)}(h:Au w g v pss)(c:JX (λk=>k=g) w w'):Au w' g v pss:=by
 have cl:∀b i,b<w.heap.size->b≠g->V w' ⟨b,i,S⟩=V w ⟨b,i,S⟩:=λb i o q=>iF (c.block b o q)
 obtain⟨b,f,e1,e2,e3,o⟩:=h;refine⟨b,f,e1,x6 e2 c.size,e3,λt ps M=>?_⟩;obtain⟨u,u1,C,d,G,D,f3,q⟩:=o t ps M;refine⟨u,(cl b t e2 e3).trans u1,C,d,G,x6 D c.size,f3,λk p L=>?_⟩;obtain⟨z,z1,⟨r,B,⟨ve,ons,N,O,E⟩,⟨vr,W,X,F⟩⟩⟩:=q k p L;refine⟨z,(cl C k D f3).trans z1,⟨x6 r c.size,B,⟨ve,ons,(cl z 0 r B).trans N,O.x c (λb H e=>E (by grind)) λ_ _ e=>e,E⟩,⟨vr,(cl z 1 r B).trans W,X.x c λb H e=>F (by grind),F⟩⟩⟩
namespace J
structure Evs(n:ξ)(s:PS):Prop where
 val:∀e∈s.e,0<=e.val/\e.val<4
 on:∀e∈s.e,K e.on<=2^n+1/\∀x∈e.on,0<=x/\x<(K s.e:ω)
 hg:∀i,∀x∈s.hang.getD i [],0<=x/\x<(K s.e:ω)
 wy:∀x∈s.way,0<=x/\x<(K s.e:ω)
 st:∀i,i<K s.e->isStep (ev s.e i)=Y->i+1<K s.e/\(ev s.e (i+1)).loc=(ev s.e i).loc
section
variable {n:ξ}{s:PS}{x:R.Lh}
def Evs.up(h:Evs n s):Evs (n+1) s:=by
 have:=BK n;have:=SL n;exact⟨h.val,λe c=>⟨by have:=(h.on e c).1;omega,(h.on e c).2⟩,h.hg,h.wy,h.st⟩
def Evs.aM(h:Evs n s)(a:ω):∀x∈s.aM a,0<=x/\x<(K s.e:ω):=by
 unfold PS.aM
 split
 ·exact h.hg _
 ·simp
theorem Evs.put(h:Evs n s)(C:∀e∈l,0<=e.val/\e.val<4)(B:∀e∈l,K e.on<=2^(n+1)+1/\∀x∈e.on,0<=x/\x<((K s.e+K l:ξ):ω))(E:∀i,i<K l->isStep (ev l i)=Y->i+1<K l/\(ev l (i+1)).loc=(ev l i).loc):Evs (n+1) (s.put l):=by
 have D:=h.up;have lt:∀{x:ω},0<=x/\x<(K s.e:ω)->0<=x/\x<((K s.e+K l:ξ):ω):=λk=>⟨k.1,by omega⟩
 have f:(s.put l).e.length=K s.e+K l:=by simp[PS.put]
 refine⟨λe d=>(List.mem_append.1 d).elim (h.val e) (C e),λe d=>?_,λi x q=>by rw[f];exact lt (h.hg i x q),λx q=>by rw[f];exact lt (h.wy x q),λi hi o=>?_⟩
 ·rw[f]
  rcases List.mem_append.1 d with d|d
  ·grind [Evs.on]
  ·exact B e d
 ·rw[f]at hi⊢;simp only[PS.put]at o⊢;have r:∀{j:ξ},j<K s.e->ev (s.e++l) j=ev s.e j:=λc=>by unfold ev;simp[xv c]
  have u:∀{j:ξ},K s.e<=j->ev (s.e++l) j=ev l (j-K s.e):=λc=>by unfold ev;simp[xp c]
  by_cases c:i<K s.e
  ·grind [Evs.st]
  grind
def Evs.aO(h:Evs n s){r v:ω}{l:σ ω}(c:∀x∈l,0<=x/\x<(K s.e:ω)):Evs n (s.aO r v l):=by
 refine⟨h.val,h.on,λi=>?_,h.wy,h.st⟩;simp only[PS.aO];rw[LZ];split
 ·exact c
 ·exact h.hg i
def Evs.take(h:Evs n s):Evs n s.take:=⟨h.val,h.on,h.hg,h.wy,h.st⟩
def Evs.cM(h:Evs n s):Evs (n+1) (s.cM x):=
 have c:=h.up
 ⟨c.val,c.on,c.hg,λy d=>(List.mem_append.1 d).elim (c.wy y) (c.aM x.a y),c.st⟩
def RT(h:isStep e=I):∀i,i<[e].length->isStep (ev [e] i)=Y->i+1<[e].length/\(ev [e] (i+1)).loc=(ev [e] i).loc:=λi hi c=>by
 have:i=0:=by simp at hi;omega
 subst this;rw[show ev [e] 0=e from rfl,h]at c;cases c
def RO{f:E}(h:isStep f=I)(d:f.loc=e.loc):∀i,i<[e,f].length->isStep (ev [e,f] i)=Y->i+1<[e,f].length/\(ev [e,f] (i+1)).loc=(ev [e,f] i).loc:=λi hi c=>by
 have:i=0\/i=1:=by simp at hi;omega
 rcases this with rfl|rfl
 ·exact⟨by simp,d⟩
 ·rw[show ev [e,f] 1=f from rfl,h]at c;cases c
theorem Evs.step(h:Evs n s)(q:Bnd n s)(B:Fit x):Evs (n+1) (s.step x):=by
 have p:=BK n;have r:=q.head;have L:=q.aM x.a;have M:=q.wy;have C:=q.val B.a0 B.a1;have N:=SL n;have E:=h.aM x.a;have F:=h.aM x.b;have d:∀{m:ξ} {y:ω},0<=y/\y<(K s.e:ω)->0<=y/\y<((K s.e+m:ξ):ω):=λk=>⟨k.1,by omega⟩
 have u:K s.way<=2^(n+1)+1:=by omega
 have o:∀{m:ξ},0<m->0<=(K s.e:ω)/\(K s.e:ω)<((K s.e+m:ξ):ω):=λJ=>by omega
 have f:∀y∈s.aM x.a++s.way,0<=y/\y<(K s.e:ω):=λy c=>(List.mem_append.1 c).elim (E y) (h.wy y)
 unfold PS.step
 split
 ·refine(h.take.put (l:=[rE x (s.D.headD 0) I s.way]) ?_ ?_ ?_).aO ?_
  ·simp only[xh];rintro e rfl;exact r
  ·simp only[xh];rintro e rfl;exact⟨u,λy c=>d (h.wy y c)⟩
  ·exact RT (by simp[isStep,rE])
  grind [PS.put,PS.take]
 split
 ·refine(h.take.put (l:=[rE x (s.D.headD 0) Y s.way,wE x ((s.val x.a+s.D.headD 0)%4) Y (s.aM x.a++s.way++[(K s.e:ω)])]) ?_ ?_ ?_).aO ?_
  ·simp only[xi,xj,δ];rintro e (rfl|rfl)
   ·exact r
   ·exact⟨Int.emod_nonneg _ (by decide),Int.emod_lt_of_pos _ (by decide)⟩
  ·simp only[xi,xj,δ];rintro e (rfl|rfl)
   ·exact⟨u,λy c=>d (h.wy y c)⟩
   ·refine⟨by simp[wE];omega,λy c=>?_⟩
    rcases List.mem_append.1 c with c|c
    ·exact d (f y c)
    ·simp at c;subst c;exact o (by simp)
  ·exact RO (by simp[isStep,wE,kR]) Z
  grind [PS.put,PS.take]
 split
 ·refine(h.take.put (l:=[rE x (s.D.headD 0) Y s.way,wE x (s.val x.a) Y (s.aM x.a++s.way)]) ?_ ?_ ?_).aO ?_
  ·simp only[xi,xj,δ];rintro e (rfl|rfl)
   ·exact r
   ·exact C
  ·simp only[xi,xj,δ];rintro e (rfl|rfl)
   ·exact⟨u,λy c=>d (h.wy y c)⟩
   ·exact⟨by simp[wE];omega,λy c=>d (f y c)⟩
  ·exact RO (by simp[isStep,wE,kR]) Z
  grind [PS.put,PS.take]
 split
 ·refine h.put ?_ ?_ (RT (by simp[isStep,wE]))
  ·simp[wE];exact C
  ·simp only[xh];rintro e rfl;exact⟨by simp[wE];omega,λy c=>d (f y c)⟩
 split
 ·refine h.put ?_ ?_ (RT (by simp[isStep,fE]))
  ·simp[fE]
  ·simp[fE]
 split
 ·have:=h.put (l:=[aE s.round,lE s.round]) (by simp[aE,lE]) (by simp[aE,lE]) (RO (by simp[isStep,lE]) Z);exact⟨this.val,this.on,this.hg,this.wy,this.st⟩
 split
 ·have H:∀v l,(∀y∈l,0<=y/\y<(K s.e:ω))->Evs (n+1) (s.aO x.VX v l):=λv l G=>h.up.aO G
  grind [PS.set]
 ·exact h.up
def Evs.mono(h:Evs n s)(c:n<=m):Evs m s:=by
 induction c with
 |refl=>exact h
 |step _ ih=>exact ih.up
end
theorem kMV(l:W Tree):∀(s:PS) (n:O),Evs n s->Bnd n s->fitL l->Evs (n+(WV l).toNat) (doL s l):=by
 induction l using WF.induct with
 |case1=>intro s n h _ _;rw[bW];exact h.mono (by omega)
 |case2 x b r h1 h2 =>
  intro s n h d c;have o:=c;rw[AL]at c;have q:=(gO (λ_=>Y) b).1;have u:=(gO (λ_=>Y) r).1;have e:WV (⟨x,b⟩::r)=1+WV b+WV r:=by grind [WV,mZ,jP]
  rw[nT,e];have f:Evs (n+(1+(WV b).toNat)) (eV s ⟨x,b⟩)/\Bnd (n+(1+(WV b).toNat)) (eV s ⟨x,b⟩):=by
   unfold eV
   split
   ·split
    ·exact⟨h.cM.mono (by omega),d.cM.mono (by omega)⟩
    ·have B:=h1 (s.cM x) (n+1) h.cM d.cM c.1.2;have C:=fO b (s.cM x) (n+1) d.cM c.1.2
     grind
   ·exact⟨(h.step d c.1.1).mono (by omega),(d.step c.1.1).mono (by omega)⟩
  refine(h2 _ _ f.1 f.2 c.2).mono ?_;unfold WV at*;omega
theorem kKU(r:W N):Evs 0 (PS.aY r):=by
 refine⟨by simp[PS.aY],by simp[PS.aY],λi=>?_,by simp[PS.aY],by simp[PS.aY]⟩
 grind [PS.aY]
theorem Mi(l:W Tree):∀(n:O) (r:W N),(∀v∈r,0<=v/\v<4)->∀p∈paths l n r,∃d,(∀v∈d,0<=v/\v<4)/\K d<=n+K r/\p=(doL (PS.aY d) l).kO
 |0,r,hr,p,c=>by
  grind [paths]
 |n+1,r,hr,p,c=>by
  unfold paths at c
  split at c
  ·obtain⟨v,f,c⟩:=List.mem_flatMap.1 c;have o:=List.mem_range.1 f;obtain⟨d,u,B,C⟩:=Mi l n (r++[(v:N)]) (λx q=>(List.mem_append.1 q).elim (hr x) λe=>by simp at e;omega) p c
   grind
  grind
end J
namespace J
structure WI(j:ξ)(W:Wd):Prop where
 e3:3<=K W.es
 en:K W.es<=3+80*j
 bl:K W.base=j
 rn:K W.g=4*j
 rng:∀x∈W.g,0<=x/\x<4
 vals:∀e∈W.es,0<=e.val/\e.val<4
 half:∀i,i<K W.es->isStep (ev W.es i)=Y->i+1<K W.es/\(ev W.es (i+1)).loc=(ev W.es i).loc/\(ev W.es (i+1)).t=(ev W.es i).t
 onk:∀i,3<=i->i<K W.es->OnOk W.es W.base i
structure PI(j:ξ)(p:Pth):Prop where
 e:K p.e<=80
 r:K p.g=4
 rng:∀x∈p.g,0<=x/\x<4
 vals:∀e∈p.e,0<=e.val/\e.val<4
 half:∀i,i<K p.e->isStep (ev p.e i)=Y->i+1<K p.e/\(ev p.e (i+1)).loc=(ev p.e i).loc
 t:∀e∈p.e,e.t=(j:ω)
 on:∀e∈p.e,K e.on<10000000000000/\∀x∈e.on,0<=x/\x<(K p.e:ω)
theorem Mj{th:R.Th}(h:ThOk th){p:Pth}(G:p∈gT th j):PI j p:=by
 obtain⟨q,J,rfl⟩:=List.mem_map.1 G;obtain⟨D,E,F,rfl⟩:=Mi th.body 4 [] (by simp) q J;have o:K D<1000:=by simp at F;omega
 have B:=fO th.body _ 0 (eF E o) h.fit;have C:=kMV th.body _ 0 (kKU D) (eF E o) h.fit;have L:=h.s8;have H:2^(0+(WV th.body).toNat)<=2^40:=Nat.pow_le_pow_right (by omega) (by omega);generalize doL (PS.aY D) th.body=s at*;refine⟨?_,B.rl,λx c=>?_,λe c=>?_,λi hi d=>?_,λe c=>?_,λe c=>?_⟩
 ·have:=B.e;simp only[Pth.kT,PS.kO,xq];omega
 ·obtain⟨i,hi,rfl⟩:=List.mem_iff_getElem.1 c;have:=B.rg i
  grind [Pth.kT,PS.kO]
 ·obtain⟨f,u,rfl⟩:=List.mem_map.1 c;exact C.val f u
 ·simp only[Pth.kT,PS.kO,xq]at hi d⊢;have e1:∀{i:O},i<K s.e->ev (s.e.map λe=>(e.bM (j:N)).bY th.block) i=((ev s.e i).bM (j:N)).bY th.block:=λhi=>by
   unfold ev;simp[hi]
  rw[e1 hi]at d⊢;have:=C.st i hi d;rw[e1 this.1];exact this
 ·obtain⟨f,u,rfl⟩:=List.mem_map.1 c;rfl
 ·obtain⟨f,u,rfl⟩:=List.mem_map.1 c;have:=C.on f u;refine⟨by show K f.on<10000000000000;omega,λx c=>?_⟩;simp only[Pth.kT,PS.kO,xq];exact this.2 x c
theorem zV(h:i<K es):ev es i∈es:=by grind [J.fF]
theorem EF(h:i<K es):ev (es++l) i=ev es i:=by unfold ev;simp[xv h]
theorem BJ(h:K es<=i):ev (es++l) i=ev l (i-K es):=by unfold ev;simp[xp h]
theorem WI.add{W:Wd}{p:Pth}(h:WI j W)(d:PI j p):WI (j+1) (W.add p):=by
 have B:(W.add p).es.length=K W.es+K p.e:=by simp[Wd.add]
 have e3:=h.e3;have H:=d.e;refine⟨by omega,by rw[B];have:=h.en;omega,by simp[Wd.add,h.bl],by simp[Wd.add,h.rn,d.r];omega,λx u=>(List.mem_append.1 u).elim (h.rng x) (d.rng x),λe E=>(List.mem_append.1 E).elim (h.vals e) (d.vals e),λi hi f=>?_,λi D hi=>?_⟩
 ·rw[B]at hi⊢;simp only[Wd.add]at f⊢;by_cases c:i<K W.es
  ·grind [EF,WI.half]
  ·rw[BJ (by omega)]at f⊢;have:=d.half _ (by omega) f;rw[BJ (by omega),show i+1-K W.es=i-K W.es+1 by omega];exact⟨by omega,this.2,by rw[d.t _ (zV this.1),d.t _ (zV (show i-K W.es<K p.e by omega))]⟩
 ·have C:=B;rw[B]at hi;by_cases c:i<K W.es
  ·have o:=h.onk i D c;have e1:ev (W.add p).es i=ev W.es i:=by grind [Wd.add,EF]
   have e2:(W.add p).base.getD (ev W.es i).t.toNat 0=W.base.getD (ev W.es i).t.toNat 0:=by
    grind [Wd.add,OnOk.tl]
   refine⟨by rw[e1];exact o.t0,by grind [OnOk.tl,Wd.add],by rw[e1,e2];exact o.b0,by rw[e1];exact o.len,λx u=>?_⟩;rw[e1]at u⊢;rw[e2,C];have:=o.on x u;omega
  ·have q:i-K W.es<K p.e:=by omega
   have e1:ev (W.add p).es i=ev p.e (i-K W.es):=by grind [Wd.add,BJ]
   have G:=d.t _ (zV q);have F:=d.on _ (zV q);have e2:(W.add p).base.getD j 0=(K W.es:ω):=by
    simp only[Wd.add,List.getD_eq_getElem?_getD];rw[xp (by rw[h.bl];exact Nat.le_refl _)];simp[h.bl]
   refine⟨by grind,by grind,by grind,by grind,λx u=>?_⟩
   grind
def SX:WI 0 W0:=by
 refine⟨by simp[W0,cP],by simp[W0,cP],Z,Z,by simp[W0],λe f=>?_,λi hi d=>?_,λi o hi=>?_⟩
 ·simp only[W0,fws,List.mem_map]at f;obtain⟨v,_,rfl⟩:=f;simp[fw]
 ·have c:i<3:=by simpa[W0,cP]using hi
  have:i=0\/i=1\/i=2:=by omega
  rcases this with rfl|rfl|rfl<;>simp[W0,fws,ev,isStep,fw,x7,List.range.loop]at d
 ·have c:i<3:=by simpa[W0,cP]using hi
  omega
theorem RV{ts:σ R.Th}(o:∀t∈ts,ThOk t):∀(d j:O) (W f:Wd),j+d=K ts->WI j W->Reach ((pss ts).drop j) W f->WI (K ts) f
 |0,j,W,f,hj,h,c=>by
  rw[List.drop_eq_nil_of_le (by rw[fQ];omega)]at c;rw[show f=W from c,<- show j=K ts by omega];exact h
 |d+1,j,W,f,hj,h,c=>by
  have r:j<K ts:=by omega
  rw[List.drop_eq_getElem_cons (by grind [fQ])]at c;obtain⟨p,q,c⟩:=c;have e:(pss ts)[j]'(by grind)=gT ts[j] j:=by simp[pss]
  rw[e]at q;exact RV o d (j+1) (W.add p) f (by omega) (h.add (Mj (o _ (xb r)) q)) c
def zD(d:∀t∈ts,ThOk t)(r:0<K ts)(u:K ts<=4):∀c,Reach (pss ts) W0 c->FinOk (4*K ts+3) c:=λc o=>by
 have h:=RV d (K ts) 0 W0 c (by omega) SX (by simpa using o);have f:=h.en;refine⟨by omega,h.e3,by rw[h.rn],by omega,by rw[h.rn];omega,h.rng,λi hi=>h.vals _ (zV hi),λi hi q=>(h.half i hi q).1,h.onk⟩
def Ar(k:N):W UInt8:=if k=0 then kR else if k=1 then kW else if k=2 then kF else if k=3 then kA else kL
def kNO:W UInt8:=[114,101,108,97,120,101,100]
def ordW(o:N):W UInt8:=if o=0 then cN else if o=1 then kNO else if o=2 then nO else if o=3 then nF else if o=4 then uA else mI
structure ER(j:E)(q:Ev):Prop where
 k0:0<=q.kind/\q.kind<=4
 k:j.kind.toList=Ar q.kind
 t:j.t=q.j
 b:q.j≠-1->j.b=q.block
 v:q.kind<=1->j.loc=q.z/\j.val=q.value/\j.half=q.step
 o:q.kind<=2->(0<=q.q/\q.q<=5)/\j.ord.toList=ordW q.q
 o5:q.kind<=1->q.q<=4
 oe:3<=q.kind->j.ord.toList=[]
 s:q.kind<=2->(j.scope.toList==sDev)=(q.scope==1)
 r:3<=q.kind->j.round=q.u
section
variable {j:E}{q:Q.Ev}
theorem eR(h:ER j q):(j.kind.toList==kR)=(q.kind==0)/\(j.kind.toList==kW)=(q.kind==1)/\(j.kind.toList==kF)=(q.kind==2)/\(j.kind.toList==kA)=(q.kind==3)/\(j.kind.toList==kL)=(q.kind==4):=by
 rw[h.k];obtain⟨d,f⟩:=h.k0;have c:q.kind=0\/q.kind=1\/q.kind=2\/q.kind=3\/q.kind=4:=by omega
 rcases c with e|e|e|e|e<;>rw[e]<;>decide
theorem wU(h:ER j q)(c:q.kind<=2):(j.ord.toList==cN)=(q.q==0)/\(j.ord.toList==nF||j.ord.toList==uA)=P.rel q.q/\(j.ord.toList==nO||j.ord.toList==uA)=acq q.q/\(j.ord.toList==mI)=(q.q==5)/\j.ord.toList.isEmpty=I:=by
 obtain⟨⟨f,r⟩,d⟩:=h.o c;rw[d];have c:q.q=0\/q.q=1\/q.q=2\/q.q=3\/q.q=4\/q.q=5:=by omega
 rcases c with e|e|e|e|e|e<;>rw[e]<;>decide
theorem kMl(h:ER j q):(j.ord.toList==cN||j.ord.toList.isEmpty)=!Q.cE q:=by
 unfold cE;by_cases hk:q.kind<=2
 ·obtain⟨e1,_,_,_,e5⟩:=wU h hk;rw[e1,e5];have a:(q.kind != 3)=Y:=by simp;omega
  grind
 ·rw[h.oe (by omega)];have:=h.k0
  grind
end
structure WR(jes:σ E)(qes:σ Ev):Prop where
 len:K jes=K qes
 er:∀i,i<K qes->ER (ev jes i) (Q.ev qes i)
 th:∀i,i<K qes->(i<3↔(Q.ev qes i).j=-1)
 fk:∀i,i<3->(Q.ev qes i).kind=1/\(Q.ev qes i).z=(i:ω)
 three:3<=K qes
section
variable {jes:σ E}{qes:σ Q.Ev}
theorem WR.C(h:WR jes qes)(hi:i<K qes)(d:k<K qes):J.aQ jes i k=ZJ (i:ω) (Q.ev qes i) (k:ω) (Q.ev qes k):=by
 unfold J.aQ ZJ;have f:=h.th i hi;have o:=h.th k d;rw[(h.er i hi).t,(h.er k d).t];by_cases c:i<3
 ·grind
 ·rw[π c]
  grind
theorem WR.G(h:WR jes qes)(hi:i<K qes)(f:k<K qes):J.aJ jes i k=Q.aJ (Q.ev qes i) (Q.ev qes k):=by
 unfold J.aJ Q.aJ;have B:=h.th i hi;have C:=h.th k f;have u:=h.er i hi;have x:=h.er k f;rw[u.t,x.t];by_cases c:i<3
 ·grind
 by_cases d:k<3
 ·grind
 have o:(Q.ev qes i).j≠-1:=λe=>c (B.2 e)
 have r:(Q.ev qes k).j≠-1:=λe=>d (C.2 e)
 rw[π (by omega)];have e1:((Q.ev qes i).j == -1)=I:=by simpa using o
 have e2:((Q.ev qes k).j == -1)=I:=by simpa using r
 rw[e1,e2];simp only[Bool.or_self,xr,if_false]
 cases hq:(Q.ev qes i).j==(Q.ev qes k).j
 ·simp only[xr,if_false];have p:plain (J.ev jes i) (J.ev jes k)=(!Q.cE (Q.ev qes i)||!Q.cE (Q.ev qes k)):=by
   grind [kMl,plain]
  rw[p]
  cases o1:cE (Q.ev qes i)<;>cases o2:cE (Q.ev qes k)<;>simp
  have D:∀{q:Ev},cE q=Y->0<=q.kind/\q.kind<=4->q.kind<=2:=λ{q} e f=>by
   grind [cE]
  grind [qJ,ER.b,ER.s,ER.k0]
 ·simp
theorem WR.J(h:WR jes qes)(hi:i<K qes)(c:k<K qes):J.eP (J.ev jes i) (J.ev jes k)=Ag (Q.ev qes i) (Q.ev qes k):=by
 have d:=h.er i hi
 grind [WR.er,J.eP,Ag,eR,WR.fk,WR.th,ER.b,ER.r]
theorem WR.sc(h:WR jes qes)(hi:i<K qes)(c:k<K qes):J.sc jes i k=An i (Q.ev qes i) k (Q.ev qes k):=by
 have d:=h.er i hi;have f:=h.er k c;unfold J.sc An;rw[h.G hi c,(eR d).2.2.1,(eR f).2.2.1]
 grind [WZ,wU]
end
end J
namespace J
def PS.ext(s:PS)(x:σ ω):PS:={s with D:=s.D++x}
def PS.iW(s:PS)(x:σ ω):PS:={s with D:=x}
theorem TD(s:PS)(x:Lh)(l:W N)(h:isRd x=I\/s.D≠[]):(s.ext l).step x=(s.step x).ext l:=by
 by_cases c:isRd x=Y
 ·have f:s.D≠[]:=h.elim λe=>by grind id;obtain⟨v,r,e⟩:=xw f;simp only[isRd,x5]at c;unfold PS.step
  grind [PS.load,PS.take,PS.put,PS.aO,PS.ext,PS.add,PS.val,PS.aM,PS.swap]
 ·have d:isRd x=I:=by simpa using c
  simp only[isRd,xk]at d;unfold PS.step;rw[d.1,d.2.1,d.2.2];simp only[xr,if_false]
  split
  ·rfl
  split
  ·rfl
  split
  ·rfl
  split
  ·unfold PS.set;have e1:∀a,(s.ext l).val a=s.val a:=λ_=>Z
   have e2:∀a,(s.ext l).aM a=s.aM a:=λ_=>Z
   simp only[e1,e2]
   split
   ·rfl
   split
   ·rfl
   split
   ·rfl
   split<;>rfl
  ·rfl
theorem xS{x:Lh}(h:s.short=Y):(s.step x).short=Y:=by
 grind [GV,AW,PS.take]
theorem Mk(l:W Tree):∀(s:PS),s.short=Y->(doL s l).short=Y:=by
 induction l using WF.induct with
 |case1=>intro s h;rw[bW];exact h
 |case2 x b r h1 h2 =>
  intro s h;rw[nT];refine h2 _ ?_;unfold eV
  split
  ·split
   ·exact h
   ·exact h1 _ h
  ·exact xS h
theorem Ml{x:Lh}(h:(s.step x).short=I):isRd x=I\/s.D≠[]:=by
 grind [AW,PS.take]
def kMN(s:PS)(l:W N)(a:N):(s.ext l).val a=s.val a:=rfl
theorem VU(l:W Tree):∀(s:PS) (x:W N),(doL s l).short=I->doL (s.ext x) l=(doL s l).ext x:=by
 induction l using WF.induct with
 |case1=>intro s x _;rw[bW,bW]
 |case2 y b r h1 h2 =>
  intro s x h;rw[nT]at h;rw[nT,nT];have f:(eV s ⟨y,b⟩).short=I:=by
   grind [eV,Mk]
  have e:eV (s.ext x) ⟨y,b⟩=(eV s ⟨y,b⟩).ext x:=by
   unfold eV at f⊢;rw[kMN]
   split
   ·rename_i c;rw[if_pos c]at f
    split
    ·rfl
    ·rename_i d;rw[π d]at f;exact h1 (s.cM y) x f
   simp_all [π,TD,Ml]
  rw[e];exact h2 _ x h
theorem kKc(s:PS)(x:Lh)(h:(s.step x).short=I):∃u,s.D=u++(s.step x).D/\(s.iW u).step x=(s.step x).iW []:=by
 cases c:isRd x with
 |false =>
  refine⟨[],by grind [GV],?_⟩;have e:(s.iW []).ext s.D=s:=by simp[PS.iW,PS.ext]
  have k:=TD (s.iW []) x s.D (xR c);rw[e]at k;rw[k];have f:((s.iW []).step x).D=[]:=by rw[(GV c _).2];rfl
  generalize(s.iW []).step x=z at*;cases z;simp only at f;subst f;rfl
 |true =>
  have f:=(Ml h).resolve_left (by grind);obtain⟨v,r,e⟩:=xw f;refine⟨[v],by grind [AW,PS.take],?_⟩;have e1:(s.iW [v]).ext r=s:=by cases s;simp[PS.iW,PS.ext]at *;exact e.symm
  have k:=TD (s.iW [v]) x r (xW (by simp[PS.iW]));rw[e1]at k;rw[k];have d:((s.iW [v]).step x).D=[]:=by rw[(AW c _).2];rfl
  generalize(s.iW [v]).step x=z at*;cases z;simp only at d;subst d;rfl
def kMo(s:PS)(u x:W N):(s.iW u).ext x=s.iW (u++x):=rfl
theorem Mm(l:W Tree):∀(s:PS),(doL s l).short=I->∃u,s.D=u++(doL s l).D/\doL (s.iW u) l=(doL s l).iW []:=by
 induction l using WF.induct with
 |case1=>intro s _;exact⟨[],by rw[bW];rfl,by grind [bW]⟩
 |case2 y b r h1 h2 =>
  intro s h;rw[nT]at h⊢;have f:(eV s ⟨y,b⟩).short=I:=by
   grind [eV,Mk]
  have q:∃u,s.D=u++(eV s ⟨y,b⟩).D/\eV (s.iW u) ⟨y,b⟩=(eV s ⟨y,b⟩).iW []:=by
   have ev:∀u,(s.iW u).val y.a=s.val y.a:=λ_=>Z
   unfold eV at f⊢
   split
   ·rename_i c;rw[if_pos c]at f
    split
    ·rename_i d;exact⟨[],Z,by rw[ev,if_pos d];rfl⟩
    ·rename_i d;rw[π d]at f;obtain⟨u,x,o⟩:=h1 (s.cM y) f;exact⟨u,x,by rw[ev,π d];exact o⟩
   simp_all [π,kKc]
  obtain⟨u,x,o⟩:=q;obtain⟨v,E,C⟩:=h2 _ h;refine⟨u++v,by grind,?_⟩;rw[nT];have e:eV (s.iW (u++v)) ⟨y,b⟩=(eV s ⟨y,b⟩).iW v:=by
   rw[<- kMo];have B:(doL (s.iW u) [⟨y,b⟩]).short=I:=by rw[nT,bW,o];exact f
   have:=VU [⟨y,b⟩] (s.iW u) v B;rw[nT,bW,nT,bW,o]at this;rw[this];rfl
  rw[e];exact C
theorem kJR(l:W Tree):∀(s:PS),(K s.D:N)<=(doL s l).D.length+WF isRd l:=by
 induction l using WF.induct with
 |case1=>intro s;rw[bW,lD];omega
 |case2 x b r h1 h2 =>
  intro s;rw[mZ,nT];have d:=(gO isRd b).1;have c:(K s.D:N)<=(eV s ⟨x,b⟩).D.length+jP isRd ⟨x,b⟩:=by
   simp only[jP];unfold eV
   split
   ·split
    ·grind [PS.cM]
    grind [PS.cM]
   ·cases hr:isRd x with
    |false=>rw[(GV hr s).2];simp;omega
    |true=>rw[(AW hr s).2];simp[PS.take];omega
  grind
def Mn(r x:W N):(PS.aY r).ext x=PS.aY (r++x):=rfl
def Mo(r u:W N):(PS.aY r).iW u=PS.aY u:=rfl
theorem kKm(l:σ Tree)(p:Pth):∀(n:ξ) (r:σ ω),WF isRd l<=n+K r->(∀c v,r=c++[v]->(doL (PS.aY c) l).short=Y) ->
  (p∈paths l n r↔∃x:σ ω,(∀v∈x,0<=v/\v<4)/\(doL (PS.aY (r++x)) l).short=I/\(doL (PS.aY (r++x)) l).D=[]/\p=(doL (PS.aY (r++x)) l).kO):=by
 have S:∀(r:σ ω),(∀c v,r=c++[v]->(doL (PS.aY c) l).short=Y)->(doL (PS.aY r) l).short=I->(doL (PS.aY r) l).D=[]:=λr C d=>by
  obtain⟨u,u1,L⟩:=Mm l _ d;rw[Mo]at L;have o:r=u++(doL (PS.aY r) l).D:=u1;generalize hq:(doL (PS.aY r) l).D=q at*
  rcases List.eq_nil_or_concat q with e|⟨H,v,e⟩
  ·exact e
  ·exfalso;have W:q=H++[v]:=by grind
   rw[W,<- xx]at o;have k:=C _ _ o;have M:(doL (PS.aY u) l).short=I:=by rw[L];exact d
   have:=VU l (PS.aY u) H M;rw[Mn]at this;rw[this]at k;have F:(doL (PS.aY u) l).short=Y:=k;rw[M]at F;cases F
 have J:∀(r:σ ω),(∀c v,r=c++[v]->(doL (PS.aY c) l).short=Y)->(doL (PS.aY r) l).short=I->(p=(doL (PS.aY r) l).kO↔∃x:σ ω,(∀v∈x,0<=v/\v<4)/\(doL (PS.aY (r++x)) l).short=I/\(doL (PS.aY (r++x)) l).D=[]/\p=(doL (PS.aY (r++x)) l).kO):=λr C d=>by
  constructor
  ·intro e;exact⟨[],by simp,by grind,by grind,by grind⟩
  ·rintro⟨x,_,_,f,B⟩;have:=VU l (PS.aY r) x d;rw[Mn]at this;rw[this]at f B;exact B
 intro n
 induction n with
 |zero =>
  grind [iD,PS.aY,WF,isRd,paths,xh]
 |succ n ih =>
  intro r hn C;unfold paths
  cases d:(doL (PS.aY r) l).short with
  |false =>
   grind
  |true =>
   simp only[if_true,List.mem_flatMap,List.mem_range];have G:∀(v:ω) (c:σ ω) (N:ω),r++[v]=c++[N]->(doL (PS.aY c) l).short=Y:=λv c N e=>by
    simp_all
   constructor
   ·rintro⟨v,hv,X⟩;obtain⟨x,E,f,B,O⟩:=(ih (r++[(v:ω)]) (by simp;omega) (G v)).1 X;rw[xx]at f B O
    grind
   ·rintro⟨x,E,f,B,O⟩
    cases x with
    |nil=>rw[List.append_nil,d]at f;cases f
    |cons v x =>
     have hv:=E v (by simp);have ev:((v.toNat:ξ):ω)=v:=by omega
     refine⟨v.toNat,by omega,(ih (r++[((v.toNat:ξ):ω)]) (by simp;omega) (G _)).2 ⟨x,λy hy=>E y (xn _ hy),?_⟩⟩
     grind
end J
theorem Mp:∀(l m:W O),l.Nodup->(∀x∈l,x∈m)->K l<=K m
 |[],_,_,_=>by simp
 |a::l,m,h,hs=>by
  have c:=List.nodup_cons.1 h;have f:a∈m:=hs a (by simp);have:=Mp l (m.erase a) c.2 λx d=>(List.mem_erase_of_ne λe=>c.1 (by grind)).2 (hs x (xn _ d))
  grind
theorem Q.kGX(a b:Ev):Q.aJ a b=Q.aJ b a:=by
 unfold Q.aJ
 grind
namespace J
structure CR(jes:σ E)(qes:σ Ev)(f ats ps:σ ω):Prop where
 w:WR jes qes
 fl:K f=K qes
 leg:∀j,j<K qes->Legal jes j (f.getD j 0)
 bh:∀i k,i<K qes->k<K qes->J.order jes ats i k=ZQ qes ps i k
 XL:∀i k,i<K qes->k<K qes->i≠k->(Q.ev qes i).kind=1->(Q.ev qes k).kind=1->(Q.ev qes i).z=(Q.ev qes k).z->ZQ qes ps i k=Y\/ZQ qes ps k i=Y
 sr:∀i,i<K qes->(Q.ev qes i).kind=0->(Q.ev qes i).step=Y->i+1<K qes/\(Q.ev qes (i+1)).kind=1/\(Q.ev qes (i+1)).step=Y
 sw:∀i,i<K qes->(Q.ev qes i).kind=1->(Q.ev qes i).step=Y->0<i/\(Q.ev qes (i-1)).kind=0/\(Q.ev qes (i-1)).step=Y/\(Q.ev qes (i-1)).z=(Q.ev qes i).z/\(Q.ev qes (i-1)).j=(Q.ev qes i).j
section
variable {jes:σ E}{qes:σ Q.Ev}{f ats ps:σ ω}
theorem CR.rd(h:CR jes qes f ats ps)(hi:i<K qes)(o:(Q.ev qes i).kind=0):∃k,k<K qes/\f.getD i 0=(k:ω)/\(Q.ev qes k).kind=1/\(Q.ev qes k).z=(Q.ev qes i).z/\k≠i+1\/k<K qes/\f.getD i 0=(k:ω)/\(Q.ev qes k).kind=1/\(Q.ev qes k).z=(Q.ev qes i).z/\(Q.ev qes i).step=I:=by
 have q:=h.w.er i hi;have l:=h.leg i hi;unfold Legal at l;rw[(eR q).1,o]at l;simp only[beq_self_eq_true,if_true]at l;obtain⟨k,d,u,c⟩:=l;rw[h.w.len]at d;have r:=h.w.er k d;unfold dX at c;rw[(eR r).2.1]at c;simp only[xF,ν,xl,Bool.and_eq_false_iff,ε]at c
 grind [ER.v]
theorem CR.no(h:CR jes qes f ats ps)(hi:i<K qes)(c:(Q.ev qes i).kind≠0):f.getD i 0=-1:=by
 have l:=h.leg i hi;unfold Legal at l;rw[(eR (h.w.er i hi)).1]at l
 grind
theorem CR.gd(h:CR jes qes f ats ps)(hi:i<K qes):f.getD i (-1)=f.getD i 0:=by
 grind [CR.fl]
theorem CR.mF(h:CR jes qes f ats ps)(hi:i<K qes)(c:k<K qes):(WH qes f ps).rd i k↔f.getD i 0=(k:ω):=by
 show k<K qes/\i<K qes/\f.getD i (-1)=(k:ω)↔_;rw[h.gd hi];omega
theorem CR.iZ(h:CR jes qes f ats ps)(hi:i<K qes)(c:k<K qes):(WH qes f ps).G i k↔i≠k/\J.aJ jes i k=Y:=by
 show i<K qes/\k<K qes/\Ai i (Q.ev qes i) k (Q.ev qes k)=Y↔_;unfold Ai;rw[h.w.G hi c,xF,bne_iff_ne]
 grind
theorem CR.oV(h:CR jes qes f ats ps)(hi:i<K qes)(c:k<K qes):J.aJ jes i k=J.aJ jes k i:=by
 rw[h.w.G hi c,h.w.G c hi,kGX]
theorem CR.rQ(h:CR jes qes f ats ps)(hi:i<K qes)(c:k<K qes):(WH qes f ps).bh i k↔J.order jes ats i k=Y:=by
 show i<K qes/\k<K qes/\ZQ qes ps i k=Y↔_
 grind [CR.bh]
theorem CR.eT(h:CR jes qes f ats ps)(hi:i<K qes)(e:f.getD i 0=(k:ω)):(Q.ev qes i).kind=0:=by
 rcases Classical.em ((Q.ev qes i).kind=0)with c|c
 ·exact c
 grind [CR.no]
theorem CR.to(h:CR jes qes f ats ps)(hi:i<K qes)(e:f.getD i 0=(k:ω)):k<K qes/\(Q.ev qes k).kind=1/\(Q.ev qes k).z=(Q.ev qes i).z/\((Q.ev qes i).step=Y->k≠i+1):=by
 obtain⟨m,c⟩:=h.rd hi (h.eT hi e)
 grind
theorem CR.comm(h:CR jes qes f ats ps)(hi:i<K qes)(d:k<K qes):J.gN jes f ats i k=Y↔(WH qes f ps).comm i k:=by
 have e1:J.aZ jes f i k=Y↔(WH qes f ps).rd k i:=by
  rw[h.mF d hi];unfold J.aZ;rw[xF,(eR (h.w.er k d)).1,ν,ν]
  grind [CR.eT]
 have e3:J.misses jes f ats i k=Y↔(WH qes f ps).misses i k:=by
  unfold J.misses;rw[xF,(eR (h.w.er i hi)).1,ν];constructor
  ·rintro⟨a,b⟩;obtain⟨m,o⟩:=h.rd hi a;have c:m<K qes/\f.getD i 0=(m:ω):=o.elim (λx=>⟨x.1,x.2.1⟩) λx=>⟨x.1,x.2.1⟩;rw[c.2,xc]at b;exact⟨m,(h.mF hi c.1).2 c.2,(h.rQ c.1 d).2 b⟩
  ·rintro⟨m,a,b⟩;have o:m<K qes:=a.1;have e:=(h.mF hi o).1 a;refine⟨h.eT hi e,?_⟩
   grind [xc,CR.rQ]
 unfold J.gN Q.Sys.comm;rw[x5,x5,e1,<- h.rQ hi d,e3,or_assoc]
def CR.iV(h:CR jes qes f ats ps)(e:(WH qes f ps).comm i k):i<K qes/\k<K qes:=by
 rcases e with(e|e)|⟨m,e1,e2⟩
 ·exact⟨e.1,e.2.1⟩
 ·exact⟨e.1,e.2.1⟩
 ·exact⟨e1.2.1,e2.2.1⟩
theorem CR.half(h:CR jes qes f ats ps)(hi:i<K qes)(c:k<K qes):(WH qes f ps).L i k↔(Q.ev qes i).kind=1/\(Q.ev qes i).step=Y/\k+1=i:=by
 show i<K qes/\k<K qes/\Aj i (Q.ev qes i) k=Y↔_;unfold Aj
 grind
theorem xO(d:W E)(f:W N)(a n b:O):bS d f a (n+1) b=Y↔∃c:O,f.getD b 0=(c:N)/\J.aJ d c b=Y/\(c=a\/(ev d c).half=Y/\bS d f a n (c-1)=Y):=by
 rw[bS]
 grind
def Mq(d:W E)(f:W N)(a:O):∀n b,bS d f a n b=Y->bS d f a (n+1) b=Y
 |0,b,h=>by simp[bS]at h
 |n+1,b,h=>by
  rw[xO]at h⊢;obtain⟨c,o,q,r⟩:=h;exact⟨c,o,q,r.imp id λe=>⟨e.1,Mq d f a n _ e.2⟩⟩
def kMb(c:W E)(f:W N)(a:O)(h:bS c f a n b=Y)(d:n<=m):bS c f a m b=Y:=by
 induction d with
 |refl=>exact h
 |step _ ih=>exact Mq c f a _ _ ih
theorem CR.chain(h:CR jes qes f ats ps)(a:ξ):∀n b,b<K qes->bS jes f a n b=Y->∃L:σ ξ,L.Nodup/\(∀x∈L,x<K qes)/\L.head?=U b/\∀(i:ξ) (hi:i<K L),bS jes f a (K L-i) L[i]=Y
 |0,b,_,e=>by simp[bS]at e
 |n+1,b,hb,e=>by
  have E:=e;rw[xO]at e;obtain⟨c,q,B,d⟩:=e
  rcases d with rfl|⟨d,C⟩
  ·refine⟨[b],by simp,by simpa using hb,Z,λi hi=>?_⟩;have:i=0:=by simp at hi;omega
   subst this
   grind [xO]
  ·have F:=h.to hb q;obtain⟨L,r,u,D,H⟩:=h.chain a n (c-1) (by omega) C;by_cases hm:b∈L
   ·obtain⟨i,hi,e⟩:=List.mem_iff_getElem.1 hm;refine⟨L.drop i,r.sublist (List.drop_sublist _ _),λx o=>u x (List.mem_of_mem_drop o),by simp_all,λj G=>?_⟩
    grind
   ·refine⟨b::L,List.nodup_cons.2 ⟨hm,r⟩,λx o=>(List.mem_cons.1 o).elim λe=>by omega (u x),Z,λi hi=>?_⟩
    cases i with
    |zero =>
     simp only[xy,Nat.sub_zero,xz];rw[xO];refine⟨c,q,B,xW ⟨d,?_⟩⟩
     cases L with
     |nil=>simp at D
     |cons x L =>
      grind
    |succ i =>
     grind
theorem CR.wG(h:CR jes qes f ats ps)(q:b<K qes)(e:bS jes f a n b=Y):J.aL jes f a b=Y:=by
 obtain⟨L,u,B,d,C⟩:=h.chain a n b q e;have c:=Mp L (x7 (K qes)) u λx r=>List.mem_range.2 (B x r);rw[List.length_range]at c
 cases L with
 |nil=>simp at d
 |cons x L =>
  have o:x=b:=by simpa using d
  have:=C 0 (by simp);simp only[Nat.sub_zero,xz]at this;rw[o]at this;unfold J.aL;exact kMb jes f a this (by rw[h.w.len];simp only[xy]at c⊢;omega)
theorem CR.pW(h:CR jes qes f ats ps)(a:ξ)(C:a<K qes):∀n b,b<K qes->bS jes f a n b=Y->(WH qes f ps).aL b a
 |0,b,_,e=>by simp[bS]at e
 |n+1,b,hb,e=>by
  rw[xO]at e;obtain⟨c,r,H,u⟩:=e;have o:=h.to hb r;have J:=h.eT hb r;have x:(WH qes f ps).bQ b c:=⟨(h.mF hb o.1).2 r,(h.iZ hb o.1).2 ⟨λe=>by grind,by grind [CR.oV]⟩⟩
  rcases u with rfl|⟨u,B⟩
  ·exact xR x
  ·have q:(Q.ev qes c).step=Y:=by rw[<- ((h.w.er c o.1).v (by omega)).2.2];exact u
   have G:=h.sw c o.1 o.2.1 q;have D:(WH qes f ps).L c (c-1):=(h.half o.1 (by omega)).2 ⟨o.2.1,q,by omega⟩;have base:TC (Q.Th (WH qes f ps).bQ (WH qes f ps).L) b (c-1):=TC.base ⟨c,x,D⟩
   rcases h.pW a C n (c-1) (by omega) B with k|⟨d,E,F⟩
   ·exact xW ⟨c-1,base,k⟩
   ·exact xW ⟨d,base.trans E,F⟩
theorem CR.aL(h:CR jes qes f ats ps)(B:a<K qes)(o:b<K qes):J.aL jes f a b=Y↔(WH qes f ps).aL b a:=by
 constructor
 ·exact h.pW a B _ b o
 ·have r:∀b,(WH qes f ps).bQ b a->∃m,bS jes f a m b=Y:=λb k=>by
   have o:b<K qes:=k.1.2.1;refine⟨1,(xO jes f a 0 b).2 ⟨a,(h.mF o B).1 k.1,?_,xR Z⟩⟩;rw[h.oV B o];exact((h.iZ o B).1 k.2).2
  intro k;have:∃m,bS jes f a m b=Y:=by
   rcases k with k|⟨c,G,H⟩
   ·exact r b k
   ·have:=G (λx y=>(∃m,bS jes f a m y=Y)->∃m,bS jes f a m x=Y) (λx y ⟨d,u,D⟩=>?_) λx y z e1 e2 e3=>e1 (e2 e3)
    ·exact this (r c H)
    ·rintro⟨m,L⟩;have C:x<K qes:=u.1.2.1;have q:d<K qes:=u.1.1;have F:y<K qes:=D.2.1;have E:=(h.half q F).1 D;refine⟨m+1,(xO jes f a m x).2 ⟨d,(h.mF C q).1 u.1,by rw[h.oV q C];exact((h.iZ C q).1 u.2).2,xW ⟨?_,?_⟩⟩⟩
     ·rw[((h.w.er d q).v (by omega)).2.2];exact E.2.1
     grind
  grind [CR.wG]
end
section
variable {jes:σ E}{qes:σ Q.Ev}{f ats ps:σ ω}
theorem kGH{c:W E}(h:J.aJ c a b=Y):3<=a/\3<=b:=by
 grind [J.aJ]
def SQ(d:W E)(f:W N)(a:O):∀n b,bS d f a n b=Y->3<=a/\3<=b
 |0,b,e=>by simp[bS]at e
 |n+1,b,e=>by
  rw[xO]at e;obtain⟨c,x,q,r⟩:=e;have o:=kGH q
  rcases r with rfl|⟨_,u⟩
  ·exact o
  ·exact⟨(SQ d f a n _ u).1,o.2⟩
def Mr(jes:W E)(f:W N)(a b i k:O):Prop:=3<=i/\i<K jes/\3<=k/\k<K jes/\((ev jes i).kind.toList==kW)=Y/\((ev jes i).ord.toList==cN)=I/\kH jes a i=Y/\((ev jes k).kind.toList==kR)=Y/\((ev jes k).ord.toList==cN)=I/\jR jes k b=Y/\J.aL jes f i k=Y
theorem LG(e:E)(q:W UInt8)(h:Bool):(!nG e q h)=Y↔(e.kind.toList==q)=Y/\(e.ord.toList==cN)=I/\h=Y:=by
 grind [nG,cN]
def Ms(c:W E)(f:W N)(a b:O):J.bZ c f a b=Y↔J.aJ c a b=Y/\∃i k,Mr c f a b i k:=by
 unfold J.bZ;rw[xF,xd];refine and_congr_right λ_=>?_;constructor
 ·rintro⟨i,hi,h⟩;rw[xF,ι]at h;obtain⟨d,h⟩:=h;unfold ti at h;rw[xF,LG,xd]at h;obtain⟨⟨r,u,x⟩,k,o,h⟩:=h;rw[xF,ι]at h;obtain⟨q,h⟩:=h;unfold tk at h;rw[xF,LG]at h;exact⟨i,k,d,List.mem_range.1 hi,q,List.mem_range.1 o,r,u,x,h.1.1,h.1.2.1,h.1.2.2,h.2⟩
 ·rintro⟨i,k,d,hi,q,o,r,u,x,B,C,D,s⟩;refine⟨i,List.mem_range.2 hi,?_⟩;rw[xF,ι];refine⟨d,?_⟩;unfold ti;rw[xF,LG,xd];refine⟨⟨r,u,x⟩,k,List.mem_range.2 o,?_⟩;rw[xF,ι];refine⟨q,?_⟩;unfold tk;rw[xF,LG];exact⟨⟨B,C,D⟩,s⟩
theorem CR.sends(h:CR jes qes f ats ps)(c:a<K qes)(hi:i<K qes):(WH qes f ps).sends a i↔(Q.ev qes i).kind=1/\kH jes a i=Y:=by
 have d:=h.w.er a c;have o:=h.w.er i hi;show a<K qes/\i<K qes/\Ak a (Q.ev qes a) i (Q.ev qes i)=Y↔_;unfold Ak kH lG;rw[(eR d).2.2.1,h.w.C c hi];constructor
 ·rintro⟨_,_,e⟩;simp only[x5,xF,ν]at e
  rcases e with⟨e1,e2,e3⟩|⟨⟨e1,e2⟩,e3⟩
  ·subst e1;refine⟨e2,?_⟩;rw[x5];left;rw[xF,(wU d (by omega)).2.1];exact⟨by simp,e3⟩
  grind
 ·rintro⟨e1,e2⟩;refine⟨c,hi,?_⟩;rw[x5]at e2⊢
  rcases e2 with e2|e2
  ·left
   rw[xF,(wU o (by omega)).2.1]at e2
   grind
  grind
theorem CR.M(h:CR jes qes f ats ps)(d:k<K qes)(c:b<K qes):(WH qes f ps).M k b↔(Q.ev qes k).kind=0/\jR jes k b=Y:=by
 have o:=h.w.er k d;have q:=h.w.er b c;show k<K qes/\b<K qes/\Al k (Q.ev qes k) b (Q.ev qes b)=Y↔_;unfold Al jR lG;rw[(eR q).2.2.1,h.w.C d c];constructor
 ·rintro⟨_,_,e⟩;simp only[x5,xF,ν]at e
  rcases e with⟨e1,e2,e3⟩|⟨⟨e1,e2⟩,e3⟩
  ·subst e1;refine⟨e2,?_⟩;rw[x5];left;rw[xF,(wU o (by omega)).2.2.1];exact⟨by simp,e3⟩
  grind
 ·rintro⟨e1,e2⟩;refine⟨d,c,?_⟩;rw[x5]at e2⊢
  rcases e2 with e2|e2
  ·left
   rw[xF,(wU o (by omega)).2.2.1]at e2
   grind
  grind
def CR.vJ(h:CR jes qes f ats ps)(hi:i<K qes)(c:(Q.ev qes i).kind<=2):(WH qes f ps).ord i↔((ev jes i).ord.toList==cN)=I:=by
 show(Q.ev qes i).q≠0↔_;rw[(wU (h.w.er i hi) c).1,ε]
def CR.xC(h:CR jes qes f ats ps)(e:(WH qes f ps).aL b a):a<K qes/\b<K qes:=by
 rcases e with e|⟨c,e1,e2⟩
 ·exact⟨e.1.1,e.1.2.1⟩
 ·refine⟨e2.1.1,?_⟩;have:=e1 (λx y=>x<K qes) (λx y ⟨d,o,_⟩=>o.1.2.1) λ_ _ _ a _=>a;exact this
def CR.EP(h:CR jes qes f ats ps)(x:a<K qes)(B:b<K qes):Mr jes f a b i k↔((WH qes f ps).sends a i/\(WH qes f ps).eS i k)/\(WH qes f ps).M k b:=by
 constructor
 ·rintro⟨J,hi,L,c,d,G,q,o,H,r,s⟩;rw[h.w.len]at hi c;rw[(eR (h.w.er i hi)).2.1,ν]at d;rw[(eR (h.w.er k c)).1,ν]at o;exact⟨⟨(h.sends x hi).2 ⟨d,q⟩,(h.aL hi c).1 s,(h.vJ c (by omega)).2 H,(h.vJ hi (by omega)).2 G⟩,(h.M c B).2 ⟨o,r⟩⟩
 ·rintro⟨⟨s,g,E,F⟩,t⟩;have C:=h.xC g;have hi:i<K qes:=C.1;have c:k<K qes:=C.2;obtain⟨d,q⟩:=(h.sends x hi).1 s;obtain⟨o,r⟩:=(h.M c B).1 t;have D:=(h.aL hi c).2 g;have u:=SQ jes f i _ k D;exact⟨u.1,by rw[h.w.len];exact hi,u.2,by rw[h.w.len];exact c,by rw[(eR (h.w.er i hi)).2.1,d];rfl,(h.vJ hi (by omega)).1 F,q,by rw[(eR (h.w.er k c)).1,o];rfl,(h.vJ c (by omega)).1 E,r,D⟩
def CR.bZ(h:CR jes qes f ats ps)(c:a<K qes)(d:b<K qes)(o:a≠b):J.bZ jes f a b=Y↔(WH qes f ps).bZ a b:=by
 rw[Ms];constructor
 ·rintro⟨s,i,k,t⟩;have:=(h.EP c d).1 t;exact⟨⟨k,⟨i,this.1.1,this.1.2⟩,this.2⟩,(h.iZ c d).2 ⟨o,s⟩⟩
 ·rintro⟨⟨k,⟨i,q,r⟩,u⟩,s⟩;exact⟨((h.iZ c d).1 s).2,i,k,(h.EP c d).2 ⟨⟨q,r⟩,u⟩⟩
theorem CR.gI(h:CR jes qes f ats ps)(hi:i<K qes)(c:k<K qes):(WH qes f ps).C i k↔J.aQ jes i k=Y:=by
 show i<K qes/\k<K qes/\ZJ i (Q.ev qes i) k (Q.ev qes k)=Y↔_;rw[h.w.C hi c]
 grind
def TN{R:O->O->Prop}(c:∀x y,R x y->x<n/\y<n)(h:TC R a b):a<n/\b<n:=h (λx y=>x<n/\y<n) c λ_ _ _ a b=>⟨a.1,b.2⟩
theorem LK{R:O->O->Bool}:rnd n R=I↔∀i,i<n->R i i=I:=by
 grind [rnd]
theorem CR.OC(h:CR jes qes f ats ps)(hi:i<K qes)(c:k<K qes):(WH qes f ps).N i k↔J.sc jes i k=Y:=by
 show i<K qes/\k<K qes/\An i (Q.ev qes i) k (Q.ev qes k)=Y↔_;rw[h.w.sc hi c]
 grind
theorem CR.whole(h:CR jes qes f ats ps):wholeB jes f ats=Y↔∀i,¬Q.Th (Q.Th (WH qes f ps).L (WH qes f ps).misses) (WH qes f ps).bh i i:=by
 have ms:∀{a b:ξ},a<K qes->b<K qes->(J.misses jes f ats a b=Y↔(WH qes f ps).misses a b):=λ{a b} q X=>by
  unfold J.misses;rw[xF,(eR (h.w.er a q)).1,ν];constructor
  ·rintro⟨x,y⟩;obtain⟨m,G⟩:=h.rd q x;have o:m<K qes/\f.getD a 0=(m:ω):=G.elim (λx=>⟨x.1,x.2.1⟩) λx=>⟨x.1,x.2.1⟩;rw[o.2,xc]at y;exact⟨m,(h.mF q o.1).2 o.2,(h.rQ o.1 X).2 y⟩
  ·rintro⟨m,x,y⟩;have G:m<K qes:=x.1;have e:=(h.mF q G).1 x;refine⟨h.eT q e,?_⟩
   grind [xc,CR.rQ]
 rw[iG];constructor
 ·rintro H i ⟨c,⟨d,D,d2⟩,W⟩;have hi:i<K qes:=D.1;have E:d<K qes:=D.2.1;have hc:c<K qes:=W.1;have N:=(h.half hi E).1 D;have C:=h.sw i hi N.1 N.2.1;rw[show i-1=d by omega]at C;have r:=h.w.er d E;have O:3<=d:=by
   rcases xa d 3 with x|x
   ·have:=(h.w.fk d x).1;omega
   ·exact x
  have:=H d O (by rw[h.w.len];exact E) (by unfold isStep;rw[(eR r).1,C.2.1,(r.v (by omega)).2.2,C.2.2.1];rfl) c (by rw[h.w.len];exact hc)
  grind [kJ,CR.rQ]
 ·intro H i h3 hi B k F;rw[h.w.len]at hi F;unfold isStep at B;have r:=h.w.er i hi;rw[xF,(eR r).1,ν]at B;have M:(Q.ev qes i).step=Y:=by rw[<- (r.v (by omega)).2.2];exact B.2
  have u:=h.sr i hi B.1 M
  cases c:kJ jes f ats i k
  ·rfl
  exfalso;unfold kJ at c;rw[xF]at c;exact H (i+1) ⟨k,⟨i,(h.half u.1 hi).2 ⟨u.2.1,u.2.2,Z⟩,(ms hi F).1 c.1⟩,(h.rQ F u.1).2 c.2⟩
end
end J
theorem Q.TC.eW{R:ξ->ξ->Prop}(h:TC R a b):TC (λx y=>R y x) b a:=h (λx y=>TC (λx y=>R y x) y x) (λ_ _ e=>TC.base e) λ_ _ _ e1 e2=>e2.trans e1
namespace J
def HR(jes:W E)(qes:W Ev)(base:W N):Prop:=∀i k,i<K qes->k<K qes->(YF (Q.ev qes i).h (k:N)=Y↔3<=i/\∃x∈(ev jes i).on,(k:N)=base.getD (ev jes i).t.toNat 0+x)
section
variable {jes:σ E}{qes:σ Q.Ev}{f ats ps:σ ω}
theorem CR.hang(h:CR jes qes f ats ps){base:σ ω}(u:HR jes qes base):¬J.Hang jes base f↔(WH qes f ps).sJ:=by
 have q:∀a b,a<K qes->b<K qes->(zO jes base f a b↔(WH qes f ps).h b a\/(WH qes f ps).rd b a):=λa b o d=>by
  unfold zO;have e1:(WH qes f ps).h b a↔3<=b/\∃x∈(ev jes b).on,(a:ω)=base.getD (ev jes b).t.toNat 0+x:=by
   rw[<- u b a d o];exact⟨λe=>e.2.2,λe=>⟨d,o,e⟩⟩
  rw[e1,h.mF d o];constructor
  ·grind
  ·rintro(⟨r,e⟩|e)
   ·exact⟨r,xR e⟩
   ·refine⟨?_,xW e.symm⟩
    rcases xa b 3 with c|c
    ·have:=h.eT d e;have:=(h.w.fk b c).1;omega
    ·exact c
 have lt:∀x y,(WH qes f ps).h x y\/(WH qes f ps).rd x y->x<K qes/\y<K qes:=λx y e=>e.elim (λe=>⟨e.1,e.2.1⟩) λe=>⟨e.2.1,e.1⟩
 constructor
 ·intro n i e;refine n ⟨i,by rw[h.w.len];exact(TN lt e).1,?_⟩;rw[h.w.len]
  grind [TC.mono,TC.eW]
 ·rintro n ⟨i,hi,e⟩;rw[h.w.len]at e;exact n i (TC.mono (λx y e=>(q y x e.1 e.2.1).1 e.2.2) e.eW)
end
structure CT(jes:σ E)(qes:σ Ev)(f ats ps fs:σ ω):Prop where
 c:CR jes qes f ats ps
 fb:∀i k,i<K qes->k<K qes->(J.sc jes i k=Y/\ats.getD i 0<ats.getD k 0↔fbR qes fs i k)
section
variable {jes:σ E}{qes:σ Q.Ev}{f ats ps fs:σ ω}
def LR(qes:W Ev)(f ps:W N)(a b:O):Prop:=Ao qes a b\/(WH qes f ps).comm a b/\(WH qes f ps).G a b
theorem CR.GS(h:CR jes qes f ats ps)(hi:i<K qes)(c:k<K qes):Ao qes i k↔J.aQ jes i k=Y/\(mM (ev jes i)&&mM (ev jes k))=Y/\((ev jes i).loc==(ev jes k).loc)=Y:=by
 have a:=eR (h.w.er i hi);have b:=eR (h.w.er k c);have o:=(h.w.er i hi).v;have q:=(h.w.er k c).v;unfold Ao isRow mM;rw[h.w.C hi c,a.1,a.2.1,b.1,b.2.1];have d:ZA (Q.ev qes i)=((Q.ev qes i).kind==1||(Q.ev qes i).kind==0):=by grind [ZA]
 grind [ZA]
theorem CR.SB(h:CR jes qes f ats ps)(e:(WH qes f ps).G i k):(WH qes f ps).G k i:=by
 have hi:i<K qes:=e.1;have c:k<K qes:=e.2.1;have:=(h.iZ hi c).1 e
 grind [CR.iZ,CR.oV]
theorem CR.qF(h:CR jes qes f ats ps)(e:(WH qes f ps).aL k i):TC (LR qes f ps) i k:=by
 have q:∀x y,(WH qes f ps).bQ x y->TC (LR qes f ps) y x:=λx y s=>TC.base (xW ⟨xR (xR s.1),h.SB s.2⟩)
 rcases e with e|⟨c,e1,e2⟩
 ·exact q _ _ e
 ·refine(q _ _ e2).trans (e1 (λx y=>TC (LR qes f ps) y x) (λx y ⟨w,w1,B⟩=>?_) λx y z a b=>b.trans a);have d:w<K qes:=w1.1.1;have o:y<K qes:=B.2.1;have r:=(h.half d o).1 B;have u:=h.sw w d r.1 r.2.1;rw[show w-1=y by omega]at u;refine TC.trans (TC.base (xR ⟨o,d,?_⟩)) (q x w w1);have nt:(Q.ev qes y).j≠-1:=λe=>by have:=(h.w.fk y ((h.w.th y o).2 e)).1;omega
  unfold isRow ZJ ZA
  grind
theorem CR.wC(h:CR jes qes f ats ps)(e:TC (LR qes f ps) a b):(Q.ev qes a).z=(Q.ev qes b).z:=by
 refine e (λx y=>(Q.ev qes x).z=(Q.ev qes y).z) (λx y e=>?_) λ_ _ _ a b=>a.trans b;have o:∀{x y:ξ},(WH qes f ps).rd x y->(Q.ev qes y).z=(Q.ev qes x).z:=λ{x y} e=>by
  have l:y<K qes/\x<K qes:=h.iV (xR (xR e))
  grind [CR.to,CR.mF]
 have d:∀{x y:ξ},(WH qes f ps).bh x y->(Q.ev qes x).z=(Q.ev qes y).z:=λ{x y} e=>by
  have e:=e.2.2
  simp_all [ZQ,xF,ν]
 rcases e with⟨_,_,e⟩|⟨(e|e)|⟨c,e1,e2⟩,_⟩
 ·simp_all [isRow,xF,ν]
 ·exact o e
 ·exact d e
 grind
theorem CR.JB(h:CR jes qes f ats ps)(G:∀i,¬TC (LR qes f ps) i i)(F:a<K qes):J.bZ jes f a a=I:=by
 cases c:J.bZ jes f a a
 ·rfl
 exfalso;rw[Ms]at c;obtain⟨_,i,k,L,hi,M,d,u,N,B,D,O,E,s⟩:=c;rw[h.w.len]at hi d;have r:=eR (h.w.er a F);unfold kH lG at B;unfold jR lG at E;rw[x5,xF,xF,r.2.2.1,ν,ν]at B E;rw[(eR (h.w.er i hi)).2.1,ν]at u;rw[(eR (h.w.er k d)).1,ν]at D;have fe:(Q.ev qes a).kind=2/\J.aQ jes a i=Y:=by
  grind
 have o:J.aQ jes k a=Y:=by
  grind
 have l:=h.qF ((h.aL hi d).1 s);refine G i (l.trans (TC.base (xR ⟨d,hi,?_⟩)));have H:3<=a:=by
  rcases xa a 3 with x|x
  ·have:=(h.w.fk a x).1;omega
  ·exact x
 have q:=fe.2;unfold J.aQ at o q;rw[π (by omega)]at o q;simp only[xF,ν,ι]at o q;unfold isRow;rw[<- h.w.C d hi];unfold J.aQ ZA;rw[π (by omega),D,u];simp only[xF,ν,ι]
 grind [CR.wC]
end
section
variable {jes:σ E}{qes:σ Q.Ev}{f ats ps fs:σ ω}
theorem CT.EK(h:CT jes qes f ats ps fs)(e:(WH qes f ps).cQ (fbR qes fs) a b):a<K qes/\b<K qes/\rZ jes f ats a b=Y:=by
 unfold rZ
 rcases e with(e|e)|e
 ·have d:a<K qes:=e.2.1;have o:b<K qes:=e.2.2.1;exact⟨d,o,by rw[(h.c.bZ d o ((h.c.iZ d o).1 e.2).1).2 e];rfl⟩
 ·exact⟨e.1,e.2.1,by rw[h.c.w.J e.1 e.2.1,e.2.2];simp⟩
 ·have:=(h.fb a b e.1 e.2.1).2 e;exact⟨e.1,e.2.1,by grind⟩
def CT.rZ(h:CT jes qes f ats ps fs)(q:∀i,¬TC (LR qes f ps) i i)(d:a<K qes)(o:b<K qes)(e:J.rZ jes f ats a b=Y):(WH qes f ps).cQ (fbR qes fs) a b:=by
 unfold J.rZ at e;rw[x5,x5,xF,ι]at e
 rcases e with e|e|e
 ·by_cases c:a=b
  ·subst c;rw[h.c.JB q d]at e;cases e
  ·exact xR (xR ((h.c.bZ d o c).1 e))
 ·exact xR (xW ⟨d,o,by rw[<- h.c.w.J d o];exact e⟩)
 ·exact xW ((h.fb a b d o).1 e)
def RJ{x:O}:xK jes a x=Y↔J.aQ jes x a=Y\/x=a:=by
 unfold xK;rw[x5,ν];exact⟨λh=>h.imp id (by omega),λh=>h.imp id (by omega)⟩
def TG{x:O}:vE jes a x=Y↔J.aQ jes a x=Y\/x=a:=by
 unfold vE;rw[x5,ν];exact⟨λh=>h.imp id (by omega),λh=>h.imp id (by omega)⟩
def CT.zA(h:CT jes qes f ats ps fs){x:ξ}(e:(WH qes f ps).vV (fbR qes fs) x y\/Q.Th (WH qes f ps).C ((WH qes f ps).vV (fbR qes fs)) x y):x<K qes/\y<K qes/\IA jes f ats x y:=by
 have d:∀{x y:ξ},(WH qes f ps).vV (fbR qes fs) x y->x<K qes/\y<K qes/\∃b,b<K qes/\J.rZ jes f ats x b=Y/\vE jes b y=Y:=λ{x y} e=>by
  rcases e with e|⟨b,e1,e2⟩
  ·have l:=h.EK e;exact⟨l.1,l.2.1,y,l.2.1,l.2.2,TG.2 (xW Z)⟩
  ·have l:=h.EK e1;exact⟨l.1,e2.2.1,b,l.2.1,l.2.2,TG.2 (xR ((h.c.gI e2.1 e2.2.1).1 e2))⟩
 rcases e with e|⟨a,e1,e2⟩
 ·obtain⟨p,q,b,r,s,t⟩:=d e;exact⟨p,q,x,b,by rw[h.c.w.len];exact p,by rw[h.c.w.len];exact r,s,RJ.2 (xW Z),t⟩
 ·obtain⟨p,q,b,r,s,t⟩:=d e2;exact⟨e1.1,q,a,b,by rw[h.c.w.len];exact p,by rw[h.c.w.len];exact r,s,RJ.2 (xR ((h.c.gI e1.1 e1.2.1).1 e1)),t⟩
theorem CT.MV(h:CT jes qes f ats ps fs)(r:∀i,¬TC (LR qes f ps) i i){x:ξ}(u:x<K qes)(B:y<K qes)(e:IA jes f ats x y):(WH qes f ps).vV (fbR qes fs) x y\/Q.Th (WH qes f ps).C ((WH qes f ps).vV (fbR qes fs)) x y:=by
 obtain⟨a,b,d,o,l,p,q⟩:=e;rw[h.c.w.len]at d o;have l:=h.rZ r d o l;have k:(WH qes f ps).vV (fbR qes fs) a y:=by
  rcases TG.1 q with q|q
  ·exact xW ⟨b,l,(h.c.gI o B).2 q⟩
  ·rw[q];exact xR l
 rcases RJ.1 p with p|p
 ·exact xW ⟨a,(h.c.gI u d).2 p,k⟩
 grind
def CT.yF(h:CT jes qes f ats ps fs)(e:(WH qes f ps).base (fbR qes fs) i k):(i<K qes/\k<K qes)/\J.base jes f ats i k=Y:=by
 refine⟨TN (λx y e=>⟨(h.zA e).1,(h.zA e).2.1⟩) e,?_⟩;unfold J.base cl;rw[cG,h.c.w.len];refine TC.mono (λx y e=>?_) e;have s:=h.zA e;exact⟨s.1,s.2.1,gB s.2.2⟩
def CT.base(h:CT jes qes f ats ps fs)(d:∀i,¬TC (LR qes f ps) i i)(e:J.base jes f ats i k=Y):(WH qes f ps).base (fbR qes fs) i k:=by
 unfold J.base cl at e;rw[cG,h.c.w.len]at e;exact TC.mono (λx y ⟨o,q,e⟩=>h.MV d o q (cG.1 e)) e
theorem CT.AO(h:CT jes qes f ats ps fs)(e:(WH qes f ps).cause (fbR qes fs) i k):(i<K qes/\k<K qes)/\J.cse jes f ats i k=Y:=by
 unfold J.cse;rw[cG]
 rcases e with(e|e)|⟨m,e1,e2⟩
 ·have b:=h.yF e;exact⟨b.1,xR (by grind)⟩
 ·exact⟨⟨e.1,e.2.1⟩,xR (by rw[(h.c.gI e.1 e.2.1).1 e];simp)⟩
 ·have b:=h.yF e2;have l:=h.c.xC e1;have s:=(h.c.aL l.1 l.2).2 e1;have o:=SQ jes f i _ _ s;have d:(Q.ev qes m).kind=0/\(Q.ev qes i).kind=1:=by
   have k:=h.c.qF e1;refine⟨?_,?_⟩
   ·rcases e1 with e1|⟨c,e1,_⟩
    ·exact h.c.eT l.2 ((h.c.mF l.2 l.1).1 e1.1)
    ·have q:∀x y,TC (Q.Th (WH qes f ps).bQ (WH qes f ps).L) x y->(Q.ev qes x).kind=0:=λx y e=>e (λx _=>(Q.ev qes x).kind=0) (λx y ⟨w,w1,_⟩=>by
      have l:w<K qes/\x<K qes:=h.c.iV (xR (xR w1.1));exact h.c.eT l.2 ((h.c.mF l.2 l.1).1 w1.1)) λ_ _ _ a _=>a
     exact q _ _ e1
   ·rcases e1 with e1|⟨c,_,e1⟩
    ·exact(h.c.to l.2 ((h.c.mF l.2 l.1).1 e1.1)).2.1
    ·have l:i<K qes/\c<K qes:=h.c.iV (xR (xR e1.1));exact(h.c.to l.2 ((h.c.mF l.2 l.1).1 e1.1)).2.1
  exact⟨⟨l.1,b.1.2⟩,xW ⟨m,o.2,by rw[h.c.w.len];exact l.2,by rw[(eR (h.c.w.er m l.2)).1,d.1];rfl,by rw[(eR (h.c.w.er i l.1)).2.1,d.2];rfl,b.2,s⟩⟩
theorem CT.cse(h:CT jes qes f ats ps fs)(o:∀i,¬TC (LR qes f ps) i i)(hi:i<K qes)(q:k<K qes)(e:J.cse jes f ats i k=Y):(WH qes f ps).cause (fbR qes fs) i k:=by
 unfold J.cse at e;rw[cG]at e
 rcases e with e|⟨m,r,d,_,_,b,s⟩
 ·rw[x5]at e
  rcases e with e|e
  ·exact xR (xR (h.base o e))
  ·exact xR (xW ((h.c.gI hi q).2 e))
 ·rw[h.c.w.len]at d;exact xW ⟨m,(h.c.aL hi d).1 s,h.base o b⟩
theorem CR.scS(h:CR jes qes f ats ps)(hi:i<K qes)(c:k<K qes)(e:J.sc jes i k=Y):J.sc jes k i=Y:=by
 unfold J.sc at*;simp only[xF,bne_iff_ne]at *
 grind [CR.oV]
theorem CR.msX(h:CR jes qes f ats ps)(hi:i<K qes)(d:k<K qes):J.misses jes f ats i k=Y↔(WH qes f ps).misses i k:=by
 unfold J.misses;rw[xF,(eR (h.w.er i hi)).1,ν];constructor
 ·rintro⟨a,b⟩;obtain⟨m,o⟩:=h.rd hi a;have c:f.getD i 0=(m:ω):=o.elim (λx=>x.2.1) λx=>x.2.1;have t:=h.to hi c;rw[c,xc]at b;exact⟨m,(h.mF hi t.1).2 c,(h.rQ t.1 d).2 b⟩
 ·rintro⟨m,a,b⟩;have l:m<K qes/\i<K qes:=h.iV (xR (xR a));have c:=(h.mF l.2 l.1).1 a;exact⟨h.eT hi c,by grind [xc,CR.rQ]⟩
theorem CR.rdB(h:CR jes qes f ats ps)(hi:i<K qes)(c:k<K qes):J.aZ jes f k i=Y↔(WH qes f ps).rd i k:=by
 unfold J.aZ;rw[xF,(eR (h.w.er i hi)).1,ν,ν,h.mF hi c]
 grind [CR.eT]
theorem CR.PR(h:CR jes qes f ats ps)(hi:i<K qes)(c:k<K qes)(d:i≠k):locB jes f ats i k=Y↔LR qes f ps i k:=by
 unfold locB LR;rw[x5,xF,xF,xF,h.GS hi c,h.comm hi c,h.iZ hi c]
 grind
theorem CT.KH(h:CT jes qes f ats ps fs):J.MayT jes f ats↔(WH qes f ps).TMay (Ao qes) (fbR qes fs):=by
 have len:=h.c.w.len;have o:∀{x y:ξ},LR qes f ps x y->x<K qes/\y<K qes:=λ{x y} e=>by
  rcases e with e|e
  ·exact⟨e.1,e.2.1⟩
  ·exact h.c.iV e.1
 have H:∀{x:ξ},x<K qes->locB jes f ats x x=I:=λ{x} d=>by
  cases c:locB jes f ats x x
  ·rfl
  ·exfalso;unfold locB at c;rw[x5,xF,xF]at c
   rcases c with⟨_,c⟩|⟨c,_⟩
   ·have:=(h.c.comm d d).1 c
    rcases this with(a|a)|⟨m,a,b⟩
    ·have C:=(h.c.mF d d).1 a;have:=h.c.eT d C;have:=(h.c.to d C).2.1;omega
    ·have:=(h.c.rQ d d).1 a
     grind [J.order]
    ·have l:m<K qes/\x<K qes:=h.c.iV (xR (xR a));have L:=h.c.eT d ((h.c.mF d l.1).1 a);have:=b.2.2
     simp_all [ZQ,xF,ν]
   grind [J.aQ]
 have D:∀{x y:ξ},x<K qes->y<K qes->(locB jes f ats x y=Y↔LR qes f ps x y):=λ{x y} d u=>by
  by_cases c:x=y
  ·subst c;rw[H d];refine⟨λe=>(by cases e),λe=>?_⟩
   rcases e with e|⟨e1,e2⟩
   ·have:=(h.c.GS d d).1 e
    grind [locB]
   ·exact absurd Z ((h.c.iZ d d).1 e2).1
  ·exact h.c.PR d u c
 constructor
 ·intro m;have G:=LK.1 m.cse;have E:=LK.1 m.loc;rw[len]at G E;have B:∀{i k:ξ},(WH qes f ps).cause (fbR qes fs) i k->bad jes f ats i k=Y->False:=λ{i k} e b=>by
   have c:=h.AO e
   grind [MayT.link]
  refine⟨λi e=>?_,λi ⟨k,e1,e2⟩=>B e2 ?_,λi k ⟨e1,e2⟩=>B e2 ?_,h.c.whole.1 m.whole,λi e=>?_,λi ⟨k,e1,e2⟩=>B e2 ?_⟩
  ·have c:=h.AO e
   grind
  ·have s:=(h.fb i k e1.1 e1.2.1).2 e1;unfold bad;rw[h.c.scS e1.1 e1.2.1 s.1,decide_eq_true s.2];simp
  ·have l:k<K qes/\i<K qes:=h.c.iV (xR (xR e1));unfold bad;rw[(h.c.rdB l.2 l.1).2 e1];simp
  ·have F:=(TN (λx y e=>o e) e).1;have:=E i F;have t:cl (K qes) (locB jes f ats) i i=Y:=by
    unfold cl;rw[cG];exact TC.mono (λx y e=>⟨(o e).1,(o e).2,(D (o e).1 (o e).2).2 e⟩) e
   grind
  ·unfold bad
   rcases e1 with e1|e1
   ·rw[(h.c.rQ e1.1 e1.2.1).1 e1];simp
   ·have l:=h.c.iV (xW e1);rw[(h.c.msX l.1 l.2).2 e1];simp
 ·intro m;have r:∀i,¬TC (LR qes f ps) i i:=m.stand;refine⟨LK.2 λi hi=>?_,h.c.whole.2 m.split,λi k hi q ⟨e1,e2⟩=>?_,LK.2 λi hi=>?_⟩
  ·rw[len]at hi
   cases c:J.cse jes f ats i i
   ·rfl
   ·exact absurd (h.cse r hi hi c) (m.circ i)
  ·rw[len]at hi q;have c:=h.cse r hi q e1;unfold bad at e2;rw[x5,x5,x5,xF,ι]at e2
   rcases e2 with e|e|e|e
   ·exact m.agree k ⟨i,xR ((h.c.rQ q hi).2 e),c⟩
   ·exact m.fenc k ⟨i,(h.fb k i q hi).1 ⟨h.c.scS hi q e.1,e.2⟩,c⟩
   ·exact m.back i k ⟨(h.c.rdB hi q).1 e,c⟩
   ·exact m.agree k ⟨i,xW ((h.c.msX q hi).1 e),c⟩
  ·cases c:cl (K jes) (locB jes f ats) i i
   ·rfl
   exfalso;unfold cl at c;rw[cG,len]at c;exact r i (TC.mono (λx y ⟨d,u,e⟩=>(D d u).1 e) c)
end
end J
structure Q.TClash(es:σ Ev)(X:Q.Sys)(B:ξ->ξ->Prop)(i k:ξ):Prop where
 li:i<K es
 lk:k<K es
 kind:(Q.ev es i).kind=1
 ne:i≠k
 weak:¬X.G i k
 z:(Q.ev es i).z=(Q.ev es k).z
 acc:ZA (Q.ev es k)=Y
 ik:¬B i k
 ki:¬B k i
namespace J
section
variable {jes:σ E}{qes:σ Q.Ev}{f ats ps fs:σ ω}
theorem CT.clash(H:CT jes qes f ats ps fs)(hm:∀i,¬TC (LR qes f ps) i i):J.cS jes (J.cse jes f ats)↔∃i k,TClash qes (WH qes f ps) ((WH qes f ps).cause (fbR qes fs)) i k:=by
 have h:=H.c;have E:∀i k,i<K qes->k<K qes->(J.cse jes f ats i k=I↔¬(WH qes f ps).cause (fbR qes fs) i k):=λi k hi q=>by
  grind [CT.AO,CT.cse]
 have ah:∀{i k:ξ},i<K qes->k<K qes->i<3->3<=k->(WH qes f ps).cause (fbR qes fs) i k:=λ{i k} hi q c d=>xR (xW ((h.gI hi q).2 (by simp_all [J.aQ,if_pos])))
 have cc:∀{i k:ξ},i<K qes->k<K qes->3<=i->3<=k->i≠k->(Q.ev qes i).kind=1->ZA (Q.ev qes k)=Y->(Q.ev qes i).z=(Q.ev qes k).z->¬(WH qes f ps).cause (fbR qes fs) i k->¬(WH qes f ps).cause (fbR qes fs) k i->J.aJ jes i k=I->TClash qes (WH qes f ps) ((WH qes f ps).cause (fbR qes fs)) i k:=λhi q _ _ r L M F N O h6=>⟨hi,q,L,r,λe=>by grind [CR.iZ],F,M,N,O⟩
 constructor
 ·rintro⟨i,k,F,W,q,e⟩;rw[h.w.len]at q;have hi:i<K qes:=by omega
  have u:=h.w.er i hi;have B:=h.w.er k q;unfold dQ TO iN at e;rw[(eR u).1,(eR u).2.1,(eR B).1,(eR B).2.1]at e;simp only[xF,xl,xk,Bool.not_eq_false',x5,ν]at e
  grind [ER.v,ZA,CR.oV]
 ·rintro⟨i,k,c⟩;have hi:=c.li;have q:=c.lk;have X:3<=i:=by
   rcases xa i 3 with x|x
   ·rcases xa k 3 with y|y
    ·have:=c.z;rw[(h.w.fk i x).2,(h.w.fk k y).2]at this
     grind [TClash.ne]
    grind [TClash.ik]
   ·exact x
  have k3:3<=k:=by
   grind [TClash.ki]
  have ns:J.aJ jes i k=I:=by
   cases s:J.aJ jes i k
   ·rfl
   ·exact absurd ((h.iZ hi q).2 ⟨c.ne,s⟩) c.weak
  have ka:(Q.ev qes k).kind=0\/(Q.ev qes k).kind=1:=by
   grind [TClash.acc,ZA]
  have u:=h.w.er i hi;have B:=h.w.er k q;have tn:((ev jes i).t==(ev jes k).t)=I:=by
   simp_all [J.aJ,π]
  have G:(ev jes i).loc=(ev jes k).loc:=by grind [ER.v,TClash.kind,TClash.z]
  have C:=(E i k hi q).2 c.ik;have D:=(E k i q hi).2 c.ki;have fin:∀{x y:ξ},iN (ev jes x) (ev jes y)=Y->(ev jes x).loc=(ev jes y).loc->((ev jes x).t==(ev jes y).t)=I->J.cse jes f ats x y=I->J.cse jes f ats y x=I->J.aJ jes x y=I->dQ jes (J.cse jes f ats) x y=Y:=λa b c d e g=>by
   grind [dQ,TO]
  rcases xa i k with o|o
  ·refine⟨i,k,X,o,by rw[h.w.len];exact q,fin ?_ G tn C D ns⟩
   grind [iN,eR,TClash.kind]
  ·have o':k<i:=by have:=c.ne;omega
   refine⟨k,i,k3,o',by rw[h.w.len];exact hi,fin ?_ G.symm (by grind) D C (by grind [CR.oV])⟩
   grind [iN,eR,TClash.kind]
end
end J
namespace Q
section
variable {es:σ Ev}{rs:σ ω}
theorem Mt(o:K es<=64)(x:K rs=K es)(ps:W N){cs:W O}{B:O->O->Prop}(q:WJ (K es) cs B):(WG es).bP cs=Y↔∃i k,TClash es (WH es rs ps) B i k:=by
 have u:WJ (K es) (WG es).G (WH es rs ps).G:=⟨(wV o).1,(wV o).2⟩;unfold Ex.bP Ex.dD Ex.cH;rw[II];simp only[xd,List.mem_range];constructor
 ·rintro⟨i,hi,k,r,h⟩;rw[xF,xF,xF,xF,xF,xF,ED o u i k r,ED o q i k r,ED o q k i hi]at h;obtain⟨⟨⟨⟨⟨⟨a,b⟩,c⟩,d⟩,e⟩,f⟩,g⟩:=h;exact⟨i,k,hi,r,by simpa using a,by simpa using b,c,by simpa using d,e,f,g⟩
 ·rintro⟨i,k,h⟩;refine⟨i,h.li,k,h.lk,?_⟩;rw[xF,xF,xF,xF,xF,xF,ED o u i k h.lk,ED o q i k h.lk,ED o q k i h.li]
  grind [TClash.kind,TClash.ne,TClash.weak,TClash.z,TClash.acc,TClash.ik,TClash.ki]
end
theorem kGr(ts:W VZ):(eU ts).clash=Y↔∃c∈DH ts,∃d∈wY c.wd,∃fs∈xL c.wd,tgtMay c d fs/\c.F.bP (c.F.WE c.D c.wd fs)=Y:=by
 unfold eU;rw[NM mS (λc=>∃d∈wY c.wd,∃fs∈xL c.wd,tgtMay c d fs/\c.F.bP (c.F.WE c.D c.wd fs)=Y) ?_]
 ·simp
 ·intro a c;have B:(vB c.wd c.F c.D (c.F.cF c.D c.wd) a).clash=Y↔a.clash=Y\/∃d∈wY c.wd,∃fs∈xL c.wd,tgtMay c d fs/\c.F.bP (c.F.WE c.D c.wd fs)=Y:=by
   unfold vB;rw[show XH (XR c.wd.E (WQ c.wd.E))=wY c.wd from rfl];rw[NM _ (λd=>c.F.XJ c.D (YP c.F.E (ZK c.wd d)) (YB c.D (YP c.F.E (ZK c.wd d)))=Y/\∃x∈c.F.cF c.D c.wd,Ab x (YP c.F.E (ZK c.wd d)) (YB c.D (YP c.F.E (ZK c.wd d)))=Y/\c.F.bP x=Y) λa d=>?_]
   ·constructor
    ·rintro(q|⟨d,r,q,x,C,o,u⟩)
     ·exact xR q
     ·rw[BE c.F c.D c.wd x]at C;obtain⟨fs,f,G,e⟩:=C;rw[e]at o u;exact xW ⟨d,r,fs,f,tgtMay.mk G q o,u⟩
    ·rintro(q|⟨d,r,fs,f,o,u⟩)
     ·exact xR q
     ·exact xW ⟨d,r,o.stand,c.F.WE c.D c.wd fs,(BE c.F c.D c.wd (c.F.WE c.D c.wd fs)).2 ⟨fs,f,o.cause,Z⟩,o.agree,u⟩
   ·unfold qB;rw[show WT (WQ c.wd.E) d=ZK c.wd d from rfl]
    split
    ·rename_i h;rw[NM _ (λx=>Ab x (YP c.F.E (ZK c.wd d)) (YB c.D (YP c.F.E (ZK c.wd d)))=Y/\c.F.bP x=Y) λa x=>?_]
     ·simp[h]
     grind [qL]
    ·rename_i h;simp[h]
  unfold mS
  split
  ·rename_i h;rw[xt]at h;refine⟨xR,λq=>q.elim id λ⟨d,_,fs,f,o,_⟩=>?_⟩;have:=(BE c.F c.D c.wd (c.F.WE c.D c.wd fs)).2 ⟨fs,f,o.cause,Z⟩
   grind
  ·exact B
end Q
structure O4(a:Act)(g v:ξ):Prop where
 sz:a.tmps.size=106
 df:a.defers=[]
 s6:gA a 6=.pointer (U ⟨g,0,S⟩)
 s12:gA a 12=.int .i64 (v:ω)
structure FW(ws:ψ)(g:ξ)(pv ev:φ)(v:ξ)(w':ψ):Prop where
 blk:Blk w' g (jw Y pv ev XQ XQ XQ XQ XQ I) 109
 row:w'.ownsRow ws.heap.size 116 10 ev v (XS (J.fws v) (xg v XQ))
 x:JX (λk=>k=g) ws w'
 lg:g<ws.heap.size
theorem FW.next{v:ξ}{ev:φ}(h:FW ws g pv ev v w1)(d:w5.ownsRow ws.heap.size 116 10 (VV g5 (v+1) c5) (v+1) (XS (J.fws v) (xg v XQ)++iM (J.fw (v:ω)) XQ))(f:(w1.alloc (A (iM (J.fw (v:ω)) XQ).toArray 116)).grownBy w5 ev.ownBlock):
  FW ws g pv (VV g5 (v+1) c5) (v+1) (w5.setCell ⟨g,2,S⟩ (VV g5 (v+1) c5)):=by
 have c:υ w1.heap.size w1 (w1.alloc (A (iM (J.fw (v:ω)) XQ).toArray 116)):=bB;have u:=h.x.size;have r:=h.lg;have E:∀b,ev.ownBlock=U b->ws.heap.size<=b:=λb B=>(h.row.lt b B).1
 have D:JX (λk=>k=g) ws w5:=⟨f.os.trans (c.os.trans h.x.os),f.tape.trans (c.tape.trans h.x.tape),f.output.trans (c.output.trans h.x.output),xo u (xo c.size f.size),λk q C=>(f.block k (x6 (x6 q u) c.size) λe=>by grind).trans ((c.block k (by omega)).trans (h.x.block k q C))⟩;have o:Blk w5 g (jw Y pv ev XQ XQ XQ XQ XQ I) 109:=(h.blk.X c).keep (f.block g (x6 h.blk.lt c.size) λe=>by grind);refine⟨o.set 2 _,?_,D.set (xR Z) _ _,r⟩;have e:XS (J.fws (v+1)) (xg (v+1) XQ)=XS (J.fws v) (xg v XQ)++iM (J.fw (v:ω)) XQ:=by
  grind [J.tO,List.replicate_succ',FV,J.cP,XS]
 rw[e];exact ζ d λe=>by have:=(d.lt g e).1;omega _
def zLv{a:Act}(M:Blk ws g (jw Y pv XQ XQ XQ XQ XQ XQ I) 109)(X:a.tmps.size=106)(H:a.defers=[])(W:gA a 6=.pointer (U ⟨g,0,S⟩))(hN:∀a' w' ev,a'.tmps.size=106->a'.defers=[]->gA a' 6=.pointer (U ⟨g,0,S⟩)->FW ws g pv ev 3 w'->bC τ ((uF f22).drop 6) (γ τ f22 R0) a' w'):
  bC τ ((uF f22).drop 4) (γ τ f22 R0) a ws:=by
 obtain⟨i0,hi,ae,af,ag⟩:=uV Tryz.infoE;have HN:=aD hN;have F:aC (FW ws g pv XQ 0 ws):=⟨M,World.ownsRow_nil _ _ _ _,JX.refl _ _,M.lt⟩;clear hN M;rw[eH X H];simp only[x7,List.range.loop,x8,x9,W];generalize gA a=f;clear W X H;refine aH Z λq c=>?_;go_wp2;apply c.o;refine lH 5 Mf Z λK8 ab=>?_;rw[uF5];refine ρ (κ (λa w'=>∃v ev,v<=3/\O4 a g v/\FW ws g pv ev v w') (λa _=>3-(η (gA a 12)).toNat) ⟨0,XQ,by omega,⟨Z,Z,Z,Z⟩,F⟩ λa w1 hL=>?_);obtain⟨v,ev,hv,hf,hF⟩:=hL;refine fU _ _ _ _ ?_;show bC τ ((uP f22).drop 0) _ a w1;have O:3-(η (gA a 12)).toNat=3-v:=by rw[hf.s12];simp[η]
 rw[O];have B:=aD hF;clear O F hF;obtain⟨X,H,W,D⟩:=hf;rw[eH X H];simp only[x7,List.range.loop,x8,x9,W,D];generalize gA a=f2;clear W D X H;by_cases hlt:v<3
 ·have aj:(v:ω)<3:=by omega
  refine aH Z λq c=>?_;go_wp2;apply c.o;refine aH Z λq c=>?_;go_wp2;apply c.o;refine lH 2 zOU Z λK2 aa=>?_;rw[uP2];refine ρ (fU _ _ _ _ ?_);show bC τ ((uE f22).drop 0) _ _ w1;obtain⟨ea,ec,rfl⟩:=nP B.row;have cg:=B.blk.cell (i:=2) (v:=T ea v ec) Z;have fg:=B.blk.free 2;have lg:=B.blk.lt;have C:aC (υ w1.heap.size w1 (w1.alloc (A (iM (J.fw (v:ω)) XQ).toArray 116))):=bB;have G:aC (∀b,xu (T ea v ec)=U b->b≠g):=λb M e=>by have:=(B.row.lt b M).1;have:=B.lg;omega
  have ak:ws.heap.size<=w1.heap.size:=B.x.size;refine aH Z λq c=>?_
  conv=>arg 2;whnf
  go_wp2_with(first|(at_builtin;refine θ _ Z (.tmp 89) (.tmp 92) 107 Z ws.heap.size 116 i0 (.agg (iM J.E.zero (T S 0 0)).toArray) 10 120 underlying107 hi ae af ag Z (by decide) _ v (XS (J.fws v) (xg v XQ)) Z (by exact qO B.row C) ⟨w1.heap.size,0,S⟩ 1 1 (iM (J.fw (v:ω)) XQ) Z Z (λj u hu=>by rw[tK,Nat.zero_add];exact(Blk.new w1 (iM (J.fw (v:ω)) XQ) 116).cell hu) (by exact PU [J.fw (v:ω)] [XQ] (by simp[XQ];rfl)) (by decide) (by unfold maxLen;omega) (by omega) (by simp;omega) (w1.heap.size+1) (by simp) ?_;intro g5 c5 w5 r d L N;have ac:=aD (B.next (g5:=g5) (c5:=c5) (w5:=w5) r d);have ah:=(d.cell_far ⟨g,2,S⟩ (by simp;omega) λe=>G g e.symm Z).trans (cK C lg cg);have ai:=(d.frozen_far ⟨g,2,S⟩ (by simp;omega) λe=>G g e.symm Z).trans (fK C lg fg);have al:g<w5.heap.size:=(by have:=d.size;simp at this;omega);clear r d L N));apply c.o;apply aa;refine aH Z λq c=>?_;go_wp2;apply c.o;refine⟨⟨v+1,_,hlt,⟨Z,Z,Z,Z⟩,ac⟩,?_⟩;show 3-((v:ω)+1).toNat<3-v;omega
 ·have ad:v=3:=by omega
  subst ad;refine aH Z λq c=>?_;go_wp2;apply c.o;refine aH Z λq _=>?_;go_wp2;apply ab;exact HN _ _ _ Z Z Z B
