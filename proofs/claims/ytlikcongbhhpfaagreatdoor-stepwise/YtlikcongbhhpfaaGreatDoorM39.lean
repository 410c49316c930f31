import Derived.Test.YtlikcongbhhpfaaGreatDoorM13
import Derived.Test.YtlikcongbhhpfaaGreatDoorM38
set_option linter.unusedVariables false
set_option linter.unusedSimpArgs false
set_option maxHeartbeats 12800000
namespace Go.Proofs.YtlikcongbhhpfaaGreatDoor
open Go Go.RowKit Go.Proofs.Tryz P Q
set_option maxRecDepth 1000000
variable {ds fs ps rs:List Int}{p q:Nat->Bool}{B:Nat->Nat->Bool}{i w:Nat}{v:Int}
open List renaming length->I
open Bool renaming true->Y
open List renaming range->xF,getD_eq_getElem?_getD->xR,replicate->x1,getElem?_eq_getElem->x3,getElem_of_mem->x4
open Bool renaming and_eq_true->xW,not_eq_true->x5
open Or renaming inl->x0
open Nat renaming le_refl->x2
namespace Q
theorem QF(es:List Ev)(i:Nat)(h:i<I es):ev es i=es[i]:=by
 unfold ev;rw[xR,x3 h];rfl
theorem PI(es:List Ev)(i:Nat)(h:I es<=i):ev es i=Ev.zero:=by
 unfold ev;rw[xR,List.getElem?_eq_none h];rfl
theorem PF(es fs:List Ev)(i:Nat):ev (es++fs) i=if i<I es then ev es i else ev fs (i-I es):=by
 unfold ev;rw[xR,xR,xR,List.getElem?_append]
 split<;>rfl
theorem QG(g:Ev->Ev)(es:List Ev)(i:Nat):ev (es.map g) i=if i<I es then g (ev es i)else Ev.zero:=by
 by_cases h:i<I es
 ·rw[if_pos h,QF _ _ (by simpa using h),QF _ _ h];simp
 ·rw[if_neg h,PI _ _ (by simpa using h)]
section
variable {m:Ex}{es':List Ev}{s t:P.JR}
end
section
variable {es es':List Ev}
end
theorem Bp(es:List Ev):(KL es).length=I es:=by simp[KL]
namespace Sys
def bZ(X:Sys)(fb:Nat->Nat->Prop)(a b:Nat):Prop:=(X.bT a b\/X.J a b)\/fb a b
def AU(X:Sys)(fb:Nat->Nat->Prop)(a b:Nat):Prop:=X.bZ fb a b\/Th (X.bZ fb) X.C a b
def base(X:Sys)(fb:Nat->Nat->Prop):Nat->Nat->Prop:=TC fun a b=>X.AU fb a b\/Th X.C (X.AU fb) a b
def cause(X:Sys)(fb:Nat->Nat->Prop)(a b:Nat):Prop:=(X.base fb a b\/X.C a b)\/Th (fun a b=>X.aJ b a) (X.base fb) a b
structure TMay(X:Sys)(rows fb:Nat->Nat->Prop):Prop where
 circ:∀i,¬X.cause fb i i
 fenc:∀i,¬Th fb (X.cause fb) i i
 back:∀i k,¬(X.rd i k/\X.cause fb i k)
 split:∀i,¬Th (Th X.L X.misses) X.bh i i
 stand:∀i,¬TC (fun a b=>rows a b\/X.comm a b/\X.G a b) i i
 agree:∀i,¬Th (fun a b=>X.bh a b\/X.misses a b) (X.cause fb) i i
end Sys
def Bq(es:List Ev)(i k:Nat):Prop:=i<I es/\k<I es/\isRow i (ev es i) k (ev es k)=Y
def rA(es:List Ev)(fs:List Int)(i k:Nat):Prop:=i<I es/\k<I es/\PN i (ev es i) k (ev es k)=Y/\fs.getD i 0<fs.getD k 0
theorem KV.wK{n:Nat}{r:List Nat}{R:Nat->Nat->Prop}(c:KV n r R):cU r=Y↔∃i k,R i k:=by
 unfold cU;rw[List.any_eq_true];constructor
 ·rintro⟨x,e,h⟩;obtain⟨i,b,rfl⟩:=x4 e;obtain⟨k,d⟩:=Nat.exists_testBit_of_ne_zero (by simpa using h);exact⟨i,k,(c.bit i k).1 (by unfold LB;rw[mX _ _ b];exact d)⟩
 ·rintro⟨i,k,h⟩;have a:=(c.bit i k).2 h;have b:=a.left;refine⟨r[i],List.getElem_mem b,?_⟩;unfold LB at a;rw[mX _ _ b]at a
  cases h0:r[i]with
  |zero=>rw[h0]at a;simp at a
  |succ m=>rfl
section
variable {es:List Ev}{rs:List Int}
theorem Br(g:I es<=64)(j:I fs=I es):KV (I es) ((KK es).Ec fs) (rA es fs):=by
 have h:=DN g (fun i k=>bB (KK es).N (i:Int) (k:Int)&&decide (fs.getD i 0<fs.getD k 0)) (oT (KK es).N fs) (fun r i=>by unfold oT;rw[j];rfl);have e:(KK es).Ec fs=(xF (I es)).foldl (oT (KK es).N fs) (LH (I es)):=by unfold Ey.Ec;rw[j,tS]
 rw[e];refine⟨h.1,fun a b=>?_⟩;rw[h.2];unfold rA;constructor
 ·rintro⟨d,f,c⟩;rw[xW,decide_eq_true_eq]at c;exact⟨d,f,(((yR g).2 a b).1 ((lW _ a b (by omega)).1 c.1)).2.2,c.2⟩
 ·rintro⟨d,f,c,l⟩;refine⟨d,f,?_⟩;rw[xW,decide_eq_true_eq];exact⟨(lW _ a b (by omega)).2 (((yR g).2 a b).2 ⟨d,f,c⟩),l⟩
theorem R7(a:I es<=64)(f:I rs=I es)(ps:List Int)(g:I fs=I es):KV (I es) ((KK es).cause ((KK es).aJ ((KK es).D rs)) (cE ((KK es).bZ ((KK es).D rs)) ((KK es).Ec fs))) ((NX es rs ps).cause (rA es fs)):=by
 have b:KV (I es) (KK es).C (NX es rs ps).C:=⟨(AC a).1,(AC a).2⟩;have e:KV (I es) (cE ((KK es).bZ ((KK es).D rs)) ((KK es).Ec fs)) ((NX es rs ps).bZ (rA es fs)):=
  ((WL a f ps).or (O:=(NX es rs ps).J) ⟨(AW a).1,(AW a).2⟩).or (Br a g)
 have c:KV (I es) _ ((NX es rs ps).AU (rA es fs)):=e.or (e.iI a b);have d:KV (I es) (xQ (KK es).C (cE ((KK es).bZ ((KK es).D rs)) ((KK es).Ec fs))) ((NX es rs ps).base (rA es fs)):=(c.or (b.iI a c)).cl a;exact(d.or b).or (((CK a f ps).kF a).iI a d)
theorem R8(c:I es<=64)(t:I rs=I es)(ps:List Int)(s:I fs=I es){rd n:List Nat}(E:rd=(KK es).D rs)(F:n=(KK es).cause ((KK es).aJ rd) (cE ((KK es).bZ rd) ((KK es).Ec fs))):
  PA rd n ((KK es).Ec fs)=Y/\(KK es).LU rd (LW es ps) (LR rd (LW es ps))=Y/\PX n (LW es ps) (LR rd (LW es ps))=Y↔(NX es rs ps).TMay (Bq es) (rA es fs):=by
 subst E;have g:=R7 c t ps s;rw[<- F]at g;have d:KV (I es) (LW es ps) (NX es rs ps).bh:=xL c ps;have f:=tB c t ps;have e:KV (I es) _ (NX es rs ps).misses:=f.iI c d;have o:KV (I es) (pD ((KK es).D rs) (LW es ps) (LR ((KK es).D rs) (LW es ps))) (NX es rs ps).comm:=((f.kF c).or d).or e;have u:=mE (g.fD c);have x:=mE (((Br c s).iI c g).fD c);have y:=mE ((f.and g).wK);have z:=mE (((KV.iI c (CZ (rs:=rs) c ps) e).iI c d).fD c);have A:=mE ((KV.or (R:=Bq es) ⟨(WC c).1,(WC c).2⟩ (o.and (O:=(NX es rs ps).G) ⟨(sN c).1,(sN c).2⟩)).hY c);have C:=mE (((d.or e).iI c g).fD c);unfold PA Ey.LU PX Ey.cF;constructor
 ·rintro⟨j,l,r⟩
  split at j
  ·cases j
  rename_i a
  split at l
  ·cases l
  rename_i b;rw[x5,Bool.or_eq_false_iff]at a;rw[x5]at b;rw[Bool.not_eq_true']at j l r;exact⟨fun i h=>u.1 a.1 ⟨i,h⟩,fun i h=>x.1 a.2 ⟨i,h⟩,fun i k h=>y.1 j ⟨i,k,h⟩,fun i h=>z.1 b ⟨i,h⟩,fun i h=>A.1 l ⟨i,h⟩,fun i h=>C.1 r ⟨i,h⟩⟩
 ·intro m;rw[u.2 fun⟨i,h⟩=>m.circ i h,x.2 fun⟨i,h⟩=>m.fenc i h,y.2 fun⟨i,k,h⟩=>m.back i k h,z.2 fun⟨i,h⟩=>m.split i h,A.2 fun⟨i,h⟩=>m.stand i h,C.2 fun⟨i,h⟩=>m.agree i h];exact⟨Z,Z,Z⟩
end
def rG(w:Wd):List (List Int):=LX (KY w.E (LC w.E))
structure tgtMay(c:Cand)(ds fs:List Int):Prop where
 cause:PA c.D (c.F.LL c.D c.wd fs) (c.F.Ec (LK (LC c.wd.E) fs))=Y
 stand:c.F.LU c.D (LW c.F.E (OI c.wd ds)) (LR c.D (LW c.F.E (OI c.wd ds)))=Y
 agree:PX (c.F.LL c.D c.wd fs) (LW c.F.E (OI c.wd ds)) (LR c.D (LW c.F.E (OI c.wd ds)))=Y
theorem DY(f:Ey)(b:List Nat)(w:Wd)(x:List Nat):x∈f.bH b w↔∃fs∈rG w,PA b (f.LL b w fs) (f.Ec (LK (LC w.E) fs))=Y/\x=f.LL b w fs:=by
 unfold Ey.bH rG;simp only[List.mem_map,List.mem_filter];exact⟨fun⟨a,⟨c,d⟩,e⟩=>⟨a,c,d,e.symm⟩,fun⟨a,c,d,e⟩=>⟨a,⟨c,d⟩,e.symm⟩⟩
theorem R9(w:Wd)(f:Ey)(c:List Nat)(e:List (List Nat))(ds:List Int)(a:MA)(r:List Int):r∈(jO w f c e a ds).y↔r∈a.y\/f.LU c (LW f.E (OI w ds)) (LR c (LW f.E (OI w ds)))=Y/\∃x∈e,PX x (LW f.E (OI w ds)) (LR c (LW f.E (OI w ds)))=Y/\r=OH w (OI w ds):=by
 unfold jO;rw[show LK (aE w.E) ds=OI w ds from rfl];generalize OI w ds=ps;generalize OH w ps=o;generalize LW f.E ps=d;generalize LR c d=g
 split
 ·rename_i h;rw[uC (jV o f d g) (fun x r=>PX x d g=Y/\r=o) (fun a x r=>?_) r]
  ·simp[h]
  ·unfold jV
   split
   ·rename_i b;rw[BQ];exact⟨fun h=>h.elim (fun h=>Or.inr ⟨b,h⟩) x0,fun h=>h.elim Or.inr fun h=>x0 h.2⟩
   ·rename_i b;exact⟨x0,fun h=>h.elim id fun h=>absurd h.1 b⟩
 ·rename_i h;exact⟨x0,fun b=>b.elim id fun j=>absurd j.1 h⟩
theorem RO(l:List JV)(r:List Int):r∈(MI l).y↔∃c∈PW l,∃ds∈pY c.wd,∃fs∈rG c.wd,tgtMay c ds fs/\r=OH c.wd (OI c.wd ds):=by
 unfold MI;rw[uC jD (fun c r=>∃ds∈pY c.wd,∃fs∈rG c.wd,tgtMay c ds fs/\r=OH c.wd (OI c.wd ds)) ?_ r]
 ·simp
 ·intro a c r;have KP:r∈(pV c.wd c.F c.D (c.F.bH c.D c.wd) a).y↔r∈a.y\/∃ds∈pY c.wd,∃fs∈rG c.wd,tgtMay c ds fs/\r=OH c.wd (OI c.wd ds):=by
   unfold pV;rw[show LX (KY c.wd.E (aE c.wd.E))=pY c.wd from rfl];rw[uC _ _ (fun a ds r=>R9 c.wd c.F c.D (c.F.bH c.D c.wd) ds a r) r];constructor
   ·rintro(f|⟨ds,g,f,x,k,d,j⟩)
    ·exact x0 f
    ·rw[DY c.F c.D c.wd x]at k;obtain⟨fs,b,m,e⟩:=k;rw[e]at d;exact Or.inr ⟨ds,g,fs,b,tgtMay.mk m f d,j⟩
   ·rintro(f|⟨ds,g,fs,b,d,j⟩)
    ·exact x0 f
    ·exact Or.inr ⟨ds,g,d.stand,c.F.LL c.D c.wd fs,(DY c.F c.D c.wd (c.F.LL c.D c.wd fs)).2 ⟨fs,b,d.cause,Z⟩,d.agree,j⟩
  unfold jD
  split
  ·rename_i h;rw[List.isEmpty_iff]at h;refine⟨x0,fun f=>f.elim id fun⟨ds,_,fs,b,d,_⟩=>?_⟩;have:=(DY c.F c.D c.wd (c.F.LL c.D c.wd fs)).2 ⟨fs,b,d.cause,Z⟩;rw[h]at this;cases this
  ·exact KP
theorem Sa(b:List JV):OX (MI b).y:=by
 refine sS _ (fun a c h=>?_) _ _ List.Pairwise.nil;unfold jD
 split
 ·exact h
 refine sS _ (fun a ds h=>?_) _ _ h;unfold jO
 split
 ·refine sS _ (fun a x h=>?_) _ _ h;unfold jV
  split
  ·exact BH h
  ·exact h
 ·exact h
def cB(m:Nat)(p:Nat->Bool):Nat:=((xF m).filter p).length
theorem pX(m:Nat)(p:Nat->Bool):cB (m+1) p=cB m p+if p m=Y then 1 else 0:=by
 unfold cB;rw[List.range_succ,List.filter_append,List.length_append]
 cases h:p m<;>simp[h]
theorem sC{p q:Nat->Bool}:∀m,(∀k,k<m->p k=Y->q k=Y)->cB m p<=cB m q
 |0,_=>x2 _
 |m+1,h=>by
  rw[pX,pX];have ih:=sC m fun k a=>h k (by omega)
  cases hp:p m
  ·simp;omega
  ·rw[(h m (by omega)) hp];simp;omega
theorem zG{p q:Nat->Bool}:∀m,(∀k,k<m->p k=Y->q k=Y)->(∃k,k<m/\q k=Y/\p k=false)->cB m p<cB m q
 |0,_,⟨k,hk,_⟩=>absurd hk (by omega)
 |m+1,h,⟨k,hk,h1,h2⟩=>by
  rw[pX,pX];by_cases e:k=m
  ·subst e;have ih:=sC k fun j a=>h j (by omega);rw[h1,h2];simp;omega
  ·have ih:=zG m (fun j a=>h j (by omega)) ⟨k,by omega,h1,h2⟩
   cases hp:p m
   ·simp;omega
   ·rw[(h m (by omega)) hp];simp;omega
theorem Bs{s p q:Nat->Bool}:∀m,(∀k,k<m->(s k=Y↔p k=Y\/q k=Y)/\¬(p k=Y/\q k=Y))->cB m s=cB m p+cB m q
 |0,_=>Z
 |m+1,h=>by
  rw[pX,pX,pX,Bs m fun k c=>h k (by omega)];obtain⟨a,b⟩:=h m (by omega)
  cases hp:p m<;>cases hq:q m<;>cases hs:s m<;>simp[hp,hq,hs]at a b⊢<;>omega
theorem Sb(m:Nat)(h:∀k,k<m->p k=false):cB m p=0:=by
 have:=sC (p:=p) (q:=fun _=>false) m (fun k a e=>by rw[h k a]at e;cases e);have b:cB m (fun _=>false)=0:=by unfold cB;simp
 omega
theorem BI(l:List Int)(i j:Nat)(x:Int)(h:i<I l):(l.set i x).getD j 0=if j=i then x else l.getD j 0:=by
 by_cases e:j=i
 ·subst e;rw[if_pos rfl,xR,List.getElem?_set_self h];rfl
 ·rw[if_neg e,xR,List.getElem?_set_ne (Ne.symm e),xR]
theorem Bt(rs p:List Int)(i:Nat)(k:i<I p):∀m,m<=i->((xF m).foldl (lD rs i) p).length=I p/\∀j,((xF m).foldl (lD rs i) p).getD j 0=if j<m/\rs.getD j (-1)=rs.getD i (-1)/\p.getD i 0<=p.getD j 0 then p.getD j 0+1 else p.getD j 0
 |0,_=>⟨Z,fun j=>by simp⟩
 |m+1,hm=>by
  rw[fP];obtain⟨d,b⟩:=Bt rs p i k m (by omega);generalize(xF m).foldl (lD rs i) p=q at d b;have f:q.getD i 0=p.getD i 0:=by rw[b,if_neg (by omega)]
  have g:q.getD m 0=p.getD m 0:=by rw[b,if_neg (by omega)]
  unfold lD;rw[f,g];by_cases c:rs.getD m (-1)=rs.getD i (-1)/\p.getD i 0<=p.getD m 0
  ·rw[if_pos (by simp only[xW,beq_iff_eq,decide_eq_true_eq];exact c)];refine⟨by simp[d],fun j=>?_⟩;rw[BI _ _ _ _ (by omega)];by_cases e:j=m
   ·subst e;rw[if_pos rfl,if_pos ⟨by omega,c⟩]
   ·rw[if_neg e,b];by_cases c2:j<m/\rs.getD j (-1)=rs.getD i (-1)/\p.getD i 0<=p.getD j 0
    ·rw[if_pos c2,if_pos ⟨by omega,c2.2⟩]
    ·rw[if_neg c2,if_neg fun a=>c2 ⟨by omega,a.2⟩]
  ·rw[if_neg (by simp only[xW,beq_iff_eq,decide_eq_true_eq];exact c)];refine⟨d,fun j=>?_⟩;rw[b];by_cases e:j=m
   ·subst e;rw[if_neg (by omega),if_neg fun a=>c a.2]
   ·by_cases c2:j<m/\rs.getD j (-1)=rs.getD i (-1)/\p.getD i 0<=p.getD j 0
    ·rw[if_pos c2,if_pos ⟨by omega,c2.2⟩]
    ·rw[if_neg c2,if_neg fun a=>c2 ⟨by omega,a.2⟩]
theorem Bu(rs ds p:List Int)(i:Nat)(a:i<I p):(fZ rs ds p i).length=I p/\(rs.getD i (-1)=-1->∀j,(fZ rs ds p i).getD j 0=if j=i then -1 else p.getD j 0)/\(rs.getD i (-1)≠-1->∀j,(fZ rs ds p i).getD j 0=if j=i then iZ rs i-ds.getD i 0 else if j<i/\rs.getD j (-1)=rs.getD i (-1)/\iZ rs i-ds.getD i 0<=p.getD j 0 then p.getD j 0+1 else p.getD j 0):=by
 unfold fZ;by_cases c:rs.getD i (-1)=-1
 ·rw[if_pos (by simpa using c)];exact⟨by simp,fun _ j=>BI _ _ _ _ a,fun h=>absurd c h⟩
 ·rw[if_neg (by simpa using c)];obtain⟨b,d⟩:=Bt rs (p.set i (iZ rs i-ds.getD i 0)) i (by simpa using a) i (x2 _);refine⟨by rw[b];simp,fun h=>absurd h c,fun _ j=>?_⟩;rw[d,BI _ _ _ _ a,BI _ _ _ _ a,if_pos rfl];by_cases e:j=i
  ·rw[if_pos e,if_pos e,if_neg (by omega)]
  ·rw[if_neg e,if_neg e]
structure Ord(es:List Ev)(rs:List Int)(B:Nat->Nat->Bool):Prop where
 same:∀i k,B i k=Y->i<I es/\k<I es/\rs.getD i (-1)=rs.getD k (-1)/\rs.getD i (-1)≠-1
 irr:∀i,B i i=false
 trans:∀i j k,B i j=Y->B j k=Y->B i k=Y
 total:∀i k,i<I es->k<I es->i≠k->rs.getD i (-1)=rs.getD k (-1)->rs.getD i (-1)≠-1->B i k=Y\/B k i=Y
 first:∀i k,B i k=Y->(ev es k).j≠-1
theorem Ord.not{es:List Ev}(h:Ord es rs B){k:Nat}(e:B i k=Y):B k i=false:=by
 cases c:B k i
 ·rfl
 ·have:=h.trans i k i e c;rw[h.irr]at this;cases this
theorem Bv(f g:Nat->Int):∀(L:List Nat),(∀i∈L,0<=g i/\g i<f i)->MV (L.map f) (L.map g)
 |[],_=>trivial
 |a::L,h=>⟨(h a (by simp)).1,(h a (by simp)).2,Bv f g L fun i b=>h i (List.mem_cons_of_mem _ b)⟩
theorem zU:∀{a ds:List Int},MV a ds->ds∈LX a
 |[],[],_=>by simp[LX]
 |b::a,d::ds,h=>by
  simp only[LX,List.mem_flatMap,List.mem_map,List.mem_range];exact⟨ds,zU h.2.2,d.toNat,by have:=h.1;have:=h.2.1;omega,by have:=h.1;rw[Int.toNat_of_nonneg this]⟩
 |[],d::ds,h=>by simp[MV]at h
 |b::a,[],h=>by simp[MV]at h
theorem Bw(f:Nat->Int)(n i:Nat)(h:i<n):((xF n).map f).getD i 0=f i:=by
 rw[xR];simp[h]
theorem Bx{es:List Ev}{rs:List Int}{B:Nat->Nat->Bool}(t:I rs=I es)(h:Ord es rs B)(ds:List Int)(f:∀i,i<I es->ds.getD i 0=(cB i (B i):Nat)):∀m,m<=I es->((xF m).foldl (fZ rs ds) (x1 (I rs) 0)).length=I es/\∀i,i<m->rs.getD i (-1)≠-1->((xF m).foldl (fZ rs ds) (x1 (I rs) 0)).getD i 0=(cB m fun k=>B k i:Nat)
 |0,_=>⟨by simp[t],fun i r=>absurd r (by omega)⟩
 |m+1,hm=>by
  rw[fP];obtain⟨o,l⟩:=Bx t h ds f m (by omega);generalize(xF m).foldl (fZ rs ds) (x1 (I rs) 0)=p at o l;obtain⟨y,z,A⟩:=Bu rs ds p m (by omega);refine⟨by rw[y];exact o,fun i r j=>?_⟩;rw[pX];by_cases c:rs.getD m (-1)=-1
  ·rw[z c i];have n:i≠m:=fun e=>j (e▸c)
   rw[if_neg n,l i (by omega) j];have:B m i=false:=by
    cases e:B m i
    ·rfl
    ·exact absurd c (h.same _ _ e).2.2.2
   simp[this]
  ·rw[A c i];have d:iZ rs m-ds.getD m 0=(cB m fun k=>B k m:Nat):=by
    have x:iZ rs m=(cB m fun k=>rs.getD k (-1)==rs.getD m (-1):Nat):=Z;have b:=Bs (s:=fun k=>rs.getD k (-1)==rs.getD m (-1)) (p:=fun k=>B k m) (q:=fun k=>B m k) m fun k g=>by
     refine⟨⟨fun e=>?_,fun e=>?_⟩,fun e=>?_⟩
     ·have a:rs.getD k (-1)=rs.getD m (-1):=by simpa using e
      exact h.total k m (by omega) (by omega) (by omega) a (by rw[a];exact c)
     ·rcases e with e|e
      ·simpa using(h.same _ _ e).2.2.1
      ·simpa using(h.same _ _ e).2.2.1.symm
     ·have:=h.not e.1;rw[e.2]at this;cases this
    have a:cB m (fun k=>B m k)=cB m (B m):=Z;rw[x,b,f m (by omega),a];omega
   rw[d];by_cases e:i=m
   ·rw[if_pos e,e,h.irr];simp
   ·rw[if_neg e,l i (by omega) j];by_cases b:rs.getD i (-1)=rs.getD m (-1)
    ·rcases h.total i m (by omega) (by omega) e b j with a|a
     ·have C:cB m (fun k=>B k i)<cB m fun k=>B k m:=zG m (fun k _ g=>h.trans _ _ _ g a) ⟨i,by omega,a,h.irr i⟩;rw[if_neg (by omega),h.not a];simp
     ·have C:cB m (fun k=>B k m)<=cB m fun k=>B k i:=sC m fun k _ g=>h.trans _ _ _ g a;rw[if_pos ⟨by omega,b,by omega⟩,a];simp
    ·have:B m i=false:=by
      cases a:B m i
      ·rfl
      ·exact absurd (h.same _ _ a).2.2.1.symm b
     rw[if_neg fun u=>b u.2.1,this];simp
theorem Bz(es:List Ev)(i:Nat)(h:i<I es):(aE es).getD i (-1)=if(ev es i).k=1 then(ev es i).z else -1:=by
 unfold aE;rw[xR,List.getElem?_map,x3 h,QF es i h];simp
theorem wO(es:List Ev):(aE es).length=I es:=by simp[aE]
def B0(es:List Ev):Prop:=∀i,i<I es->(ev es i).k=1->(ev es i).z≠-1
def DK(es:List Ev):Prop:=∀i k,i<I es->k<I es->i≠k->(ev es i).k=1->(ev es k).k=1->(ev es i).z=(ev es k).z->(ev es k).j=-1->k<i/\(ev es i).j≠-1
structure PlOk(es:List Ev)(rs p:List Int)(m:Nat):Prop where
 pos:∀i,i<m->rs.getD i (-1)≠-1->0<=p.getD i 0
 inj:∀i k,i<m->k<m->i≠k->rs.getD i (-1)≠-1->rs.getD i (-1)=rs.getD k (-1)->p.getD i 0≠p.getD k 0
 first:∀i,i<m->rs.getD i (-1)≠-1->(ev es i).j=-1->p.getD i 0=0
theorem Ca:∀{a ds:List Int},MV a ds->∀i,i<I a->0<=ds.getD i 0/\ds.getD i 0<a.getD i 0
 |[],[],_,i,h=>by simp at h
 |b::a,d::ds,h,0,_=>⟨h.1,h.2.1⟩
 |b::a,d::ds,h,i+1,hi=>by
  have:=Ca h.2.2 i (by simpa using hi);simpa using this
 |[],d::ds,h,_,_=>by simp[MV]at h
 |b::a,[],h,_,_=>by simp[MV]at h
theorem tG{es:List Ev}(h:i<I es)(e:(aE es).getD i (-1)≠-1):(ev es i).k=1/\(aE es).getD i (-1)=(ev es i).z:=by
 have r:=Bz es i h;by_cases c:(ev es i).k=1
 ·rw[if_pos c]at r;exact⟨c,r⟩
 ·rw[if_neg c]at r;exact absurd r e
theorem Cb{es:List Ev}(G:DK es){ds:List Int}(F:MV (KY es (aE es)) ds):∀m,m<=I es->((xF m).foldl (fZ (aE es) ds) (x1 (aE es).length 0)).length=I es/\PlOk es (aE es) ((xF m).foldl (fZ (aE es) ds) (x1 (aE es).length 0)) m
 |0,_=>⟨by simp[wO],fun i h=>absurd h (by omega),fun i k h=>absurd h (by omega),fun i h=>absurd h (by omega)⟩
 |m+1,hm=>by
  rw[fP];obtain⟨E,t⟩:=Cb G F m (by omega);generalize(xF m).foldl (fZ (aE es) ds) (x1 (aE es).length 0)=p at E t;obtain⟨K,L,M⟩:=Bu (aE es) ds p m (by omega);refine⟨by rw[K];exact E,?_⟩;by_cases c:(aE es).getD m (-1)=-1
  ·have g:=L c;refine⟨fun i x a=>?_,fun i k x H f a d=>?_,fun i x a l=>?_⟩
   ·have:i≠m:=fun e=>a (e▸c)
    rw[g,if_neg this];exact t.pos i (by omega) a
   ·have y:i≠m:=fun e=>a (e▸c)
    have D:k≠m:=fun e=>a (by rw[d];exact e▸c)
    rw[g,g,if_neg y,if_neg D];exact t.inj i k (by omega) (by omega) f a d
   ·have:i≠m:=fun e=>a (e▸c)
    rw[g,if_neg this];exact t.first i (by omega) a l
  ·have g:=M c;have X:(KY es (aE es)).length=I es:=by simp[KY,wO]
   obtain⟨W,J⟩:=Ca F m (by omega);have u:(KY es (aE es)).getD m 0=jT es (aE es) m:=by
    unfold KY;exact Bw _ _ _ (by rw[wO];omega)
   have y:iZ (aE es) m=(cB m fun k=>(aE es).getD k (-1)==(aE es).getD m (-1):Nat):=Z;have D:jT es (aE es) m=1+(cB m (iY es (aE es) m):Nat):=Z;have N:cB m (iY es (aE es) m)<=cB m fun k=>(aE es).getD k (-1)==(aE es).getD m (-1):=sC m fun k _ e=>by
    unfold iY at e;simp only[xW]at e;exact e.1.2
   rw[u,D]at J;have o:0<=iZ (aE es) m-ds.getD m 0:=by rw[y];omega
   have s:(ev es m).j=-1->iZ (aE es) m-ds.getD m 0=0:=fun l=>by
    have z:cB m fun k=>(aE es).getD k (-1)==(aE es).getD m (-1)=0:=Sb m fun k H=>by
     rw[beq_eq_false_iff_ne];intro e;obtain⟨S,U⟩:=tG (es:=es) (i:=m) (by omega) c;obtain⟨T,V⟩:=tG (es:=es) (i:=k) (by omega) (by rw[e];exact c);have:=(G k m (by omega) (by omega) (by omega) T S (by rw[<- U,<- V,e]) l).1;omega
    rw[y];omega
   have r:∀i,i<m->(aE es).getD i (-1)=(aE es).getD m (-1)->(ev es i).j=-1->1<=iZ (aE es) m-ds.getD m 0:=fun i x d l=>by
    have O:cB m (iY es (aE es) m)<cB m fun k=>(aE es).getD k (-1)==(aE es).getD m (-1):=zG m (fun k _ e=>by
     unfold iY at e;simp only[xW]at e;exact e.1.2) ⟨i,x,by simpa using d,by unfold iY;simp[l]⟩
    rw[y];omega
   generalize iZ (aE es) m-ds.getD m 0=C at g o s r;refine⟨fun i x a=>?_,fun i k x H f a d=>?_,fun i x a l=>?_⟩
   ·rw[g];by_cases e:i=m
    ·rw[if_pos e];exact o
    ·rw[if_neg e];have:=t.pos i (by omega) a
     split<;>omega
   ·rw[g,g];by_cases e:i=m
    ·subst e;rw[if_pos rfl,if_neg (Ne.symm f)];by_cases c2:C<=p.getD k 0
     ·rw[if_pos ⟨by omega,d.symm,c2⟩];omega
     ·rw[if_neg fun n=>c2 n.2.2];omega
    ·rw[if_neg e];by_cases e':k=m
     ·subst e';rw[if_pos rfl];by_cases c2:C<=p.getD i 0
      ·rw[if_pos ⟨by omega,d,c2⟩];omega
      ·rw[if_neg fun n=>c2 n.2.2];omega
     ·rw[if_neg e'];have A:=t.inj i k (by omega) (by omega) f a d;rw[<- d];by_cases c0:(aE es).getD i (-1)=(aE es).getD m (-1)
      ·by_cases c2:C<=p.getD i 0<;>by_cases n:C<=p.getD k 0
       ·rw[if_pos ⟨by omega,c0,c2⟩,if_pos ⟨by omega,c0,n⟩];omega
       ·rw[if_pos ⟨by omega,c0,c2⟩,if_neg fun b=>n b.2.2];omega
       ·rw[if_neg fun b=>c2 b.2.2,if_pos ⟨by omega,c0,n⟩];omega
       ·rw[if_neg fun b=>c2 b.2.2,if_neg fun b=>n b.2.2];exact A
      ·rw[if_neg fun b=>c0 b.2.1,if_neg fun b=>c0 b.2.1];exact A
   ·rw[g];by_cases e:i=m
    ·rw[if_pos e];exact s (e▸l)
    ·rw[if_neg e];have A:=t.first i (by omega) a l
     by_cases c0:(aE es).getD i (-1)=(aE es).getD m (-1)
     ·have:=r i (by omega) c0 l;rw[if_neg fun b=>by omega];exact A
     ·rw[if_neg fun b=>c0 b.2.1];exact A
theorem Sc{es:List Ev}(b:DK es)(a:ds∈LX (KY es (aE es))):PlOk es (aE es) (LK (aE es) ds) (I es):=by
 have:=(Cb b (PY a) (I es) (x2 _)).2;unfold LK;rw[wO]at this⊢;exact this
theorem Cc{es:List Ev}(ps:List Int)(i k:Nat):PV es ps i k=Y↔(ev es i).k=1/\(ev es k).k=1/\(ev es i).z=(ev es k).z/\ps.getD i 0<ps.getD k 0:=by
 unfold PV;simp only[xW,beq_iff_eq,decide_eq_true_eq];exact⟨fun h=>⟨h.1.1.1,h.1.1.2,h.1.2,h.2⟩,fun h=>⟨⟨⟨h.1,h.2.1⟩,h.2.2.1⟩,h.2.2.2⟩⟩
theorem vO{es:List Ev}(a:B0 es)(h:i<I es)(k:(ev es i).k=1):(aE es).getD i (-1)=(ev es i).z/\(aE es).getD i (-1)≠-1:=by
 have r:=Bz es i h;rw[if_pos k]at r;exact⟨r,by rw[r];exact a i h k⟩
theorem Cd{es:List Ev}{v:Int}{ps:List Int}{w:Nat}(l:(ev es w).k=1)(n:(ev es w).z=v)(o:0<=ps.getD w 0)(g:∀k,k<I es->(ev es k).k=1->(ev es k).z=v->k≠w->ps.getD k 0<ps.getD w 0):∀m,m<=I es->(w<m->(xF m).foldl (lK v ps es) (0, -1)=((ev es w).value,ps.getD w 0))/\(m<=w->((xF m).foldl (lK v ps es) (0, -1)).2<ps.getD w 0)
 |0,_=>⟨fun h=>absurd h (by omega),fun _=>by show(-1:Int)<ps.getD w 0;omega⟩
 |m+1,hm=>by
  rw[fP];obtain⟨j,d⟩:=Cd l n o g m (by omega);generalize(xF m).foldl (lK v ps es) (0, -1)=r at j d⊢;refine⟨fun h=>?_,fun h=>?_⟩
  ·by_cases e:m=w
   ·subst e;have f:=d (x2 _);unfold lK;rw[if_pos (by simp only[xW,beq_iff_eq,decide_eq_true_eq];exact⟨⟨l,n⟩,f⟩)]
   ·rw[j (by omega)];unfold lK;rw[if_neg];simp only[xW,beq_iff_eq,decide_eq_true_eq];rintro⟨⟨a,b⟩,c⟩;have:=g m (by omega) a b e;omega
  ·have f:=d (by omega);unfold lK
   split
   ·rename_i c;simp only[xW,beq_iff_eq,decide_eq_true_eq]at c;exact g m (by omega) c.1.1 c.1.2 (by omega)
   ·exact f
theorem Sd{es:List Ev}(b:w<I es)(c:(ev es w).k=1)(e:(ev es w).z=v)(d:0<=ps.getD w 0)(a:∀k,k<I es->(ev es k).k=1->(ev es k).z=v->k≠w->ps.getD k 0<ps.getD w 0):jU es v ps=(ev es w).value:=by
 unfold jU;rw[(Cd c e d a (I es) (x2 _)).1 b]
theorem Se(n:Nat)(P:Nat->Int->Prop)(h:∀i,i<n->∃x,P i x):∃l:List Int,I l=n/\∀i,i<n->P i (l.getD i (-1)):=by
 induction n with
 |zero=>exact⟨[],Z,fun i a=>absurd a (by omega)⟩
 |succ n ih =>
  obtain⟨l,b,c⟩:=ih fun i a=>h i (by omega);obtain⟨x,d⟩:=h n (by omega);refine⟨l++[x],by simp[b],fun i a=>?_⟩;by_cases e:i=n
  ·subst e;have:(l++[x]).getD i (-1)=x:=by rw[xR,List.getElem?_append_right (by omega),b];simp
   rw[this];exact d
  ·have:(l++[x]).getD i (-1)=l.getD i (-1):=by rw[xR,List.getElem?_append_left (by omega),xR]
   rw[this];exact c i (by omega)
theorem Sf(c:List Int)(a:List (List Int))(d:Int)(ds:List Int):gK (c::a) (d::ds)=c.getD d.toNat (-1)::gK a ds:=by
 unfold gK;rw[List.length_cons,List.range_succ_eq_map,List.map_cons,List.map_map];rfl
theorem Sg(l:List Int)(x:Int)(h:x∈l):∃k,k<I l/\l.getD k (-1)=x:=by
 obtain⟨k,a,e⟩:=x4 h;exact⟨k,a,by rw[xR,x3 a];exact e⟩
theorem Ce:∀(a:List (List Int)) (l:List Int),I l=I a->(∀i,i<I a->l.getD i (-1)∈a.getD i [])->∃ds∈LX (NV a),gK a ds=l
 |[],[],_,_=>⟨[],by simp[NV,LX],Z⟩
 |c::a,x::l,h,hm=>by
  obtain⟨ds,b,e⟩:=Ce a l (by simpa using h) (fun i f=>by simpa using hm (i+1) (by simpa using f));obtain⟨k,g,d⟩:=Sg c x (by simpa using hm 0 (by simp));refine⟨(k:Int)::ds,zU ⟨by omega,by show(k:Int)<(I c:Int);omega,PY b⟩,?_⟩;rw[Sf,e,Int.toNat_natCast,d]
 |[],x::l,h,_=>by simp at h
 |c::a,[],h,_=>by simp at h
theorem Sh{e:Ev}(h:e.k=1):OP e=Y:=by unfold OP;rw[h];rfl
section
variable {pi:Int->Int}{f:Nat->Nat}{es es':List Ev}
end
end Q
end Go.Proofs.YtlikcongbhhpfaaGreatDoor
