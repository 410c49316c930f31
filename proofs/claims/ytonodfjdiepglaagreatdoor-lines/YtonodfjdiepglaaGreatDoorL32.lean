import Derived.Test.YtonodfjdiepglaaGreatDoorL31
import Derived.Test.YtonodfjdiepglaaGreatDoorL28
set_option linter.unusedVariables false
set_option linter.unusedSimpArgs false
set_option maxHeartbeats 12800000
namespace Go.Proofs.YtonodfjdiepglaaGreatDoor
open Go Go.RowKit Go.Proofs.Tryz P Q R
set_option maxRecDepth 1000000
variable {w w' w1:World} {u v:Value} {l:List Int} {B g gd o:Nat} {rs:List (List Int)} {vs:List Value}
open Go.Value renaming ownBlock→xF,slice→xW,int→x1,oneCell'→xa
open Nat renaming le_refl→xR,lt_of_lt_of_le→x4,zero_le→x5
open List renaming mem_of_getElem?→x2,map_append→x6
open Go.RowKit.Below renaming refl→x3,heap_alloc→x8
open Go.World renaming ownsRow_nil→x7,news_of_block→x9
theorem zCj.bZ {row:Option Nat} (h:zCj w v l) (c:w.grownBy w' row) (b:∀ k,v.ownBlock=some k->some k≠row):zCj w' v l:=by
 refine h.own w' (fun k e=>c.block k ?_ (b k e)) c.size
 rcases h with ⟨a,_⟩ | ⟨i,d,a,_,f,_⟩
 ·rw[a] at e;simp[xF] at e
 ·rw[a] at e;simp[xF] at e;omega
def zLO (w w':World) (cs:List (List Int)) (e:Ending):Prop:=∃ cv vs gb gd,e=.returned (.agg #[cv,.slice (some ⟨gb,0,none⟩) cs.length cs.length,.slice (some ⟨gd,0,none⟩) cs.length cs.length,.bool false])/\RowsI w' w.heap.size cv cs vs/\zAt w' gb (kBl cs)/\zAt w' gd (eI cs.length)/\w.heap.size<=gb/\w.heap.size<=gd/\gb≠gd/\cv.ownBlock≠some gd/\(∀ u∈vs,∀ k,u.ownBlock=some k->w.heap.size<=k/\k≠gd)/\Below w.heap.size w w'
namespace Q
def gZ (es:List Ev) (k:Nat):List (List Int):=(List.range k).map (kE es)
theorem kJz (es:List Ev) (k:Nat):gZ es (k+1)=gZ es k++[kE es k]:=by unfold gZ;rw[List.range_succ,x6];rfl
theorem kKI (es:List Ev) (k:Nat):(gZ es k).length=k:=by simp[gZ]
theorem zPv (es:List Ev):gZ es es.length=zMf es:=rfl
theorem kJp (cs:List (List Int)) (c:List Int):kBl (cs++[c])=kBl cs++[(c.length:Int)]:=by simp[kBl]
theorem rI (cs:List (List Int)):(kBl cs).length=cs.length:=by simp[kBl]
end Q
theorem qA {y n D r i:Nat} {t s:TypeId} {x j:List Value} (h:w.ownsRow B t r v n x) (A:w.ownsRow y s i u D j) (C:t≠s) (z:w.grownBy w' u.ownBlock):w'.ownsRow B t r v n x/\∀ k,v.ownBlock=some k->u.ownBlock≠some k:=by
 have b:∀ k,v.ownBlock=some k->u.ownBlock≠some k:=fun k e a=>by
  rcases h.2 with ⟨c,_⟩ | ⟨G,E,m,c,_,q,_⟩
  ·rw[c] at e;simp[xF] at e
  ·rcases A.2 with ⟨d,_⟩ | ⟨H,F,p,d,_,f,_⟩
   ·rw[d] at a;simp[xF] at a
   ·rw[c] at e;rw[d] at a;simp[xF] at e a;rw[e] at q;rw[a,q] at f;simp at f;exact C f.2
 exact⟨aX h (fun k e=>z.block k (h.lt k e).2 (fun a=>b k e a.symm)),b⟩
theorem RowsI.bD {n:Value} {r:List Int} (h:RowsI w B v rs vs) (q:zCj w u r) (b:w1.ownsRow B 68 1 n (rs.length+1) (vs++[u])) (m:w.grownBy w1 v.ownBlock) (j:∀ x∈vs++[u],∀ k,x.ownBlock=some k->v.ownBlock≠some k):RowsI w1 B n (rs++[r]) (vs++[u]):=by
 refine⟨by simpa using b,by simp[h.len],fun i p x a=>?_⟩;have c:=j x (x2 a);by_cases hlt:i<rs.length
 ·rw[List.getElem?_append_left (by rw[h.len];exact hlt)] at a;rw[List.getElem_append_left hlt];exact (h.rows i hlt x a).bZ m (fun k e=>fun d=>c k e d.symm)
 ·simp at p;have f:i=rs.length:=by omega
  subst f;rw[List.getElem?_append_right (by rw[h.len];exact xR _),h.len] at a;simp at a;subst a;simp;exact q.bZ m (fun k e=>fun d=>c k e d.symm)
theorem RowsI.grown {row:Option Nat} (h:RowsI w B v rs vs) (c:w.grownBy w1 row) (j:∀ k,v.ownBlock=some k->row≠some k) (b:∀ x∈vs,∀ k,x.ownBlock=some k->row≠some k):RowsI w1 B v rs vs :=
 ⟨aX h.own (fun k e=>c.block k (h.own.lt k e).2 (fun a=>j k e a.symm)),h.len,fun i f x d=>(h.rows i f x d).bZ c (fun k e=>fun a=>b x (x2 d) k e a.symm)⟩
theorem zCj.eB (h:zCj w v l) (k:Nat) (e:v.ownBlock=some k):k<w.heap.size:=by
 rcases h with ⟨a,_⟩ | ⟨d,b,a,_,c,_⟩
 ·rw[a] at e;simp[xF] at e
 ·rw[a] at e;simp[xF] at e;omega
theorem zDL (ev rg:Value) (es:List Ev) (w:World) (he:zAV w ev es) (aO:∃ a n c,rg=.slice a n c) (hn:es.length<=64) :
  Calls prog 73 #[.agg #[ev,rg]] w fun e w'=>zLO w w' (zMf es) e:=by
 obtain⟨i0,aF,aT,aU,aV⟩:=info_parts Tryz.infoIntM;obtain⟨j0,aI,aQ,aR,aS⟩:=info_parts Tryz.infoRow;obtain⟨ea,ec,rfl,aE⟩:=he.form;obtain⟨ra,rn,rc,rfl⟩:=aO;obtain⟨k0,k1,aP,Z⟩:=iM w #[.slice ea es.length ec,.slice ra rn rc] #[.slice none 0 0,.slice none 0 0,.slice none 0 0,.bool false] 70 82;have ar:=zAa (he.below Z);have an:=zAa Z;clear Z he aE;go_enter func73,ntmps73;go_upto_region 1 with fail
 generalize hE:(w.alloc (.cells #[.slice ea es.length ec,.slice ra rn rc] 70)).alloc (.cells #[.slice none 0 0,.slice none 0 0,.slice none 0 0,.bool false] 82)=m at *;have ax:=aD k0 0 _ rfl;have ay:=aD k0 1 _ rfl;have l0:w.heap.size<m.heap.size:=by omega
 have l1:w.heap.size+1<m.heap.size:=by omega
 have bb:w.heap.size+2<=m.heap.size:=by omega
 have K1:=zAa k1;clear hE k0 k1 aP;go_wp2;go_loopw [3,4,10] (fun a b j wr=>∃ (k:Nat) (W E:Value) (vs:List Value),k<=es.length/\j=.int .i64 k/\a=W/\b=E/\Hid (RowsI wr m.heap.size W (gZ es k) vs)/\Hid (wr.ownsRow m.heap.size 3 1 E k ((kBl (gZ es k)).map (x1 .i64)))/\Hid (∀ u∈vs,∀ y,u.ownBlock=some y->m.heap.size<=y/\y<wr.heap.size/\E.ownBlock≠some y/\W.ownBlock≠some y)/\Hid (Below m.heap.size m wr)) (fun _ _ j _=>es.length-(intOf j).toNat)
 case atStart=>exact⟨0,_,_,[],x5 _,rfl,rfl,rfl,⟨by simpa [gZ] using x7 _ _ _ _,rfl,fun i h=>by simp[gZ] at h⟩,by simpa [Hid,gZ,kBl] using x7 _ _ _ _,by simp[Hid],x3 _ _⟩
 case round =>
  obtain⟨k,W,E,vs,hk,rfl,aa,Y,HC,HO,HD,HB⟩:=hrel;have aa:=aa.symm;subst aa;have Y:=Y.symm;subst Y;by_cases hlt:k<es.length
  ·have bl:(k:Int)<(es.length:Int):=by omega
   have d0:=aC HB.out l0 ax;have d1:=aC HB.out l0 ay;have lw:=x4 l0 HB.out.size;have au:=zAa (ar.out.below HB.out);have HS:=zAa (kJz es k);have aJ:(kE es k).length<=64:=by
    unfold kE
    split
    ·have:=zPc es k es.length;unfold cF at this;omega
    ·simp
   have s:=kKI es k;obtain⟨U,V,N,_⟩:=HC.out.form;rw[s] at N;go_upto_region 7 with (first | (go_at_call 108;refine (zGL _ _ es k _ au.out ⟨_,_,_,rfl⟩ hlt hn).mono ?_;rintro e w1 ⟨mv,rfl,ac,al,F⟩))
   obtain⟨K,L,aL,_⟩:=ac.form;generalize bn:kE es k=z at *;subst aL;have B1:Hid (Below m.heap.size m w1):=aK HB.out (xR _) F;have C1:=zAa (HC.out.below F);have O1:Hid (w1.ownsRow m.heap.size 3 1 E k ((kBl (gZ es k)).map (x1 .i64))):=aX HO.out (fun y e=>F.block y (HO.out.lt y e).2);have M1:=zAa ac;have bd:=F.size;have aB:m.heap.size<=w1.heap.size:=B1.out.size;have ap:Hid ((gZ es k).length=k):=s;have T:Hid ((w1.alloc (.cells #[.slice K z.length L] 68)).ownsRow m.heap.size 68 1 W k vs):=by
    have r:=C1.out.own;rw[s] at r;exact aX r (fun y e=>x8 _ _ _ (r.lt y e).2)
   have av:Hid (∀ j u,[xW K z.length L][j]?=some u->(w1.alloc (.cells #[.slice K z.length L] 68)).cell? ((⟨w1.heap.size,0,none⟩:Addr).add j)=some u):=x9 (cs:=#[.slice K z.length L]) (t:=68) (fr:=(0,0)) (heap_alloc_new w1 _);clear s;subst N;go_upto_region 8 with (first | (at_builtin;refine wpList_append_lies _ rfl (.tmp 16) (.tmp 18) 22 rfl m.heap.size 68 j0 (.slice none 0 0) 1 24 underlying22 aI aQ aR aS rfl (by decide) (.slice U k V) k vs rfl (by exact T.out) ⟨w1.heap.size,0,none⟩ 1 1 [.slice K z.length L] rfl rfl (by exact av.out) (by simp[xa]) (by decide) (by unfold maxLen;omega) (by omega) (by simp;omega) _ rfl ?_;intro gn cn A I d O aY))
   have H:∀ y,(xW U k V).ownBlock=some y->y<wr.heap.size:=fun y e=>(HC.out.own.lt y e).2
   have G:∀ y,E.ownBlock=some y->y<wr.heap.size:=fun y e=>(HO.out.lt y e).2
   have BA:Below w1.heap.size w1 (w1.alloc (.cells #[.slice K z.length L] 68)):=(x3 _ _).alloc (xR _) _;have ab:∀ x∈vs++[xW K z.length L],∀ y,x.ownBlock=some y->(xW U k V).ownBlock≠some y/\E.ownBlock≠some y/\m.heap.size<=y/\y<w1.heap.size:=fun x D y e=>by
    rcases List.mem_append.1 D with D | D
    ·obtain⟨q1,q2,q3,q4⟩:=HD.out x D y e;exact⟨q4,q3,q1,by omega⟩
    ·simp at D;subst D;have q1:=al y e;have q2:=M1.out.eB y e;exact⟨fun C=>by have:=H y C;omega,fun C=>by have:=G y C;omega,by have:=HB.out.size;omega,q2⟩
   have C2:Hid (RowsI A m.heap.size (.slice (some ⟨gn,0,none⟩) (k+1) cn) (gZ es (k+1)) (vs++[.slice K z.length L])):=by
    unfold Hid;rw[HS.out];exact (C1.out.below BA).bD (M1.out.below BA) (by rw[ap.out];exact I) d (fun x D y e=>(ab x D y e).1)
   have O2:=qA (aX O1.out (fun y e=>BA.block y (O1.out.lt y e).2)) T.out (by decide) d;have bf:=zAa O2.1;have bg:w1.heap.size+1<=A.heap.size:=by have:=d.size;simp at this;omega
   have B2:Hid (Below m.heap.size m A):=(B1.out.alloc aB _).trans ⟨d.os,d.tape,d.output,d.size,fun y hy=>d.block y (by simp;omega) (fun e=>by have:=(T.out.lt y e.symm).1;omega)⟩;have ad:Hid ((xW U k V).ownBlock=some gn\/w1.heap.size<=gn):=by
    rcases O with r | r
    ·exact Or.inl r
    ·exact Or.inr (by simp at r;omega)
   have ae:=zAa ab;have ao:Hid (∀ y,E.ownBlock=some y->(xW U k V).ownBlock≠some y/\y<wr.heap.size):=fun y e=>⟨O2.2 y e,G y e⟩
   have be:=zAa H;have bm:z.length<=64:=aJ;have ag:Hid ((A.alloc (.cells #[.int .i64 (z.length:Int)] 3)).ownsRow m.heap.size 3 1 E k ((kBl (gZ es k)).map (x1 .i64))):=aX O2.1 (fun y e=>x8 _ _ _ (O2.1.lt y e).2);have aw:Hid (∀ j u,[x1 .i64 (z.length:Int)][j]?=some u->(A.alloc (.cells #[.int .i64 (z.length:Int)] 3)).cell? ((⟨A.heap.size,0,none⟩:Addr).add j)=some u):=x9 (cs:=#[.int .i64 (z.length:Int)]) (t:=3) (fr:=(0,0)) (heap_alloc_new A _);obtain⟨ba,bc,X⟩:∃ a c,E=.slice a k c:=by
    rcases HO.out.2 with ⟨e,h0⟩ | ⟨g',c,ah,e,_⟩
    ·exact⟨none,0,by rw[e,h0]⟩
    ·exact⟨_,c,e⟩
   clear I d O O2 BA ab H G al ac F;subst X;go_wp2_with (first | (at_builtin;refine wpList_append_lies _ rfl (.tmp 20) (.tmp 23) 68 rfl m.heap.size 3 i0 (.int .i64 0) 1 8 underlying68 aF aT aU aV rfl (by decide) (.slice ba k bc) k ((kBl (gZ es k)).map (x1 .i64)) rfl (by exact ag.out) ⟨A.heap.size,0,none⟩ 1 1 [.int .i64 (z.length:Int)] rfl rfl (by exact aw.out) (by simp[xa]) (by decide) (by unfold maxLen;omega) (by omega) (by simp;omega) _ rfl ?_;intro g3 c3 w3 J f S aZ));have am:Below A.heap.size A (A.alloc (.cells #[.int .i64 (z.length:Int)] 3)):=(x3 _ _).alloc (xR _) _;have C3:Hid (RowsI w3 m.heap.size (.slice (some ⟨gn,0,none⟩) (k+1) cn) (gZ es (k+1)) (vs++[.slice K z.length L])):=(C2.out.below am).grown f (fun y e C=>by
    simp[xF] at e;obtain⟨q1,q2⟩:=ao.out y C
    rcases ad.out with M | M
    ·exact q1 (by rw[M,e])
    ·omega) (fun x D y e=>(ae.out x D y e).2.1)
   have O3:Hid (w3.ownsRow m.heap.size 3 1 (.slice (some ⟨g3,0,none⟩) (k+1) c3) (k+1) ((kBl (gZ es (k+1))).map (x1 .i64))):=by
    unfold Hid;rw[HS.out,kJp,x6];exact J
   have B3:Hid (Below m.heap.size m w3):=(B2.out.alloc (by omega) _).trans ⟨f.os,f.tape,f.output,f.size,fun y hy=>f.block y (by simp;omega) (fun e=>by have:=(ag.out.lt y e.symm).1;omega)⟩;have bh:A.heap.size+1<=w3.heap.size:=by have:=f.size;simp at this;omega
   have D3:Hid (∀ u∈vs++[xW K z.length L],∀ y,u.ownBlock=some y->m.heap.size<=y/\y<w3.heap.size/\(xW (some ⟨g3,0,none⟩) (k+1) c3).ownBlock≠some y/\(xW (some ⟨gn,0,none⟩) (k+1) cn).ownBlock≠some y):=fun u hu y e=>by
    obtain⟨q1,q2,q3,q4⟩:=ae.out u hu y e;refine⟨q3,by omega,fun C=>?_,fun C=>?_⟩
    ·simp[xF] at C
     rcases S with M | M
     ·exact q2 (by rw[M,C])
     ·simp at M;omega
    ·simp[xF] at C
     rcases ad.out with M | M
     ·exact q1 (by rw[M,C])
     ·omega
   clear J f S;go_roundw
   case rel=>exact⟨k+1,_,_,_,by omega,by go_num,rfl,rfl,C3,O3,D3,B3⟩
   case measure=>simp[intOf];omega
  ·have ak:k=es.length:=by omega
   have HL:Hid ((kBl (zMf es)).length=(zMf es).length):=rI _;have af:Hid ((zMf es).length=es.length):=by simp[Hid,zMf]
   have C0:Hid (RowsI wr m.heap.size W (zMf es) vs):=by have r:=HC.out;rw[ak,zPv] at r;exact r
   have O0:Hid (zCj wr E (kBl (zMf es))):=by
    have r:=HO.out;rw[ak,zPv] at r;exact vS r (by rw[HL.out,af.out])
   have aq:=zAa (fun y e=>(HC.out.own.lt y e).2:∀ y,W.ownBlock=some y->y<wr.heap.size);obtain⟨U,V,N,_⟩:=C0.out.form;obtain⟨ba,bc,X,_⟩:=O0.out.form;clear HC HO;subst N X;go_wp2_with (first | (go_at_call 68;refine (CG _ (kBl (zMf es)) _ O0.out (by rw[HL.out,af.out];omega)).mono ?_;rintro e A ⟨v1,v2,v3,rfl,⟨gb,gd,rfl,rfl,rfl,aG,aH,bi,bj,aM⟩,aj⟩;have B2:Hid (Below m.heap.size m A):=aK HB.out (xR _) aj;have K2:=zAa ((B2.out.block _ l1).trans K1.out);obtain⟨t0,t1,t2,t3,tf,tl⟩:=rQ K2.out;have IB:=zAa aG;have ID:=zAa aH;have C2:=zAa (C0.out.below aj);rw[HL.out]));obtain⟨s0,s1,s2⟩:=uM (s0:=.slice U (zMf es).length V) (s1:=.slice (some ⟨gb,0,none⟩) (zMf es).length (zMf es).length) (s2:=.slice (some ⟨gd,0,none⟩) (zMf es).length (zMf es).length) (s3:=.bool false) K2.out;have bo:=HB.out.size;have ai:=ID.out;rw[HL.out] at ai;have aN:∀ {B n sz:Nat} {t:TypeId} {v:Value} {xs:List Value},A.ownsRow B t sz v n xs->t≠82->∀ k,v.ownBlock=some k->k≠w.heap.size+1:=fun h ht k e C=>by
    rcases h.2 with ⟨e1,_⟩ | ⟨g1,c1,aW,e1,_,r,_⟩
    ·rw[e1] at e;simp[xF] at e
    ·rw[e1] at e;simp[xF] at e;rw[e,C,K2.out] at r;simp at r;exact ht r.2.symm
   refine gI (p:=2) (w.heap.size+1) _ (by kernel_rfl) underlying82 rfl (by kernel_rfl) rfl (by exact s0) rfl ⟨_,vs,gb,gd,rfl,⟨?_,C2.out.len,fun i hi x D=>?_⟩,IB.out.aA (s1 _ (by omega)),ai.aA (s1 _ (by omega)),by omega,by omega,aM,fun e=>by have:=aq.out gd e;omega,fun u hu y e=>⟨by have:=(HD.out u hu y e).1;omega,by have:=(HD.out u hu y e).2.1;omega⟩,s2 _ _ (by omega) (aK an.out (xR _) B2.out)⟩
   ·have r:=aX C2.out.own (fun k e=>s1 k (aN C2.out.own (by decide) k e));refine⟨r.1,?_⟩
    rcases r.2 with h0 | ⟨g',az,ah,e,bk,q⟩
    ·exact Or.inl h0
    ·exact Or.inr ⟨g',az,ah,e,by omega,q⟩
   ·have hr:=C2.out.rows i hi x D;refine hr.own _ (fun k e=>s1 k (by have:=(HD.out x (x2 D) k e).1;omega)) ?_;have:=(s2 A 0 (x5 _) (x3 _ _)).size;exact this
structure RdOn (w:World) (g o:Nat) (cv:Value) (vs:List Value) (gb gd:Nat) (cs:List (List Int)) (ds:List Int) (rest:List (List Int)):Prop where
 c0:w.cell? ⟨g,o,none⟩=some cv
 rows:RowsI w 0 cv cs vs
 ctr:zDS w g (o+1) gb gd (kBl cs) ds rest
 nc:cv.ownBlock≠some gd/\cv.ownBlock≠some g
 ne:∀ u∈vs,∀ k,u.ownBlock=some k->k≠gd/\k≠g
theorem RdOn.below {c:Value} {e:Nat} {cs:List (List Int)} {d:List Int} {rest:List (List Int)} (h:RdOn w g o c vs e gd cs d rest) (a:Below w.heap.size w w'):RdOn w' g o c vs e gd cs d rest:=by
 obtain⟨b,f⟩:=h.ctr.ctr;exact⟨(a.cell f.lt).trans h.c0,h.rows.below a,h.ctr.below a,h.nc,h.ne⟩
theorem RowsI.cG (h:RowsI w B v rs vs) (c:Eu w w' g o gd) (f:v.ownBlock≠some gd/\v.ownBlock≠some g) (a:∀ u∈vs,∀ k,u.ownBlock=some k->k≠gd/\k≠g):RowsI w' B v rs vs :=
 ⟨aX h.own (fun k e=>c.block k (fun b=>f.2 (by rw[e,b])) (fun b=>f.1 (by rw[e,b]))),h.len,fun i j x d=>(h.rows i j x d).own w' (fun k e=>c.block k (a x (x2 d) k e).2 (a x (x2 d) k e).1) (by rw[c.size];exact xR _)⟩
theorem zIo (g o:Nat) (i:Value) (vs:List Value) (c gd:Nat) (cs:List (List Int)) (j:List Int) (rest:List (List Int)) (w:World) (h:RdOn w g o i vs c gd cs j rest) (s:cs.length<10000) (n:∀ b∈kBl cs,b<1000000000) :
  Calls prog 69 #[.pointer (some ⟨g,o,none⟩)] w fun e w'=>((rest=[]/\e=.returned (.bool false))\/∃ r q,rest=r::q/\e=.returned (.bool true)/\RdOn w' g o i vs c gd cs r q/\kAy (kBl cs) r)/\Eu w w' g (o+1) gd:=by
 have H:=zAa h;obtain⟨b,a⟩:=h.ctr.ctr;have t:=a.lt;clear h a;go_enter func69,ntmps69;go_wp2_with (first | (go_at_call 84;refine (EX g (o+1) c gd (kBl cs) j rest _ H.out.ctr (by rw[rI];exact s) n).mono ?_;rintro e w' ⟨k,m⟩;have f:=zAa m;rcases k with ⟨d,rfl⟩ | ⟨r,q,d,rfl,a,p⟩))
 ·go_ret;exact⟨Or.inl ⟨d,rfl⟩,f.out⟩
 ·go_ret;have T:=f.out;exact⟨Or.inr ⟨r,q,d,rfl,⟨(T.cell o (by omega)).trans H.out.c0,H.out.rows.cG T H.out.nc H.out.ne,a,H.out.nc,H.out.ne⟩,p⟩,T⟩
namespace Q
def oH (cs:List (List Int)) (ds:List Int) (i:Nat):Int:=(cs.getD i []).getD (ds.getD i 0).toNat (-1)
theorem kHy (cs:List (List Int)) (a:List Int):gB cs a=(List.range cs.length).map (oH cs a):=rfl
theorem kKh (cs:List (List Int)) (i:Nat) (h:i<cs.length):(kBl cs).getD i 0=(cs[i].length:Int):=by
 rw[eT _ _ (by rw[rI];exact h)];simp[kBl]
end Q
theorem zIp (g o:Nat) (cv:Value) (vs:List Value) (gb gd:Nat) (cs:List (List Int)) (a:List Int) (rest:List (List Int)) (w:World) (h:RdOn w g o cv vs gb gd cs a rest) (hd:kAy (kBl cs) a) (hn:cs.length<1000) (hb:∀ c∈cs,c.length<1000) :
  Calls prog 41 #[.pointer (some ⟨g,o,none⟩)] w fun e w'=>∃ gr,e=.returned (.slice (some ⟨gr,0,none⟩) cs.length cs.length)/\zAt w' gr (gB cs a)/\w.heap.size<=gr/\Below w.heap.size w w':=by
 have ag:∀ w,(Instr.makeSlice 68 (.int .i64 (cs.length:Int)) (.int .i64 (cs.length:Int))).run prog w=.ok (.slice (some ⟨w.heap.size,0,none⟩) cs.length cs.length) (w.alloc (.cells (madeCells #[.int .i64 0] cs.length) 3)) :=
  fun w=>run_make_row' 68 3 (.int .i64 0) 8 underlying68 Tryz.infoInt rfl .i64 .i64 cs.length (by omega) (by omega) w
 obtain⟨bg,q⟩:=h.ctr.ctr;have Z:a.length=cs.length:=by rw[q.len,rI]
 obtain⟨ca,cc,rfl,W⟩:=h.rows.form;have c0:=h.c0;have T:=q.c1;rw[Z] at T;have n:=q.lt;have M:=zAa q.digits;have E:=q.digits.lt;have y:=zAa h.rows;have L:Hid (∀ i (hi:i<cs.length),0<=a.getD i 0/\a.getD i 0<(cs[i].length:Int)):=fun i hi=>by
  have z:=hd.uA i (by omega);rw[kKh cs i hi] at z;rw[eT a i (by omega)];exact z
 have O:=zAa (kHy cs a);have K:=zAa hb;have N:Hid (zAt (w.alloc (.cells (madeCells #[.int .i64 0] cs.length) 3)) w.heap.size (dN (oH cs a) cs.length 0)):=by
  unfold Hid zAt;rw[xG,<- rE];exact heap_alloc_new w _
 have J:Hid (Below w.heap.size w (w.alloc (.cells (madeCells #[.int .i64 0] cs.length) 3))):=(x3 _ _).alloc (xR _) _;have U:w.cell? ⟨g,o+2,none⟩=some (.slice (some ⟨gd,0,none⟩) cs.length cs.length):=T;clear h q hd T hb;go_enter func41,ntmps41;go_wp2;go_loopw [17] (fun j wr=>∃ (k:Nat),k<=cs.length/\j=.int .i64 k/\Hid (zAt wr w.heap.size (dN (oH cs a) cs.length k))/\Hid (Below w.heap.size w wr)) (fun j _=>cs.length-(intOf j).toNat)
 case atStart=>exact⟨0,x5 _,rfl,N,J⟩
 case round =>
  obtain⟨k,hk,rfl,r,HB⟩:=hrel;by_cases hlt:k<cs.length
  ·have af:(k:Int)<(cs.length:Int):=by omega
   obtain⟨bc,rfl,_,A,D⟩:=W (by omega);have G:k<vs.length:=by rw[y.out.len];exact hlt
   have x:=y.out.rows k hlt vs[k] (List.getElem?_eq_getElem G);obtain⟨ma,mc,I,H⟩:=x.form;have Y:=L.out k hlt;obtain⟨d,m⟩:∃ d:Nat,a.getD k 0=(d:Int):=⟨(a.getD k 0).toNat,by omega⟩;have b:d<cs[k].length:=by omega
   obtain⟨V,F,f,C⟩:=H (by omega);have e1:=(HB.out.cell (p:=⟨bc,k,none⟩) A).trans (D k G);rw[I,F] at e1;have l1:=x4 A HB.out.size;have d0:=aC HB.out n c0;have d2:=(HB.out.cell (p:=⟨g,o+2,none⟩) n).trans U;have lg:=x4 n HB.out.size;have dg:wr.cell? ⟨gd,k,none⟩=some (.int .i64 (d:Int)):=by rw[<- m];exact (HB.out.cell (p:=⟨gd,k,none⟩) E).trans (M.out.dA k (by omega))
   have ah:=x4 E HB.out.size;have dm:wr.cell? ⟨V,d,none⟩=some (.int .i64 (cs[k].getD d (-1))):=by rw[eT _ _ b];exact (HB.out.cell (p:=⟨V,d,none⟩) f).trans (C d b)
   have ai:=x4 f HB.out.size;have lp:=r.out.lt;have aa:k<(dN (oH cs a) cs.length k).length:=by rw[tU];exact hlt
   have cp:=r.out.dA k aa;have fp:=r.out.free k;have s:=zAa ((r.out.set k (-1)).set k (cs[k].getD d (-1)));have t:=zAa (zB (oH cs a) cs.length k hlt);have S:Hid (oH cs a k=cs[k].getD d (-1)):=by
    unfold Hid oH;have e2:cs.getD k []=cs[k]:=by simp[hlt]
    rw[e2,m];rfl
   rw[S.out] at t;rw[List.set_set,t.out] at s;have ae:(d:Int)<(cs[k].length:Int):=by omega
   have ad:=K.out cs[k] (List.getElem_mem hlt);clear m I H C x D Y F;generalize cs[k].getD d (-1)=ac at *;generalize X:cs[k].length=cl at *;generalize (dN (oH cs a) cs.length k).getD k 0=aj at *;have BJ:Hid (Below w.heap.size w ((wr.setCell ⟨w.heap.size,k,none⟩ (.int .i64 (-1))).setCell ⟨w.heap.size,k,none⟩ (.int .i64 ac))):=(HB.out.setCell (p:=⟨w.heap.size,k,none⟩) (xR _) _).setCell (p:=⟨w.heap.size,k,none⟩) (xR _) _;have n1:g≠w.heap.size:=by omega
   have n2:gd≠w.heap.size:=by omega
   have n3:V≠w.heap.size:=by omega
   have n4:bc≠w.heap.size:=by omega
   clear X;go_wp2;go_roundw
   case rel=>exact⟨k+1,by omega,by go_num,s,BJ⟩
   case measure=>simp[intOf];omega
  ·have ab:k=cs.length:=by omega
   go_wp2;go_ret;refine⟨w.heap.size,rfl,?_,xR _,HB.out⟩;have z:=r.out;rw[ab,zE,<- O.out] at z;exact z
end Go.Proofs.YtonodfjdiepglaaGreatDoor
