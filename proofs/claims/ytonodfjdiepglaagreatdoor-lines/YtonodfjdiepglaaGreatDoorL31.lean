import Derived.Test.YtonodfjdiepglaaGreatDoorL27
set_option linter.unusedVariables false
set_option linter.unusedSimpArgs false
set_option maxHeartbeats 12800000
namespace Go.Proofs.YtonodfjdiepglaaGreatDoor
open Go Go.RowKit Go.Proofs.Tryz P Q R
set_option maxRecDepth 1000000
variable {t:TypeId} {w:World} {g:Nat}
open Nat renaming le_refl→xF,lt_of_lt_of_le→xb,zero_le→xd
open Go.Value renaming int→xR,ownBlock→xg,oneCell'→xm
open List renaming range→xW,map_append→xe,length_filter_le→xh,length_set→xj,length_append→xn
open Go.RowKit.Below renaming refl→xa,heap_setCell→xc
open Go.Instr renaming makeSlice→xi
open Go.World renaming news_of_block→xk
theorem uM {a:World} {b:Nat} {m n o q s0 s1 s2 s3:Value} (h:a.heap[b]?=some (.cells #[m,n,o,q] t (0,0))) :
  ((((a.setCell ⟨b,0,none⟩ s0).setCell ⟨b,1,none⟩ s1).setCell ⟨b,2,none⟩ s2).setCell ⟨b,3,none⟩ s3).heap[b]?=some (.cells #[s0,s1,s2,s3] t (0,0))/\(∀ k,k≠b->((((a.setCell ⟨b,0,none⟩ s0).setCell ⟨b,1,none⟩ s1).setCell ⟨b,2,none⟩ s2).setCell ⟨b,3,none⟩ s3).heap[k]?=a.heap[k]?) /\
   ∀ (w:World) (B:Nat),B<=b->Below B w a->Below B w ((((a.setCell ⟨b,0,none⟩ s0).setCell ⟨b,1,none⟩ s1).setCell ⟨b,2,none⟩ s2).setCell ⟨b,3,none⟩ s3):=by
 refine⟨?_,fun k d=>?_,fun w B c l=>?_⟩
 ·have e:=bH h 0 s0;have f:=bH e 1 s1;have i:=bH f 2 s2;have j:=bH i 3 s3;rw[j];rfl
 ·rw[xc _ _ _ _ d,xc _ _ _ _ d,xc _ _ _ _ d,xc _ _ _ _ d]
 ·exact (((l.setCell (p:=⟨b,0,none⟩) c _).setCell (p:=⟨b,1,none⟩) c _).setCell (p:=⟨b,2,none⟩) c _).setCell (p:=⟨b,3,none⟩) c _
theorem rQ {a b c d:Value} (h:w.heap[g]?=some (.cells #[a,b,c,d] t (0,0))):w.cell? ⟨g,0,none⟩=some a/\w.cell? ⟨g,1,none⟩=some b/\w.cell? ⟨g,2,none⟩=some c/\w.cell? ⟨g,3,none⟩=some d/\(∀ j,w.frozen? ⟨g,j,none⟩=false)/\g<w.heap.size:=by
 refine⟨?_,?_,?_,?_,fun j=>?_,(Array.getElem?_eq_some_iff.1 h).1⟩<;>simp[World.cell?,World.frozen?,h]
def DK (w w':World) (rs bs:List Int) (e:Ending):Prop:=∃ gr gb gd,e=.returned (.agg #[.slice (some ⟨gr,0,none⟩) rs.length rs.length,.slice (some ⟨gb,0,none⟩) bs.length bs.length,.slice (some ⟨gd,0,none⟩) bs.length bs.length,.bool false])/\zAt w' gr rs/\zAt w' gb bs/\zAt w' gd (eI bs.length)/\w.heap.size<=gr/\w.heap.size<=gb/\w.heap.size<=gd/\gr≠gd/\gb≠gd/\Below w.heap.size w w'
namespace Q
def iY (es:List Ev) (rs:List Int) (i q:Nat):Int:=1+(((xW q).filter (iC es rs i)).length:Nat)
theorem kIh (es:List Ev) (a:List Int) (i q:Nat):iY es a i (q+1)=iY es a i q+if iC es a i q then 1 else 0:=by
 unfold iY;have:=kFZ (iC es a i) q;omega
theorem kKQ (es:List Ev) (a:List Int) (i q:Nat):0<=iY es a i q/\iY es a i q<=q+1:=by
 unfold iY;have:=xh (iC es a i) (xW q);simp at this;omega
end Q
theorem zFb (ev rg v:Value) (es:List Ev) (b:List Int) (w:World) (he:zAV w ev es) (ar:∃ a n c,rg=.slice a n c) (hv:zCj w v b) (hl:b.length=es.length) (hn:b.length<=64) :
  Calls prog 83 #[.agg #[ev,rg],v] w fun e w'=>DK w w' b (zMh es b) e:=by
 have aO:∀ w,(xi 68 (.int .i64 (b.length:Int)) (.int .i64 (b.length:Int))).run prog w=.ok (.slice (some ⟨w.heap.size,0,none⟩) b.length b.length) (w.alloc (.cells (madeCells #[.int .i64 0] b.length) 3)) :=
  fun w=>run_make_row' 68 3 (.int .i64 0) 8 underlying68 Tryz.infoInt rfl .i64 .i64 b.length (by omega) (by omega) w
 obtain⟨ea,ec,rfl,E⟩:=he.form;obtain⟨va,vc,rfl,M⟩:=hv.form;obtain⟨ra,rn,rc,rfl⟩:=ar;rw[<- hl] at E;have aw:b.length<=es.length:=by omega
 have ax:es.length<=b.length:=by omega
 clear hl;have aB:Hid (zMh es b=(xW b.length).map (iP es b)):=rfl;have z:Hid ((zMh es b).length=b.length):=by simp[Hid,zMh]
 obtain⟨k0,k1,au,D⟩:=iM w #[.slice ea es.length ec,.slice ra rn rc] #[.slice none 0 0,.slice none 0 0,.slice none 0 0,.bool false] 70 118;have W:=zAa he;have ae:=zAa (hv.below D);have y:=zAa D;clear D he hv;go_enter func83,ntmps83;go_upto_region 1 with fail
 generalize hE:(w.alloc (.cells #[.slice ea es.length ec,.slice ra rn rc] 70)).alloc (.cells #[.slice none 0 0,.slice none 0 0,.slice none 0 0,.bool false] 118)=d at *;have ag:=aD k0 0 _ rfl;have l0:w.heap.size<d.heap.size:=by omega
 have l1:w.heap.size+1<d.heap.size:=by omega
 have K1:=zAa k1;have X:Hid (zAt (d.alloc (.cells (madeCells #[.int .i64 0] b.length) 3)) d.heap.size (dN (iP es b) b.length 0)):=by
  unfold Hid zAt;rw[xG,<- rE];exact heap_alloc_new d _
 have V:Hid (Below d.heap.size d (d.alloc (.cells (madeCells #[.int .i64 0] b.length) 3))):=(xa _ _).alloc (xF _) _;have az:w.heap.size+2<=d.heap.size:=by omega
 clear hE k0 k1 au;go_wp2;go_loopw [14] (fun j wr=>∃ (k:Nat),k<=b.length/\j=.int .i64 k/\Hid (zAt wr d.heap.size (dN (iP es b) b.length k))/\Hid (Below d.heap.size d wr)) (fun j _=>b.length-(intOf j).toNat)
 case atStart=>exact⟨0,xd _,rfl,X,V⟩
 case round =>
  obtain⟨k,hk,rfl,F,i⟩:=hrel;by_cases hlt:k<b.length
  ·have aN:(k:Int)<(b.length:Int):=by omega
   obtain⟨O,rfl,ah⟩:=E (by omega);obtain⟨B,rfl,aj,ai⟩:=M (by omega);have s:O<d.heap.size:=by omega
   have l:B<d.heap.size:=by omega
   have H:Hid (∀ q (S:q<b.length),d.cell? ⟨B,q,none⟩=some (.int .i64 (b.getD q (-1)))):=fun q S=>by rw[eT b q S];exact (y.out.cell (p:=⟨B,q,none⟩) aj).trans (ai q S)
   have ck:wr.cell? ⟨B,k,none⟩=some (.int .i64 (b.getD k (-1))):=(i.out.cell (p:=⟨B,k,none⟩) l).trans (H.out k hlt);have lv:=xb l i.out.size;have lp:=F.out.lt;have cp:=F.out.dA k (by rw[tU];exact hlt);have fp:=F.out.free k;have u:k<(dN (iP es b) b.length k).length:=by rw[tU];exact hlt
   have I:=zAa (F.out.set k 1);have Y:=zAa (zB (iP es b) b.length k hlt);have aa:Hid (iP es b k=iY es b k k):=rfl;have ac:Hid (iY es b k 0=1):=rfl;have ab:Hid (∀ q,iC es b k q=(b.getD k (-1) != -1&&b.getD q (-1)==b.getD k (-1)&&(Q.ev es q).thread != -1)):=fun q=>rfl
   have G:Hid (Below d.heap.size d (wr.setCell ⟨d.heap.size,k,none⟩ (.int .i64 1))):=i.out.setCell (p:=⟨d.heap.size,k,none⟩) (xF _) _;generalize ay:b.getD k (-1)=row at *;generalize aQ:(dN (iP es b) b.length k).getD k 0=aX at *;generalize aF:dN (iP es b) b.length k=MM at *;go_wp2;go_loopw [8] (fun j wq=>∃ (q:Nat),q<=k/\j=.int .i64 q/\Hid (zAt wq d.heap.size (MM.set k (iY es b k q)))/\Hid (Below d.heap.size d wq)) (fun j _=>k-(intOf j).toNat)
   case atStart=>exact⟨0,xd _,rfl,by rw[ac.out];exact I,G⟩
   case round =>
    clear ck lv lp cp fp I G;obtain⟨q,S,rfl,o,f⟩:=hrel;have aE:=aC f.out l0 ag;have aW:=xb l0 f.out.size;by_cases hql:q<k
    ·have aS:(q:Int)<(k:Int):=by omega
     have aR:(q:Int)<(es.length:Int):=by omega
     have aT:(q:Int)<(b.length:Int):=by omega
     have aq:q<b.length:=by omega
     have cq:wr.cell? ⟨B,q,none⟩=some (.int .i64 (b.getD q (-1))):=(f.out.cell (p:=⟨B,q,none⟩) l).trans (H.out q aq);have lv:=xb l f.out.size;have le:=xb s f.out.size;have ad:Hid (wr.rangeAt O (q*10) (aI (Q.ev es q)).toList):=fY (W.out.cM rfl q (by omega)) ((f.out.block O s).trans (y.out.block O ah));have ct:=ad.out 1 (.int .i64 (Q.ev es q).thread) rfl;have an:k<(MM.set k (iY es b k q)).length:=by rw[xj];exact u
     have ck:=o.out.dA k an;rw[kHL _ _ _ u] at ck;have fk:=o.out.free k;have lk:=o.out.lt;have N:=zAa (kIh es b k q);have m:=zAa (ab.out q);have aG:=kKQ es b k q;have J:=zAa (o.out.set k (iY es b k q+1));rw[List.set_set] at J;generalize b.getD q (-1)=x at *;generalize (Q.ev es q).thread=th at *;generalize aP:iY es b k q=T at *
     cases z1:(row != -1)
     ·have A:Hid (iY es b k (q+1)=T):=by unfold Hid;rw[N.out,m.out,z1];simp
      go_wp2;go_roundw
      case rel=>exact⟨q+1,by omega,by go_num,by rw[A.out];exact o,f⟩
      case measure=>simp[intOf];omega
     cases z2:(x==row)
     ·have A:Hid (iY es b k (q+1)=T):=by unfold Hid;rw[N.out,m.out,z1,z2];simp
      go_wp2;go_roundw
      case rel=>exact⟨q+1,by omega,by go_num,by rw[A.out];exact o,f⟩
      case measure=>simp[intOf];omega
     cases z3:(th != -1)
     ·have A:Hid (iY es b k (q+1)=T):=by unfold Hid;rw[N.out,m.out,z1,z2,z3];simp
      go_wp2;go_roundw
      case rel=>exact⟨q+1,by omega,by go_num,by rw[A.out];exact o,f⟩
      case measure=>simp[intOf];omega
     ·have A:Hid (iY es b k (q+1)=T+1):=by unfold Hid;rw[N.out,m.out,z1,z2,z3];simp
      go_wp2;go_roundw
      case rel=>exact⟨q+1,by omega,by go_num,by rw[A.out];exact J,f.out.setCell (p:=⟨d.heap.size,k,none⟩) (xF _) _⟩
      case measure=>simp[intOf];omega
    ·have ap:q=k:=by omega
     have Z:Hid (zAt wr d.heap.size (dN (iP es b) b.length (k+1))):=by
      have r:=o.out;rw[ap,<- aa.out] at r;unfold Hid;rw[<- Y.out];exact r
     have aH:decide ((q:Int)<(k:Int))=false:=decide_eq_false (by omega);go_wp2;go_roundw
     case rel=>exact⟨k+1,by omega,by go_num,Z,f⟩
     case measure=>simp[intOf];omega
  ·have am:k=b.length:=by omega
   have HF:Hid (zAt wr d.heap.size (zMh es b)):=by
    have r:=F.out;rw[am,zE] at r;exact r
   have af:=zAa (ae.out.below i.out);clear F E M;go_wp2_with (first
    | (go_at_call 68;refine (CG _ (zMh es b) _ (by have r:=(HF.out.below C).jK b.length (by rw[z.out];exact xF _);rw[z.out] at r;exact r) (by rw[z.out];omega)).mono ?_;rintro e w2 ⟨v1,v2,v3,rfl,⟨gb,gd,rfl,rfl,rfl,ak,al,aL,aM,ao⟩,K⟩;have B2:Hid (Below d.heap.size d w2):=aK (aK i.out (xF _) C) (xF _) K;have K2:=zAa ((B2.out.block _ l1).trans K1.out);obtain⟨t0,t1,t2,t3,tf,tl⟩:=rQ K2.out;have IB:=zAa ak;have ID:=zAa al;have IR:=zAa (L.below K))
    | (go_at_call 92;refine (yX _ b _ af.out (by omega)).mono ?_;rintro e w1 ⟨g1,rfl,L,av,C⟩))
   obtain⟨s0,U,s2⟩:=uM (s0:=.slice (some ⟨g1,0,none⟩) b.length b.length) (s1:=.slice (some ⟨gb,0,none⟩) (zMh es b).length (zMh es b).length) (s2:=.slice (some ⟨gd,0,none⟩) (zMh es b).length (zMh es b).length) (s3:=.bool false) K2.out;have aV:=i.out.size;have aU:=C.size;have aJ:=L.lt;refine gI (p:=4) (w.heap.size+1) _ (by kernel_rfl) underlying118 rfl (by kernel_rfl) rfl (by exact s0) rfl ⟨g1,gb,gd,rfl,IR.out.aA (U _ (by omega)),IB.out.aA (U _ (by omega)),ID.out.aA (U _ (by omega)),by omega,by omega,by omega,by omega,ao,s2 _ _ (by omega) (aK y.out (xF _) B2.out)⟩
namespace Q
def cF (es:List Ev) (i k:Nat):List Int:=((xW k).filter (oI es i)).map fun k:Nat=>(k:Int)
theorem kIk (es:List Ev) (i k:Nat):cF es i (k+1)=cF es i k++if oI es i k then [(k:Int)] else []:=by
 unfold cF;rw[List.range_succ,List.filter_append,xe]
 congr 1
 cases h:oI es i k<;>simp[List.filter,h]
theorem zPc (es:List Ev) (i k:Nat):(cF es i k).length<=k:=by
 unfold cF;rw[List.length_map];have:=xh (oI es i) (xW k);simpa using this
end Q
theorem zAP.bZ {c:World} {e:Ev} {u:Value} {B n m:Nat} {o:List Value} (h:zAP w g e) (k:w.ownsRow B t m u n o) (l:t≠146) (j:w.grownBy c u.ownBlock):zAP c g e:=by
 have i:=h.lt;unfold zAP at *;rw[j.block g i (fun e=>by
  rcases k.2 with ⟨a,_⟩ | ⟨p,d,f,a,_,b,_⟩
  ·rw[a] at e;simp[xg] at e
  ·rw[a] at e;simp[xg] at e;subst e;rw[h] at b;simp at b;exact l b.2.symm)]
 exact h
theorem zGL (ev rg:Value) (es:List Ev) (i:Nat) (w:World) (he:zAV w ev es) (ao:∃ a n c,rg=.slice a n c) (hi:i<es.length) (hn:es.length<=64) :
  Calls prog 108 #[.agg #[ev,rg],.int .i64 (i:Int)] w fun e w'=>∃ v,e=.returned v/\zCj w' v (kE es i)/\(∀ k,v.ownBlock=some k->w.heap.size<=k)/\Below w.heap.size w w':=by
 obtain⟨i0,aa,ae,af,ag⟩:=info_parts Tryz.infoIntM;obtain⟨ea,ec,rfl,Z⟩:=he.form;obtain⟨ra,rn,rc,rfl⟩:=ao;obtain⟨z,rfl,al⟩:=Z (by omega);obtain⟨k0,ap,Y⟩:=jE w #[.slice (some ⟨z,0,none⟩) es.length ec,.slice ra rn rc] 70;have ai:=zAa he;have D:=zAa Y;have U:Hid (∀ W:World,Below w.heap.size w W->∀ k,k<es.length->W.rangeAt z (k*10) (aI (Q.ev es k)).toList):=fun W hb k hk=>fY (ai.out.cM rfl k hk) (hb.block z al)
 have az:(i:Int)<(es.length:Int):=by omega
 have S:Hid (kE es i=if (Q.ev es i).kind==0 then cF es i es.length else [-1]):=rfl;have aj:Hid (∀ k,oI es i k=((Q.ev es k).kind==1&&(Q.ev es k).var==(Q.ev es i).var&&(Q.ev es k).value==(Q.ev es i).value&&!((Q.ev es i).step&&k==i+1))):=fun _=>rfl
 clear Y he Z;go_enter func108,ntmps108;go_upto_region 1 with fail
 generalize hE:w.alloc (.cells #[.slice (some ⟨z,0,none⟩) es.length ec,.slice ra rn rc] 70)=l at *;have au:=aD k0 0 _ rfl;have l0:w.heap.size<l.heap.size:=by omega
 have ar:z<l.heap.size:=by omega
 have V:=zAa (U.out l D.out i hi);have ck:=V.out 0 (.int .i64 (Q.ev es i).kind) rfl;have aw:decide ((i:Int)<0)=false:=decide_eq_false (by omega);have ax:decide ((es.length:Int)<=(i:Int))=false:=decide_eq_false (by omega);clear hE k0 ap;have ah:((Q.ev es i).kind != 0)=!((Q.ev es i).kind==0):=rfl;generalize ay:Q.ev es i=B at *;simp only[Nat.add_zero] at ck
 cases z0:(B.kind==0)
 ·rw[z0] at ah;have HV:Hid (kE es i=[-1]):=by unfold Hid;rw[S.out,z0];rfl
  go_wp2;go_ret;refine⟨_,rfl,?_,fun k hk=>by simp[xg] at hk;omega,D.out.alloc (by have:=D.out.size;omega) _⟩;rw[HV.out];refine Or.inr ⟨l.heap.size,1,rfl,fun j hj=>?_,by simp⟩;have am:j=0:=by simp at hj;omega
  subst am;have h1:=heap_alloc_new l (.cells #[.int .i64 (-1)] 3);simp only[World.cell?,h1];rfl
 ·rw[z0] at ah;have HV:Hid (kE es i=cF es i es.length):=by unfold Hid;rw[S.out,z0];rfl
  have N:Hid (zAP (l.alloc (.cells (aI B) 146)) l.heap.size B):=zAP.bT l B;have O:Hid (Below l.heap.size l (l.alloc (.cells (aI B) 146))):=(xa _ _).alloc (xF _) _;go_wp2_with (first | (refine cQ (.tmp 32) rfl rfl z (i*10) B rfl V.out ?_));go_loopw [6,37] (fun a j wr=>∃ (k:Nat) (v:Value),k<=es.length/\j=.int .i64 k/\a=v/\Hid (wr.ownsRow l.heap.size 3 1 v (cF es i k).length ((cF es i k).map (xR .i64)))/\Hid (Below l.heap.size l wr)/\Hid (zAP wr l.heap.size B)) (fun _ j _=>es.length-(intOf j).toNat)
  case atStart=>exact⟨0,_,xd _,rfl,rfl,by simpa [Hid,cF] using World.ownsRow_nil _ _ _ _,O,N⟩
  case round =>
   clear N O;obtain⟨k,v,hk,rfl,L,T,HB,HA⟩:=hrel;have L:=L.symm;subst L;have M:∃ a c,v=.slice a (cF es i k).length c:=by
    rcases T.out.2 with ⟨e,h0⟩ | ⟨g',c,av,e,_⟩
    ·exact⟨none,0,by rw[e,h0]⟩
    ·exact⟨_,c,e⟩
   obtain⟨va,vc,rfl⟩:=M;by_cases hlt:k<es.length
   ·have aA:(k:Int)<(es.length:Int):=by omega
    have q:=zAa (U.out wr (aK D.out (xF _) HB.out) k hlt);have lb:=xb ar HB.out.size;have C:=zAa (kIk es i k);have ak:=zAa (aj.out k);rw[ak.out] at C;have aB:=zPc es i k;generalize Q.ev es k=f at *;have p:Hid (Below l.heap.size l (wr.alloc (.cells (aI f) 146))):=HB.out.alloc HB.out.size _;have o:=zAa (HA.out.alloc (.cells (aI f) 146));have m:Hid ((wr.alloc (.cells (aI f) 146)).ownsRow l.heap.size 3 1 (.slice va (cF es i k).length vc) (cF es i k).length ((cF es i k).map (xR .i64))):=aX T.out (fun y e=>Below.heap_alloc _ _ _ (T.out.lt y e).2);obtain⟨x0,x1,x2,x3,x4,x5,x6,x7,x8,x9,xf,xl⟩:=o.out.facts;clear x0 x1 x2 x5 x6 x7 x9;simp only[aI] at x3 x4 x8 xf xl;have ab:((k:Int)==(i:Int)+1)=(k==i+1):=by
     by_cases h:k=i+1
     ·have h':(k:Int)=(i:Int)+1:=by omega
      rw[beq_iff_eq.2 h',beq_iff_eq.2 h]
     ·have h':¬ ((k:Int)=(i:Int)+1):=by omega
      rw[beq_eq_false_iff_ne.2 h',beq_eq_false_iff_ne.2 h]
    have x:Hid (∀ b:Bool,b=false->cF es i (k+1)=cF es i k++(if b then [(k:Int)] else [])->cF es i (k+1)=cF es i k):=fun b hb h=>by rw[h,hb];simp
    generalize ad:B.step=sp at *;clear ad;cases sp
    ·skip
     cases z1:(f.kind==1)
     ·have r:Hid (cF es i (k+1)=cF es i k):=x.out _ (by simp[z1]) C.out;go_wp2_with (first | (refine cQ (.tmp 40) rfl rfl z (k*10) f rfl q.out ?_));go_roundw
      case rel=>exact⟨k+1,_,by omega,by go_num,rfl,by rw[r.out];exact m,p,o⟩
      case measure=>simp[intOf];omega
     cases z2:(f.var==B.var)
     ·have r:Hid (cF es i (k+1)=cF es i k):=x.out _ (by simp[z1,z2]) C.out;go_wp2_with (first | (refine cQ (.tmp 40) rfl rfl z (k*10) f rfl q.out ?_));go_roundw
      case rel=>exact⟨k+1,_,by omega,by go_num,rfl,by rw[r.out];exact m,p,o⟩
      case measure=>simp[intOf];omega
     cases z3:(f.value==B.value)
     ·have r:Hid (cF es i (k+1)=cF es i k):=x.out _ (by simp[z1,z2,z3]) C.out;go_wp2_with (first | (refine cQ (.tmp 40) rfl rfl z (k*10) f rfl q.out ?_));go_roundw
      case rel=>exact⟨k+1,_,by omega,by go_num,rfl,by rw[r.out];exact m,p,o⟩
      case measure=>simp[intOf];omega
     ·have r:Hid (cF es i (k+1)=cF es i k++[(k:Int)]):=by unfold Hid;rw[C.out];simp[z1,z2,z3]
      have aq:l.heap.size<=wr.heap.size:=HB.out.size;have E:Below (wr.alloc (.cells (aI f) 146)).heap.size (wr.alloc (.cells (aI f) 146)) ((wr.alloc (.cells (aI f) 146)).alloc (.cells #[.int .i64 (k:Int)] 3)):=(xa _ _).alloc (xF _) _;have A:Hid (((wr.alloc (.cells (aI f) 146)).alloc (.cells #[.int .i64 (k:Int)] 3)).ownsRow l.heap.size 3 1 (.slice va (cF es i k).length vc) (cF es i k).length ((cF es i k).map (xR .i64))):=aX m.out (fun y e=>E.block y (m.out.lt y e).2);have J:Hid (∀ j u,[xR .i64 (k:Int)][j]?=some u->((wr.alloc (.cells (aI f) 146)).alloc (.cells #[.int .i64 (k:Int)] 3)).cell? ((⟨wr.heap.size+1,0,none⟩:Addr).add j)=some u):=xk (cs:=#[.int .i64 (k:Int)]) (t:=3) (fr:=(0,0)) (by have:=heap_alloc_new (wr.alloc (.cells (aI f) 146)) (.cells #[.int .i64 (k:Int)] 3);simpa using this);have H:Hid (Below l.heap.size l ((wr.alloc (.cells (aI f) 146)).alloc (.cells #[.int .i64 (k:Int)] 3))):=p.out.alloc (by simp;omega) _;have F:=zAa (o.out.below E);clear E;go_wp2_with (first | (refine cQ (.tmp 40) rfl rfl z (k*10) f rfl q.out ?_) | (at_builtin;refine wpList_append_lies _ rfl (.tmp 71) (.tmp 73) 68 rfl l.heap.size 3 i0 (.int .i64 0) 1 8 underlying68 aa ae af ag rfl (by decide) _ (cF es i k).length ((cF es i k).map (xR .i64)) rfl (by exact A.out) ⟨wr.heap.size+1,0,none⟩ 1 1 [.int .i64 (k:Int)] rfl rfl (by exact J.out) (by simp[xm]) (by decide) (by unfold maxLen;omega) (by omega) (by simp;omega) _ rfl ?_;intro gn cn w5 s d X ac));have I:Hid (Below l.heap.size l w5):=H.out.trans ⟨d.os,d.tape,d.output,d.size,fun y hy=>d.block y (by simp;omega) (fun e=>by have:=(A.out.lt y e.symm).1;omega)⟩;have G:=zAa (F.out.bZ A.out (by decide) d);have K:Hid (w5.ownsRow l.heap.size 3 1 (.slice (some ⟨gn,0,none⟩) ((cF es i k).length+1) cn) (cF es i (k+1)).length ((cF es i (k+1)).map (xR .i64))):=by
       unfold Hid;rw[r.out,xe,xn];exact s
      clear s d;go_roundw
      case rel=>exact⟨k+1,_,by omega,by go_num,rfl,K,I,G⟩
      case measure=>simp[intOf];omega
    cases z5:(k==i+1)
    ·rw[z5] at ab
     cases z1:(f.kind==1)
     ·have r:Hid (cF es i (k+1)=cF es i k):=x.out _ (by simp[z1,z5]) C.out;go_wp2_with (first | (refine cQ (.tmp 40) rfl rfl z (k*10) f rfl q.out ?_));go_roundw
      case rel=>exact⟨k+1,_,by omega,by go_num,rfl,by rw[r.out];exact m,p,o⟩
      case measure=>simp[intOf];omega
     cases z2:(f.var==B.var)
     ·have r:Hid (cF es i (k+1)=cF es i k):=x.out _ (by simp[z1,z2,z5]) C.out;go_wp2_with (first | (refine cQ (.tmp 40) rfl rfl z (k*10) f rfl q.out ?_));go_roundw
      case rel=>exact⟨k+1,_,by omega,by go_num,rfl,by rw[r.out];exact m,p,o⟩
      case measure=>simp[intOf];omega
     cases z3:(f.value==B.value)
     ·have r:Hid (cF es i (k+1)=cF es i k):=x.out _ (by simp[z1,z2,z3,z5]) C.out;go_wp2_with (first | (refine cQ (.tmp 40) rfl rfl z (k*10) f rfl q.out ?_));go_roundw
      case rel=>exact⟨k+1,_,by omega,by go_num,rfl,by rw[r.out];exact m,p,o⟩
      case measure=>simp[intOf];omega
     ·have r:Hid (cF es i (k+1)=cF es i k++[(k:Int)]):=by unfold Hid;rw[C.out];simp[z1,z2,z3,z5]
      have aq:l.heap.size<=wr.heap.size:=HB.out.size;have E:Below (wr.alloc (.cells (aI f) 146)).heap.size (wr.alloc (.cells (aI f) 146)) ((wr.alloc (.cells (aI f) 146)).alloc (.cells #[.int .i64 (k:Int)] 3)):=(xa _ _).alloc (xF _) _;have A:Hid (((wr.alloc (.cells (aI f) 146)).alloc (.cells #[.int .i64 (k:Int)] 3)).ownsRow l.heap.size 3 1 (.slice va (cF es i k).length vc) (cF es i k).length ((cF es i k).map (xR .i64))):=aX m.out (fun y e=>E.block y (m.out.lt y e).2);have J:Hid (∀ j u,[xR .i64 (k:Int)][j]?=some u->((wr.alloc (.cells (aI f) 146)).alloc (.cells #[.int .i64 (k:Int)] 3)).cell? ((⟨wr.heap.size+1,0,none⟩:Addr).add j)=some u):=xk (cs:=#[.int .i64 (k:Int)]) (t:=3) (fr:=(0,0)) (by have:=heap_alloc_new (wr.alloc (.cells (aI f) 146)) (.cells #[.int .i64 (k:Int)] 3);simpa using this);have H:Hid (Below l.heap.size l ((wr.alloc (.cells (aI f) 146)).alloc (.cells #[.int .i64 (k:Int)] 3))):=p.out.alloc (by simp;omega) _;have F:=zAa (o.out.below E);clear E;go_wp2_with (first | (refine cQ (.tmp 40) rfl rfl z (k*10) f rfl q.out ?_) | (at_builtin;refine wpList_append_lies _ rfl (.tmp 71) (.tmp 73) 68 rfl l.heap.size 3 i0 (.int .i64 0) 1 8 underlying68 aa ae af ag rfl (by decide) _ (cF es i k).length ((cF es i k).map (xR .i64)) rfl (by exact A.out) ⟨wr.heap.size+1,0,none⟩ 1 1 [.int .i64 (k:Int)] rfl rfl (by exact J.out) (by simp[xm]) (by decide) (by unfold maxLen;omega) (by omega) (by simp;omega) _ rfl ?_;intro gn cn w5 s d X ac));have I:Hid (Below l.heap.size l w5):=H.out.trans ⟨d.os,d.tape,d.output,d.size,fun y hy=>d.block y (by simp;omega) (fun e=>by have:=(A.out.lt y e.symm).1;omega)⟩;have G:=zAa (F.out.bZ A.out (by decide) d);have K:Hid (w5.ownsRow l.heap.size 3 1 (.slice (some ⟨gn,0,none⟩) ((cF es i k).length+1) cn) (cF es i (k+1)).length ((cF es i (k+1)).map (xR .i64))):=by
       unfold Hid;rw[r.out,xe,xn];exact s
      clear s d;go_roundw
      case rel=>exact⟨k+1,_,by omega,by go_num,rfl,K,I,G⟩
      case measure=>simp[intOf];omega
    ·rw[z5] at ab
     cases z1:(f.kind==1)
     ·have r:Hid (cF es i (k+1)=cF es i k):=x.out _ (by simp[z1,z5]) C.out;go_wp2_with (first | (refine cQ (.tmp 40) rfl rfl z (k*10) f rfl q.out ?_));go_roundw
      case rel=>exact⟨k+1,_,by omega,by go_num,rfl,by rw[r.out];exact m,p,o⟩
      case measure=>simp[intOf];omega
     cases z2:(f.var==B.var)
     ·have r:Hid (cF es i (k+1)=cF es i k):=x.out _ (by simp[z1,z2,z5]) C.out;go_wp2_with (first | (refine cQ (.tmp 40) rfl rfl z (k*10) f rfl q.out ?_));go_roundw
      case rel=>exact⟨k+1,_,by omega,by go_num,rfl,by rw[r.out];exact m,p,o⟩
      case measure=>simp[intOf];omega
     cases z3:(f.value==B.value)
     ·have r:Hid (cF es i (k+1)=cF es i k):=x.out _ (by simp[z1,z2,z3,z5]) C.out;go_wp2_with (first | (refine cQ (.tmp 40) rfl rfl z (k*10) f rfl q.out ?_));go_roundw
      case rel=>exact⟨k+1,_,by omega,by go_num,rfl,by rw[r.out];exact m,p,o⟩
      case measure=>simp[intOf];omega
     ·have r:Hid (cF es i (k+1)=cF es i k):=x.out _ (by simp[z1,z2,z3,z5]) C.out;go_wp2_with (first | (refine cQ (.tmp 40) rfl rfl z (k*10) f rfl q.out ?_));go_roundw
      case rel=>exact⟨k+1,_,by omega,by go_num,rfl,by rw[r.out];exact m,p,o⟩
      case measure=>simp[intOf];omega
   ·have an:k=es.length:=by omega
    go_wp2;go_ret;refine⟨_,rfl,?_,fun y hy=>by have:=(T.out.lt y hy).1;omega,aK D.out (xF _) HB.out⟩;rw[HV.out,<- an];exact vS T.out rfl
namespace Q
def kH (es:List Ev) (k:Nat):Int:=if kAC (ev es k) then 0 else -1
theorem kEK (es:List Ev):zMg es=(xW es.length).map (kH es):=by
 unfold zMg;apply List.ext_getElem
 ·simp
 ·intro i a b;simp at a;simp[kH,ev,a]
end Q
theorem zEE (ev rg:Value) (es:List Ev) (w:World) (Z:zAV w ev es) (af:∃ a n c,rg=.slice a n c) (hn:es.length<=64) :
  Calls prog 46 #[.agg #[ev,rg]] w fun e w'=>DK w w' (zMg es) (zMh es (zMg es)) e:=by
 have ao:∀ w,(xi 68 (.int .i64 (es.length:Int)) (.int .i64 (es.length:Int))).run prog w=.ok (.slice (some ⟨w.heap.size,0,none⟩) es.length es.length) (w.alloc (.cells (madeCells #[.int .i64 0] es.length) 3)) :=
  fun w=>run_make_row' 68 3 (.int .i64 0) 8 underlying68 Tryz.infoInt rfl .i64 .i64 es.length (by omega) (by omega) w
 obtain⟨U,V,rfl,E⟩:=Z.form;obtain⟨ra,rn,rc,rfl⟩:=af;obtain⟨k0,k1,ag,D⟩:=iM w #[.slice U es.length V,.slice ra rn rc] #[.slice none 0 0,.slice none 0 0,.slice none 0 0,.bool false] 70 118;have y:=zAa Z;have s:=zAa D;have O:Hid (zMg es=(xW es.length).map (kH es)):=kEK es;have m:Hid ((zMg es).length=es.length):=by simp[Hid,zMg]
 clear D Z;go_enter func46,ntmps46;go_upto_region 1 with fail
 generalize hE:(w.alloc (.cells #[.slice U es.length V,.slice ra rn rc] 70)).alloc (.cells #[.slice none 0 0,.slice none 0 0,.slice none 0 0,.bool false] 118)=d at *;have S:=aD k0 0 _ rfl;have T:=aD k0 1 _ rfl;have l0:w.heap.size<d.heap.size:=by omega
 have l1:w.heap.size+1<d.heap.size:=by omega
 have ai:w.heap.size+2<=d.heap.size:=by omega
 have K1:=zAa k1;have M:Hid (zAt (d.alloc (.cells (madeCells #[.int .i64 0] es.length) 3)) d.heap.size (dN (kH es) es.length 0)):=by
  unfold Hid zAt;rw[xG,<- rE];exact heap_alloc_new d _
 have K:Hid (Below d.heap.size d (d.alloc (.cells (madeCells #[.int .i64 0] es.length) 3))):=(xa _ _).alloc (xF _) _;clear hE k0 k1 ag;go_wp2;go_loopw [13] (fun j wr=>∃ (k:Nat),k<=es.length/\j=.int .i64 k/\Hid (zAt wr d.heap.size (dN (kH es) es.length k))/\Hid (Below d.heap.size d wr)) (fun j _=>es.length-(intOf j).toNat)
 case atStart=>exact⟨0,xd _,rfl,M,K⟩
 case round =>
  obtain⟨k,hk,rfl,H,b⟩:=hrel;by_cases hlt:k<es.length
  ·have an:(k:Int)<(es.length:Int):=by omega
   obtain⟨v,rfl,Y⟩:=E (by omega);have C:v<d.heap.size:=by omega
   have B:Hid (wr.rangeAt v (k*10) (aI (Q.ev es k)).toList):=fY (y.out.cM rfl k (by omega)) ((b.out.block v C).trans (s.out.block v Y));have z:=zAa (zB (kH es) es.length k hlt);have A:Hid (kH es k=if kAC (Q.ev es k) then 0 else -1):=rfl;generalize Q.ev es k=f at *;have l:=zAa (H.out.below ((xa _ _).alloc (xF _) (.cells (aI f) 146)));have x:Hid (Below d.heap.size d (wr.alloc (.cells (aI f) 146))):=b.out.alloc b.out.size _;have F:k<(dN (kH es) es.length k).length:=by rw[tU];exact hlt
   have r:k<((dN (kH es) es.length k).set k (-1)).length:=by rw[xj];exact F
   have t0:=l.out.dA k F;have ff:=l.out.free k;have tl:=l.out.lt;have JX:=zAa (l.out.set k (-1));have BX:Hid (Below d.heap.size d ((wr.alloc (.cells (aI f) 146)).setCell ⟨d.heap.size,k,none⟩ (.int .i64 (-1)))):=x.out.setCell (p:=⟨d.heap.size,k,none⟩) (xF _) _;have EA:Hid (zAP ((wr.alloc (.cells (aI f) 146)).setCell ⟨d.heap.size,k,none⟩ (.int .i64 (-1))) wr.heap.size f):=by
    have u:=zAP.bT wr f;have h2:=H.out.lt;unfold Hid zAP at *;rw[xc _ _ _ _ (by simp;omega)];exact u
   obtain⟨x0,x1,x2,x3,x4,x5,x6,x7,x8,x9,xf,xl⟩:=EA.out.facts;simp only[aI] at t0 ff tl x0 x1 x2 x3 x4 x5 x6 x7 x8 x9 xf xl;generalize al:(dN (kH es) es.length k).getD k 0=gm at *
   cases z1:(kAC f)
   ·have N:Hid ((dN (kH es) es.length k).set k (-1)=dN (kH es) es.length (k+1)):=by unfold Hid;rw[<- z.out,A.out,z1];rfl
    skip
    go_wp2_with (first | (refine cQ (.tmp 16) rfl rfl v (k*10) f rfl B.out ?_) | (go_at_call 82;refine (yK f _).mono ?_;rintro e w5 ⟨rfl,i⟩;rw[z1];have o:=zAa (JX.out.below i);have J:=zAa (aK BX.out (xF _) i);have t5:=o.out.dA k r;have W:=o.out.free k;have ah:=o.out.lt));go_roundw
    case rel=>exact⟨k+1,by omega,by go_num,(by rw[<- N.out];exact o.out),J⟩
    case measure=>simp[intOf];omega
   ·have N:Hid (((dN (kH es) es.length k).set k (-1)).set k (0)=dN (kH es) es.length (k+1)):=by unfold Hid;rw[List.set_set,<- z.out,A.out,z1];rfl
    skip
    go_wp2_with (first | (refine cQ (.tmp 16) rfl rfl v (k*10) f rfl B.out ?_) | (go_at_call 82;refine (yK f _).mono ?_;rintro e w5 ⟨rfl,i⟩;rw[z1];have o:=zAa (JX.out.below i);have J:=zAa (aK BX.out (xF _) i);have t5:=o.out.dA k r;have W:=o.out.free k;have ah:=o.out.lt));go_roundw
    case rel=>exact⟨k+1,by omega,by go_num,by rw[<- N.out];exact o.out.set k 0,J.out.setCell (p:=⟨d.heap.size,k,none⟩) (xF _) _⟩
    case measure=>simp[intOf];omega
  ·have ad:k=es.length:=by omega
   have HF:Hid (zAt wr d.heap.size (zMg es)):=by
    have u:=H.out;rw[ad,zE,<- O.out] at u;exact u
   have L:Hid (zAV wr (.slice U es.length V) es):=y.out.keep fun q hq=>(b.out.block q (by omega)).trans (s.out.block q hq)
   have d0:=aC b.out l0 S;have d1:=aC b.out l0 T;have aq:=xb l0 b.out.size;clear H E;go_wp2_with (first | (go_at_call 83;refine (zFb _ _ _ es (zMg es) _ L.out ⟨_,_,_,rfl⟩ (by have u:=HF.out.jK es.length (by rw[m.out];exact xF _);rw[m.out] at u;exact u) (by rw[m.out]) (by rw[m.out];exact hn)).mono ?_;rintro e w2 ⟨gr,gb,gd,rfl,ac,aa,ab,am,aj,ak,ae,G,X⟩;have B2:Hid (Below d.heap.size d w2):=aK b.out (xF _) X;have K2:=zAa ((B2.out.block _ l1).trans K1.out);obtain⟨t0,t1,t2,t3,tf,tl⟩:=rQ K2.out;have IB:=zAa aa;have ID:=zAa ab;have IR:=zAa ac));obtain⟨s0,I,s2⟩:=uM (s0:=.slice (some ⟨gr,0,none⟩) (zMg es).length (zMg es).length) (s1:=.slice (some ⟨gb,0,none⟩) (zMh es (zMg es)).length (zMh es (zMg es)).length) (s2:=.slice (some ⟨gd,0,none⟩) (zMh es (zMg es)).length (zMh es (zMg es)).length) (s3:=.bool false) K2.out;have ap:=b.out.size;refine gI (p:=2) (w.heap.size+1) _ (by kernel_rfl) underlying118 rfl (by kernel_rfl) rfl (by exact s0) rfl ⟨gr,gb,gd,rfl,IR.out.aA (I _ (by omega)),IB.out.aA (I _ (by omega)),ID.out.aA (I _ (by omega)),by omega,by omega,by omega,ae,G,s2 _ _ (by omega) (aK s.out (xF _) B2.out)⟩
end Go.Proofs.YtonodfjdiepglaaGreatDoor
