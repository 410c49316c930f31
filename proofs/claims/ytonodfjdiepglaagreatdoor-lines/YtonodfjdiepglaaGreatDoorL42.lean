import Derived.Test.YtonodfjdiepglaaGreatDoorL41
set_option linter.unusedVariables false
set_option linter.unusedSimpArgs false
set_option maxHeartbeats 12800000
namespace Go.Proofs.YtonodfjdiepglaaGreatDoor
open Go Go.RowKit Go.Proofs.Tryz P Q R
set_option maxRecDepth 1000000
open Nat renaming le_refl→xF,lt_of_lt_of_le→xW
open Go.RowKit.Below renaming refl→xR,heap_alloc→xd
open List renaming drop_eq_nil_of_le→xb
namespace P
def evS:List Stm->Int
 | []=>0
 | s::r=>(if s.kind==4 then 1 else if s.kind==5 then 2 else 0)+evS r
def evT:List Thr->Int
 | []=>0
 | t::r=>evS t.Eb+evT r
end P
theorem zHX (B K n x:Nat) (f:List Thr) (w:World) (h:eF w B (.slice (some ⟨K,0,none⟩) n x) f) (O:n=f.length) (ae:n<10) (d:∀ t∈f,t.Eb.length<10000) :
  Calls prog 20 #[.agg #[.slice (some ⟨K,0,none⟩) n x]] w fun e w'=>e=.returned (.bool (decide (50<evT f)))/\Below w.heap.size w w':=by
 have T:=zAa h;have F:=zAa O;have W:=zAa d;clear h O d;go_enter func20,ntmps20;go_wp2;go_loopw [3,11] (fun c i wr=>∃ k:Nat,∃ m:Int,k<=n/\i=.int .i64 k/\c=.int .i64 m/\0<=m/\m<=20000*k/\Hid (evT f=m+evT (f.drop k))/\Below w.heap.size w wr) (fun _ i _=>n-(intOf i).toNat)
 case atStart=>exact⟨0,0,Nat.zero_le _,rfl,rfl,by omega,by omega,by unfold Hid;simp,(xR _ _).alloc (xF _) _⟩
 case round =>
  obtain⟨k,m,hk,rfl,rfl,ac,ad,HB,a⟩:=hrel;by_cases hlt:k<n
  ·have u:k<f.length:=by rw[<- F.out];exact hlt
   obtain⟨s,S,sc,L,M,N,H⟩:=uE T.out F.out k u;have d0:=aC a s L;have d1:=aC a s M;have d2:=aC a s N;have ab:=W.out f[k] (List.getElem_mem u);have U:=zAa (tD f k u);have V:=zAa H;generalize d:f[k]=t at *;have I:0<t.Eb.length->∃ b,S=some ⟨b,0,none⟩/\b<w.heap.size:=fun h0=>by
    rcases H.2 with ⟨e,Z⟩ | ⟨X,c',Y,e,aa,G,_⟩
    ·omega
    ·simp only[Value.slice.injEq] at e;exact⟨X,e.1,(Array.getElem?_eq_some_iff.1 G).1⟩
   clear d L M N H;have J:w.heap.size<=wr.heap.size:=a.size;have l:Below w.heap.size w (wr.alloc (.cells #[.int .i64 t.block,.int .i64 t.line,.slice S t.Eb.length sc] 104)):=a.alloc J _;have E:=zAa l;clear l a;go_wp2;go_loopw [3,18] (fun c j w2=>∃ q:Nat,∃ p:Int,q<=t.Eb.length/\j=.int .i64 q/\c=.int .i64 p/\m<=p/\p<=m+2*q/\Hid (m+evS t.Eb=p+evS (t.Eb.drop q))/\Below w.heap.size w w2) (fun _ j _=>t.Eb.length-(intOf j).toNat)
   case atStart=>exact⟨0,m,Nat.zero_le _,rfl,rfl,by omega,by omega,by unfold Hid;simp,E.out⟩
   case round =>
    obtain⟨q,p,hq,rfl,rfl,af,ag,A,a⟩:=hrel;by_cases hql:q<t.Eb.length
    ·obtain⟨b,rfl,z⟩:=I (by omega);have D:=zAa (fY (wA V.out rfl q hql) (a.block b z));have C:=zAa (tD t.Eb q hql);generalize d:t.Eb[q]=v at D C;clear d;have o:=a.size
     cases h4:(v.kind==4)
     rotate_left
     ·have g:Hid (m+evS t.Eb=(p+1)+evS (t.Eb.drop (q+1))):=by
       unfold Hid;rw[A.out,C.out,evS];simp[h4];omega
      go_wp2_with (first | (refine kW (.tmp 20) rfl rfl b (q*11) v rfl D.out ?_));go_roundw
      case rel=>exact⟨q+1,p+1,by omega,by go_num,by go_num,by omega,by simp;omega,g,a.alloc o _⟩
      case measure=>simp[intOf];omega
     have y:¬ v.kind=4:=by simpa using h4
     cases h5:(v.kind==5)
     ·have g:Hid (m+evS t.Eb=p+evS (t.Eb.drop (q+1))):=by
       unfold Hid;rw[A.out,C.out,evS];simp[y,h5]
      go_wp2_with (first | (refine kW (.tmp 20) rfl rfl b (q*11) v rfl D.out ?_));go_roundw
      case rel=>exact⟨q+1,p,by omega,by go_num,by go_num,by omega,by simp;omega,g,a.alloc o _⟩
      case measure=>simp[intOf];omega
     ·have g:Hid (m+evS t.Eb=(p+2)+evS (t.Eb.drop (q+1))):=by
       unfold Hid;rw[A.out,C.out,evS];simp[y,h5];omega
      go_wp2_with (first | (refine kW (.tmp 20) rfl rfl b (q*11) v rfl D.out ?_));go_roundw
      case rel=>exact⟨q+1,p+2,by omega,by go_num,by go_num,by omega,by simp;omega,g,a.alloc o _⟩
      case measure=>simp[intOf];omega
    ·have r:Hid (evT f=p+evT (f.drop (k+1))):=by
      have e:m+evS t.Eb=p:=by rw[A.out,xb (by omega)];simp[evS]
      unfold Hid;rw[HB.out,U.out,evT];omega
     go_wp2;go_roundw
     case rel=>exact⟨k+1,p,by omega,by go_num,rfl,by omega,by simp;omega,r,a⟩
     case measure=>simp[intOf];omega
  ·have r:Hid (evT f=m):=by
    unfold Hid;rw[HB.out,xb (by have:=F.out;omega)];simp[evT]
   go_wp2;go_ret;rw[r.out];exact⟨rfl,a⟩
namespace P
theorem kGt (a:List (List UInt8)):∀ (k:Nat) (r:Rd),GoodA k r->r.line=k->GoodA (k+a.length) (kAS r a).1/\r.line<=(kAS r a).1.line/\((kAS r a).2=false->r.line<(kAS r a).1.line):=by
 induction a with
 | nil=>intro k r h _;exact⟨h,by simp[kAS],by simp[kAS]⟩
 | cons x r ih =>
  intro k q h d;have c:=kFb x h d;have b:(kAt { q with line:=q.line+1 } x).1.line=q.line+1:=(zOC { q with line:=q.line+1 } x).1;simp only[kAS]
  cases e:(kAt { q with line:=q.line+1 } x).2
  ·refine⟨?_,?_,?_⟩
   ·have g:=c.good;refine⟨⟨g.few,fun t e=>?_,g.opn,g.ifs0,?_,g.cnt,g.lin0,?_⟩,c.opn,?_⟩
    ·have:=g.stm t e;simp;omega
    ·have:=g.ifs1;simp at *;omega
    ·have:=g.lin1;simp at *;omega
    ·have:=c.cn;simp at *;omega
   ·simp[b];omega
   ·simp[b];omega
  ·obtain⟨f,i,j⟩:=ih (k+1) _ c (by rw[b,d];simp);simp only[if_true];refine⟨?_,?_,?_⟩
   ·rw[show k+(x::r).length=k+1+r.length by simp;omega];exact f
   ·rw[b] at i;omega
   ·intro l;have:=j l;rw[b] at this;omega
theorem kGg (l:List UInt8) (h:(zMr l).2=0):(zMr l).1≠[]/\(zMr l).1.length<=4/\∀ t∈(zMr l).1,t.Eb.length<=l.length:=by
 have i:=pY 10 l;obtain⟨b,f,c⟩:=kGt (zMi 10 l).dropLast 0 Rd.zeroA kDC rfl;have g:(zMi 10 l).dropLast.length<=l.length:=by rw[List.length_dropLast];omega
 unfold zMr at h ⊢;simp only[] at h ⊢
 cases hq:(kAS Rd.zeroA (zMi 10 l).dropLast).2
 ·have:=c hq;have z:Rd.zeroA.line=0:=rfl;simp[hq] at h;omega
 ·simp only[hq,if_true] at h ⊢
  split at h
  ·have z:Rd.zeroA.line=0:=rfl;simp at h;omega
  ·rename_i a;rw[if_neg a];refine⟨fun e=>a (Or.inr (Or.inr e)),b.good.few,fun t d=>?_⟩;have:=b.good.stm t d;omega
def kAz (l:List UInt8):List Thr × Int × Int :=
 if 2000<l.length then ([],1,0)
 else if (zMr l).2 != 0 then ([],2,(zMr l).2)
 else if zMs (zMr l).1 (zMr l).1 != 0 then ([],3,zMs (zMr l).1 (zMr l).1)
 else if over (zMr l).1||decide (50<evT (zMr l).1) then ([],4,0)
 else ((zMr l).1,0,0)
end P
theorem zFR (s:ByteArray) (w:World) (O:Tab w) :
  Calls prog 6 #[.string s] w fun e l=>∃ z,e=.returned (.tuple #[.agg #[z],.int .i64 (kAz s.toList).2.1,.int .i64 (kAz s.toList).2.2])/\(∃ a m c,z=.slice a m c) /\
   ((kAz s.toList).2.1=0->∃ n k,z=.slice (some ⟨n,0,none⟩) (kAz s.toList).1.length k/\eF l w.heap.size z (kAz s.toList).1)/\Below w.heap.size w l:=by
 by_cases h1:2000<s.size
 ·have o:Hid (kAz s.toList=([],1,0)):=by unfold Hid kAz;rw[bS,if_pos h1]
  have h':(2000:Int)<(s.size:Int):=by omega
  go_enter func6,ntmps6;go_wp2;rw[o.out];exact tJ (p:=2) (u:=3) (v:=4) w.heap.size (.slice none 0 0) _ _ (by kernel_rfl) rfl rfl rfl (by exact heap_alloc_new w _) rfl ⟨_,rfl,⟨_,_,_,rfl⟩,fun h=>by simp at h,(xR _ _).alloc (xF _) _⟩
 have h':¬ (2000:Int)<(s.size:Int):=by omega
 have S:s.size<=8192:=by omega
 cases h2:((zMr s.toList).2 != 0)
 rotate_left
 ·have o:Hid (kAz s.toList=([],2,(zMr s.toList).2)):=by unfold Hid kAz;rw[bS,if_neg h1,h2];rfl
  go_enter func6,ntmps6;go_wp2_with (first | (go_at_call 17;refine (zEY s _ S (O.below ((xR _ _).alloc (xF _) _))).mono ?_;rintro e j ⟨z,rfl,g,d⟩;obtain⟨ta,k,rfl,C⟩:=g.form;have B:w.heap.size+1<=j.heap.size:=(by have:=d.size;simp at this;omega);have b:j.heap[w.heap.size]?=some (.cells #[.slice none 0 0] 32 (0,0)):=(by rw[d.block _ (by simp)];exact heap_alloc_new w _);obtain⟨z0,z1,z2⟩:=kY b;have i:=zAa b;have A:=zAa g;have r:Hid (Below w.heap.size w j):=((xR _ _).alloc (xF _) _).trans (d.mono (by simp));clear b g d));rw[o.out];refine tJ (p:=2) (u:=3) (v:=4) w.heap.size (.slice none 0 0) _ _ (by kernel_rfl) rfl rfl rfl ?_ rfl ⟨_,rfl,⟨_,_,_,rfl⟩,fun h=>by simp at h,?_⟩
  ·rw[xd _ _ _ (by simp;omega)];exact bH i.out 0 _
  ·exact (r.out.setCell (xF _) _).alloc (by simp;omega) _
 obtain⟨I,aa,q⟩:=kGg s.toList (by simpa using h2);have y:∀ t∈(zMr s.toList).1,t.Eb.length<10000:=fun t ht=>by have:=q t ht;rw[bS] at this;omega
 clear q;have hc:((zMs (zMr s.toList).1 (zMr s.toList).1 != 0)=true/\Hid (kAz s.toList=([],3,zMs (zMr s.toList).1 (zMr s.toList).1)))\/((zMs (zMr s.toList).1 (zMr s.toList).1 != 0)=false/\over (zMr s.toList).1=true/\Hid (kAz s.toList=([],4,0)))\/((zMs (zMr s.toList).1 (zMr s.toList).1 != 0)=false/\over (zMr s.toList).1=false/\decide (50<evT (zMr s.toList).1)=true/\Hid (kAz s.toList=([],4,0)))\/((zMs (zMr s.toList).1 (zMr s.toList).1 != 0)=false/\over (zMr s.toList).1=false/\decide (50<evT (zMr s.toList).1)=false/\Hid (kAz s.toList=((zMr s.toList).1,0,0))):=by
  unfold Hid kAz;rw[bS,if_neg h1,h2]
  cases zMs (zMr s.toList).1 (zMr s.toList).1 != 0<;>cases over (zMr s.toList).1<;>cases decide (50<evT (zMr s.toList).1)<;>simp
 rcases hc with ⟨E,o⟩ | ⟨E,F,o⟩ | ⟨E,F,N,o⟩ | ⟨E,F,N,o⟩
 all_goals
  go_enter func6,ntmps6;go_wp2_with (first | (go_at_call 17;refine (zEY s _ S (O.below ((xR _ _).alloc (xF _) _))).mono ?_;rintro e j ⟨z,rfl,g,d⟩;obtain⟨ta,k,rfl,C⟩:=g.form;have B:w.heap.size+1<=j.heap.size:=(by have:=d.size;simp at this;omega);have b:j.heap[w.heap.size]?=some (.cells #[.slice none 0 0] 32 (0,0)):=(by rw[d.block _ (by simp)];exact heap_alloc_new w _);obtain⟨z0,z1,z2⟩:=kY b;have i:=zAa b;have A:=zAa g;have r:Hid (Below w.heap.size w j):=((xR _ _).alloc (xF _) _).trans (d.mono (by simp));obtain⟨n,rfl⟩:=C I;have D:Hid (∀ l:World,Below (j.alloc (.cells #[(.slice (some ⟨n,0,none⟩) (zMr s.toList).1.length k)] 32)).heap.size (j.alloc (.cells #[(.slice (some ⟨n,0,none⟩) (zMr s.toList).1.length k)] 32)) l->eF l (w.heap.size+1) (.slice (some ⟨n,0,none⟩) (zMr s.toList).1.length k) (zMr s.toList).1/\Below w.heap.size w l/\l.heap[w.heap.size]?=some (.cells #[.slice none 0 0] 32 (0,0))/\l.heap[j.heap.size]?=some (.cells #[(.slice (some ⟨n,0,none⟩) (zMr s.toList).1.length k)] 32 (0,0))/\j.heap.size<l.heap.size):=(fun l G=>zGr A.out r.out i.out G);clear b g d) | (go_at_call 18;refine (zHG (w.heap.size+1) n _ k (zMr s.toList).1 _ (by exact (D.out _ (xR _ _)).1) rfl (by omega) y).mono ?_;rintro e w2 ⟨rfl,f⟩;obtain⟨W,v2,J,T,l2⟩:=D.out w2 f;obtain⟨y0,y1,y2⟩:=kY J;obtain⟨x0,x1,x2⟩:=kY T;have T2:=zAa W;have R2:=zAa J;clear W J T) | (go_at_call 19;refine (zJW (w.heap.size+1) n _ k (zMr s.toList).1 _ (by exact T2.out) rfl (by omega) y).mono ?_;rintro e w3 ⟨rfl,x⟩;(try rw[F]);obtain⟨X,v3,K,U,l3⟩:=D.out w3 (f.trans (x.mono f.size));obtain⟨y0,y1,y2⟩:=kY K;obtain⟨x0,x1,x2⟩:=kY U;have T3:=zAa X;have R3:=zAa K;clear X K U) | (go_at_call 20;refine (zHX (w.heap.size+1) n _ k (zMr s.toList).1 _ (by exact T3.out) rfl (by omega) y).mono ?_;rintro e w4 ⟨rfl,H⟩;(try rw[N]);obtain⟨Y,Z,L,V,l4⟩:=D.out w4 ((f.trans (x.mono f.size)).trans (H.mono (f.trans (x.mono f.size)).size));obtain⟨y0,y1,y2⟩:=kY L;obtain⟨x0,x1,x2⟩:=kY V;have T4:=zAa Y;have M:=zAa L;clear Y L V));rw[o.out]
 ·exact tJ (p:=2) (u:=3) (v:=4) w.heap.size (.slice none 0 0) _ _ (by kernel_rfl) rfl rfl rfl (by exact bH R2.out 0 _) rfl ⟨_,rfl,⟨_,_,_,rfl⟩,fun h=>by simp at h,v2.setCell (xF _) _⟩
 ·exact tJ (p:=2) (u:=3) (v:=4) w.heap.size (.slice none 0 0) _ _ (by kernel_rfl) rfl rfl rfl (by exact bH R3.out 0 _) rfl ⟨_,rfl,⟨_,_,_,rfl⟩,fun h=>by simp at h,v3.setCell (xF _) _⟩
 ·exact tJ (p:=2) (u:=3) (v:=4) w.heap.size (.slice none 0 0) _ _ (by kernel_rfl) rfl rfl rfl (by exact bH M.out 0 _) rfl ⟨_,rfl,⟨_,_,_,rfl⟩,fun h=>by simp at h,Z.setCell (xF _) _⟩
 ·exact tJ (p:=2) (u:=3) (v:=4) w.heap.size _ _ _ (by kernel_rfl) rfl rfl rfl (by exact bH M.out 0 _) rfl ⟨_,rfl,⟨_,_,_,rfl⟩,fun _=>⟨_,_,rfl,T4.out.set _⟩,Z.setCell (xF _) _⟩
theorem zIi (s:ByteArray) (w:World) (b:Tab w) (d:((kAz s.toList).2.1 != 0)=true) :
  Calls prog 4 #[.string s] w fun e c=>e=.returned (.tuple #[.slice none 0 0,.bool false,.int .i64 (kAz s.toList).2.1,.int .i64 (kAz s.toList).2.2])/\Below w.heap.size w c:=by
 go_enter func4,ntmps4;go_wp2_with (first | (go_at_call 6;refine (zFR s _ b).mono ?_;rintro e k ⟨j,rfl,⟨f,i,g,rfl⟩,_,a⟩));refine bodyPost_ret (zDK rfl _ _ _) rfl ⟨rfl,?_⟩;exact a.alloc a.size _
namespace Q
theorem kGD (a:Ans) (c:Cand):a.rows.length<=(iQ a c).rows.length:=by
 unfold iQ;split
 ·exact xF _
 ·exact pM _ (DS _ _ _ _) _ _
theorem kJr (a:List Thr):(eE (dP (runs a) none (zMH (zBh (runs a))))).foldl iQ ⟨[],false⟩=kAp a:=by rw[<- kKG];rfl
theorem kIA (f:EE) (a:List Nat) (w:Wd):(f.bU a w).length<=(zMH (zMh w.Ea (zMg w.Ea))).length:=by
 unfold EE.bU;rw[List.length_map];exact List.length_filter_le _ _
end Q
theorem zEF (B bt O:Nat) (a:List Thr) (w:World) (h:eF w B (.slice (some ⟨bt,0,none⟩) a.length O) a) (hn:a.length<20) (bd:∀ t∈a,(∀ s∈t.Eb,kCY s)/\t.Eb.length<900/\kBm t.Eb<100000) (be:∀ r∈runs a,r.length<100000000) (bg:∀ rs∈runs a,∀ r∈rs,r.regs.length=4/\∀ e∈r.Ea,e.Ef<M64) (hW:∀ d,kAy (zBh (runs a)) d->WdOk (zMj (runs a) d)) (ag:(Q.kAp a).rows.length<100000000) :
  Calls prog 7 #[.agg #[.slice (some ⟨bt,0,none⟩) a.length O]] w fun e w'=>∃ ov vs,e=.returned (.tuple #[ov,.bool (Q.kAp a).clash])/\RowsI w' 0 ov (Q.kAp a).rows vs/\Below w.heap.size w w':=by
 obtain⟨k0,k1,bJ,ao⟩:=iM w #[.slice (some ⟨bt,0,none⟩) a.length O] #[.slice none 0 0,.bool false] 32 66;have HT:=zAa (h.keep fun k hk=>ao.block k hk);have aG:=zAa bd;have bu:=zAa be;have bv:=zAa bg;have HW:=zAa hW;have aE:=zAa ag;have aw:=zAa ao;have aB:=zAa (kJr a);have bG:(runs a).length<20:=by rw[yI];exact hn
 generalize Q.kAp a=x at *;clear ao h bd be bg hW ag;go_enter func7,ntmps7;go_upto_region 2 with fail
 generalize hE:(w.alloc (.cells #[.slice (some ⟨bt,0,none⟩) a.length O] 32)).alloc (.cells #[.slice none 0 0,.bool false] 66)=W0 at *;have bx:=aD k0 0 _ rfl;have l0:w.heap.size<W0.heap.size:=by omega
 have l1:w.heap.size+1<W0.heap.size:=by omega
 have K1:=zAa k1;clear hE k0 k1 bJ;go_upto_region 3 with (first
  | (go_at_call 21;refine (zDT B bt O a _ HT.out hn aG.out).mono ?_;rintro e J ⟨rv,vs,bo,gb,gd,rfl,⟨xa,xn,xc,bh⟩,aq,aY,aZ,bV,bW,bE,aV⟩;obtain⟨ya,yc,U⟩:=rV aq.own;rw[bh] at U;simp only[Value.slice.injEq] at U;obtain⟨-,bK, -⟩:=U;subst bK;subst bh;have aM:=zAa aq;have aI:=zAa aY;have aJ:=zAa aZ;have B1:=zAa aV;have KB:Hid ((J.alloc (.cells #[.slice none 0 0,.slice none 0 0,.slice none 0 0,.slice none 0 0,.slice none 0 0,.slice none 0 0,.slice none 0 0,.slice none 0 0,.slice none 0 0,.slice none 0 0,.slice none 0 0,.slice none 0 0,.slice none 0 0,.slice none 0 0,.slice none 0 0,.slice none 0 0,.bool false,.slice none 0 0,.slice none 0 0,.slice none 0 0,.bool false,.bool false] 84)).heap[J.heap.size]?=some (.cells #[.slice none 0 0,.slice none 0 0,.slice none 0 0,.slice none 0 0,.slice none 0 0,.slice none 0 0,.slice none 0 0,.slice none 0 0,.slice none 0 0,.slice none 0 0,.slice none 0 0,.slice none 0 0,.slice none 0 0,.slice none 0 0,.slice none 0 0,.slice none 0 0,.bool false,.slice none 0 0,.slice none 0 0,.slice none 0 0,.bool false,.bool false] 84 (0,0))):=heap_alloc_new J _;have BA:Hid (Below J.heap.size J (J.alloc (.cells #[.slice none 0 0,.slice none 0 0,.slice none 0 0,.slice none 0 0,.slice none 0 0,.slice none 0 0,.slice none 0 0,.slice none 0 0,.slice none 0 0,.slice none 0 0,.slice none 0 0,.slice none 0 0,.slice none 0 0,.slice none 0 0,.slice none 0 0,.slice none 0 0,.bool false,.slice none 0 0,.slice none 0 0,.slice none 0 0,.bool false,.bool false] 84))):=(xR _ _).alloc (xF _) _;clear aq aY aZ aV)
  | (refine wpList_store_mid rfl 84 (.tmp 5) (.tmp 9) rfl J.heap.size 0 (gS (.slice xa (runs a).length xc) (.slice (some ⟨gb,0,none⟩) (runs a).length (runs a).length) (.slice (some ⟨gd,0,none⟩) (runs a).length (runs a).length) (.bool false)) rfl rfl (sX KB.out (by simp[gS])) (by kernel_rfl) (by simp[gS,Value.oneCell']) ?_;have SW:=zAa (wS (gS (.slice xa (runs a).length xc) (.slice (some ⟨gb,0,none⟩) (runs a).length (runs a).length) (.slice (some ⟨gd,0,none⟩) (runs a).length (runs a).length) (.bool false)).toList KB.out (by simp[gS]));generalize (J.alloc (.cells #[.slice none 0 0,.slice none 0 0,.slice none 0 0,.slice none 0 0,.slice none 0 0,.slice none 0 0,.slice none 0 0,.slice none 0 0,.slice none 0 0,.slice none 0 0,.slice none 0 0,.slice none 0 0,.slice none 0 0,.slice none 0 0,.slice none 0 0,.slice none 0 0,.bool false,.slice none 0 0,.slice none 0 0,.slice none 0 0,.bool false,.bool false] 84)).setCells J.heap.size 0 (gS (.slice xa (runs a).length xc) (.slice (some ⟨gb,0,none⟩) (runs a).length (runs a).length) (.slice (some ⟨gd,0,none⟩) (runs a).length (runs a).length) (.bool false)).toList=W1 at *))
 obtain⟨s0,s1,s2⟩:=SW.out;have BL:=zAa (s2 J J.heap.size (xF _) BA.out);have S0:=zAa s0;have bH:=B1.out.size;have bI:=BL.out.size;have KG:=zAa ((BL.out.block _ (by omega)).trans ((B1.out.block _ l1).trans K1.out));have ax:Hid (Below w.heap.size w W1):=aK (aK aw.out (xF _) B1.out) (xF _) BL.out;have aL:Hid (uX w J.heap.size (w.heap.size+1) ⟨.slice xa (runs a).length xc,vs,bo,gb,gd⟩ (runs a) iQ x W1 (eE (dP (runs a) none (zMH (zBh (runs a))))).length):=⟨none,_,_,_,_,_,_,zIs (t:=66) aM.out aI.out aJ.out bE (by simpa using S0.out) BL.out KG.out (Or.inr rfl) (by omega) (by omega) (by omega) ax.out,aB.out,rfl⟩;generalize (⟨.slice xa (runs a).length xc,vs,bo,gb,gd⟩:WA)=A at *;clear s0 s1 s2 SW BL S0 KG ax aM aI aJ B1 KB BA HT K1 aw aB bx bH bI aG;generalize J.heap.size=D at *;obtain⟨μ,hμ⟩:=xT (uX w D (w.heap.size+1) A (runs a) iQ x);have ak:=zAa hμ;clear hμ;simp only[Act.put];go_loopw [] (fun wr=>∃ m,Hid (uX w D (w.heap.size+1) A (runs a) iQ x wr m)) (fun wr=>μ wr)
 case atStart=>exact⟨_,aL⟩
 case round =>
  obtain⟨hI,ba⟩:=ak.out wr (by obtain⟨n,h⟩:=hrel;exact⟨n,h.out⟩);clear hrel ba aL;obtain⟨st,ds,rest,N,ov,bn,fp,hB,aU,ah⟩:=hI;have BO:=zAa hB;have FD:=zAa aU;have HL:=zAa ah;have bX:=hB.cand.box.lt;clear hB aU ah;go_upto_region 4 with (first | (go_at_call 22;refine (zGc D A _ st ds rest _ BO.out.cand bG bu.out bv.out HW.out).mono ?_;rintro e y ⟨b,rfl,hF,h1⟩;have aj:=zAa hF;clear hF;rcases h1 with ⟨rfl,E⟩ | ⟨rfl,s,bQ,q,gr,o,E,bc,aX⟩))
  ·obtain⟨H,ae⟩:=BO.out.frame aj.out;have bq:=zAa H;have aA:=zAa ae;have bD:N=x:=by
    have h3:=FD.out;rw[E] at h3;exact h3
   subst bD;have c0:=H.out.cell;have c1:=H.clash;have bM:=H.out.lt;obtain⟨oa,oc,bF,_⟩:=H.out.rows.form;subst bF;clear H ae E;go_upto_region 8 with fail
   go_region_held3 (fun w'=>w'.cell? ⟨w.heap.size+1,1,none⟩=some (.bool N.clash)/\w'.cell? ⟨w.heap.size+1,0,none⟩=some (.slice oa N.rows.length oc)) (first | exact⟨c1,c0⟩) (first
    | (go_at_call 25;refine (zKA (w.heap.size+1) (.slice oa N.rows.length oc) _ (by exact c0) (by exact bM) ⟨_,_,_,rfl⟩).mono ?_;rintro e w3 ⟨rfl,rfl⟩))
   all_goals
    (try go_wp2)
    go_ret2;exact⟨_,bn,rfl,bq.out.out.rows.below (xR _ _).drew,aA.out.drew⟩
  ·have B2:=zAa (BO.out.next aj.out o.on bc aX);have br:=zAa E;have bw:=zAa o;obtain⟨v,bi⟩:=o.on.rs s rfl;have bs:=zAa v;have M:=zAa bi;have G:=o.on.box.lt;have j:=v.fc;have ar:=o.c12;have au:=v.c0;have av:=v.c1;have ad:=zAa o.rel;obtain⟨V,u,af,_⟩:=v.fin.form;obtain⟨ea,ec,aW,_⟩:=v.wdi.evs.form;obtain⟨ra,rc,bf,_⟩:=v.wdi.regs.form;have az:=zAa v.fin;have aO:=zAa v.wdi;have C:Hid ((eE (dP (runs a) (some s) q)).foldl iQ (iQ N (zMX (s.wd,s.ds)))=x):=by
    have h3:=FD.out;rw[E,List.foldl_cons] at h3;exact h3
   have aF:Hid ((eE (dP (runs a) (some s) q)).length+1=μ wr):=by
    have h3:=HL.out;rw[E,List.length_cons] at h3;exact h3
   have T:(iQ N (zMX (s.wd,s.ds))).rows.length<100000000:=by
    have h3:=pM _ kGD (eE (dP (runs a) (some s) q)) (iQ N (zMX (s.wd,s.ds)));have h4:=aE.out;rw[C.out] at h3;omega
   have i:=zAa T;have aa:=zAa (kFc s.wd.Ea);clear o v bi E bc aX aj T FD HL BO br bw bs;obtain⟨⟨ev,rg,⟨n,bR,W,X,Y,Z,g5,g6,g7,g8,g9⟩,cv,aP,bl,bm⟩,c,S,rr⟩:=s;simp only at af j ar au av aW bf ad az aO M aa;subst af;subst aW;subst bf;have k0:y.cell? ⟨D,2,none⟩=some (.slice V n u):=j 0 _ rfl;have k1:y.cell? ⟨D,3,none⟩=some (.slice (some ⟨W,0,none⟩) n n):=j 1 _ rfl;have k2:y.cell? ⟨D,4,none⟩=some (.slice (some ⟨X,0,none⟩) n n):=j 2 _ rfl;have k3:y.cell? ⟨D,5,none⟩=some (.slice (some ⟨Y,0,none⟩) n n):=j 3 _ rfl;have g:y.cell? ⟨D,6,none⟩=some (.slice (some ⟨Z,0,none⟩) n n):=j 4 _ rfl;have k5:y.cell? ⟨D,7,none⟩=some (.slice (some ⟨g5,0,none⟩) n n):=j 5 _ rfl;have k6:y.cell? ⟨D,8,none⟩=some (.slice (some ⟨g6,0,none⟩) n n):=j 6 _ rfl;have k7:y.cell? ⟨D,9,none⟩=some (.slice (some ⟨g7,0,none⟩) n n):=j 7 _ rfl;have k8:y.cell? ⟨D,10,none⟩=some (.slice (some ⟨g8,0,none⟩) n n):=j 8 _ rfl;have k9:y.cell? ⟨D,11,none⟩=some (.slice (some ⟨g9,0,none⟩) n n):=j 9 _ rfl;clear j;have L:Hid (((zMv c.Ea).bU (zMX (c,S)).reads c).length<100000000):=Nat.lt_of_le_of_lt (kIA _ _ _) M.out.fo;go_upto_region 5 with fail
   have KA:Hid ((y.alloc (.cells #[.slice V n u,.slice (some ⟨W,0,none⟩) n n,.slice (some ⟨X,0,none⟩) n n,.slice (some ⟨Y,0,none⟩) n n,.slice (some ⟨Z,0,none⟩) n n,.slice (some ⟨g5,0,none⟩) n n,.slice (some ⟨g6,0,none⟩) n n,.slice (some ⟨g7,0,none⟩) n n,.slice (some ⟨g8,0,none⟩) n n,.slice (some ⟨g9,0,none⟩) n n,.slice (some ⟨gr,0,none⟩) n n] 87)).heap[y.heap.size]?=some (.cells #[.slice V n u,.slice (some ⟨W,0,none⟩) n n,.slice (some ⟨X,0,none⟩) n n,.slice (some ⟨Y,0,none⟩) n n,.slice (some ⟨Z,0,none⟩) n n,.slice (some ⟨g5,0,none⟩) n n,.slice (some ⟨g6,0,none⟩) n n,.slice (some ⟨g7,0,none⟩) n n,.slice (some ⟨g8,0,none⟩) n n,.slice (some ⟨g9,0,none⟩) n n,.slice (some ⟨gr,0,none⟩) n n] 87 (0,0))):=heap_alloc_new y _;have z:Hid (Below y.heap.size y (y.alloc (.cells #[.slice V n u,.slice (some ⟨W,0,none⟩) n n,.slice (some ⟨X,0,none⟩) n n,.slice (some ⟨Y,0,none⟩) n n,.slice (some ⟨Z,0,none⟩) n n,.slice (some ⟨g5,0,none⟩) n n,.slice (some ⟨g6,0,none⟩) n n,.slice (some ⟨g7,0,none⟩) n n,.slice (some ⟨g8,0,none⟩) n n,.slice (some ⟨g9,0,none⟩) n n,.slice (some ⟨gr,0,none⟩) n n] 87))):=(xR _ _).alloc (xF _) _;generalize y.alloc (.cells #[.slice V n u,.slice (some ⟨W,0,none⟩) n n,.slice (some ⟨X,0,none⟩) n n,.slice (some ⟨Y,0,none⟩) n n,.slice (some ⟨Z,0,none⟩) n n,.slice (some ⟨g5,0,none⟩) n n,.slice (some ⟨g6,0,none⟩) n n,.slice (some ⟨g7,0,none⟩) n n,.slice (some ⟨g8,0,none⟩) n n,.slice (some ⟨g9,0,none⟩) n n,.slice (some ⟨gr,0,none⟩) n n] 87)=Va at *;have K:=zAa (B2.out.below z.out);have ai:=zAa (az.out.below z.out);have am:=zAa (aO.out.below z.out);have al:=zAa (ad.out.below z.out);have I:=xW G z.out.size;have bY:=K.out.ans.out.lt;have ac:y.heap.size<Va.heap.size:=(Array.getElem?_eq_some_iff.1 KA.out).1;have l:=KA.out;have m0:=aC z.out G k0;have m1:=aC z.out G k1;have m2:=aC z.out G k2;have m3:=aC z.out G k3;have m4:=aC z.out G g;have m5:=aC z.out G k5;have m6:=aC z.out G k6;have m7:=aC z.out G k7;have m8:=aC z.out G k8;have m9:=aC z.out G k9;have bZ:=aC z.out G ar;have bj:=aC z.out G au;have bk:=aC z.out G av;have x0:=aD l 0 _ rfl;have x1:=aD l 1 _ rfl;have x2:=aD l 2 _ rfl;have x3:=aD l 3 _ rfl;have x4:=aD l 4 _ rfl;have x5:=aD l 5 _ rfl;have x6:=aD l 6 _ rfl;have x7:=aD l 7 _ rfl;have x8:=aD l 8 _ rfl;have x9:=aD l 9 _ rfl;have cc:=aD l 10 _ rfl;generalize bC:y.heap.size=bb at *;clear bC l k0 k1 k2 k3 g k5 k6 k7 k8 k9 ar au av;have aH:Hid (iQ N (zMX (c,S))=if ((zMv c.Ea).bU (zMX (c,S)).reads c).isEmpty then N else pH c (zMv c.Ea) (zMX (c,S)).reads ((zMv c.Ea).bU (zMX (c,S)).reads c) N):=rfl;simp only[] at C i;generalize aS:(zMv c.Ea).bU (zMX (c,S)).reads c=CS at *;have F:=zAa aS;clear aS
   cases CS with
   | nil =>
    rw[aH.out] at C i;simp only[List.isEmpty_nil,if_true] at C i;go_wp2_with (first
     | (go_at_call 23;refine (zFe (FA.mk n (.slice V n u) W X Y Z g5 g6 g7 g8 g9) (zMv c.Ea) gr (zMX (c,S)).reads _ _ c _ ai.out al.out am.out aa.out M.out.le (by rw[F.out];exact L.out)).mono ?_;rw[F.out];rintro e w4 ⟨bB,aQ,rfl,p,f⟩;have aN:=zAa p;have B4:=zAa f;obtain⟨bz,bA,ap⟩:=rV p.own;subst ap;have g:=(f.block _ ac).trans KA.out;have y0:=aD g 0 _ rfl;have y1:=aD g 1 _ rfl;have y2:=aD g 2 _ rfl;have y3:=aD g 3 _ rfl;have y4:=aD g 4 _ rfl;have y5:=aD g 5 _ rfl;have y6:=aD g 6 _ rfl;have y7:=aD g 7 _ rfl;have y8:=aD g 8 _ rfl;have y9:=aD g 9 _ rfl;have bO:=aD g 10 _ rfl;have bL:=xW ac f.size;have bN:=xW I f.size;have v0:=aC f I bj;have v1:=aC f I bk;clear p f g))
    have hR:uX w D (w.heap.size+1) A (runs a) iQ x w4 (eE (dP (runs a) (some ⟨⟨.slice ea c.Ea.length ec,.slice ra c.regs.length rc,(FA.mk n (.slice V n u) W X Y Z g5 g6 g7 g8 g9),cv,aP,bl,bm⟩,c,S,rr⟩) q)).length:=⟨_,_,_,_,_,_,_,K.out.below B4.out,C.out,rfl⟩;go_roundw
    case rel=>exact⟨_,hR⟩
    case measure =>
     have h1:=(ak.out _ ⟨_,hR⟩).2 _ hR;have h2:=aF.out;omega
   | cons ay CS1 =>
    rw[aH.out] at C i;simp only[List.isEmpty_cons,Bool.false_eq_true,if_false] at C i;have ab:=i;have bP:((0:Int)<((ay::CS1).length:Int)):=by simp
    generalize bT:ay::CS1=CS at *;go_wp2_with (first
     | (go_at_call 23;refine (zFe (FA.mk n (.slice V n u) W X Y Z g5 g6 g7 g8 g9) (zMv c.Ea) gr (zMX (c,S)).reads _ _ c _ ai.out al.out am.out aa.out M.out.le (by rw[F.out];exact L.out)).mono ?_;rw[F.out];rintro e w4 ⟨bB,aQ,rfl,p,f⟩;have aN:=zAa p;have B4:=zAa f;obtain⟨bz,bA,ap⟩:=rV p.own;subst ap;have g:=(f.block _ ac).trans KA.out;have y0:=aD g 0 _ rfl;have y1:=aD g 1 _ rfl;have y2:=aD g 2 _ rfl;have y3:=aD g 3 _ rfl;have y4:=aD g 4 _ rfl;have y5:=aD g 5 _ rfl;have y6:=aD g 6 _ rfl;have y7:=aD g 7 _ rfl;have y8:=aD g 8 _ rfl;have y9:=aD g 9 _ rfl;have bO:=aD g 10 _ rfl;have bL:=xW ac f.size;have bN:=xW I f.size;have v0:=aC f I bj;have v1:=aC f I bk;clear p f g)
     | (go_at_call 24;refine (zFx (w.heap.size+1) N ov bn fp _ _ c (FA.mk n (.slice V n u) W X Y Z g5 g6 g7 g8 g9) (zMv c.Ea) gr (zMX (c,S)).reads _ CS aQ _ (K.out.below B4.out).ans (am.out.below B4.out) M.out (ai.out.below B4.out) aa.out (al.out.below B4.out) aN.out L.out (fun k e=>K.out.nb k ⟨_,rfl,Or.inl e⟩) ab.out).mono ?_;rintro e w5 ⟨rfl,ca,cb,bS,aR,aT⟩;have bp:=zAa ((K.out.below B4.out).grow aR aT);clear aR aT))
    have hR:uX w D (w.heap.size+1) A (runs a) iQ x w5 (eE (dP (runs a) (some ⟨⟨.slice ea c.Ea.length ec,.slice ra c.regs.length rc,(FA.mk n (.slice V n u) W X Y Z g5 g6 g7 g8 g9),cv,aP,bl,bm⟩,c,S,rr⟩) q)).length:=⟨_,_,_,_,_,_,_,bp.out,C.out,rfl⟩;go_roundw
    case rel=>exact⟨_,hR⟩
    case measure =>
     have h1:=(ak.out _ ⟨_,hR⟩).2 _ hR;have h2:=aF.out;omega
namespace Q
structure KerOk (ts:List Thr):Prop where
 few:ts.length<20
 thr:∀ t∈ts,(∀ s∈t.Eb,kCY s)/\t.Eb.length<900/\kBm t.Eb<100000
 rb:∀ r∈runs ts,r.length<100000000
 rn:∀ rs∈runs ts,∀ r∈rs,r.regs.length=4/\∀ e∈r.Ea,e.Ef<M64
 wd:∀ d,kAy (zBh (runs ts)) d->WdOk (zMj (runs ts) d)
end Q
theorem zJI (s:ByteArray) (w:World) (D:Tab w) (y:(kAz s.toList).2.1=0) (l:(kAz s.toList).2.2=0) (n:KerOk (kAz s.toList).1) (c:(Q.kAp (kAz s.toList).1).rows.length<100000000) :
  Calls prog 4 #[.string s] w fun e x=>∃ o v,e=.returned (.tuple #[o,.bool (Q.kAp (kAz s.toList).1).clash,.int .i64 0,.int .i64 0])/\RowsI x 0 o (Q.kAp (kAz s.toList).1).rows v/\Below w.heap.size w x:=by
 have a:=zAa (zFR s w D);unfold Hid at a;rw[y,l] at a;have i:=zAa a;clear a y l;generalize (kAz s.toList).1=p at *;have g:=zAa n;have f:=zAa c;clear n c;generalize z:(Q.kAp p).clash=F;have C:=zAa z;clear z;go_enter func4,ntmps4;go_wp2_with (first
  | (go_at_call 6;refine i.out.mono ?_;rintro e E ⟨G,rfl,_,b,d⟩;obtain⟨t,u,rfl,b⟩:=b rfl;have q:=zAa (b.keep (w':=E.alloc (.cells #[.slice (some ⟨t,0,none⟩) p.length u] 32)) (fun k n=>xd _ _ _ n));have A:=zAa (d.alloc d.size (.cells #[.slice (some ⟨t,0,none⟩) p.length u] 32));clear b d)
  | (go_at_call 7;refine (zEF _ t u p _ q.out g.out.few g.out.thr g.out.rb g.out.rn g.out.wd f.out).mono ?_;rw[C.out];rintro e H ⟨o,v,rfl,m,j⟩;have r:=zAa m;have B:=zAa (aK A.out (xF _) j);clear m j))
 refine bodyPost_ret (zDK rfl _ _ _) rfl ⟨o,v,rfl,r.out,B.out⟩
end Go.Proofs.YtonodfjdiepglaaGreatDoor
