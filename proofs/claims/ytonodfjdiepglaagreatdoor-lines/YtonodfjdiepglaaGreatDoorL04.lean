import Derived.Test.YtonodfjdiepglaaGreatDoorL03
set_option linter.unusedVariables false
set_option linter.unusedSimpArgs false
set_option maxHeartbeats 12800000
namespace Go.Proofs.YtonodfjdiepglaaGreatDoor
open Go Go.RowKit Go.Proofs.Tryz P R
set_option maxRecDepth 1000000
variable {w:World} {g:Nat}
open Nat renaming le_refl→xF
open Go.RowKit.Below renaming setCell→xR,refl→xW
theorem zGH (b off n f:Nat) (c:ByteArray) (r:List ByteArray) (w:World) (j:zAp w b off (c::r)) (d:(c::r).length=n) (i:b<w.heap.size) (s:(c.toList==[98,97,114,114,105,101,114])=true) :
  Calls prog 13 #[.slice (some ⟨b,off,none⟩) n f] w fun e m=>e=.returned (jN (({ x0 with op:=cW },r.isEmpty)))/\Below w.heap.size w m:=by
 obtain⟨o,_,_⟩:=j.head;have l:((n:Int)==1)=r.isEmpty:=by
  cases r with
  | nil=>simp at d;simp;omega
  | cons a q=>simp at d;simp;omega
 have k:0<n:=by simp at d;omega
 clear d j;go_enter func13,ntmps13;go_wp2_with fail;exact eR (p:=2) (u:=3) w.heap.size { x0 with op:=cW } r.isEmpty (by kernel_rfl) rfl rfl (by exact (zBG.bT w { x0 with op:=cW } _).alloc _) rfl ⟨rfl,((xW _ _).alloc (xF _) _).alloc (by simp) _⟩
theorem zJq (b off n j:Nat) (c:ByteArray) (r:List ByteArray) (w:World) (s:zAp w b off (c::r)) (o:(c::r).length=n) (C:n<=j) (i:b<w.heap.size) (x:(c.toList==[98,97,114,114,105,101,114])=false) (E:(c.toList==[102,101,110,99,101])=true) :
  Calls prog 13 #[.slice (some ⟨b,off,none⟩) n j] w fun e z=>e=.returned (jN (how { x0 with op:=kAe } mD r))/\Below w.heap.size w z:=by
 obtain⟨D,_,m⟩:=s.head;have v:0<n:=by simp at o;omega
 have q:r.length=n-1:=by simp at o;omega
 have l:=zAa (StAt.start w b off (c::r) { x0 with op:=kAe } s);have t:=zAa m;clear o s m;by_cases hcap:j=1
 ·have y:r=[]:=List.eq_nil_of_length_eq_zero (by omega);subst y;go_enter func13,ntmps13;go_wp2_with fail;refine (tC (w.heap.size+1) b _ _ _ { x0 with op:=kAe } (.slice none 0 0) mD _ [] _ (by exact l.out.xat) (zAp.nil _ _ _) (by simp;omega) (by omega) rfl (by simp)).mono ?_;rintro e A ⟨rfl,f,a⟩;have S:=StAt.how l.out i f a;clear f a l;go_wp2_with (first | (refine oV (.tmp 4) rfl rfl (w.heap.size+1) _ (.slice none 0 0) rfl S.xat ?_) | (refine nL (.tmp 2) (.tmp 41) rfl rfl w.heap.size _ _ (.slice none 0 0) (.slice none 0 0) rfl rfl rfl (by exact S.res) ?_;intro B k d));exact eR (p:=2) (u:=3) w.heap.size _ _ (by kernel_rfl) rfl rfl k rfl ⟨rfl,S.done d⟩
 ·go_enter func13,ntmps13;go_wp2_with fail;refine (tC (w.heap.size+1) b _ _ _ { x0 with op:=kAe } (.slice none 0 0) mD _ r _ (by exact l.out.xat) (by exact (t.out.alloc _).alloc _) q (by omega) rfl (by simp)).mono ?_;rintro e A ⟨rfl,f,a⟩;have S:=StAt.how l.out i f a;clear f a l;go_wp2_with (first | (refine oV (.tmp 4) rfl rfl (w.heap.size+1) _ (.slice none 0 0) rfl S.xat ?_) | (refine nL (.tmp 2) (.tmp 41) rfl rfl w.heap.size _ _ (.slice none 0 0) (.slice none 0 0) rfl rfl rfl (by exact S.res) ?_;intro B k d));exact eR (p:=2) (u:=3) w.heap.size _ _ (by kernel_rfl) rfl rfl k rfl ⟨rfl,S.done d⟩
theorem zFT (b off n a:Nat) (c:ByteArray) (r:List ByteArray) (w:World) (i:zAp w b off (c::r)) (f:(c::r).length=n) (d:b<w.heap.size) (l:(c.toList==[98,97,114,114,105,101,114])=false) (m:(c.toList==[102,101,110,99,101])=false) (q:n<3) :
  Calls prog 13 #[.slice (some ⟨b,off,none⟩) n a] w fun e o=>e=.returned (jN ((x0,false)))/\Below w.heap.size w o:=by
 obtain⟨s,_,_⟩:=i.head;have k:0<n:=by simp at f;omega
 have j:(n:Int)<3:=by omega
 clear f i;go_enter func13,ntmps13;go_wp2_with fail
 all_goals exact eR (p:=2) (u:=3) w.heap.size x0 false (by kernel_rfl) rfl rfl (by exact (zBG.bT w x0 _).alloc _) rfl ⟨rfl,((xW _ _).alloc (xF _) _).alloc (by simp) _⟩
theorem zKl (b off n i:Nat) (c e d:ByteArray) (r:List ByteArray) (w:World) (l:zAp w b off (c::e::d::r)) (f:(c::e::d::r).length=n) (k:b<w.heap.size) (t:(c.toList==[98,97,114,114,105,101,114])=false) (v:(c.toList==[102,101,110,99,101])=false) (x:(c.toList==[115,116,111,114,101]&&decide (4<=n))=false) (B:(e.toList==[61])=false) :
  Calls prog 13 #[.slice (some ⟨b,off,none⟩) n i] w fun e y=>e=.returned (jN ((x0,false)))/\Below w.heap.size w y:=by
 obtain⟨A,_,a⟩:=l.head;obtain⟨m,_,_⟩:=a.head;have q:0<n:=by simp at f;omega
 have j:¬ (n:Int)<3:=by simp at f;omega
 have s:(1:Int)<(n:Int):=by simp at f;omega
 have o:decide ((n:Int)<3)=false:=decide_eq_false j;clear f l a
 cases hst:(c.toList==[115,116,111,114,101])
 ·go_enter func13,ntmps13;go_wp2_with fail
  all_goals exact eR (p:=2) (u:=3) w.heap.size x0 false (by kernel_rfl) rfl rfl (by exact (zBG.bT w x0 _).alloc _) rfl ⟨rfl,((xW _ _).alloc (xF _) _).alloc (by simp) _⟩
 ·have z:¬ (3:Int)<(n:Int):=by simp[hst] at x;omega
  go_enter func13,ntmps13;go_wp2_with fail
  all_goals exact eR (p:=2) (u:=3) w.heap.size x0 false (by kernel_rfl) rfl rfl (by exact (zBG.bT w x0 _).alloc _) rfl ⟨rfl,((xW _ _).alloc (xF _) _).alloc (by simp) _⟩
theorem zBG.bN {z:Lh} {d:Value} (t:Lh) (c:Value) (h:zBG w g z d) :
  zBG (((((((((w.setCell ⟨g,0,none⟩ (.string t.op)).setCell ⟨g,1,none⟩ (.int .i64 t.reg)).setCell ⟨g,2,none⟩ (.int .i64 t.var)).setCell ⟨g,3,none⟩ (.int .i64 t.a)).setCell ⟨g,4,none⟩ (.int .i64 t.b)).setCell ⟨g,5,none⟩ (.string t.sign)).setCell ⟨g,6,none⟩ (.string t.ord)).setCell ⟨g,7,none⟩ (.string t.scope)).setCell ⟨g,8,none⟩ c) g t c:=by
 unfold zBG at *;have i:=bH h 0 (.string t.op);have j:=bH i 1 (.int .i64 t.reg);have k:=bH j 2 (.int .i64 t.var);have l:=bH k 3 (.int .i64 t.a);have m:=bH l 4 (.int .i64 t.b);have n:=bH m 5 (.string t.sign);have o:=bH n 6 (.string t.ord);have p:=bH o 7 (.string t.scope);have f:=bH p 8 c;have e:(((((((((bV z d).setIfInBounds 0 (.string t.op)).setIfInBounds 1 (.int .i64 t.reg)).setIfInBounds 2 (.int .i64 t.var)).setIfInBounds 3 (.int .i64 t.a)).setIfInBounds 4 (.int .i64 t.b)).setIfInBounds 5 (.string t.sign)).setIfInBounds 6 (.string t.ord)).setIfInBounds 7 (.string t.scope)).setIfInBounds 8 c=bV t c:=by simp[bV]
 rw[e] at f;exact f
theorem hJ {d:World} {B:Nat} (t:Lh) (e:Value) (h:Below B d w) (c:B<=g):Below B d (((((((((w.setCell ⟨g,0,none⟩ (.string t.op)).setCell ⟨g,1,none⟩ (.int .i64 t.reg)).setCell ⟨g,2,none⟩ (.int .i64 t.var)).setCell ⟨g,3,none⟩ (.int .i64 t.a)).setCell ⟨g,4,none⟩ (.int .i64 t.b)).setCell ⟨g,5,none⟩ (.string t.sign)).setCell ⟨g,6,none⟩ (.string t.ord)).setCell ⟨g,7,none⟩ (.string t.scope)).setCell ⟨g,8,none⟩ e) :=
 xR (xR (xR (xR (xR (xR (xR (xR (xR h c _) c _) c _) c _) c _) c _) c _) c _) c _
theorem xO (x:Lh) (o:List UInt8) (a:List ByteArray):(how x o a).1.var=x.var:=by
 unfold how
 split
 ·rfl
 ·split
  ·rfl
  ·split
   ·rfl
   ·split<;>rfl
theorem zJr (b off n j:Nat) (c p v:ByteArray) (r:List ByteArray) (w:World) (Y:zAp w b off (c::p::v::r)) (hn:(c::p::v::r).length=n) (hc:n<=j) (d:b<w.heap.size) (h4:4<=n) (W:(c.toList==[98,97,114,114,105,101,114])=false) (X:(c.toList==[102,101,110,99,101])=false) (hk:(c.toList==[115,116,111,114,101])=true) :
  Calls prog 13 #[.slice (some ⟨b,off,none⟩) n j] w fun e w'=>e=.returned (jN (oN p v r))/\Below w.heap.size w w':=by
 obtain⟨hd,_,t⟩:=Y.head;have S:0<n:=by omega
 have T:(1:Int)<(n:Int):=by omega
 have U:(2:Int)<(n:Int):=by omega
 have V:(3:Int)<(n:Int):=by omega
 have s:r.length=n-3:=by simp at hn;omega
 have q:¬ j=3:=by omega
 have S0:=zAa (StAt.start w b off (c::p::v::r) { x0 with op:=cO } Y);obtain⟨O,_,_⟩:=t.head;clear hn Y t;go_enter func13,ntmps13;go_wp2_with fail;refine (fL p bO _ _ rfl (by simp)).mono ?_;rintro e w1 ⟨rfl,l⟩;have y:=StAt.below S0.out l;obtain⟨K,L,A,B,C,D,E,F,G,I,J⟩:=y.xat.facts;have d2:=y.words 2 v rfl;have o:b<w1.heap.size:=by have:=y.bel.size;omega
 have S1:=zAa y;clear y l S0;go_wp2_with fail;refine (nY v _).mono ?_;rintro e w2 ⟨rfl,m⟩;have Z:=((S1.out.set { x0 with op:=cO,var:=inn p.toList bO } d 2 _ rfl).below m);clear A B C D E F G I J d2 K L;obtain⟨K,L,A,B,C,D,E,F,G,I,J⟩:=Z.xat.facts;have S2:=zAa Z;clear Z m S1;go_wp2_with fail;have M:=S2.out.set { x0 with op:=cO,var:=inn p.toList bO,a:=(aW v.toList).1 } d 3 (.int .i64 (aW v.toList).1) rfl;refine (tC (w.heap.size+1) b _ _ _ { x0 with op:=cO,var:=inn p.toList bO,a:=(aW v.toList).1 } (.slice none 0 0) mT _ r _ (by exact M.xat) (by exact M.words.drop 3) s (by omega) rfl (by simp)).mono ?_;rintro e w3 ⟨rfl,x,i⟩;have N:=M.how d x i;clear A B C D E F G I J K L M x i S2;obtain⟨K,L,A,B,C,D,E,F,G,I,J⟩:=N.xat.facts;obtain⟨e1,e2,r0,r1,r2,r3,r4,r5,r6,r7,r8⟩:=N.res.facts;have f:=zAa N;clear N;have hv:=xO { x0 with op:=cO,var:=inn p.toList bO,a:=(aW v.toList).1 } mT r;have z:Hid (oN p v r=((how { x0 with op:=cO,var:=inn p.toList bO,a:=(aW v.toList).1 } mT r).1,(aW v.toList).2&&(how { x0 with op:=cO,var:=inn p.toList bO,a:=(aW v.toList).1 } mT r).2&&decide (0<=inn p.toList bO))):=rfl;generalize how { x0 with op:=cO,var:=inn p.toList bO,a:=(aW v.toList).1 } mT r=H at *;generalize inn p.toList bO=iv at *;generalize (aW v.toList).2=ok at *;have HV:=zAa hv;clear hv hd O S T U V s q W X hk o;cases ok
 ·go_wp2_with fail;go_region
  all_goals go_wp2
  all_goals exact eR (p:=2) (u:=3) w.heap.size H.1 _ (by kernel_rfl) rfl rfl (by exact (f.out.res.bN H.1 (.slice none 0 0)).drew) rfl ⟨by rw[z.out];rfl,(hJ H.1 (.slice none 0 0) f.out.bel (xF _)).drew⟩
 generalize k:H.2=h2 at *;have aa:=zAa k;clear k;cases h2
 ·go_wp2_with fail;go_region
  all_goals go_wp2
  all_goals exact eR (p:=2) (u:=3) w.heap.size H.1 _ (by kernel_rfl) rfl rfl (by exact (f.out.res.bN H.1 (.slice none 0 0)).drew) rfl ⟨by rw[z.out];simp,(hJ H.1 (.slice none 0 0) f.out.bel (xF _)).drew⟩
 by_cases hiv:0<=H.1.var
 ·go_wp2_with fail;go_region
  all_goals go_wp2
  all_goals exact eR (p:=2) (u:=3) w.heap.size H.1 _ (by kernel_rfl) rfl rfl (by exact (f.out.res.bN H.1 (.slice none 0 0)).drew) rfl ⟨by have:=HV.out;rw[z.out,<- this];simp[hiv],(hJ H.1 (.slice none 0 0) f.out.bel (xF _)).drew⟩
 ·go_wp2_with fail;go_region
  all_goals go_wp2
  all_goals exact eR (p:=2) (u:=3) w.heap.size H.1 _ (by kernel_rfl) rfl rfl (by exact (f.out.res.bN H.1 (.slice none 0 0)).drew) rfl ⟨by have:=HV.out;rw[z.out,<- this];simp,(hJ H.1 (.slice none 0 0) f.out.bel (xF _)).drew⟩
theorem zKm (b off n l:Nat) (c e d p:ByteArray) (r:List ByteArray) (w:World) (hw:zAp w b off (c::e::d::p::r)) (hn:(c::e::d::p::r).length=n) (hc:n<=l) (f:b<w.heap.size) (ag:5<=n) (ad:(c.toList==[98,97,114,114,105,101,114])=false) (ae:(c.toList==[102,101,110,99,101])=false) (m:(c.toList==[115,116,111,114,101]&&decide (4<=n))=false) (he:(e.toList==[61])=true) (hd:(d.toList==[108,111,97,100])=true) :
  Calls prog 13 #[.slice (some ⟨b,off,none⟩) n l] w fun e w'=>e=.returned (jN (mR c p r))/\Below w.heap.size w w':=by
 obtain⟨W,_,B⟩:=hw.head;have Y:0<n:=by omega
 have Z:(1:Int)<(n:Int):=by omega
 have aa:(2:Int)<(n:Int):=by omega
 have ab:(3:Int)<(n:Int):=by omega
 have ac:(4:Int)<(n:Int):=by omega
 have y:¬ (n:Int)<3:=by omega
 have A:r.length=n-4:=by simp at hn;omega
 have x:¬ l=4:=by omega
 have z:(c.toList==[115,116,111,114,101])=false:=by
  have h4:decide (4<=n)=true:=by simp;omega
  rw[h4] at m;simpa using m
 have S0:=zAa (StAt.start w b off (c::e::d::p::r) x0 hw);obtain⟨X,_,_⟩:=B.head;have ai:=uC c.toList regs;clear hn hw B;go_enter func13,ntmps13;go_wp2_with fail;refine (fL c regs _ _ rfl (by simp)).mono ?_;rintro e w1 ⟨rfl,s⟩;have o:=StAt.below S0.out s;obtain⟨O,S,E,F,G,I,J,K,L,M,N⟩:=o.xat.facts;have d2:=o.words 2 d rfl;have d3:=o.words 3 p rfl;have v:b<w1.heap.size:=by have:=o.bel.size;omega
 have S1:=zAa o;clear o s S0 X;go_wp2_with fail;have s2:=(S1.out.set { x0 with reg:=inn c.toList regs } f 1 (.int .i64 (inn c.toList regs)) rfl).set { x0 with reg:=inn c.toList regs,op:=cN } f 0 (.string cN) rfl;refine (fL p bO _ _ rfl (by simp)).mono ?_;rintro e w2 ⟨rfl,t⟩;have T:=s2.below t;clear E F G I J K L M N O S;obtain⟨O,S,E,F,G,I,J,K,L,M,N⟩:=T.xat.facts;have S3:=zAa T;have af:b<w2.heap.size:=by have:=T.bel.size;omega
 clear T s2 t S1 d2 d3 v;go_wp2_with fail;have U:=S3.out.set { x0 with reg:=inn c.toList regs,op:=cN,var:=inn p.toList bO } f 2 (.int .i64 (inn p.toList bO)) rfl;refine (tC (w.heap.size+1) b _ _ _ { x0 with reg:=inn c.toList regs,op:=cN,var:=inn p.toList bO } (.slice none 0 0) nC _ r _ (by exact U.xat) (by exact U.words.drop 4) A (by omega) rfl (by simp)).mono ?_;rintro e w5 ⟨rfl,C,k⟩;have V:=U.how f C k;clear E F G I J K L M N O S;clear U C k;obtain⟨O,S,E,F,G,I,J,K,L,M,N⟩:=V.xat.facts;obtain⟨e1,e2,r0,r1,r2,r3,r4,r5,r6,r7,r8⟩:=V.res.facts;have j:=zAa V;clear V;have hv:=xO { x0 with reg:=inn c.toList regs,op:=cN,var:=inn p.toList bO } nC r;have D:Hid (mR c p r=((how { x0 with reg:=inn c.toList regs,op:=cN,var:=inn p.toList bO } nC r).1,decide (0<=inn c.toList regs)&&(how { x0 with reg:=inn c.toList regs,op:=cN,var:=inn p.toList bO } nC r).2&&decide (0<=inn p.toList bO))):=rfl;generalize how { x0 with reg:=inn c.toList regs,op:=cN,var:=inn p.toList bO } nC r=H at *;generalize inn p.toList bO=iv at *;generalize inn c.toList regs=ir at *;have HV:=zAa hv;clear hv W Y Z aa ab ac y A x ad ae m z he;generalize q:H.2=h2 at *;have ah:=zAa q;clear q;by_cases hir:0<=ir
 rotate_left
 ·have a:decide (0<=ir)=false:=decide_eq_false hir;go_wp2_with fail;go_region
  all_goals go_wp2
  all_goals exact eR (p:=2) (u:=3) w.heap.size H.1 _ (by kernel_rfl) rfl rfl (by exact (j.out.res.bN H.1 (.slice none 0 0)).drew) rfl ⟨by rw[D.out];simp[a],(hJ H.1 (.slice none 0 0) j.out.bel (xF _)).drew⟩
 have a:decide (0<=ir)=true:=decide_eq_true hir;cases h2
 ·go_wp2_with fail;go_region
  all_goals go_wp2
  all_goals exact eR (p:=2) (u:=3) w.heap.size H.1 _ (by kernel_rfl) rfl rfl (by exact (j.out.res.bN H.1 (.slice none 0 0)).drew) rfl ⟨by rw[D.out];simp[a],(hJ H.1 (.slice none 0 0) j.out.bel (xF _)).drew⟩
 by_cases hiv:0<=H.1.var
 ·have i:decide (0<=H.1.var)=true:=decide_eq_true hiv;go_wp2_with fail;go_region
  all_goals go_wp2
  all_goals exact eR (p:=2) (u:=3) w.heap.size H.1 _ (by kernel_rfl) rfl rfl (by exact (j.out.res.bN H.1 (.slice none 0 0)).drew) rfl ⟨by have:=HV.out;rw[D.out,<- this];simp[a,i],(hJ H.1 (.slice none 0 0) j.out.bel (xF _)).drew⟩
 ·have i:decide (0<=H.1.var)=false:=decide_eq_false hiv;go_wp2_with fail;go_region
  all_goals go_wp2
  all_goals exact eR (p:=2) (u:=3) w.heap.size H.1 _ (by kernel_rfl) rfl rfl (by exact (j.out.res.bN H.1 (.slice none 0 0)).drew) rfl ⟨by have:=HV.out;rw[D.out,<- this];simp[a,i],(hJ H.1 (.slice none 0 0) j.out.bel (xF _)).drew⟩
theorem zLi (b off n m:Nat) (c e d p v:ByteArray) (r:List ByteArray) (w:World) (hw:zAp w b off (c::e::d::p::v::r)) (hn:(c::e::d::p::v::r).length=n) (hc:n<=m) (i:b<w.heap.size) (al:6<=n) (ai:(c.toList==[98,97,114,114,105,101,114])=false) (aj:(c.toList==[102,101,110,99,101])=false) (o:(c.toList==[115,116,111,114,101]&&decide (4<=n))=false) (he:(e.toList==[61])=true) (ao:(d.toList==[108,111,97,100])=false) (hd:(d.toList==[97,100,100])=true) :
  Calls prog 13 #[.slice (some ⟨b,off,none⟩) n m] w fun e w'=>e=.returned (jN (lE c d p v r))/\Below w.heap.size w w':=by
 obtain⟨ab,_,W⟩:=hw.head;have ad:0<n:=by omega
 have ae:(1:Int)<(n:Int):=by omega
 have af:(2:Int)<(n:Int):=by omega
 have ag:(3:Int)<(n:Int):=by omega
 have ah:(4:Int)<(n:Int):=by omega
 have ap:(5:Int)<(n:Int):=by omega
 have T:¬ (n:Int)<3:=by omega
 have V:r.length=n-5:=by simp at hn;omega
 have S:¬ m=5:=by omega
 have U:(c.toList==[115,116,111,114,101])=false:=by
  have h4:decide (4<=n)=true:=by simp;omega
  rw[h4] at o;simpa using o
 have S0:=zAa (StAt.start w b off (c::e::d::p::v::r) x0 hw);obtain⟨ac,_,_⟩:=W.head;have an:=uC c.toList regs;clear hn hw W;go_enter func13,ntmps13;go_wp2_with fail;refine (fL c regs _ _ rfl (by simp)).mono ?_;rintro e w1 ⟨rfl,K⟩;have G:=StAt.below S0.out K;obtain⟨E,F,s,t,x,y,z,A,B,C,D⟩:=G.xat.facts;have d2:=G.words 2 d rfl;have d3:=G.words 3 p rfl;have N:b<w1.heap.size:=by have:=G.bel.size;omega
 have S1:=zAa G;clear G K S0 ac;go_wp2_with fail;have s2:=(S1.out.set { x0 with reg:=inn c.toList regs } i 1 (.int .i64 (inn c.toList regs)) rfl).set { x0 with reg:=inn c.toList regs,op:=d } i 0 (.string d) rfl;refine (fL p bO _ _ rfl (by simp)).mono ?_;rintro e w2 ⟨rfl,L⟩;have Y:=s2.below L;clear s t x y z A B C D E F;obtain⟨E,F,s,t,x,y,z,A,B,C,D⟩:=Y.xat.facts;have d4:=Y.words 4 v rfl;have S3:=zAa Y;have O:b<w2.heap.size:=by have:=Y.bel.size;omega
 clear Y s2 L S1 d2 d3 N;go_wp2_with fail;have s4:=S3.out.set { x0 with reg:=inn c.toList regs,op:=d,var:=inn p.toList bO } i 2 (.int .i64 (inn p.toList bO)) rfl;refine (nY v _).mono ?_;rintro e w3 ⟨rfl,M⟩;have q:=s4.below M;clear s t x y z A B C D E F;obtain⟨E,F,s,t,x,y,z,A,B,C,D⟩:=q.xat.facts;have aa:=zAa q;clear s4 q M S3 d4 O;go_wp2_with fail;have Z:=aa.out.set { x0 with reg:=inn c.toList regs,op:=d,var:=inn p.toList bO,a:=(aW v.toList).1 } i 3 (.int .i64 (aW v.toList).1) rfl;refine (tC (w.heap.size+1) b _ _ _ { x0 with reg:=inn c.toList regs,op:=d,var:=inn p.toList bO,a:=(aW v.toList).1 } (.slice none 0 0) iK _ r _ (by exact Z.xat) (by exact Z.words.drop 5) V (by omega) rfl (by simp)).mono ?_;rintro e w5 ⟨rfl,X,l⟩;have s6:=Z.how i X l;clear s t x y z A B C D E F;clear Z X l;obtain⟨E,F,s,t,x,y,z,A,B,C,D⟩:=s6.xat.facts;obtain⟨e1,e2,r0,r1,r2,r3,r4,r5,r6,r7,r8⟩:=s6.res.facts;have k:=zAa s6;clear s6;have hv:=xO { x0 with reg:=inn c.toList regs,op:=d,var:=inn p.toList bO,a:=(aW v.toList).1 } iK r;have I:Hid (lE c d p v r=((how { x0 with reg:=inn c.toList regs,op:=d,var:=inn p.toList bO,a:=(aW v.toList).1 } iK r).1,decide (0<=inn c.toList regs)&&(how { x0 with reg:=inn c.toList regs,op:=d,var:=inn p.toList bO,a:=(aW v.toList).1 } iK r).2&&(aW v.toList).2&&decide (0<=inn p.toList bO))):=rfl;generalize how { x0 with reg:=inn c.toList regs,op:=d,var:=inn p.toList bO,a:=(aW v.toList).1 } iK r=H at *;generalize inn p.toList bO=iv at *;generalize inn c.toList regs=ir at *;generalize (aW v.toList).2=ak at *;have HV:=zAa hv;clear hv ab ad ae af ag ah T V S ai aj o U he;generalize J:H.2=h2 at *;have am:=zAa J;clear J;by_cases hir:0<=ir
 rotate_left
 ·have f:decide (0<=ir)=false:=decide_eq_false hir;go_wp2_with fail;go_region
  all_goals go_wp2
  all_goals exact eR (p:=2) (u:=3) w.heap.size H.1 _ (by kernel_rfl) rfl rfl (by exact (k.out.res.bN H.1 (.slice none 0 0)).drew) rfl ⟨by rw[I.out];simp[f],(hJ H.1 (.slice none 0 0) k.out.bel (xF _)).drew⟩
 have f:decide (0<=ir)=true:=decide_eq_true hir;cases h2
 ·go_wp2_with fail;go_region
  all_goals go_wp2
  all_goals exact eR (p:=2) (u:=3) w.heap.size H.1 _ (by kernel_rfl) rfl rfl (by exact (k.out.res.bN H.1 (.slice none 0 0)).drew) rfl ⟨by rw[I.out];simp[f],(hJ H.1 (.slice none 0 0) k.out.bel (xF _)).drew⟩
 cases ak
 ·go_wp2_with fail;go_region
  all_goals go_wp2
  all_goals exact eR (p:=2) (u:=3) w.heap.size H.1 _ (by kernel_rfl) rfl rfl (by exact (k.out.res.bN H.1 (.slice none 0 0)).drew) rfl ⟨by rw[I.out];simp[f],(hJ H.1 (.slice none 0 0) k.out.bel (xF _)).drew⟩
 by_cases hiv:0<=H.1.var
 ·have j:decide (0<=H.1.var)=true:=decide_eq_true hiv;go_wp2_with fail;go_region
  all_goals go_wp2
  all_goals exact eR (p:=2) (u:=3) w.heap.size H.1 _ (by kernel_rfl) rfl rfl (by exact (k.out.res.bN H.1 (.slice none 0 0)).drew) rfl ⟨by have:=HV.out;rw[I.out,<- this];simp[f,j],(hJ H.1 (.slice none 0 0) k.out.bel (xF _)).drew⟩
 ·have j:decide (0<=H.1.var)=false:=decide_eq_false hiv;go_wp2_with fail;go_region
  all_goals go_wp2
  all_goals exact eR (p:=2) (u:=3) w.heap.size H.1 _ (by kernel_rfl) rfl rfl (by exact (k.out.res.bN H.1 (.slice none 0 0)).drew) rfl ⟨by have:=HV.out;rw[I.out,<- this];simp[f,j],(hJ H.1 (.slice none 0 0) k.out.bel (xF _)).drew⟩
theorem zKn (b off n m:Nat) (c e d p v:ByteArray) (r:List ByteArray) (w:World) (hw:zAp w b off (c::e::d::p::v::r)) (hn:(c::e::d::p::v::r).length=n) (hc:n<=m) (i:b<w.heap.size) (al:6<=n) (ai:(c.toList==[98,97,114,114,105,101,114])=false) (aj:(c.toList==[102,101,110,99,101])=false) (o:(c.toList==[115,116,111,114,101]&&decide (4<=n))=false) (he:(e.toList==[61])=true) (ap:(d.toList==[108,111,97,100])=false) (ao:(d.toList==[97,100,100])=false) (hd:(d.toList==[115,119,97,112])=true) :
  Calls prog 13 #[.slice (some ⟨b,off,none⟩) n m] w fun e w'=>e=.returned (jN (lE c d p v r))/\Below w.heap.size w w':=by
 obtain⟨ab,_,W⟩:=hw.head;have ad:0<n:=by omega
 have ae:(1:Int)<(n:Int):=by omega
 have af:(2:Int)<(n:Int):=by omega
 have ag:(3:Int)<(n:Int):=by omega
 have ah:(4:Int)<(n:Int):=by omega
 have aq:(5:Int)<(n:Int):=by omega
 have T:¬ (n:Int)<3:=by omega
 have V:r.length=n-5:=by simp at hn;omega
 have S:¬ m=5:=by omega
 have U:(c.toList==[115,116,111,114,101])=false:=by
  have h4:decide (4<=n)=true:=by simp;omega
  rw[h4] at o;simpa using o
 have S0:=zAa (StAt.start w b off (c::e::d::p::v::r) x0 hw);obtain⟨ac,_,_⟩:=W.head;have an:=uC c.toList regs;clear hn hw W;go_enter func13,ntmps13;go_wp2_with fail;refine (fL c regs _ _ rfl (by simp)).mono ?_;rintro e w1 ⟨rfl,K⟩;have G:=StAt.below S0.out K;obtain⟨E,F,s,t,x,y,z,A,B,C,D⟩:=G.xat.facts;have d2:=G.words 2 d rfl;have d3:=G.words 3 p rfl;have N:b<w1.heap.size:=by have:=G.bel.size;omega
 have S1:=zAa G;clear G K S0 ac;go_wp2_with fail;have s2:=(S1.out.set { x0 with reg:=inn c.toList regs } i 1 (.int .i64 (inn c.toList regs)) rfl).set { x0 with reg:=inn c.toList regs,op:=d } i 0 (.string d) rfl;refine (fL p bO _ _ rfl (by simp)).mono ?_;rintro e w2 ⟨rfl,L⟩;have Y:=s2.below L;clear s t x y z A B C D E F;obtain⟨E,F,s,t,x,y,z,A,B,C,D⟩:=Y.xat.facts;have d4:=Y.words 4 v rfl;have S3:=zAa Y;have O:b<w2.heap.size:=by have:=Y.bel.size;omega
 clear Y s2 L S1 d2 d3 N;go_wp2_with fail;have s4:=S3.out.set { x0 with reg:=inn c.toList regs,op:=d,var:=inn p.toList bO } i 2 (.int .i64 (inn p.toList bO)) rfl;refine (nY v _).mono ?_;rintro e w3 ⟨rfl,M⟩;have q:=s4.below M;clear s t x y z A B C D E F;obtain⟨E,F,s,t,x,y,z,A,B,C,D⟩:=q.xat.facts;have aa:=zAa q;clear s4 q M S3 d4 O;go_wp2_with fail;have Z:=aa.out.set { x0 with reg:=inn c.toList regs,op:=d,var:=inn p.toList bO,a:=(aW v.toList).1 } i 3 (.int .i64 (aW v.toList).1) rfl;refine (tC (w.heap.size+1) b _ _ _ { x0 with reg:=inn c.toList regs,op:=d,var:=inn p.toList bO,a:=(aW v.toList).1 } (.slice none 0 0) iK _ r _ (by exact Z.xat) (by exact Z.words.drop 5) V (by omega) rfl (by simp)).mono ?_;rintro e w5 ⟨rfl,X,l⟩;have s6:=Z.how i X l;clear s t x y z A B C D E F;clear Z X l;obtain⟨E,F,s,t,x,y,z,A,B,C,D⟩:=s6.xat.facts;obtain⟨e1,e2,r0,r1,r2,r3,r4,r5,r6,r7,r8⟩:=s6.res.facts;have k:=zAa s6;clear s6;have hv:=xO { x0 with reg:=inn c.toList regs,op:=d,var:=inn p.toList bO,a:=(aW v.toList).1 } iK r;have I:Hid (lE c d p v r=((how { x0 with reg:=inn c.toList regs,op:=d,var:=inn p.toList bO,a:=(aW v.toList).1 } iK r).1,decide (0<=inn c.toList regs)&&(how { x0 with reg:=inn c.toList regs,op:=d,var:=inn p.toList bO,a:=(aW v.toList).1 } iK r).2&&(aW v.toList).2&&decide (0<=inn p.toList bO))):=rfl;generalize how { x0 with reg:=inn c.toList regs,op:=d,var:=inn p.toList bO,a:=(aW v.toList).1 } iK r=H at *;generalize inn p.toList bO=iv at *;generalize inn c.toList regs=ir at *;generalize (aW v.toList).2=ak at *;have HV:=zAa hv;clear hv ab ad ae af ag ah T V S ai aj o U he;generalize J:H.2=h2 at *;have am:=zAa J;clear J;by_cases hir:0<=ir
 rotate_left
 ·have f:decide (0<=ir)=false:=decide_eq_false hir;go_wp2_with fail;go_region
  all_goals go_wp2
  all_goals exact eR (p:=2) (u:=3) w.heap.size H.1 _ (by kernel_rfl) rfl rfl (by exact (k.out.res.bN H.1 (.slice none 0 0)).drew) rfl ⟨by rw[I.out];simp[f],(hJ H.1 (.slice none 0 0) k.out.bel (xF _)).drew⟩
 have f:decide (0<=ir)=true:=decide_eq_true hir;cases h2
 ·go_wp2_with fail;go_region
  all_goals go_wp2
  all_goals exact eR (p:=2) (u:=3) w.heap.size H.1 _ (by kernel_rfl) rfl rfl (by exact (k.out.res.bN H.1 (.slice none 0 0)).drew) rfl ⟨by rw[I.out];simp[f],(hJ H.1 (.slice none 0 0) k.out.bel (xF _)).drew⟩
 cases ak
 ·go_wp2_with fail;go_region
  all_goals go_wp2
  all_goals exact eR (p:=2) (u:=3) w.heap.size H.1 _ (by kernel_rfl) rfl rfl (by exact (k.out.res.bN H.1 (.slice none 0 0)).drew) rfl ⟨by rw[I.out];simp[f],(hJ H.1 (.slice none 0 0) k.out.bel (xF _)).drew⟩
 by_cases hiv:0<=H.1.var
 ·have j:decide (0<=H.1.var)=true:=decide_eq_true hiv;go_wp2_with fail;go_region
  all_goals go_wp2
  all_goals exact eR (p:=2) (u:=3) w.heap.size H.1 _ (by kernel_rfl) rfl rfl (by exact (k.out.res.bN H.1 (.slice none 0 0)).drew) rfl ⟨by have:=HV.out;rw[I.out,<- this];simp[f,j],(hJ H.1 (.slice none 0 0) k.out.bel (xF _)).drew⟩
 ·have j:decide (0<=H.1.var)=false:=decide_eq_false hiv;go_wp2_with fail;go_region
  all_goals go_wp2
  all_goals exact eR (p:=2) (u:=3) w.heap.size H.1 _ (by kernel_rfl) rfl rfl (by exact (k.out.res.bN H.1 (.slice none 0 0)).drew) rfl ⟨by have:=HV.out;rw[I.out,<- this];simp[f,j],(hJ H.1 (.slice none 0 0) k.out.bel (xF _)).drew⟩
theorem zJs (b off o:Nat) (c e d:ByteArray) (w:World) (s:zAp w b off ([c,e,d])) (f:b<w.heap.size) (V:(c.toList==[98,97,114,114,105,101,114])=false) (W:(c.toList==[102,101,110,99,101])=false) (he:(e.toList==[61])=true) (X:(c.toList==[115,116,111,114,101])=false) :
  Calls prog 13 #[.slice (some ⟨b,off,none⟩) 3 o] w fun e Y=>e=.returned (jN (lB c d))/\Below w.heap.size w Y:=by
 obtain⟨U,_,m⟩:=s.head;have y:=zAa (StAt.start w b off ([c,e,d]) x0 s);obtain⟨q,_,_⟩:=m.head;clear s m;have cl:((d.toList==[108,111,97,100])=true/\(d.toList==[97,100,100])=false/\(d.toList==[115,119,97,112])=false)\/((d.toList==[108,111,97,100])=false/\(d.toList==[97,100,100])=true)\/((d.toList==[108,111,97,100])=false/\(d.toList==[97,100,100])=false/\(d.toList==[115,119,97,112])=true)\/((d.toList==[108,111,97,100])=false/\(d.toList==[97,100,100])=false/\(d.toList==[115,119,97,112])=false):=by
  cases x1:(d.toList==[108,111,97,100])
  ·cases x2:(d.toList==[97,100,100])<;>cases x3:(d.toList==[115,119,97,112])<;>simp
  ·have:d.toList=[108,111,97,100]:=by simpa using x1
   left;rw[this];decide
 rcases cl with ⟨v,x,M⟩ | ⟨v,x⟩ | ⟨v,x,M⟩ | ⟨v,x,M⟩
 all_goals
  go_enter func13,ntmps13;go_wp2_with fail;refine (fL c regs _ _ rfl (by simp)).mono ?_;rintro e Z ⟨rfl,i⟩;have n:=StAt.below y.out i;obtain⟨J,K,A,B,C,D,E,F,G,H,I⟩:=n.xat.facts;have T:=n.words 2 d rfl;have k:b<Z.heap.size:=by have:=n.bel.size;omega
  have z:=zAa n;clear n i y q;go_wp2_with fail;have L:=(z.out.set { x0 with reg:=inn c.toList regs } f 1 (.int .i64 (inn c.toList regs)) rfl).set { x0 with reg:=inn c.toList regs,op:=kAA } f 0 (.string kAA) rfl;refine (nY d _).mono ?_;rintro e w2 ⟨rfl,j⟩;have t:=L.below j;clear A B C D E F G H I J K;obtain⟨J,K,A,B,C,D,E,F,G,H,I⟩:=t.xat.facts;have O:=zAa t;clear t L j z T k;have S:StAt w (w2.setCell ⟨w.heap.size+1,3,none⟩ (.int .i64 (aW d.toList).1)) b off ([c,e,d]) { x0 with reg:=inn c.toList regs,op:=kAA,a:=(aW d.toList).1 }:=O.out.set { x0 with reg:=inn c.toList regs,op:=kAA,a:=(aW d.toList).1 } f 3 (.int .i64 (aW d.toList).1) rfl;have N:Hid (lB c d=({ x0 with reg:=inn c.toList regs,op:=kAA,a:=(aW d.toList).1 },decide (0<=inn c.toList regs)&&(aW d.toList).2)):=rfl;generalize (aW d.toList).2=o1 at *
  cases hg:decide (0<=inn c.toList regs)
  all_goals
   go_wp2_with (first | (refine oV (.tmp 4) rfl rfl (w.heap.size+1) _ (.slice none 0 0) rfl S.xat ?_) | (refine nL (.tmp 2) (.tmp 187) rfl rfl w.heap.size _ _ (.slice none 0 0) (.slice none 0 0) rfl rfl rfl (by exact S.res) ?_;intro w9 r l));rw[N.out];refine eR (p:=2) (u:=3) w.heap.size { x0 with reg:=inn c.toList regs,op:=kAA,a:=(aW d.toList).1 } _ (by kernel_rfl) rfl rfl r rfl ⟨by rw[hg];rfl,S.done l⟩
theorem zJt (b off o:Nat) (c e d:ByteArray) (w:World) (s:zAp w b off ([c,e,d])) (f:b<w.heap.size) (V:(c.toList==[98,97,114,114,105,101,114])=false) (W:(c.toList==[102,101,110,99,101])=false) (he:(e.toList==[61])=true) (X:(c.toList==[115,116,111,114,101])=true) :
  Calls prog 13 #[.slice (some ⟨b,off,none⟩) 3 o] w fun e Y=>e=.returned (jN (lB c d))/\Below w.heap.size w Y:=by
 obtain⟨U,_,m⟩:=s.head;have y:=zAa (StAt.start w b off ([c,e,d]) x0 s);obtain⟨q,_,_⟩:=m.head;clear s m;have cl:((d.toList==[108,111,97,100])=true/\(d.toList==[97,100,100])=false/\(d.toList==[115,119,97,112])=false)\/((d.toList==[108,111,97,100])=false/\(d.toList==[97,100,100])=true)\/((d.toList==[108,111,97,100])=false/\(d.toList==[97,100,100])=false/\(d.toList==[115,119,97,112])=true)\/((d.toList==[108,111,97,100])=false/\(d.toList==[97,100,100])=false/\(d.toList==[115,119,97,112])=false):=by
  cases x1:(d.toList==[108,111,97,100])
  ·cases x2:(d.toList==[97,100,100])<;>cases x3:(d.toList==[115,119,97,112])<;>simp
  ·have:d.toList=[108,111,97,100]:=by simpa using x1
   left;rw[this];decide
 rcases cl with ⟨v,x,M⟩ | ⟨v,x⟩ | ⟨v,x,M⟩ | ⟨v,x,M⟩
 all_goals
  go_enter func13,ntmps13;go_wp2_with fail;refine (fL c regs _ _ rfl (by simp)).mono ?_;rintro e Z ⟨rfl,i⟩;have n:=StAt.below y.out i;obtain⟨J,K,A,B,C,D,E,F,G,H,I⟩:=n.xat.facts;have T:=n.words 2 d rfl;have k:b<Z.heap.size:=by have:=n.bel.size;omega
  have z:=zAa n;clear n i y q;go_wp2_with fail;have L:=(z.out.set { x0 with reg:=inn c.toList regs } f 1 (.int .i64 (inn c.toList regs)) rfl).set { x0 with reg:=inn c.toList regs,op:=kAA } f 0 (.string kAA) rfl;refine (nY d _).mono ?_;rintro e w2 ⟨rfl,j⟩;have t:=L.below j;clear A B C D E F G H I J K;obtain⟨J,K,A,B,C,D,E,F,G,H,I⟩:=t.xat.facts;have O:=zAa t;clear t L j z T k;have S:StAt w (w2.setCell ⟨w.heap.size+1,3,none⟩ (.int .i64 (aW d.toList).1)) b off ([c,e,d]) { x0 with reg:=inn c.toList regs,op:=kAA,a:=(aW d.toList).1 }:=O.out.set { x0 with reg:=inn c.toList regs,op:=kAA,a:=(aW d.toList).1 } f 3 (.int .i64 (aW d.toList).1) rfl;have N:Hid (lB c d=({ x0 with reg:=inn c.toList regs,op:=kAA,a:=(aW d.toList).1 },decide (0<=inn c.toList regs)&&(aW d.toList).2)):=rfl;generalize (aW d.toList).2=o1 at *
  cases hg:decide (0<=inn c.toList regs)
  all_goals
   go_wp2_with (first | (refine oV (.tmp 4) rfl rfl (w.heap.size+1) _ (.slice none 0 0) rfl S.xat ?_) | (refine nL (.tmp 2) (.tmp 187) rfl rfl w.heap.size _ _ (.slice none 0 0) (.slice none 0 0) rfl rfl rfl (by exact S.res) ?_;intro w9 r l));rw[N.out];refine eR (p:=2) (u:=3) w.heap.size { x0 with reg:=inn c.toList regs,op:=kAA,a:=(aW d.toList).1 } _ (by kernel_rfl) rfl rfl r rfl ⟨by rw[hg];rfl,S.done l⟩
end Go.Proofs.YtonodfjdiepglaaGreatDoor
