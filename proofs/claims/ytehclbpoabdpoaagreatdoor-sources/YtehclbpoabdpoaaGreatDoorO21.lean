import Derived.Test.YtehclbpoabdpoaaGreatDoorO10
set_option linter.all false
set_option maxHeartbeats 0
namespace Go.Proofs.YtehclbpoabdpoaaGreatDoor
open Go Go.RowKit Go.Proofs.Tryz P Q R
open scoped Classical
set_option maxRecDepth 1000000
variable {w:World}{g:Nat}
open _root_.Array renaming size->M
open Go.World renaming heap->L
open List renaming length->D
open Go.Value renaming slice->Y,string->I,int->E
open Bool renaming false->C,true->G
open Option renaming none->O
open Go.IntKind renaming i64->U
open Go.Ending renaming returned->N
open Nat renaming le_refl->xF
open Go.RowKit.Below renaming setCell->xR,refl->x4
open Bool renaming false_eq_true->xW
def OG.fs{x:Lh}{c:Value}(h:OG w g x c):g<M (L w)/\(∀i,w.frozen? ⟨g,i,O⟩=C)/\∀i,w.cell? ⟨g,i,O⟩=#[Value.string x.op,E U x.MW,E U x.z,E U x.a,E U x.b,I x.sign,I x.ord,I x.scope,c][i]? :=
 ⟨h.lt,fun i=>by unfold OG at h;simp[World.frozen?,h],cA h⟩
def Ng(b off n d:Nat)(c:ByteArray)(r:List ByteArray)(w:World)(l:NQ w b off (c::r))(f:(c::r).length=n)(i:b<M (L w))(s:(c.toList==[98,97,114,114,105,101,114])=G):
  Calls prog 18 #[Y (some ⟨b,off,O⟩) n d] w fun e m=>e=N (nQ (({x0 with op:=jE},r.isEmpty)))/\Below (M (L w)) w m:=by
 obtain⟨o,_,_⟩:=l.head;have k:((n:Int)==1)=r.isEmpty:=by
  cases r with
  |nil=>simp at f;simp;omega
  |cons a q=>simp at f;simp;omega
 have j:0<n:=by simp at f;omega
 go_enter func18,ntmps18;go_wp2_with fail;exact jG (p:=2) (u:=3) (M (L w)) {x0 with op:=jE} r.isEmpty (by kernel_rfl) Z Z (by exact(OG.new w {x0 with op:=jE} _).alloc _) Z ⟨Z,((x4 _ _).alloc (xF _) _).alloc (by simp) _⟩
def Nh(b off n i:Nat)(c:ByteArray)(r:List ByteArray)(w:World)(v:NQ w b off (c::r))(t:(c::r).length=n)(H:n<=i)(f:b<M (L w))(y:(c.toList==[98,97,114,114,105,101,114])=C)(K:(c.toList==[102,101,110,99,101])=G):
  Calls prog 18 #[Y (some ⟨b,off,O⟩) n i] w fun e A=>e=N (nQ (how {x0 with op:=gT} R.oFence r))/\Below (M (L w)) w A:=by
 obtain⟨J,_,q⟩:=v.head;have x:0<n:=by simp at t;omega
 have m:D r=n-1:=by simp at t;omega
 have l:=MS (StAt.start w b off (c::r) {x0 with op:=gT} v);have s:=MS q;by_cases hcap:i=1
 ·have z:r=[]:=List.eq_nil_of_length_eq_zero (by omega);subst z;go_enter func18,ntmps18;go_wp2_with fail;refine(yQ (M (L w)+1) b _ _ _ {x0 with op:=gT} (Y O 0 0) R.oFence _ [] _ (by exact l.xat) (NQ.nil _ _ _) (by simp;omega) (by omega) Z (by simp)).mono ?_;rintro e B ⟨rfl,k,a⟩;have S:=StAt.how l.o f k a;go_wp2_with(first|(refine wI (.tmp 4) Z Z (M (L w)+1) _ (Y O 0 0) Z S.xat ?_)|(refine uG (.tmp 2) (.tmp 41) Z Z (M (L w)) _ _ (Y O 0 0) (Y O 0 0) Z Z Z (by exact S.res) ?_;intro F j d));exact jG (p:=2) (u:=3) (M (L w)) _ _ (by kernel_rfl) Z Z j Z ⟨Z,S.done d⟩
 ·go_enter func18,ntmps18;go_wp2_with fail;refine(yQ (M (L w)+1) b _ _ _ {x0 with op:=gT} (Y O 0 0) R.oFence _ r _ (by exact l.xat) (by exact(s.alloc _).alloc _) m (by omega) Z (by simp)).mono ?_;rintro e B ⟨rfl,k,a⟩;have S:=StAt.how l.o f k a;go_wp2_with(first|(refine wI (.tmp 4) Z Z (M (L w)+1) _ (Y O 0 0) Z S.xat ?_)|(refine uG (.tmp 2) (.tmp 41) Z Z (M (L w)) _ _ (Y O 0 0) (Y O 0 0) Z Z Z (by exact S.res) ?_;intro F j d));exact jG (p:=2) (u:=3) (M (L w)) _ _ (by kernel_rfl) Z Z j Z ⟨Z,S.done d⟩
def YT(b off n a:Nat)(c:ByteArray)(r:List ByteArray)(w:World)(m:NQ w b off (c::r))(l:(c::r).length=n)(d:b<M (L w))(j:(c.toList==[98,97,114,114,105,101,114])=C)(k:(c.toList==[102,101,110,99,101])=C)(q:n<3):
  Calls prog 18 #[Y (some ⟨b,off,O⟩) n a] w fun e o=>e=N (nQ ((x0,C)))/\Below (M (L w)) w o:=by
 obtain⟨s,_,_⟩:=m.head;have i:0<n:=by simp at l;omega
 have f:(n:Int)<3:=by omega
 go_enter func18,ntmps18;go_wp2_with fail
 all_goals exact jG (p:=2) (u:=3) (M (L w)) x0 C (by kernel_rfl) Z Z (by exact(OG.new w x0 _).alloc _) Z ⟨Z,((x4 _ _).alloc (xF _) _).alloc (by simp) _⟩
def Ni(b off n a:Nat)(c e d:ByteArray)(r:List ByteArray)(w:World)(t:NQ w b off (c::e::d::r))(f:(c::e::d::r).length=n)(j:b<M (L w))(q:(c.toList==[98,97,114,114,105,101,114])=C)(s:(c.toList==[102,101,110,99,101])=C)(hs:(c.toList==[115,116,111,114,101]&&decide (4<=n))=C)(z:(e.toList==[61])=C):
  Calls prog 18 #[Y (some ⟨b,off,O⟩) n a] w fun e v=>e=N (nQ ((x0,C)))/\Below (M (L w)) w v:=by
 obtain⟨y,_,i⟩:=t.head;obtain⟨l,_,_⟩:=i.head;have m:0<n:=by simp at f;omega
 have k:¬(n:Int)<3:=by simp at f;omega
 have o:(1:Int)<(n:Int):=by simp at f;omega
 cases hst:c.toList==[115,116,111,114,101]
 ·go_enter func18,ntmps18;go_wp2_with fail
  all_goals exact jG (p:=2) (u:=3) (M (L w)) x0 C (by kernel_rfl) Z Z (by exact(OG.new w x0 _).alloc _) Z ⟨Z,((x4 _ _).alloc (xF _) _).alloc (by simp) _⟩
 ·have x:¬(3:Int)<(n:Int):=by simp[hst]at hs;omega
  go_enter func18,ntmps18;go_wp2_with fail
  all_goals exact jG (p:=2) (u:=3) (M (L w)) x0 C (by kernel_rfl) Z Z (by exact(OG.new w x0 _).alloc _) Z ⟨Z,((x4 _ _).alloc (xF _) _).alloc (by simp) _⟩
def OG.cM{z:Lh}{d:Value}(t:Lh)(c:Value)(h:OG w g z d):
  OG (((((((((w.setCell ⟨g,0,O⟩ (I t.op)).setCell ⟨g,1,O⟩ (E U t.MW)).setCell ⟨g,2,O⟩ (E U t.z)).setCell ⟨g,3,O⟩ (E U t.a)).setCell ⟨g,4,O⟩ (E U t.b)).setCell ⟨g,5,O⟩ (I t.sign)).setCell ⟨g,6,O⟩ (I t.ord)).setCell ⟨g,7,O⟩ (I t.scope)).setCell ⟨g,8,O⟩ c) g t c:=by
 unfold OG at*;have i:=bX h 0 (I t.op);have j:=bX i 1 (E U t.MW);have k:=bX j 2 (E U t.z);have l:=bX k 3 (E U t.a);have m:=bX l 4 (E U t.b);have n:=bX m 5 (I t.sign);have f:=bX (bX (bX n 6 (I t.ord)) 7 (I t.scope)) 8 c;have e:(((((((((cI z d).setIfInBounds 0 (I t.op)).setIfInBounds 1 (E U t.MW)).setIfInBounds 2 (E U t.z)).setIfInBounds 3 (E U t.a)).setIfInBounds 4 (E U t.b)).setIfInBounds 5 (I t.sign)).setIfInBounds 6 (I t.ord)).setIfInBounds 7 (I t.scope)).setIfInBounds 8 c=cI t c:=by simp[cI]
 rw[e]at f;exact f
def nZ{d:World}{B:Nat}(t:Lh)(e:Value)(h:Below B d w)(c:B<=g):Below B d (((((((((w.setCell ⟨g,0,O⟩ (I t.op)).setCell ⟨g,1,O⟩ (E U t.MW)).setCell ⟨g,2,O⟩ (E U t.z)).setCell ⟨g,3,O⟩ (E U t.a)).setCell ⟨g,4,O⟩ (E U t.b)).setCell ⟨g,5,O⟩ (I t.sign)).setCell ⟨g,6,O⟩ (I t.ord)).setCell ⟨g,7,O⟩ (I t.scope)).setCell ⟨g,8,O⟩ e):=
 xR (xR (xR (xR (xR (xR (xR (xR (xR h c _) c _) c _) c _) c _) c _) c _) c _) c _
def LE(x:Lh)(o:List UInt8)(a:List ByteArray):(how x o a).1.z=x.z:=by
 unfold how
 split
 ·rfl
 ·split
  ·rfl
  ·split
   ·rfl
   ·split<;>rfl
def Nj(b off n i:Nat)(c p v:ByteArray)(r:List ByteArray)(w:World)(hw:NQ w b off (c::p::v::r))(hn:(c::p::v::r).length=n)(hc:n<=i)(d:b<M (L w))(h4:4<=n)(J:(c.toList==[98,97,114,114,105,101,114])=C)(K:(c.toList==[102,101,110,99,101])=C)(hk:(c.toList==[115,116,111,114,101])=G):
  Calls prog 18 #[Y (some ⟨b,off,O⟩) n i] w fun e w'=>e=N (nQ (sX p v r))/\Below (M (L w)) w w':=by
 obtain⟨hd,_,S⟩:=hw.head;have y:0<n:=by omega
 have A:(1:Int)<(n:Int):=by omega
 have B:(2:Int)<(n:Int):=by omega
 have F:(3:Int)<(n:Int):=by omega
 have m:D r=n-3:=by simp at hn;omega
 have k:¬i=3:=by omega
 have S0:=MS (StAt.start w b off (c::p::v::r) {x0 with op:=gN} hw);obtain⟨x,_,_⟩:=S.head;go_enter func18,ntmps18;go_wp2_with fail;refine(jN p cJ _ _ Z (by simp)).mono ?_;rintro e w1 ⟨rfl,s⟩;have V:=StAt.X S0.o s;obtain⟨f1,f2,c0⟩:=V.xat.fs;have d2:=V.words 2 v Z;have S1:=MS V;go_wp2_with fail;refine(uJ v _).mono ?_;rintro e w2 ⟨rfl,t⟩;have s2:=(S1.set {x0 with op:=gN,z:=inn p.toList cJ} d 2 _ Z).X t;obtain⟨f1,f2,c0⟩:=s2.xat.fs;have S2:=MS s2;go_wp2_with fail;have W:=S2.set {x0 with op:=gN,z:=inn p.toList cJ,a:=(bG v.toList).1} d 3 (E U (bG v.toList).1) Z;refine(yQ (M (L w)+1) b _ _ _ {x0 with op:=gN,z:=inn p.toList cJ,a:=(bG v.toList).1} (Y O 0 0) R.oStore _ r _ (by exact W.xat) (by exact W.words.drop 3) m (by omega) Z (by simp)).mono ?_;rintro e w3 ⟨rfl,T,l⟩;have s4:=W.how d T l;obtain⟨f1,f2,c0⟩:=s4.xat.fs;obtain⟨e1,e2,r0⟩:=s4.res.fs;have f:=MS s4;have hv:=LE {x0 with op:=gN,z:=inn p.toList cJ,a:=(bG v.toList).1} R.oStore r;have q:MT (sX p v r=((how {x0 with op:=gN,z:=inn p.toList cJ,a:=(bG v.toList).1} R.oStore r).1,(bG v.toList).2&&(how {x0 with op:=gN,z:=inn p.toList cJ,a:=(bG v.toList).1} R.oStore r).2&&decide (0<=inn p.toList cJ))):=Z;generalize how {x0 with op:=gN,z:=inn p.toList cJ,a:=(bG v.toList).1} R.oStore r=H at*;generalize inn p.toList cJ=iv at*;generalize(bG v.toList).2=ok at*;have HV:=MS hv;clear hv hd x y A B F m k J K hk;cases ok
 ·go_wp2_with fail;go_region
  all_goals go_wp2
  all_goals exact jG (p:=2) (u:=3) (M (L w)) H.1 _ (by kernel_rfl) Z Z (by exact(f.res.cM H.1 (Y O 0 0)).drew) Z ⟨by rw[q.o];rfl,(nZ H.1 (Y O 0 0) f.bel (xF _)).drew⟩
 generalize j:H.2=h2 at*;have aa:=MS j;clear j;cases h2
 ·go_wp2_with fail;go_region
  all_goals go_wp2
  all_goals exact jG (p:=2) (u:=3) (M (L w)) H.1 _ (by kernel_rfl) Z Z (by exact(f.res.cM H.1 (Y O 0 0)).drew) Z ⟨by rw[q.o];simp,(nZ H.1 (Y O 0 0) f.bel (xF _)).drew⟩
 by_cases hiv:0<=H.1.z
 ·go_wp2_with fail;go_region
  all_goals go_wp2
  all_goals exact jG (p:=2) (u:=3) (M (L w)) H.1 _ (by kernel_rfl) Z Z (by exact(f.res.cM H.1 (Y O 0 0)).drew) Z ⟨by have:=HV.o;rw[q.o,<- this];simp[hiv],(nZ H.1 (Y O 0 0) f.bel (xF _)).drew⟩
 ·go_wp2_with fail;go_region
  all_goals go_wp2
  all_goals exact jG (p:=2) (u:=3) (M (L w)) H.1 _ (by kernel_rfl) Z Z (by exact(f.res.cM H.1 (Y O 0 0)).drew) Z ⟨by have:=HV.o;rw[q.o,<- this];simp,(nZ H.1 (Y O 0 0) f.bel (xF _)).drew⟩
def Nk(b off n k:Nat)(c e d p:ByteArray)(r:List ByteArray)(w:World)(hw:NQ w b off (c::e::d::p::r))(hn:(c::e::d::p::r).length=n)(hc:n<=k)(f:b<M (L w))(ae:5<=n)(aa:(c.toList==[98,97,114,114,105,101,114])=C)(ab:(c.toList==[102,101,110,99,101])=C)(l:(c.toList==[115,116,111,114,101]&&decide (4<=n))=C)(he:(e.toList==[61])=G)(hd:(d.toList==[108,111,97,100])=G):
  Calls prog 18 #[Y (some ⟨b,off,O⟩) n k] w fun e w'=>e=N (nQ (rC c p r))/\Below (M (L w)) w w':=by
 obtain⟨J,_,ac⟩:=hw.head;have K:0<n:=by omega
 have S:(1:Int)<(n:Int):=by omega
 have T:(2:Int)<(n:Int):=by omega
 have V:(3:Int)<(n:Int):=by omega
 have W:(4:Int)<(n:Int):=by omega
 have t:¬(n:Int)<3:=by omega
 have x:D r=n-4:=by simp at hn;omega
 have q:¬k=4:=by omega
 have v:(c.toList==[115,116,111,114,101])=C:=by
  have h4:decide (4<=n)=G:=by simp;omega
  rw[h4]at l;simpa using l
 have S0:=MS (StAt.start w b off (c::e::d::p::r) x0 hw);obtain⟨ah,_,_⟩:=ac.head;have ag:=DH c.toList regs;go_enter func18,ntmps18;go_wp2_with fail;refine(jN c regs _ _ Z (by simp)).mono ?_;rintro e w1 ⟨rfl,B⟩;have A:=StAt.X S0.o B;obtain⟨f1,f2,c0⟩:=A.xat.fs;have d2:=A.words 2 d Z;have d3:=A.words 3 p Z;have S1:=MS A;go_wp2_with fail;have s2:=(S1.set {x0 with MW:=inn c.toList regs} f 1 (E U (inn c.toList regs)) Z).set {x0 with MW:=inn c.toList regs,op:=gG} f 0 (I gG) Z;refine(jN p cJ _ _ Z (by simp)).mono ?_;rintro e w2 ⟨rfl,F⟩;have s3:=s2.X F;obtain⟨f1,f2,c0⟩:=s3.xat.fs;have S3:=MS s3;go_wp2_with fail;have s5:=S3.set {x0 with MW:=inn c.toList regs,op:=gG,z:=inn p.toList cJ} f 2 (E U (inn p.toList cJ)) Z;refine(yQ (M (L w)+1) b _ _ _ {x0 with MW:=inn c.toList regs,op:=gG,z:=inn p.toList cJ} (Y O 0 0) R.oLoad _ r _ (by exact s5.xat) (by exact s5.words.drop 4) x (by omega) Z (by simp)).mono ?_;rintro e w5 ⟨rfl,ad,s⟩;have s6:=s5.how f ad s;obtain⟨f1,f2,c0⟩:=s6.xat.fs;obtain⟨e1,e2,r0⟩:=s6.res.fs;have j:=MS s6;have hv:=LE {x0 with MW:=inn c.toList regs,op:=gG,z:=inn p.toList cJ} R.oLoad r;have y:MT (rC c p r=((how {x0 with MW:=inn c.toList regs,op:=gG,z:=inn p.toList cJ} R.oLoad r).1,decide (0<=inn c.toList regs)&&(how {x0 with MW:=inn c.toList regs,op:=gG,z:=inn p.toList cJ} R.oLoad r).2&&decide (0<=inn p.toList cJ))):=Z;generalize how {x0 with MW:=inn c.toList regs,op:=gG,z:=inn p.toList cJ} R.oLoad r=H at*;generalize inn p.toList cJ=iv at*;generalize inn c.toList regs=ir at*;have HV:=MS hv;clear hv J K S T V W t x q aa ab l v he;generalize m:H.2=h2 at*;have af:=MS m;clear m;by_cases hir:0<=ir
 rotate_left
 ·have a:decide (0<=ir)=C:=decide_eq_false hir;go_wp2_with fail;go_region
  all_goals go_wp2
  all_goals exact jG (p:=2) (u:=3) (M (L w)) H.1 _ (by kernel_rfl) Z Z (by exact(j.res.cM H.1 (Y O 0 0)).drew) Z ⟨by rw[y.o];simp[a],(nZ H.1 (Y O 0 0) j.bel (xF _)).drew⟩
 have a:decide (0<=ir)=G:=decide_eq_true hir;cases h2
 ·go_wp2_with fail;go_region
  all_goals go_wp2
  all_goals exact jG (p:=2) (u:=3) (M (L w)) H.1 _ (by kernel_rfl) Z Z (by exact(j.res.cM H.1 (Y O 0 0)).drew) Z ⟨by rw[y.o];simp[a],(nZ H.1 (Y O 0 0) j.bel (xF _)).drew⟩
 by_cases hiv:0<=H.1.z
 ·have i:decide (0<=H.1.z)=G:=decide_eq_true hiv;go_wp2_with fail;go_region
  all_goals go_wp2
  all_goals exact jG (p:=2) (u:=3) (M (L w)) H.1 _ (by kernel_rfl) Z Z (by exact(j.res.cM H.1 (Y O 0 0)).drew) Z ⟨by have:=HV.o;rw[y.o,<- this];simp[a,i],(nZ H.1 (Y O 0 0) j.bel (xF _)).drew⟩
 ·have i:decide (0<=H.1.z)=C:=decide_eq_false hiv;go_wp2_with fail;go_region
  all_goals go_wp2
  all_goals exact jG (p:=2) (u:=3) (M (L w)) H.1 _ (by kernel_rfl) Z Z (by exact(j.res.cM H.1 (Y O 0 0)).drew) Z ⟨by have:=HV.o;rw[y.o,<- this];simp[a,i],(nZ H.1 (Y O 0 0) j.bel (xF _)).drew⟩
def Nl(b off n m:Nat)(c e d p v:ByteArray)(r:List ByteArray)(w:World)(hw:NQ w b off (c::e::d::p::v::r))(hn:(c::e::d::p::v::r).length=n)(hc:n<=m)(i:b<M (L w))(an:6<=n)(ak:(c.toList==[98,97,114,114,105,101,114])=C)(al:(c.toList==[102,101,110,99,101])=C)(q:(c.toList==[115,116,111,114,101]&&decide (4<=n))=C)(he:(e.toList==[61])=G)(ar:(d.toList==[108,111,97,100])=C)(hd:(d.toList==[97,100,100])=G\/(d.toList==[97,100,100])=C/\(d.toList==[115,119,97,112])=G):
  Calls prog 18 #[Y (some ⟨b,off,O⟩) n m] w fun e w'=>e=N (nQ (qM c d p v r))/\Below (M (L w)) w w':=by
 rcases hd with hd|⟨aq,hd⟩
 all_goals
  obtain⟨ad,_,aa⟩:=hw.head;have af:0<n:=by omega
  have ag:(1:Int)<(n:Int):=by omega
  have ah:(2:Int)<(n:Int):=by omega
  have ai:(3:Int)<(n:Int):=by omega
  have aj:(4:Int)<(n:Int):=by omega
  have au:(5:Int)<(n:Int):=by omega
  have T:¬(n:Int)<3:=by omega
  have W:D r=n-5:=by simp at hn;omega
  have S:¬m=5:=by omega
  have V:(c.toList==[115,116,111,114,101])=C:=by
   have h4:decide (4<=n)=G:=by simp;omega
   rw[h4]at q;simpa using q
  have S0:=MS (StAt.start w b off (c::e::d::p::v::r) x0 hw);obtain⟨ae,_,_⟩:=aa.head;have ap:=DH c.toList regs;clear hn hw aa;go_enter func18,ntmps18;go_wp2_with fail;refine(jN c regs _ _ Z (by simp)).mono ?_;rintro e w1 ⟨rfl,F⟩;have s1:=StAt.X S0.o F;obtain⟨x,y,t⟩:=s1.xat.fs;have d2:=s1.words 2 d Z;have d3:=s1.words 3 p Z;have S1:=MS s1;clear s1 F S0 ae;go_wp2_with fail;have s2:=(S1.set {x0 with MW:=inn c.toList regs} i 1 (E U (inn c.toList regs)) Z).set {x0 with MW:=inn c.toList regs,op:=d} i 0 (I d) Z;refine(jN p cJ _ _ Z (by simp)).mono ?_;rintro e w2 ⟨rfl,J⟩;have s3:=s2.X J;clear t x y;obtain⟨x,y,t⟩:=s3.xat.fs;have d4:=s3.words 4 v Z;have S3:=MS s3;clear s3 s2 J S1 d2 d3;go_wp2_with fail;have s4:=S3.set {x0 with MW:=inn c.toList regs,op:=d,z:=inn p.toList cJ} i 2 (E U (inn p.toList cJ)) Z;refine(uJ v _).mono ?_;rintro e w3 ⟨rfl,K⟩;have s:=s4.X K;clear t x y;obtain⟨x,y,t⟩:=s.xat.fs;have ac:=MS s;clear s4 s K S3 d4;go_wp2_with fail;have s5:=ac.set {x0 with MW:=inn c.toList regs,op:=d,z:=inn p.toList cJ,a:=(bG v.toList).1} i 3 (E U (bG v.toList).1) Z;refine(yQ (M (L w)+1) b _ _ _ {x0 with MW:=inn c.toList regs,op:=d,z:=inn p.toList cJ,a:=(bG v.toList).1} (Y O 0 0) oG _ r _ (by exact s5.xat) (by exact s5.words.drop 5) W (by omega) Z (by simp)).mono ?_;rintro e w5 ⟨rfl,ab,l⟩;have s6:=s5.how i ab l;clear t x y;clear s5 ab l;obtain⟨x,y,t⟩:=s6.xat.fs;obtain⟨e1,e2,r0⟩:=s6.res.fs;have k:=MS s6;clear s6;have hv:=LE {x0 with MW:=inn c.toList regs,op:=d,z:=inn p.toList cJ,a:=(bG v.toList).1} oG r;have A:MT (qM c d p v r=((how {x0 with MW:=inn c.toList regs,op:=d,z:=inn p.toList cJ,a:=(bG v.toList).1} oG r).1,decide (0<=inn c.toList regs)&&(how {x0 with MW:=inn c.toList regs,op:=d,z:=inn p.toList cJ,a:=(bG v.toList).1} oG r).2&&(bG v.toList).2&&decide (0<=inn p.toList cJ))):=Z;generalize how {x0 with MW:=inn c.toList regs,op:=d,z:=inn p.toList cJ,a:=(bG v.toList).1} oG r=H at*;generalize inn p.toList cJ=iv at*;generalize inn c.toList regs=ir at*;generalize(bG v.toList).2=am at*;have HV:=MS hv;clear hv ad af ag ah ai aj T W S ak al q V he;generalize B:H.2=h2 at*;have ao:=MS B;clear B;by_cases hir:0<=ir
  rotate_left
  ·have f:decide (0<=ir)=C:=decide_eq_false hir;go_wp2_with fail;go_region
   all_goals go_wp2
   all_goals exact jG (p:=2) (u:=3) (M (L w)) H.1 _ (by kernel_rfl) Z Z (by exact(k.res.cM H.1 (Y O 0 0)).drew) Z ⟨by rw[A.o];simp[f],(nZ H.1 (Y O 0 0) k.bel (xF _)).drew⟩
  have f:decide (0<=ir)=G:=decide_eq_true hir;cases h2
  ·go_wp2_with fail;go_region
   all_goals go_wp2
   all_goals exact jG (p:=2) (u:=3) (M (L w)) H.1 _ (by kernel_rfl) Z Z (by exact(k.res.cM H.1 (Y O 0 0)).drew) Z ⟨by rw[A.o];simp[f],(nZ H.1 (Y O 0 0) k.bel (xF _)).drew⟩
  cases am
  ·go_wp2_with fail;go_region
   all_goals go_wp2
   all_goals exact jG (p:=2) (u:=3) (M (L w)) H.1 _ (by kernel_rfl) Z Z (by exact(k.res.cM H.1 (Y O 0 0)).drew) Z ⟨by rw[A.o];simp[f],(nZ H.1 (Y O 0 0) k.bel (xF _)).drew⟩
  by_cases hiv:0<=H.1.z
  ·have j:decide (0<=H.1.z)=G:=decide_eq_true hiv;go_wp2_with fail;go_region
   all_goals go_wp2
   all_goals exact jG (p:=2) (u:=3) (M (L w)) H.1 _ (by kernel_rfl) Z Z (by exact(k.res.cM H.1 (Y O 0 0)).drew) Z ⟨by have:=HV.o;rw[A.o,<- this];simp[f,j],(nZ H.1 (Y O 0 0) k.bel (xF _)).drew⟩
  ·have j:decide (0<=H.1.z)=C:=decide_eq_false hiv;go_wp2_with fail;go_region
   all_goals go_wp2
   all_goals exact jG (p:=2) (u:=3) (M (L w)) H.1 _ (by kernel_rfl) Z Z (by exact(k.res.cM H.1 (Y O 0 0)).drew) Z ⟨by have:=HV.o;rw[A.o,<- this];simp[f,j],(nZ H.1 (Y O 0 0) k.bel (xF _)).drew⟩
def Nm(b off n:Nat)(c e d:ByteArray)(w:World)(s:NQ w b off ([c,e,d]))(f:b<M (L w))(aa:(c.toList==[98,97,114,114,105,101,114])=C)(ab:(c.toList==[102,101,110,99,101])=C)(he:(e.toList==[61])=G):
  Calls prog 18 #[Y (some ⟨b,off,O⟩) 3 n] w fun e w'=>e=N (nQ (qG c d))/\Below (M (L w)) w w':=by
 cases hst:c.toList==[115,116,111,114,101]
 all_goals
  obtain⟨W,_,l⟩:=s.head;have y:=MS (StAt.start w b off ([c,e,d]) x0 s);obtain⟨q,_,_⟩:=l.head;clear s l;have cl:(d.toList==[108,111,97,100])=G/\(d.toList==[97,100,100])=C/\(d.toList==[115,119,97,112])=C\/(d.toList==[108,111,97,100])=C/\(d.toList==[97,100,100])=G\/(d.toList==[108,111,97,100])=C/\(d.toList==[97,100,100])=C/\(d.toList==[115,119,97,112])=G\/(d.toList==[108,111,97,100])=C/\(d.toList==[97,100,100])=C/\(d.toList==[115,119,97,112])=C:=by
   cases x1:d.toList==[108,111,97,100]
   ·cases x2:d.toList==[97,100,100]<;>cases x3:d.toList==[115,119,97,112]<;>simp
   ·have:d.toList=[108,111,97,100]:=by simpa using x1
    left;rw[this];decide
  rcases cl with⟨v,x,J⟩|⟨v,x⟩|⟨v,x,J⟩|⟨v,x,J⟩
  all_goals
   go_enter func18,ntmps18;go_wp2_with fail;refine(jN c regs _ _ Z (by simp)).mono ?_;rintro e w1 ⟨rfl,i⟩;have m:=StAt.X y.o i;obtain⟨B,F,A⟩:=m.xat.fs;have V:=m.words 2 d Z;have z:=MS m;clear m i y q;go_wp2_with fail;have H:=(z.set {x0 with MW:=inn c.toList regs} f 1 (E U (inn c.toList regs)) Z).set {x0 with MW:=inn c.toList regs,op:=eK} f 0 (I eK) Z;refine(uJ d _).mono ?_;rintro e w2 ⟨rfl,j⟩;have t:=H.X j;clear A B F;obtain⟨B,F,A⟩:=t.xat.fs;have T:=MS t;clear t H j z V;have S:StAt w (w2.setCell ⟨M (L w)+1,3,O⟩ (E U (bG d.toList).1)) b off ([c,e,d]) {x0 with MW:=inn c.toList regs,op:=eK,a:=(bG d.toList).1}:=T.set {x0 with MW:=inn c.toList regs,op:=eK,a:=(bG d.toList).1} f 3 (E U (bG d.toList).1) Z;have K:MT (qG c d=({x0 with MW:=inn c.toList regs,op:=eK,a:=(bG d.toList).1},decide (0<=inn c.toList regs)&&(bG d.toList).2)):=Z;generalize(bG d.toList).2=o1 at*
   cases hg:decide (0<=inn c.toList regs)
   all_goals
    go_wp2_with(first|(refine wI (.tmp 4) Z Z (M (L w)+1) _ (Y O 0 0) Z S.xat ?_)|(refine uG (.tmp 2) (.tmp 187) Z Z (M (L w)) _ _ (Y O 0 0) (Y O 0 0) Z Z Z (by exact S.res) ?_;intro w9 r k));rw[K.o];refine jG (p:=2) (u:=3) (M (L w)) {x0 with MW:=inn c.toList regs,op:=eK,a:=(bG d.toList).1} _ (by kernel_rfl) Z Z r Z ⟨by rw[hg];rfl,S.done k⟩
def Nn(b off F:Nat)(c e d s t:ByteArray)(w:World)(K:NQ w b off ([c,e,d,s,t]))(f:b<M (L w))(ab:(c.toList==[98,97,114,114,105,101,114])=C)(ac:(c.toList==[102,101,110,99,101])=C)(ad:(c.toList==[115,116,111,114,101])=C)(he:(e.toList==[61])=G)(hl:(d.toList==[108,111,97,100])=C):
  Calls prog 18 #[Y (some ⟨b,off,O⟩) 5 F] w fun e w'=>e=N (nQ (qR c d s t))/\Below (M (L w)) w w':=by
 obtain⟨aa,_,v⟩:=K.head;have W:=MS (StAt.start w b off ([c,e,d,s,t]) x0 K);obtain⟨H,_,_⟩:=v.head;clear K v;have cl:(d.toList==[97,100,100])=G\/(d.toList==[97,100,100])=C/\(d.toList==[115,119,97,112])=G\/(d.toList==[97,100,100])=C/\(d.toList==[115,119,97,112])=C:=by
  cases x2:d.toList==[97,100,100]<;>cases x3:d.toList==[115,119,97,112]<;>simp
 rcases cl with y2|⟨y2,y3⟩|⟨y2,y3⟩
 all_goals
  go_enter func18,ntmps18;go_wp2_with fail;refine(jN c regs _ _ Z (by simp)).mono ?_;rintro e w1 ⟨rfl,m⟩;have z:=StAt.X W.o m;obtain⟨j,k,i⟩:=z.xat.fs;have d2:=z.words 2 d Z;have S1:=MS z;clear z m W H;go_wp2_with fail;have s2:=(S1.set {x0 with MW:=inn c.toList regs} f 1 (E U (inn c.toList regs)) Z).set {x0 with MW:=inn c.toList regs,op:=eK} f 0 (I eK) Z;refine(uJ d _).mono ?_;rintro e w2 ⟨rfl,n⟩;have A:=s2.X n;clear i j k;obtain⟨j,k,i⟩:=A.xat.fs;have d3:=A.words 3 s Z;have S3:=MS A;clear A s2 n S1 d2;go_wp2_with fail;have s4:=(S3.set {x0 with MW:=inn c.toList regs,op:=eK,a:=(bG d.toList).1} f 3 (E U (bG d.toList).1) Z).set {x0 with MW:=inn c.toList regs,op:=eK,a:=(bG d.toList).1,sign:=s} f 5 (I s) Z;refine(jN s mG _ _ Z (by simp)).mono ?_;rintro e w4 ⟨rfl,q⟩;have B:=s4.X q;clear i j k;obtain⟨j,k,i⟩:=B.xat.fs;have d4:=B.words 4 t Z;have S5:=MS B;clear B s4 q S3 d3;go_wp2_with fail;refine(uJ t _).mono ?_;rintro e w5 ⟨rfl,l⟩;have V:=S5.X l;clear i j k;obtain⟨j,k,i⟩:=V.xat.fs;have S6:=MS V;clear V l S5 d4;have S:StAt w (w5.setCell ⟨M (L w)+1,4,O⟩ (E U (bG t.toList).1)) b off [c,e,d,s,t] {x0 with MW:=inn c.toList regs,op:=eK,a:=(bG d.toList).1,sign:=s,b:=(bG t.toList).1}:=S6.set {x0 with MW:=inn c.toList regs,op:=eK,a:=(bG d.toList).1,sign:=s,b:=(bG t.toList).1} f 4 (E U (bG t.toList).1) Z;clear i j k;obtain⟨j,k,i⟩:=S6.xat.fs;have HE:MT (qR c d s t=({x0 with MW:=inn c.toList regs,op:=eK,a:=(bG d.toList).1,sign:=s,b:=(bG t.toList).1},decide (0<=inn c.toList regs)&&(bG d.toList).2&&(bG t.toList).2&&decide (0<=inn s.toList mG))):=Z;generalize(bG d.toList).2=y at*;generalize(bG t.toList).2=T at*;have cc:decide (0<=inn c.toList regs)=C\/decide (0<=inn c.toList regs)=G/\y=C\/decide (0<=inn c.toList regs)=G/\y=G/\T=C\/decide (0<=inn c.toList regs)=G/\y=G/\T=G:=by
   cases decide (0<=inn c.toList regs)<;>cases y<;>cases T<;>simp
  rcases cc with x|⟨x,rfl⟩|⟨x,rfl,rfl⟩|⟨x,rfl,rfl⟩
  all_goals
   go_wp2_with(first|(refine wI (.tmp 4) Z Z (M (L w)+1) _ (Y O 0 0) Z S.xat ?_)|(refine uG (.tmp 2) (.tmp 212) Z Z (M (L w)) _ _ (Y O 0 0) (Y O 0 0) Z Z Z (by exact S.res) ?_;intro w9 J r));rw[HE.o];refine jG (p:=2) (u:=3) (M (L w)) {x0 with MW:=inn c.toList regs,op:=eK,a:=(bG d.toList).1,sign:=s,b:=(bG t.toList).1} _ (by kernel_rfl) Z Z J Z ⟨by rw[x];rfl,S.done r⟩
def YU(b off n v:Nat)(c e d:ByteArray)(r:List ByteArray)(w:World)(A:NQ w b off (c::e::d::r))(j:(c::e::d::r).length=n)(f:b<M (L w))(ai:(c.toList==[98,97,114,114,105,101,114])=C)(aj:(c.toList==[102,101,110,99,101])=C)(i:(c.toList==[115,116,111,114,101]&&decide (4<=n))=C)(he:(e.toList==[61])=G)(h3:¬n=3)(h5:¬n=5)(y:(d.toList==[108,111,97,100]&&decide (5<=n))=C)(ha:((d.toList==[97,100,100]||d.toList==[115,119,97,112])&&decide (6<=n))=C):
  Calls prog 18 #[Y (some ⟨b,off,O⟩) n v] w fun e w'=>e=N (nQ (BG c d))/\Below (M (L w)) w w':=by
 obtain⟨ad,_,s⟩:=A.head;have K:=MS (StAt.start w b off (c::e::d::r) x0 A);obtain⟨x,_,_⟩:=s.head;have af:0<n:=by simp at j;omega
 have ag:(1:Int)<(n:Int):=by simp at j;omega
 have ah:(2:Int)<(n:Int):=by simp at j;omega
 have q:¬(n:Int)<3:=by simp at j;omega
 have ae:decide ((n:Int)<3)=C:=decide_eq_false q;have ab:((n:Int)==3)=C:=by simp;omega
 have ac:((n:Int) != 5)=G:=by rw[bne_iff_ne];omega
 have aa:(c.toList==[115,116,111,114,101])=C:=by
  have h4:decide (4<=n)=G:=by simp at j⊢;omega
  rw[h4]at i;simpa using i
 clear i j s A;have cl:(d.toList==[108,111,97,100])=G/\(d.toList==[97,100,100])=C/\(d.toList==[115,119,97,112])=C/\¬(4:Int)<(n:Int)\/(d.toList==[108,111,97,100])=C/\(d.toList==[97,100,100])=G/\¬(5:Int)<(n:Int)\/(d.toList==[108,111,97,100])=C/\(d.toList==[97,100,100])=C/\(d.toList==[115,119,97,112])=G/\¬(5:Int)<(n:Int)\/(d.toList==[108,111,97,100])=C/\(d.toList==[97,100,100])=C/\(d.toList==[115,119,97,112])=C:=by
  cases x1:d.toList==[108,111,97,100]
  ·cases x2:d.toList==[97,100,100]<;>cases x3:d.toList==[115,119,97,112]<;>simp[x2,x3]at ha⊢<;>omega
  ·have:d.toList=[108,111,97,100]:=by simpa using x1
   left;rw[x1]at y;rw[this];refine⟨Z,by decide,by decide,?_⟩;simp at y;omega
 clear y ha h3 h5
 rcases cl with⟨F,H,J,y4⟩|⟨F,H,J⟩|⟨F,H,J,y4⟩|⟨F,H,J⟩
 all_goals
  go_enter func18,ntmps18;go_wp2_with fail;refine(jN c regs _ _ Z (by simp)).mono ?_;rintro e w1 ⟨rfl,k⟩;have t:=StAt.X K.o k;obtain⟨W,f2,V⟩:=t.xat.fs;have d2:=t.words 2 d Z;have T:=MS t;clear t k K x;go_wp2_with fail;have s2:=(T.set {x0 with MW:=inn c.toList regs} f 1 (E U (inn c.toList regs)) Z).set {x0 with MW:=inn c.toList regs,op:=eK} f 0 (I eK) Z;refine(uJ d _).mono ?_;rintro e w2 ⟨rfl,l⟩;have B:=s2.X l;clear V W f2;obtain⟨W,f2,V⟩:=B.xat.fs;have S3:=MS B;clear B s2 l T d2;have S:StAt w (w2.setCell ⟨M (L w)+1,3,O⟩ (E U (bG d.toList).1)) b off (c::e::d::r) {x0 with MW:=inn c.toList regs,op:=eK,a:=(bG d.toList).1}:=S3.set {x0 with MW:=inn c.toList regs,op:=eK,a:=(bG d.toList).1} f 3 (E U (bG d.toList).1) Z;have HE:MT (BG c d=({x0 with MW:=inn c.toList regs,op:=eK,a:=(bG d.toList).1},C)):=Z;go_wp2_with(first|(refine wI (.tmp 4) Z Z (M (L w)+1) _ (Y O 0 0) Z S.xat ?_)|(refine uG (.tmp 2) (.tmp 194) Z Z (M (L w)) _ _ (Y O 0 0) (Y O 0 0) Z Z Z (by exact S.res) ?_;intro w9 z m));rw[HE.o];exact jG (p:=2) (u:=3) (M (L w)) {x0 with MW:=inn c.toList regs,op:=eK,a:=(bG d.toList).1} C (by kernel_rfl) Z Z z Z ⟨Z,S.done m⟩
def Np(b off n f:Nat)(c:ByteArray)(r:List ByteArray)(w:World)(i:NQ w b off (c::r))(j:(c::r).length=n)(F:n<=f)(a:b<M (L w)):
  Calls prog 18 #[Y (some ⟨b,off,O⟩) n f] w fun e S=>e=N (nQ (fD c r))/\Below (M (L w)) w S:=by
 have l:D r+1=n:=by simpa using j
 unfold fD
 cases hk0:c.toList==[98,97,114,114,105,101,114]
 rotate_left
 ·exact Ng b off n f c r w i j a hk0
 cases hk1:c.toList==[102,101,110,99,101]
 rotate_left
 ·exact Nh b off n f c r w i j F a hk0 hk1
 simp only[xW,if_false]
 cases hks:c.toList==[115,116,111,114,101]&&decide (3<=D r)
 rotate_left
 ·simp only[if_true];obtain⟨A,u⟩:(c.toList==[115,116,111,114,101])=G/\3<=D r:=by simpa using hks
  match r,i,j,l,u with
  |p::v::q,i,j,l,u=>exact Nj b off n f c p v q w i j F a (by omega) hk0 hk1 A
 simp only[xW,if_false];have k:(c.toList==[115,116,111,114,101]&&decide (4<=n))=C:=by
  rw[<- hks];congr 2;simp;omega
 match r,i,j,l with
 |[],i,j,l=>exact YT b off n f c [] w i j a hk0 hk1 (by simp at l;omega)
 |[x],i,j,l=>exact YT b off n f c [x] w i j a hk0 hk1 (by simp at l;omega)
 |e::d::q,i,j,l =>
  simp only[]
  cases he:e.toList==[61]
  ·simp only[xW,if_false];exact Ni b off n f c e d q w i j a hk0 hk1 k he
  simp only[if_true];unfold mS;have m:D q+3=n:=by simp at l;omega
  cases hl:d.toList==[108,111,97,100]&&decide (2<=D q)
  rotate_left
  ·simp only[if_true];obtain⟨A,u⟩:(d.toList==[108,111,97,100])=G/\2<=D q:=by simpa using hl
   match q,i,j,m,u with
   |p::t,i,j,m,u=>exact Nk b off n f c e d p t w i j F a (by omega) hk0 hk1 k he A
  simp only[xW,if_false];have o:(d.toList==[108,111,97,100]&&decide (5<=n))=C:=by
   rw[<- hl];congr 2;simp;omega
  cases ha:(d.toList==[97,100,100]||d.toList==[115,119,97,112])&&decide (3<=D q)
  rotate_left
  ·simp only[if_true];obtain⟨A,u⟩:(d.toList==[97,100,100]||d.toList==[115,119,97,112])=G/\3<=D q:=by simpa using ha
   have H:(d.toList==[108,111,97,100])=C:=by
    have:decide (5<=n)=G:=by simp;omega
    rw[this]at o;simpa using o
   match q,i,j,m,u with
   |p::v::t,i,j,m,u =>
    refine Nl b off n f c e d p v t w i j F a (by omega) hk0 hk1 k he H ?_
    cases hda:d.toList==[97,100,100]
    ·exact .inr ⟨Z,by simpa[hda]using A⟩
    ·exact .inl Z
  simp only[xW,if_false];have B:((d.toList==[97,100,100]||d.toList==[115,119,97,112])&&decide (6<=n))=C:=by
   rw[<- ha];congr 2;simp;omega
  match q,i,j,m with
  |[],i,j,m =>
   have J:n=3:=by simpa using m.symm
   subst J;exact Nm b off f c e d w i a hk0 hk1 he
  |[x],i,j,m=>exact YU b off n f c e d [x] w i j a hk0 hk1 k he (by simp at m;omega) (by simp at m;omega) o B
  |[s,t],i,j,m =>
   have K:n=5:=by simpa using m.symm
   subst K;exact Nn b off f c e d s t w i a hk0 hk1 (by simpa using k) he (by simpa using o)
  |x::y::z::t,i,j,m=>exact YU b off n f c e d (x::y::z::t) w i j a hk0 hk1 k he (by simp at m;omega) (by simp at m;omega) o B
