import Derived.Test.YtlikcongbhhpfaaGreatDoorM11
set_option linter.unusedVariables false
set_option linter.unusedSimpArgs false
set_option maxHeartbeats 12800000
namespace Go.Proofs.YtlikcongbhhpfaaGreatDoor
open Go Go.RowKit Go.Proofs.Tryz P Q
set_option maxRecDepth 1000000
variable {w:World}{g:Nat}
open List renaming length->B
open Go.Value renaming int->O,bool->H
open Go.IntKind renaming i64->I
open Bool renaming false->U,true->W
open Go.Ending renaming returned->T
open Go.Obj renaming cells->K
open List renaming range->xF,flatMap_cons->x1
open Go.RowKit.Below renaming refl->xR
open Nat renaming le_refl->xW
open Go.Value renaming agg->x0
namespace Q
structure Ev where
 k:Int
 j:Int
 block:Int
 z:Int
 value:Int
 q:Int
 scope:Int
 u:Int
 step:Bool
 h:Nat
def Ev.zero:Ev:=⟨0,0,0,0,0,0,0,0,U,0⟩
def OP(e:Ev):Bool:=e.k==0||e.k==1
def MQ(e:Ev):Bool:=e.k==2&&e.q==5
def ON(i:Int)(a:Ev)(k:Int)(b:Ev):Bool:=if a.j == -1 then b.j != -1 else a.j==b.j&&decide (i<k)
def cY(e:Ev):Bool:=e.q != 0&&e.k != 3&&e.k != 4
def OZ(a b:Ev):Bool :=
 if a.j == -1||b.j == -1 then U else if a.j==b.j then W else if !cY a||!cY b then U else a.block==b.block||a.scope==1&&b.scope==1
def PT(a b:Ev):Bool:=a.k==3&&b.k==4&&a.block==b.block&&a.u==b.u
end Q
def aD(e:Ev):Array Value:=#[O I e.k,O I e.j,O I e.block,O I e.z,O I e.value,O I e.q,O I e.scope,O I e.u,H e.step,O .u64 (e.h:Nat)]
theorem FC(e:Ev)(w:World):
  Calls prog 162 #[.agg (aD e)] w fun x b=>x=T (H (OP e))/\Below w.heap.size w b:=by
 cases h0:e.k==0
 ·cases h1:e.k==1
  all_goals
   have a:JP (OP e=(e.k==1)):=by unfold JP OP;rw[h0];rfl
   simp only[aD];go_enter func162,ntmps162;go_wp2;go_ret;rw[a.o,h1];exact⟨Z,(xR _ _).alloc (xW _) _⟩
 ·have a:JP (OP e=W):=by unfold JP OP;rw[h0];rfl
  simp only[aD];go_enter func162,ntmps162;go_wp2;go_ret;rw[a.o];exact⟨Z,(xR _ _).alloc (xW _) _⟩
theorem yY(e:Ev)(w:World):
  Calls prog 142 #[.agg (aD e)] w fun x b=>x=T (H (MQ e))/\Below w.heap.size w b:=by
 cases h0:e.k==2
 ·have a:JP (MQ e=U):=by unfold JP MQ;rw[h0];rfl
  simp only[aD];go_enter func142,ntmps142;go_wp2;go_ret;rw[a.o];exact⟨Z,(xR _ _).alloc (xW _) _⟩
 ·cases h1:e.q==5
  all_goals
   have a:JP (MQ e=(e.q==5)):=by unfold JP MQ;rw[h0];rfl
   simp only[aD];go_enter func142,ntmps142;go_wp2;go_ret;rw[a.o,h1];exact⟨Z,(xR _ _).alloc (xW _) _⟩
theorem Lf(i k:Int)(a b:Ev)(w:World):
  Calls prog 179 #[O I i,.agg (aD a),O I k,.agg (aD b)] w fun x d=>x=T (H (ON i a k b))/\Below w.heap.size w d:=by
 have HB:JP (∀o p,Below w.heap.size w ((w.alloc o).alloc p)):=fun o p=>((xR _ _).alloc (xW _) _).alloc (by simp) _
 cases h0:a.j == -1
 ·cases h1:a.j==b.j
  ·have c:JP (ON i a k b=U):=by unfold JP ON;rw[h0,h1];rfl
   simp only[aD];go_enter func179,ntmps179;go_wp2;go_ret;rw[c.o];exact⟨Z,HB.o _ _⟩
  ·by_cases h2:i<k
   ·have c:JP (ON i a k b=W):=by unfold JP ON;rw[h0,h1,decide_eq_true h2];rfl
    simp only[aD];go_enter func179,ntmps179;go_wp2;go_ret;rw[c.o];exact⟨Z,HB.o _ _⟩
   ·have c:JP (ON i a k b=U):=by unfold JP ON;rw[h0,h1,decide_eq_false h2];rfl
    simp only[aD];go_enter func179,ntmps179;go_wp2;go_ret;rw[c.o];exact⟨Z,HB.o _ _⟩
 ·cases h1:b.j != -1
  all_goals
   have c:JP (ON i a k b=(b.j != -1)):=by unfold JP ON;rw[h0];rfl
   simp only[aD];go_enter func179,ntmps179;go_wp2;go_ret;rw[c.o,h1];exact⟨Z,HB.o _ _⟩
theorem vU(e:Ev)(w:World):
  Calls prog 203 #[.agg (aD e)] w fun x b=>x=T (H (cY e))/\Below w.heap.size w b:=by
 have HB:JP (∀o,Below w.heap.size w (w.alloc o)):=fun o=>(xR _ _).alloc (xW _) _
 cases h0:e.q != 0<;>cases h1:e.k != 3<;>cases h2:e.k != 4
 all_goals
  have a:JP (cY e=(e.q != 0&&e.k != 3&&e.k != 4)):=Z;simp only[aD];go_enter func203,ntmps203;go_wp2;go_ret;rw[a.o,h0,h1,h2];exact⟨Z,HB.o _⟩
theorem Lg{a b:Ev}(h:(a.j == -1||b.j == -1)=W):OZ a b=U:=by unfold OZ;rw[h];rfl
theorem Lh{a b:Ev}(h:(a.j == -1||b.j == -1)=U)(c:(a.j==b.j)=W):OZ a b=W:=by unfold OZ;rw[h,c];rfl
theorem VE{a b:Ev}(h:(a.j == -1||b.j == -1)=U)(c:(a.j==b.j)=U)(d:(!Q.cY a||!Q.cY b)=W):OZ a b=U:=by unfold OZ;rw[h,c,d];rfl
theorem Li{a b:Ev}(h:(a.j == -1||b.j == -1)=U)(c:(a.j==b.j)=U)(d:(!Q.cY a||!Q.cY b)=U):OZ a b=(a.block==b.block||a.scope==1&&b.scope==1):=by unfold OZ;rw[h,c,d];rfl
theorem Lj(a b:Ev)(w:World):
  Calls prog 181 #[.agg (aD a),.agg (aD b)] w fun x d=>x=T (H (PT a b))/\Below w.heap.size w d:=by
 have HB:JP (∀o p,Below w.heap.size w ((w.alloc o).alloc p)):=fun o p=>((xR _ _).alloc (xW _) _).alloc (by simp) _
 cases h0:a.k==3<;>cases h1:b.k==4<;>cases h2:a.block==b.block<;>cases h3:a.u==b.u
 all_goals
  have c:JP (PT a b=(a.k==3&&b.k==4&&a.block==b.block&&a.u==b.u)):=Z;simp only[aD];go_enter func181,ntmps181;go_wp2;go_ret;rw[c.o,h0,h1,h2,h3];exact⟨Z,HB.o _ _⟩
def KO(w:World)(g:Nat)(e:Ev):Prop:=w.heap[g]?=some (K (aD e) 166 (0,0))
theorem KO.lt{e:Ev}(h:KO w g e):g<w.heap.size:=(Array.getElem?_eq_some_iff.1 h).1
theorem KO.X{a:World}{e:Ev}(h:KO w g e)(b:Below w.heap.size w a):KO a g e:=by unfold KO at*;rw[b.block g (Array.getElem?_eq_some_iff.1 h).1];exact h
theorem KO.alloc{e:Ev}(h:KO w g e)(o:Obj):KO (w.alloc o) g e:=h.X ((xR _ _).alloc (xW _) _)
theorem KO.bA(w:World)(e:Ev):KO (w.alloc (K (aD e) 166)) w.heap.size e:=heap_alloc_new w _
theorem KO.F{e:Ev}(h:KO w g e):w.cell? ⟨g,0,none⟩=some (O I e.k)/\w.cell? ⟨g,1,none⟩=some (O I e.j)/\w.cell? ⟨g,2,none⟩=some (O I e.block)/\w.cell? ⟨g,3,none⟩=some (O I e.z)/\w.cell? ⟨g,4,none⟩=some (O I e.value)/\w.cell? ⟨g,5,none⟩=some (O I e.q)/\w.cell? ⟨g,6,none⟩=some (O I e.scope)/\w.cell? ⟨g,7,none⟩=some (O I e.u)/\w.cell? ⟨g,8,none⟩=some (H e.step)/\w.cell? ⟨g,9,none⟩=some (O .u64 (e.h:Nat))/\(∀j,w.frozen? ⟨g,j,none⟩=U)/\g<w.heap.size:=by
 unfold KO at h;refine⟨?_,?_,?_,?_,?_,?_,?_,?_,?_,?_,?_,(Array.getElem?_eq_some_iff.1 h).1⟩
 all_goals first|(intro j;simp[World.frozen?,h])|simp[World.cell?,h,aD]
theorem Ll(a b:Ev)(w:World):
  Calls prog 180 #[.agg (aD a),.agg (aD b)] w fun x w'=>x=T (H (OZ a b))/\Below w.heap.size w w':=by
 have HB:JP (Below w.heap.size w ((w.alloc (K (aD a) 166)).alloc (K (aD b) 166))):=((xR _ _).alloc (xW _) _).alloc (by simp) _;have EA:JP (KO ((w.alloc (K (aD a) 166)).alloc (K (aD b) 166)) w.heap.size a):=(KO.bA w a).alloc _;have EB:JP (KO ((w.alloc (K (aD a) 166)).alloc (K (aD b) 166)) (w.heap.size+1) b):=by
  have:=KO.bA (w.alloc (K (aD a) 166)) b;simpa[JP]using this
 cases h0:a.j == -1||b.j == -1
 rotate_left
 ·have i:=JO (Lg h0)
  cases h1:a.j == -1
  ·have h2:(b.j == -1)=W:=by rw[h1]at h0;exact h0
   simp only[aD];go_enter func180,ntmps180;go_wp2;go_ret;rw[i.o];exact⟨Z,HB.o⟩
  ·simp only[aD];go_enter func180,ntmps180;go_wp2;go_ret;rw[i.o];exact⟨Z,HB.o⟩
 have h1:(a.j == -1)=U:=(Bool.or_eq_false_iff.1 h0).1;have h2:(b.j == -1)=U:=(Bool.or_eq_false_iff.1 h0).2
 cases h3:a.j==b.j
 rotate_left
 ·have i:=JO (Lh h0 h3);simp only[aD];go_enter func180,ntmps180;go_wp2;go_ret;rw[i.o];exact⟨Z,HB.o⟩
 cases ha:cY a
 ·have i:=JO (VE h0 h3 (by rw[ha];rfl));simp only[aD];go_enter func180,ntmps180;go_wp2_with(first|(go_at_call_of 203 (x0 #[O I a.k,O I a.j,O I a.block,O I a.z,O I a.value,O I a.q,O I a.scope,O I a.u,H a.step,O .u64 (a.h:Nat)]);refine(vU a _).mono ?_;rintro x w1 ⟨rfl,c⟩;rw[ha];have d:=JO (EA.o.X c);have e:=JO (EB.o.X c);have l:=JO (HB.o.trans (c.mono (by simp;omega)));obtain⟨p,r,s,t,v,y,A,C,D,E,G,J⟩:=d.o.F;obtain⟨L,M,N,S,V,Y,q6,q7,q8,q9,qf,ql⟩:=e.o.F));go_ret;rw[i.o];exact⟨Z,l.o⟩
 cases hb:cY b
 ·have i:=JO (VE h0 h3 (by rw[ha,hb];rfl));simp only[aD];go_enter func180,ntmps180;go_wp2_with(first|(go_at_call_of 203 (x0 #[O I a.k,O I a.j,O I a.block,O I a.z,O I a.value,O I a.q,O I a.scope,O I a.u,H a.step,O .u64 (a.h:Nat)]);refine(vU a _).mono ?_;rintro x w1 ⟨rfl,c⟩;rw[ha];have d:=JO (EA.o.X c);have e:=JO (EB.o.X c);have l:=JO (HB.o.trans (c.mono (by simp;omega)));obtain⟨p,r,s,t,v,y,A,C,D,E,G,J⟩:=d.o.F;obtain⟨L,M,N,S,V,Y,q6,q7,q8,q9,qf,ql⟩:=e.o.F)|(go_at_call_of 203 (x0 #[O I b.k,O I b.j,O I b.block,O I b.z,O I b.value,O I b.q,O I b.scope,O I b.u,H b.step,O .u64 (b.h:Nat)]);refine(vU b _).mono ?_;rintro x w2 ⟨rfl,f⟩;rw[hb];have m:=JO (d.o.X f);have n:=JO (e.o.X f);have B2:=JO (l.o.trans (f.mono (by have:=l.o.size;omega)));obtain⟨p,r,s,t,v,y,A,C,D,E,G,J⟩:=m.o.F;obtain⟨L,M,N,S,V,Y,q6,q7,q8,q9,qf,ql⟩:=n.o.F));go_ret;rw[i.o];exact⟨Z,B2.o⟩
 have i:=JO (Li h0 h3 (by rw[ha,hb];rfl))
 cases h4:a.block==b.block<;>cases h5:a.scope==1<;>cases h6:b.scope==1
 all_goals
  simp only[aD];go_enter func180,ntmps180;go_wp2_with(first|(go_at_call_of 203 (x0 #[O I a.k,O I a.j,O I a.block,O I a.z,O I a.value,O I a.q,O I a.scope,O I a.u,H a.step,O .u64 (a.h:Nat)]);refine(vU a _).mono ?_;rintro x w1 ⟨rfl,c⟩;rw[ha];have d:=JO (EA.o.X c);have e:=JO (EB.o.X c);have l:=JO (HB.o.trans (c.mono (by simp;omega)));obtain⟨p,r,s,t,v,y,A,C,D,E,G,J⟩:=d.o.F;obtain⟨L,M,N,S,V,Y,q6,q7,q8,q9,qf,ql⟩:=e.o.F)|(go_at_call_of 203 (x0 #[O I b.k,O I b.j,O I b.block,O I b.z,O I b.value,O I b.q,O I b.scope,O I b.u,H b.step,O .u64 (b.h:Nat)]);refine(vU b _).mono ?_;rintro x w2 ⟨rfl,f⟩;rw[hb];have m:=JO (d.o.X f);have n:=JO (e.o.X f);have B2:=JO (l.o.trans (f.mono (by have:=l.o.size;omega)));obtain⟨p,r,s,t,v,y,A,C,D,E,G,J⟩:=m.o.F;obtain⟨L,M,N,S,V,Y,q6,q7,q8,q9,qf,ql⟩:=n.o.F));go_ret;rw[i.o,h4,h5,h6];exact⟨Z,B2.o⟩
theorem Lm(e:Ev)(w:World):
  Calls prog 182 #[.agg (aD e)] w fun x b=>x=T (H (e.k==1&&P.rel e.q))/\Below w.heap.size w b:=by
 cases h0:e.k==1
 all_goals
  simp only[aD];go_enter func182,ntmps182;go_wp2_with(first|(go_at_call 81;refine(wR _ _).mono ?_;rintro x b ⟨rfl,a⟩;have a:=a.symm;subst a));go_ret;exact⟨Z,(xR _ _).alloc (xW _) _⟩
theorem Ln(e:Ev)(w:World):
  Calls prog 183 #[.agg (aD e)] w fun x b=>x=T (H (e.k==0&&acq e.q))/\Below w.heap.size w b:=by
 cases h0:e.k==0
 all_goals
  simp only[aD];go_enter func183,ntmps183;go_wp2_with(first|(go_at_call 82;refine(wN _ _).mono ?_;rintro x b ⟨rfl,a⟩;have a:=a.symm;subst a));go_ret;exact⟨Z,(xR _ _).alloc (xW _) _⟩
namespace Q
structure Ex where
 j:Int
 block:Int
 Y:Nat
 g:List Int
 made:List Nat
 A:Nat
 u:Nat
 E:List Ev
def Ex.start(t b:Int)(u:Nat):Ex:=⟨t,b,u,[0,0,0,0],[0,0,0,0],0,0,[]⟩
def Ex.value(m:Ex)(a:MR):Int:=if a.KI then(if a.n<0\/4<=a.n then 0 else m.g.getD a.n.toNat 0)else a.n
def Ex.Ea(m:Ex)(a:MR):Nat:=if a.KI then(if a.n<0\/4<=a.n then 0 else m.made.getD a.n.toNat 0)else 0
def Ex.aI(m:Ex)(i:Nat):Int:=(m.E.getD i Ev.zero).value
def Ex.aZ(m:Ex)(d v:Int)(s:Nat):Ex:=if d<0\/4<=d then m else{m with g:=m.g.set d.toNat v,made:=m.made.set d.toNat s}
def Ex.aM(m:Ex)(d:Int)(r:Nat):Ex:=m.aZ d (m.aI r) (one r)
def Ex.put(m:Ex)(e:Ev):Ex:={m with E:=m.E++[e]}
def Ex.V(m:Ex)(kind:Int)(st:JR):Ev :=
 ⟨kind,m.j,m.block,st.z,0,st.q,st.scope,if kind==3||kind==4 then m.u else 0,(kind==0||kind==1)&&(st.k==2||st.k==3),if kind==0||kind==1 then m.A else 0⟩
def Ex.aN(m:Ex)(st:JR):Ex:={m with Y:=m.Y/4,E:=m.E++[{m.V 0 st with value:=(m.Y%4:Nat)}]}
def Ex.write(m:Ex)(st:JR)(v:Int)(s:Nat):Ex:=m.put {m.V 1 st with value:=v,h:=m.A|||s}
def Ex.store(m:Ex)(st:JR):Ex:=m.write st (m.value st.a) (m.Ea st.a)
def Ex.cP(m:Ex)(st:JR):Ex:={m with E:=m.E++[m.V 3 st,m.V 4 st],u:=m.u+1}
def Ex.step(m:Ex)(st:JR):Ex :=
 (if st.k==2 then(m.aN st).write st ((m.value st.a+(m.aN st).aI (B m.E))%4) (m.Ea st.a|||one (B m.E:Nat))else(m.aN st).write st (m.value st.a) (m.Ea st.a)).aM st.dest (B m.E)
def Ex.aY(m:Ex)(st:JR):Int :=
 if st.k==7 then(m.value st.a+m.value st.b)%4 else if st.k==8 then(m.value st.a+4-m.value st.b)%4 else if st.k==9 then(if m.value st.a==m.value st.b then 1 else 0)else m.value st.a
def Ex.aW(m:Ex)(st:JR):Ex :=
 if st.k==0 then(m.aN st).aM st.dest (B m.E)
 else if st.k==1 then m.store st
 else if st.k==2||st.k==3 then m.step st
 else if st.k==4 then m.put (m.V 2 st)
 else if st.k==5 then m.cP st
 else if st.k==6||st.k==7||st.k==8||st.k==9 then m.aZ st.dest (m.aY st) (m.Ea st.a|||m.Ea st.b)
 else m
def Ex.lT(m:Ex)(st:JR):Ex:={m with A:=m.A|||m.Ea st.a}
def aG(p:Ex×Nat)(st:JR):Ex×Nat :=
 if p.2==0 then if st.k==10 then(p.1.lT st,if p.1.value st.a==0 then 1 else 0)else(p.1.aW st,0)
 else if st.k==10 then(p.1,p.2+1)else if st.k==11 then(p.1,p.2-1)else p
def nJ(m:Ex)(ss:List JR):Ex:=(ss.foldl aG (m,0)).1
structure Run where
 E:List Ev
 g:List Int
def Ex.run(m:Ex):Run:=⟨m.E,m.g⟩
def OM(ss:List JR):Nat:=ss.foldl (fun c st=>if eE st.k then c*4 else c) 1
def gQ(t:JV)(i:Nat)(code:Nat):Ex:=nJ (Ex.start i t.block code) t.S
def fQ(t:JV)(i:Nat)(k:Nat):List Run:=((xF k).filter fun c=>(gQ t i c).Y==0).map fun c=>(gQ t i c).run
def fT(t:JV)(i:Nat):List Run:=fQ t i (OM t.S)
def dP(i:Nat):List JV->List (List Run)
 |[]=>[]
 |t::ts=>fT t i::dP (i+1) ts
def KC(ts:List JV):List (List Run):=dP 0 ts
structure Wd where
 E:List Ev
 g:List Int
def OO(n:Nat)(e:Ev):Ev:={e with h:=OT e.h n}
def Wd.join(w:Wd)(r:Run):Wd:=⟨w.E++r.E.map (OO (B w.E)),w.g++r.g⟩
def NG(v:Int):Ev:=⟨1, -1,0,v,0,0,0,0,U,0⟩
def MX:List Ev:=[NG 0,NG 1,NG 2]
def gM:Wd->List (List Run)->List Int->Wd
 |w,rs::rest,d::ds=>gM (if h:d.toNat<B rs then w.join rs[d.toNat]else w) rest ds
 |w,_,_=>w
def KZ(rss:List (List Run))(ds:List Int):Wd:=gM ⟨MX,[]⟩ rss ds
def LX:List Int->List (List Int)
 |[]=>[[]]
 |b::bs=>(LX bs).flatMap fun r=>(xF b.toNat).map fun d:Nat=>(d:Int)::r
def ev(es:List Ev)(i:Nat):Ev:=es.getD i Ev.zero
def pW(es:List Ev)(i k:Nat):Bool:=(ev es k).k==1&&(ev es k).z==(ev es i).z&&(ev es k).value==(ev es i).value&&!((ev es i).step&&k==i+1)
def kR(es:List Ev)(i:Nat):List Int:=if(ev es i).k==0 then((xF (B es)).filter (pW es i)).map fun k:Nat=>(k:Int)else[-1]
def KL(es:List Ev):List (List Int):=(xF (B es)).map (kR es)
def NV(cs:List (List Int)):List Int:=cs.map fun c=>(B c:Int)
def gK(cs:List (List Int))(ds:List Int):List Int:=(xF (B cs)).map fun i=>(cs.getD i []).getD (ds.getD i 0).toNat (-1)
def aE(es:List Ev):List Int:=es.map fun e=>if e.k==1 then e.z else -1
def LC(es:List Ev):List Int:=es.map fun e=>if MQ e then 0 else -1
def iY(es:List Ev)(rs:List Int)(i k:Nat):Bool:=rs.getD i (-1) != -1&&rs.getD k (-1)==rs.getD i (-1)&&(ev es k).j != -1
def jT(es:List Ev)(rs:List Int)(i:Nat):Int:=1+(((xF i).filter (iY es rs i)).length:Nat)
def KY(es:List Ev)(rs:List Int):List Int:=(xF (B rs)).map (jT es rs)
def iZ(rs:List Int)(i:Nat):Int:=(((xF i).filter fun k=>rs.getD k (-1)==rs.getD i (-1)).length:Nat)
def lD(rs:List Int)(i:Nat)(p:List Int)(k:Nat):List Int:=if rs.getD k (-1)==rs.getD i (-1)&&decide (p.getD i 0<=p.getD k 0)then p.set k (p.getD k 0+1)else p
def fZ(rs ds:List Int)(p:List Int)(i:Nat):List Int:=if rs.getD i (-1) == -1 then p.set i (-1)else(xF i).foldl (lD rs i) (p.set i (iZ rs i-ds.getD i 0))
def LK(rs ds:List Int):List Int:=(xF (B rs)).foldl (fZ rs ds) (List.replicate (B rs) 0)
def lK(v:Int)(ps:List Int)(es:List Ev)(a:Int×Int)(i:Nat):Int×Int:=if(ev es i).k==1&&(ev es i).z==v&&decide (a.2<ps.getD i 0)then((ev es i).value,ps.getD i 0)else a
def jU(es:List Ev)(v:Int)(ps:List Int):Int:=((xF (B es)).foldl (lK v ps es) (0, -1)).1
def OH(w:Wd)(ps:List Int):List Int:=w.g++[jU w.E 0 ps,jU w.E 1 ps,jU w.E 2 ps]
def bP:List Int->List Int->Int
 |[],b=>- (B b:Int)
 |_::_,[]=>1
 |a::x,b::y=>if a != b then a-b else bP x y
def dZ:List (List Int)->List Int->List (List Int)
 |[],r=>[r]
 |x::xs,r=>if bP x r<0 then x::dZ xs r else if bP x r==0 then x::xs else r::x::xs
structure Ey where
 E:List Ev
 C:List Nat
 G:List Nat
 J:List Nat
 N:List Nat
 y:List Nat
 h:List Nat
 L:List Nat
 sends:List Nat
 M:List Nat
def cM(c:Bool)(r:List Nat)(i k:Nat):List Nat:=if c then cL r (i:Int) (k:Int)else r
def isRow(i:Nat)(a:Ev)(k:Nat)(b:Ev):Bool:=ON i a k b&&OP a&&OP b&&a.z==b.z
def QJ(i:Nat)(a:Ev)(k:Nat)(b:Ev):Bool:=i != k&&OZ a b
def PN(i:Nat)(a:Ev)(k:Nat)(b:Ev):Bool:=i != k&&OZ a b&&MQ a&&MQ b
def QC(i:Nat)(a:Ev)(k:Nat):Bool:=a.k==1&&a.step&&k+1==i
def QD(i:Nat)(a:Ev)(k:Nat)(b:Ev):Bool:=i==k&&(a.k==1&&P.rel a.q)||ON i a k b&&a.k==2&&b.k==1
def QE(i:Nat)(a:Ev)(k:Nat)(b:Ev):Bool:=i==k&&(a.k==0&&acq a.q)||ON i a k b&&a.k==0&&b.k==2
def Ey.gG(f:Ey)(i:Nat)(a:Ev)(k:Nat)(b:Ev):Ey :=
 {f with C:=cM (ON i a k b) f.C i k,y:=cM (isRow i a k b) f.y i k,G:=cM (QJ i a k b) f.G i k,N:=cM (PN i a k b) f.N i k,J:=cM (PT a b) f.J i k,h:=cM (OG a.h (k:Nat)) f.h i k,L:=cM (QC i a k) f.L i k,sends:=cM (QD i a k b) f.sends i k,M:=cM (QE i a k b) f.M i k}
def Ey.bA(es:List Ev):Ey:=⟨es,LH (B es),LH (B es),LH (B es),LH (B es),LH (B es),LH (B es),LH (B es),LH (B es),LH (B es)⟩
def nT(es:List Ev)(f:Ey)(i:Nat):Ey:=(xF (B es)).foldl (fun f k=>f.gG i (ev es i) k (ev es k)) f
def KK(es:List Ev):Ey:=(xF (B es)).foldl (nT es) (Ey.bA es)
def Ey.D(f:Ey)(rs:List Int):List Nat:=(xF (B rs)).foldl (fun(r:List Nat) (i:Nat)=>cL r (i:Int) (rs.getD i (-1))) (LH (B f.E))
def Ey.bR(f:Ey)(rd:List Nat):Bool:=bJ (cE f.h rd)
def Ey.bX(f:Ey)(rd:List Nat):List Nat:=fY rd f.G
def Ey.aJ(f:Ey)(rd:List Nat):List Nat:=cE (f.bX rd) (LR (iR (LR (f.bX rd) f.L)) (f.bX rd))
def oB(es:List Ev)(aJ:List Nat)(r:Nat)(h:List Nat)(w:Nat):List Nat:=if bB aJ r w&&(ev es r).q != 0&&(ev es w).q != 0 then cL h w r else h
def pF(es:List Ev)(aJ:List Nat)(h:List Nat)(r:Nat):List Nat:=(xF (B es)).foldl (oB es aJ r) h
def dQ(es:List Ev)(aJ:List Nat):List Nat:=(xF (B es)).foldl (pF es aJ) (LH (B es))
def Ey.bT(f:Ey)(aJ:List Nat):List Nat:=fY (LR (LR f.sends (dQ f.E aJ)) f.M) f.G
def PV(es:List Ev)(ps:List Int)(i k:Nat):Bool:=(ev es i).k==1&&(ev es k).k==1&&(ev es i).z==(ev es k).z&&decide (ps.getD i 0<ps.getD k 0)
def oD(es:List Ev)(ps:List Int)(i:Nat)(b:List Nat)(k:Nat):List Nat:=cM (PV es ps i k) b i k
def tF(es:List Ev)(ps:List Int)(b:List Nat)(i:Nat):List Nat:=(xF (B es)).foldl (oD es ps i) b
def LW(es:List Ev)(ps:List Int):List Nat:=(xF (B es)).foldl (tF es ps) (LH (B es))
def pT(f:List Nat)(ps:List Int)(i:Nat)(b:List Nat)(k:Nat):List Nat:=cM (bB f i k&&decide (ps.getD i 0<ps.getD k 0)) b i k
def oT(f:List Nat)(ps:List Int)(b:List Nat)(i:Nat):List Nat:=(xF (B ps)).foldl (pT f ps i) b
def Ey.Ec(f:Ey)(ps:List Int):List Nat:=(xF (B ps)).foldl (oT f.N ps) (LH (B f.E))
def pD(rd bh ms:List Nat):List Nat:=cE (cE (lB rd) bh) ms
def Ey.cF(f:Ey)(ms bh:List Nat):Bool:=aL (LR (LR f.L ms) bh)
def Ey.bI(f:Ey)(i:Nat)(a:Ev)(k:Nat)(b:Ev):Bool:=a.k==1&&i != k&&!bB f.G i k&&a.z==b.z&&OP b
def Ey.bL(f:Ey)(bf:List Nat)(i k:Nat):Bool:=f.bI i (ev f.E i) k (ev f.E k)&&!bB bf i k&&!bB bf k i
def Ey.bE(f:Ey)(bf:List Nat):Bool:=(xF (B f.E)).any fun i=>(xF (B f.E)).any fun k=>f.bL bf i k
def Ey.KU(f:Ey)(rd:List Nat):List Nat:=iR (cE (cE f.C (f.bT (f.aJ rd))) f.J)
def Ey.bW(f:Ey)(bf lk:List Nat):Bool:=bJ (fY (cE bf (LR (LR bf lk) bf)) f.N)
def LN(rd bh:List Nat):List Nat:=iR (pD rd bh (LR rd bh))
def Ey.cT(f:Ey)(rd bf:List Nat)(ps:List Int):Bool :=
 if aL bf then U else if f.cF (LR rd (LW f.E ps)) (LW f.E ps)then U else if aL (LR bf (LN rd (LW f.E ps)))then U else !f.bW bf (LN rd (LW f.E ps))
structure MA where
 y:List (List Int)
 clash:Bool
def jJ(w:Wd)(f:Ey)(rd bf:List Nat)(a:MA)(ds:List Int):MA :=
 if f.cT rd bf (LK (aE w.E) ds)then⟨dZ a.y (OH w (LK (aE w.E) ds)),if a.clash then W else f.bE bf⟩else a
def sM(w:Wd)(f:Ey)(rd bf:List Nat)(a:MA):MA:=(LX (KY w.E (aE w.E))).foldl (jJ w f rd bf) a
structure Cand where
 wd:Wd
 F:Ey
 D:List Nat
def vZ(w:Wd)(f:Ey):List Cand :=
 ((LX (NV (KL w.E))).map fun ds=>Cand.mk w f (f.D (gK (KL w.E) ds))).filter fun c=>!c.F.bR c.D
def PW(ts:List JV):List Cand:=(LX ((KC ts).map fun r=>(B r:Int))).flatMap fun ds=>vZ (KZ (KC ts) ds) (KK (KZ (KC ts) ds).E)
def lS(a:MA)(c:Cand):MA:=sM c.wd c.F c.D (c.F.KU c.D) a
def OB(ts:List JV):MA:=(PW ts).foldl lS ⟨[],U⟩
def xQ(ahead bZ:List Nat):List Nat:=iR (cE (cE bZ (LR bZ ahead)) (LR ahead (cE bZ (LR bZ ahead))))
def Ey.cause(f:Ey)(aJ bZ:List Nat):List Nat:=cE (cE (xQ f.C bZ) f.C) (LR (lB aJ) (xQ f.C bZ))
def PA(rd cause fences:List Nat):Bool:=if aL cause||aL (LR fences cause)then U else !cU (fY rd cause)
def Ey.LU(f:Ey)(rd bh ms:List Nat):Bool:=if f.cF ms bh then U else !bJ (cE f.y (fY (pD rd bh ms) f.G))
def PX(cause bh ms:List Nat):Bool:=!aL (LR (cE bh ms) cause)
def Ey.bZ(f:Ey)(rd:List Nat):List Nat:=cE (f.bT (f.aJ rd)) f.J
def Ey.LL(f:Ey)(rd:List Nat)(w:Wd)(ds:List Int):List Nat:=f.cause (f.aJ rd) (cE (f.bZ rd) (f.Ec (LK (LC w.E) ds)))
def Ey.bH(f:Ey)(rd:List Nat)(w:Wd):List (List Nat):=
 ((LX (KY w.E (LC w.E))).filter fun ds=>PA rd (f.LL rd w ds) (f.Ec (LK (LC w.E) ds))).map (f.LL rd w)
def jV(o:List Int)(f:Ey)(bh ms:List Nat)(a:MA)(cause:List Nat):MA:=if PX cause bh ms then⟨dZ a.y o,if a.clash then W else f.bE cause⟩else a
def jO(w:Wd)(f:Ey)(rd:List Nat)(cs:List (List Nat))(a:MA)(ds:List Int):MA :=
 if f.LU rd (LW f.E (LK (aE w.E) ds)) (LR rd (LW f.E (LK (aE w.E) ds)))then
  cs.foldl (jV (OH w (LK (aE w.E) ds)) f (LW f.E (LK (aE w.E) ds)) (LR rd (LW f.E (LK (aE w.E) ds)))) a
 else a
def pV(w:Wd)(f:Ey)(rd:List Nat)(cs:List (List Nat))(a:MA):MA:=(LX (KY w.E (aE w.E))).foldl (jO w f rd cs) a
def jD(a:MA)(c:Cand):MA:=if(c.F.bH c.D c.wd).isEmpty then a else pV c.wd c.F c.D (c.F.bH c.D c.wd) a
def MI(ts:List JV):MA:=(PW ts).foldl jD ⟨[],U⟩
def nS:List Int->List Int->List (List Int)
 |b::bs,d::ds=>((xF (b.toNat-(d.toNat+1))).map fun x:Nat=>((d.toNat+1+x:Nat):Int)::ds)++(nS bs ds).flatMap fun r=>(xF b.toNat).map fun x:Nat=>(x:Int)::r
 |_,_=>[]
def eN(n:Nat):List Int:=List.replicate n 0
def MV:List Int->List Int->Prop
 |[],[]=>True
 |b::bs,d::ds=>0<=d/\d<b/\MV bs ds
 |_,_=>False
theorem MV.len:∀{a c:List Int},MV a c->B c=B a
 |[],[],_=>Z
 |[],_::_,h=>h.elim
 |_::_,[],h=>h.elim
 |b::a,d::c,h=>by simp[MV.len h.2.2]
theorem MV.vA:∀{c a:List Int},MV c a->∀i (h:i<B a),0<=a[i]/\a[i]<c.getD i 0
 |[],[],_,i,hi=>by simp at hi
 |[],_::_,h,_,_=>h.elim
 |_::_,[],h,_,_=>h.elim
 |b::c,d::a,h,0,_=>⟨h.1,h.2.1⟩
 |b::c,d::a,h,i+1,hi=>by
  have:=MV.vA h.2.2 i (by simpa using hi);simpa using this
theorem VF:∀{a:List Int},fG a=W->MV a (eN (B a))
 |[],_=>trivial
 |b::a,h=>by
  simp[fG]at h;have c:fG a=W:=by simp[fG];exact h.2
  exact⟨Int.le_refl _,by omega,VF c⟩
theorem VG:∀{a c:List Int},MV a c->(inc a c).2=W->MV a (inc a c).1
 |[],[],_,h=>by simp[inc]at h
 |[],_::_,h,_=>h.elim
 |_::_,[],h,_=>h.elim
 |b::a,d::c,h,k=>by
  have f:=h.1;have i:=h.2.1;rw[inc]at k⊢
  split
  ·exact⟨by omega,by omega,h.2.2⟩
  ·rename_i e;rw[if_neg e]at k;exact⟨Int.le_refl _,by omega,VG h.2.2 k⟩
theorem VH(n:Nat)(h:0<n):xF n=0::(xF (n-1)).map fun x=>1+x:=by
 obtain⟨k,rfl⟩:∃k,n=k+1:=⟨n-1,by omega⟩;rw[List.range_succ_eq_map];simp[Nat.add_comm]
theorem VI(n:Nat)(h:0<n)(r:List Int):(xF n).map (fun x:Nat=>(x:Int)::r)=(0::r)::(xF (n-1)).map fun x:Nat=>((0+1+x:Nat):Int)::r:=by
 rw[VH n h];simp
theorem VJ:∀{a:List Int},fG a=W->LX a=eN (B a)::nS a (eN (B a))
 |[],_=>Z
 |b::a,h=>by
  simp[fG]at h;have c:fG a=W:=by simp[fG];exact h.2
  rw[LX,VJ c,x1,VI _ (by omega)];simp[eN,List.replicate_succ,nS]
theorem VK:∀{a:List Int},fG a=U->LX a=[]
 |[],h=>by simp[fG]at h
 |b::a,h=>by
  rw[LX];by_cases hb:1<=b
  ·have c:fG a=U:=by
    have:fG (b::a)=(decide (1<=b)&&fG a):=Z;rw[this,decide_eq_true hb]at h;simpa using h
   rw[VK c];rfl
  ·have:b.toNat=0:=by omega
   rw[this];simp
theorem VL:∀{a c:List Int},MV a c->(inc a c).2=W->nS a c=(inc a c).1::nS a (inc a c).1
 |[],[],_,h=>by simp[inc]at h
 |[],_::_,h,_=>h.elim
 |_::_,[],h,_=>h.elim
 |b::a,d::c,h,k=>by
  have l:=h.1;have m:=h.2.1;by_cases hlt:d+1<b
  ·have e:inc (b::a) (d::c)=((d+1)::c,W):=by rw[inc,if_pos hlt]
   rw[e];simp only[nS];rw[VH (b.toNat-(d.toNat+1)) (by omega)];have i:(d+1).toNat=d.toNat+1:=by omega
   simp only[List.map_cons,List.map_map,List.cons_append,i];have j:((d.toNat+1+0:Nat):Int)=d+1:=by omega
   rw[j]
   congr 2
   rw[show b.toNat-(d.toNat+1+1)=b.toNat-(d.toNat+1)-1 by omega];apply List.map_congr_left;intro x _;simp only[Function.comp];rw[show d.toNat+1+(1+x)=d.toNat+1+1+x by omega]
  ·have e:inc (b::a) (d::c)=(0::(inc a c).1,(inc a c).2):=by rw[inc,if_neg hlt]
   rw[e]at k⊢;have ih:=VL h.2.2 k;have f:b.toNat-(d.toNat+1)=0:=by omega
   simp only[nS,f,ih,x1];rw[VI b.toNat (by omega)];simp
theorem VM:∀{a c:List Int},MV a c->(inc a c).2=U->nS a c=[]
 |[],[],_,_=>Z
 |[],_::_,h,_=>h.elim
 |_::_,[],h,_=>h.elim
 |b::a,d::c,h,k=>by
  have f:=h.1;have i:=h.2.1;by_cases hlt:d+1<b
  ·rw[inc,if_pos hlt]at k;simp at k
  ·rw[inc,if_neg hlt]at k;have ih:=VM h.2.2 k;have e:b.toNat-(d.toNat+1)=0:=by omega
   simp[nS,e,ih]
end Q
end Go.Proofs.YtlikcongbhhpfaaGreatDoor
