import Derived.Test.YtlikcongbhhpfaaGreatDoorM45
set_option linter.unusedVariables false
set_option linter.unusedSimpArgs false
set_option maxHeartbeats 12800000
namespace Go.Proofs.YtlikcongbhhpfaaGreatDoor
open Go Go.RowKit Go.Proofs.Tryz P Q
set_option maxRecDepth 1000000
variable {l l':List JR}{c:Bool}{k:Int}{s:List UInt8}{t:JV}
open List renaming length->C
open Bool renaming false->Y
open List renaming mem_cons_of_mem->xF,map_cons->xR,length_cons->xW,length_nil->x0,length_map->x1,length_append->x3,cons_append->x4,getD_eq_getElem?_getD->x6
open Nat renaming le_refl->x2
open Bool renaming and_eq_true->x5
namespace P
structure Tr(l' l:List JR)(c:Bool)(k:Int):Prop where
 KP:LV l'=PU c 0 (LV l)
 chk:∀i o,chk i o l'=chk i o l
 inn:∀d,MC d l=none->MC d l'=none
 JU:Cnts l' l k
 lay:(∀s∈l,Lay s/\0<=s.label/\s.label<100)->∀s∈l',Lay s/\0<=s.label/\s.label<100
theorem Fw(l:List JR):Tr l l Y 0:=⟨Z,fun _ _=>Z,fun _ h=>h,⟨by omega,by omega,by omega,by omega,by omega,by omega,by omega⟩,fun h=>h⟩
theorem Tr.mI(h:Tr l' l c 0)(r:Int->Bool):Tr (dH r l') l c (2*P.JU LD l):=by
 have q:=Fv r l';have a:=h.JU;refine⟨by rw[Fm];exact h.KP,fun i o=>by rw[Fp];exact h.chk i o,fun d v=>Ft r l' d (h.inn d v),?_,fun u=>?_⟩
 ·have A:=a.LD;exact⟨by have:=q.nE;have:=a.nE;omega,by have:=q.iE;have:=a.iE;omega,by have:=q.LM;have:=a.LM;omega,by have:=q.MN;have:=a.MN;omega,by have:=q.MO;have:=a.MO;omega,by have:=q.LD;omega,by have:=q.ev;have:=a.ev;omega⟩
 ·have p:=h.lay u;clear u q a h
  induction l' with
  |nil=>intro s b;cases b
  |cons x l' ih =>
   intro s b;rw[dH,List.mem_append]at b
   rcases b with b|b
   ·obtain⟨j,m,n⟩:=p x (by simp);have f:OL x.k=true->Lay (bO x)/\0<=(bO x).label/\(bO x).label<100:=fun g=>⟨Un j g,by show(0:Int)<=0;omega,by show(0:Int)<100;omega⟩
    rcases zE r x with e|⟨g,e|e|e|e⟩<;>rw[e]at b<;>simp at b
    ·rw[b];exact⟨j,m,n⟩
    ·rw[b];exact⟨j.iF g,m,n⟩
    ·rcases b with rfl|rfl
     ·exact f g
     ·exact⟨j.iF g,m,n⟩
    ·rcases b with rfl|rfl
     ·exact⟨j.iF g,m,n⟩
     ·exact f g
    ·rcases b with rfl|rfl|rfl
     ·exact f g
     ·exact⟨j.iF g,m,n⟩
     ·exact f g
   ·exact ih (fun y z=>p y (xF _ z)) s b
theorem Fx{a b c:List JR}(h:Cnts a b 0)(g:Cnts b c 0):Cnts a c 0 :=
 ⟨by have:=h.nE;have:=g.nE;omega,by have:=h.iE;have:=g.iE;omega,by have:=h.LM;have:=g.LM;omega,by have:=h.MN;have:=g.MN;omega,by have:=h.MO;have:=g.MO;omega,by have:=h.LD;have:=g.LD;omega,by have:=h.ev;have:=g.ev;omega⟩
theorem Fy(a:List JV)(b:Int)(l:List JR):Tr (cC none (mR a b (eC a l))) l (gT a b) 0:=by
 have f:Tr (eC a l) l Y 0:=⟨Fl a l,Fo a l,Fs a l,Fu a l,fun h s e=>by
  obtain⟨x,q,rfl⟩:=List.mem_map.1 e;obtain⟨m,n,p⟩:=h x q;rw[(qQ a x).2.1];exact⟨Uo m,n,p⟩⟩
 have e:Tr (mR a b (eC a l)) l (gT a b) 0:=by
  unfold mR
  cases gT a b
  ·exact f
  ·refine⟨?_,fun i o=>by rw[if_pos rfl,AA];exact f.chk i o,fun d g=>by rw[if_pos rfl];exact yJ _ _ _ (f.inn d g),by rw[if_pos rfl];exact Fx (AO _ _) f.JU,fun h s e=>?_⟩
   ·rw[if_pos rfl];have:=AJ (eC a l) 0;rw[f.KP]at this;exact this
   ·rw[if_pos rfl]at e;exact f.lay h s (XB _ _ s e)
 exact⟨by rw[EV];exact e.KP,fun i o=>by rw[DR];exact e.chk i o,fun d g=>GX _ _ _ (e.inn d g),Fx (JJ _ _) e.JU,fun h s j=>e.lay h s (XC _ _ s j)⟩
theorem Us(b:List JV)(d mI:Bool):∃(g:Int->Bool) (f:JV->JV),QH b d mI=b.map f/\∀t,(f t).block=t.block/\Tr (f t).S t.S (g t.block) (2*JU LD t.S):=by
 have e:∀{l' l:List JR} {c:Bool},Tr l' l c 0->Tr l' l c (2*JU LD l):=fun{l' l c} h=>by
  have:=GL LD l;have a:=h.JU;exact⟨h.KP,h.chk,h.inn,⟨by have:=a.nE;omega,a.iE,a.LM,a.MN,a.MO,a.LD,by have:=a.ev;omega⟩,h.lay⟩
 unfold QH
 cases mI<;>cases d
 ·exact⟨fun _=>Y,id,by simp,fun t=>⟨Z,e (Fw _)⟩⟩
 ·exact⟨gT b,kB b,Z,fun t=>⟨Z,e (Fy b t.block t.S)⟩⟩
 ·exact⟨fun _=>Y,lR b,Z,fun t=>⟨Z,(Fw _).mI _⟩⟩
 ·refine⟨gT b,fun t=>lR (jR b) (kB b t),?_,fun t=>⟨Z,(Fy b t.block t.S).mI _⟩⟩;show lZ (jR b)=_;unfold lZ
  conv=>lhs;arg 2;unfold jR
  rw[List.map_map];rfl
def iU:List Key->Int
 |[]=>0
 |k::r=>(if k.k==5 then 1 else 0)+iU r
theorem IV:∀l:List JR,LF l=iU (LV l)
 |[]=>Z
 |s::l=>by
  rw[LF,IV l];by_cases h:s.k=4
  ·have e:LV (s::l)=LV l:=by rw[LV,if_pos (by simpa using h)]
   rw[e,h];simp
  ·have e:LV (s::l)=KP s::LV l:=by rw[LV,if_neg (by simpa using h)]
   rw[e];rfl
theorem Fz:∀l,0<=iU l
 |[]=>by simp[iU]
 |k::l=>by have:=Fz l;rw[iU];split<;>omega
theorem JK:∀(l:List Key) (n:Nat),iU (iX n l)=if n<=1/\2<=n+iU l then iU l-1 else iU l
 |[],n=>by
  rw[iX,if_neg (by simp only[iU];omega)]
 |k::l,n=>by
  have d:=Fz l;have a:=JK l (n+1);have b:=JK l n;rw[iX];by_cases h5:(k.k==5)=true
  ·rw[if_pos h5];have e:iU (k::l)=1+iU l:=by rw[iU,if_pos h5]
   rw[e];by_cases hn:n=1
   ·subst hn;rw[if_pos (by decide),a,if_neg (by omega),if_pos (by omega)];omega
   ·rw[if_neg (by simpa using hn),iU,if_pos h5,a]
    split<;>split<;>omega
  ·rw[if_neg h5];have e:∀q,iU (k::q)=iU q:=fun q=>by rw[iU,if_neg h5];omega
   rw[e,e,b]
theorem Ut(h:Tr l' l c k):LF l'=if c&&decide (2<=LF l)then LF l-1 else LF l:=by
 rw[IV,h.KP,IV];cases c
 ·rfl
 ·show iU (iX 0 (LV l))=_;rw[JK];simp
theorem F7(f:JV->JV)(e:Int->Bool)(d:∀t,(f t).block=t.block/\LF (f t).S=if e t.block&&decide (2<=LF t.S)then LF t.S-1 else LF t.S)(b:Int):∀a:List JV,NQ b (a.map f)=if e b&&decide (2<=NQ b a)then NQ b a-1 else NQ b a
 |[]=>by simp[NQ]
 |t::a=>by
  by_cases c:t.block=b
  ·have g:NQ b (t::a)=LF t.S:=by rw[NQ,if_pos (by simpa using c)]
   have i:NQ b ((t::a).map f)=LF (f t).S:=by rw[xR,NQ,if_pos (by rw[(d t).1];simpa using c)]
   rw[g,i,(d t).2,c]
  ·have g:NQ b (t::a)=NQ b a:=by rw[NQ,if_neg (by simpa using c)]
   have i:NQ b ((t::a).map f)=NQ b (a.map f):=by rw[xR,NQ,if_neg (by rw[(d t).1];simpa using c)]
   rw[g,i];exact F7 f e d b a
theorem uT(p:JR->Bool)(f:JV->JV)(h:∀t,JU p (f t).S<=JU p t.S):∀a:List JV,KQ p (a.map f)<=KQ p a
 |[]=>by simp[KQ]
 |t::a=>by have:=h t;have:=uT p f h a;simp only[xR,KQ];omega
theorem F8:∀l:List JR,JU LD l<=JU LM l+JU MN l
 |[]=>by simp[JU]
 |s::l=>by
  have:=F8 l;have e:LD s=(LM s||MN s):=by
   unfold LD LM MN OL eE oS
   cases s.k==0<;>cases s.k==1<;>cases s.k==2<;>cases s.k==3<;>rfl
  simp only[JU];rw[e]
  cases LM s<;>cases MN s<;>simp<;>omega
theorem Ga:∀l:List JR,NP l+JU LD l<=JU nE l+LF l
 |[]=>by simp[JU,NP,LF]
 |s::l=>by
  have:=Ga l;simp only[JU,NP,LF];by_cases h4:s.k=4
  ·have b:LD s=Y:=by unfold LD;rw[h4];rfl
   have a:nE s=true:=by unfold nE;rw[h4];rfl
   rw[b,a,h4];simp;omega
  by_cases h5:s.k=5
  ·have b:LD s=Y:=by unfold LD;rw[h5];rfl
   have a:nE s=true:=by unfold nE;rw[h5];rfl
   rw[b,a,h5];simp;omega
  ·have d:(s.k==4)=Y:=by simpa using h4
   have e:(s.k==5)=Y:=by simpa using h5
   rw[d,e]
   cases ha:LD s
   ·have:=pP (nE s);simp;omega
   ·have:=(vS ha).2.2.2;have a:nE s=true:=by unfold nE;simpa using this
    rw[a];simp;omega
theorem dV{b:List JV}(h:∀u∈b,ThOk u):((write b).length:Int)<=10*C b+36*KQ nE b+5*KQ iE b/\write b=fS (oR b)/\∀x∈oR b,(10:UInt8)∉x:=by
 have y:∀d:List JR,(∀s∈d,Lay s/\0<=s.label/\s.label<100)->((iT d).length:Int)<=36*JU nE d+5*JU iE d/\(∀q,iT d++fS q=fS (d.map dS++q))/\∀x∈d.map dS,(10:UInt8)∉x:=by
  intro d
  induction d with
  |nil=>intro _;exact⟨by simp[iT,JU],fun q=>Z,fun x a=>by cases a⟩
  |cons s d ih =>
   intro n;obtain⟨A,j,m⟩:=ih fun x a=>n x (xF _ a);obtain⟨r,f,v⟩:=n s (by simp);obtain⟨B,p⟩:=Ty r f v;refine⟨?_,fun q=>?_,fun x a=>?_⟩
   ·simp only[iT,JU,x3,xW,x0];by_cases h11:s.k=11
    ·rw[if_pos h11]at p;have g:nE s=Y:=by unfold nE;rw[h11];rfl
     have i:iE s=true:=by unfold iE;rw[h11];rfl
     rw[g,i];simp;omega
    ·rw[if_neg h11]at p;have g:nE s=true:=by unfold nE;simpa using h11
     have i:iE s=Y:=by unfold iE;simpa using h11
     rw[g,i];simp;omega
   ·rw[iT,xR,x4,fS,<- j q];simp
   ·rw[xR]at a
    rcases List.mem_cons.1 a with rfl|a
    ·exact B
    ·exact m x a
 induction b with
 |nil=>exact⟨by simp[write,KQ],Z,fun x a=>by cases a⟩
 |cons u b ih =>
  obtain⟨A,j,m⟩:=ih fun x a=>h x (xF _ a);have o:=h u (by simp);obtain⟨F,D,E⟩:=y u.S o.lay;have z:(eQ u.block).length=9/\(10:UInt8)∉eQ u.block:=by
   rcases o.blk with e|e<;>rw[e]<;>exact⟨by decide +kernel,by decide +kernel⟩
  refine⟨?_,?_,fun x a=>?_⟩
  ·have e:sZ u=eQ u.block++[10]++iT u.S:=Z;rw[write,e];simp only[x3,xW,x0,KQ];omega
  ·have e:sZ u=eQ u.block++10::iT u.S:=by unfold sZ eQ;simp
   have f:oR (u::b)=eQ u.block::(u.S.map dS++oR b):=Z;rw[write,e,j,f,fS,List.append_assoc,x4,D]
  ·have f:oR (u::b)=eQ u.block::(u.S.map dS++oR b):=Z;rw[f]at a
   rcases List.mem_cons.1 a with rfl|a
   ·exact z.2
   ·rcases List.mem_append.1 a with a|a
    ·exact E x a
    ·exact m x a
theorem RE(h:(KM s).2.1=0):∃j,gH tZ ((KD 10 s).dropLast.foldl kI []) (KM s).1/\kL 0 (KM s).1=some j/\(∀t∈(KM s).1,0<t.i/\MC 0 t.S=none)/\dN (KM s).1 (KM s).1=0:=by
 obtain⟨a,_,g,_,v,f,u,e,m,_⟩:=Dh h;obtain⟨q,r,_,_⟩:=Dv g f;obtain⟨x,d,o,p⟩:=D2 _ q Z (by rw[r];exact g) Z v;have d:a.H=x:=d;have n:=(Dl _ Z ⟨Int.le_refl _,fun t b=>by simp[Rd.zero]at b,fun t b=>by simp[Rd.zero]at b⟩ g).1;rw[u];show ∃j,gH tZ _ a.H/\kL 0 a.H=some j/\(∀t∈a.H,_)/\dN a.H a.H=0;refine⟨a.I,by rw[d];exact o,by rw[d];exact p,fun t b=>⟨n.thr t b,?_⟩,m⟩;have:=Dm n.st e t b;rw[Option.isNone_iff_eq_none]at this;exact this
theorem Gb{g:List Row}(h:tZ g t):t.block=0\/t.block=1:=by
 obtain⟨x,a,c,_,_,b,e,_⟩:=h;rw[e];simp only[cH,x5,decide_eq_true_eq]at b⊢;omega
theorem CE:∀(l:List JR) {i j:Int} {o a:List Int},chk i o l=some (j,a)->(C a:Int)=C o+JU iB l-JU iE l
 |[],i,j,o,a,h=>by simp only[chk,Option.some.injEq,Prod.mk.injEq]at h;rw[h.2];simp[JU]
 |s::l,i,j,o,a,h=>by
  rw[show s::l=[s]++l from rfl,qD]at h
  cases h1:chk i o [s]with
  |none=>rw[h1]at h;simp at h
  |some p =>
   obtain⟨e,f⟩:=p;rw[h1]at h;have h:chk e f l=some (j,a):=h;have g:=Ez h1;have m:=CE l h;have b:(if iB s then(1:Int)else 0)=if s.k=10 then 1 else 0:=by unfold iB;by_cases c:s.k=10<;>simp[c]
   have d:(if iE s then(1:Int)else 0)=if s.k=11 then 1 else 0:=by unfold iE;by_cases c:s.k=11<;>simp[c]
   simp only[JU,b,d];omega
theorem Gc:∀(a:List JR) {s:JR} {b:List JR} {d:Int},MC d (a++s::b)=none->s.k=5->d+JU iB a-JU iE a<=0
 |[],s,b,d,h,h5=>by
  have:=(zM (l:=b) (s:=s) h).1 h5;simp only[JU];omega
 |x::a,s,b,d,h,h5=>by
  have g:=Gc a ((zM (s:=x) (l:=a++s::b) h).2) h5;have e:(if iB x then(1:Int)else 0)=if x.k=10 then 1 else 0:=by unfold iB;by_cases c:x.k=10<;>simp[c]
  have f:(if iE x then(1:Int)else 0)=if x.k=11 then 1 else 0:=by unfold iE;by_cases c:x.k=11<;>simp[c]
  simp only[JU,e,f];omega
theorem Gd{i j:Int}(n:∀s∈t.S,Lay s)(m:chk i [] t.S=some (j,[]))(o:MC 0 t.S=none):WF t:=by
 have d:∀a b,t.S=a++b->JU iE a<=JU iB a:=fun a b e=>by
  rw[e,qD]at m
  cases g:chk i [] a with
  |none=>rw[g]at m;simp at m
  |some p =>
   obtain⟨r,u⟩:=p;have:=CE a g;simp at this;omega
 refine⟨d,fun a s b e q=>?_,fun s f _=>(n s f).v,fun s f=>⟨(n s f).a,(n s f).b⟩⟩;have g:=d a (s::b) e;rw[e]at o;have:=Gc a o q;omega
theorem AK:∀{e:List JV} {i j:Int},kL i e=some j->∀t∈e,∃a b,chk a [] t.S=some (b,[])
 |[],_,_,_,t,d=>by cases d
 |u::e,i,j,h,t,d=>by
  simp only[kL]at h
  cases h1:chk i [] u.S with
  |none=>rw[h1]at h;simp at h
  |some p =>
   obtain⟨a,o⟩:=p;rw[h1]at h
   cases o with
   |cons x o=>simp at h
   |nil =>
    rcases List.mem_cons.1 d with rfl|d
    ·exact⟨_,_,h1⟩
    ·exact AK h t d
theorem Ge:∀{x y:List JR},PB x y->NP y=NP x
 |[],[],_=>Z
 |a::x,b::y,h=>by
  have d:b.k=a.k:=by rw[h.1.eq]
  rw[NP,NP,d,Ge h.2]
 |[],_::_,h=>by simp[PB]at h
 |_::_,[],h=>by simp[PB]at h
theorem vY(p:JR->Bool)(d:∀(s:JR) (l b:Int),p {s with i:=l,label:=b}=p s):∀{x y:List JV},gH ThL x y->KQ p y=KQ p x/\evT y=evT x
 |[],[],_=>⟨Z,Z⟩
 |a::x,b::y,h=>by
  obtain⟨e,f⟩:=vY p d h.2;exact⟨by rw[KQ,KQ,e,Dn p d h.1.sts],by rw[evT,evT,f,Ge h.1.sts]⟩
 |[],_::_,h=>h.elim
 |_::_,[],h=>h.elim
theorem Gf(b:Int):∀{x y:List JV},gH ThL x y->NQ b y=NQ b x
 |[],[],_=>Z
 |t::x,u::y,h=>by rw[NQ,NQ,h.1.block,GI h.1.sts,Gf b h.2]
 |[],_::_,h=>h.elim
 |_::_,[],h=>h.elim
theorem Gg{all:List JV}:∀{a:List JV},(∀t∈a,LF t.S=NQ t.block all/\LF t.S<=2)->dN all a=0
 |[],_=>Z
 |t::a,h=>by
  obtain⟨b,d⟩:=h t (by simp);rw[dN,if_neg (by rw[b]at d⊢;simp;omega)];exact Gg fun u e=>h u (xF _ e)
theorem Gh{x y:List JV}(h:gH ThL x y):∀k,k<C x->ThL (x.getD k JZ) (y.getD k JZ):=DB JZ JZ h
structure Both(ts us:List JV)(di:Int->Bool):Prop where
 like:Like ts us di
 wf:∀k,k<C ts->WF (ts.getD k JZ)
 uf:∀k,k<C us->WF (us.getD k JZ)
 vt:PZ ts
 vu:PZ us
 nt:∀d∈LX (MP (KC ts)),(KZ (KC ts) d).E.length<=64
 nu:∀d∈LX (MP (KC us)),(KZ (KC us) d).E.length<=64
 bal:∀k,k<C ts->JU iB (ts.getD k JZ).S=JU iE (ts.getD k JZ).S
theorem Gi{p:JR->Bool}{k:Int}:∀{a:List JV},(∀t∈a,JU p t.S<=k)->KQ p a<=k*C a
 |[],_=>by simp[KQ]
 |t::a,h=>by
  have d:=h t (by simp);have e:=Gi fun u b=>h u (xF _ b);simp only[KQ,xW,Int.natCast_add,Int.mul_add];omega
theorem Gj(f:JV->JV)(e:∀t,JU nE (f t).S<=JU nE t.S+2*JU LD t.S):∀d:List JV,(∀t∈d,JU nE t.S<=8)->KQ nE (d.map f)<=8*C d+2*KQ LD d
 |[],_=>by simp[KQ]
 |t::d,h=>by
  have a:=e t;have b:=h t (by simp);have c:=Gj f e d fun u g=>h u (xF _ g);simp only[xR,KQ,xW];omega
theorem Gk(f:JV->JV)(i:∀t,NP (f t).S<=NP t.S+2*JU LD t.S):∀e:List JV,(∀t∈e,JU nE t.S<=8)->(∀t∈e,LF t.S<=2)->evT (e.map f)<=10*C e+KQ LD e
 |[],_,_=>by simp[KQ,evT]
 |t::e,h,h2=>by
  have a:=i t;have b:=h t (by simp);have j:=h2 t (by simp);have d:=Ga t.S;have c:=Gk f i e (fun u g=>h u (xF _ g)) fun u g=>h2 u (xF _ g);simp only[xR,KQ,evT,xW];omega
theorem Gl:∀a:List JV,KQ LD a<=KQ LM a+KQ MN a
 |[]=>by simp[KQ]
 |t::a=>by have:=F8 t.S;have:=Gl a;simp only[KQ];omega
theorem Gm(h:(KM s).2.1=0)(K mI:Bool):(NT (write (QH (KM s).1 K mI))).2.1=0/\∃L,Both (KM s).1 (NT (write (QH (KM s).1 K mI))).1 L:=by
 obtain⟨j,hG,hC,hI,hU⟩:=RE h;have x:=QK h;have W:=VD s;rw[<- (EU h).1]at W;obtain⟨L,f,hw,y⟩:=Us (KM s).1 K mI;rw[hw];generalize(KM s).1=m at*;have hb:∀t∈m,(t.block=0\/t.block=1)/\∀s∈t.S,Lay s:=fun t n=>by
  obtain⟨g,_,hg⟩:=QU hG t n;exact⟨Gb hg,Tx hg⟩
 have T:∀t∈m,∀s∈t.S,Lay s/\0<=s.label/\s.label<100:=fun t n s I=>by
  have:=(W t n).2.2 s I;exact⟨(hb t n).2 s I,this.l0,this.l1⟩
 have hA:∀t∈m,JU LD t.S<=8/\JU iE t.S<=JU iB t.S/\JU iB t.S<=8:=fun t n=>by
  have h1:=x.le t n;have a1:JU LD t.S<=JU nE t.S:=by
   refine tL (fun s I=>?_) _;have:=(vS (k:=s.k) I).2.2.2;unfold nE;simpa using this
  have a2:JU iB t.S<=JU nE t.S:=by
   refine tL (fun s I=>?_) _;unfold iB at I;have:s.k=10:=by simpa using I
   unfold nE;rw[this];rfl
  obtain⟨a,b,M⟩:=AK hC t n;have:=(Gd (hb t n).2 M (hI t n).2).ends t.S [] (by simp);omega
 have af:KQ LD m<=7:=by
  have h1:=x.rd;have h2:=x.wr;have:=Gl m;omega
 have B:∀u∈m.map f,ThOk u:=fun u X=>by
  obtain⟨t,n,rfl⟩:=List.mem_map.1 X;obtain⟨e1,e2⟩:=y t;refine⟨by rw[e1];exact(hb t n).1,e2.lay (T t n),e2.inn 0 (hI t n).2,?_⟩;have:=e2.JU.nE;have:=x.le t n;have:=(hA t n).1;omega
 have N:kL 0 (m.map f)=some j:=by
  rw[Fq f (fun t i=>(y t).2.chk i []) m 0];exact hC
 have h4:=x.few;obtain⟨r1,D,q1,q2,E,q4⟩:=E5 (m.map f) (r:=Rd.KJ) Z (Int.le_refl _) Z (by simp[Rd.KJ];omega) B N;have q2:r1.H=D:=q2;have J:C D=C m:=by rw[wX E];simp
 obtain⟨w1,w2,w3⟩:=dV B;have ab:D≠[]:=fun e=>by rw[e]at J;exact x.ne (List.eq_nil_of_length_eq_zero J.symm)
 have ae:(write (m.map f)).length<=2000:=by
  have s1:=Gj f (fun t=>(y t).2.JU.nE) m x.le;have s2:KQ iE (m.map f)<=8*C m:=by
   have a:=uT iE f (fun t=>(y t).2.JU.iE) m;have b:=Gi (p:=iE) (k:=8) (a:=m) (fun t n=>by have:=hA t n;omega);omega
  rw[x1]at w1;omega
 have U:bG (write (m.map f))=(D,0):=by
  unfold bG;rw[w2,FH w3,List.dropLast_concat,q1];simp only[if_true];rw[if_neg (by rw[List.getLast?_concat,q4,q2];simp[ab]),q2]
 have ad:dN D D=0:=Gg fun v hv=>by
  obtain⟨u,X,hL⟩:=QU E v hv;obtain⟨t,n,rfl⟩:=List.mem_map.1 X;obtain⟨e1,e2⟩:=(QO m m (fun u X=>(hI u X).1) hU) t n;have e3:∀t,(f t).block=t.block/\LF (f t).S=if L t.block&&decide (2<=LF t.S)then LF t.S-1 else LF t.S:=fun t=>⟨(y t).1,Ut (y t).2⟩
  rw[GI hL.sts,hL.block,Gf _ E,F7 f L e3,(e3 t).1,(e3 t).2,<- e1];refine⟨Z,?_⟩
  split<;>omega
 have ac:hZ D=Y:=by
  have t1:=vY LM (fun _ _ _=>Z) E;have t2:=vY MN (fun _ _ _=>Z) E;have t3:=vY MO (fun _ _ _=>Z) E;have a1:=uT LM f (fun t=>(y t).2.JU.LM) m;have a2:=uT MN f (fun t=>(y t).2.JU.MN) m;have a3:=uT MO f (fun t=>(y t).2.JU.MO) m;have b1:=x.rd;have b2:=x.wr;have b3:=x.sc;unfold hZ;simp only[Bool.or_eq_false_iff,decide_eq_false_iff_not];omega
 have O:¬50<evT D:=by
  rw[(vY LM (fun _ _ _=>rfl) E).2];have s1:=Gk f (fun t=>(y t).2.JU.ev) m x.le x.br;omega
 have A:NT (write (m.map f))=(D,0,0):=by
  unfold NT;rw[if_neg (by omega),U];simp only[ad,ac,bne_self_eq_false,Bool.false_eq_true,if_false,Bool.false_or,decide_eq_true_eq,if_neg O]
 have V:(NT (write (m.map f))).2.1=0:=by rw[A]
 refine⟨V,L,?_⟩;obtain⟨q,_,_⟩:=Fh V;rw[A]at q⊢;have q:AsmIs D:=q;have F:∀k,k<C m->(m.map f).getD k JZ=f (m.getD k JZ):=fun k o=>by
  rw[x6,x6,List.getElem?_map,List.getElem?_eq_getElem o];rfl
 have G:∀k,k<C m->m.getD k JZ∈m:=fun k o=>QA m k JZ o
 have aa:∀t∈m,WF t:=fun t n=>by
  obtain⟨a,b,M⟩:=AK hC t n;exact Gd (hb t n).2 M (hI t n).2
 refine⟨⟨J,fun k o=>?_,fun k o=>?_⟩,fun k o=>aa _ (G k o),fun k o=>q.wf _ (QA D k JZ o),fun t n=>(aa t n).z,fun t n=>(q.wf t n).z,fun d hd=>((RK x).wd d (PY hd)).le,fun d hd=>(ER q (PY hd)).le,fun k o=>?_⟩
 ·have:=Gh E k (by rw[x1];exact o);rw[F k o]at this;rw[this.block,(y _).1]
 ·have:=Gh E k (by rw[x1];exact o);rw[F k o]at this;rw[Fk this.sts,(y _).2.KP]
 ·obtain⟨a,b,M⟩:=AK hC _ (G k o);have:=CE _ M;simp only[x0]at this;omega
end P
def qL(w:World)(l:List Obj):World:=l.foldl World.alloc w
theorem Gn:∀(l:List Obj) (w:World),(qL w l).heap.size=w.heap.size+C l/\Below w.heap.size w (qL w l)
 |[],w=>⟨Z,Below.refl _ _⟩
 |o::l,w=>by
  obtain⟨a,b⟩:=Gn l (w.alloc o);have d:(w.alloc o).heap.size=w.heap.size+1:=by simp
  refine⟨?_,JW ((Below.refl _ _).alloc (x2 _) _) (x2 _) b⟩;show(qL (w.alloc o) l).heap.size=_;rw[a,d];simp;omega
namespace P
def AM(l:List UInt8):Bool:=(KM l).2.1==0&&decide (C l<=2000)
theorem Uu(h:(KM s).2.1=0):(OB (KM s).1).y≠[]:=by
 obtain⟨_,n,b⟩:=Gm h Y Y;obtain⟨_,_,_,f,g⟩:=RE h;have a:=QO (KM s).1 (KM s).1 (fun u j=>(f u j).1) g;refine(Tb b.wf (fun k m i d e=>?_) b.vt b.nt).1;rw[(a _ (QA _ k JZ i)).1,(a _ (QA _ m JZ d)).1,e]
end P
theorem Uv(w:World)(l:List Obj)(b:C l=14)(A:Array Value)(g:∀i,i<29->∃s,A[i*4]?=some (.string s)/\AM s.toList=true):
  (∀i,i<29->∃s,((qL w l).alloc (.cells A 33)).cell? ⟨w.heap.size+14,i*4,none⟩=some (.string s)/\AM s.toList=true)/\w.heap.size+14<((qL w l).alloc (.cells A 33)).heap.size/\Below w.heap.size w ((qL w l).alloc (.cells A 33)):=by
 obtain⟨a,f⟩:=Gn l w;have d:=heap_alloc_new (qL w l) (.cells A 33);rw[a,b]at d;refine⟨fun i j=>?_,by simp[a,b],f.alloc (by omega) _⟩;obtain⟨s,e,k⟩:=g i j;exact⟨s,by simp only[World.cell?,d];simpa using e,k⟩
theorem Uw(w:World):
  Calls prog 7 #[] w fun e f=>e=.returned (JQ (w.heap.size+14) 29 29)/\(∀i,i<29->∃s,f.cell? ⟨w.heap.size+14,i*4,none⟩=some (.string s)/\AM s.toList=true)/\w.heap.size+14<f.heap.size/\Below w.heap.size w f:=by
 go_enter func7,ntmps7;go_wp2_with(first
  |(go_at_call 16;refine(Lu _ _ _ _ _ (by simp[fA]) (by simp[fA]) (by simp[fA]) (by simp[fA])).mono ?_;rintro e j ⟨s0,rfl,b,rfl⟩;have a:=yL s0 _ ((jF s0).symm.trans b);clear b;subst a)
  |(go_at_call 17;refine(Lv _ _ _ (by simp[fA]) (by simp[fA])).mono ?_;rintro e j ⟨g,rfl,d,rfl⟩;have a:=yL g _ ((jF g).symm.trans d);clear d;subst a))
 go_ret;refine⟨Z,Uv j [_,_,_,_,_,_,_,_,_,_,_,_,_,_] Z _ fun i m=>?_⟩
 rcases(by omega:i=0\/i=1\/i=2\/i=3\/i=4\/i=5\/i=6\/i=7\/i=8\/i=9\/i=10\/i=11\/i=12\/i=13\/i=14\/i=15\/i=16\/i=17\/i=18\/i=19\/i=20\/i=21\/i=22\/i=23\/i=24\/i=25\/i=26\/i=27\/i=28)with rfl|rfl|rfl|rfl|rfl|rfl|rfl|rfl|rfl|rfl|rfl|rfl|rfl|rfl|rfl|rfl|rfl|rfl|rfl|rfl|rfl|rfl|rfl|rfl|rfl|rfl|rfl|rfl|rfl
 all_goals exact⟨_,Z,by simp only[gD,vR,eK];decide +kernel⟩
theorem Ux(c:Int)(w:World)(x:-9223372036854775808<=c)(z:c<9223372036854775808):
  Calls prog 4 #[.int .i64 c] w fun e J=>e=.returned (.bool true)/\Below w.heap.size w J:=by
 go_enter func4,ntmps4;go_wp2_with(first
  |(go_at_call 7;refine(Uw _).mono ?_;rintro e O ⟨rfl,g,D,d⟩;have u:=JO g;have p:=JO d;generalize A:w.heap.size+14=gk at*)
  |(go_at_call 6;refine(Lt c _ x z).mono ?_;rintro e T ⟨i,B,rfl,m⟩;subst m;obtain⟨s,M,G⟩:=u.o i B;have r:=JO G;have n:(i:Int)<29:=by omega)
  |(go_at_call 8;have a:=r.o;unfold AM at a;simp only[x5,beq_iff_eq,decide_eq_true_eq]at a;refine(Bo s _ (by have:=a.2;rw[MS]at this;omega) a.1).mono ?_;rintro e S ⟨H,I,rfl,j,f⟩;obtain⟨K,L,b,_⟩:=j.form;subst b;have q:=JO (JW p.o (x2 _) f);have F:=List.length_pos_iff.2 (Uu a.1);have E:=RN (QK a.1);generalize(OB (KM s.toList).1).y.length=N at*;generalize(OB (KM s.toList).1).clash=v at*))
 go_ret;exact⟨Z,q.o⟩
end Go.Proofs.YtlikcongbhhpfaaGreatDoor
