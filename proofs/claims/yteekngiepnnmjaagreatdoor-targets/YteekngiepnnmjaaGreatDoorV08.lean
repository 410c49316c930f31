import Derived.Test.YteekngiepnnmjaaGreatDoorV07
set_option linter.all false
set_option maxHeartbeats 0
namespace Go.Proofs.YteekngiepnnmjaaGreatDoor
open Go Go.RowKit Go.Proofs.Tryz P Q
open scoped Classical
set_option maxRecDepth 1000000
open Go renaming Value->z,Value->σ,World->ι,Calls->ψ
open _root_ renaming Nat->A,Nat->ν,Int->Y,Int->ξ,decide_eq_false->ρ
open Go.RowKit renaming Below->ω
open Go.Proofs.Tryz renaming prog->φ
variable {w w' w1 w2:ι}{B b g n:ν}{m:Ew}{ev':σ}{st:VW}{t:TypeId}{e:Ev}
open _root_.Array renaming size->S
open Go.World renaming heap->T,cell?->J
open Go.Value renaming int->C,bool->M,agg->D
open Go.IntKind renaming i64->O
open Option renaming none->I,some->G
open Go.Obj renaming cells->U
open Go.Ending renaming returned->N
open Bool renaming false->L
open Go.RowKit.Below renaming heap_setCell->xF,refl->xa,heap_alloc->xh
open Go.Value renaming ownBlock->xR,oneCell'->xe
open Or renaming inl->xW
open Nat renaming le_refl->xb,lt_of_lt_of_le->xg
open List renaming getElem_mem->xc,mem_append->xd,mem_or_eq_of_mem_set->xi,mem_singleton->xj
def Ay(m:Ew)(ev:z):Array z:=#[C O m.j,C O m.block,C O (m.Y:A),C O (m.g.getD 0 0),C O (m.g.getD 1 0),C O (m.g.getD 2 0),C O (m.g.getD 3 0),
 C .u64 (m.made.getD 0 0:A),C .u64 (m.made.getD 1 0:A),C .u64 (m.made.getD 2 0:A),C .u64 (m.made.getD 3 0:A),C .u64 (m.A:A),C O (m.u:A),ev]
structure Eh(w:ι)(B g:ν)(m:Ew)(ev:σ):Prop where
 box:w.heap[g]?=G (U (Ay m ev) 206 (0,0))
 K:w.ownsRow B 180 10 ev m.E.length (YD m.E)
 ge:B<=g
 lr:m.g.length=4
 lm:m.made.length=4
def Eh.lt{ev:σ}(h:Eh w B g m ev):g<S (T w):=dC h.box
def Eh.F{ev:σ}(h:Eh w B g m ev):J w ⟨g,0,I⟩=G (C O m.j)/\J w ⟨g,1,I⟩=G (C O m.block)/\J w ⟨g,2,I⟩=G (C O (m.Y:ν))/\J w ⟨g,3,I⟩=G (C O (m.g.getD 0 0))/\J w ⟨g,4,I⟩=G (C O (m.g.getD 1 0))/\J w ⟨g,5,I⟩=G (C O (m.g.getD 2 0))/\J w ⟨g,6,I⟩=G (C O (m.g.getD 3 0))/\
  J w ⟨g,7,I⟩=G (C .u64 (m.made.getD 0 0:ν))/\J w ⟨g,8,I⟩=G (C .u64 (m.made.getD 1 0:ν))/\J w ⟨g,9,I⟩=G (C .u64 (m.made.getD 2 0:ν))/\J w ⟨g,10,I⟩=G (C .u64 (m.made.getD 3 0:ν))/\J w ⟨g,11,I⟩=G (C .u64 (m.A:ν))/\J w ⟨g,12,I⟩=G (C O (m.u:ν))/\J w ⟨g,13,I⟩=G ev/\∀j,w.frozen? ⟨g,j,I⟩=L:=by
 have a:=h.box;refine⟨?_,?_,?_,?_,?_,?_,?_,?_,?_,?_,?_,?_,?_,?_,λj=>?_⟩<;>simp[World.cell?,World.frozen?,a,Ay]
theorem Eh.form{ev:σ}(h:Eh w B g m ev):∃a c,ev=.slice a m.E.length c/\(0<m.E.length->∃b,a=G ⟨b,0,I⟩/\b<S (T w)):=by
 rcases h.K.2 with⟨e,f⟩|⟨k,c,d,e,_⟩
 ·grind
 grind
def Eh.X{ev:σ}(h:Eh w B g m ev)(a:ω (S (T w)) w w'):Eh w' B g m ev :=
 ⟨(a.block g h.lt).trans h.box,bH h.K λk e=>a.block k (h.K.lt k e).2,h.ge,h.lr,h.lm⟩
structure Eg(w w':ι)(g:ν)(ev ev':σ):Prop where
 os:w'.os=w.os
 tape:w'.tape=w.tape
 output:w'.output=w.output
 size:S (T w)<=S (T w')
 block:∀k,k<S (T w)->k≠g->ev.ownBlock≠G k->w'.heap[k]?=w.heap[k]?
 own:ev'.ownBlock=ev.ownBlock\/∃b,ev'.ownBlock=G b/\S (T w)<=b
def Eg.of(a:ω (S (T w)) w w')(g:ν)(ev:σ):Eg w w' g ev ev:=⟨a.os,a.tape,a.output,a.size,λk c _ _=>a.block k c,xW Z⟩
theorem Eg.trans{a b c:σ}(h:Eg w w1 g a b)(k:Eg w1 w2 g b c):Eg w w2 g a c:=by
 refine⟨k.os.trans h.os,k.tape.trans h.tape,k.output.trans h.output,Nat.le_trans h.size k.size,λi j f d=>?_,?_⟩
 ·refine(k.block i (by have:=h.size;omega) f ?_).trans (h.block i j f d)
  rcases h.own with e|⟨q,e,l⟩
  ·rw[e];exact d
  grind
 ·rcases k.own with e|⟨q,e,l⟩
  ·rcases h.own with e2|⟨p,e2,o⟩
   ·grind
   grind
  ·exact Or.inr ⟨q,e,by have:=h.size;omega⟩
def Eg.X{ev:σ}(h:Eg w w' g ev ev')(a:Eh w B g m ev)(c:B<=S (T w)):ω B w w' :=
 ⟨h.os,h.tape,h.output,h.size,λk d=>h.block k (by omega) (by have:=a.ge;omega) λe=>by have:=(a.K.lt k e).1;omega⟩
theorem Eg.stm{ev:σ}(h:Eg w w' g ev ev')(d:Eh w B g m ev)(a:bK w b st):bK w' b st:=by
 refine a.aG (h.block b a.lt ?_ ?_)
 ·intro e;have c:=d.box;unfold bK at a;rw[<- e,a]at c;simp at c
 ·intro e
  rcases d.K.2 with⟨e1,_⟩|⟨j,f,i,e1,_,k,_⟩
  ·grind [xR]
  grind [xR,bK]
theorem DL(B g:ν)(m:Ew)(ev:σ)(c:Bool)(a:Y)(w:ι)(h:Eh w B g m ev):
  ψ φ 158 #[.pointer (G ⟨g,0,I⟩),D #[M c,C O a]] w λe w'=>e=N (C O (m.value ⟨c,a⟩))/\ω (S (T w)) w w':=by
 have V:=h.lt;obtain⟨q,r,s,u,v,x,y,z,A,E,d,f,j,k,H⟩:=h.F;clear q r s z A E d f j k h;have l:aC (m.value ⟨c,a⟩=if c then(if a<0\/4<=a then 0 else m.g.getD a.toNat 0)else a):=Z;obtain⟨F,p⟩:∃F:ν->Y,∀i,m.g.getD i 0=F i:=⟨_,λ_=>Z⟩;rw[p]at l u v x y;have h:c=L\/c=true/\(a<0\/4<=a\/a=0\/a=1\/a=2\/a=3):=by grind
 clear p
 rcases h with rfl|⟨rfl,h|h|rfl|rfl|rfl|rfl⟩
 all_goals
  try(have K:decide (a<0)=L:=ρ (by omega))
  go_in;go_wp2
  try go_quiet (fail)
  all_goals
   try go_wp2
   go_ret;rw[l.o];refine⟨?_,?_⟩
   ·first|rfl|simp[h]
   ·first|exact(xa _ _).alloc (xb _) _|exact(bB).trans (iU _ _ _)
theorem IS(B g:ν)(m:Ew)(ev:σ)(c:Bool)(a:Y)(w:ι)(h:Eh w B g m ev):
  ψ φ 157 #[.pointer (G ⟨g,0,I⟩),D #[M c,C O a]] w λe w'=>e=N (C .u64 (m.Ea ⟨c,a⟩:ν))/\ω (S (T w)) w w':=by
 have V:=h.lt;obtain⟨q,r,s,u,v,x,y,z,A,E,d,f,j,k,H⟩:=h.F;clear q r s u v x y f j k h;have l:aC (m.Ea ⟨c,a⟩=if c then(if a<0\/4<=a then 0 else m.made.getD a.toNat 0)else 0):=Z;obtain⟨F,p⟩:∃F:ν->ν,∀i,m.made.getD i 0=F i:=⟨_,λ_=>Z⟩;rw[p]at l z A E d;have h:c=L\/c=true/\(a<0\/4<=a\/a=0\/a=1\/a=2\/a=3):=by grind
 clear p
 rcases h with rfl|⟨rfl,h|h|rfl|rfl|rfl|rfl⟩
 all_goals
  try(have K:decide (a<0)=L:=ρ (by omega))
  go_in;go_wp2
  try go_quiet (fail)
  all_goals
   try go_wp2
   go_ret;rw[l.o];refine⟨?_,?_⟩
   ·first|rfl|simp[h]
   ·first|exact(xa _ _).alloc (xb _) _|exact(bB).trans (iU _ _ _)
def Fm(B g:ν)(m:Ew)(ev:σ)(i:ν)(w:ι)(h:Eh w B g m ev)(l:i<m.E.length)(hn:m.E.length<10000):
  ψ φ 206 #[.pointer (G ⟨g,0,I⟩),C O (i:ξ)] w λe w'=>e=N (C O (m.aX i))/\w'=w:=by
 have hg:=h.lt;obtain⟨a,c,rfl,p⟩:=h.form;obtain⟨b,rfl,hb⟩:=p (by omega);obtain⟨u,y,A,H,V,W,X,Y,c8,c9,d,f,k,z,cf⟩:=h.F;have q:w.rangeAt b (i*10) (aK (Q.ev m.E i)).toList:=by
  rw[fF m.E i l];intro j v r;have hj:j<10:=(List.getElem?_eq_some_iff.1 r).1;rw[h.K.cellAt _ (by omega),Fg m.E i l j hj];exact r
 have cv:=q 4 (C O (Q.ev m.E i).value) Z;have s:aC (m.aX i=(Q.ev m.E i).value):=Z;generalize(Q.ev m.E i).value=x at*;have aa:=lI l;clear u y A H V W X Y c8 c9 d f k h q p;go_in;go_wp2;go_ret;rw[s.o];exact⟨Z,Z⟩
theorem Eh.set{a:Ew}{ev:σ}(h:Eh w B g m ev)(j:w'.heap[g]?=G (U (Ay a ev) 206 (0,0)))(o:∀k,k≠g->w'.heap[k]?=w.heap[k]?)(l:a.E=m.E)(q:a.g.length=4)(p:a.made.length=4):Eh w' B g a ev:=by
 refine⟨j,?_,h.ge,q,p⟩;rw[l];refine bH h.K λk e=>o k ?_;intro i;subst i
 rcases h.K.2 with⟨e1,_⟩|⟨r,d,f,e1,_,c,_⟩
 ·grind [xR]
 ·rw[e1]at e;simp[xR]at e;subst e;rw[h.box]at c;simp at c
def Eg.set(ev:σ)(l:List (ν×σ)):Eg w (l.foldl (λw p=>w.setCell ⟨g,p.1,I⟩ p.2) w) g ev ev:=by
 induction l generalizing w with
 |nil=>exact Eg.of (xa _ _) g ev
 |cons p q ih =>
  refine Eg.trans (w1:=w.setCell ⟨g,p.1,I⟩ p.2) ⟨Z,Z,Z,by simp,λk _ a _=>xF _ _ _ _ a,xW Z⟩ ih
def Fo(B g:ν)(m:Ew)(ev:σ)(d v:ξ)(s:ν)(w:ι)(h:Eh w B g m ev):
  ψ φ 188 #[.pointer (G ⟨g,0,I⟩),C O d,C O v,C .u64 (s:ν)] w λe w'=>e=N (.tuple #[])/\Eh w' B g (m.aO d v s) ev/\Eg w w' g ev ev:=by
 have hg:=h.lt;have H:=aD h;obtain⟨q,r,u,x,y,z,A,E,K,V,c,f,i,j,cf⟩:=h.F;obtain⟨th,bl,un,rs,md,ak,br,es⟩:=m;have W:=h.lr;have X:=h.lm
 match rs,W,md,X with
 |[r0,r1,r2,r3],_,[m0,m1,m2,m3],_ =>
 have a:=aD h.box;simp only[List.getD_cons_zero,List.getD_cons_succ]at q r u x y z A E K V c f i j;clear h;have l:d<0\/4<=d\/d=0\/d=1\/d=2\/d=3:=by omega
 rcases l with Y|Y|rfl|rfl|rfl|rfl
 case' inr.inl=>have aa:decide (d<0)=L:=ρ (by omega)
 iterate 2
  ·go_in;go_wp2
   (try simp only[Exit.inBlock,Exit.then]);refine bodyPost_ret (results_none Z _ _ _) Z ?_
   unfold Ew.aO;rw[if_pos (by omega)];exact⟨Z,H,Eg.of (xa _ _) g ev⟩
 all_goals
  go_in;go_wp2;go_end0;refine⟨Z,H.set ?_ λk p=>by rw[xF _ _ _ _ p,xF _ _ _ _ p] Z Z Z,?_⟩
  ·rw[cI (cI a.o _ _)];rfl
  ·exact Eg.set ev [(_,_),(_,_)]
def TY(B g:A)(m:Ew)(ev:z)(d:Y)(r:A)(w:ι)(h:Eh w B g m ev)(j:r<m.E.length)(i:m.E.length<10000):
  ψ φ 181 #[.pointer (G ⟨g,0,I⟩),C O d,C O (r:Y)] w λe w'=>e=N (.tuple #[])/\Eh w' B g (m.bG d r) ev/\Eg w w' g ev ev:=by
 have H:=aD h;clear h;go_in;go_wp2_with(first
  |(go_at_call 206;refine(Fm B g m ev r _ H j i).mono ?_;rintro e w' ⟨rfl,a⟩;have a:=a.symm;subst a)
  |(go_at_call 139;refine(MD _ _).mono ?_;rintro e w' ⟨rfl,a⟩;have a:=a.symm;subst a)
  |(go_at_call 188;refine(Fo B g m ev d _ _ _ H).mono ?_;rintro e w1 ⟨rfl,f,c⟩))
 go_end0;exact⟨Z,f,c⟩
theorem MT{c:ι}{a:Array z}(new:List z)(h:c.heap[b]?=G (U a t (0,0)))(j:a.size=new.length):(c.setCells b 0 new).heap[b]?=G (U new.toArray t (0,0))/\(∀k,k≠b->(c.setCells b 0 new).heap[k]?=c.heap[k]?)/\∀(w:ι) (B:A),B<=b->ω B w c->ω B w (c.setCells b 0 new):=by
 refine⟨?_,λk i=>EV _ _ _ _ _ i,λw B d f=>Below.setCells d _ _ _ f⟩;have l:=Be a new.toArray (by simpa using j)
 grind [GR]
def Ul{a c d f i k l o p q:z}(h:w.heap[g]?=G (U #[a,c,d,f,i,k,l,o,p,q] t (0,0))):
  J w ⟨g,0,I⟩=G a/\J w ⟨g,1,I⟩=G c/\J w ⟨g,2,I⟩=G d/\J w ⟨g,3,I⟩=G f/\J w ⟨g,4,I⟩=G i/\J w ⟨g,5,I⟩=G k/\J w ⟨g,6,I⟩=G l/\J w ⟨g,7,I⟩=G o/\J w ⟨g,8,I⟩=G p/\J w ⟨g,9,I⟩=G q/\(∀j,w.frozen? ⟨g,j,I⟩=L)/\g<S (T w):=by
 refine⟨?_,?_,?_,?_,?_,?_,?_,?_,?_,?_,λj=>?_,dC h⟩<;>simp[World.cell?,World.frozen?,h]
def Tryz.infoEvM:(prog.info? 180).map (λi=>(i.zero,i.size,i.bytes))=G (G (D (aK Ev.zero)),10,80):=by kernel_rfl
theorem WN.set(a:Ev)(h:WN w g e)(i:ν)(u:σ)(c:(aK e).setIfInBounds i u=aK a):WN (w.setCell ⟨g,i,I⟩ u) g a:=by
 grind [WN,cI]
theorem WN.KP{i:ν}{u:σ}(h:WN w g e)(a:g≠b):WN (w.setCell ⟨b,i,I⟩ u) g e:=by
 grind [WN,xF]
def WN.range(h:WN w g e):w.rangeAt g 0 (aK e).toList:=OV h
def Um{f:Array Oper}{rest:List Oper}{c:Oper}{a:Act}{R:Exit->Act->ι->Prop}(x y:Operand)(i:c.guard=I)(k:c.op=.store 180 x y)(g:A)(e d:Ev)(l:a.eval x=.pointer (G ⟨g,0,I⟩))(o:a.eval y=D (aK e))(j:WN w g d)(h:∀w',WN w' g e->w.grownBy w' (G g)->wpList φ f R rest (a.put c.dst undef) w'):wpList φ f R (c::rest) a w :=
 UC i _ x y k g (aK e) (aK d) _ l o j Z (by kernel_rfl) (by simp[aK,xe]) h
def EX(B g:A)(m:Ew)(ev:z)(c:ξ)(st:VW)(w:ι)(h:Eh w B g m ev)(hk:c=0\/c=1\/c=2\/c=3\/c=4):
  ψ φ 184 #[.pointer (G ⟨g,0,I⟩),C O c,D (aU st)] w λe w'=>e=N (D (aK (m.V c st)))/\ω (S (T w)) w w':=by
 have HV:aC (m.V c st=⟨c,m.j,m.block,st.z,0,st.q,st.scope,if c==3||c==4 then m.u else 0,(c==0||c==1)&&(st.kind==2||st.kind==3),if c==0||c==1 then m.A else 0⟩):=Z;generalize m.V c st=ke at*;obtain⟨k0,k1,ae,(s:aC _)⟩:=nZ w #[C O st.kind,C O st.i,C O st.dest,C O st.z,M st.a.VX,C O st.a.n,M st.b.VX,C O st.b.n,C O st.q,C O st.scope,C O st.label] #[C O 0,C O 0,C O 0,C O 0,C O 0,C O 0,C O 0,C O 0,M L,C .u64 0] 137 180;have HM:=h.X s;have v:=aD HM;clear h HM;simp only[aU];go_in;go_upto_region 1 with fail
 generalize hE:(w.alloc (U #[C O st.kind,C O st.i,C O st.dest,C O st.z,M st.a.VX,C O st.a.n,M st.b.VX,C O st.b.n,C O st.q,C O st.scope,C O st.label] 137)).alloc (U #[C O 0,C O 0,C O 0,C O 0,C O 0,C O 0,C O 0,C O 0,M L,C .u64 0] 180)=W0 at*;have x:bK W0 (S (T w)) st:=k0;obtain⟨Y,s1,s2,s3,s4,s5,s6,s7,s8,s9,l,r,af⟩:=x.F;obtain⟨c0,c1,c2,c3,c4,c5,c6,c7,c8,c9,aa,y,E,ab,cf⟩:=v.F;have xl:S (T w)+1<S (T W0):=dC k1;have H:=v.lt;have K1:aC (WN W0 (S (T w)+1) Ev.zero):=k1;have ag:S (T w)+2<=S (T W0):=by omega
 clear c2 c3 c4 c5 c6 c7 c8 c9 aa ab k0 k1 x ae hE s3 s4 s6 s7 s8 s9 af;go_region_held3 (λw'=>J w' ⟨g,0,I⟩=G (C O m.j)/\J w' ⟨g,1,I⟩=G (C O m.block)/\J w' ⟨S (T w),3,I⟩=G (C O st.z)/\J w' ⟨S (T w),8,I⟩=G (C O st.q)/\J w' ⟨S (T w),9,I⟩=G (C O st.scope)) (first|exact⟨c0,c1,s5,l,r⟩|exact⟨(lQ H).trans c0,(lQ H).trans c1,(lQ Y).trans s5,(lQ Y).trans l,(lQ Y).trans r⟩) (first|fail);have E1:aC (WN ((W0.alloc (U #[C O c,C O m.j,C O m.block,C O st.z,C O 0,C O st.q,C O st.scope,C O 0,M L,C .u64 0] 180)).drew) (S (T W0)) ⟨c,m.j,m.block,st.z,0,st.q,st.scope,0,L,0⟩):=heap_alloc_new W0 _;have f:ω (S (T W0)) W0 ((W0.alloc (U #[C O c,C O m.j,C O m.block,C O st.z,C O 0,C O st.q,C O st.scope,C O 0,M L,C .u64 0] 180)).drew):=(bB).drew;have K2:=aD (K1.X f);have B1:=aD (bT s f);have ah:=cK f H y;have ai:=cK f H E;have t2:=cK f Y s2;have K:=f.size;have ak:=xg H K;have al:=xg Y K;clear f c0 c1 y E s1 s2 s5 l r cf;generalize ad:(W0.alloc (U #[C O c,C O m.j,C O m.block,C O st.z,C O 0,C O st.q,C O st.scope,C O 0,M L,C .u64 0] 180)).drew=W1 at*;clear ad;generalize aj:S (T W0)=b7 at*;obtain⟨q0,q1,q2,q3,q4,q5,q6,q7,q8,q9,qf,ql⟩:=E1.F
 rcases hk with rfl|rfl|rfl|rfl|rfl
 case' inl=>cases z2:st.kind==2<;>cases z3:st.kind==3
 case' inr.inl=>cases z2:st.kind==2<;>cases z3:st.kind==3
 all_goals
  go_upto_region 10 with fail
  refine jD (λW=>WN W b7 ke/\WN W (S (T w)+1) Ev.zero/\ω (S (T w)) w W) ⟨?_,?_,?_⟩ ?_
  ·rw[HV.o]
   try rw[z2,z3]
   first|exact E1.o|exact E1.set _ 7 _ Z|exact(E1.set ⟨_,m.j,m.block,st.z,0,st.q,st.scope,0,L,m.A⟩ 9 _ Z).set _ 8 _ Z
  ·first|exact K2.o|exact K2.KP (by omega)|exact(K2.KP (by omega)).KP (by omega)
  ·first|exact B1.o|exact B1.setCell (by simp;omega) _|exact(B1.setCell (by simp;omega) _).setCell (by simp;omega) _
  ·intro W h;have h:=aD h;go_wp2_with(first|(refine jQ (.tmp 7) Z Z b7 0 _ Z h.1.range ?_)|(refine Um (.tmp 6) (.tmp 50) Z Z (S (T w)+1) ke Ev.zero Z Z h.2.1 ?_;intro w9 ac d));have hb:=h.2.2;exact tS (p:=6) (S (T w)+1) _ (by kernel_rfl) underlying180 Z (by kernel_rfl) Z ac Z ⟨Z,hb.trans ⟨d.os,d.tape,d.output,d.size,λk hk=>d.block k (by have:=hb.size;omega) (by simp;omega)⟩⟩
theorem Fp{ev:z}(h:Eh w B g m ev):G g≠ev.ownBlock:=λe=>by
 rcases h.K.2 with⟨e1,_⟩|⟨f,c,d,e1,_,a,_⟩
 ·grind [xR]
 ·rw[e1]at e;simp[xR]at e;subst e;rw[h.box]at a;simp at a
theorem Un{W0 Wd:ι}{d i:ν}{ev:σ}(f:Eh w B g m ev)(o:ω (S (T w)) w W0)(v:ω (S (T W0)) W0 Wd)(F:S (T w)<S (T Wd))(j:w1.ownsRow B 180 10 (VV d (m.E.length+1) i) (m.E.length+1) (YD m.E++(aK e).toList))(a:Wd.grownBy w1 ev.ownBlock)(l:ev.ownBlock=G d\/S (T w)<=d):
  Eh (w1.setCell ⟨g,13,I⟩ (VV d (m.E.length+1) i)) B g (m.put e) (VV d (m.E.length+1) i)/\Eg w (w1.setCell ⟨g,13,I⟩ (VV d (m.E.length+1) i)) g ev (VV d (m.E.length+1) i):=by
 have c:ω (S (T w)) w Wd:=bT o v;have p:w1.heap[g]?=G (U (Ay m ev) 206 (0,0)):=(a.block g (by have:=f.lt;omega) (Fp f)).trans ((c.block g f.lt).trans f.box);have x:d≠g:=λe1=>by
  rcases j.2 with⟨e2,_⟩|⟨z,s,u,e2,_,A,_⟩
  ·simp at e2
  grind
 refine⟨⟨?_,?_,f.ge,f.lr,f.lm⟩,?_⟩
 ·rw[cI p];rfl
 ·have e1:(m.put e).E.length=m.E.length+1:=by simp[Ew.put]
  have e2:YD (m.put e).E=YD m.E++(aK e).toList:=by grind [Ew.put,Fe,Ff]
  grind [bH,xF,xR]
 ·refine⟨a.os.trans c.os,a.tape.trans c.tape,a.output.trans c.output,by have:=a.size;simp;omega,λk y r q=>?_,?_⟩
  ·rw[xF _ _ _ _ r,a.block k (by omega) λh=>q h.symm,c.block k y]
  ·rcases l with h|h
   ·exact xW (by rw[h];rfl)
   ·exact Or.inr ⟨d,Z,h⟩
def IC(B g:ν)(m:Ew)(ev:z)(e:Ev)(w:ι)(h:Eh w B g m ev)(hn:m.E.length<10000)(hB:B<=S (T w)):
  ψ φ 185 #[.pointer (G ⟨g,0,I⟩),D (aK e)] w λx w'=>x=N (C O (m.E.length:ξ))/\∃ev',Eh w' B g (m.put e) ev'/\Eg w w' g ev ev':=by
 obtain⟨i0,hi,aa,ab,ac⟩:=info_parts Tryz.infoEvM;obtain⟨k0,Y,l⟩:=nY w (aK e) 180;have d:=aD (h.X l);have H:=aD h;have r:=aD l;obtain⟨sa,sc,rfl,ae⟩:=h.form;simp only[aK]at *;go_in;go_upto_region 1 with fail
 generalize hE:w.alloc (U #[C O e.kind,C O e.j,C O e.block,C O e.z,C O e.value,C O e.q,C O e.scope,C O e.u,M e.step,C .u64 (e.h:ν)] 180)=W0 at*;have i:WN W0 (S (T w)) e:=k0;obtain⟨x0,x1,x2,x3,x4,x5,x6,x7,x8,x9,xf,xl⟩:=i.F;obtain⟨c0,c1,c2,c3,c4,c5,c6,c7,c8,c9,v,y,A,V,cf⟩:=d.F;have hg:=d.lt;have p:=Fp d;have HO:aC ((W0.drew.alloc (U (aK e) 180)).ownsRow B 180 10 (.slice sa m.E.length sc) m.E.length (YD m.E)):=bH d.K λk hk=>xh _ _ _ (d.K.lt k hk).2;have HN:aC (∀j u,(aK e).toList[j]?=G u->(W0.drew.alloc (U (aK e) 180)).cell? ((⟨S (T W0),0,I⟩:Addr).add j)=G u):=
  World.news_of_block (cs:=aK e) (t:=180) (fr:=(0,0)) (heap_alloc_new W0.drew _)
 have HC:aC ((W0.drew.alloc (U (aK e) 180)).cell? ⟨g,13,I⟩=G (.slice sa m.E.length sc)):=(lQ (w:=W0.drew) hg).trans V;have s:aC ((W0.drew.alloc (U (aK e) 180)).frozen? ⟨g,13,I⟩=L):=by
  unfold aC;rw[World.frozen?_of_block (w:=W0.drew) (a:=⟨g,13,I⟩) (xh _ _ _ hg)];exact cf 13
 clear c0 c1 c2 c3 c4 c5 c6 c7 c8 c9 v y A k0 hE i Y;go_region_law(refine step_append_lies _ Z (.tmp 9) (.tmp 11) 78 Z B 180 i0 (D (aK Ev.zero)) 10 80 underlying78 hi aa ab ac Z (by decide) (.slice sa m.E.length sc) m.E.length (YD m.E) (by simp[Act.eval]) (by exact HO) ⟨S (T W0),0,I⟩ 1 1 (aK e).toList (by simp[Act.eval]) Z (by exact HN) (by simp[aK,xe]) (by decide) (by unfold maxLen;omega) (by omega) (by simp;omega) (S (T W0)+1) (by simp) ?_;intro gn cn w1 f c W ad;have c1:=(c.cell_far ⟨g,13,I⟩ (by simp;omega) p).trans HC;have f1:=(c.frozen_far ⟨g,13,I⟩ (by simp;omega) p).trans s)
 all_goals
  obtain⟨q1,q2⟩:=Un (Wd:=W0.drew.alloc (U (aK e) 180)) H r (((xa _ _).drew).alloc (by simp) _) (by simp;omega) f c (by rcases W with h|h;exact xW h;exact Or.inr (by omega));have Q1:=aD q1;have Q2:=aD q2;go_wp2;go_ret;exact⟨by first|rfl|(congr 2;omega),_,Q1,Q2⟩
def pC(B g:A)(w w':ι)(ev:z)(m:Ew):Prop:=∃ev',Eh w' B g m ev'/\Eg w w' g ev ev'
def pC.next{ev a:σ}(h:Eg w w1 g ev a)(k:pC B g w1 w2 a m):pC B g w w2 ev m:=by
 obtain⟨ev',c,d⟩:=k;exact⟨ev',c,h.trans d⟩
def Fq(B g:ν)(m:Ew)(ev:σ)(st:VW)(w:ι)(h:Eh w B g m ev)(hn:m.E.length<10000)(hB:B<=S (T w))(hu:m.Y<1000000000):
  ψ φ 180 #[.pointer (G ⟨g,0,I⟩),D (aU st)] w λx w'=>x=N (C O (m.E.length:ξ))/\pC B g w w' ev (m.bE st):=by
 have aj:=h.lt;have H:=aD h;obtain⟨k0,ak,j⟩:=nY w (aU st) 137;have v:=aD (h.X j);have f:=aD j;have HE:aC (m.bE st={m with Y:=m.Y/4}.put {m.V 0 st with value:=(m.Y%4:ν)}):=Z;simp only[aU]at *;go_in;go_upto_region 2 with(first|(go_at_call 184;refine(EX B g m ev 0 st _ v (xW Z)).mono ?_;rintro e w1 ⟨rfl,a⟩;generalize ai:m.V 0 st=c at*;simp only[aK]))
 have u:aC (WN (w1.alloc (U (aK c) 180)) (S (T w1)) c):=WN.new w1 c;have s:ω (S (T w)) w (w1.alloc (U (aK c) 180)):=(bT f a).alloc (by have:=a.size;simp at this;omega) _;have i:=aD (H.X s);have r:=aD s;have K:S (T w1)<(w1.alloc (U (aK c) 180)).heap.size:=by simp
 have l:S (T w)<=S (T w1):=(bT f a).size;clear s a;simp only[aK]at u i r K;generalize hb:S (T w1)=b at*;generalize af:w1.alloc _=d at*;obtain⟨c0,c1,c2,c3,c4,c5,c6,c7,c8,c9,ab,ac,ad,ae,cf⟩:=i.F;obtain⟨x0,x1,x2,x3,x4,x5,x6,x7,x8,x9,xf,xl⟩:=u.F;go_upto_region 4 with fail
 have z:b≠g:=by omega
 have E2:aC (WN ((d.setCell ⟨b,4,I⟩ (C O ((m.Y:ξ)%4))).setCell ⟨g,2,I⟩ (C O ((m.Y:ξ)/4))) b {c with value:=(m.Y%4:ν)}):=WN.KP (u.set _ 4 _ Z) z;have y:aC (Eh ((d.setCell ⟨b,4,I⟩ (C O ((m.Y:ξ)%4))).setCell ⟨g,2,I⟩ (C O ((m.Y:ξ)/4))) B g {m with Y:=m.Y/4} ev):=by
  have q:Eh (d.setCell ⟨b,4,I⟩ (C O ((m.Y:ξ)%4))) B g m ev:=H.X (r.setCell (p:=⟨b,4,I⟩) l _);refine q.set ?_ (λk hk=>xF _ _ _ _ hk) Z q.lr q.lm;rw[cI q.box];rfl
 have FR:aC (Eg w ((d.setCell ⟨b,4,I⟩ (C O ((m.Y:ξ)%4))).setCell ⟨g,2,I⟩ (C O ((m.Y:ξ)/4))) g ev ev):=(Eg.of (r.setCell (p:=⟨b,4,I⟩) l _) g ev).trans (Eg.set ev [(2,C O ((m.Y:ξ)/4))]);have aa:S (T w)<=((d.setCell ⟨b,4,I⟩ (C O ((m.Y:ξ)%4))).setCell ⟨g,2,I⟩ (C O ((m.Y:ξ)/4))).heap.size:=FR.size;generalize ag:(d.setCell ⟨b,4,I⟩ (C O ((m.Y:ξ)%4))).setCell ⟨g,2,I⟩ (C O ((m.Y:ξ)/4))=W2 at*;generalize ah:({c with value:=(m.Y%4:ν)}:Ev)=e1 at*;go_wp2_with(first|(refine jQ (.tmp 5) Z Z b 0 e1 Z E2.range ?_)|(go_at_call 185;refine(IC B g _ ev e1 _ y hn (by omega)).mono ?_;rintro e w3 ⟨rfl,ev',W,A⟩));go_ret;refine⟨Z,ev',?_,FR.trans A⟩;rw[HE.o];exact W
def QY(B g:A)(m:Ew)(ev:σ)(st:VW)(v:ξ)(s:A)(w:ι)(h:Eh w B g m ev)(hn:m.E.length<10000)(hB:B<=S (T w))(ha:m.A<YC)(hs:s<YC):
  ψ φ 207 #[.pointer (G ⟨g,0,I⟩),D (aU st),C O v,C .u64 (s:A)] w λx w'=>x=N (.tuple #[])/\pC B g w w' ev (m.bX st v s):=by
 have H:=aD h;obtain⟨k0,ag,f⟩:=nY w (aU st) 137;have r:=aD (h.X f);have d:=aD f;have HE:aC (m.bX st v s=m.put {m.V 1 st with value:=v,h:=m.A|||s}):=Z;have af:=bits_or_u64_nat m.A s ha hs;have q:aC ((m.V 1 st).h=m.A):=Z;simp only[aU]at *;go_in;go_upto_region 2 with(first|(go_at_call 184;refine(EX B g m ev 1 st _ r (Or.inr (xW Z))).mono ?_;rintro e w1 ⟨rfl,a⟩;generalize ae:m.V 1 st=c at*;simp only[aK]))
 have l:aC (WN (w1.alloc (U (aK c) 180)) (S (T w1)) c):=WN.new w1 c;have k:ω (S (T w)) w (w1.alloc (U (aK c) 180)):=(bT d a).alloc (by have:=a.size;simp at this;omega) _;have u:=aD (H.X k);have B1:=aD k;have W:S (T w1)<(w1.alloc (U (aK c) 180)).heap.size:=by simp
 have i:S (T w)<=S (T w1):=(bT d a).size;clear k a;simp only[aK]at l u B1 W;generalize hb:S (T w1)=b at*;generalize ab:w1.alloc _=z at*;obtain⟨x0,x1,x2,x3,x4,x5,x6,x7,x8,x9,xf,xl⟩:=l.F;rw[q.o]at x9;go_upto_region 4 with fail
 have E2:aC (WN ((z.setCell ⟨b,4,I⟩ (C O v)).setCell ⟨b,9,I⟩ (C .u64 ((m.A|||s:A):ξ))) b {c with value:=v,h:=m.A|||s}):=(l.set {c with value:=v} 4 _ Z).set _ 9 _ Z;have j:aC (ω (S (T w)) w ((z.setCell ⟨b,4,I⟩ (C O v)).setCell ⟨b,9,I⟩ (C .u64 ((m.A|||s:A):ξ)))):=(B1.setCell (p:=⟨b,4,I⟩) i _).setCell (p:=⟨b,9,I⟩) i _;have y:=aD (H.X j);generalize ac:(z.setCell ⟨b,4,I⟩ (C O v)).setCell ⟨b,9,I⟩ (C .u64 ((m.A|||s:A):ξ))=W2 at*;generalize ad:({c with value:=v,h:=m.A|||s}:Ev)=e1 at*;have aa:=j.size;go_wp2_with(first|(refine jQ (.tmp 8) Z Z b 0 e1 Z E2.range ?_)|(go_at_call 185;refine(IC B g _ ev e1 _ y hn (by omega)).mono ?_;rintro e w3 ⟨rfl,ev',Y,K⟩));go_end0;refine⟨Z,ev',?_,(Eg.of j g ev).trans K⟩;rw[HE.o];exact Y
theorem tX(c:∀x∈m.made,x<YC)(a:ZD):m.Ea a<YC:=by
 grind [Ew.Ea,xc]
def Uo(B g:A)(m:Ew)(ev:z)(st:VW)(w:ι)(h:Eh w B g m ev)(hn:m.E.length<10000)(hB:B<=S (T w))(ha:m.A<YC)(hm:∀x∈m.made,x<YC):
  ψ φ 182 #[.pointer (G ⟨g,0,I⟩),D (aU st)] w λx w'=>x=N (.tuple #[])/\pC B g w w' ev (m.store st):=by
 obtain⟨k0,aa,f⟩:=nY w (aU st) 137;have j:=aD (h.X f);have v:=aD f;have p:aC (bK _ _ st):=k0;have HE:aC (m.store st=m.bX st (m.value ⟨st.a.VX,st.a.n⟩) (m.Ea ⟨st.a.VX,st.a.n⟩)):=Z;have V:=f.size;simp only[aU]at *;go_in;go_upto_region 1 with fail
 generalize hE:w.alloc (U #[C O st.kind,C O st.i,C O st.dest,C O st.z,M st.a.VX,C O st.a.n,M st.b.VX,C O st.b.n,C O st.q,C O st.scope,C O st.label] 137)=W0 at*;obtain⟨W,Y,s2,s3,s4,s5,s6,s7,s8,s9,r,s,u⟩:=p.F;go_wp2_with(first
  |(go_at_call 207;refine(QY B g m ev st _ _ _ y hn (by omega) ha (tX hm ⟨st.a.VX,st.a.n⟩)).mono ?_;rintro e w3 ⟨rfl,K⟩)
  |(go_at_call 157;refine(IS B g m ev st.a.VX st.a.n _ k).mono ?_;rintro e w2 ⟨rfl,d⟩;have y:=aD (k.X d);have H:=aD (l.X d);obtain⟨W,Y,s2,s3,s4,s5,s6,s7,s8,s9,r,s,u⟩:=H.F)
  |(go_at_call 158;refine(DL B g m ev st.a.VX st.a.n _ j).mono ?_;rintro e w1 ⟨rfl,c⟩;have k:=aD (j.X c);have l:=aD (p.X c);obtain⟨W,Y,s2,s3,s4,s5,s6,s7,s8,s9,r,s,u⟩:=l.F))
 go_end0;refine⟨Z,pC.next (Eg.of (bT (CH v (xb _) c) d) g ev) ?_⟩;rw[HE.o];exact K
theorem Uq(B g:ν)(m:Ew)(ev:z)(st:VW)(w:ι)(h:Eh w B g m ev)(hn:m.E.length+1<10000)(hB:B<=S (T w))(aA:m.u<10000):
  ψ φ 186 #[.pointer (G ⟨g,0,I⟩),D (aU st)] w λx w'=>x=N (.tuple #[])/\pC B g w w' ev (m.dN st):=by
 have aB:=h.lt;have H:=aD h;obtain⟨k0,aF,r⟩:=nY w (aU st) 137;have y:=aD (h.X r);have ai:=aD r;have Y:aC (bK _ _ st):=k0;have HE:aC (m.dN st={(m.put (m.V 3 st)).put (m.V 4 st)with u:=m.u+1}):=by
  grind [Ew.dN,Ew.put]
 have ax:=r.size;simp only[aU]at *;go_in;go_upto_region 1 with fail
 generalize hE:w.alloc (U #[C O st.kind,C O st.i,C O st.dest,C O st.z,M st.a.VX,C O st.a.n,M st.b.VX,C O st.b.n,C O st.q,C O st.scope,C O st.label] 137)=W0 at*;obtain⟨s0,s1,s2,s3,s4,s5,s6,s7,s8,s9,af,ag,ah⟩:=Y.F;go_upto_region 2 with(first|(go_at_call 184;refine(EX B g m ev 3 st _ y (by omega)).mono ?_;rintro e w1 ⟨rfl,d⟩;generalize ap:m.V 3 st=s at*;simp only[aK]))
 have E1:aC (WN (w1.alloc (U (aK s) 180)) (S (T w1)) s):=WN.new w1 s;have j:ω (S (T W0)) W0 (w1.alloc (U (aK s) 180)):=d.alloc d.size _;have l:=aD (y.X j);have W:=aD (Y.X j);have B1:=aD (bT ai j);have aG:S (T w)<=S (T w1):=by have:=d.size;omega
 clear j d s0 s1 s2 s3 s4 s5 s6 s7 s8 s9 af ag ah;simp only[aK]at E1 l B1 W;generalize hb:S (T w1)=b at*;generalize ao:w1.alloc _=W1 at*;clear ao;obtain⟨s0,s1,s2,s3,s4,s5,s6,s7,s8,s9,af,ag,ah⟩:=W.F;go_upto_region 3 with(first|(go_at_call 184;refine(EX B g m ev 4 st _ l (by omega)).mono ?_;rintro e w2 ⟨rfl,p⟩;generalize ac:m.V 4 st=e4 at*;simp only[aK]))
 have E2:aC (WN (w2.alloc (U (aK e4) 180)) (S (T w2)) e4):=WN.new w2 e4;have j:ω (S (T W1)) W1 (w2.alloc (U (aK e4) 180)):=p.alloc p.size _;have A:=aD (l.X j);have v:=aD (E1.X j);have B2:=aD (bT B1 j);have ar:=E1.lt;have au:S (T W1)<=S (T w2):=p.size;simp only[aK]at E2 A B2 v;generalize az:S (T w2)=b2 at*;generalize ay:w2.alloc _=W2 at*;have av:∀k,ev.ownBlock=G k->k<S (T w):=λk hk=>(H.K.lt k hk).2
 have aw:=B2.size;clear ap ac;go_upto_region 4 with(first|(refine jQ (.tmp 4) Z Z b 0 s Z v.range ?_)|(go_at_call 185;refine(IC B g m ev s _ A (by omega) (by omega)).mono ?_;rintro e w3 ⟨rfl,an,ae,f⟩))
 have E3:aC (WN w3 b2 e4):=by
  have h1:=E2.o;have h2:=h1.lt;unfold aC WN at*;rw[f.block b2 h2 (by omega) λe=>by grind];exact h1
 have aj:=aD ae;have F3:=aD ((Eg.of B2 g ev).trans f);have aE:=f.size;clear ae f;go_upto_region 5 with(first|(refine jQ (.tmp 5) Z Z b2 0 e4 Z E3.range ?_)|(go_at_call 185;refine(IC B g _ an e4 _ aj (by simp[Ew.put];omega) (by omega)).mono ?_;rintro e w4 ⟨rfl,ab,(c:aC _),ad⟩))
 obtain⟨c0,c1,c2,c3,c4,c5,c6,c7,c8,c9,ak,al,aa,am,cf⟩:=c.F;have F4:=aD (F3.trans ad);have aq:J w4 ⟨g,12,I⟩=G (C O (m.u:ν)):=aa;clear c0 c1 c2 c3 c4 c5 c6 c7 c8 c9 ak al aa am ad;go_wp2;go_end0;refine⟨Z,ab,?_,F4.trans (Eg.set ab [(12,C O ((m.u:ξ)+1))])⟩;rw[HE.o];refine c.set ?_ (λk hk=>xF _ _ _ _ hk) Z c.lr c.lm;rw[cI c.box];rfl
namespace Q
structure Ew.Ok(m:Ew)(n:ν):Prop where
 g:∀x∈m.g,0<=x/\x<4
 made:∀x∈m.made,x<YC
 A:m.A<YC
 K:∀e∈m.E,0<=e.value/\e.value<4/\e.h<YC
 len:m.E.length<=2*n
 u:m.u<=n
 Y:m.Y<1000000000
def IG(a:ZD):Prop:=0<=a.n/\a.n<4
def ZR(st:VW):Prop:=IG st.a/\IG st.b
theorem Ur(l:List Y)(h:∀x∈l,0<=x/\x<4)(i:A):0<=l.getD i 0/\l.getD i 0<4:=by
 grind [xc]
def Ew.Ok.value(h:m.Ok n){a:ZD}(c:IG a):0<=m.value a/\m.value a<4:=by
 unfold Ew.value
 split
 ·split
  ·omega
  ·exact Ur _ h.g _
 ·exact c
theorem Ew.Ok.aX(h:m.Ok n)(i:ν):0<=m.aX i/\m.aX i<4:=by
 unfold Ew.aX;by_cases hi:i<m.E.length
 ·have e:m.E.getD i Ev.zero=m.E[i]:=by simp[hi]
  rw[e];have:=h.K _ (xc hi);omega
 grind [Ev.zero]
theorem Ew.Ok.aO(h:m.Ok n)(d v:ξ)(s:ν)(f:0<=v/\v<4)(c:s<YC):(m.aO d v s).Ok n:=by
 unfold Ew.aO
 split
 ·exact h
 ·refine⟨λx a=>?_,λx a=>?_,h.A,h.K,h.len,h.u,h.Y⟩
  ·rcases xi a with a|rfl
   ·exact h.g x a
   ·exact f
  ·rcases xi a with a|rfl
   ·exact h.made x a
   ·exact c
theorem Ew.Ok.wB(h:m.Ok n):m.Ok (n+1):=⟨h.g,h.made,h.A,h.K,by have:=h.len;omega,by have:=h.u;omega,h.Y⟩
theorem Ew.Ok.bE(h:m.Ok n)(st:VW):(∀x∈(m.bE st).g,0<=x/\x<4)/\(∀x∈(m.bE st).made,x<YC)/\(m.bE st).A<YC/\(∀e∈(m.bE st).E,0<=e.value/\e.value<4/\e.h<YC)/\(m.bE st).E.length=m.E.length+1/\(m.bE st).Y<1000000000:=by
 refine⟨h.g,h.made,h.A,λe a=>?_,by simp[Ew.bE],by have:=h.Y;simp[Ew.bE];omega⟩;simp only[Ew.bE,xd,xj]at a
 rcases a with a|rfl
 ·exact h.K e a
 ·refine⟨by simp;omega,by simp;omega,?_⟩;simp[Ew.V];exact h.A
end Q
def Ut(B g k:ν)(m:Ew)(ev:z)(st:VW)(w:ι)(h:Eh w B g m ev)(v:m.Ok k)(A:ZR st):
  ψ φ 187 #[.pointer (G ⟨g,0,I⟩),D (aU st)] w λx w'=>x=N (C O (m.bL st))/\ω (S (T w)) w w':=by
 obtain⟨k0,aa,u⟩:=nY w (aU st) 137;have l:=aD (h.X u);have E:=aD u;have r:aC (bK _ _ st):=k0;have j:aC (m.bL st=if st.kind==7 then(m.value ⟨st.a.VX,st.a.n⟩+m.value ⟨st.b.VX,st.b.n⟩)%4 else if st.kind==8 then(m.value ⟨st.a.VX,st.a.n⟩+4-m.value ⟨st.b.VX,st.b.n⟩)%4 else if st.kind==9 then(if m.value ⟨st.a.VX,st.a.n⟩==m.value ⟨st.b.VX,st.b.n⟩then 1 else 0)else m.value ⟨st.a.VX,st.a.n⟩):=Z;have ha:=v.value (a:=⟨st.a.VX,st.a.n⟩) A.1;have hb:=v.value (a:=⟨st.b.VX,st.b.n⟩) A.2;simp only[aU]at *;go_in;go_upto_region 1 with fail
 generalize hE:w.alloc (U #[C O st.kind,C O st.i,C O st.dest,C O st.z,M st.a.VX,C O st.a.n,M st.b.VX,C O st.b.n,C O st.q,C O st.scope,C O st.label] 137)=W0 at*;obtain⟨K,V,W⟩:=r.fs;go_upto_region 2 with(first
  |(go_at_call 158;refine(DL B g m ev st.a.VX st.a.n _ l).mono ?_;rintro e w1 ⟨rfl,d⟩;have F:=aD (l.X d);have p:=aD (r.X d);have Y:=aD (bT E d);obtain⟨K,V,W⟩:=p.fs))
 go_upto_region 3 with(first
  |(go_at_call 158;refine(DL B g m ev st.b.VX st.b.n _ F).mono ?_;rintro e w2 ⟨rfl,s⟩;have H:=aD (p.X s);have f:=aD (bT Y s);obtain⟨K,V,W⟩:=H.fs))
 generalize m.value ⟨st.a.VX,st.a.n⟩=x at*;generalize m.value ⟨st.b.VX,st.b.n⟩=y at*
 cases z7:st.kind==7
 rotate_left
 ·have c:aC (m.bL st=(x+y)%4):=by unfold aC;rw[j.o,z7];rfl
  go_wp2;go_ret;rw[c.o];exact⟨Z,f⟩
 cases z8:st.kind==8
 rotate_left
 ·have c:aC (m.bL st=(x+4-y)%4):=by unfold aC;rw[j.o,z7,z8];rfl
  go_wp2;go_ret;rw[c.o];exact⟨Z,f⟩
 cases z9:st.kind==9
 ·have c:aC (m.bL st=x):=by unfold aC;rw[j.o,z7,z8,z9];rfl
  go_wp2;go_ret;rw[c.o];exact⟨Z,f⟩
 cases zz:x==y
 ·have c:aC (m.bL st=0):=by unfold aC;rw[j.o,z7,z8,z9,zz];rfl
  go_wp2;go_ret;rw[c.o];exact⟨Z,f⟩
 ·have c:aC (m.bL st=1):=by unfold aC;rw[j.o,z7,z8,z9,zz];rfl
  go_wp2;go_ret;rw[c.o];exact⟨Z,f⟩
namespace Q
theorem Ew.lP(m:Ew)(st:VW)(v:ξ)(s:ν):(m.bX st v s).E.length=m.E.length+1:=by simp[Ew.bX,Ew.put]
theorem Ew.lS{n:ν}(a:∀e∈m.E,0<=e.value/\e.value<4/\e.h<YC)(c:m.A<YC)(st:VW)(v:ξ)(s:ν)(f:0<=v/\v<4)(d:s<YC):∀e∈(m.bX st v s).E,0<=e.value/\e.value<4/\e.h<YC:=by
 grind [Ew.bX,Ew.put,uG]
def QK(x:Y):0<=x%4/\x%4<4:=⟨Int.emod_nonneg _ (by decide),Int.emod_lt_of_pos _ (by decide)⟩
theorem Ew.Ok.bL(h:m.Ok n)(a:ZR st):0<=m.bL st/\m.bL st<4:=by
 unfold Ew.bL
 split
 ·exact QK _
 ·split
  ·exact QK _
  ·split
   ·split<;>omega
   ·exact h.value a.1
def Ew.Ok.AY(h:m.Ok n)(st:VW):(m.bE st).Ok (n+1):=by
 obtain⟨a,c,d,f,j,i⟩:=h.bE st;exact⟨a,c,d,f,by have:=h.len;omega,by have:=h.u;show m.u<=n+1;omega,i⟩
theorem Ew.Ok.bU(h:m.Ok n)(j:ZR st):(m.bU st).Ok (n+1):=by
 have d:=h.AY st;have o:=h.len;have i:∀(v:ξ) (s:ν),0<=v/\v<4->s<YC->((m.bE st).bX st v s).Ok (n+1):=λv s l k =>
  ⟨d.g,d.made,d.A,Ew.lS (n:=n) d.K d.A st v s l k,by grind [Ew.lP,Ok.bE],d.u,d.Y⟩
 unfold Ew.bU
 split
 ·exact d.aO _ _ _ (d.aX _) (xU _)
 split
 ·exact⟨h.g,h.made,h.A,Ew.lS (n:=n) h.K h.A st _ _ (h.value j.1) (tX h.made _),by grind [Ew.store,Ew.lP],by have:=h.u;show m.u<=n+1;omega,h.Y⟩
 split
 ·unfold Ew.step
  split
  ·have f:=i ((m.value st.a+(m.bE st).aX m.E.length)%4) (m.Ea st.a|||cT (m.E.length:ν)) (QK _) (uG (tX h.made _) (xU _));exact f.aO _ _ _ (f.aX _) (xU _)
  ·have f:=i (m.value st.a) (m.Ea st.a) (h.value j.1) (tX h.made _);exact f.aO _ _ _ (f.aX _) (xU _)
 split
 ·refine⟨h.g,h.made,h.A,λe c=>?_,by grind [Ew.put],by have:=h.u;show m.u<=n+1;omega,h.Y⟩;simp only[Ew.put,xd,xj]at c
  rcases c with c|rfl
  ·exact h.K e c
  ·simp[Ew.V]
 split
 ·refine⟨h.g,h.made,h.A,λe c=>?_,by grind [Ew.dN],by have:=h.u;show m.u+1<=n+1;omega,h.Y⟩;simp only[Ew.dN,xd,List.mem_cons,List.mem_nil_iff,or_false]at c
  rcases c with c|rfl|rfl
  ·exact h.K e c
  ·simp[Ew.V]
  ·simp[Ew.V]
 grind [Ok.aO,Ok.bL,uG,tX,Ok.made,Ok.wB]
theorem Ew.Ok.cM(h:m.Ok n)(st:VW):(m.cM st).Ok n:=⟨h.g,h.made,uG h.A (tX h.made _),h.K,h.len,h.u,h.Y⟩
theorem Ft{p:Ew×A}(h:p.1.Ok n)(a:ZR st):(aN p st).1.Ok (n+1):=by
 grind [aN,Ew.Ok.cM,Ew.Ok.bU,Ew.Ok.wB]
theorem Fv(t b:Y)(u:A)(a:u<1000000000):(Ew.start t b u).Ok 0:=by
 refine⟨?_,?_,by show(0:A)<YC;decide,?_,by simp[Ew.start],by simp[Ew.start],a⟩
 ·grind [Ew.start]
 ·grind [Ew.start]
 grind [Ew.start]
theorem Uu(p:Ew×A)(st:VW):(aN p st).2<=p.2+1:=by
 grind [aN]
end Q
