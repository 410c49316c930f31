import Derived.Test.YtlikcongbhhpfaaGreatDoorM42
import Derived.Test.YtlikcongbhhpfaaGreatDoorM44
set_option linter.unusedVariables false
set_option linter.unusedSimpArgs false
set_option maxHeartbeats 12800000
namespace Go.Proofs.YtlikcongbhhpfaaGreatDoor
open Go Go.RowKit Go.Proofs.Tryz P Q
set_option maxRecDepth 1000000
variable {k k0:Nat}{s st:JR}{l l' rs:List JR}{r r':Rd}{t:JV}{ts:List JV}{d:Int}
open List renaming length->M
open Bool renaming true->C
open Option renaming none->G
open Or renaming inr->xF,inl->xW
open List renaming range->xR,nil_append->x0,cons_append->x1,map_cons->x2,append_inj'->x4,getD_eq_getElem?_getD->xa,map_congr_left->xb,mem_cons_of_mem->xc,eq_nil_or_concat->xd,append_nil->xe,concat_eq_append->xg,append_assoc->xh,length_append->xi,getElem_mem->xj
open Nat renaming lt_of_le_of_lt->x3,le_trans->x8,pow_le_pow_right->xk
open Bool renaming false_eq_true->x6,or_eq_true->x7,and_eq_true->x9
namespace Q
def cJ(regs:List Int)(a:MR):Int:=if a.KI then(if a.n<0\/4<=a.n then 0 else regs.getD a.n.toNat 0)else a.n
def iM(regs:List Int)(d v:Int):List Int:=if d<0\/4<=d then regs else regs.set d.toNat v
def kY(mem:Int->Int)(v x:Int):Int->Int:=fun y=>if v=y then x else mem y
def tM(regs:List Int)(st:JR):Int :=
 if st.k==7 then(cJ regs st.a+cJ regs st.b)%4 else if st.k==8 then(cJ regs st.a+4-cJ regs st.b)%4 else if st.k==9 then(if cJ regs st.a==cJ regs st.b then 1 else 0)else cJ regs st.a
def eZ(st:JR)(regs:List Int)(mem:Int->Int)(d:Nat):List Int×(Int->Int)×Nat :=
 if d==0 then
  if st.k==10 then(regs,mem,if cJ regs st.a==0 then 1 else 0)
  else if st.k==0 then(iM regs st.dest (mem st.z),mem,0)
  else if st.k==1 then(regs,kY mem st.z (cJ regs st.a),0)
  else if st.k==2 then(iM regs st.dest (mem st.z),kY mem st.z ((cJ regs st.a+mem st.z)%4),0)
  else if st.k==3 then(iM regs st.dest (mem st.z),kY mem st.z (cJ regs st.a),0)
  else if st.k==6||st.k==7||st.k==8||st.k==9 then(iM regs st.dest (tM regs st),mem,0)
  else(regs,mem,0)
 else if st.k==10 then(regs,mem,d+1)else if st.k==11 then(regs,mem,d-1)else(regs,mem,d)
theorem CJ(m:Ex)(d:Int)(r:Nat):(m.aM d r).g=iM m.g d (m.aI r):=by
 unfold Ex.aM Ex.aZ iM;split<;>rfl
theorem JE(m:Ex)(st:JR):(m.aN st).aI (M m.E)=((m.Y%4:Nat):Int):=by
 unfold Ex.aI Ex.aN;simp[xa]
theorem E6(m:Ex)(st:JR)(v:Int)(s i:Nat)(h:i<M m.E):(m.write st v s).aI i=m.aI i:=by
 unfold Ex.aI Ex.write Ex.put;simp[xa,List.getElem?_append_left h]
theorem IZ(mem:Int->Int):kQ mem []=mem:=by
 funext x;unfold kQ;rw[if_neg (by simp[ev,Ev.zero])]
theorem JA(mem:Int->Int)(e:Ev):kQ mem [e]=if e.k=1 then kY mem e.z e.value else mem:=by
 funext x
 unfold kQ kY;show(if e.k=1/\e.z=x then e.value else mem x)=_;by_cases h:e.k=1<;>simp[h]
theorem E7(mem:Int->Int)(a e:Ev):kQ mem [a,e]=if e.k=1 then kY mem e.z e.value else mem:=by
 funext x
 unfold kQ kY;show(if e.k=1/\e.z=x then e.value else mem x)=_;by_cases h:e.k=1<;>simp[h]
theorem T6(p:Ex×Nat)(st:JR)(mem:Int->Int)(D:st.k=0\/st.k=1\/st.k=2\/st.k=3->0<=mem st.z/\mem st.z<4)(B:¬(p.2=0/\st.k=5)):
  (aP p st ((mem st.z).toNat%4)).1.g=(eZ st p.1.g mem p.2).1/\kQ mem (cW p st ((mem st.z).toNat%4))=(eZ st p.1.g mem p.2).2.1/\(aP p st ((mem st.z).toNat%4)).2=(eZ st p.1.g mem p.2).2.2:=by
 obtain⟨m,d⟩:=p;have j:st.k=0\/st.k=1\/st.k=2\/st.k=3->(((mem st.z).toNat%4%4:Nat):Int)=mem st.z:=fun h=>by have:=D h;omega
 generalize(mem st.z).toNat%4=v at j⊢;by_cases c:d=0
 ·subst c;by_cases c10:st.k=10
  ·unfold aP cW kD aG eZ;simp only[beq_self_eq_true,if_true,c10];exact⟨Z,IZ _,Z⟩
  ·have a:(st.k==10)=false:=by simpa using c10
   have KP:aP (m,0) st v=(((m.un v).aW st).un 0,0):=by
    unfold aP aG;simp only[beq_self_eq_true,if_true,a];rfl
   have f:cW (m,0) st v=gO (m.un v) st:=by
    unfold cW kD;simp only[beq_self_eq_true,if_true,a];rfl
   rw[KP,f];unfold eZ;simp only[beq_self_eq_true,if_true,a]
   rcases tY st.k with e|e|e|e|e|e|⟨o,q,u,x,y,A⟩
   ·have b:=j (xW e);unfold gO Ex.aW;simp only[e];refine⟨?_,?_,Z⟩
    ·show(((m.un v).aN st).aM st.dest (m.un v).E.length).g=_;rw[CJ,JE];show iM m.g st.dest ((v%4:Nat):Int)=_;rw[b];rfl
    ·show kQ mem [_]=_;rw[JA];rfl
   ·unfold gO Ex.aW;simp only[e];refine⟨Z,?_,Z⟩;show kQ mem [_]=_;rw[JA];rfl
   ·have b:=j (xF (xF (xW e)));unfold gO Ex.aW;simp only[e];have i:((m.un v).aN st).aI (m.un v).E.length=mem st.z:=by
     rw[JE];show((v%4:Nat):Int)=_;exact b
    refine⟨?_,?_,Z⟩
    ·show((m.un v).step st).g=_;unfold Ex.step;simp only[e];show(Ex.aM (Ex.write _ _ _ _) _ _).g=_;rw[CJ,E6 _ _ _ _ _ (by simp[Ex.aN]),i];rfl
    ·show kQ mem [_,_]=_;rw[E7,i];rfl
   ·have b:=j (xF (xF (xF e)));unfold gO Ex.aW;simp only[e];have i:((m.un v).aN st).aI (m.un v).E.length=mem st.z:=by
     rw[JE];show((v%4:Nat):Int)=_;exact b
    refine⟨?_,?_,Z⟩
    ·show((m.un v).step st).g=_;unfold Ex.step;simp only[e];show(Ex.aM (Ex.write _ _ _ _) _ _).g=_;rw[CJ,E6 _ _ _ _ _ (by simp[Ex.aN]),i];rfl
    ·show kQ mem [_,_]=_;rw[E7];rfl
   ·unfold gO Ex.aW;simp only[e];refine⟨Z,?_,Z⟩;show kQ mem [_]=_;rw[JA];rfl
   ·exact absurd ⟨Z,e⟩ B
   ·unfold gO Ex.aW;rw[o,q,u,x,y,A];simp only[x6,if_false,Bool.or_self,IZ]
    split
    ·refine⟨?_,Z,Z⟩;show((m.un v).aZ _ _ _).g=_;unfold Ex.aZ iM
     split<;>rfl
    ·exact⟨Z,Z,Z⟩
 ·have n:(d==0)=false:=by simpa using c
  unfold aP cW kD aG eZ;simp only[n,x6,if_false,IZ]
  split
  ·exact⟨Z,Z,Z⟩
  split
  ·exact⟨Z,Z,Z⟩
  ·exact⟨Z,Z,Z⟩
structure SS where
 g:List Int
 dep:Nat
 rest:List JR
 u:Nat
def SS.bQ(x:SS)(mem:Int->Int)(st:JR):SS:=⟨(eZ st x.g mem x.dep).1,(eZ st x.g mem x.dep).2.2,x.rest.tail,x.u⟩
def SS.oJ(x:SS):SS:=⟨x.g,x.dep,x.rest.tail,x.u+1⟩
structure IsS(x:GT)(s:SS):Prop where
 g:x.p.1.g=s.g
 dep:x.p.2=s.dep
 rest:x.rest=s.rest
 u:x.p.1.u=s.u
def Sim(ts:List JV)(S:Nat->SS)(mem:Int->Int):Prop:=∃g now R,NK ts g mem now R/\∀k,k<M ts->IsS (g k) (S k)
def s0(ts:List JV)(k:Nat):SS:=⟨[0,0,0,0],0,(ts.getD k JZ).S,0⟩
theorem Fa(ts:List JV):Sim ts (s0 ts) fun _=>0:=⟨_,_,_,Db ts,fun _ _=>⟨Z,Z,Z,Z⟩⟩
section
variable {ts:List P.JV}{S:Nat->SS}{mem:Int->Int}
theorem Sim.one(h:Sim ts S mem)(f:k0<M ts)(y:WF (ts.getD k0 JZ))(D:(S k0).rest=st::rs)(B:¬((S k0).dep=0/\st.k=5)):
  Sim ts (fun k=>if k=k0 then(S k0).bQ mem st else S k) (eZ st (S k0).g mem (S k0).dep).2.1:=by
 obtain⟨g,E,R,j,x⟩:=h;have a:=x k0 f;have i:(g k0).rest=st::rs:=a.rest.trans D;have e:¬((g k0).p.2=0/\st.k=5):=by rw[a.dep];exact B
 have n:st∈(ts.getD k0 JZ).S:=by
  rw[<- (j.th k0 f).sp,i];simp
 obtain⟨o,A,q⟩:=T6 (g k0).p st mem (fun m=>by
  have:=y.z st n m;exact(j.mem st.z this.1 this.2).1) e
 have v:=(rF (g k0).p st ((mem st.z).toNat%4)).2.2;rw[if_neg e]at v;have b:=j.one f y i e;rw[A,a.g,a.dep]at b;refine⟨_,_,_,b,fun k m=>?_⟩;by_cases c:k=k0
 ·subst c;simp only[if_true];rw[a.g,a.dep]at o q;exact⟨o,q,by show(g k).rest.tail=_;rw[a.rest];rfl,by show(aP _ _ _).1.u=_;rw[v,a.u];rfl⟩
 ·simp only[c,if_false];exact x k m
theorem Sim.rel(h:Sim ts S mem)(b:Int)(n:Nat)(z:∀k,k<M ts->WF (ts.getD k JZ))(y:∀k,k<M ts->(ts.getD k JZ).block=b->∃st rs,(S k).rest=st::rs/\st.k=5/\(S k).dep=0/\(S k).u=n):
  Sim ts (fun k=>if(ts.getD k JZ).block=b then(S k).oJ else S k) mem:=by
 obtain⟨g,A,R,x,m⟩:=h;have KP:∀k,k<M ts->(ts.getD k JZ).block=b->((g k).rest=(g k).rest.headD JR.zero::(g k).rest.tail/\((g k).rest.headD JR.zero).k=5/\(g k).p.2=0)/\(g k).p.1.u=n:=fun k f e=>by
  obtain⟨st,rs,o,i,j,v⟩:=y k f e;have a:=m k f;rw[a.rest,o,a.dep,a.u];exact⟨⟨Z,i,j⟩,v⟩
 refine⟨_,_,_,x.rel b n (fun k=>(g k).rest.headD JR.zero) z KP,fun k f=>?_⟩;by_cases c:(ts.getD k JZ).block=b
 ·simp only[c,if_true];obtain⟨⟨o,i,j⟩,v⟩:=KP k f c;have a:=m k f;generalize(g k).rest.headD JR.zero=st at o i;have q:=(rF (g k).p st 0).2.2;rw[if_pos ⟨j,i⟩]at q;refine⟨?_,?_,by show(g k).rest.tail=_;rw[a.rest];rfl,by show(aP _ _ _).1.u=_;rw[q,a.u];rfl⟩
  ·show(aP (g k).p st 0).1.g=(S k).g;rw[<- a.g];unfold aP aG Ex.aW;rw[j,i];rfl
  ·show(aP (g k).p st 0).2=(S k).dep;rw[<- a.dep];unfold aP aG Ex.aW;rw[j,i];rfl
 ·simp only[c,if_false];exact m k f
theorem Sim.o(h:Sim ts S mem)(c:PZ ts)(i:∀d∈LX (MP (KC ts)),(KZ (KC ts) d).E.length<=64)(j:∀k,k<M ts->(S k).rest=[]):
  ((xR (M ts)).map fun k=>(S k).g).flatten++[mem 0,mem 1,mem 2]∈(OB ts).y/\((xR (M ts)).map fun k=>(S k).g).flatten++[mem 0,mem 1,mem 2]∈(MI ts).y:=by
 obtain⟨g,m,R,f,b⟩:=h;have:=f.o c i fun k a=>(b k a).rest.trans (j k a);have e:((xR (M ts)).map fun k=>(g k).p.1.g)=(xR (M ts)).map fun k=>(S k).g:=xb fun k a=>(b k (List.mem_range.1 a)).g
 rw[e]at this;exact this
theorem Sim.bar(h:Sim ts S mem)(c:k<M ts)(m:WF (ts.getD k JZ))(j:(S k).rest=st::rs)(e:st.k=5):(S k).dep=0:=by
 obtain⟨g,n,R,i,f⟩:=h;have a:=f k c;have b:=i.th k c;have:=m.bar (g k).ex st rs (by rw[<- b.sp,a.rest,j]) e;have:=b.dep;rw[<- a.dep];omega
theorem Sim.u(h:Sim ts S mem){b:Nat}(f:k<M ts)(a:b<M ts)(e:(ts.getD k JZ).block=(ts.getD b JZ).block):(S k).u=(S b).u:=by
 obtain⟨g,j,R,i,c⟩:=h;rw[<- (c k f).u,<- (c b a).u];exact i.u k b f a e
theorem Sim.left(h:Sim ts S mem)(c:k<M ts):∃ex,ex++(S k).rest=(ts.getD k JZ).S/\LF ex=(S k).u/\((S k).dep:Int)<=JU iB ex-JU iE ex:=by
 obtain⟨g,i,R,f,e⟩:=h;have b:=f.th k c;have a:=e k c;refine⟨(g k).ex,by rw[<- a.rest];exact b.sp,by rw[<- a.u];exact b.brs.symm,by rw[<- a.dep];exact b.dep⟩
end
structure Key where
 k:Int
 dest:Int
 z:Int
 a:MR
 b:MR
def KP(s:JR):Key:=⟨s.k,s.dest,s.z,s.a,s.b⟩
def LV:List JR->List Key
 |[]=>[]
 |s::r=>if s.k==4 then LV r else KP s::LV r
def iX(n:Nat):List Key->List Key
 |[]=>[]
 |s::r=>if s.k==5 then(if n==1 then iX (n+1) r else s::iX (n+1) r)else s::iX n r
def PU(c:Bool)(n:Nat)(l:List Key):List Key:=if c then iX n l else l
theorem T7(c:Bool)(n:Nat):PU c n []=[]:=by cases c<;>rfl
theorem T8(c:Bool)(n:Nat)(s:Key)(r:List Key)(h:s.k≠5):PU c n (s::r)=s::PU c n r:=by
 cases c
 ·rfl
 ·show iX n (s::r)=_;rw[iX,if_neg (by simpa using h)];rfl
theorem T9(c:Bool)(n:Nat)(s:Key)(r:List Key)(h:s.k=5):PU c n (s::r)=(if c&&n==1 then[]else[s])++PU c (n+1) r:=by
 cases c
 ·rfl
 ·show iX n (s::r)=_;rw[iX,if_pos (by simpa using h)]
  cases e:n==1<;>rfl
theorem Ua(h:LV l=[]):∀s∈l,s.k=4:=by
 induction l with
 |nil=>intro s a;cases a
 |cons x r ih =>
  rw[LV]at h
  split at h
  ·rename_i e;intro s a
   rcases List.mem_cons.1 a with rfl|a
   ·simpa using e
   ·exact ih h s a
  ·cases h
theorem Fb{b:JR}(h:KP s=KP b)(a:List Int)(mem:Int->Int)(d:Nat):eZ s a mem d=eZ b a mem d:=by
 simp only[KP,Key.mk.injEq]at h;obtain⟨c,e,f,g,i⟩:=h;unfold eZ tM;rw[c,e,f,g,i]
theorem Fc(h:s.k=4)(a:List Int)(mem:Int->Int)(d:Nat):eZ s a mem d=(a,mem,d):=by
 unfold eZ;rw[h];by_cases c:d=0
 ·subst c;rfl
 ·have:(d==0)=false:=by simpa using c
  rw[this];rfl
section
variable {ts:List P.JV}{S:Nat->SS}{mem:Int->Int}
theorem Ub(S:Nat->SS)(k0:Nat)(x:SS)(h:S k0=x):(fun k=>if k=k0 then x else S k)=S:=by
 funext k
 by_cases c:k=k0
 ·subst c;simp[h]
 ·simp[c]
theorem Sim.N{k0:Nat}(a:k0<M ts)(i:WF (ts.getD k0 JZ)):∀(l r:List JR) (S:Nat->SS),Sim ts S mem->(S k0).rest=l++r->(∀s∈l,s.k=4)->Sim ts (fun k=>if k=k0 then{S k0 with rest:=r}else S k) mem
 |[],r,S,h,hr,_=>by
  rw[Ub S k0]
  ·exact h
  ·rw[x0]at hr;rw[<- hr]
 |s::l,r,S,h,hr,hl=>by
  have m:s.k=4:=hl s (by simp);have b:=h.one a i hr (fun e=>by omega);have f:=Fc m (S k0).g mem (S k0).dep;have e:(S k0).bQ mem s={S k0 with rest:=l++r}:=by
   unfold SS.bQ;rw[f,hr];rfl
  rw[f,e]at b;have j:=Sim.N a i l r _ b (by simp) fun x n=>hl x (xc _ n);refine cast ?_ j
  congr 1
  funext k
  by_cases c:k=k0
  ·subst c;simp
  ·simp[c]
theorem CH:∀(l:List JR) {x:Key} {q:List Key},LV l=x::q->∃f s r,l=f++s::r/\(∀s∈f,s.k=4)/\KP s=x/\s.k≠4/\LV r=q
 |[],_,_,h=>by cases h
 |s::l,x,q,h=>by
  rw[LV]at h
  split at h
  ·rename_i e;obtain⟨f,m,r,b,c,g,i,j⟩:=CH l h;refine⟨s::f,m,r,by rw[b];rfl,fun y a=>?_,g,i,j⟩
   rcases List.mem_cons.1 a with rfl|a
   ·simpa using e
   ·exact c y a
  ·rename_i e;simp only[List.cons.injEq]at h;exact⟨[],s,l,Z,by simp,h.1,by simpa using e,h.2⟩
end
structure Like(ts us:List JV)(di:Int->Bool):Prop where
 len:M us=M ts
 blk:∀k,k<M ts->(us.getD k JZ).block=(ts.getD k JZ).block
 KP:∀k,k<M ts->LV (us.getD k JZ).S=PU (di (ts.getD k JZ).block) 0 (LV (ts.getD k JZ).S)
structure SimB(ts us:List JV)(di:Int->Bool)(S:Nat->SS)(mem:Int->Int):Prop where
 one:Sim ts S mem
 two:∃U,Sim us U mem/\∀k,k<M ts->(U k).g=(S k).g/\(U k).dep=(S k).dep/\LV (U k).rest=PU (di (ts.getD k JZ).block) (S k).u (LV (S k).rest)
section
variable {ts us:List P.JV}{di:Int->Bool}{S:Nat->SS}{mem:Int->Int}
theorem Uc(b:Like ts us di):SimB ts us di (s0 ts) fun _=>0:=⟨Fa ts,s0 us,Fa us,fun k a=>⟨Z,Z,b.KP k a⟩⟩
theorem SimB.step(h:SimB ts us di S mem)(J:Like ts us di)(E:∀k,k<M ts->WF (ts.getD k JZ))(D:∀k,k<M us->WF (us.getD k JZ))(b:k0<M ts)(m:(S k0).rest=st::rs)(A:¬((S k0).dep=0/\st.k=5)):
  SimB ts us di (fun k=>if k=k0 then(S k0).bQ mem st else S k) (eZ st (S k0).g mem (S k0).dep).2.1:=by
 have I:st.k≠5:=fun e=>A ⟨h.one.bar b (E k0 b) m e,e⟩
 refine⟨h.one.one b (E k0 b) m A,?_⟩;obtain⟨U,z,p⟩:=h.two;have a:k0<M us:=by rw[J.len];exact b
 obtain⟨u,v,x⟩:=p k0 b;by_cases c4:st.k=4
 ·have B:=Fc c4 (S k0).g mem (S k0).dep;rw[B];refine⟨U,z,fun k j=>?_⟩;by_cases c:k=k0
  ·subst c;simp only[if_true];unfold SS.bQ;rw[B,m];refine⟨u,v,?_⟩;rw[x,m,LV,if_pos (by simpa using c4)];rfl
  ·simp only[c,if_false];exact p k j
 ·have e:LV (S k0).rest=KP st::LV rs:=by rw[m,LV,if_neg (by simpa using c4)]
  rw[e,T8 _ _ _ _ (by show st.k≠5;exact I)]at x;obtain⟨f,s,r,F,H,n,K,y⟩:=CH _ x;have o:=z.N a (D k0 a) f (s::r) U F H;have q:s.k≠5:=by
   have:(KP s).k=(KP st).k:=by rw[n]
   have:s.k=st.k:=this;omega
  have i:=o.one (k0:=k0) a (D k0 a) (st:=s) (rs:=r) (by simp) fun e=>q e.2;simp only[if_true]at i;rw[Fb n,u,v]at i;refine⟨_,i,fun k j=>?_⟩;by_cases c:k=k0
  ·subst c;simp only[if_true];unfold SS.bQ;simp only;rw[Fb n,m]
   first|exact⟨Z,Z,y⟩|(rw[u,v];exact⟨Z,Z,y⟩)
  ·simp only[c,if_false];exact p k j
theorem Sim.eY(a:∀k,k<M us->WF (us.getD k JZ))(f r:Nat->List JR):∀(n:Nat),n<=M us->∀(U:Nat->SS),Sim us U mem->(∀k,k<n->(U k).rest=f k++r k/\∀s∈f k,s.k=4)->Sim us (fun k=>if k<n then{U k with rest:=r k}else U k) mem
 |0,_,U,h,_=>by simpa using h
 |n+1,hn,U,h,hk=>by
  have b:=Sim.eY a f r n (by omega) U h fun k g=>hk k (by omega);have e:=Sim.N (k0:=n) (by omega) (a n (by omega)) (f n) (r n) _ b (by simp[(hk n (by omega)).1]) (hk n (by omega)).2;refine cast ?_ e
  congr 1
  funext k
  by_cases c:k=n
  ·subst c;simp
  ·by_cases c2:k<n
   ·simp[c,c2,Nat.lt_succ_of_lt c2]
   ·simp[c,c2,show ¬k<n+1 by omega]
theorem SimB.rel(h:SimB ts us di S mem)(v:Like ts us di)(W:∀k,k<M ts->WF (ts.getD k JZ))(V:∀k,k<M us->WF (us.getD k JZ))(b:Int)(L:∀k,k<M ts->(ts.getD k JZ).block=b->∃st rs,(S k).rest=st::rs/\st.k=5):
  SimB ts us di (fun k=>if(ts.getD k JZ).block=b then(S k).oJ else S k) mem:=by
 by_cases cb:∃o,o<M ts/\(ts.getD o JZ).block=b
 rotate_left
 ·have e:∀k,k<M ts->¬(ts.getD k JZ).block=b:=fun k j e=>cb ⟨k,j,e⟩
  obtain⟨⟨g,N,R,hg,hS⟩,U,A,j⟩:=h;exact⟨⟨g,N,R,hg,fun k j=>by simp only[e k j,if_false];exact hS k j⟩,U,A,fun k a=>by simp only[e k a,if_false];exact j k a⟩
 obtain⟨o,y,O⟩:=cb;have B:∀k,k<M ts->(ts.getD k JZ).block=b->(S k).dep=0/\(S k).u=(S o).u:=fun k j e=>by
  obtain⟨st,rs,F,z⟩:=L k j e;exact⟨h.one.bar j (W k j) F z,h.one.u j y (by rw[e,O])⟩
 refine⟨h.one.rel b (S o).u W fun k j e=>by
  obtain⟨st,rs,F,z⟩:=L k j e;obtain⟨q3,q4⟩:=B k j e;exact⟨st,rs,F,z,q3,q4⟩,?_⟩
 obtain⟨U,A,j⟩:=h.two;have m:∀k,k<M ts->(ts.getD k JZ).block=b->∃x,x.k=5/\LV (U k).rest=(if di b&&(S o).u==1 then[]else[x])++PU (di b) ((S o).u+1) (LV (S k).rest.tail):=fun k a e=>by
  obtain⟨st,rs,F,z⟩:=L k a e;refine⟨KP st,z,?_⟩;rw[(j k a).2.2,e,(B k a e).2,F,LV,if_neg (by rw[z];decide),T9 _ _ _ _ (by exact z)];rfl
 by_cases cd:(di b&&(S o).u==1)=C
 ·refine⟨U,A,fun k a=>?_⟩;by_cases c:(ts.getD k JZ).block=b
  ·simp only[c,if_true];obtain⟨x,_,E⟩:=m k a c;rw[cd]at E;refine⟨(j k a).1,(j k a).2.1,?_⟩;rw[E];unfold SS.oJ;rw[(B k a c).2];rfl
  ·simp only[c,if_false];exact j k a
 ·have e:∀k,∃f r,k<M ts->(U k).rest=f++r/\(∀s∈f,s.k=4)/\((ts.getD k JZ).block=b->∃s q,r=s::q/\s.k=5/\LV q=PU (di b) ((S o).u+1) (LV (S k).rest.tail))/\((ts.getD k JZ).block≠b->f=[]):=fun k=>by
   by_cases a:k<M ts
   rotate_left
   ·exact⟨[],[],fun h=>absurd h a⟩
   by_cases c:(ts.getD k JZ).block=b
   ·obtain⟨x,x5,E⟩:=m k a c;rw[if_neg cd]at E;obtain⟨f,s,r,H,h2,h3,h4,h6⟩:=CH _ E;refine⟨f,s::r,fun _=>⟨H,h2,fun _=>⟨s,r,Z,?_,h6⟩,fun n=>absurd c n⟩⟩;rw[<- x5,<- h3];rfl
   ·exact⟨[],(U k).rest,fun _=>⟨Z,by simp,fun e=>absurd e c,fun _=>Z⟩⟩
  obtain⟨f,X⟩:=Classical.axiomOfChoice e;obtain⟨r,D⟩:=Classical.axiomOfChoice X;have J:=Sim.eY V f r (M us) (Nat.le_refl _) U A fun k a=>by
   have:=D k (by rw[<- v.len];exact a);exact⟨this.1,this.2.1⟩
  have K:=J.rel b (U o).u V fun k a p=>by
   have i:k<M ts:=by rw[<- v.len];exact a
   rw[v.blk k i]at p;obtain⟨s,q,I,T,_⟩:=(D k i).2.2.1 p;refine⟨s,q,by simp only[a,if_true];exact I,T,?_,?_⟩
   ·simp only[a,if_true];rw[(j k i).2.1];exact(B k i p).1
   ·simp only[a,if_true];exact A.u a (by rw[v.len];exact y) (by rw[v.blk k i,v.blk o y,p,O])
  refine⟨_,K,fun k i=>?_⟩;have a:k<M us:=by rw[v.len];exact i
  by_cases c:(ts.getD k JZ).block=b
  ·simp only[v.blk k i,c,if_true,a];obtain⟨s,q,I,T,Y⟩:=(D k i).2.2.1 c;refine⟨(j k i).1,(j k i).2.1,?_⟩;unfold SS.oJ;simp only;rw[I,(B k i c).2];exact Y
  ·simp only[v.blk k i,c,if_false,a,if_true];refine⟨(j k i).1,(j k i).2.1,?_⟩;have:=(D k i).2.2.2 c;have H:=(D k i).1;rw[this,x0]at H;rw[<- H];exact(j k i).2.2
theorem SimB.o(h:SimB ts us di S mem)(p:Like ts us di)(v:∀k,k<M us->WF (us.getD k JZ))(f:PZ ts)(i:PZ us)(j:∀d∈LX (MP (KC ts)),(KZ (KC ts) d).E.length<=64)(m:∀d∈LX (MP (KC us)),(KZ (KC us) d).E.length<=64)(q:∀k,k<M ts->(S k).rest=[]):
  ((xR (M ts)).map fun k=>(S k).g).flatten++[mem 0,mem 1,mem 2]∈(OB ts).y/\((xR (M ts)).map fun k=>(S k).g).flatten++[mem 0,mem 1,mem 2]∈(MI us).y:=by
 refine⟨(h.one.o f j q).1,?_⟩;obtain⟨U,u,n⟩:=h.two;have c:=Sim.eY v (fun k=>(U k).rest) (fun _=>[]) (M us) (Nat.le_refl _) U u fun k a=>by
  have b:k<M ts:=by rw[<- p.len];exact a
  have:=(n k b).2.2;rw[q k b,LV,T7]at this;exact⟨by simp,Ua this⟩
 have:=(c.o i m fun k a=>by simp only[a,if_true]).2;have e:((xR (M us)).map fun k=>(if k<M us then{U k with rest:=[]}else U k:SS).g)=(xR (M ts)).map fun k=>(S k).g:=by
  rw[p.len];refine xb fun k a=>?_
  have:=List.mem_range.1 a;rw[if_pos this];exact(n k this).1
 rw[e]at this;exact this
end
end Q
namespace P
structure StG(s:JR):Prop where
 ok:NZ s
 v0:0<=s.z
 v3:s.z<3
theorem GY:StG JR.zero:=⟨⟨fI,fI⟩,by decide,by decide⟩
theorem Ud(w:List UInt8):0<=(fK w).1/\(fK w).1<4:=by
 unfold fK
 repeat' split
 all_goals exact⟨by decide,by decide⟩
theorem Fd(w:List UInt8):0<=(jQ w).1/\(jQ w).1<3:=by
 unfold jQ
 repeat' split
 all_goals exact⟨by decide,by decide⟩
theorem Fe(w:List UInt8):OW (eJ w).1:=by
 unfold eJ
 repeat' split
 ·exact⟨by decide,by decide⟩
 ·exact⟨by decide,by decide⟩
 ·exact⟨by decide,by decide⟩
 ·exact⟨by decide,by decide⟩
 ·exact Ud w
theorem Ue(h:StG s)(c:UInt8)(w:List UInt8):StG (fN s c w).1:=by
 unfold fN
 split
 ·exact⟨h.ok,h.v0,h.v3⟩
 split
 ·exact⟨h.ok,(Fd w).1,(Fd w).2⟩
 split
 ·exact⟨⟨Fe w,h.ok.2⟩,h.v0,h.v3⟩
 split
 ·exact⟨⟨h.ok.1,Fe w⟩,h.v0,h.v3⟩
 ·exact h
theorem Ff:∀(a:List UInt8) (b:List (List UInt8)) {s:JR},StG s->StG (lC s a b).1
 |[],_,_,h=>h
 |_::_,[],_,h=>h
 |c::a,w::b,s,h=>by
  rw[lC]
  split
  ·exact Ff a b (Ue h c w)
  ·exact GY
theorem EE(first:List UInt8)(a:List (List UInt8))(next:Int):∀(f:Nat) (k:Int),StG (iV first a next f k).1
 |0,_=>GY
 |f+1,k=>by
  have b:StG (if k==10 then{JR.zero with k:=k,label:=next}else{JR.zero with k:=k}):=by
   split<;>exact⟨⟨fI,fI⟩,by show(0:Int)<=0;omega,by show(0:Int)<3;omega⟩
  rw[iV];simp only;generalize(if k==10 then{JR.zero with k:=k,label:=next}else{JR.zero with k:=k})=s0 at b⊢;by_cases c1:(LI k).1.isPrefixOf first=C
  ·rw[if_pos c1];by_cases c2:(fX s0 (first.drop (LI k).1.length)).2=C
   ·rw[if_pos c2];unfold jK;by_cases c3:((LI k).2.length != M a)=C
    ·rw[if_pos c3];exact GY
    ·rw[if_neg c3];refine Ff _ _ ?_;unfold fX
     split
     ·split
      ·exact⟨b.ok,b.v0,b.v3⟩
      ·exact b
     ·exact b
   ·rw[if_neg c2];exact EE first a next f (k+1)
  ·rw[if_neg c1];exact EE first a next f (k+1)
theorem Uf(l:List UInt8)(next:Int):StG (cV l next).1:=EE _ _ _ _ _
theorem Ug(h:cZ r st=(r',C)):r.H≠[]/\∃lb,r'.H=eR r.H {st with label:=lb}/\r'.most=r.most/\(st.k=11/\r'.count=r.count/\r'.I=r.I/\r.O≠[]/\r'.O=r.O.dropLast\/st.k≠11/\r.count<r.most/\r'.count=r.count+1/\(st.k=10/\r'.I=r.I+1/\r'.O=r.O++[r.I+1]\/st.k≠10/\r'.I=r.I/\r'.O=r.O)):=by
 unfold cZ at h
 split at h
 ·simp at h
 rename_i f;refine⟨by simpa using f,?_⟩
 split at h
 ·rename_i b;unfold ends at h
  split at h
  ·simp at h
  ·rename_i x g;simp only[Prod.mk.injEq,and_true]at h;subst h;exact⟨x,Z,Z,xW ⟨by simpa using b,Z,Z,by intro e;rw[e]at g;simp at g,Z⟩⟩
 rename_i b;have c:st.k≠11:=by simpa using b
 split at h
 ·simp at h
 rename_i j
 split at h
 ·rename_i a
  split at h
  ·simp at h
  rename_i i;unfold gI at h;rw[if_neg i]at h;simp only[Prod.mk.injEq,and_true]at h;subst h;exact⟨r.I+1,Z,Z,xF ⟨c,by omega,Z,xW ⟨by simpa using a,Z,Z⟩⟩⟩
 ·rename_i a;simp only[Prod.mk.injEq,and_true]at h;subst h;exact⟨st.label,Z,Z,xF ⟨c,by omega,Z,xF ⟨by simpa using a,Z,Z⟩⟩⟩
structure AI(r:Rd):Prop where
 st:∀t∈r.H,∀s∈t.S,StG s
 le:∀t∈r.H,JU nE t.S<=40
 last:∀a t,r.H=a++[t]->JU nE t.S<=r.count/\JU iE t.S+M r.O=JU iB t.S
 most:r.most=40
 pre:∀t∈r.H,∀a b,t.S=a++b->JU iE a<=JU iB a
 bar:∀t∈r.H,∀a s b,t.S=a++s::b->s.k=5->JU iB a=JU iE a
 O:∀x∈r.O,1<=x
 I:0<=r.I
 ln:∀t∈r.H,0<t.i
 lin:0<=r.i
theorem Uh:AI Rd.KJ:=⟨by simp[Rd.KJ],by simp[Rd.KJ],by simp[Rd.KJ],Z,by simp[Rd.KJ],by simp[Rd.KJ],by simp[Rd.KJ],by simp[Rd.KJ],by simp[Rd.KJ],by simp[Rd.KJ]⟩
theorem AI.i(h:AI r){m:Int}(a:0<=m):AI {r with i:=m}:=⟨h.st,h.le,h.last,h.most,h.pre,h.bar,h.O,h.I,h.ln,a⟩
theorem AI.begin(h:AI r){b l:Int}(j:0<l)(e:fB r b l=(r',C)):AI r':=by
 unfold fB at e
 split at e
 ·simp at e
 rename_i n;simp only[Prod.mk.injEq,and_true]at e;have m:r.O=[]:=List.eq_nil_of_length_eq_zero (by omega);subst e;have KP:∀(f:JV->Prop),(∀t∈r.H,f t)->f ⟨b,l,[]⟩->∀t∈r.H++[⟨b,l,[]⟩],f t:=fun f g i t c=>by
  rcases List.mem_append.1 c with c|c
  ·exact g t c
  ·simp at c;rw[c];exact i
 refine⟨KP _ h.st (by simp),KP _ h.le (by simp[JU]),fun a t e=>?_,h.most,KP _ h.pre fun a b e=>?_,KP _ h.bar fun a s b e=>by simp at e,h.O,h.I,KP _ h.ln j,h.lin⟩
 ·have:=(x4 e Z).2;simp at this;rw[<- this];simp[JU,m]
 ·have:=List.append_eq_nil_iff.1 e.symm;rw[this.1];simp[JU]
theorem AI.put(h:AI r)(L:StG st)(hb:st.k=5->r.O=[])(hl:r'.i=r.i)(e:cZ r st=(r',C)):AI r':=by
 obtain⟨K,n,T,hm,E⟩:=Ug e;obtain⟨a,t,J,h2⟩:=YW K {st with label:=n};rw[h2]at T;have g:t∈r.H:=by rw[J];simp
 obtain⟨l1,X⟩:=h.last a t J;have aa:=h.le t g;have N:StG {st with label:=n}:=⟨L.ok,L.v0,L.v3⟩;have KP:∀(B:JV->Prop),(∀t∈r.H,B t)->B {t with S:=t.S++[{st with label:=n}]}->∀t∈r'.H,B t:=fun B h3 h4 u v=>by
  rw[T]at v
  rcases List.mem_append.1 v with v|v
  ·exact h3 u (by rw[J];simp[v])
  ·simp at v;rw[v];exact h4
 have m:JU nE (t.S++[{st with label:=n}])<=40/\JU nE (t.S++[{st with label:=n}])<=r'.count/\JU iE (t.S++[{st with label:=n}])+(M r'.O:Int)=JU iB (t.S++[{st with label:=n}]):=by
  rw[mK,mK,mK];simp only[JU,nE,iE,iB];rw[h.most]at E
  rcases E with⟨F,W,_,D,o⟩|⟨F,W,D,⟨o,_,p⟩|⟨o,_,p⟩⟩
  ·have:M r.O=M r.O.dropLast+1:=by
    have:=List.length_pos_iff.2 D;rw[List.length_dropLast];omega
   rw[o,F,W];simp;omega
  ·rw[p,o,D];simp;omega
  ·rw[p,D];simp[F,o];omega
 have A:∀x y,t.S++[{st with label:=n}]=x++y->JU iE x<=JU iB x:=fun x y e=>by
  rcases xd y with z|⟨V,s',z⟩
  ·rw[z,xe]at e;rw[<- e];omega
  ·rw[z,xg,<- xh]at e;have:=(x4 e Z).1;exact h.pre t g x V this
 refine⟨KP (fun t=>∀s∈t.S,StG s) h.st fun s f=>?_,KP (fun t=>JU nE t.S<=40) h.le m.1,fun b u q=>?_,hm.trans h.most,KP (fun t=>∀a b,t.S=a++b->JU iE a<=JU iB a) h.pre A,KP (fun t=>∀a s b,t.S=a++s::b->s.k=5->JU iB a=JU iE a) h.bar fun x s y q U=>?_,fun x j=>?_,?_,KP (fun t=>0<t.i) h.ln (h.ln t g),by rw[hl];exact h.lin⟩
 ·rcases List.mem_append.1 f with f|f
  ·exact h.st t g s f
  ·simp at f;rw[f];exact N
 ·rw[T]at q;have:=(x4 q Z).2;simp at this;rw[<- this];exact m.2
 ·rcases xd y with z|⟨V,s',z⟩
  ·rw[z]at q;obtain⟨q1,Y⟩:=x4 q Z;simp at Y;rw[<- q1];have:st.k=5:=by rw[<- Y]at U;exact U
   have ho:=hb this;rw[ho]at X;simp at X;omega
  ·rw[z,xg,<- x1,<- xh]at q;exact h.bar t g x s V (x4 q Z).1 U
 ·rcases E with⟨_,_,_,_,o⟩|⟨_,_,_,⟨_,_,p⟩|⟨_,_,p⟩⟩
  ·rw[o]at j;exact h.O x (List.dropLast_subset _ j)
  ·rw[p]at j
   rcases List.mem_append.1 j with j|j
   ·exact h.O x j
   ·simp at j;have:=h.I;omega
  ·rw[p]at j;exact h.O x j
 ·have:=h.I
  rcases E with⟨_,_,c,_⟩|⟨_,_,_,⟨_,c,_⟩|⟨_,c,_⟩⟩<;>rw[c]<;>omega
theorem AI.lA(h:AI r)(e:eT r=0):r.O=[]:=by
 unfold eT at e
 cases hl:r.O.getLast? with
 |none=>exact List.getLast?_eq_none_iff.1 hl
 |some x =>
  rw[hl]at e;have:=h.O x (List.mem_of_getLast? hl);simp at e;omega
theorem AI.take(h:AI r)(f:0<r.i){l:List UInt8}(e:dA r l=(r',C)):AI r':=by
 have b:=(yH r l).1;rw[e]at b;unfold dA at e
 split at e
 ·exact h.begin f e
 split at e
 ·exact h.begin f e
 split at e
 ·exact h.put (st:={JR.zero with k:=11,i:=r.i}) ⟨⟨fI,fI⟩,by show(0:Int)<=0;omega,by show(0:Int)<3;omega⟩ (fun k=>by simp at k) b e
 split at e
 ·simp at e
 rename_i c;have a:=Uf l (r.I+1);refine h.put (st:={(cV l (r.I+1)).1 with i:=r.i}) ⟨a.ok,a.v0,a.v3⟩ (fun k=>?_) b e;refine h.lA ?_;have g:(cV l (r.I+1)).1.k=5:=k;rw[g]at c;simp at c;exact c.2
theorem Fg:∀(a:List (List UInt8)) {r r':Rd},NE r a=(r',C)->AI r->AI r'
 |[],r,r',h,hr=>by simp[NE]at h;rw[<- h];exact hr
 |x::a,r,r',h,hr=>by
  simp only[NE]at h
  split at h
  ·rename_i b;have c:=hr.lin;exact Fg a h ((hr.i (m:=r.i+1) (by omega)).take (by show 0<r.i+1;omega) (by rw[<- b]))
  ·simp at h
theorem Ui{l:List UInt8}(h:(bG l).2=0):NE Rd.KJ (KD 10 l).dropLast=((NE Rd.KJ (KD 10 l).dropLast).1,C)/\(bG l).1=(NE Rd.KJ (KD 10 l).dropLast).1.H/\(NE Rd.KJ (KD 10 l).dropLast).1.O=[]:=by
 obtain⟨_,e,b⟩:=A1 (KD 10 l).dropLast 0 Rd.KJ GH Z;have z:Rd.KJ.i=0:=Z;unfold bG at h⊢;simp only at h⊢
 cases hq:(NE Rd.KJ (KD 10 l).dropLast).2
 ·have:=b hq;rw[hq]at h;simp at h;omega
 ·rw[hq]at h;simp only[if_true]at h⊢
  split at h
  ·simp at h;omega
  ·rename_i a;rw[if_neg a];refine⟨by rw[<- hq],Z,?_⟩;by_cases c:(NE Rd.KJ (KD 10 l).dropLast).1.O=[]
   ·exact c
   ·exact absurd (xF (xW c)) a
structure AsmIs(ts:List JV):Prop where
 ne:ts≠[]
 few:M ts<=4
 len:∀t∈ts,M t.S<=80
 wf:∀t∈ts,WF t
 even:∀t∈ts,LF t.S=NQ t.block ts
 rd:KQ LM ts<=4
 wr:KQ MN ts<=3
 sc:KQ MO ts<=3
 ev:evT ts<=50
theorem Fh{l:List UInt8}(h:(NT l).2.1=0):AsmIs (NT l).1/\(NT l).2.2=0/\M l<=2000:=by
 unfold NT at h⊢;by_cases h1:2000<M l
 ·rw[if_pos h1]at h;simp at h
 rw[if_neg h1]at h⊢;by_cases h2:((bG l).2 != 0)=C
 ·rw[if_pos h2]at h;simp at h
 rw[if_neg h2]at h⊢;by_cases h3:(dN (bG l).1 (bG l).1 != 0)=C
 ·rw[if_pos h3]at h;simp at h
 rw[if_neg h3]at h⊢;by_cases h4:(hZ (bG l).1||decide (50<evT (bG l).1))=C
 ·rw[if_pos h4]at h;simp at h
 rw[if_neg h4];have e:(bG l).2=0:=by simpa using h2
 obtain⟨j,f,p⟩:=Ui e;obtain⟨g,i,_⟩:=A3 l e;have b:=Fg _ j Uh;simp only[hZ,x7,decide_eq_true_eq,not_or]at h4;refine⟨⟨g,i,fun t a=>?_,fun t a=>?_,fun t a=>((QO (bG l).1 (bG l).1 (by rw[f];exact b.ln) (by simpa using h3)) t a).1,by show KQ LM (bG l).1<=4;omega,by show KQ MN (bG l).1<=3;omega,by show KQ MO (bG l).1<=3;omega,by show evT (bG l).1<=50;omega⟩,Z,by omega⟩
 ·rw[f]at a;have m:=b.pre t a t.S [] (by simp);have e:=b.le t a;have n:=CG t.S;have o:JU iB t.S<=JU nE t.S:=tL fun s c=>by simp only[iB,nE]at *;rw[beq_iff_eq]at c;rw[c];decide _;omega
 ·rw[f]at a;exact⟨b.pre t a,b.bar t a,fun s c _=>⟨(b.st t a s c).v0,(b.st t a s c).v3⟩,fun s c=>(b.st t a s c).ok⟩
end P
namespace Q
theorem Uj(p:Ex×Nat)(s:JR):((kD p s).length:Int)<=(if LM s then 1 else 0)+(if MN s then 1 else 0)+if s.k==4 then 1 else if s.k==5 then 2 else 0:=by
 have KP:∀m:Ex,((gO m s).length:Int)<=(if LM s then 1 else 0)+(if MN s then 1 else 0)+if s.k==4 then 1 else if s.k==5 then 2 else 0:=fun m=>by
  unfold gO LM MN eE oS
  rcases tY s.k with e|e|e|e|e|e|⟨b,c,f,g,i,j⟩
  ·simp[e]
  ·simp[e]
  ·simp[e]
  ·simp[e]
  ·simp[e]
  ·simp[e]
  ·rw[b,c,f,g,i,j];simp
 have a:(0:Int)<=(if LM s then 1 else 0)+(if MN s then 1 else 0)+if s.k==4 then 1 else if s.k==5 then 2 else 0:=by
  repeat' split
  all_goals omega
 unfold kD
 split
 ·split
  ·simpa using a
  ·exact KP _
 ·simpa using a
theorem Fi:∀(a:List JR) (p:Ex×Nat),((a.foldl aG p).1.E.length:Int)<=M p.1.E+(JU LM a+JU MN a+NP a)
 |[],p=>by simp[JU,NP]
 |s::a,p=>by
  rw[List.foldl_cons];have b:=Fi a (aG p s);have c:=Uj p s;rw[AQ,xi]at b;simp only[JU,NP];push_cast at b;omega
theorem Uk{i:Nat}{r:Run}(h:r∈fT t i):(M r.E:Int)<=JU LM t.S+JU MN t.S+NP t.S:=by
 unfold fT fQ at h;obtain⟨c,_,rfl⟩:=List.mem_map.1 h;have a:=Fi t.S (Ex.start i t.block c,0);simp only[Ex.start,List.length_nil]at a;simp only[gQ,nJ,Ex.run,Ex.start];push_cast at a;omega
theorem WI.uV{w:Wd}{E S R e:Int}(h:WI w E S R){r:Run}(c:RunOk r t)(n:(M r.E:Int)<=e):WI (w.join r) (E+e) (S+JU MO t.S) (R+4):=by
 have j:=h.len;have m:=h.sc;have o:=c.sc;refine⟨by have:=h.pos;simp[Wd.join];omega,by simp[Wd.join];omega,?_,by simp[Wd.join,c.g,h.g],fun x b=>?_,fun e a=>?_⟩
 ·simp only[Wd.join];rw[List.filter_append,xi,Ba];push_cast;omega
 ·simp only[Wd.join]at b
  rcases List.mem_append.1 b with b|b
  ·exact h.vals x b
  ·exact c.vals x b
 ·simp only[Wd.join]at a
  rcases List.mem_append.1 a with a|a
  ·exact h.K e a
  ·obtain⟨f,i,rfl⟩:=List.mem_map.1 a;exact⟨(c.K f i).1,(c.K f i).2.1,TJ _ _⟩
theorem Fj:∀(ts:List JV) (i:Nat) (w:Wd) (a:List Int) (E S R:Int),(∀t∈ts,(∀s∈t.S,NZ s)/\OM t.S<1000000000)->MV (MP (dP i ts)) a->WI w E S R->WI (gM w (dP i ts) a) (E+(KQ LM ts+KQ MN ts+evT ts)) (S+KQ MO ts) (R+4*M ts)
 |[],i,w,a,E,S,R,ht,hd,h=>by
  cases a with
  |nil=>simpa[dP,gM,KQ,evT]using h
  |cons d a=>simp[dP,MP,MV]at hd
 |t::ts,i,w,a,E,S,R,ht,hd,h=>by
  cases a with
  |nil=>simp[dP,MP,MV]at hd
  |cons d a =>
   simp only[dP,MP,x2,MV]at hd;have b:d.toNat<(fT t i).length:=by omega
   simp only[dP,gM];rw[dif_pos b];have c:=ht t (by simp);simp only[KQ,evT,List.length_cons];rw[show E+(JU LM t.S+KQ LM ts+(JU MN t.S+KQ MN ts)+(NP t.S+evT ts))=E+(JU LM t.S+JU MN t.S+NP t.S)+(KQ LM ts+KQ MN ts+evT ts)by omega,show S+(JU MO t.S+KQ MO ts)=S+JU MO t.S+KQ MO ts by omega,show R+4*((M ts+1:Nat):Int)=R+4+4*M ts by push_cast;omega];exact Fj ts (i+1) _ a _ _ _ (fun u e=>ht u (xc _ e)) hd.2.2 (h.uV (zT c.1 c.2 (xj b)) (Uk (xj b)))
theorem zW(h:AsmIs ts):∀t∈ts,OM t.S<=256:=fun t a=>by
 rw[yT];have b:=xM (p:=LM) a;have c:=h.rd;exact x8 (xk (by omega) (by omega:(JU LM t.S).toNat<=4)) (by decide)
theorem ER(h:AsmIs ts){d:List Int}(f:MV (MP (KC ts)) d):WdOk (KZ (KC ts) d):=by
 have a:WI (KZ (KC ts) d) _ _ _:=Fj ts 0 _ d _ _ _ (fun t c=>⟨(h.wf t c).ok,x3 (zW h t c) (by decide)⟩) f Bc;have i:=h.rd;have j:=h.wr;have m:=h.ev;have n:=h.sc;have o:=h.few;have p:=a.len;have q:=a.sc;have u:=a.g;exact⟨a.pos,by omega,fun e b=>(a.K e b).2.2,by omega,a.vals,fun e b=>⟨(a.K e b).1,(a.K e b).2.1⟩,x3 (Bk (by omega)) (by decide)⟩
theorem Ul(h:AsmIs ts):KerOk ts:=by
 have j:=h.few;refine⟨by omega,fun t a=>⟨(h.wf t a).ok,?_,x3 (zW h t a) (by decide)⟩,fun rs b=>?_,fun rs b r i=>?_,fun d c=>ER h c⟩
 ·exact x3 (h.len t a) (by decide)
 ·obtain⟨t,a,k,rfl⟩:=vV b;exact x3 (x8 (BP t k) (zW h t a)) (by decide)
 ·obtain⟨t,a,k,rfl⟩:=vV b;have:=zT (h.wf t a).ok (x3 (zW h t a) (by decide)) i;exact⟨this.g,fun e f=>(this.K e f).2.2⟩
theorem Um(h:AsmIs ts):(MI ts).y.length<100000000:=by
 have f:(MI ts).y.length<=(uF ts).length:=by
  refine BZ _ _ (Bm (Sa ts)) fun r o=>?_;obtain⟨c,j,e,m,u,n,_,rfl⟩:=(RO ts r).1 o;obtain⟨d,b,rs,p,rfl,_⟩:=QZ.1 j;have q:=ER h (PY b);unfold uF;refine List.mem_flatMap.2 ⟨d,b,?_⟩;have a:=fun v=>EQ (KZ (KC ts) d).E v (OI (KZ (KC ts) d) e) q.evals
  exact List.mem_flatMap.2 ⟨_,sR (a 0),List.mem_flatMap.2 ⟨_,sR (a 1),List.mem_map.2 ⟨_,sR (a 2),Z⟩⟩⟩
 have g:=IX ts 0;have i:4^(KQ LM ts).toNat<=4^4:=xk (by omega) (by have:=h.rd;omega);have x:(LX (MP (KC ts))).length<=256:=x8 g i;rw[Bn]at f;omega
end Q
namespace P
def LD(s:JR):Bool:=OL s.k
theorem Fk:∀{x y:List JR},PB x y->LV y=LV x
 |[],[],_=>Z
 |a::x,b::y,h=>by
  have e:=h.1.eq;have c:b.k=a.k:=by rw[e]
  have f:KP b=KP a:=by rw[e];rfl
  rw[LV,LV,c,f,Fk h.2]
 |[],_::_,h=>by simp[PB]at h
 |_::_,[],h=>by simp[PB]at h
theorem qQ(ts:List JV)(s:JR):(iA ts s).k=s.k/\(iA ts s).label=s.label/\(iA ts s).q=s.q/\KP (iA ts s)=KP s:=by
 unfold iA;split<;>exact⟨Z,Z,Z,Z⟩
theorem Lay.qY(h:Lay st)(c:NI st.k=C):Lay {st with scope:=0}:=
 ⟨h.k0,h.k1,fun e=>⟨(h.os e).al,xW Z,fun _=>Z⟩,fun e=>absurd c (by rw[e];decide),h.d,h.dn,h.v,h.vn,h.a,h.an,h.b,h.bn,h.e11⟩
theorem Lay.iF(h:Lay st)(c:OL st.k=C):Lay {st with q:=1}:=by
 have f:NI st.k=C:=by unfold NI;unfold OL at c;rw[c];rfl
 refine⟨h.k0,h.k1,fun e=>⟨?_,(h.os f).sc,fun e=>by cases e⟩,fun e=>absurd f (by rw[e];decide),h.d,h.dn,h.v,h.vn,h.a,h.an,h.b,h.bn,h.e11⟩;simp only[OL,x7,beq_iff_eq]at c;show OQ st.k 1=C
 rcases c with((e|e)|e)|e<;>rw[e]<;>decide
theorem Un(h:Lay st)(a:OL st.k=C):Lay (bO st):=by
 have b:NI st.k=C:=by unfold NI;unfold OL at a;rw[a];rfl
 exact⟨by show(0:Int)<=4;omega,by show(4:Int)<=11;omega,fun _=>⟨by show OQ 4 4=C;decide,(h.os b).sc,fun e=>by exact absurd e (show ¬(4:Int)=0 by decide)⟩,fun e=>absurd e (show ¬NI 4=false by decide),by show(0:Int)<=0/\(0:Int)<4;omega,fun _=>Z,by show(0:Int)<=0/\(0:Int)<3;omega,fun _=>Z,kC,fun _=>Z,kC,fun _=>Z,fun _=>Z⟩
theorem Uo(h:Lay s):Lay (iA ts s):=by
 unfold iA
 split
 ·rename_i c;refine h.qY ?_;unfold mQ at c
  split at c
  ·rename_i e;unfold NI;rw[e];simp
  ·rw[x9]at c;have:=c.1;unfold OL at this;unfold NI;rw[this];rfl
 ·exact h
theorem Fl(ts:List JV):∀l:List JR,LV (eC ts l)=LV l
 |[]=>Z
 |s::l=>by
  have ih:=Fl ts l;unfold eC at ih⊢;rw[x2,LV,LV,ih,(qQ ts s).1,(qQ ts s).2.2.2]
theorem AJ:∀(l:List JR) (n:Nat),LV (bY (n:Int) l)=iX n (LV l)
 |[],_=>Z
 |s::l,n=>by
  by_cases h5:s.k=5
  ·have a:¬(s.k==4)=C:=by rw[h5];decide
   have e:LV (s::l)=KP s::LV l:=by rw[LV,if_neg a]
   have ih:=AJ l (n+1);have f:iX n (KP s::LV l)=if n==1 then iX (n+1) (LV l)else KP s::iX (n+1) (LV l):=by rw[iX,if_pos (by show(s.k==5)=C;simpa using h5)]
   have g:bY (n:Int) (s::l)=if(n:Int)+1==2 then bY ((n+1:Nat):Int) l else s::bY ((n+1:Nat):Int) l:=by rw[bY,if_pos (by simpa using h5)];rfl
   rw[e,f,g];by_cases hn:n=1
   ·subst hn;exact ih
   ·have b:(n==1)=false:=by simpa using hn
    have c:((n:Int)+1==2)=false:=by rw[beq_eq_false_iff_ne];omega
    rw[b,c];simp only[x6,if_false];rw[LV,if_neg a,ih]
  ·rw[bY,if_neg (by simpa using h5)];by_cases a:s.k=4
   ·rw[LV,if_pos (by simpa using a),LV,if_pos (by simpa using a)];exact AJ l n
   ·have e:LV (s::l)=KP s::LV l:=by rw[LV,if_neg (by simpa using a)]
    have i:LV (s::bY (n:Int) l)=KP s::LV (bY (n:Int) l):=by rw[LV,if_neg (by simpa using a)]
    rw[e,i,iX,if_neg (by show ¬(s.k==5)=C;simpa using h5),AJ l n]
theorem GO{p:Option JR}(h:oY p s=C):s.k=4:=by
 unfold oY at h
 split at h
 ·cases h
 ·unfold qN at h;simp only[x9,beq_iff_eq]at h;exact h.1.1.2
theorem EV:∀(l:List JR) (p:Option JR),LV (cC p l)=LV l
 |[],_=>Z
 |s::l,p=>by
  rw[cC];by_cases c:oY p s=C
  ·rw[if_pos c,LV,if_pos (by rw[GO c];rfl)];exact EV l p
  ·rw[if_neg c,LV,LV,EV l (some s)]
theorem uN:∀(a b:List JR),LV (a++b)=LV a++LV b
 |[],b=>Z
 |s::a,b=>by
  rw[x1,LV,LV,uN a b]
  split<;>rfl
theorem Fm(a:Int->Bool):∀l:List JR,LV (dH a l)=LV l
 |[]=>Z
 |s::l=>by
  rw[dH,uN,Fm a l];have e:LV (iL a s)=LV [s]:=by
   unfold iL
   split
   ·have b:∀c:Bool,LV (if c then[bO s]else[])=[]:=fun c=>by cases c<;>rfl
    rw[uN,uN,b,b,x0,xe];rfl
   ·rfl
  rw[e,show s::l=[s]++l from rfl,uN]
theorem Fo(ts:List JV):∀(l:List JR) (i:Int) (o:List Int),chk i o (eC ts l)=chk i o l
 |[],_,_=>Z
 |s::l,i,o=>by
  have ih:=Fo ts l;unfold eC at ih⊢;rw[x2,chk,chk];simp only[ih,(qQ ts s).1,(qQ ts s).2.1]
theorem uJ(a:s.k≠10)(b:s.k≠11)(i:Int)(o:List Int)(l:List JR):chk i o (s::l)=chk i o l:=by
 rw[chk,if_neg (by simpa using a),if_neg (by simpa using b)]
theorem AZ(s:JR)(h:∀i o,chk i o l'=chk i o l)(i:Int)(o:List Int):chk i o (s::l')=chk i o (s::l):=by
 rw[chk,chk];simp only[h]
theorem AA:∀(l:List JR) (n i:Int) (o:List Int),chk i o (bY n l)=chk i o l
 |[],_,_,_=>Z
 |s::l,n,i,o=>by
  rw[bY]
  split
  ·rename_i a;have a:s.k=5:=by simpa using a
   split
   ·rw[AA l,uJ (by omega) (by omega)]
   ·exact AZ s (fun i o=>AA l (n+1) i o) i o
  ·exact AZ s (fun i o=>AA l n i o) i o
theorem DR:∀(l:List JR) (p:Option JR) (i:Int) (o:List Int),chk i o (cC p l)=chk i o l
 |[],_,_,_=>Z
 |s::l,p,i,o=>by
  rw[cC];by_cases c:oY p s=C
  ·have:=GO c;rw[if_pos c,DR l p,uJ (by omega) (by omega)]
  ·rw[if_neg c];exact AZ s (fun i o=>DR l _ i o) i o
theorem vS{k:Int}(h:OL k=C):k≠4/\k≠5/\k≠10/\k≠11:=by
 simp only[OL,x7,beq_iff_eq]at h;omega
theorem zE(a:Int->Bool)(s:JR):iL a s=[s]\/OL s.k=C/\(iL a s=[{s with q:=1}]\/iL a s=[bO s,{s with q:=1}]\/iL a s=[{s with q:=1},bO s]\/iL a s=[bO s,{s with q:=1},bO s]):=by
 unfold iL
 split
 ·rename_i c;rw[x9]at c;refine xF ⟨c.1,?_⟩
  cases rel s.q<;>cases acq s.q<;>simp
 ·exact xW Z
theorem Fp(c:Int->Bool):∀(l:List JR) (i:Int) (o:List Int),chk i o (dH c l)=chk i o l
 |[],_,_=>Z
 |s::l,i,o=>by
  rw[dH];have ih:=Fp c l;have f:∀i o q,chk i o (bO s::q)=chk i o q:=fun i o q=>uJ (by show(4:Int)≠10;decide) (by show(4:Int)≠11;decide) i o q
  rcases zE c s with e|⟨j,e|e|e|e⟩<;>rw[e]
  ·exact AZ s ih i o
  all_goals
   obtain⟨_,_,a,b⟩:=vS j;have g:∀i o q,chk i o ({s with q:=1}::q)=chk i o q:=fun i o q=>uJ a b i o q
   simp only[x1,x0,f,g,ih,uJ a b]
theorem Fq(f:JV->JV)(h:∀t i,chk i [] (f t).S=chk i [] t.S):∀(ts:List JV) (i:Int),kL i (ts.map f)=kL i ts
 |[],_=>Z
 |t::ts,i=>by
  rw[x2,kL,kL,h];simp only[Fq f h ts]
theorem Fs(ts:List JV):∀(l:List JR) (d:Int),MC d l=G->MC d (eC ts l)=G
 |[],_,_=>Z
 |s::l,d,h=>by
  have ih:=Fs ts l;unfold eC at ih⊢;rw[x2];simp only[MC]at h⊢;rw[(qQ ts s).1]
  split at h
  ·rename_i c;rw[if_pos c];exact ih _ h
  ·rename_i c;rw[if_neg c]
   split at h
   ·rename_i c;rw[if_pos c];exact ih _ h
   ·rename_i c;rw[if_neg c]
    split at h
    ·rename_i c;rw[if_pos c]
     split at h
     ·cases h
     ·rename_i c;rw[if_neg c];exact ih _ h
    ·rename_i c;rw[if_neg c];exact ih _ h
theorem zN(a:∀d,MC d l=G->MC d l'=G)(h:MC d (s::l)=G):MC d (s::l')=G:=by
 simp only[MC]at h⊢
 split at h
 ·rename_i c;rw[if_pos c];exact a _ h
 ·rename_i c;rw[if_neg c]
  split at h
  ·rename_i c;rw[if_pos c];exact a _ h
  ·rename_i c;rw[if_neg c]
   split at h
   ·rename_i c;rw[if_pos c]
    split at h
    ·cases h
    ·rename_i c;rw[if_neg c];exact a _ h
   ·rename_i c;rw[if_neg c];exact a _ h
theorem yD(c:s.k≠5)(a:s.k≠10)(b:s.k≠11)(d:Int)(l:List JR):MC d (s::l)=MC d l:=by
 simp only[MC];rw[if_neg (by simpa using a),if_neg (by simpa using b),if_neg (by simpa using c)]
theorem Uq(a:s.k=5)(h:MC d (s::l)=G):MC d l=G:=by
 have:=(zM h).2;rw[if_neg (by omega),if_neg (by omega),Int.add_zero,Int.sub_zero]at this;exact this
theorem yJ:∀(l:List JR) (n d:Int),MC d l=G->MC d (bY n l)=G
 |[],_,_,_=>Z
 |s::l,n,d,h=>by
  rw[bY]
  split
  ·rename_i a;have a:s.k=5:=by simpa using a
   split
   ·exact yJ l _ d (Uq a h)
   ·exact zN (fun d h=>yJ l (n+1) d h) h
  ·exact zN (fun d h=>yJ l n d h) h
theorem GX:∀(l:List JR) (p:Option JR) (d:Int),MC d l=G->MC d (cC p l)=G
 |[],_,_,_=>Z
 |s::l,p,d,h=>by
  rw[cC];by_cases c:oY p s=C
  ·have:=GO c;rw[if_pos c];rw[yD (by omega) (by omega) (by omega)]at h;exact GX l p d h
  ·rw[if_neg c];exact zN (fun d h=>GX l _ d h) h
theorem Ft(c:Int->Bool):∀(l:List JR) (d:Int),MC d l=G->MC d (dH c l)=G
 |[],_,_=>Z
 |s::l,d,h=>by
  rw[dH];have ih:=Ft c l;have f:∀d q,MC d (bO s::q)=MC d q:=fun d q=>yD (by show(4:Int)≠5;decide) (by show(4:Int)≠10;decide) (by show(4:Int)≠11;decide) d q
  rcases zE c s with e|⟨j,e|e|e|e⟩<;>rw[e]
  ·exact zN ih h
  all_goals
   obtain⟨_,i,a,b⟩:=vS j;have g:∀d q,MC d ({s with q:=1}::q)=MC d q:=fun d q=>yD i a b d q
   rw[yD i a b]at h;simp only[x1,x0,f,g];exact ih d h
structure Cnts(l' l:List JR)(k:Int):Prop where
 nE:JU nE l'<=JU nE l+k
 iE:JU iE l'<=JU iE l
 LM:JU LM l'<=JU LM l
 MN:JU MN l'<=JU MN l
 MO:JU MO l'<=JU MO l
 LD:JU LD l'<=JU LD l
 ev:NP l'<=NP l+k
theorem Cnts.cons(s:JR){k:Int}(h:Cnts l' l k):Cnts (s::l') (s::l) k :=
 ⟨by have:=h.nE;simp only[JU];omega,by have:=h.iE;simp only[JU];omega,by have:=h.LM;simp only[JU];omega,by have:=h.MN;simp only[JU];omega,by have:=h.MO;simp only[JU];omega,by have:=h.LD;simp only[JU];omega,by have:=h.ev;simp only[NP];omega⟩
theorem Ur(s:JR):(0:Int)<=if s.k==4 then 1 else if s.k==5 then 2 else 0:=by split<;>(try split)<;>omega
theorem pP(b:Bool):(0:Int)<=if b then 1 else 0:=by cases b<;>decide
theorem Cnts.wE(s:JR){k:Int}(h:Cnts l' l k):Cnts l' (s::l) k:=by
 have e:=Ur s;have a:=pP (P.nE s);have b:=pP (P.iE s);have c:=pP (P.LM s);have f:=pP (P.MN s);have g:=pP (P.MO s);have i:=pP (P.LD s);exact⟨by have:=h.nE;simp only[JU];omega,by have:=h.iE;simp only[JU];omega,by have:=h.LM;simp only[JU];omega,by have:=h.MN;simp only[JU];omega,by have:=h.MO;simp only[JU];omega,by have:=h.LD;simp only[JU];omega,by have:=h.ev;simp only[NP];omega⟩
theorem BG:Cnts [] [] 0:=⟨by simp[JU],by simp[JU],by simp[JU],by simp[JU],by simp[JU],by simp[JU],by simp[NP]⟩
theorem Fu(ts:List JV):∀l:List JR,Cnts (eC ts l) l 0
 |[]=>BG
 |s::l=>by
  have h:=Fu ts l;unfold eC at h⊢;obtain⟨a,_,b,_⟩:=qQ ts s;have q:=h.cons s;have r:∀p:JR->Bool,p (iA ts s)=p s->JU p (iA ts s::l.map (iA ts))=JU p (s::l.map (iA ts)):=fun p c=>by simp only[JU,c]
  rw[x2];exact⟨by rw[r nE (by unfold nE;rw[a])];exact q.nE,by rw[r iE (by unfold iE;rw[a])];exact q.iE,by rw[r LM (by unfold LM;rw[a])];exact q.LM,by rw[r MN (by unfold MN;rw[a])];exact q.MN,by rw[r MO (by unfold MO;rw[a,b])];exact q.MO,by rw[r LD (by unfold LD;rw[a])];exact q.LD,by have:=q.ev;simp only[NP,a]at this⊢;exact this⟩
theorem AO:∀(l:List JR) (n:Int),Cnts (bY n l) l 0
 |[],_=>BG
 |s::l,n=>by
  rw[bY]
  split
  ·split
   ·exact(AO l _).wE s
   ·exact(AO l _).cons s
  ·exact(AO l _).cons s
theorem JJ:∀(l:List JR) (p:Option JR),Cnts (cC p l) l 0
 |[],_=>BG
 |s::l,p=>by
  rw[cC]
  split
  ·exact(JJ l _).wE s
  ·exact(JJ l _).cons s
theorem Fv(i:Int->Bool):∀l:List JR,Cnts (dH i l) l (2*JU LD l)
 |[]=>by have:=BG;simpa[JU,dH]using this
 |s::l=>by
  have h:=Fv i l;rw[dH]
  rcases zE i s with e|⟨m,e|e|e|e⟩<;>rw[e]
  ·have q:=h.cons s;have p:=pP (LD s);have j:JU LD (s::l)=(if LD s then 1 else 0)+JU LD l:=Z;exact⟨by have:=q.nE;rw[j];simp only[x1,x0];omega,q.iE,q.LM,q.MN,q.MO,q.LD,by have:=q.ev;rw[j];simp only[x1,x0];omega⟩
  all_goals
   have u:=h.nE;have v:=h.iE;have x:=h.LM;have y:=h.MN;have z:=h.MO;have A:=h.LD;have B:=h.ev;have D:LD s=C:=m;obtain⟨n,o,_,b⟩:=vS m;have f:(s.k==4)=false:=by simpa using n
   have g:(s.k==5)=false:=by simpa using o
   have c:(s.k==11)=false:=by simpa using b
   have a:(s.k != 11)=C:=by simpa using b
   constructor<;>simp[JU,NP,nE,iE,LM,MN,MO,LD,bO,f,g,c,a,eE,oS,OL]at*<;> omega
end P
end Go.Proofs.YtlikcongbhhpfaaGreatDoor
