import Derived.Test.YteekngiepnnmjaaGreatDoorV25
set_option linter.all false
set_option maxHeartbeats 0
namespace Go.Proofs.YteekngiepnnmjaaGreatDoor
open Go Go.RowKit Go.Proofs.Tryz P Q R
open scoped Classical
set_option maxRecDepth 1000000
open _root_ renaming List->Y,List->σ,Int->S,Int->ν,if_pos->ι,Nat->U,Nat->ω,if_neg->ξ,if_true->ψ,decide_eq_true_eq->φ,beq_iff_eq->ρ,Bool->τ,absurd->π
variable {s:σ ω}{a b k m n v:ν}{l:σ Tree}{r:Run}{i j t u:ω}{st:VW}{ss:σ VW}{B:ω->ω->τ}{ats ds f rs:σ ν}{es qes:σ Ev}{W:Wd}{ts:σ R.Th}{w:Q.Wd}{us:σ VZ}
open List renaming length->I
open Bool renaming true->C,false->O
open List renaming foldl_cons->xF,mem_cons_of_mem->x6,getElem_mem->x7,range->x8,length_append->xa,getD_eq_getElem?_getD->xb,mem_append->xc,foldl_append->xd,nil_append->xg,mem_range->xh,nodup_append->xi,take_succ_eq_append_getElem->xk,append_assoc->xm,take_length->xn,idxOf_lt_length_of_mem->xo,mem_filter->xq
open Nat renaming le_refl->xR
open Bool renaming and_eq_true->xW,false_eq_true->x9,noConfusion->xp
open Or renaming inl->x4,inr->x5
open Int renaming le_refl->xe,toNat_natCast->xj
namespace J
def enc:Y S->U
 |[]=>0
 |v::l=>v.toNat+4*enc l
def EvP(t:U)(b:S)(e:E)(q:Ev):Prop:=ER ((e.bM (t:S)).bY b) q/\q.j=(t:S)/\∀k:U,YF q.h (k:S)=C↔(k:S)∈e.on
structure Sim(t:ω)(b:ν)(m:Ew)(s:PS):Prop where
 th:m.j=(t:ν)
 bk:m.block=b
 rg:m.g=s.g
 ml:I m.made=4
 md:∀i,i<4->∀k:ω,YF (m.made.getD i 0) (k:ν)=C↔(k:ν)∈s.hang.getD i []
 as_:∀k:ω,YF m.A (k:ν)=C↔(k:ν)∈s.way
 br:(m.u:ν)=s.round
 el:I m.E=I s.e
 ev:∀i,i<I s.e->EvP t b (J.ev s.e i) (Q.ev m.E i)
 un:m.Y=enc s.D
theorem Mu{o:S}(c:0<=o)(d:o<6):Go.Proofs.YteekngiepnnmjaaGreatDoor.ordW o=ordW o:=by
 have:o=0\/o=1\/o=2\/o=3\/o=4\/o=5:=by omega
 rcases this with rfl|rfl|rfl|rfl|rfl|rfl<;>decide
theorem Mv{o s:S}(h:OkOS o s):(scW o s==sDev)=(s==1):=by
 unfold scW
 rcases h.s0 with rfl|rfl
 ·by_cases c:o=0
  ·subst c;decide
  ·have:(o==0)=O:=by simpa using c
   rw[this];decide
 ·by_cases c:o=0
  ·have:=h.w c;omega
  ·have:(o==0)=O:=by simpa using c
   rw[this];decide
section
variable {t n:ω}{b:ν}{m:Q.Ew}{s:PS}{st:P.VW}{x:R.Lh}
theorem Sim.val(h:Sim t b m s){o:ZD}(c:ZW o a):m.value o=s.val a:=by
 obtain⟨e,d,g⟩:=c;unfold Ew.value PS.val;unfold vM at e
 cases hr:o.VX
 ·grind
 ·rw[hr]at e;simp only[ψ]at e⊢;rw[ξ (by omega),ι (by omega),h.rg,e]
  congr 1;omega
theorem Sim.aM(h:Sim t b m s){o:ZD}(c:ZW o a)(k:ω):YF (m.Ea o) (k:ν)=C↔(k:ν)∈s.aM a:=by
 obtain⟨e,d,g⟩:=c;unfold Ew.Ea PS.aM;unfold vM at e
 cases hr:o.VX
 ·simp_all [x9,if_false,ξ,Ae]
 ·rw[hr]at e;simp only[ψ]at e⊢;rw[ξ (by omega),ι (by omega),h.md _ (by omega) k]
  grind
theorem Sim.put(h:Sim t b m s){l:σ E}{ql:σ Ev}(g:I ql=I l)(o:∀i,i<I l->EvP t b (J.ev l i) (Q.ev ql i)):Sim t b {m with E:=m.E++ql} (s.put l):=by
 refine⟨h.th,h.bk,h.rg,h.ml,h.md,h.as_,h.br,by simp[PS.put,h.el,g],λi d=>?_,h.un⟩;simp only[PS.put,xa]at d;show EvP t b (J.ev (s.e++l) i) (Q.ev (m.E++ql) i);by_cases c:i<I s.e
 ·rw[EF c,show Q.ev (m.E++ql) i=Q.ev m.E i by grind [Q.ev,Sim.el]];exact h.ev i c
 grind [BJ,Q.ev,Sim.el]
theorem Sim.aO(h:Sim t b m s){r:ν}{l:σ ν}(x:0<=r)(y:r<4)(o:I s.hang=4)(p:I s.g=4)(q:∀k:ω,YF u (k:ν)=C↔(k:ν)∈l):Sim t b (m.aO r v u) (s.aO r v l):=by
 unfold Ew.aO PS.aO;rw[ξ (by omega)];refine⟨h.th,h.bk,by grind [Sim.rg],by simp[h.ml],λi d k=>?_,h.as_,h.br,h.el,h.ev,h.un⟩;simp only;by_cases c:r.toNat=i
 ·subst c;rw[LZ,ι ⟨rfl,by omega⟩]
  grind [Sim.ml]
 ·rw[LZ,ξ λe=>c e.1];rw[xb,List.getElem?_set_ne c,<- xb];exact h.md i d k
theorem Mw(h:Sim t b m s)(c:Twin st x)(g:ZU st.kind=C){kd:S}(o:kd=0\/kd=1){half:τ}(J:half=(st.kind==2||st.kind==3)){on:Y S}{hg:U}(p:∀k:U,YF hg (k:S)=C↔(k:S)∈on)(y:st.q<=4):
  EvP t b ⟨0,0,if kd=0 then⟨#[114]⟩else⟨#[119]⟩,x.z,v,x.ord,x.scope,half,0,on⟩ {m.V kd st with value:=v,h:=hg}:=by
 obtain⟨d,A,D⟩:=c.acc g;obtain⟨F,G,e,H⟩:=c.os (by grind);have K:(kd==0||kd==1)=C:=by grind
 refine⟨⟨?_,?_,?_,?_,λ_=>⟨d,Z,?_⟩,λ_=>⟨⟨e.o0,by grind [Ew.V]⟩,?_⟩,λ_=>y,?_,λ_=>?_,?_⟩,h.th,p⟩
 ·grind [Ew.V]
 ·rcases o with rfl|rfl
  ·simp only[Ew.V,ψ];rw[Ar];simp[E.bM,E.bY,kR,bI]
  ·simp only[Ew.V];rw[Ar];simp[E.bM,E.bY,kW,bI]
 ·simp only[Ew.V,E.bM,E.bY];exact h.th.symm
 ·intro _;simp only[Ew.V,E.bM,E.bY];exact h.bk.symm
 ·simp_all [Ew.V,E.bM,E.bY,Bool.true_and]
 ·grind [Ew.V,E.bM,E.bY,Mu,OkOS.o0]
 ·grind [Ew.V]
 ·grind [Ew.V,E.bM,E.bY,Mv]
 grind [Ew.V]
theorem kLO(h:Sim t b m s)(o:Twin st x)(q:st.kind=4):EvP t b (fE x) (m.V 2 st):=by
 obtain⟨d,g,c,p⟩:=o.os (by grind);refine⟨⟨by simp[Ew.V],by simp[Ew.V,E.bM,E.bY,fE,Ar,kF,bI],by simp only[Ew.V,E.bM,E.bY,fE];exact h.th.symm,λ_=>by simp only[Ew.V,E.bM,E.bY,fE];exact h.bk.symm,λe=>by simp[Ew.V]at e,λ_=>⟨⟨c.o0,by have:=c.o1;simp only[Ew.V];omega⟩,?_⟩,λe=>by simp[Ew.V]at e,λe=>by simp[Ew.V]at e,λ_=>?_,λe=>by simp[Ew.V]at e⟩,h.th,λk=>?_⟩
 ·simp only[Ew.V,E.bM,E.bY,fE];rw[d,Mu c.o0 c.o1]
 ·simp only[Ew.V,E.bM,E.bY,fE];rw[g,Mv c]
 ·have:(m.V 2 st).h=0:=by simp[Ew.V]
  rw[this,Ae];simp[fE]
theorem Mx(h:Sim t b m s){kd:S}(c:kd=3\/kd=4):EvP t b ⟨0,0,if kd=3 then⟨#[97]⟩else⟨#[108]⟩,0,0,⟨#[]⟩,⟨#[]⟩,O,s.round,[]⟩ (m.V kd st):=by
 refine⟨⟨?_,?_,?_,?_,?_,?_,?_,?_,?_,?_⟩,h.th,λk=>?_⟩
 ·grind [Ew.V]
 ·rcases c with rfl|rfl
  ·simp[Ew.V,E.bM,E.bY,Ar,kA,bI]
  ·simp[Ew.V,E.bM,E.bY,Ar,kL,bI]
 ·simp only[Ew.V,E.bM,E.bY];exact h.th.symm
 ·intro _;simp only[Ew.V,E.bM,E.bY];exact h.bk.symm
 ·grind [Ew.V]
 ·grind [Ew.V]
 ·grind [Ew.V]
 ·grind [E.bM,E.bY,bI]
 ·grind [Ew.V]
 ·intro _;have e1:(kd==3||kd==4)=C:=by grind
  simp only[Ew.V,E.bM,E.bY,e1,ψ];exact h.br.symm
 grind [Ew.V,Ae]
theorem kLU{l:Y S}(h:∀v∈l,0<=v/\v<4):enc l%4=(l.headD 0).toNat/\enc l/4=enc l.tail/\((enc l%4:U):S)=l.headD 0:=by
 cases l with
 |nil=>simp[enc]
 |cons v l =>
  have:=h v (by simp)
  grind [enc]
end
end J
namespace J
section
variable {t n:ω}{b:ν}{m:Q.Ew}{s:PS}{st:P.VW}{x:R.Lh}
def Mz{o:S}(c:ZU k=C)(d:YV k o=C):o<=4:=by
 unfold ZU at c;unfold YV at d;have e:k=0\/k=1\/k=2\/k=3:=by simp at c;omega
 rcases e with rfl|rfl|rfl|rfl<;>simp at d<;>omega
theorem Sim.bE(h:Sim t b m s)(g:Bnd n s)(d:Twin st x)(c:ZU st.kind=C){half:τ}(o:half=(st.kind==2||st.kind==3)):Sim t b (m.bE st) (s.take.put [rE x (s.D.headD 0) half s.way])/\(m.bE st).aX (I m.E)=s.D.headD 0:=by
 obtain⟨e1,e2,e3⟩:=kLU g.rd;have e:Sim t b {m with Y:=m.Y/4} s.take:=⟨h.th,h.bk,h.rg,h.ml,h.md,h.as_,h.br,h.el,h.ev,by simp only[PS.take];rw[h.un,e2]⟩;have ev:=Mw h d c (x4 Z) o (v:=s.D.headD 0) (on:=s.way) (hg:=m.A) h.as_ (Mz c (d.os (by grind)).2.2.2);have q:=e.put (l:=[rE x (s.D.headD 0) half s.way]) (ql:=[{m.V 0 st with value:=s.D.headD 0,h:=m.A}]) Z λi p=>by
  have:i=0:=by simp at p;omega
  subst this;exact ev
 have y:m.bE st={m with Y:=m.Y/4,E:=m.E++[{m.V 0 st with value:=s.D.headD 0,h:=m.A}]}:=by
  unfold Ew.bE;rw[h.un,e3];simp[Ew.V]
 grind [Ew.aX]
theorem JV{r:U}(c:r<64)(k:U):YF (Q.cT (r:S)) (k:S)=C↔(k:S)∈[(r:S)]:=by
 grind [Lf]
theorem MW{a c:U}{d e:Y S}(g:∀k:U,YF a (k:S)=C↔(k:S)∈d)(o:∀k:U,YF c (k:S)=C↔(k:S)∈e)(k:U):YF (a|||c) (k:S)=C↔(k:S)∈d++e:=by
 grind [LF]
theorem Sim.bX(h:Sim t b m s)(d:Twin st x)(c:ZU st.kind=C){half:τ}(e:half=(st.kind==2||st.kind==3)){on lu:σ ν}(p:∀k:ω,YF u (k:ν)=C↔(k:ν)∈lu)(o:∀k:ν,k∈on↔k∈s.way\/k∈lu):Sim t b (m.bX st v u) (s.put [wE x v half on]):=by
 have ev:=Mw h d c (x5 Z) e (v:=v) (on:=on) (hg:=m.A|||u) λk=>by rw[LF,h.as_,p,o] (Mz c (d.os (by grind)).2.2.2);exact h.put (l:=[wE x v half on]) (ql:=[{m.V 1 st with value:=v,h:=m.A|||u}]) Z λi g=>by
  have:i=0:=by simp at g;omega
  subst this;exact ev
def kMT(a v:S)(c:0<=a/\a<4)(d:0<=v/\v<4):(a+4-v)%4=(a-v+4)%4:=by omega
theorem Sim.step(h:Sim t b m s)(g:Bnd n s)(c:Twin st x)(Y:I s.e<60):Sim t b (m.bU st) (s.step x):=by
 have d:=c.op;have q:=h.val c.oa;have S:=h.val c.ob;have p:=h.aM c.oa;have N:=h.aM c.ob;have kd:=c.kd;have U:st.kind=0\/st.kind=1\/(st.kind=2\/st.kind=3)\/st.kind=4\/st.kind=5\/st.kind=6\/st.kind=7\/st.kind=8\/st.kind=9:=by omega
 rcases U with k|k|k|k|k|k
 ·have o:ZU st.kind=C:=by rw[k];rfl
  obtain⟨H,J⟩:=h.bE g c o (half:=O) (by grind);obtain⟨y,z,A⟩:=c.rg (by rw[k];rfl);have e1:m.bU st=(m.bE st).bG st.dest (I m.E):=by grind [Ew.bU]
  have e2:s.step x=s.load x:=by unfold PS.step;rw[d,k];rfl
  rw[e1,e2];unfold Ew.bG PS.load;rw[J,y,h.el];exact H.aO z A g.hl g.rl (JV (by omega))
 ·have o:ZU st.kind=C:=by rw[k];rfl
  have e1:m.bU st=m.bX st (m.value st.a) (m.Ea st.a):=by unfold Ew.bU;rw[k];rfl
  have e2:s.step x=s.put [wE x (s.val x.a) O (s.aM x.a++s.way)]:=by unfold PS.step;rw[d,k];rfl
  rw[e1,e2,q];exact h.bX c o (by grind) p λk=>by grind
 ·have o:ZU st.kind=C:=by rcases k with k|k<;>rw[k]<;>rfl
  have L:C=(st.kind==2||st.kind==3):=by rcases k with k|k<;>rw[k]<;>rfl
  obtain⟨H,J⟩:=h.bE g c o L;obtain⟨y,z,A⟩:=c.rg (by rcases k with k|k<;>rw[k]<;>rfl);have e1:m.bU st=m.step st:=by unfold Ew.bU;rcases k with k|k<;>rw[k]<;>rfl
  rw[e1];have T:∀{v:ν} {u:ω},((m.bE st).bX st v u).aX (I m.E)=s.D.headD 0:=λ{v u}=>by
   rw[<- J];simp[Ew.aX,Ew.bX,Ew.put,Ew.bE]
  rcases k with k|k
  ·have e2:s.step x=s.add x:=by unfold PS.step;rw[d,k];rfl
   have e3:m.step st=((m.bE st).bX st ((m.value st.a+(m.bE st).aX (I m.E))%4) (m.Ea st.a|||Q.cT (I m.E:ω))).bG st.dest (I m.E):=by unfold Ew.step;rw[k];rfl
   rw[e2,e3,J,q];have K:=H.bX c o L (v:=(s.val x.a+s.D.headD 0)%4) (u:=m.Ea st.a|||Q.cT (I m.E:ω)) (lu:=s.aM x.a++[(I m.E:ν)]) (on:=s.aM x.a++s.way++[(I s.e:ν)]) (MW p (JV (by rw[h.el];omega))) λk=>by
    rw[h.el];show k∈s.aM x.a++s.way++[(I s.e:ν)]↔k∈s.way\/k∈s.aM x.a++[(I s.e:ν)];simp only[xc,List.mem_singleton];constructor
    ·rintro((a|a)|a)
     ·exact x5 (x4 a)
     ·exact x4 a
     ·exact x5 (x5 a)
    ·rintro(a|a|a)
     ·exact x4 (x5 a)
     ·exact x4 (x4 a)
     ·exact x5 a
   unfold Ew.bG;rw[T,h.el];rw[h.el]at K;have:=K.aO (r:=st.dest) (v:=s.D.headD 0) (u:=Q.cT (I s.e:ω)) (l:=[(I s.e:ν)]) z A g.hl g.rl (JV (by omega));unfold PS.add;rw[y];simpa[PS.put]using this
  ·have e2:s.step x=s.swap x:=by unfold PS.step;rw[d,k];rfl
   have e3:m.step st=((m.bE st).bX st (m.value st.a) (m.Ea st.a)).bG st.dest (I m.E):=by unfold Ew.step;rw[k];rfl
   rw[e2,e3,q];have K:=H.bX c o L (v:=s.val x.a) (u:=m.Ea st.a) (lu:=s.aM x.a) (on:=s.aM x.a++s.way) p (λk=>by rw[xc];exact or_comm);unfold Ew.bG;rw[T,h.el];have:=K.aO (r:=st.dest) (v:=s.D.headD 0) (u:=Q.cT (I s.e:ω)) (l:=[(I s.e:ν)]) z A g.hl g.rl (JV (by omega));unfold PS.swap;rw[y];simpa[PS.put]using this
 ·have e1:m.bU st=m.put (m.V 2 st):=by unfold Ew.bU;rw[k];rfl
  have e2:s.step x=s.put [fE x]:=by unfold PS.step;rw[d,k];rfl
  rw[e1,e2];exact h.put (l:=[fE x]) (ql:=[m.V 2 st]) Z λi M=>by
   have:i=0:=by simp at M;omega
   subst this;exact kLO h c k
 ·have e1:m.bU st=m.dN st:=by unfold Ew.bU;rw[k];rfl
  have e2:s.step x={s.put [aE s.round,lE s.round]with round:=s.round+1}:=by unfold PS.step;rw[d,k];rfl
  rw[e1,e2];have:=h.put (l:=[aE s.round,lE s.round]) (ql:=[m.V 3 st,m.V 4 st]) Z λi M=>by
   have:i=0\/i=1:=by simp at M;omega
   rcases this with rfl|rfl
   ·exact Mx h (x4 Z)
   ·exact Mx h (x5 Z)
  exact⟨this.th,this.bk,this.rg,this.ml,this.md,this.as_,by show((m.u+1:ω):ν)=s.round+1;have:=h.br;omega,this.el,this.ev,this.un⟩
 ·have e1:m.bU st=m.aO st.dest (m.bL st) (m.Ea st.a|||m.Ea st.b):=by unfold Ew.bU;rcases k with k|k|k|k<;>rw[k]<;>rfl
  have e2:s.step x=s.set x:=by unfold PS.step;rcases k with k|k|k|k<;>rw[d,k]<;>rfl
  obtain⟨y,z,A⟩:=c.rg (by rcases k with k|k|k|k<;>rw[k]<;>rfl);rw[e1,e2];have G:=c.sg;have fin:∀{v:ν} {l:σ ν},(∀k:ω,YF (m.Ea st.a|||m.Ea st.b) (k:ν)=C↔(k:ν)∈l)->m.bL st=v->Sim t b (m.aO st.dest (m.bL st) (m.Ea st.a|||m.Ea st.b)) (s.aO x.VX v l):=λF X=>by
   rw[X,y];exact h.aO z A g.hl g.rl F
  unfold PS.set
  rcases k with k|k|k|k
  ·rw[G,k];show Sim t b _ (s.aO x.VX (s.val x.a) (s.aM x.a));refine fin (λj=>?_) (by unfold Ew.bL;rw[k];exact q);have:m.Ea st.b=0:=by unfold Ew.Ea;rw[c.b6 k];rfl
   rw[this,Nat.or_zero];exact p j
  ·rw[G,k];show Sim t b _ (s.aO x.VX ((s.val x.a+s.val x.b)%4) (s.aM x.a++s.aM x.b));exact fin (MW p N) (by unfold Ew.bL;rw[k,q,S];rfl)
  ·rw[G,k];show Sim t b _ (s.aO x.VX ((s.val x.a-s.val x.b+4)%4) (s.aM x.a++s.aM x.b));exact fin (MW p N) (by unfold Ew.bL;rw[k,q,S];exact kMT _ _ (g.val (a:=x.a) (by have:=c.oa;unfold ZW vM at this;split at this<;>omega) (by have:=c.oa;unfold ZW vM at this;split at this<;>omega)) (g.val (a:=x.b) (by have:=c.ob;unfold ZW vM at this;split at this<;>omega) (by have:=c.ob;unfold ZW vM at this;split at this<;>omega)))
  ·rw[G,k];show Sim t b _ (s.aO x.VX (if s.val x.a==s.val x.b then 1 else 0) (s.aM x.a++s.aM x.b));exact fin (MW p N) (by unfold Ew.bL;rw[k,q,S];rfl)
end
end J
namespace J
theorem QX{o:ZD}(h:ZW o a):-4<=a/\a<4:=by
 grind [ZW,vM]
def M2{x:Lh}(h:Twin st x):Fit x:=by
 have a:=QX h.oa;have b:=QX h.ob;have kd:=h.kd;have c:=h.op;have d:st.kind=0\/st.kind=1\/st.kind=2\/st.kind=3\/st.kind=4\/st.kind=5\/st.kind=6\/st.kind=7\/st.kind=8\/st.kind=9:=by omega
 refine⟨λe=>?_,a.1,a.2,b.1,b.2,?_⟩
 ·have q:isD st.kind=C:=by
   rw[c]at e
   rcases d with k|k|k|k|k|k|k|k|k|k<;>rw[k]at e⊢<;>first|rfl|exact π e (by decide)
  obtain⟨g,o,p⟩:=h.rg q;rw[g];exact⟨o,p⟩
 ·rw[c]
  rcases d with k|k|k|k|k|k|k|k|k|k<;>rw[k]<;>decide
def kMU(h:-4<=a/\a<4):Fit (gH a):=by
 refine⟨λe=>?_,h.1,h.2,by simp[gH,x0],by simp[gH,x0],?_⟩
 ·rw[vC]at e;exact π e (by decide)
 ·rw[vC];decide
def M4(h:XK n l ss m):fitL l:=by
 induction h using XK.ind with
 |nil=>rw[UF];trivial
 |leaf t o _ ih=>rw[AL];exact⟨⟨M2 t,by rw[UF];trivial⟩,ih⟩
 |node i f e g ih1 ih2=>rw[AL];exact⟨⟨kMU (QX i.o),ih1⟩,ih2⟩
theorem kKx(h:XK n l ss m):∀(x:Ew) (d:U),ss.foldl aN (x,d+1)=(x,d+1):=by
 induction h using XK.ind with
 |nil=>intro x d;rfl
 | @leaf n m st y l ss t o f ih =>
  intro x d;rw[xF];have e:aN (x,d+1) st=(x,d+1):=by
   unfold aN;rw[t.k10,t.k11];simp
  rw[e];exact ih x d
 | @node n m k a st e b l bs ss i f d g ih1 ih2 =>
  intro x j;rw[xF,xd,xF];have e1:aN (x,j+1) st=(x,j+1+1):=by
   grind [aN,IfT.k]
  have e2:aN (x,j+1+1) e=(x,j+1):=by
   unfold aN;rw[d.k];simp
  rw[e1,ih1 x (j+1),e2];exact ih2 x j
def Sim.cM{m:Ew}{s:PS}{x:Lh}(h:Sim t b m s)(c:ZW st.a x.a):Sim t b (m.cM st) (s.cM x):=
 ⟨h.th,h.bk,h.rg,h.ml,h.md,λk=>by
  show YF (m.A|||m.Ea st.a) (k:ν)=C↔(k:ν)∈s.way++s.aM x.a;rw[LF,h.as_,h.aM c,xc],h.br,h.el,h.ev,h.un⟩
theorem JC(t:Tree)(l:Y Tree):WV (t::l)=1+WV t.body+WV l:=by grind [WV,mZ,jP]
def NU(l:Y Tree):0<=WV l:=(gO _ l).1
def pM(l:Y VW):S:=P.VY P.XG l+P.VY P.XI l+iK l
theorem NX:∀l:Y VW,0<=iK l
 |[]=>xe _
 |s::l=>by
  have:=NX l
  grind [iK]
def DF(l:Y VW):0<=pM l:=by
 have a:=(pK P.XG l).1;have b:=(pK P.XI l).1;have c:=NX l;unfold pM;omega
theorem VA:∀a b:Y VW,pM (a++b)=pM a+pM b
 |[],b=>by simp[pM,P.VY,iK]
 |s::a,b=>by
  have:=VA a b
  grind [pM,P.VY,iK]
def VT(s:VW)(l:Y VW):pM (s::l)=pM [s]+pM l:=VA [s] l
def M5{l:Y VW}{p p':Ew×U}(e:l.foldl aN p=p'):(I p'.1.E:S)<=I p.1.E+pM l:=by
 rw[<- e];exact SA l p
theorem kLB(h:XK n l ss k):∀(t:ω) (b:ν) (m:Ew) (s:PS) (j:ω),Sim t b m s->Bnd j s->j+(WV l).toNat<42->(I m.E:ν)+pM ss<=59->∃m',ss.foldl aN (m,0)=(m',0)/\Sim t b m' (doL s l):=by
 induction h using XK.ind with
 |nil=>intro t b m s j h _ _ _;exact⟨m,Z,by grind [bW]⟩
 | @leaf n m' st y l ss tw o f ih =>
  intro t b m s j h z A F;rw[JC]at A;have V:=NU l;have X:=NU (Tree.mk y []).body;rw[VT]at F;have N:=DF [st];have S:=DF ss;have H:=h.el;have ee:=z.e;have e:aN (m,0) st=(m.bU st,0):=by
   grind [aN,Twin.k10]
  have q:=M5 (l:=[st]) (p:=(m,0)) (p':=(m.bU st,0)) (by grind);simp only at q;rw[xF,e,nT];have D:eV s ⟨y,[]⟩=s.step y:=by
   simp_all [eV,ξ,oIf]
  rw[D];exact ih t b _ _ (j+1) (h.step z tw (by omega)) (z.step (M2 tw)) (by omega) (by omega)
 | @node n m' k a st e bd l bs ss i f d g ih1 ih2 =>
  intro t b m s j h z A F;rw[VT,VA,VT e ss]at F;have N:=DF [st];have S:=DF bs;have Y:=DF [e];have c4:=DF ss;have H:((m.cM st).E.length:ν)=I m.E:=Z;rw[JC]at A;have V:=NU l;have X:0<=WV bd:=NU bd;have T:j+(1+WV bd+WV l).toNat<42:=A;have K:ZW st.a (gH a).a:=i.o;have hv:=h.val K;have J:=h.cM K;have x:Bnd (j+1) (s.cM (gH a)):=z.cM;have e1:aN (m,0) st=(m.cM st,if s.val (gH a).a==0 then 1 else 0):=by
   grind [aN,IfT.k]
  have D:eV s ⟨gH a,bd⟩=if s.val (gH a).a==0 then s.cM (gH a)else doL (s.cM (gH a)) bd:=by
   unfold eV;rw[ι (by simp only;rw[vC];rfl)]
  rw[xF,xd,xF,e1,nT,D]
  cases c:s.val (gH a).a==0 with
  |true =>
   simp only[ψ];have e2:aN (m.cM st,1) e=(m.cM st,0):=by
    unfold aN;rw[d.k];simp
   rw[kKx f (m.cM st) 0,e2];exact ih2 t b _ _ (j+1) J x (by omega) (by omega)
  |false =>
   simp only[x9,if_false];obtain⟨L,M,U⟩:=ih1 t b _ _ (j+1) J x (by omega) (by omega);have e2:aN (L,0) e=(L,0):=by
    unfold aN Ew.bU;rw[d.k];simp
   have q:=M5 M;simp only at q;rw[M,e2];have G:=fO bd (s.cM (gH a)) (j+1) x (M4 f);exact ih2 t b _ _ _ U G (by omega) (by omega)
theorem kKk(t:U)(b:S)(r:Y S):Sim t b (Ew.start t b (enc r)) (PS.aY r):=by
 refine⟨Z,Z,Z,Z,λi c k=>?_,λk=>?_,Z,Z,λi c=>by simp[PS.aY]at c,Z⟩
 ·have:i=0\/i=1\/i=2\/i=3:=by omega
  grind [Ew.start,PS.aY,Ae]
 ·simp[Ew.start,PS.aY,Ae]
theorem M6:∀{r:Y S},(∀v∈r,0<=v/\v<4)->enc r<4^I r
 |[],_=>by simp[enc]
 |v::r,h=>by
  have d:=M6 (r:=r) λx c=>h x (x6 _ c);have e:=h v (by simp)
  grind [enc]
theorem M7:∀(n c:U),c<4^n->∃r:Y S,I r=n/\(∀v∈r,0<=v/\v<4)/\enc r=c
 |0,c,h=>⟨[],Z,by simp,by grind [enc]⟩
 |n+1,c,h=>by
  obtain⟨r,d,g,o⟩:=M7 n (c/4) (by omega);refine⟨((c%4:U):S)::r,by simp[d],λv e=>?_,by grind [enc]⟩
  grind
def M8{x:Lh}(h:Twin st x):P.aZ st.kind=isRd x:=by
 have kd:=h.kd;unfold isRd;rw[h.op];have c:st.kind=0\/st.kind=1\/st.kind=2\/st.kind=3\/st.kind=4\/st.kind=5\/st.kind=6\/st.kind=7\/st.kind=8\/st.kind=9:=by omega
 rcases c with k|k|k|k|k|k|k|k|k|k<;>rw[k]<;>decide
def kIM(h:XK n l ss m):∀c:U,ss.foldl (λc st=>if P.aZ st.kind then c*4 else c) c=c*4^(WF isRd l).toNat:=by
 induction h using XK.ind with
 |nil=>intro c;simp[lD]
 | @leaf n m st y l ss t o f ih =>
  intro c;have z:=(gO isRd l).1;rw[xF,ih,M8 t,mZ];simp only[jP,lD]
  cases isRd y
  ·simp
  ·simp only[ψ];rw[show(1+0+WF isRd l).toNat=(WF isRd l).toNat+1 by omega,Nat.pow_succ,Nat.mul_assoc,Nat.mul_comm 4]
 | @node n m k a st e b l bs ss i f d g ih1 ih2 =>
  intro c;have z:=(gO isRd l).1;have A:=(gO isRd b).1;have p:P.aZ st.kind=O:=by rw[i.k];rfl
  have q:P.aZ e.kind=O:=by rw[d.k];rfl
  have x:isRd (gH a)=O:=by unfold isRd;rw[vC];decide
  rw[xF,xd,xF,p,q,mZ];simp only[x9,if_false,jP,x,Int.zero_add];rw[ih1,ih2,show(WF isRd b+WF isRd l).toNat=(WF isRd b).toNat+(WF isRd l).toNat by omega,Nat.pow_add,Nat.mul_assoc]
structure RunR(t:ω)(p:Pth)(r:Run):Prop where
 rg:r.g=p.g
 el:I r.E=I p.e
 ev:∀i,i<I p.e->ER (ev p.e i) (Q.ev r.E i)/\(Q.ev r.E i).j=(t:ν)/\∀k:ω,YF (Q.ev r.E i).h (k:ν)=C↔(k:ν)∈(ev p.e i).on
theorem Sim.run{m:Ew}{s:PS}(h:Sim t b m s):RunR t (s.kO.kT (t:ν) b) m.run:=by
 refine⟨h.rg,by simp[Ew.run,Pth.kT,PS.kO,h.el],λi d=>?_⟩;have c:i<I s.e:=by grind [Pth.kT,PS.kO]
 have e:J.ev (s.kO.kT (t:ν) b).e i=((J.ev s.e i).bM (t:ν)).bY b:=by
  grind [Pth.kT,PS.kO,J.ev]
 rw[e];exact h.ev i c
theorem kLz{u:VZ}{th:R.Th}(h:XK n th.body u.S k)(hb:u.block=th.block)(i:ω)(X:ThOk th)(hE:pM u.S<=59):
  (∀p∈gT th i,∃r∈iS u i,RunR i p r)/\∀r∈iS u i,∃p∈gT th i,RunR i p r:=by
 have k0:=(gO isRd th.body).1;have T:ZO u.S=4^(WF isRd th.body).toNat:=by
  unfold ZO;rw[kIM h 1,Nat.one_mul]
 have G:=X.rd;have K:∀r:σ S,(∀v∈r,0<=v/\v<4)->I r<1000->∃m,mT u i (enc r)=m/\Sim i th.block m (doL (PS.aY r) th.body):=λr F hl=>by
  grind [kLB,kKk,eF,ThOk.sz,Ew.start,mT,uH]
 have M:=λp=>kKm th.body p 4 [] (by simpa using G) λr0 v e=>by simp at e
 constructor
 ·intro p U;obtain⟨q,V,rfl⟩:=List.mem_map.1 U;obtain⟨x,N,z,g,rfl⟩:=(M q).1 V;rw[xg]at z g⊢;have H:=kJR th.body (PS.aY x);rw[g]at H;have Y:(I x:S)<=WF isRd th.body:=by have:(PS.aY x).D=x:=Z;rw[this]at H;simpa using H
  obtain⟨m,d,o⟩:=K x N (by omega);refine⟨m.run,?_,o.run⟩;unfold iS jG;rw[List.mem_map];refine⟨enc x,List.mem_filter.2 ⟨List.mem_range.2 ?_,?_⟩,by rw[d]⟩
  ·grind [Nat.lt_of_lt_of_le,M6,Nat.pow_le_pow_right]
  ·rw[d,o.un,g];rfl
 ·intro r F;unfold iS jG at F;obtain⟨c,E,rfl⟩:=List.mem_map.1 F;obtain⟨J,c2⟩:=List.mem_filter.1 E;rw[xh,T]at J;obtain⟨x,N,z,g⟩:=M7 _ c J;obtain⟨m,d,o⟩:=K x z (by omega);rw[g]at d;rw[d];have L:=(iD th.body (PS.aY x) Z (by show WF isRd th.body<=(I x:S);omega)).1;obtain⟨y,y1,A⟩:=Mm th.body _ L;rw[Mo]at A;have aa:x=y++(doL (PS.aY x) th.body).D:=y1;refine⟨_,List.mem_map.2 ⟨(doL (PS.aY y) th.body).kO,(M _).2 ⟨y,λv hv=>z v (by grind),by rw[xg,A];exact L,by rw[xg,A];rfl,by grind⟩,Z⟩,?_⟩;have e:(doL (PS.aY y) th.body).kO=(doL (PS.aY x) th.body).kO:=by rw[A];rfl
  rw[e];exact o.run
def ZP(jes:Y E)(i:U):τ:=(ev jes i).kind.toList==kW
structure BO(jes:σ E)(B:ω->ω->τ):Prop where
 same:∀i k,B i k=C->i<I jes/\k<I jes/\ZP jes i=C/\ZP jes k=C/\(ev jes i).loc=(ev jes k).loc
 irr:∀i,B i i=O
 trans:∀i j k,B i j=C->B j k=C->B i k=C
 total:∀i k,i<I jes->k<I jes->i≠k->ZP jes i=C->ZP jes k=C->(ev jes i).loc=(ev jes k).loc->B i k=C\/B k i=C
 first:∀i k,B i k=C->3<=k
def F3(jes:Y E):Prop:=3<=I jes/\∀i,i<3->ZP jes i=C/\(ev jes i).loc=(i:S)
theorem PA{B:U->U->τ}(c:∀i,B i i=O)(trans:∀i j k,B i j=C->B j k=C->B i k=C):∀(L:Y U),L≠[]->∃i∈L,∀k∈L,B k i=O
 |[],h=>π Z h
 |[x],_=>⟨x,by simp,λk e=>by grind⟩
 |x::y::L,_=>by
  obtain⟨i,d,h⟩:=PA c trans (y::L) (by simp)
  grind
section
variable {jes:σ E}{B:ω->ω->τ}
structure Good(jes:σ E)(B:ω->ω->τ)(seq:σ ω):Prop where
 nd:seq.Nodup
 wr:∀x∈seq,wr jes x
 bef:∀i k,i∈seq->J.wr jes k->B k i=C->k∈seq/\seq.idxOf k<seq.idxOf i
theorem kNr{seq:Y U}(h:¬lL jes seq):∃j,Nxt jes seq j:=by
 have:∃i,wr jes i/\i∉seq:=Classical.byContradiction λn=>h λi e=>Classical.byContradiction λc=>n ⟨i,e,c⟩
 obtain⟨i,e⟩:=this;have g:∀n,∀i,i<=n->wr jes i/\i∉seq->∃j,Nxt jes seq j:=by
  intro n
  induction n with
  |zero =>
   intro i o h;exact⟨i,h.1,h.2,λk x _=>by omega⟩
  |succ n ih =>
   intro i o h;by_cases c:∃k,k<i/\wr jes k/\k∉seq
   ·grind
   ·exact⟨i,h.1,h.2,λk p q=>Classical.byContradiction λd=>c ⟨k,p,q,d⟩⟩
 exact g i i (xR _) e
theorem kLE{seq:Y U}{x:U}(h:x∈seq):(seq++[i]).idxOf x=seq.idxOf x:=by
 grind
theorem BO.good(y:BO jes B):∀(m:ω) (seq:σ ω),eO jes seq<=m->Good jes B seq->∃s,qX jes seq s/\Good jes B s:=by
 intro m
 induction m with
 |zero =>
  grind [lL,eE,fM]
 |succ m ih =>
  intro seq N z;by_cases d:lL jes seq
  ·grind [eE]
  obtain⟨j,o⟩:=kNr d;have D:((x8 (I jes)).filter λi=>yes (wr jes i/\i∉seq/\(ev jes i).loc=(ev jes j).loc))≠[]:=by
   intro e;have:j∈(x8 (I jes)).filter λi=>yes (wr jes i/\i∉seq/\(ev jes i).loc=(ev jes j).loc):=List.mem_filter.2 ⟨List.mem_range.2 o.w.2.1,cG.2 ⟨o.w,o.new,Z⟩⟩
   grind
  obtain⟨i,G,A⟩:=PA y.irr y.trans _ D;obtain⟨_,q⟩:=List.mem_filter.1 G;obtain⟨J,g,c⟩:=cG.1 q;have p:Good jes B (seq++[i]):=by
   refine⟨?_,λx H=>(List.mem_append.1 H).elim (z.wr x) λe=>by grind,λa k E M F=>?_⟩
   ·rw[xi];exact⟨z.nd,by simp,λa E b F=>by grind⟩
   grind [Good.bef,BO.same]
  obtain⟨s,K,L⟩:=ih (seq++[i]) (by grind [fM]) p;exact⟨s,(fL d).2 ⟨i,⟨J,g,j,o,c⟩,K⟩,L⟩
theorem qX.mem{seq:σ ω}(h:qX jes seq s)(q:∀x∈seq,wr jes x)(o:seq.Nodup):(∀x,x∈s↔wr jes x)/\s.Nodup:=by
 obtain⟨l,rfl,d,g⟩:=h;have c:∀n,n<=I l->(∀x∈seq++l.take n,wr jes x)/\(seq++l.take n).Nodup:=by
  intro n
  induction n with
  |zero=>intro _;simpa using⟨q,o⟩
  |succ n ih =>
   intro z;obtain⟨a,b⟩:=ih (by omega);have p:=d n (by omega);rw[xk (by omega),<- xm];refine⟨λx y=>(List.mem_append.1 y).elim (a x) λe=>by grind [Pick.w],?_⟩
   grind [Pick.new]
 have:=c (I l) (xR _);rw[xn]at this;exact⟨λx=>⟨this.1 x,g x⟩,this.2⟩
def M9(n:U)(s fs:Y U)(h:i<n):(gY n s fs).getD i 0=if i∈s then(s.idxOf i:S)+1 else if i∈fs then(fs.idxOf i:S)else 0:=by
 unfold gY;simp[h]
theorem uI{fs:Y U}(d:∀x∈fs,XC jes x)(h:i<I jes)(w:ZP jes i=C):(gY (I jes) s fs).getD i 0=if i∈s then(s.idxOf i:S)+1 else 0:=by
 have:i∉fs:=λc=>by
  have a:=(d i c).2.1;unfold ZP at w;rw[eq_of_beq w]at a;cases a
 rw[M9 _ _ _ h,ξ this]
theorem Na{a b:U}(c:a∈s)(g:b∈s)(e:s.idxOf a=s.idxOf b):a=b:=by
 have d:=List.getElem_idxOf (xo c)
 grind
theorem qX.bo(M:F3 jes){fs:σ ω}(o:∀x∈fs,XC jes x)(h:qX jes [] s):BO jes λi k=>decide (i<I jes)&&(decide (k<I jes)&&J.order jes (gY (I jes) s fs) i k):=by
 obtain⟨E,U⟩:=h.mem (by simp) (by simp);have D:∀i k,(decide (i<I jes)&&(decide (k<I jes)&&J.order jes (gY (I jes) s fs) i k))=C↔i<I jes/\k<I jes/\i≠k/\ZP jes i=C/\ZP jes k=C/\(ev jes i).loc=(ev jes k).loc/\(gY (I jes) s fs).getD i 0<(gY (I jes) s fs).getD k 0:=λi k=>by
  unfold J.order ZP
  grind
 have T:∀i,i<I jes->ZP jes i=C->0<=(gY (I jes) s fs).getD i 0:=λi q g=>by grind [uI]
 refine⟨λi k e=>?_,λi=>?_,λi j k a b=>?_,λi k q z d g p l=>?_,λi k e=>?_⟩
 ·grind
 ·grind
 ·grind
 ·have G:∀{x:ω},x<I jes->ZP jes x=C->¬x<3->x∈s:=λA K n=>(E _).2 ⟨by omega,A,K⟩
  have F:∀{x:ω},x<3->x∉s:=λA e=>by have:=((E _).1 e).1;omega
  have lt:∀{x y:ω},x<I jes->y<I jes->x≠y->ZP jes x=C->ZP jes y=C->(ev jes x).loc=(ev jes y).loc->x<3->(gY (I jes) s fs).getD x 0<(gY (I jes) s fs).getD y 0:=λ{x y} A N d K wy l S=>by
   have L:¬y<3:=λL=>by
    have e1:=(M.2 x S).2;have e2:=(M.2 y L).2;rw[e1,e2]at l;omega
   rw[uI o A K,uI o N wy,ξ (F S),ι (G N wy L)];omega
  by_cases i3:i<3
  ·grind
  by_cases k3:k<3
  ·grind
  have H:=G q g i3;have mk:=G z p k3;have ne:s.idxOf i≠s.idxOf k:=λe=>d (Na H mk e)
  rcases Nat.lt_or_ge (s.idxOf i) (s.idxOf k)with c|c
  ·exact x4 ((D i k).2 ⟨q,z,d,g,p,l,by rw[uI o q g,uI o z p,ι H,ι mk];omega⟩)
  ·exact x5 ((D k i).2 ⟨z,q,λe=>d e.symm,p,g,l.symm,by rw[uI o q g,uI o z p,ι H,ι mk];omega⟩)
 ·obtain⟨a,b,_,g,p,_,c⟩:=(D i k).1 e;have:=T i a g;rw[uI o b p]at c
  split at c
  ·rename_i m;exact((E k).1 m).1
  ·omega
theorem BO.seq(K:F3 jes)(c:BO jes B):∃s,qX jes [] s/\∀fs:σ ω,(∀x∈fs,XC jes x)->∀i k,i<I jes->k<I jes->J.order jes (gY (I jes) s fs) i k=B i k:=by
 obtain⟨s,A,V⟩:=c.good (eO jes []) [] (xR _) ⟨by simp,by simp,λi k y=>by simp at y⟩;refine⟨s,A,λfs q i k y L=>?_⟩;have p:=A.bo K q;obtain⟨M,T⟩:=A.mem (by simp) (by simp);have g:∀i k,B i k=C->J.order jes (gY (I jes) s fs) i k=C:=λi k b=>by
  obtain⟨F,D,G,E,H⟩:=c.same i k b;have N:=c.first i k b
  have d:i≠k:=λe=>by rw[e,c.irr]at b;cases b
  have mk:k∈s:=(M k).2 ⟨N,D,E⟩;unfold J.order;simp only[xW,bne_iff_ne,ρ,φ];refine⟨by omega,by grind [ZP],by grind [ZP],H,?_⟩;rw[uI q F G,uI q D E,ι mk]
  grind [Good.bef]
 cases b:B i k
 ·cases o:J.order jes (gY (I jes) s fs) i k
  ·rfl
  ·exfalso;have e1:(decide (i<I jes)&&(decide (k<I jes)&&J.order jes (gY (I jes) s fs) i k))=C:=by grind
   have z:=p.same i k e1;have d:i≠k:=λe=>by
    subst e;exact xp ((p.irr i).symm.trans e1)
   rcases c.total i k y L d z.2.2.1 z.2.2.2.1 z.2.2.2.2 with t|t
   ·rw[b]at t;cases t
   ·have U:=g k i t;have S:=p.trans i k i e1 (by grind);exact xp ((p.irr i).symm.trans S)
 ·exact g i k b
theorem sO.mem{fs f:σ ω}(h:sO jes fs f)(A:∀x∈fs,XC jes x)(z:fs.Nodup):(∀x,x∈f↔XC jes x)/\f.Nodup:=by
 obtain⟨l,rfl,o,q⟩:=h;have c:∀n,n<=I l->(∀x∈fs++l.take n,XC jes x)/\(fs++l.take n).Nodup:=by
  intro n
  induction n with
  |zero=>intro _;simpa using⟨A,z⟩
  |succ n ih =>
   intro D;obtain⟨a,b⟩:=ih (by omega);have p:=o n (by omega);rw[xk (by omega),<- xm];refine⟨λx d=>?_,?_⟩
   ·rcases List.mem_append.1 d with e|e
    ·exact a x e
    ·simp at e;rw[e];exact p.1
   ·rw[xi];exact⟨b,by simp,λx d y g=>by simp at g;subst g;exact λe=>p.2 (by grind)⟩
 have:=c (I l) (xR _);rw[xn]at this;exact⟨λx=>⟨this.1 x,q x⟩,this.2⟩
theorem kKG(A:∀i,B i i=O)(trans:∀i j k,B i j=C->B j k=C->B i k=C):∀(m:ω) (fs:Y ω),lO jes fs<=m->fs.Nodup->(∀x∈fs,XC jes x)->(∀i k,i∈fs->XC jes k->B k i=C->k∈fs/\fs.idxOf k<fs.idxOf i)->∃f,sO jes fs f/\∀i k,i∈f->XC jes k->B k i=C->k∈f/\f.idxOf k<f.idxOf i:=by
 intro m
 induction m with
 |zero =>
  intro fs S H F p;have d:iP jes fs:=λi o=>Classical.byContradiction λc=>by grind [gJ]
  exact⟨fs,(dP d).2 Z,p⟩
 |succ m ih =>
  intro fs S H F p;by_cases d:iP jes fs
  ·exact⟨fs,(dP d).2 Z,p⟩
  have J:∃i,XC jes i/\i∉fs:=Classical.byContradiction λn=>d λi o=>Classical.byContradiction λc=>n ⟨i,o,c⟩
  have D:∀x,x∈(x8 (I jes)).filter (λi=>(ev jes i).kind.toList==kF&&(ev jes i).ord.toList==mI&&!decide (i∈fs))↔XC jes x/\x∉fs:=λx=>by
   rw[xq,xh];simp only[xW,Bool.not_eq_true',decide_eq_false_iff_not];exact⟨λh=>⟨⟨h.1,h.2.1.1,h.2.1.2⟩,h.2.2⟩,λh=>⟨h.1.1,⟨h.1.2.1,h.1.2.2⟩,h.2⟩⟩
  obtain⟨T,q⟩:=J;obtain⟨i,o,g⟩:=PA A trans _ (List.ne_nil_of_mem ((D T).2 q));have E:=(D i).1 o;obtain⟨f,K,L⟩:=ih (fs++[i]) (by grind [gJ]) (by
    rw[xi];exact⟨H,by simp,λx z y G=>by simp at G;subst G;exact λe=>E.2 (by rw[<- e];exact z)⟩) (λx z=>by
    rcases List.mem_append.1 z with e|e
    ·exact F x e
    ·simp at e;rw[e];exact E.1) λa k M N b=>by
    rcases List.mem_append.1 M with e|e
    ·grind [kLE]
    ·simp at e;subst e;have U:k∈fs:=Classical.byContradiction λc=>by have:=g k ((D k).2 ⟨N,c⟩);rw[b]at this;cases this
     grind [xo]
  exact⟨f,(eC d).2 ⟨i,E,K⟩,L⟩
end
structure WP(jes:σ E)(qes:σ Ev)(base:σ ν):Prop where
 w:WR jes qes
 hr:HR jes qes base
 n:I qes<=64
 sr:∀i,i<I qes->(Q.ev qes i).kind=0->(Q.ev qes i).step=C->i+1<I qes/\(Q.ev qes (i+1)).kind=1/\(Q.ev qes (i+1)).step=C
 sw:∀i,i<I qes->(Q.ev qes i).kind=1->(Q.ev qes i).step=C->0<i/\(Q.ev qes (i-1)).kind=0/\(Q.ev qes (i-1)).step=C/\(Q.ev qes (i-1)).z=(Q.ev qes i).z/\(Q.ev qes (i-1)).j=(Q.ev qes i).j
 va:∀i,i<I qes->(Q.ev qes i).kind=1->0<=(Q.ev qes i).z/\(Q.ev qes i).z<3
section
variable {jes:σ E}{qes:σ Q.Ev}{base:σ ν}
theorem WP.f3(h:WP jes qes base):F3 jes:=by
 refine⟨by rw[h.w.len];exact h.w.three,λi c=>?_⟩;have d:i<I qes:=by have:=h.w.three;omega
 have r:=h.w.er i d;have k:=h.w.fk i c
 grind [ZP,eR,ER.v]
theorem WP.kM(h:WP jes qes base):OE qes:=λi c d=>by have:=h.va i c d;omega
def WP.mJ(h:WP jes qes base):K7 qes:=λi k g o d x y v t=>by
 have q:=(h.w.th k o).2 t;have z:=(h.w.fk k q).2;have p:¬i<3:=λc=>by
  have:=(h.w.fk i c).2;exact d (by omega)
 exact⟨by omega,λe=>p ((h.w.th i g).2 e)⟩
theorem WP.XI(h:WP jes qes base)(c:i<I qes):ZP jes i=C↔(Q.ev qes i).kind=1:=by
 unfold ZP;rw[(eR (h.w.er i c)).2.1,ρ]
theorem WP.loc(h:WP jes qes base)(c:i<I qes)(d:(Q.ev qes i).kind=1):(ev jes i).loc=(Q.ev qes i).z:=((h.w.er i c).v (by omega)).1
theorem BO.ord(h:WP jes qes base)(g:BO jes B):Q.Ord qes (WQ qes) B:=by
 have row:∀{i:ω},i<I qes->(WQ qes).getD i (-1)≠-1->(Q.ev qes i).kind=1/\(WQ qes).getD i (-1)=(Q.ev qes i).z:=λo e=>TF o e
 refine⟨λi k e=>?_,g.irr,g.trans,λi k o p q e n=>?_,λi k e=>?_⟩
 ·obtain⟨a,b,c,d,l⟩:=g.same i k e;rw[h.w.len]at a b
  grind [WP.XI,DM,WP.kM,WP.loc]
 ·obtain⟨x,D⟩:=row o n;obtain⟨y,E⟩:=row p (by omega);exact g.total i k (by rw[h.w.len];exact o) (by rw[h.w.len];exact p) q ((h.XI o).2 x) ((h.XI p).2 y) (by grind [WP.loc])
 ·have A:=g.first i k e
  have p:k<I qes:=by rw[<- h.w.len];exact(g.same i k e).2.1
  exact λt=>by have:=(h.w.th k p).2 t;omega
theorem WP.bo(h:WP jes qes base)(q:ds∈XH (XR qes (WQ qes))):BO jes λi k=>decide (i<I qes)&&(decide (k<I qes)&&ZQ qes (WT (WQ qes) ds) i k):=by
 have g:=OO h.mJ q;generalize WT (WQ qes) ds=ps at g;have p:∀i k,(decide (i<I qes)&&(decide (k<I qes)&&ZQ qes ps i k))=C↔i<I qes/\k<I qes/\(Q.ev qes i).kind=1/\(Q.ev qes k).kind=1/\(Q.ev qes i).z=(Q.ev qes k).z/\ps.getD i 0<ps.getD k 0:=λi k=>by
  simp only[xW,φ,Lb]
 refine⟨λi k e=>?_,λi=>?_,λi j k a b=>?_,λi k x y A F G l=>?_,λi k e=>?_⟩
 ·obtain⟨a,b,c,d,v,_⟩:=(p i k).1 e;exact⟨by rw[h.w.len];exact a,by rw[h.w.len];exact b,(h.XI a).2 c,(h.XI b).2 d,by grind [WP.loc]⟩
 ·grind
 ·grind
 ·rw[h.w.len]at x y
  grind [WP.XI,WP.loc,DM,WP.kM,PlOk.inj]
 ·obtain⟨a,b,c,d,v,lt⟩:=(p i k).1 e
  rcases Nat.lt_or_ge k 3 with o|o
  ·exfalso;have D:=DM h.kM a c;have E:=DM h.kM b d;have:=g.pos i a D.2;have:=g.first k b E.2 ((h.w.th k b).1 o)
   omega
  ·exact o
theorem kLn(d:F3 jes)(ats:Y S)(v:U)(g:v<3):∀m,3<=m->m<=I jes->XI jes v (lastTo jes ats v m)=C/\lastTo jes ats v m<m/\∀k,k<m->XI jes v k=C->ats.getD k 0<=ats.getD (lastTo jes ats v m) 0:=by
 intro m
 induction m with
 |zero=>intro h;omega
 |succ m ih =>
  intro y x;by_cases c:m<3
  ·have e:m+1=3:=by omega
   rw[e,gL jes ats v 3 (xR _)];obtain⟨a,b⟩:=d.2 v g;refine⟨by grind [XI,ZP],g,λk o q=>?_⟩;have p:=(d.2 k o).2;unfold XI at q
   grind
  grind [lastTo]
theorem WP.last(h:WP jes qes base){ps:σ ν}(c:CR jes qes f ats ps)(o:∀i,i<I qes->(Q.ev qes i).kind=1->0<=ps.getD i 0)(v:ω)(q:v<3):oH qes (v:ν) ps=(ev jes (lastTo jes ats v (I jes))).val:=by
 obtain⟨a,b,m⟩:=kLn h.f3 ats v q (I jes) h.f3.1 (xR _);generalize lastTo jes ats v (I jes)=w at*;rw[h.w.len]at b;unfold J.XI at a;rw[xW]at a;have g:(Q.ev qes w).kind=1:=(h.XI b).1 a.1;have p:(Q.ev qes w).z=(v:ν):=by grind [WP.loc]
 rw[((h.w.er w b).v (by omega)).2.1];refine kLN b g p (o w b g) λk d x y e=>?_
 rcases c.XL k w d b e x g (y.trans p.symm)with t|t
 ·grind [Lb]
 ·exfalso;rw[<- c.bh w k b d]at t;unfold J.order at t;simp only[xW,φ]at t;have:=m k (by rw[h.w.len];exact d) (by simp_all [J.XI,xW]);omega
theorem WP.o(h:WP jes qes base){ps regs:σ ν}(c:CR jes qes f ats ps)(d:∀i,i<I qes->(Q.ev qes i).kind=1->0<=ps.getD i 0):jB jes ats regs=mY ⟨qes,regs⟩ ps:=by
 unfold jB mY;have e:=h.last c d 0 (by omega);have e1:=h.last c d 1 (by omega);have e2:=h.last c d 2 (by omega)
 grind
theorem WP.dX(h:WP jes qes base){k:ω}(c:j<I qes)(d:k<I qes)(e:(Q.ev qes j).kind=0):J.dX jes j k=Q.dX qes j k:=by
 have g:=h.w.er j c;have o:=h.w.er k d
 grind [J.dX,Q.dX,eR,ER.v]
theorem WP.xP(h:WP jes qes base)(d:j<I qes)(x:ν):Legal jes j x↔x∈pI qes j:=by
 unfold Legal pI;rw[(eR (h.w.er j d)).1]
 cases c:(Q.ev qes j).kind==0
 ·simp
 ·have g:(Q.ev qes j).kind=0:=by simpa using c
  simp only[ψ,List.mem_map,xq,xh];constructor
  ·rintro⟨k,a,b,e⟩;rw[h.w.len]at a;exact⟨k,⟨a,by grind [WP.dX]⟩,b.symm⟩
  ·rintro⟨k,⟨a,e⟩,b⟩;exact⟨k,by rw[h.w.len];exact a,b.symm,by grind [WP.dX]⟩
theorem kGY(h:i<I qes):(WC qes).getD i []=pI qes i:=by grind [WC]
theorem WP.CQ(h:WP jes qes base)(c:i<I qes):XC jes i↔WZ (Q.ev qes i)=C:=by
 have r:=h.w.er i c;unfold J.XC WZ;rw[(eR r).2.2.1,h.w.len];simp only[xW,ρ]
 grind [wU,mI]
theorem Nb(h:i<I qes):(XD qes).getD i (-1)=if WZ (Q.ev qes i)then 0 else -1:=by
 grind [XD,Q.ev]
theorem ON(h:i<I qes)(e:(XD qes).getD i (-1)≠-1):WZ (Q.ev qes i)=C:=by
 grind [Nb]
theorem PD(h:i<I qes)(e:WZ (Q.ev qes i)=C):(XD qes).getD i (-1)=0:=by grind [Nb]
theorem WP.sct(h:WP jes qes base)(c:i<I qes)(e:WZ (Q.ev qes i)=C):(Q.ev qes i).j≠-1:=λt=>by
 have:=(h.w.fk i ((h.w.th i c).2 t)).1
 simp_all [WZ,xW,ρ]
theorem Nc{c:Y E}{k:U}(h:J.sc c i k=C):(((ev c i).kind.toList==kF)=C/\((ev c i).ord.toList==mI)=C)/\((ev c k).kind.toList==kF)=C/\((ev c k).ord.toList==mI)=C:=by
 simp_all [J.sc,xW]
theorem WP.ct(h:WP jes qes base){ps fs:σ ν}{q:σ ω}(H:∀x∈s,wr jes x)(G:∀x,x∈q↔XC jes x)(c:CR jes qes f (gY (I jes) s q) ps)(F:∀i k,i<I qes->k<I qes->WZ (Q.ev qes i)=C->WZ (Q.ev qes k)=C->(q.idxOf i<q.idxOf k↔fs.getD i 0<fs.getD k 0)):CT jes qes f (gY (I jes) s q) ps fs:=by
 refine⟨c,λi k d g=>?_⟩;have z:∀{x:ω},x<I qes->XC jes x->(gY (I jes) s q).getD x 0=(q.idxOf x:ν):=λ{x} J D=>by
  rw[M9 _ _ _ (by rw[h.w.len];exact J),ξ λe=>Jt (H x e) D,ι ((G x).2 D)]
 have A:=c.OC d g;constructor
 ·rintro⟨a,b⟩;have E:=A.2 a;have p:=Nc a;have y:XC jes i:=⟨by rw[h.w.len];exact d,p.1⟩;have o:XC jes k:=⟨by rw[h.w.len];exact g,p.2⟩;rw[z d y,z g o]at b;exact⟨d,g,E.2.2,(F i k d g ((h.CQ d).1 y) ((h.CQ g).1 o)).1 (by omega)⟩
 ·rintro⟨_,_,a,b⟩;have a:=A.1 ⟨d,g,a⟩;have p:=Nc a;have y:XC jes i:=⟨by rw[h.w.len];exact d,p.1⟩;have o:XC jes k:=⟨by rw[h.w.len];exact g,p.2⟩
  grind [WP.CQ]
theorem WP.EM(h:WP jes qes base){q:σ ω}(p:∀x,x∈q↔XC jes x):∃fs∈XH (XR qes (XD qes)),(WT (XD qes) fs).length=I qes/\∀i k,i<I qes->k<I qes->WZ (Q.ev qes i)=C->WZ (Q.ev qes k)=C->(q.idxOf i<q.idxOf k↔(WT (XD qes) fs).getD i 0<(WT (XD qes) fs).getD k 0):=by
 obtain⟨fs,z,A,D⟩:=kMM (es:=qes) (rs:=XD qes) (B:=λi k=>decide (i<I qes)&&(decide (k<I qes)&&(WZ (Q.ev qes i)&&(WZ (Q.ev qes k)&&decide (q.idxOf i<q.idxOf k))))) (by simp[XD]) (by
  have y:∀i k,(decide (i<I qes)&&(decide (k<I qes)&&(WZ (Q.ev qes i)&&(WZ (Q.ev qes k)&&decide (q.idxOf i<q.idxOf k)))))=C↔i<I qes/\k<I qes/\WZ (Q.ev qes i)=C/\WZ (Q.ev qes k)=C/\q.idxOf i<q.idxOf k:=λi k=>by grind
  refine⟨λi k e=>?_,λi=>?_,λi j k a b=>?_,λi k g o ne e r=>?_,λi k e=>?_⟩
  ·grind [PD]
  ·simp
  ·grind
  ·have c:=ON g r;have d:=ON o (by omega);have E:q.idxOf i≠q.idxOf k:=λe=>ne (Na ((p i).2 ((h.CQ g).2 c)) ((p k).2 ((h.CQ o).2 d)) e)
   grind
  grind [WP.sct])
 grind [PD]
theorem WP.jX(h:WP jes qes base){fs:σ ν}(x:fs∈XH (XR qes (XD qes))):∃q,sO jes [] q/\(WT (XD qes) fs).length=I qes/\∀i k,i<I qes->k<I qes->WZ (Q.ev qes i)=C->WZ (Q.ev qes k)=C->(q.idxOf i<q.idxOf k↔(WT (XD qes) fs).getD i 0<(WT (XD qes) fs).getD k 0):=by
 have y:(XD qes).length=I qes:=by simp[XD]
 have c:=VO y (λi k g o ne e r t=>π t (h.sct o (ON o (by omega)))) (yJ x) (I qes) (xR _);have p:WT (XD qes) fs=(x8 (I qes)).foldl (jA (XD qes) fs) (List.replicate (XD qes).length 0):=by grind [WT]
 rw[<- p]at c;obtain⟨d,c⟩:=c;generalize WT (XD qes) fs=ps at c d;obtain⟨q,z,D⟩:=kKG (jes:=jes) (B:=λi k=>decide (ps.getD i 0<ps.getD k 0)) (by simp) λi j k a b=>by grind _ [] (xR _) (by simp) (by simp) (λi k g=>by simp at g);have A:=(z.mem (by simp) (by simp)).1
 grind [WP.CQ,PlOk.inj,PD]
theorem WP.FH(h:WP jes qes base){q:σ ω}(g:RdX jes base 0 [] f)(D:qX jes [] s)(S:sO jes [] q):(∃rs∈XH (YO (WC qes)),YT (WC qes) rs=f)/\∃ds∈XH (XR qes (WQ qes)),(∃fs∈XH (XR qes (XD qes)),(WT (XD qes) fs).length=I qes/\CT jes qes f (gY (I jes) s q) (WT (WQ qes) ds) (WT (XD qes) fs))/\∀i,i<I qes->(Q.ev qes i).kind=1->0<=(WT (WQ qes) ds).getD i 0:=by
 have H:I f=I qes:=by rw[g.len,h.w.len]
 have cl:(WC qes).length=I qes:=by simp[WC]
 constructor
 ·obtain⟨rs,K,L⟩:=Ld (WC qes) f (by omega) λi c=>by
   rw[cl]at c;rw[kGY c];have e:f.getD i (-1)=f.getD i 0:=by grind
   rw[e];exact(h.xP c _).1 (g.leg i (Nat.zero_le _) (by rw[h.w.len];exact c))
  exact⟨rs,K,L⟩
 ·have p:=(S.mem (by simp) (by simp)).1;have A:=D.bo h.f3 (fs:=q) λx g=>(p x).1 g;obtain⟨ds,z,o⟩:=kJW h.kM (A.ord h);have N:=OO h.mJ z;have E:∀i k,i<I qes->k<I qes->J.order jes (gY (I jes) s q) i k=ZQ qes (WT (WQ qes) ds) i k:=λi k c d=>by
   rw[o i k c d];simp[h.w.len,c,d]
  obtain⟨fs,F,G,f3⟩:=h.EM p;refine⟨ds,z,⟨fs,F,G,h.ct (λx g=>((D.mem (by simp) (by simp)).1 x).1 g) p ⟨h.w,H,λj M=>g.leg j (Nat.zero_le _) (by rw[h.w.len];exact M),E,λi k c d y T U v=>?_,h.sr,h.sw⟩ f3⟩,λi c d=>N.pos i c (DM h.kM c d).2⟩;rw[o i k c d,o k i d c];exact A.total i k (by rw[h.w.len];exact c) (by rw[h.w.len];exact d) y ((h.XI c).2 T) ((h.XI d).2 U) (by grind [WP.loc])
theorem WP.there(h:WP jes qes base){fs:σ ν}(G:fs∈XH (XR qes (XD qes)))(S:rs∈XH (YO (WC qes)))(A:ds∈XH (XR qes (WQ qes))):∃s q,qX jes [] s/\sO jes [] q/\(WT (XD qes) fs).length=I qes/\CT jes qes (YT (WC qes) rs) (gY (I jes) s q) (WT (WQ qes) ds) (WT (XD qes) fs)/\(∀i,i<I qes->(Q.ev qes i).kind=1->0<=(WT (WQ qes) ds).getD i 0)/\(¬Hang jes base (YT (WC qes) rs)->RdX jes base 0 [] (YT (WC qes) rs)):=by
 have cl:(WC qes).length=I qes:=by simp[WC]
 have y:(YT (WC qes) rs).length=I qes:=by simp[YT,cl]
 have H:=OO h.mJ A;have z:=h.bo A;obtain⟨s,F,N⟩:=z.seq h.f3;obtain⟨q,E,L,M⟩:=h.jX G;have D:=(E.mem (by simp) (by simp)).1;have e:∀j,j<I qes->Legal jes j ((YT (WC qes) rs).getD j 0):=λj g=>by
  grind [Le,yJ,YT,WC,WP.xP]
 refine⟨s,q,F,E,L,h.ct (λx p=>((F.mem (by simp) (by simp)).1 x).1 p) D ⟨h.w,y,e,λi k c d=>?_,λi k c d o J K v=>?_,h.sr,h.sw⟩ M,λi c d=>H.pos i c (DM h.kM c d).2,λn=>⟨by rw[y,h.w.len],λj g=>by omega,λj _ g=>e j (by rw[<- h.w.len];exact g),n⟩⟩
 ·rw[N q (λx p=>(D x).1 p) i k (by rw[h.w.len];exact c) (by rw[h.w.len];exact d)];simp[c,d]
 ·have:=z.total i k (by rw[h.w.len];exact c) (by rw[h.w.len];exact d) o ((h.XI c).2 J) ((h.XI d).2 K) (by grind [WP.loc])
  grind
structure TC3(qes:σ Ev)(rs ds fs:σ ν):Prop where
 r:rs∈XH (YO (WC qes))
 h:(WG qes).hangsOn ((WG qes).D (YT (WC qes) rs))=O
 d:ds∈XH (XR qes (WQ qes))
 f:fs∈XH (XR qes (XD qes))
 m:(WH qes (YT (WC qes) rs) (WT (WQ qes) ds)).TMay (Ao qes) (fbR qes (WT (XD qes) fs))
def WP.y(h:WP jes qes base)(regs o:σ ν):sM jes base regs 0 [] o↔∃rs ds fs,TC3 qes rs ds fs/\o=mY ⟨qes,regs⟩ (WT (WQ qes) ds):=by
 constructor
 ·rintro⟨f,g,s,A,q,E,D,rfl⟩;obtain⟨⟨rs,G,x⟩,ds,y,⟨fs,z,_,c⟩,e⟩:=h.FH g A E;refine⟨rs,ds,fs,⟨G,?_,y,z,?_⟩,h.o c.c e⟩
  ·rw[x,KZ h.n c.c.fl (WT (WQ qes) ds)];exact(c.c.hang h.hr).1 g.no
  ·rw[x];exact c.KH.1 D
 ·rintro⟨rs,ds,fs,k,rfl⟩;obtain⟨s,q,H,F,_,c,e,g⟩:=h.there k.f k.r k.d;have p:=k.h;rw[KZ h.n c.c.fl (WT (WQ qes) ds)]at p;exact⟨_,g ((c.c.hang h.hr).2 p),s,H,q,F,c.KH.2 k.m,(h.o c.c e).symm⟩
def WP.clash(h:WP jes qes base):tD jes base 0 []↔∃rs ds fs,TC3 qes rs ds fs/\∃i k,TClash qes (WH qes (YT (WC qes) rs) (WT (WQ qes) ds)) ((WH qes (YT (WC qes) rs) (WT (WQ qes) ds)).cause (fbR qes (WT (XD qes) fs))) i k:=by
 constructor
 ·rintro⟨f,g,s,D,q,F,E,o⟩;obtain⟨⟨rs,H,x⟩,ds,z,⟨fs,A,_,c⟩,p⟩:=h.FH g D F;have e:=c.KH.1 E;refine⟨rs,ds,fs,⟨H,?_,z,A,?_⟩,?_⟩
  ·rw[x,KZ h.n c.c.fl (WT (WQ qes) ds)];exact(c.c.hang h.hr).1 g.no
  ·rw[x];exact e
  ·rw[x];exact(c.clash e.stand).1 o
 ·rintro⟨rs,ds,fs,k,o⟩;obtain⟨s,q,J,G,_,c,p,g⟩:=h.there k.f k.r k.d;have y:=k.h;rw[KZ h.n c.c.fl (WT (WQ qes) ds)]at y;exact⟨_,g ((c.c.hang h.hr).2 y),s,J,q,G,c.KH.2 k.m,(c.clash k.m.stand).2 o⟩
end
end J
namespace Q
structure WInv(es:σ Ev):Prop where
 len:3<=I es
 fst:∀i:ω,i<3->ev es i=YN (i:ν)
 rest:∀i,3<=i->i<I es->(ev es i).j≠-1
 z:∀i,i<I es->ZA (ev es i)=C->0<=(ev es i).z/\(ev es i).z<3
 hb:∀i,i<I es->HB (I es) (ev es i).h
 hl:∀i,i<I es->∀k:ω,YF (ev es i).h (k:ν)=C->3<=k
 sr:SR es
 sw:SW es
def kJa:WInv ZB where
 len:=by decide
 fst i h:=by
  match i,h with
  |0,_=>rfl
  |1,_=>rfl
  |2,_=>rfl
  |n+3,h=>omega
 rest i h k:=by simp[ZB]at k;omega
 z i h _:=by
  match i,h with
  |0,_=>decide
  |1,_=>decide
  |2,_=>decide
  |n+3,h=>simp[ZB]at h;omega
 hb i h:=by
  match i,h with
  |0,_=>exact Am _
  |1,_=>exact Am _
  |2,_=>exact Am _
  |n+3,h=>simp[ZB]at h;omega
 sr i _ s:=by
  match i,s with
  |0,s=>simp[ZB,ev,YN]at s
  |1,s=>simp[ZB,ev,YN]at s
  |2,s=>simp[ZB,ev,YN]at s
  |n+3,s=>rw[Ad _ _ (by simp[ZB])]at s;simp[Ev.zero]at s
 hl i h k hk:=by
  match i,h with
  |0,_=>rw[show(ev ZB 0).h=0 from rfl,Ae]at hk;cases hk
  |1,_=>rw[show(ev ZB 1).h=0 from rfl,Ae]at hk;cases hk
  |2,_=>rw[show(ev ZB 2).h=0 from rfl,Ae]at hk;cases hk
  |n+3,h=>simp[ZB]at h;omega
 sw i _ s:=by
  match i,s with
  |0,s=>simp[ZB,ev,YN]at s
  |1,s=>simp[ZB,ev,YN]at s
  |2,s=>simp[ZB,ev,YN]at s
  |n+3,s=>rw[Ad _ _ (by simp[ZB])]at s;simp[Ev.zero]at s
theorem kLL{n m s:U}(h:HB m s):HB (n+m) (ZL s (n:S)):=λk d=>by
 by_cases hn:n<64
 ·obtain⟨_,e,c⟩:=(A4 s n k hn).1 d;have:=h _ c;omega
 ·have:ZL s (n:S)=0:=by unfold ZL;rw[ι (by omega)]
  grind [Ae]
theorem kMw(n:U)(h:SR es):SR (es.map (ZM n)):=λi d e=>by
 rw[Aq]at d e⊢;by_cases c:i<I es
 ·rw[ι c]at d e;obtain⟨a,b⟩:=h i d e;have:i+1<I es:=by
   grind [Ad,Ev.zero]
  rw[ι this];exact⟨a,b⟩
 simp_all [ξ,Ev.zero]
theorem kNb(n:U)(h:SW es):SW (es.map (ZM n)):=λi d e=>by
 rw[Aq]at d e;by_cases c:i<I es
 ·rw[ι c]at d e;obtain⟨a,b⟩:=h i d e;rw[Aq,ι (by omega)];exact⟨a,b⟩
 simp_all [ξ,Ev.zero]
structure RInv(th:ν)(es:σ Ev):Prop where
 K:∀e∈es,EvIn (I es) th e
 sr:SR es
 sw:SW es
theorem WInv.join(h:WInv W.E){th:ν}(p:th≠-1)(g:RInv th r.E):WInv (W.join r).E where
 len:=by
  show 3<=(W.E++_).length;have:=h.len
  grind
 fst i hi:=by
  show ev (W.E++_) i=_;rw[Ap,ι (by have:=h.len;omega)];exact h.fst i hi
 rest i hi hk:=by
  show(ev (W.E++_) i).j≠-1;have d:i<I W.E+I r.E:=by grind [Wd.join]
  rw[Ap];by_cases c:i<I W.E
  ·rw[ι c];exact h.rest i hi c
  ·rw[ξ c,Aq,ι (by omega)];have hl:i-I W.E<I r.E:=by omega
   have:=(g.K _ (x7 hl)).thr;rw[Ax _ _ hl];show r.E[i-I W.E].j≠-1;rw[this];exact p
 z i hk ha:=by
  have d:i<I W.E+I r.E:=by grind [Wd.join]
  have e:ev (W.join r).E i=if i<I W.E then ev W.E i else ev (r.E.map (ZM (I W.E))) (i-I W.E):=Ap _ _ _
  rw[e]at ha⊢;by_cases c:i<I W.E
  ·rw[ι c]at ha⊢;exact h.z i c ha
  ·rw[ξ c,Aq,ι (by omega)]at ha⊢;have hl:i-I W.E<I r.E:=by omega
   rw[Ax _ _ hl]at ha⊢;exact(g.K _ (x7 hl)).z ha
 hb i hk:=by
  have e:ev (W.join r).E i=if i<I W.E then ev W.E i else ev (r.E.map (ZM (I W.E))) (i-I W.E):=Ap _ _ _
  have hl:(W.join r).E.length=I W.E+I r.E:=by simp[Wd.join]
  rw[e,hl];by_cases c:i<I W.E
  ·rw[ι c];exact(h.hb i c).mono (by omega)
  ·rw[ξ c,Aq,ι (by omega)];have hl:i-I W.E<I r.E:=by omega
   rw[Ax _ _ hl];exact kLL (g.K _ (x7 hl)).hb
 sr:=A5 h.sr (kMw _ g.sr)
 sw:=A6 h.sw (kNb _ g.sw)
 hl i hk k hb:=by
  have d:i<I W.E+I r.E:=by grind [Wd.join]
  have e:ev (W.join r).E i=if i<I W.E then ev W.E i else ev (r.E.map (ZM (I W.E))) (i-I W.E):=Ap _ _ _
  rw[e]at hb;by_cases c:i<I W.E
  ·rw[ι c]at hb;exact h.hl i c k hb
  ·rw[ξ c,Aq,ι (by omega)]at hb;have q:=h.len;have o:YF (ZL (ev r.E (i-I W.E)).h (I W.E:ν)) (k:ν)=C:=hb;by_cases hn:I W.E<64
   ·grind [A4]
   ·have z:ZL (ev r.E (i-I W.E)).h (I W.E:ν)=0:=by unfold ZL;rw[ι (by omega)]
    grind [Ae]
theorem kLj{t:VZ}(h:∀s∈t.S,yP s)(g:r∈iS t i):RInv (i:S) r.E:=by
 unfold iS jG at g;obtain⟨c,_,rfl⟩:=List.mem_map.1 g;have d:=kLs h i c;have q:(mT t i c).j=(i:S):=by
  unfold mT uH;have:∀(ss:Y VW) (p:Ew×U),(ss.foldl aN p).1.j=p.1.j:=λss=>by
   induction ss with
   |nil=>intro p;rfl
   |cons s ss ih =>
    intro p;rw[xF,ih];unfold aN
    split
    ·split
     ·rfl
     ·unfold Ew.bU Ew.bG Ew.aO Ew.step Ew.bG Ew.aO
      repeat' split
      all_goals rfl
    grind
  exact this _ _
 exact⟨λe o=>by have:=d.K e o;rw[q]at this;exact this,d.sr,d.sw⟩
def SP(ts:Y VZ):Prop:=∀t∈ts,∀s∈t.S,yP s
theorem Nd:∀(ts:Y VZ) (i:U) (W:Wd) (ds:Y S),SP ts->WInv W.E->WInv (jK W (fV i ts) ds).E
 |[],_,_,_,_,h=>h
 |t::ts,i,W,[],_,h=>by grind [jK]
 |t::ts,i,W,d::ds,hv,h=>by
  simp only[fV,jK];refine Nd ts (i+1) _ ds (λu e=>hv u (x6 _ e)) ?_
  split
  ·rename_i c;exact h.join (by omega) (kLj (hv t (by simp)) (x7 c))
  ·exact h
def kKD{ts:Y VZ}(h:SP ts)(d:Y S):WInv (XV (WL ts) d).E:=Nd ts 0 _ d h kJa
end Q
namespace J
structure JW(W:Wd)(w:Q.Wd):Prop where
 rg:w.g=W.g
 el:I w.E=I W.es
 er:∀i,i<I W.es->ER (ev W.es i) (Q.ev w.E i)
 hr:∀i (k:ω),i<I W.es->(YF (Q.ev w.E i).h (k:ν)=C↔3<=i/\∃x∈(ev W.es i).on,(k:ν)=W.base.getD (ev W.es i).t.toNat 0+x)
theorem Nf{a b:Y Ev}(h:i<I a):Q.ev (a++b) i=Q.ev a i:=by grind [Q.ev]
theorem Ng{a b:Y Ev}(h:I a<=i):Q.ev (a++b) i=Q.ev b (i-I a):=by grind [Q.ev]
theorem Nh{a:Y Ev}{n:U}(h:i<I a):Q.ev (a.map (ZM n)) i=ZM n (Q.ev a i):=by grind [Q.ev]
def kMs{j:E}{q:Ev}(n:U)(h:ER j q):ER j (ZM n q):=⟨h.k0,h.k,h.t,h.b,h.v,h.o,h.o5,h.oe,h.s,h.r⟩
theorem JW.join{p:Pth}(h:JW W w)(q:WI j W)(y:PI j p)(g:RunR j p r)(G:I W.es+I p.e<=64)(D:I W.es<64):JW (W.add p) (w.join r):=by
 have e3:=q.e3;have H:(r.E.map (ZM (I w.E))).length=I p.e:=by simp[g.el]
 refine⟨by simp[Q.Wd.join,Wd.add,h.rg,g.rg],by simp[Q.Wd.join,Wd.add,h.el,g.el],λi x=>?_,λi k x=>?_⟩
 ·simp only[Wd.add,xa]at x;simp only[Q.Wd.join,Wd.add];by_cases c:i<I W.es
  ·grind [EF,Nf,JW.el,JW.er]
  ·rw[BJ (by omega),Ng (by rw[h.el];omega),h.el,Nh (by grind)];exact kMs _ (g.ev _ (by omega)).1
 ·simp only[Wd.add,xa]at x;simp only[Q.Wd.join,Wd.add];by_cases c:i<I W.es
  ·rw[EF c,Nf (by rw[h.el];exact c),h.hr i k c];refine and_congr_right λA=>?_;have o:=q.onk i A c
   grind [OnOk.tl]
  ·have d:i-I W.es<I p.e:=by omega
   obtain⟨_,_,F⟩:=g.ev _ d;rw[BJ (by omega),Ng (by rw[h.el];omega),h.el,Nh (by grind)];have t:=y.t _ (zV d);have on:=y.on _ (zV d);rw[t];have z:(W.base++[(I W.es:ν)]).getD ((j:ν)).toNat 0=(I W.es:ν):=by
    rw[xj,xb,List.getElem?_append_right (by rw[q.bl];exact xR _)];simp[q.bl]
   rw[z];show YF (ZL (Q.ev r.E (i-I W.es)).h (I W.es:ν)) (k:ν)=C↔_
   grind [A4]
def CJ(j:U):Y R.Th->Y (Y Pth)
 |[]=>[]
 |t::r=>gT t j::CJ (j+1) r
theorem Ni:∀(ts:Y R.Th) (j:U),CJ j ts=ts.mapIdx λi th=>gT th (i+j)
 |[],j=>Z
 |t::r,j=>by
  rw[CJ,List.mapIdx_cons,Ni r (j+1)]
  grind
def kNM(ts:Y R.Th):pss ts=CJ 0 ts:=by rw[Ni];rfl
theorem kIv{c:Y S}:ds∈XH (b::c)↔∃d:U,(d:S)<b/\∃r∈XH c,ds=(d:S)::r:=by
 grind [XH]
theorem FX(p:VW->τ):∀l:Y VZ,0<=XL p l
 |[]=>xe _
 |t::l=>by
  have c:=FX p l;have d:=(pK p t.S).1
  grind [XL]
theorem QP:∀l:Y VZ,0<=evT l
 |[]=>xe _
 |t::l=>by
  have:=QP l;have:=NX t.S
  grind [evT]
theorem kJf(h:eZ n ts us k):∀(j:ω) (W:Wd) (w:Q.Wd) (E S R:ν),JW W w->WI j W->Q.WI w E S R->(∀u∈us,(∀s∈u.S,ZR s)/\ZO u.S<1000000000)->(∀t∈ts,ThOk t)->E+(XL P.XG us+XL P.XI us+evT us)<=60 ->
  (∀c,Reach (CJ j ts) W c->∃ds∈XH (YM (fV j us)),JW c (jK w (fV j us) ds))/\∀ds∈XH (YM (fV j us)),∃c,Reach (CJ j ts) W c/\JW c (jK w (fV j us) ds):=by
 induction h using eZ.ind with
 |nil =>
  intro j W w E S R H _ _ _ _ _;constructor
  ·intro c d;rw[show c=W from d]
   simp_all [fV,YM,XH,jK]
  ·intro ds G;simp[fV,YM,XH]at G;subst G;exact⟨W,Z,by grind [jK]⟩
 | @cons n m k ts us t u f b l h ih =>
  intro j W w E S R H hw J X V hE;have F:=X u (by simp);have D:=V t (by simp);obtain⟨r1,r2⟩:=kLz f b j D (by have:=FX P.XG us;have:=FX P.XI us;have:=QP us;have h3:=J.len;have h4:=J.pos;simp only[XL,evT]at hE;unfold pM;omega);have t0:=FX P.XG us;have t1:=FX P.XI us;have t2:=QP us;have t3:=NX u.S;simp only[XL,evT]at hE;have MV:∀{p:Pth} {r:Run},p∈gT t j->r∈iS u j->RunR j p r->JW (W.add p) (w.join r)/\WI (j+1) (W.add p)/\Q.WI (w.join r) (E+(P.VY P.XG u.S+P.VY P.XI u.S+iK u.S)) (S+P.VY P.XC u.S) (R+4):=λ{p r} g d q=>by
   have z:=Mj D g;have q1:=J.wZ (TZ F.1 F.2 d) (Lk d);have ln:=q1.len;have l0:=J.len;have T:((w.join r).E.length:ν)=I W.es+I p.e:=by simp[Q.Wd.join,H.el,q.el]
   have c0:=(pK P.XG u.S).1;have c1:=(pK P.XI u.S).1;rw[H.el]at l0;exact⟨H.join hw z q (by omega) (by omega),hw.add z,q1⟩
  constructor
  ·intro c d;obtain⟨p,g,d⟩:=d;obtain⟨r,A,q⟩:=r1 p g;obtain⟨K,L,M⟩:=MV g A q;obtain⟨ds,Y,d2⟩:=(ih (j+1) _ _ _ _ _ K L M (λx o=>X x (x6 _ o)) (λx o=>V x (x6 _ o)) (by omega)).1 c d;obtain⟨i,hi,e⟩:=List.mem_iff_getElem.1 A;refine⟨(i:ν)::ds,?_,?_⟩
   ·grind [XH,YM,fV]
   grind [fV,jK,xj]
  ·intro ds G;have U:ds∈XH (((iS u j).length:ν)::YM (fV (j+1) us)):=G;obtain⟨i,hi,N,Y,rfl⟩:=kIv.1 U;have y:i<(iS u j).length:=by omega
   obtain⟨p,g,q⟩:=r2 _ (x7 y);obtain⟨K,L,M⟩:=MV g (x7 y) q;obtain⟨c,w1,w2⟩:=(ih (j+1) _ _ _ _ _ K L M (λx o=>X x (x6 _ o)) (λx o=>V x (x6 _ o)) (by omega)).2 N Y;refine⟨c,⟨p,g,w1⟩,?_⟩
   grind [fV,jK,xj]
end J
theorem Q.Nj:∀{l m:Y (Y S)},YX l->YX m->(∀r,r∈l↔r∈m)->l=m
 |[],[],_,_,_=>Z
 |[],y::m,_,_,h=>by have:=(h y).2 (by simp);simp at this
 |x::l,[],_,_,h=>by have:=(h x).1 (by simp);simp at this
 |x::l,y::m,hl,hm,h=>by
  have a:=List.pairwise_cons.1 hl;have b:=List.pairwise_cons.1 hm;have e:x=y:=by
   rcases List.mem_cons.1 ((h x).1 (by simp))with e|e
   ·exact e
   ·rcases List.mem_cons.1 ((h y).2 (by simp))with c|c
    ·exact c.symm
    grind [LN,wS]
  subst e;have d:x∉l:=λe=>by grind [wS]
  have g:x∉m:=λe=>by grind [wS]
  rw[Q.Nj a.2 b.2 (λr=>⟨λe=>?_,λe=>?_⟩)]
  ·grind
  grind
namespace Q
def KD{d:Wd}{fs:Y S}(o:I d.E<=64)(p:(YT (WC d.E) rs).length=I d.E)(g:(WT (XD d.E) fs).length=I d.E):tgtMay ⟨d,WG d.E,(WG d.E).D (YT (WC d.E) rs)⟩ ds fs↔(WH d.E (YT (WC d.E) rs) (WT (WQ d.E) ds)).TMay (Ao d.E) (fbR d.E (WT (XD d.E) fs)):=by
 rw[<- kLF o p (WT (WQ d.E) ds) g rfl rfl];have e:(WG d.E).E=d.E:=II _;constructor
 ·rintro⟨a,b,c⟩;simp only[e]at b c;exact⟨a,b,c⟩
 ·rintro⟨a,b,c⟩;exact⟨a,by simp only[e];exact b,by simp only[e];exact c⟩
end Q
namespace J
theorem kKv(h:XK n l ss m):P.VY nE ss=WV l:=by
 induction h using XK.ind with
 |nil=>simp[P.VY,WV,lD]
 | @leaf n m st y l ss t o f ih =>
  rw[JC];have:nE st=C:=by grind [nE,Twin.k11]
  simp[P.VY,this,ih,WV,lD]
 | @node n m k a st e b l bs ss i f d g ih1 ih2 =>
  rw[JC];have c:nE st=C:=by grind [nE,IfT.k]
  have p:nE e=O:=by grind [nE,EndT.k]
  simp only[P.VY,CB,c,p,ih1,ih2];simp;omega
theorem kMa(h:XK n l ss m):∀s∈ss,yP s:=by
 induction h using XK.ind with
 |nil=>simp
 | @leaf n m st y l ss t o f ih =>
  intro s c
  rcases List.mem_cons.1 c with rfl|c
  ·intro p;exact(t.acc (by grind [ZU])).2
  ·exact ih s c
 | @node n m k a st e b l bs ss i f d g ih1 ih2 =>
  intro s c
  rcases List.mem_cons.1 c with rfl|c
  ·intro p;rw[i.k]at p;omega
  ·rcases List.mem_append.1 c with c|c
   ·exact ih1 s c
   ·rcases List.mem_cons.1 c with rfl|c
    ·intro p;rw[d.k]at p;omega
    ·exact ih2 s c
theorem kMW{th:R.Th}{u:VZ}(h:XK n th.body u.S m)(c:P.VY nE u.S<=40)(e:P.VY P.XG u.S<=4):ThOk th:=by
 have g:=kKv h;have d:=XK.VY P.XG isRd h (λst x t=>(M8 t).symm) λst k=>by unfold P.XG;rw[k];rfl λst k=>by unfold P.XG;rw[k];rfl (λa=>by unfold isRd;rw[vC];decide);exact⟨M4 h,by omega,by omega,by omega⟩
theorem kME(h:eZ n ts us k):(∀u∈us,P.VY nE u.S<=40)->(∀u∈us,P.VY P.XG u.S<=4)->(∀t∈ts,ThOk t)/\SP us/\I ts=I us:=by
 induction h using eZ.ind with
 |nil=>intro _ _;exact⟨by simp,λt d=>by simp at d,Z⟩
 |cons f b l h ih =>
  intro o p;obtain⟨q,e,g⟩:=ih (λu c=>o u (x6 _ c)) λu c=>p u (x6 _ c);refine⟨λt d=>?_,λu c=>?_,by simp[g]⟩
  ·grind [kMW]
  ·rcases List.mem_cons.1 c with rfl|c
   ·exact kMa f
   ·exact e u c
theorem kMz:JW W0 ⟨ZB,[]⟩:=by
 refine⟨Z,Z,λi d=>?_,λi k d=>?_⟩
 ·have g:i<3:=by simpa[W0,cP]using d
  have:i=0\/i=1\/i=2:=by omega
  have c:∀v:S,ER (fw v) (YN v):=λv=>⟨by simp[YN],by simp[YN,fw,Ar,kW,bI],Z,λe=>π Z e,λ_=>⟨Z,Z,Z⟩,λ_=>⟨by simp[YN],by simp[YN,fw,ordW,cN,bI]⟩,λ_=>by simp[YN],λe=>by simp[YN]at e,λ_=>by simp[YN,fw,sDev,bI],λe=>by simp[YN]at e⟩
  rcases this with rfl|rfl|rfl
  ·exact c 0
  ·exact c 1
  ·exact c 2
 ·have g:i<3:=by simpa[W0,cP]using d
  have:(Q.ev ZB i).h=0:=by
   have:i=0\/i=1\/i=2:=by omega
   rcases this with rfl|rfl|rfl<;>rfl
  grind [Ae]
theorem JW.wp(h:JW W w)(F:WI j W)(g:WInv w.E)(D:I w.E<=64):WP W.es w.E W.base:=by
 have q:=h.el;have y:∀i,i<3->Q.ev w.E i=YN (i:ν):=g.fst;have o:∀i,i<I w.E->ER (ev W.es i) (Q.ev w.E i):=λi d=>h.er i (by omega)
 have wr:WR W.es w.E:=⟨q.symm,o,λi d=>⟨λc=>by rw[y i c];rfl,λe=>by
  grind [WInv.rest]⟩,λi d=>by rw[y i d];exact⟨Z,Z⟩,g.len⟩
 refine⟨wr,λi k d _=>h.hr i k (by omega),D,λi d G H=>?_,λi d x J=>?_,λi d x=>g.z i d (by grind [ZA])⟩
 ·obtain⟨a,b⟩:=g.sr i G H
  grind [Ad,Ev.zero]
 ·obtain⟨a,b,c⟩:=g.sw i x J;have p:i-1<I w.E:=by omega
  have A:=o (i-1) p;have K:=o i d;have st:isStep (ev W.es (i-1))=C:=by
   unfold isStep;rw[(eR A).1,b,(A.v (by omega)).2.2,c];rfl
  obtain⟨_,l,t⟩:=F.half (i-1) (by omega) st
  grind [ER.v,ER.t]
def lU(h:eZ 0 ts us k)(D:TIn us):(∀t∈ts,ThOk t)/\I ts=I us/\(∀o,sZ (pss ts) W0 o↔o∈(Q.eU us).y)/\(sQ (pss ts) W0↔(Q.eU us).clash=C):=by
 obtain⟨T,kv,ln⟩:=kME h D.le λu hu=>Int.le_trans (QR hu) D.rd;have few:=D.few;have e1:=D.rd;have e2:=D.wr;have e3:=D.ev;obtain⟨X,Y⟩:=kJf h 0 W0 ⟨ZB,[]⟩ 3 0 0 kMz SX PB (RX D) T (by omega);rw[<- kNM]at X Y;have wp:∀{p:Wd} {ds:σ ν},ds∈XH (YM (fV 0 us))->Reach (pss ts) W0 p->JW p (jK ⟨ZB,[]⟩ (fV 0 us) ds)->WP p.es (XV (WL us) ds).E p.base:=λ{p ds} hd x H=>by
  have e:=RV T (I ts) 0 W0 p (by omega) SX (by simpa using x);have q:=kMx D (yJ hd);exact JW.wp H e (kKD kv ds) (by omega)
 have F:∀(qes:σ Ev) (rs:σ ν),(YT (WC qes) rs).length=I qes:=λqes rs=>by simp[YT,WC]
 refine⟨T,ln,λo=>?_,?_⟩
 ·rw[QQ];constructor
  ·rintro⟨p,x,N⟩;obtain⟨ds,z,L⟩:=X p x;have e:=wp z x L;obtain⟨rs,G,fs,c,K⟩:=(e.y p.g o).1 N;obtain⟨_,_,A,_⟩:=e.jX c.f;refine⟨_,BG.2 ⟨ds,z,rs,c.r,Z,c.h⟩,G,c.d,fs,c.f,(KD e.n (F _ _) A).2 c.m,?_⟩;rw[K,<- L.rg];rfl
  ·rintro⟨c,M,G,S,fs,J,m,rfl⟩;obtain⟨ds,z,rs,U,rfl,V⟩:=BG.1 M;obtain⟨p,x,H⟩:=Y ds z;have e:=wp z x H;obtain⟨_,_,A,_⟩:=e.jX J;refine⟨p,x,(e.y p.g _).2 ⟨rs,G,fs,⟨U,V,S,J,(KD e.n (F _ _) A).1 m⟩,?_⟩⟩;rw[<- H.rg];rfl
 ·rw[kGr];constructor
  ·rintro⟨p,x,N⟩;obtain⟨ds,z,L⟩:=X p x;have e:=wp z x L;obtain⟨rs,G,fs,c,K⟩:=e.clash.1 N;obtain⟨_,_,A,_⟩:=e.jX c.f;exact⟨_,BG.2 ⟨ds,z,rs,c.r,Z,c.h⟩,G,c.d,fs,c.f,(KD e.n (F _ _) A).2 c.m,(Mt e.n (F _ _) _ (VR e.n (F _ _) _ A)).2 K⟩
  ·rintro⟨c,M,G,S,fs,J,m,K⟩;obtain⟨ds,z,rs,U,rfl,V⟩:=BG.1 M;obtain⟨p,x,H⟩:=Y ds z;have e:=wp z x H;obtain⟨_,_,A,_⟩:=e.jX J;exact⟨p,x,e.clash.2 ⟨rs,G,fs,⟨U,V,S,J,(KD e.n (F _ _) A).1 m⟩,(Mt e.n (F _ _) _ (VR e.n (F _ _) _ A)).1 K⟩⟩
theorem sK(h:eZ 0 ts us k)(d:TIn us){rs:Y (Y S)}{c:τ}{L:U}(g:Grew L [] rs O c (sZ (pss ts) W0) (sQ (pss ts) W0)):rs=(Q.eU us).y/\c=(Q.eU us).clash:=by
 obtain⟨_,_,a,b⟩:=lU h d;constructor
 ·exact Nj g.rise (Mh us) λr=>by rw[g.mem,<- a];simp
 ·have:=g.cl
  grind
end J
