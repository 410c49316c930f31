import Derived.Deep.CutRange
import Derived.Test.YteekngiepnnmjaaGreatDoorV02
set_option linter.all false
set_option maxHeartbeats 0
namespace Go.Proofs.YteekngiepnnmjaaGreatDoor
open Go Go.RowKit Go.Proofs.Tryz P Q
open scoped Classical
set_option maxRecDepth 1000000
open Go renaming heap_alloc_new->σ,World->z,World->ν,Calls->u,Calls->φ,Value->r,Value->π,madeCells->η,bodyPost_ret->ζ,bits_or_u64_nat->δ,TypeId->ε,wpList->θ,results_none->κ,Ending->χ
open Go.RowKit renaming Below->A,Below->ι,intOf->τ
open _root_ renaming Nat->N,Nat->ω,List->K,List->ξ,Int->T,Int->ψ,Array->γ,if_pos->υ
open Go.Proofs.Tryz renaming prog->s,prog->ρ
variable {W w w' w1 wx:ν}{B b b1 b2 b3 b5 fb g gb gc gn j n:ω}{e:Ev}{fn:Func}{p:Tmp}{a:Act}{v vo vr:π}{t:ε}{ops:γ Oper}{op:Oper}{l:ξ ω}{es:ξ Ev}{f:Ex}{bs ds:ξ ψ}
open Go.Obj renaming cells->Y
open Option renaming none->O,some->I
open Go.Value renaming int->U,slice->S
open Go.IntKind renaming i64->H
open Go.Ending renaming returned->V
open List renaming range->xF,ext_getElem->xe,map_congr_left->xg,getElem_mem->xl
open Go.RowKit.Below renaming refl->xR,heap_alloc->xW,heap_setCell->x8
open Nat renaming zero_le->x6,le_refl->x9,lt_of_lt_of_le->xa,le_trans->xi
open Or renaming inr->x7
open Go.Value renaming agg->xb,ownBlock->xo
open Go.World renaming frozen?->xc,cell?->xd,cell?_of_block->xn
open Go.Exit renaming inBlock->xh
open Go.Result renaming andThen_ok->xj
open Go.Instr renaming makeSlice->xk
open _root_.Array renaming getElem?_eq_none->xm
def WN(w:z)(g:N)(e:Ev):Prop:=w.heap[g]?=I (Y (aK e) 180 (0,0))
def WN.lt(h:WN w g e):g<w.heap.size:=dC h
def WN.X(h:WN w g e)(c:ι w.heap.size w w'):WN w' g e:=by unfold WN at*;rw[c.block g (dC h)];exact h
def WN.alloc(h:WN w g e)(o:Obj):WN (w.alloc o) g e:=h.X bB
def WN.new(w:ν)(e:Ev):WN (w.alloc (Y (aK e) 180)) w.heap.size e:=σ w _
def WN.F(h:WN w g e):w.cell? ⟨g,0,O⟩=I (U H e.kind)/\w.cell? ⟨g,1,O⟩=I (U H e.j)/\w.cell? ⟨g,2,O⟩=I (U H e.block)/\w.cell? ⟨g,3,O⟩=I (U H e.z)/\w.cell? ⟨g,4,O⟩=I (U H e.value)/\w.cell? ⟨g,5,O⟩=I (U H e.q)/\w.cell? ⟨g,6,O⟩=I (U H e.scope)/\w.cell? ⟨g,7,O⟩=I (U H e.u)/\w.cell? ⟨g,8,O⟩=I (.bool e.step)/\w.cell? ⟨g,9,O⟩=I (U .u64 (e.h:ω))/\(∀j,w.frozen? ⟨g,j,O⟩=false)/\g<w.heap.size:=by
 unfold WN at h;refine⟨?_,?_,?_,?_,?_,?_,?_,?_,?_,?_,?_,dC h⟩
 all_goals first|(intro j;simp[xc,h])|simp[xd,h,aK]
theorem Tq(a b:Ev)(w:z):
  u ρ 162 #[.agg (aK a),.agg (aK b)] w λx w'=>x=V (.bool (Q.aJ a b))/\ι w.heap.size w w':=by
 have HB:aC (ι w.heap.size w ((w.alloc (Y (aK a) 180)).alloc (Y (aK b) 180))):=(bB).alloc (by simp) _;have EA:aC (WN ((w.alloc (Y (aK a) 180)).alloc (Y (aK b) 180)) w.heap.size a):=(WN.new w a).alloc _;have EB:aC (WN ((w.alloc (Y (aK a) 180)).alloc (Y (aK b) 180)) (w.heap.size+1) b):=by
  have:=WN.new (w.alloc (Y (aK a) 180)) b;simpa[aC]using this
 cases h0:a.j == -1||b.j == -1
 rotate_left
 ·have m:=aD (Pj h0)
  cases h1:a.j == -1
  ·have h2:(b.j == -1)=true:=by rw[h1]at h0;exact h0
   simp only[aK];go_in;go_wp2;go_ret;rw[m.o];exact⟨Z,HB⟩
  ·simp only[aK];go_in;go_wp2;go_ret;rw[m.o];exact⟨Z,HB⟩
 have h1:(a.j == -1)=false:=(Bool.or_eq_false_iff.1 h0).1;have h2:(b.j == -1)=false:=(Bool.or_eq_false_iff.1 h0).2
 cases h3:a.j==b.j
 rotate_left
 ·have m:=aD (Pk h0 h3);simp only[aK];go_in;go_wp2;go_ret;rw[m.o];exact⟨Z,HB⟩
 cases ha:cE a
 ·have m:=aD (Bv h0 h3 (by grind));simp only[aK];go_in;go_wp2_with(first|(go_at_call_of 189 (xb #[U H a.kind,U H a.j,U H a.block,U H a.z,U H a.value,U H a.q,U H a.scope,U H a.u,.bool a.step,U .u64 (a.h:ω)]);refine(FQ a _).mono ?_;rintro x w1 ⟨rfl,c⟩;rw[ha];have d:=aD (EA.X c);have i:=aD (EB.X c);have r:=aD (HB.trans (c.mono (by simp;omega)));obtain⟨A,C,D,E,G,J,K,L,M,N,T,pl⟩:=d.F;obtain⟨q0,q1,q2,q3,q4,q5,q6,q7,q8,q9,qf,ql⟩:=i.F));go_ret;rw[m.o];exact⟨Z,r⟩
 cases hb:cE b
 ·have m:=aD (Bv h0 h3 (by grind));simp only[aK];go_in;go_wp2_with(first|(go_at_call_of 189 (xb #[U H a.kind,U H a.j,U H a.block,U H a.z,U H a.value,U H a.q,U H a.scope,U H a.u,.bool a.step,U .u64 (a.h:ω)]);refine(FQ a _).mono ?_;rintro x w1 ⟨rfl,c⟩;rw[ha];have d:=aD (EA.X c);have i:=aD (EB.X c);have r:=aD (HB.trans (c.mono (by simp;omega)));obtain⟨A,C,D,E,G,J,K,L,M,N,T,pl⟩:=d.F;obtain⟨q0,q1,q2,q3,q4,q5,q6,q7,q8,q9,qf,ql⟩:=i.F)|(go_at_call_of 189 (xb #[U H b.kind,U H b.j,U H b.block,U H b.z,U H b.value,U H b.q,U H b.scope,U H b.u,.bool b.step,U .u64 (b.h:ω)]);refine(FQ b _).mono ?_;rintro x w2 ⟨rfl,k⟩;rw[hb];have s:=aD (d.X k);have y:=aD (i.X k);have B2:=aD (r.trans (k.mono (by have:=r.size;omega)));obtain⟨A,C,D,E,G,J,K,L,M,N,T,pl⟩:=s.F;obtain⟨q0,q1,q2,q3,q4,q5,q6,q7,q8,q9,qf,ql⟩:=y.F));go_ret;rw[m.o];exact⟨Z,B2⟩
 have m:=aD (Pl h0 h3 (by grind))
 cases h4:a.block==b.block<;>cases h5:a.scope==1<;>cases h6:b.scope==1
 all_goals
  simp only[aK];go_in;go_wp2_with(first|(go_at_call_of 189 (xb #[U H a.kind,U H a.j,U H a.block,U H a.z,U H a.value,U H a.q,U H a.scope,U H a.u,.bool a.step,U .u64 (a.h:ω)]);refine(FQ a _).mono ?_;rintro x w1 ⟨rfl,c⟩;rw[ha];have d:=aD (EA.X c);have i:=aD (EB.X c);have r:=aD (HB.trans (c.mono (by simp;omega)));obtain⟨A,C,D,E,G,J,K,L,M,N,T,pl⟩:=d.F;obtain⟨q0,q1,q2,q3,q4,q5,q6,q7,q8,q9,qf,ql⟩:=i.F)|(go_at_call_of 189 (xb #[U H b.kind,U H b.j,U H b.block,U H b.z,U H b.value,U H b.q,U H b.scope,U H b.u,.bool b.step,U .u64 (b.h:ω)]);refine(FQ b _).mono ?_;rintro x w2 ⟨rfl,k⟩;rw[hb];have s:=aD (d.X k);have y:=aD (i.X k);have B2:=aD (r.trans (k.mono (by have:=r.size;omega)));obtain⟨A,C,D,E,G,J,K,L,M,N,T,pl⟩:=s.F;obtain⟨q0,q1,q2,q3,q4,q5,q6,q7,q8,q9,qf,ql⟩:=y.F));go_ret;rw[m.o,h4,h5,h6];exact⟨Z,B2⟩
def Tr(e:Ev)(w:z):
  u s 164 #[.agg (aK e)] w λx w'=>x=V (.bool (e.kind==1&&P.rel e.q))/\A w.heap.size w w':=by
 cases h0:e.kind==1
 all_goals
  simp only[aK];go_in;go_wp2_with(first|(go_at_call 190;refine(Qo _ _).mono ?_;rintro x w' ⟨rfl,c⟩;have c:=c.symm;subst c));go_ret;exact⟨Z,bB⟩
def Ts(e:Ev)(w:z):
  u s 165 #[.agg (aK e)] w λx w'=>x=V (.bool (e.kind==0&&acq e.q))/\A w.heap.size w w':=by
 cases h0:e.kind==0
 all_goals
  simp only[aK];go_in;go_wp2_with(first|(go_at_call 191;refine(Qn _ _).mono ?_;rintro x w' ⟨rfl,c⟩;have c:=c.symm;subst c));go_ret;exact⟨Z,bB⟩
namespace Q
def uZ:K T->K T->K (K T)
 |b::bs,d::ds=>((xF (b.toNat-(d.toNat+1))).map λx:N=>((d.toNat+1+x:N):T)::ds)++(uZ bs ds).flatMap λr=>(xF b.toNat).map λx:N=>(x:T)::r
 |_,_=>[]
def hZ(n:N):K T:=List.replicate n 0
def YK:K T->K T->Prop
 |[],[]=>True
 |b::bs,d::ds=>0<=d/\d<b/\YK bs ds
 |_,_=>False
def YK.len:∀{bs ds:ξ ψ},YK bs ds->ds.length=bs.length
 |[],[],_=>Z
 |[],_::_,h=>h.elim
 |_::_,[],h=>h.elim
 |b::bs,d::ds,h=>by simp[YK.len h.2.2]
def YK.rng:∀{bs ds:ξ ψ},YK bs ds->∀i (h:i<ds.length),0<=ds[i]/\ds[i]<bs.getD i 0
 |[],[],_,i,hi=>by simp at hi
 |[],_::_,h,_,_=>h.elim
 |_::_,[],h,_,_=>h.elim
 |b::bs,d::ds,h,0,_=>⟨h.1,h.2.1⟩
 |b::bs,d::ds,h,i+1,hi=>by
  have:=YK.rng h.2.2 i (by simpa using hi);simpa using this
theorem Dw:∀{bs:K T},jW bs=true->YK bs (hZ bs.length)
 |[],_=>trivial
 |b::bs,h=>by
  simp[jW]at h;have c:jW bs=true:=by grind [jW]
  exact⟨Int.le_refl _,by omega,Dw c⟩
def Dx:∀{bs ds:K T},YK bs ds->(inc bs ds).2=true->YK bs (inc bs ds).1
 |[],[],_,h=>by simp[inc]at h
 |[],_::_,h,_=>h.elim
 |_::_,[],h,_=>h.elim
 |b::bs,d::ds,h,k=>by
  have i:=h.1;have m:=h.2.1;rw[inc]at k⊢
  split
  ·exact⟨by omega,by omega,h.2.2⟩
  ·rename_i c;rw[if_neg c]at k;exact⟨Int.le_refl _,by omega,Dx h.2.2 k⟩
def Dy(n:N)(h:0<n):xF n=0::(xF (n-1)).map λx=>1+x:=by
 obtain⟨k,rfl⟩:∃k,n=k+1:=⟨n-1,by omega⟩;rw[List.range_succ_eq_map];simp[Nat.add_comm]
theorem Dz(n:N)(h:0<n)(r:K T):(xF n).map (λx:N=>(x:T)::r)=(0::r)::(xF (n-1)).map λx:N=>((0+1+x:N):T)::r:=by
 rw[Dy n h];simp
theorem D0:∀{bs:K T},jW bs=true->XH bs=hZ bs.length::uZ bs (hZ bs.length)
 |[],_=>Z
 |b::bs,h=>by
  simp[jW]at h;have c:jW bs=true:=by grind [jW]
  rw[XH,D0 c,List.flatMap_cons,Dz _ (by omega)]
  grind [hZ,uZ]
theorem Ey:∀{bs:K T},jW bs=false->XH bs=[]
 |[],h=>by simp[jW]at h
 |b::bs,h=>by
  rw[XH];by_cases hb:1<=b
  ·have c:jW bs=false:=by
    grind [jW]
   rw[Ey c];rfl
  ·have:b.toNat=0:=by omega
   rw[this];simp
theorem Ez:∀{bs ds:K T},YK bs ds->(inc bs ds).2=true->uZ bs ds=(inc bs ds).1::uZ bs (inc bs ds).1
 |[],[],_,h=>by simp[inc]at h
 |[],_::_,h,_=>h.elim
 |_::_,[],h,_=>h.elim
 |b::bs,d::ds,h,k=>by
  have i:=h.1;have m:=h.2.1;by_cases hlt:d+1<b
  ·have e:inc (b::bs) (d::ds)=((d+1)::ds,true):=by rw[inc,υ hlt]
   rw[e];simp only[uZ];rw[Dy (b.toNat-(d.toNat+1)) (by omega)];have e1:(d+1).toNat=d.toNat+1:=by omega
   simp only[List.map_cons,List.map_map,List.cons_append,e1];have e2:((d.toNat+1+0:N):T)=d+1:=by omega
   rw[e2]
   congr 2
   grind [xg]
  ·have e:inc (b::bs) (d::ds)=(0::(inc bs ds).1,(inc bs ds).2):=by rw[inc,if_neg hlt]
   rw[e]at k⊢;have ih:=Ez h.2.2 k;have c:b.toNat-(d.toNat+1)=0:=by omega
   grind [uZ,Dz]
theorem E0:∀{bs ds:K T},YK bs ds->(inc bs ds).2=false->uZ bs ds=[]
 |[],[],_,_=>Z
 |[],_::_,h,_=>h.elim
 |_::_,[],h,_=>h.elim
 |b::bs,d::ds,h,k=>by
  have i:=h.1;have m:=h.2.1;by_cases hlt:d+1<b
  ·simp_all [inc,υ]
  ·rw[inc,if_neg hlt]at k;have ih:=E0 h.2.2 k;have c:b.toNat-(d.toNat+1)=0:=by omega
   simp[uZ,c,ih]
end Q
theorem Tt(n:N):η #[U .u64 0] n=xM (WY n):=by
 apply Array.ext_getElem?;intro i;by_cases h:i<n
 ·simp_all [Bo,WY,η,Nat.mod_one]
 grind [η,xM,WY]
def sP(w w':z)(n:N)(l:K N)(e:χ):Prop:=∃g,e=V (.agg #[VV g n n])/\XA w' g l/\w.heap.size<=g/\l.length=n/\WD l/\A w.heap.size w w'
theorem E4{i:ε}(h:fn.results=#[.cell p i])(c:γ r)(d:Program)(w:z):
  (results fn c).run d w=((asAddr (c.getD p undef)).run d w).andThen λa k=>(loadVar i a).run d k:=by
 simp_all [results]
def pR{R:χ->z->Prop}(g:N)(v:r)(c:fn.results=#[.cell p 83])(k:a.tmps.getD p undef=.pointer (I ⟨g,0,O⟩))(h:w.heap[g]?=I (Y #[v] 83 (0,0)))(i:a.defers=[])(d:R (V (.agg #[v])) w):bodyPost s fn R .ret a w:=by
 refine ζ (v:=.agg #[v]) ?_ i d;rw[E4 c,k];have:(asAddr (.pointer (I ⟨g,0,O⟩))).run s w=.ok ⟨g,0,O⟩ w:=Z;rw[this,xj,yM w g _ _ _ h _ underlying83 rfl (by kernel_rfl)]
theorem cU(h:w.heap[g]?=I (Y #[v] t (0,0))):w.cell? ⟨g,0,O⟩=I v/\w.frozen? ⟨g,0,O⟩=false/\g<w.heap.size:=by
 refine⟨?_,?_,dC h⟩<;>simp[xd,xc,h]
def nQ{rest:K Oper}{Q:Exit->Act->z->Prop}(x:Operand)(c:op.guard=O)(i:op.op=.load 83 x)(g:N)(v:r)(k:a.eval x=.pointer (I ⟨g,0,O⟩))(d:w.heap[g]?=I (Y #[v] 83 (0,0)))(h:θ s ops Q rest (a.put op.dst (.agg #[v])) w):θ s ops Q (op::rest) a w :=
 RD c _ x i g k _ _ d _ underlying83 Z (by kernel_rfl) h
theorem yA(n:N)(w:z)(d:n<=64):
  u s 98 #[U H (n:T)] w λe w'=>sP w w' n (WY n) e:=by
 have c:∀w,(xk 81 (U H (n:T)) (U H (n:T))).run s w=.ok (VV w.heap.size n n) (w.alloc (Y (η #[U .u64 0] n) 178)):=λw =>
  run_make_row' 81 178 (U .u64 0) 8 underlying81 Tryz.infoSet Z H H n (by omega) (by omega) w
 have i:¬(n:T)<0:=by omega
 have k:¬(64:T)<n:=by omega
 go_in;go_wp2;refine pR (p:=2) w.heap.size _ (by kernel_rfl) Z ?_ Z ⟨w.heap.size+1,Z,?_,by omega,by simp[WY],Bj n d,(bB).alloc (by simp) _⟩
 ·grind [xW,σ]
 ·unfold XA;rw[<- Tt];have:=σ (w.alloc (Y #[VV (w.heap.size+1) n n] 83)) (Y (η #[U .u64 0] n) 178);simpa using this
def EH(w:z)(b o g n:N)(l:K N):Prop:=w.cell? ⟨b,o,O⟩=I (VV g n n)/\XA w g l/\l.length=n/\b<w.heap.size/\b≠g
theorem DR(b o g n:N)(l:K N)(x y:T)(w:ν)(h:EH w b o g n l)(A:WD l):
  φ ρ 99 #[.pointer (I ⟨b,o,O⟩),U H x,U H y] w λe w'=>e=V (.tuple #[])/\XA w' g (dW l x y)/\w.grownBy w' (I g):=by
 obtain⟨F,m,G,r,s⟩:=h;by_cases h0:x<0
 ·have d:aC (dW l x y=l):=by unfold aC dW;rw[υ (Or.inl h0)]
  have k:=aD m;go_in;go_wp2
  (try simp only[xh,Exit.then]);refine ζ (κ Z _ _ _) Z ?_
  rw[d.o];exact⟨Z,k,nJ _ _⟩
 have u:decide (x<0)=false:=by simpa using h0
 by_cases h1:(n:T)<=x
 ·have d:aC (dW l x y=l):=by unfold aC dW;rw[υ (x7 (Or.inl (by omega)))]
  have k:=aD m;go_in;go_wp2
  (try simp only[xh,Exit.then]);refine ζ (κ Z _ _ _) Z ?_
  rw[d.o];exact⟨Z,k,nJ _ _⟩
 have z:decide ((n:T)<=x)=false:=by simpa using h1
 by_cases h2:(n:T)<=y
 ·have d:aC (dW l x y=l):=by unfold aC dW;rw[υ (x7 (x7 (by omega)))]
  have k:=aD m;go_in;go_wp2
  (try simp only[xh,Exit.then]);refine ζ (κ Z _ _ _) Z ?_
  rw[d.o];exact⟨Z,k,nJ _ _⟩
 obtain⟨i,rfl⟩:=Int.eq_ofNat_of_zero_le (by omega:0<=x);have C:i<l.length:=by omega
 have D:(i:T)<n:=by omega
 have c:=m.jN i C;have f:=m.free i;have E:=δ (dR l (i:T)) (Q.cT y) (oD A _) (xU y);have d:aC (dW l (i:T) y=l.set i (dR l (i:T)|||Q.cT y)):=by simp_all [aC,dW,if_neg]
 have k:=aD (m.set i (dR l (i:T)|||Q.cT y));generalize dR l (i:T)=v at*;go_in;go_wp2;go_region_with(go_at_call 139;refine(MD _ _).mono ?_;rintro e w1 ⟨rfl,q⟩;subst q)
 all_goals
  go_end0;rw[d.o];exact⟨Z,k,Bb (kZ (nJ _ _) _ _)⟩
namespace Q
theorem Tu(r:K N):cJ r=(xF r.length).any λi:N=>cD r (i:T) (i:T):=rfl
theorem PH(p:N->Bool)(k:N):(xF (k+1)).any p=((xF k).any p||p k):=by
 grind
theorem UP(p:N->Bool)(k n:N)(h:k<=n)(c:(xF k).any p=true):(xF n).any p=true:=by
 grind
def kP(f:N->N)(n k:N)(t:K N):K N:=(xF n).map λi=>if i<k then f i else t.getD i 0
theorem E5(f:N->N)(t:K N):kP f t.length 0 t=t:=by
 unfold kP;apply xe
 ·simp
 grind
theorem E6(f:N->N)(n:N)(t:K N):kP f n n t=(xF n).map f:=by
 grind [kP,xg]
theorem EW(f:N->N)(n k:N)(t:K N):(kP f n k t).length=n:=by simp[kP]
theorem E7(f:N->N)(n k:N)(t:K N)(h:k<n):(kP f n k t).set k (f k)=kP f n (k+1) t:=by
 unfold kP;apply xe
 ·simp
 grind
end Q
theorem Fa(g n:N)(l:ξ N)(w:ν)(h:XA w g l)(C:l.length=n)(u:WD l):
  φ ρ 111 #[.agg #[VV g n n]] w λe w'=>e=V (.bool (cJ l))/\ι w.heap.size w w':=by
 have A:=u.len;have m:=h.lt;have E:=aD h;have x:=aD u;have y:=aD C;have D:n<=64:=by omega
 have F:aC (cJ l=(xF n).any λi:N=>cD l (i:T) (i:T)):=by grind [Tu]
 clear h u C;go_in;go_wp2;go_loopw[7] (λi wr=>∃k:N,k<=n/\i=U H k/\aC ((xF k).any (λi:N=>cD l (i:T) (i:T))=false)/\aC (wr.heap[w.heap.size]?=I (Y #[VV g n n] 83 (0,0)))/\ι w.heap.size w wr) λi _=>n-(τ i).toNat
 case atStart=>exact⟨0,x6 _,Z,by unfold aC;simp,σ w _,bB⟩
 case round =>
  obtain⟨k,L,rfl,G,HB,c⟩:=hrel;obtain⟨z0,M,K⟩:=cU HB;by_cases hlt:k<n
  ·have J:=lI hlt;have z:=aD (E.aG (c.block g m));have HR:=aD (PH (λi:N=>cD l (i:T) (i:T)) k);have q:=c.size
   cases hz:cD l (k:T) (k:T)
   ·have r:aC ((xF (k+1)).any (λi:N=>cD l (i:T) (i:T))=false):=by unfold aC;rw[HR.o,G.o,hz];rfl
    go_wp2_with(first|(refine nQ (.tmp 1) Z Z w.heap.size _ Z HB ?_)|(go_at_call 103;refine(wH g n l _ _ _ z y.symm x).mono ?_;rintro e w1 ⟨rfl,d⟩;rw[hz]));go_roundw;exact⟨k+1,by omega,by go_num,r,(d.block _ K).trans HB,c.trans (d.mono q)⟩;simp[τ];omega
   ·have s:aC (cJ l=true):=by unfold aC;rw[F.o];exact UP _ (k+1) n hlt (by grind)
    go_wp2_with(first|(refine nQ (.tmp 1) Z Z w.heap.size _ Z HB ?_)|(go_at_call 103;refine(wH g n l _ _ _ z y.symm x).mono ?_;rintro e w1 ⟨rfl,d⟩;rw[hz]));go_ret;rw[s.o];exact⟨Z,c.trans (d.mono q)⟩
  ·have s:aC (cJ l=false):=by
    grind [aC]
   go_wp2;go_ret;rw[s.o];exact⟨Z,c⟩
namespace Q
theorem Tv{α:Type}(p:α->Bool)(l:K α)(k:N)(h:k<l.length):(l.take (k+1)).any p=((l.take k).any p||p l[k]):=by
 grind [List.take_succ_eq_append_getElem]
end Q
theorem Tw(g n:N)(l:K N)(w:ν)(h:XA w g l)(z:l.length=n)(q:WD l):
  φ ρ 112 #[.agg #[VV g n n]] w λe w'=>e=V (.bool (xV l))/\ι w.heap.size w w':=by
 have s:=q.len;have r:=h.lt;have u:=aD h;have C:aC (l.any λx=>x != 0=xV l):=Z;have E:=aD z;clear h q;go_in;go_wp2;go_loop [7] (λi=>∃k:N,k<=n/\i=U H k/\aC ((l.take k).any λx=>x != 0=false)) λi=>n-(τ i).toNat
 case atStart=>exact⟨0,x6 _,Z,by grind⟩
 case round =>
  obtain⟨k,G,rfl,D⟩:=hrel;by_cases hlt:k<n
  ·have y:=lI hlt;have d:k<l.length:=by omega
   have c:=(u.alloc (Y #[VV g n n] 83)).cell k d;have F:=aD (Tv (λx=>x != 0) l k d);generalize J:l[k]=x at*;have A:aC ((x != 0)=((x:T) != 0)):=by grind [aC]
   cases hz:(x:T) != 0
   ·go_wp2
    grind [aC,τ]
   ·have m:aC (xV l=true):=by
     grind [xl]
    go_wp2;go_ret;rw[m.o];exact⟨Z,bB⟩
  ·have m:aC (xV l=false):=by
    grind [aC]
   go_wp2;go_ret;rw[m.o];exact⟨Z,bB⟩
structure Ep(w wr:ν)(b5 gn n:ω)(vr vo:π)(l:ξ ω):Prop where
 c2:wr.heap[w.heap.size]?=I (Y #[vr] 83 (0,0))
 c3:wr.heap[w.heap.size+1]?=I (Y #[vo] 83 (0,0))
 c4:wr.heap[w.heap.size+2]?=I (Y #[S O 0 0] 83 (0,0))
 c5:wr.heap[b5]?=I (Y #[VV gn n n] 83 (0,0))
 st:XA wr gn l
 bl:ι w.heap.size w wr
 gl:w.heap.size+3<=gn
 gb:gn<b5
def Ep.next{wr:ν}(h:Ep w wr b5 gn n vr vo l)(i:ι wr.heap.size wr w')(k x:ω):Ep w (w'.setCell ⟨gn,k,O⟩ (U .u64 (x:ω))) b5 gn n vr vo (l.set k x):=by
 have lt:∀{b:ω} {o:Obj},wr.heap[b]?=I o->b<wr.heap.size:=λh=>dC h
 have r:=h.gl;have m:=h.gb;have d:∀{b:ω} {o:Obj},wr.heap[b]?=I o->b≠gn->(w'.setCell ⟨gn,k,O⟩ (U .u64 (x:ω))).heap[b]?=I o:=λc q=>by
  rw[x8 _ _ _ _ q,i.block _ (lt c)];exact c
 exact⟨d h.c2 (by omega),d h.c3 (by omega),d h.c4 (by omega),d h.c5 (by omega),(h.st.X i).set k x,(h.bl.trans (i.mono h.bl.size)).setCell (p:=⟨gn,k,O⟩) (by simp;omega) _,r,m⟩
def Ep.keep{wr:ν}(h:Ep w wr b5 gn n vr vo l)(i:ι wr.heap.size wr w'):Ep w w' b5 gn n vr vo l:=by
 have lt:∀{b:ω} {o:Obj},wr.heap[b]?=I o->b<wr.heap.size:=λh=>dC h
 have d:∀{b:ω} {o:Obj},wr.heap[b]?=I o->w'.heap[b]?=I o:=λc=>by rw[i.block _ (lt c)];exact c
 exact⟨d h.c2,d h.c3,d h.c4,d h.c5,h.st.X i,h.bl.trans (i.mono h.bl.size),h.gl,h.gb⟩
theorem Ep.start(d:XA w1 gn l)(i:w.heap.size+3<=gn)(c:ι (w.heap.size+3) (((w.alloc (Y #[vr] 83)).alloc (Y #[vo] 83)).alloc (Y #[S O 0 0] 83)) w1):
  Ep w (w1.alloc (Y #[VV gn n n] 83)) w1.heap.size gn n vr vo l:=by
 have m:=c.size;simp at m;have A:∀b,b<w.heap.size+3->(w1.alloc (Y #[VV gn n n] 83)).heap[b]?=(((w.alloc (Y #[vr] 83)).alloc (Y #[vo] 83)).alloc (Y #[S O 0 0] 83)).heap[b]?:=λb k=>by
  rw[xW _ _ _ (by omega),c.block b k]
 refine⟨?_,?_,?_,σ w1 _,d.alloc _,?_,i,d.lt⟩
 ·grind [xW,σ]
 ·rw[A _ (by omega),xW _ _ _ (by simp)];have:=σ (w.alloc (Y #[vr] 83)) (Y #[vo] 83);simpa using this
 ·rw[A _ (by omega)];have:=σ ((w.alloc (Y #[vr] 83)).alloc (Y #[vo] 83)) (Y #[S O 0 0] 83);simpa using this
 ·exact(((((xR w.heap.size w).alloc (x9 _) _).alloc (by simp) _).alloc (by simp;omega) _).trans (c.mono (by omega))).alloc (by omega) _
def Ep.o{wr:ν}(h:Ep w wr b5 gn n vr vo l)(d:l.length=n)(c:WD l):sP w (wr.setCell ⟨w.heap.size+2,0,O⟩ (VV gn n n)) n l (V (.agg #[VV gn n n]))/\(wr.setCell ⟨w.heap.size+2,0,O⟩ (VV gn n n)).heap[w.heap.size+2]?=I (Y #[VV gn n n] 83 (0,0)):=by
 have i:=h.gl;refine⟨⟨gn,Z,h.st.aG (x8 _ _ _ _ (by simp;omega)),by omega,d,c,h.bl.setCell (p:=⟨w.heap.size+2,0,O⟩) (by simp) _⟩,?_⟩;rw[cI h.c4];rfl
def yX{rest:K Oper}{Q:Exit->Act->z->Prop}(x y:Operand)(c:op.guard=O)(i:op.op=.store 83 x y)(g:N)(v u:r)(m:a.eval x=.pointer (I ⟨g,0,O⟩))(o:a.eval y=.agg #[u])(d:w.heap[g]?=I (Y #[v] 83 (0,0)))(k:u.oneCell'=true)(h:θ s ops Q rest (a.put op.dst undef) (w.setCell ⟨g,0,O⟩ u)):θ s ops Q (op::rest) a w:=by
 refine wpList_store_mid c _ x y i g 0 #[u] m o (Bf d 1 (by simp)) (by kernel_rfl) (by simpa using k) ?_;simpa[World.setCells]using h
def Fb(b:Bool)(x u n:ω)(r o:ξ ω)(w:ν)(hr:XA w x r)(ho:XA w u o)(L:r.length=n)(A:o.length=n)(q:WD r)(J:WD o):
  φ ρ (cond b 101 61) #[.agg #[VV x n n],.agg #[VV u n n]] w λe w'=>sP w w' n (cond b (lR r o) (dY r o)) e:=by
 have d:n<=64:=by have:=q.len;omega
 have HR:=aD hr;have HO:=aD ho;have HN:=aD L;have HM:=aD A;have HD:aC (∃f:ω->ω,(∀i,f i=cond b (dR r (i:ψ) &&& dR o (i:ψ)) (dR r (i:ψ)|||dR o (i:ψ)))/\kP f n n (WY n)=cond b (lR r o) (dY r o)):=⟨_,λ_=>Z,by subst L;cases b<;>exact E6 _ _ _⟩;have E:aC ((cond b (lR r o) (dY r o)).length=n/\WD (cond b (lR r o) (dY r o))):=by subst L;cases b<;>first|exact⟨MK ..,Bk q J⟩|exact⟨UD ..,Oc q J⟩
 have ac:=hr.lt;have ab:=ho.lt;have D:=aD q;have C:=aD J;clear hr ho L A q J;obtain⟨f,q,A⟩:=HD.o;have q:=aD q;have A:=aD A;cases b
 all_goals
  first|go_enter func61,ntmps61|go_enter func101,ntmps101
  go_wp2_with(first|(go_at_call 98;refine(yA n _ d).mono ?_;rintro e w1 ⟨gn,rfl,K,aa,af,ak,y⟩;have ag:=y.size;have HS:=aD (Ep.start (n:=n) K (by simpa using aa) (by simpa using y));simp at ag;clear K y));have aj:=HS.gb;go_loopw[14] (λi wr=>∃k:ω,k<=n/\i=U H k/\aC (Ep w wr w1.heap.size gn n (VV x n n) (VV u n n) (kP f n k (WY n)))) λi _=>n-(τ i).toNat
  case atStart=>exact⟨0,x6 _,Z,by unfold aC;have z:=E5 f (WY n);rw[af]at z;rw[z];exact HS⟩
  case round =>
   obtain⟨k,J,rfl,c⟩:=hrel;obtain⟨x2,y2,l2⟩:=cU c.c2;obtain⟨x3,y3,l3⟩:=cU c.c3;obtain⟨x4,y4,l4⟩:=cU c.c4;obtain⟨x5,y5,l5⟩:=cU c.c5;have an:=c.bl.size;have al:=c.gl;have s:=c.st.lt;by_cases hlt:k<n
   ·have am:=lI hlt;have N:aC (∀W:ν,ι wr.heap.size wr W->XA W x r):=λW T=>(HR.aG (c.bl.block x ac)).X T
    have M:aC (∀W:ν,ι wr.heap.size wr W->XA W u o):=λW T=>(HO.aG (c.bl.block u ab)).X T
    have ai:=δ (dR r (k:ψ)) (dR o (k:ψ)) (oD D _) (oD C _);have ah:=bits_and_u64_nat (dR r (k:ψ)) (dR o (k:ψ)) (oD D _) (oD C _);have HX:=aD (E7 f n k (WY n) hlt);have ad:k<(kP f n k (WY n)).length:=by rw[EW];exact hlt
    have cg:=c.st.cell k ad;have fg:=c.st.free k;go_wp2;go_region_held3 (λw'=>w'.cell? ⟨w.heap.size,0,O⟩=I (VV x n n)/\w'.cell? ⟨w.heap.size+1,0,O⟩=I (VV u n n)/\w'.cell? ⟨w1.heap.size,0,O⟩=I (VV gn n n)) (first|exact⟨x2,x3,x5⟩|exact⟨p2,p3,p5⟩|exact⟨s2,s3,s5⟩|exact⟨(fC (by omega)).trans s2,(fC (by omega)).trans s3,(fC (by omega)).trans s5⟩|exact⟨(fC (by omega)).trans p2,(fC (by omega)).trans p3,(fC (by omega)).trans p5⟩) (first
     |(go_at_call_of 104 (VV x n n);refine(BN x n r (k:ψ) _ (N _ (by first|exact BO.o|exact(xR _ _).drew)) HN.symm d).mono ?_;rintro e wa ⟨rfl,F⟩;have m:aC (ι wr.heap.size wr wa):=(by first|exact BO.trans (F.mono BO.size)|exact((xR wr.heap.size wr).drew).trans (F.mono (by simp)));have p2:=cK m l2 x2;have p3:=cK m l3 x3;have p5:=cK m l5 x5;have pg:=cK m s cg;have qg:=fK m s fg)
     |(go_at_call_of 104 (VV u n n);refine(BN u n o (k:ψ) _ (M _ (by first|exact m.o|exact(xR _ _).drew)) HM.symm d).mono ?_;rintro e wb ⟨rfl,G⟩;have BO:aC (ι wr.heap.size wr wb):=(by first|exact m.trans (G.mono m.size)|exact((xR wr.heap.size wr).drew).trans (G.mono (by simp)));have s2:=cK BO l2 x2;have s3:=cK BO l3 x3;have s5:=cK BO l5 x5;have sg:=cK BO s cg;have tg:=fK BO s fg))
    all_goals
     go_wp2;go_roundw;exact⟨k+1,by omega,by go_num,by unfold aC;rw[<- HX.o,q.o k];first|exact c.next BO k _|exact c.next m k _⟩;simp[τ];omega
   ·have ae:k=n:=by omega
    subst ae;have z:=c.o;rw[A.o]at z;obtain⟨q1,q2⟩:=z.o E.1 E.2;have Q1:=aD q1;have Q2:=aD q2;clear q1 q2 z;go_wp2_with(first|(refine nQ (.tmp 5) Z Z w1.heap.size _ Z c.c5 ?_)|(refine yX (.tmp 4) (.tmp 29) Z Z (w.heap.size+2) _ _ Z Z c.c4 Z ?_));refine pR (p:=4) (w.heap.size+2) _ (by kernel_rfl) Z Q2 Z Q1
def Fc(d c n:N)(r o:K N)(w:z)(u:XA w d r)(s:XA w c o)(q:r.length=n)(m:o.length=n)(i:WD r)(k:WD o):
  φ ρ 61 #[.agg #[VV d n n],.agg #[VV c n n]] w λe w'=>sP w w' n (dY r o) e:=Fb false d c n r o w u s q m i k
def Tx(d c n:N)(r o:K N)(w:z)(u:XA w d r)(s:XA w c o)(q:r.length=n)(m:o.length=n)(i:WD r)(k:WD o):
  φ ρ 101 #[.agg #[VV d n n],.agg #[VV c n n]] w λe w'=>sP w w' n (lR r o) e:=Fb true d c n r o w u s q m i k
namespace Q
theorem Ty(b:T):YF 0 b=false:=by simp[YF]
theorem Tz(r o:K N)(a:N)(h:dR r (a:T)=0):qE r o a=0:=by
 unfold qE;have:∀(l:K N),l.foldl (oT r o a) 0=0:=by
  intro l
  induction l with
  |nil=>rfl
  |cons b q ih =>
   grind [oT,cD,Ty]
 exact this _
theorem T0(f:N->N)(n k:N)(h:k<n):(kP f n k (WY n)).getD k 0=0:=by
 rw[Bg _ _ (by grind [EW])];simp only[kP,List.getElem_map,List.getElem_range,Nat.lt_irrefl,if_false]
 grind [WY]
theorem T5(f:N->N)(n k:N)(h:k<n):(kP f n k (WY n)).set k 0=kP f n k (WY n):=by
 grind [T0,EW,List.set_getElem_self]
theorem T6(l:K N)(k x:N)(h:k<l.length):dR (l.set k x) (k:T)=x:=by
 grind [TA]
end Q
theorem T7(d y n:ω)(r o:ξ ω)(w:ν)(hr:XA w d r)(ho:XA w y o)(hn:r.length=n)(hm:o.length=n)(hf:WD r)(hk:WD o):
  φ ρ 102 #[.agg #[VV d n n],.agg #[VV y n n]] w λe w'=>sP w w' n (YB r o) e:=by
 have m:n<=64:=by have:=hf.len;omega
 have HR:=aD hr;have HO:=aD ho;have K:=aD hn;have HM:=aD hm;have T:=hr.lt;have ae:=ho.lt;have D:=aD hf;have C:=aD hk;clear hr ho hn hm hf hk;go_in;go_wp2_with(first|(go_at_call 98;refine(yA n _ m).mono ?_;rintro e w1 ⟨gn,rfl,aa,ad,al,aj,E⟩;have ah:=E.size;have HS:=aD (Ep.start (n:=n) aa (by simpa using ad) (by simpa using E));simp at ah;clear aa E));go_loopw[15] (λi wr=>∃k:ω,k<=n/\i=U H k/\aC (Ep w wr w1.heap.size gn n (VV d n n) (VV y n n) (kP (qE r o) n k (WY n)))) λi _=>n-(τ i).toNat
 case atStart=>exact⟨0,x6 _,Z,by grind [E5]⟩
 case round =>
  obtain⟨k,hk,rfl,u⟩:=hrel;obtain⟨x2,y2,l2⟩:=cU u.c2;obtain⟨x3,y3,l3⟩:=cU u.c3;obtain⟨x4,y4,l4⟩:=cU u.c4;obtain⟨x5,y5,l5⟩:=cU u.c5;by_cases hlt:k<n
  ·have ak:=lI hlt;have M:aC (XA wr d r):=HR.aG (u.bl.block d T);have HX:=aD (E7 (qE r o) n k (WY n) hlt);have HZ:=aD (T5 (qE r o) n k hlt)
   cases hz:(dR r (k:ψ):ψ)==0
   rotate_left
   ·have HT:aC (kP (qE r o) n (k+1) (WY n)=kP (qE r o) n k (WY n)):=by
     grind [aC,Tz]
    go_wp2_with(first|(refine nQ (.tmp 2) Z Z w.heap.size _ Z u.c2 ?_)|(go_at_call 104;refine(BN d n r (k:ψ) _ M K.symm m).mono ?_;rintro e wa ⟨rfl,F⟩));go_roundw;exact⟨k+1,by omega,by go_num,by unfold aC;rw[HT.o];exact u.keep F⟩;simp[τ];omega
   ·go_wp2_with(first|(refine nQ (.tmp 2) Z Z w.heap.size _ Z u.c2 ?_)|(go_at_call 104;refine(BN d n r (k:ψ) _ M K.symm m).mono ?_;rintro e wa ⟨rfl,F⟩;have x:=aD (u.keep F);obtain⟨x2,y2,l2⟩:=cU x.c2;obtain⟨x3,y3,l3⟩:=cU x.c3;obtain⟨x4,y4,l4⟩:=cU x.c4;obtain⟨x5,y5,l5⟩:=cU x.c5));go_loopw[25] (λj wq=>∃q:ω,q<=n/\j=U H q/\aC (Ep w wq w1.heap.size gn n (VV d n n) (VV y n n) ((kP (qE r o) n k (WY n)).set k ((xF q).foldl (oT r o k) 0)))) λj _=>n-(τ j).toNat
    case atStart=>exact⟨0,x6 _,Z,by simp_all [aC]⟩
    case round =>
     clear x2 y2 l2 x3 y3 l3 x4 y4 l4 x5 y5 l5 x;obtain⟨q,hq,rfl,s⟩:=hrel;obtain⟨x2,y2,l2⟩:=cU s.c2;obtain⟨x3,y3,l3⟩:=cU s.c3;obtain⟨x4,y4,l4⟩:=cU s.c4;obtain⟨x5,y5,l5⟩:=cU s.c5;have G:=s.st.lt;by_cases hql:q<n
     ·have am:=lI hql;have z:aC (XA wr d r):=HR.aG (s.bl.block d T);have L:aC (∀W:ν,ι wr.heap.size wr W->XA W y o):=λW hb=>(HO.aG (s.bl.block y ae)).X hb
      have J:=aD (jT (oT r o k) 0 q);have N:(xF q).foldl (oT r o k) 0<YC:=Bl C k _ _ (by decide);generalize hA:(xF q).foldl (oT r o k) 0=A at*
      cases hh:cD r (k:ψ) (q:ψ)
      ·have HB:aC ((xF (q+1)).foldl (oT r o k) 0=A):=by unfold aC;rw[J.o];unfold oT;rw[hh];rfl
       go_wp2_with(first|(refine nQ (.tmp 2) Z Z w.heap.size _ Z s.c2 ?_)|(go_at_call 103;refine(wH d n r _ _ _ z K.symm D).mono ?_;rintro e wb ⟨rfl,c⟩;rw[hh]));go_roundw;exact⟨q+1,by omega,by go_num,by unfold aC;rw[HB.o];exact s.keep c⟩;simp[τ];omega
      ·have HB:aC ((xF (q+1)).foldl (oT r o k) 0=A|||dR o (q:ψ)):=by unfold aC;rw[J.o];unfold oT;rw[hh];rfl
       have ai:=δ A (dR o (q:ψ)) N (oD C _);have af:k<((kP (qE r o) n k (WY n)).set k A).length:=by simp_all [EW]
       have cg:=s.st.jN k af;rw[T6 _ _ _ (by rw[EW];exact hlt)]at cg;go_wp2_with(first|(refine nQ (.tmp 2) Z Z w.heap.size _ Z s.c2 ?_)|(go_at_call 103;refine(wH d n r _ _ _ z K.symm D).mono ?_;rintro e wb ⟨rfl,c⟩;rw[hh];have d3:=cK c l3 x3;have d5:=cK c l5 x5;have dg:=cK c G cg));go_region_with(first
        |(go_at_call 104;refine(BN y n o (q:ψ) _ (L _ c.drew) HM.symm m).mono ?_;rintro e wc ⟨rfl,ac⟩;have BC:aC (ι wr.heap.size wr wc):=(c.drew).trans (ac.mono (by have:=c.size;simp;omega));have p5:=cK BC l5 x5;have pg:=cK BC G cg;have qg:=fK BC G (s.st.free k)))
       all_goals
        go_wp2;go_roundw;exact⟨q+1,by omega,by go_num,by unfold aC;rw[HB.o];have h1:=s.next BC k (A|||dR o (q:ψ));rw[List.set_set]at h1;exact h1⟩;simp[τ];omega
     ·have an:q=n:=by omega
      have ab:aC (Ep w wr w1.heap.size gn n (VV d n n) (VV y n n) (kP (qE r o) n (k+1) (WY n))):=by
       simp_all [qE,aC]
      go_wp2;go_roundw;exact⟨k+1,by omega,by go_num,ab⟩;simp[τ];omega
  ·have ag:k=n:=by omega
   subst ag;have HF:aC (Ep w wr w1.heap.size gn k (VV d k k) (VV y k k) (YB r o)):=by
    grind [E6,aC,YB]
   obtain⟨(Q1:aC _),(Q2:aC _)⟩:=HF.o.o (by rw[QB,K.o]) (Od D C);go_wp2_with(first|(refine nQ (.tmp 5) Z Z w1.heap.size _ Z u.c5 ?_)|(refine yX (.tmp 4) (.tmp 44) Z Z (w.heap.size+2) _ _ Z Z u.c4 Z ?_));refine pR (p:=4) (w.heap.size+2) _ (by kernel_rfl) Z Q2 Z Q1
structure Er(w wr:ν)(b3 gn n:ω)(vr:π)(l:ξ ω):Prop where
 c1:wr.heap[w.heap.size]?=I (Y #[vr] 83 (0,0))
 c2:wr.heap[w.heap.size+1]?=I (Y #[S O 0 0] 83 (0,0))
 c3:wr.heap[b3]?=I (Y #[VV gn n n] 83 (0,0))
 st:XA wr gn l
 bl:ι w.heap.size w wr
 gl:w.heap.size+2<=gn
 gb:gn<b3
def Er.keep{wr:ν}(h:Er w wr b3 gn n vr l)(i:ι wr.heap.size wr w'):Er w w' b3 gn n vr l:=by
 have d:∀{b:ω} {o:Obj},wr.heap[b]?=I o->w'.heap[b]?=I o:=λc=>by rw[i.block _ ((λh=>dC h) c)];exact c
 exact⟨d h.c1,d h.c2,d h.c3,h.st.X i,h.bl.trans (i.mono h.bl.size),h.gl,h.gb⟩
def Er.grown{wr:ν}{q:ξ ω}(h:Er w wr b3 gn n vr l)(c:wr.grownBy w' (I gn))(r:XA w' gn q):Er w w' b3 gn n vr q:=by
 have s:=h.gl;have u:=h.gb;have k:∀{b:ω} {o:Obj},wr.heap[b]?=I o->b≠gn->w'.heap[b]?=I o:=λd m=>by rw[c.block _ ((λh=>dC h) d) (by simpa using m)];exact d
 refine⟨k h.c1 (by omega),k h.c2 (by omega),k h.c3 (by omega),r,?_,h.gl,h.gb⟩;exact h.bl.trans ⟨c.os,c.tape,c.output,c.size,λi x=>c.block i (by have:=h.bl.size;omega) (by simp;omega)⟩
theorem Er.start(d:XA w1 gn l)(i:w.heap.size+2<=gn)(c:ι (w.heap.size+2) ((w.alloc (Y #[vr] 83)).alloc (Y #[S O 0 0] 83)) w1):
  Er w (w1.alloc (Y #[VV gn n n] 83)) w1.heap.size gn n vr l:=by
 have m:=c.size;simp at m;have A:∀b,b<w.heap.size+2->(w1.alloc (Y #[VV gn n n] 83)).heap[b]?=((w.alloc (Y #[vr] 83)).alloc (Y #[S O 0 0] 83)).heap[b]?:=λb k=>by
  rw[xW _ _ _ (by omega),c.block b k]
 refine⟨?_,?_,σ w1 _,d.alloc _,?_,i,d.lt⟩
 ·grind [xW,σ]
 ·rw[A _ (by omega)];have:=σ (w.alloc (Y #[vr] 83)) (Y #[S O 0 0] 83);simpa using this
 ·exact((((xR w.heap.size w).alloc (x9 _) _).alloc (by simp) _).trans (c.mono (by omega))).alloc (by omega) _
def Er.o{wr:ν}(h:Er w wr b3 gn n vr l)(d:l.length=n)(c:WD l):sP w (wr.setCell ⟨w.heap.size+1,0,O⟩ (VV gn n n)) n l (V (.agg #[VV gn n n]))/\(wr.setCell ⟨w.heap.size+1,0,O⟩ (VV gn n n)).heap[w.heap.size+1]?=I (Y #[VV gn n n] 83 (0,0)):=by
 have i:=h.gl;refine⟨⟨gn,Z,h.st.aG (x8 _ _ _ _ (by simp;omega)),by omega,d,c,h.bl.setCell (p:=⟨w.heap.size+1,0,O⟩) (by simp) _⟩,?_⟩;rw[cI h.c2];rfl
def Er.rel{wr:ν}(h:Er w wr b3 gn n vr l)(c:l.length=n):EH wr b3 0 gn n l:=by
 obtain⟨z0,_,d⟩:=cU h.c3;exact⟨z0,h.st,c,d,by have:=h.gb;omega⟩
theorem T8(c n:ω)(r:ξ ω)(w:ν)(hr:XA w c r)(hn:r.length=n)(L:WD r):
  φ ρ 110 #[.agg #[VV c n n]] w λe w'=>sP w w' n (qM r) e:=by
 have F:n<=64:=by have:=L.len;omega
 have HR:=aD hr;have J:=aD hn;have X:=hr.lt;have y:=aD L;have ae:aC (qM r=(xF n).foldl (wQ r) (WY n)):=by grind [qM]
 have D:=aD (Oi (r:=r) L.len);go_in;go_wp2_with(first|(go_at_call 98;refine(yA n _ F).mono ?_;rintro e w1 ⟨gn,rfl,ac,T,aa,M,E⟩;have ad:=E.size;have HS:=aD (Er.start (n:=n) ac (by simpa using T) (by simpa using E));simp at ad;obtain⟨x1,y1,l1⟩:=cU HS.c1));go_loopw[13] (λi wr=>∃k:ω,∃t:ξ ω,k<=n/\i=U H k/\aC (t=(xF k).foldl (wQ r) (WY n))/\aC (WD t/\t.length=n)/\aC (Er w wr w1.heap.size gn n (VV c n n) t)) λi _=>n-(τ i).toNat
 case atStart=>exact⟨0,_,x6 _,Z,Z,⟨M,aa⟩,HS⟩
 case round =>
  obtain⟨k,t,hk,rfl,HT,HO,d⟩:=hrel;obtain⟨x1,y1,l1⟩:=cU d.c1;obtain⟨x2,y2,l2⟩:=cU d.c2;by_cases hlt:k<n
  ·have af:=lI hlt;go_wp2;go_loopw[19] (λj wq=>∃q:ω,∃u:ξ ω,q<=n/\j=U H q/\aC (u=(xF q).foldl (uT r k) t)/\aC (WD u/\u.length=n)/\aC (Er w wq w1.heap.size gn n (VV c n n) u)) λj _=>n-(τ j).toNat
   case atStart=>exact⟨0,t,x6 _,Z,Z,HO,d⟩
   case round =>
    obtain⟨q,u,hq,rfl,HU,x,m⟩:=hrel;obtain⟨x1,y1,l1⟩:=cU m.c1;by_cases hql:q<n
    ·have ah:=lI hql;have C:aC (XA wr c r):=HR.aG (m.bl.block c X);have z:aC ((xF (q+1)).foldl (uT r k) t=uT r k u q):=by simp_all [aC,jT]
     cases hh:cD r (k:ψ) (q:ψ)
     ·have HB:aC (u=(xF (q+1)).foldl (uT r k) t):=by unfold aC;rw[z.o];unfold uT;rw[hh];rfl
      go_wp2_with(first|(refine nQ (.tmp 1) Z Z w.heap.size _ Z m.c1 ?_)|(go_at_call 103;refine(wH c n r _ _ _ C J.symm y).mono ?_;rintro e wb ⟨rfl,s⟩;rw[hh]));go_roundw;exact⟨q+1,u,by omega,by go_num,HB,x,m.keep s⟩;simp[τ];omega
     ·have HB:aC (dW u (q:ψ) (k:ψ)=(xF (q+1)).foldl (uT r k) t):=by unfold aC;rw[z.o];unfold uT;rw[hh];rfl
      go_wp2_with(first|(refine nQ (.tmp 1) Z Z w.heap.size _ Z m.c1 ?_)|(go_at_call 103;refine(wH c n r _ _ _ C J.symm y).mono ?_;rintro e wb ⟨rfl,s⟩;rw[hh];have A:=aD (m.keep s))|(go_at_call 99;refine(DR w1.heap.size 0 gn n u (q:ψ) (k:ψ) _ (A.rel x.2) x.1).mono ?_;rintro e wc ⟨rfl,ab,N⟩;have G:=aD (A.grown N ab)));go_roundw;exact⟨q+1,_,by omega,by go_num,HB,⟨KU x.1 _ _,by rw[CP];exact x.2⟩,G⟩;simp[τ];omega
    ·have ai:q=n:=by omega
     have K:aC (u=(xF (k+1)).foldl (wQ r) (WY n)):=by
      simp_all [aC,jT,wQ]
     go_wp2;go_roundw;exact⟨k+1,u,by omega,by go_num,K,x,m⟩;simp[τ];omega
  ·have ag:k=n:=by omega
   have HE:aC (t=qM r):=by grind [aC]
   rw[HE.o]at d;obtain⟨q1,q2⟩:=d.o.o (by rw[D.2,J.o]) D.1;have Q1:=aD q1;have Q2:=aD q2;go_wp2_with(first|(refine nQ (.tmp 3) Z Z w1.heap.size _ Z d.c3 ?_)|(refine yX (.tmp 2) (.tmp 31) Z Z (w.heap.size+1) _ _ Z Z d.c2 Z ?_));refine pR (p:=2) (w.heap.size+1) _ (by kernel_rfl) Z Q2 Z Q1
theorem Fd(s n:ω)(r:ξ ω)(w:ν)(hr:XA w s r)(hn:r.length=n)(J:WD r):
  φ ρ 80 #[.agg #[VV s n n]] w λe w'=>sP w w' n (oM r) e:=by
 have ae:n<=64:=by have:=J.len;omega
 have HR:aC (XA ((w.alloc (Y #[VV s n n] 83)).alloc (Y #[S O 0 0] 83)) s r):=(hr.alloc _).alloc _;have F:=aD hn;have A:=aD J;have af:aC (oM r=(xF n).foldl (pA n) (dY r r)):=by grind [oM]
 have D:=aD (Og J);go_in;go_wp2_with(first|(go_at_call 61;refine(Fc s s n r r _ HR HR F F A A).mono ?_;rintro e w1 ⟨gn,rfl,ab,L,N,K,E⟩;have ac:=E.size;have HS:=aD (Er.start (n:=n) ab (by simpa using L) (by simpa using E));simp at ac;obtain⟨x3,y3,l3⟩:=cU HS.c3));go_loopw[12] (λi wr=>∃k:ω,∃t:ξ ω,k<=n/\i=U H k/\aC (t=(xF k).foldl (pA n) (dY r r))/\aC (WD t/\t.length=n)/\aC (Er w wr w1.heap.size gn n (VV s n n) t)) λi _=>n-(τ i).toNat
 case atStart=>exact⟨0,_,x6 _,Z,Z,⟨K,N⟩,HS⟩
 case round =>
  obtain⟨k,t,hk,rfl,HT,HO,x⟩:=hrel;obtain⟨x3,y3,l3⟩:=cU x.c3;obtain⟨x2,y2,l2⟩:=cU x.c2;by_cases hlt:k<n
  ·have ag:=lI hlt;go_wp2;go_loopw[18] (λj wq=>∃q:ω,∃u:ξ ω,q<=n/\j=U H q/\aC (u=(xF q).foldl (nD k) t)/\aC (WD u/\u.length=n)/\aC (Er w wq w1.heap.size gn n (VV s n n) u)) λj _=>n-(τ j).toNat
   case atStart=>exact⟨0,t,x6 _,Z,Z,HO,x⟩
   case round =>
    obtain⟨q,u,hq,rfl,HU,c,m⟩:=hrel;obtain⟨x3,y3,l3⟩:=cU m.c3;by_cases hql:q<n
    ·have ai:=lI hql;have C:aC ((xF (q+1)).foldl (nD k) t=nD k u q):=by simp_all [aC,jT]
     have M:k<u.length:=by rw[c.2];exact hlt
     have aa:q<u.length:=by rw[c.2];exact hql
     cases hh:cD u (q:ψ) (k:ψ)
     ·have HB:aC (u=(xF (q+1)).foldl (nD k) t):=by unfold aC;rw[C.o];unfold nD;rw[hh];rfl
      go_wp2_with(first|(refine nQ (.tmp 3) Z Z w1.heap.size _ Z m.c3 ?_)|(go_at_call 103;refine(wH gn n u _ _ _ m.st c.2.symm c.1).mono ?_;rintro e wb ⟨rfl,d⟩;rw[hh]));go_roundw;exact⟨q+1,u,by omega,by go_num,HB,c,m.keep d⟩;simp[τ];omega
     ·have HB:aC (u.set q (dR u (q:ψ)|||dR u (k:ψ))=(xF (q+1)).foldl (nD k) t):=by unfold aC;rw[C.o];unfold nD;rw[hh];rfl
      have ad:=δ (dR u (q:ψ)) (dR u (k:ψ)) (oD c.1 _) (oD c.1 _);have z:aC (∀W:ν,ι wr.heap.size wr W->Er w (W.setCell ⟨gn,q,O⟩ (U .u64 ((dR u (q:ψ)|||dR u (k:ψ):ω)))) w1.heap.size gn n (VV s n n) (u.set q (dR u (q:ψ)|||dR u (k:ψ)))):=λW hb =>
       (m.keep hb).grown (kZ (nJ _ _) _ _) ((m.st.X hb).set q _)
      go_wp2_with(first|(refine nQ (.tmp 3) Z Z w1.heap.size _ Z m.c3 ?_)|(go_at_call 103;refine(wH gn n u _ _ _ m.st c.2.symm c.1).mono ?_;rintro e wb ⟨rfl,d⟩;rw[hh];have y:=aD (m.keep d);have aj:=cK d l3 x3;have cq:=y.st.jN q aa;have ck:=y.st.jN k M;have fq:=y.st.free q));go_region
      all_goals
       go_wp2;go_roundw;exact⟨q+1,_,by omega,by go_num,HB,⟨TT c.1 _ _ (uG (oD c.1 _) (oD c.1 _)),by rw[List.length_set];exact c.2⟩,by first|exact z _ d.drew|exact z _ d⟩;simp[τ];omega
    ·have T:q=n:=by omega
     have G:aC (u=(xF (k+1)).foldl (pA n) (dY r r)):=by
      unfold aC;rw[jT,<- HT.o,HU.o,T];rfl
     go_wp2;go_roundw;exact⟨k+1,u,by omega,by go_num,G,c,m⟩;simp[τ];omega
  ·have ah:k=n:=by omega
   have HE:aC (t=oM r):=by grind [aC]
   rw[HE.o]at x;obtain⟨q1,q2⟩:=x.o.o (by rw[D.2,F.o]) D.1;have Q1:=aD q1;have Q2:=aD q2;go_wp2_with(first|(refine nQ (.tmp 3) Z Z w1.heap.size _ Z x.c3 ?_)|(refine yX (.tmp 2) (.tmp 39) Z Z (w.heap.size+1) _ _ Z Z x.c2 Z ?_));refine pR (p:=2) (w.heap.size+1) _ (by kernel_rfl) Z Q2 Z Q1
def T9(d n:N)(r:K N)(w:ν)(z:XA w d r)(y:r.length=n)(u:WD r):
  φ ρ 100 #[.agg #[VV d n n]] w λe w'=>e=V (.bool (CK r))/\ι w.heap.size w w':=by
 have HR:=aD (z.alloc (Y #[VV d n n] 83));have s:=aD y;have i:=aD u;go_in;go_wp2_with(first|(go_at_call 80;refine(Fd d n r _ HR s i).mono ?_;rintro e w1 ⟨gn,rfl,q,x,o,m,c⟩)|(go_at_call 111;refine(Fa gn n _ _ q o m).mono ?_;rintro e A ⟨rfl,k⟩));go_ret;exact⟨Z,((xR w.heap.size w).alloc (x9 _) _).trans ((c.mono (by simp)).trans (k.mono (by have:=c.size;simp at this;omega)))⟩
def YD(l:K Ev):K r:=l.flatMap λe=>(aK e).toList
def qT(l:K Ev):(YD l).length=l.length*10:=by
 induction l with
 |nil=>rfl
 |cons a r ih=>simp[YD,aK]at *;omega
theorem Fe(a b:K Ev):YD (a++b)=YD a++YD b:=by simp[YD]
theorem Ff(e:Ev):YD [e]=(aK e).toList:=by simp[YD]
theorem Fg(l:K Ev):∀(k:N) (h:k<l.length) (i:N),i<10->(YD l)[k*10+i]?=(aK l[k]).toList[i]?:=by
 induction l with
 |nil=>intro k h;simp at h
 |cons a r ih =>
  intro k h i c;have e:YD (a::r)=(aK a).toList++YD r:=by simp[YD]
  have d:(aK a).toList.length=10:=Z
  grind
def Ua(l:K Ev):∀u∈YD l,u.oneCell'=true:=by
 intro u d;simp only[YD,List.mem_flatMap,aK]at d;obtain⟨e,_,c⟩:=d;simp at c
 rcases c with rfl|rfl|rfl|rfl|rfl|rfl|rfl|rfl|rfl|rfl<;>rfl
def YG(w:z)(v:r)(es:K Ev):Prop:=w.ownsRow 0 180 10 v es.length (YD es)
def YG.keep(h:YG w v es)(c:∀k,k<w.heap.size->w'.heap[k]?=w.heap[k]?):YG w' v es:=bH h λk e=>c k (h.lt k e).2
def YG.X(h:YG w v es)(c:ι w.heap.size w w'):YG w' v es:=h.keep λk d=>c.block k d
theorem YG.form(h:YG w v es):∃a c,v=S a es.length c/\(0<es.length->∃b,a=I ⟨b,0,O⟩/\b<w.heap.size):=by
 rcases h.2 with⟨e,i⟩|⟨k,c,d,e,_⟩
 ·grind
 grind
def YG.range{c:ω}(h:YG w (VV b n c) es)(o:n=es.length)(k:ω)(m:k<es.length):w.rangeAt b (k*10) (aK es[k]).toList:=by
 intro j v d;have i:j<10:=(List.getElem?_eq_some_iff.1 d).1;unfold YG at h;rw[o]at h;rw[h.cellAt _ (by omega),Fg es k m j i];exact d
theorem fF(es:K Ev)(k:N)(h:k<es.length):Q.ev es k=es[k]:=by simp[Q.ev,h]
def YG.cZ{c:ω}(h:YG w (VV b n c) es)(i:n=es.length)(k:ω)(d:k<es.length):w.rangeAt b (k*10) (aK (Q.ev es k)).toList:=by
 rw[fF es k d];exact h.range i k d
def jQ{rest:K Oper}{R:Exit->Act->z->Prop}(x:Operand)(c:op.guard=O)(d:op.op=.load 180 x)(b o:N)(e:Ev)(k:a.eval x=.pointer (I ⟨b,o,O⟩))(i:w.rangeAt b o (aK e).toList)(h:θ s ops R rest (a.put op.dst (.agg #[U H e.kind,U H e.j,U H e.block,U H e.z,U H e.value,U H e.q,U H e.scope,U H e.u,.bool e.step,U .u64 (e.h:N)])) w):θ s ops R (op::rest) a w :=
 wpList_load_mid c _ x d b o k (aK e).toList _ i underlying180 Z (by kernel_rfl) h
structure Ec(w:ν)(g n:ω)(l:ξ ω):Prop where
 at_:XA w g l
 len:l.length=n
 fits:WD l
def Ec.lt(h:Ec w g n l):g<w.heap.size:=h.at_.lt
def Ec.X(h:Ec w g n l)(c:ι w.heap.size w w'):Ec w' g n l:=⟨h.at_.X c,h.len,h.fits⟩
def Ec.keep(h:Ec w g n l)(c:∀k,k<w.heap.size->w'.heap[k]?=w.heap[k]?):Ec w' g n l:=⟨h.at_.aG (c g h.lt),h.len,h.fits⟩
structure FA where
 n:ω
 ev:π
 g1:ω
 g2:ω
 g3:ω
 g4:ω
 g5:ω
 g6:ω
 g7:ω
 g8:ω
 g9:ω
def XP(a:FA):γ r:=#[a.ev,VV a.g1 a.n a.n,VV a.g2 a.n a.n,VV a.g3 a.n a.n,VV a.g4 a.n a.n,VV a.g5 a.n a.n,VV a.g6 a.n a.n,VV a.g7 a.n a.n,VV a.g8 a.n a.n,VV a.g9 a.n a.n]
structure Ee(w:ν)(a:FA)(f:Ex):Prop where
 ev:YG w a.ev f.E
 len:f.E.length=a.n
 n64:a.n<=64
 r1:Ec w a.g1 a.n f.C
 r2:Ec w a.g2 a.n f.G
 r3:Ec w a.g3 a.n f.J
 r4:Ec w a.g4 a.n f.N
 r5:Ec w a.g5 a.n f.y
 r6:Ec w a.g6 a.n f.h
 r7:Ec w a.g7 a.n f.L
 r8:Ec w a.g8 a.n f.sends
 r9:Ec w a.g9 a.n f.M
def Ee.keep{a:FA}(h:Ee w a f)(c:∀k,k<w.heap.size->w'.heap[k]?=w.heap[k]?):Ee w' a f :=
 ⟨h.ev.keep c,h.len,h.n64,h.r1.keep c,h.r2.keep c,h.r3.keep c,h.r4.keep c,h.r5.keep c,h.r6.keep c,h.r7.keep c,h.r8.keep c,h.r9.keep c⟩
def Ee.X{a:FA}(h:Ee w a f)(c:ι w.heap.size w w'):Ee w' a f:=h.keep λk d=>c.block k d
theorem Ee.form{a:FA}(h:Ee w a f):∃x c,a.ev=S x a.n c/\(0<a.n->∃b,x=I ⟨b,0,O⟩/\b<w.heap.size):=by
 have:=h.ev.form
 grind [Ee.len]
theorem Ub{P:Program}(w:ν)(s D E d:ε)(b o c m:N)(a:Addr)(k r u:N)(cs:K π)(J:P.underlying s=I (.slice d))(A:(P.info? d).map (·.size)=I u)(G:cs.length=Nat.min k c*u)(q:∀j v,cs[j]?=I v->w.cell? (a.add j)=I v)(y:∀j,j<cs.length->(w.cell? ⟨b,o+j,O⟩).isSome=true)(z:∀j,j<cs.length->w.frozen? ⟨b,o+j,O⟩=false)(x:∀v∈cs,v.oneCell'=true):
  (Builtin.copy_ #[s,D] E #[S (I ⟨b,o,O⟩) c m,S (I a) k r]).run P w=.ok (goInt (Nat.min k c)) (w.setCells b o cs):=by
 have F:=run_loadCells_list (P:=P) w a cs q;have C:=run_storeCells_cells (P:=P) b o cs 0 w (by simpa using y) (by simpa using z) x
 cases hq:P.info? d with
 |none=>simp[hq]at A
 |some i =>
  simp_all [Builtin.copy_,run_underlying,Builtin.lenOf,Builtin.firstCells,sizeOf,typeInfo]
def oB(w w':z)(n:N)(l:K N)(e:χ):Prop:=∃g,e=V (.agg #[VV g n n])/\Ec w' g n l/\A w.heap.size w w'
def sP.tE{e:χ}(h:sP w w' n l e):oB w w' n l e:=by
 obtain⟨g,rfl,c,_,d,i,k⟩:=h;exact⟨g,Z,⟨c,d,i⟩,k⟩
def pG(d c n:N)(r o:K N)(w:z)(k:Ec w d n r)(i:Ec w c n o):
  u s 61 #[.agg #[VV d n n],.agg #[VV c n n]] w λe w'=>oB w w' n (dY r o) e :=
 (Fc d c n r o w k.at_ i.at_ k.len i.len k.fits i.fits).mono λ_ _ h=>h.tE
def DJ(d c n:N)(r o:K N)(w:z)(k:Ec w d n r)(i:Ec w c n o):
  u s 101 #[.agg #[VV d n n],.agg #[VV c n n]] w λe w'=>oB w w' n (lR r o) e :=
 (Tx d c n r o w k.at_ i.at_ k.len i.len k.fits i.fits).mono λ_ _ h=>h.tE
def pO(d c n:N)(r o:K N)(w:z)(k:Ec w d n r)(i:Ec w c n o):
  u s 102 #[.agg #[VV d n n],.agg #[VV c n n]] w λe w'=>oB w w' n (YB r o) e :=
 (T7 d c n r o w k.at_ i.at_ k.len i.len k.fits i.fits).mono λ_ _ h=>h.tE
def Fh(c n:N)(r:K N)(w:z)(d:Ec w c n r):
  u s 110 #[.agg #[VV c n n]] w λe w'=>oB w w' n (qM r) e :=
 (T8 c n r w d.at_ d.len d.fits).mono λ_ _ h=>h.tE
def Fi(c n:N)(r:K N)(w:z)(d:Ec w c n r):
  u s 80 #[.agg #[VV c n n]] w λe w'=>oB w w' n (oM r) e :=
 (Fd c n r w d.at_ d.len d.fits).mono λ_ _ h=>h.tE
def LS(c n:N)(r:K N)(w:z)(d:Ec w c n r):
  u s 111 #[.agg #[VV c n n]] w λe w'=>e=V (.bool (cJ r))/\A w.heap.size w w' :=
 Fa c n r w d.at_ d.len d.fits
def Fj(c n:N)(r:K N)(w:z)(d:Ec w c n r):
  u s 100 #[.agg #[VV c n n]] w λe w'=>e=V (.bool (CK r))/\A w.heap.size w w' :=
 T9 c n r w d.at_ d.len d.fits
def zM(c n:N)(r:K N)(a b:T)(w:z)(d:Ec w c n r):
  u s 103 #[.agg #[VV c n n],U H a,U H b] w λe w'=>e=V (.bool (cD r a b))/\A w.heap.size w w' :=
 wH c n r a b w d.at_ d.len.symm d.fits
def CH{c:z}(h:A B w w1)(d:B<=w.heap.size)(k:A w1.heap.size w1 c):A B w c:=h.trans (k.mono (xi d h.size))
def Uc(a:FA)(f:Ex)(q:ω)(rd:ξ ω)(w:ν)(s:Ee w a f)(z:Ec w q a.n rd):
  φ ρ 58 #[.agg (XP a),.agg #[VV q a.n a.n]] w λe w'=>e=V (.bool (f.hangsOn rd))/\ι w.heap.size w w':=by
 have D:aC (f.hangsOn rd=CK (dY f.h rd)):=Z;have m:aC (∀o p,ι w.heap.size w ((w.alloc o).alloc p)):=λo p=>(bB).alloc (by simp) _
 have u:=aD s.r6;have y:=aD z;obtain⟨x,c,i,F⟩:=s.form;clear s z F;obtain⟨n,ev,J,K,L,M,N,E,T,g8,g9⟩:=a;simp only at i u y;subst i;simp only[XP];go_in;go_wp2_with(first
  |(go_at_call 61;refine(pG E q n f.h rd _ (u.X (m _ _)) (y.X (m _ _))).mono ?_;rintro e w1 ⟨G,rfl,k,d⟩;have A:=aD ((m _ _).trans (d.mono (by simp;omega)));have Q1:=aD k;clear k d)
  |(go_at_call 100;(refine(Fj G n _ _ Q1).mono ?_;rintro e w2 ⟨rfl,r⟩;have C:=aD (bT A r))))
 go_ret;rw[D.o];exact⟨Z,C⟩
def Ud(c n:N)(r:K N)(w:z)(d:Ec w c n r):
  u s 112 #[.agg #[VV c n n]] w λe w'=>e=V (.bool (xV r))/\A w.heap.size w w' :=
 Tw c n r w d.at_ d.len d.fits
def nY(w:z)(a:γ r)(s:ε):(w.alloc (Y a s)).heap[w.heap.size]?=I (Y a s (0,0))/\(w.alloc (Y a s)).heap.size=w.heap.size+1/\A w.heap.size w (w.alloc (Y a s)):=
 ⟨σ w _,by simp,bB⟩
theorem nZ(w:z)(a b:γ r)(s t:ε):((w.alloc (Y a s)).alloc (Y b t)).heap[w.heap.size]?=I (Y a s (0,0))/\((w.alloc (Y a s)).alloc (Y b t)).heap[w.heap.size+1]?=I (Y b t (0,0))/\((w.alloc (Y a s)).alloc (Y b t)).heap.size=w.heap.size+2/\A w.heap.size w ((w.alloc (Y a s)).alloc (Y b t)):=by
 refine⟨?_,?_,by simp,(bB).alloc (by simp) _⟩
 ·grind [xW,σ]
 ·have:=σ (w.alloc (Y a s)) (Y b t);simpa using this
theorem wT(w:z)(a b c:γ r)(s t u:ε):(((w.alloc (Y a s)).alloc (Y b t)).alloc (Y c u)).heap[w.heap.size]?=I (Y a s (0,0))/\(((w.alloc (Y a s)).alloc (Y b t)).alloc (Y c u)).heap[w.heap.size+1]?=I (Y b t (0,0))/\(((w.alloc (Y a s)).alloc (Y b t)).alloc (Y c u)).heap[w.heap.size+2]?=I (Y c u (0,0))/\
  (((w.alloc (Y a s)).alloc (Y b t)).alloc (Y c u)).heap.size=w.heap.size+3/\A w.heap.size w (((w.alloc (Y a s)).alloc (Y b t)).alloc (Y c u)):=by
 obtain⟨i,k,m,d⟩:=nZ w a b s t;refine⟨?_,?_,?_,by simp,d.alloc (by simp;omega) _⟩
 ·grind [xW]
 ·grind [xW]
 grind [σ]
theorem RW(w:z)(a b c d:γ r)(s t u v:ε):((((w.alloc (Y a s)).alloc (Y b t)).alloc (Y c u)).alloc (Y d v)).heap[w.heap.size]?=I (Y a s (0,0))/\((((w.alloc (Y a s)).alloc (Y b t)).alloc (Y c u)).alloc (Y d v)).heap[w.heap.size+1]?=I (Y b t (0,0))/\((((w.alloc (Y a s)).alloc (Y b t)).alloc (Y c u)).alloc (Y d v)).heap[w.heap.size+2]?=I (Y c u (0,0))/\
  ((((w.alloc (Y a s)).alloc (Y b t)).alloc (Y c u)).alloc (Y d v)).heap[w.heap.size+3]?=I (Y d v (0,0))/\((((w.alloc (Y a s)).alloc (Y b t)).alloc (Y c u)).alloc (Y d v)).heap.size=w.heap.size+4/\A w.heap.size w ((((w.alloc (Y a s)).alloc (Y b t)).alloc (Y c u)).alloc (Y d v)):=by
 obtain⟨k,m,o,q,i⟩:=wT w a b c s t u;refine⟨?_,?_,?_,?_,by simp,i.alloc (by simp;omega) _⟩
 ·grind [xW]
 ·grind [xW]
 ·grind [xW]
 grind [σ]
theorem Ue(w:z)(a b c d e:γ π)(s t u v x:ε):(((((w.alloc (Y a s)).alloc (Y b t)).alloc (Y c u)).alloc (Y d v)).alloc (Y e x)).heap[w.heap.size]?=I (Y a s (0,0))/\(((((w.alloc (Y a s)).alloc (Y b t)).alloc (Y c u)).alloc (Y d v)).alloc (Y e x)).heap[w.heap.size+1]?=I (Y b t (0,0))/\(((((w.alloc (Y a s)).alloc (Y b t)).alloc (Y c u)).alloc (Y d v)).alloc (Y e x)).heap[w.heap.size+2]?=I (Y c u (0,0))/\
  (((((w.alloc (Y a s)).alloc (Y b t)).alloc (Y c u)).alloc (Y d v)).alloc (Y e x)).heap[w.heap.size+3]?=I (Y d v (0,0))/\(((((w.alloc (Y a s)).alloc (Y b t)).alloc (Y c u)).alloc (Y d v)).alloc (Y e x)).heap[w.heap.size+4]?=I (Y e x (0,0))/\(((((w.alloc (Y a s)).alloc (Y b t)).alloc (Y c u)).alloc (Y d v)).alloc (Y e x)).heap.size=w.heap.size+5/\A w.heap.size w (((((w.alloc (Y a s)).alloc (Y b t)).alloc (Y c u)).alloc (Y d v)).alloc (Y e x)):=by
 obtain⟨k,m,o,q,r,i⟩:=RW w a b c d s t u v;refine⟨?_,?_,?_,?_,?_,by simp,i.alloc (by simp;omega) _⟩
 ·grind [xW]
 ·grind [xW]
 ·grind [xW]
 ·grind [xW]
 grind [σ]
def Uf(gc gb c n:ω)(cs i u:ξ ω)(w:ν)(L:Ec w gc n cs)(K:Ec w gb n i)(M:Ec w c n u):
  φ ρ 73 #[.agg #[VV gc n n],.agg #[VV gb n n],.agg #[VV c n n]] w λe w'=>e=V (.bool (Ab cs i u))/\ι w.heap.size w w':=by
 have HE:aC (Ab cs i u=!Q.cJ (YB (dY i u) cs)):=Z;obtain⟨N,T,k2,E,(z:aC _)⟩:=wT w #[VV gc n n] #[VV gb n n] #[VV c n n] 83 83 83;have RC:=aD (L.X z);have RB:=aD (K.X z);have RM:=aD (M.X z);clear L K M;go_in;go_upto_region 1 with fail
 generalize hE:((w.alloc (Y #[VV gc n n] 83)).alloc (Y #[VV gb n n] 83)).alloc (Y #[VV c n n] 83)=W at*;obtain⟨A,f0,F⟩:=cU N;obtain⟨C,f1,G⟩:=cU T;obtain⟨D,f2,J⟩:=cU k2;clear N T k2 hE E;go_region_held3 (λw'=>w'.cell? ⟨w.heap.size,0,O⟩=I (VV gc n n)/\w'.cell? ⟨w.heap.size+1,0,O⟩=I (VV gb n n)/\w'.cell? ⟨w.heap.size+2,0,O⟩=I (VV c n n)) (first|exact⟨A,C,D⟩|exact⟨p0,p1,p2⟩|exact⟨q0,q1,q2⟩|exact⟨r0,r1,r2⟩) (first
  |(go_at_call 61;refine(pG gb c n i u _ (RB.X (xR _ _).drew) (RM.X (xR _ _).drew)).mono ?_;rintro e w1 ⟨g1,rfl,r,k⟩;have d:aC (ι W.heap.size W w1):=((xR W.heap.size W).drew).trans (k.mono (by simp));have G1:=aD r;have p0:=cK d F A;have p1:=cK d G C;have p2:=cK d J D;clear r k)
  |(go_at_call 102;refine(pO g1 gc n _ cs _ G1 (RC.X d)).mono ?_;rintro e w2 ⟨g2,rfl,s,m⟩;have x:aC (ι W.heap.size W w2):=bT d m;have G2:=aD s;have q0:=cK x F A;have q1:=cK x G C;have q2:=cK x J D;clear s m)
  |(go_at_call 111;refine(LS g2 n _ _ G2).mono ?_;rintro e w3 ⟨rfl,q⟩;have y:aC (ι W.heap.size W w3):=bT x q;have r0:=cK y F A;have r1:=cK y G C;have r2:=cK y J D;clear q))
 all_goals
  go_wp2;go_ret;rw[HE.o];exact⟨Z,bT z y⟩
structure Fill(W0 wr:ν)(b gn n:ω)(t:ξ ω):Prop where
 bel:ι W0.heap.size W0 wr
 rel:Ec wr gn n t
 box:wr.heap[b]?=I (Y #[VV gn n n] 83 (0,0))
 ge:W0.heap.size<=gn
 gb:W0.heap.size<=b
def Fill.ne{W0 wr:ν}{t:ξ ω}(h:Fill W0 wr b gn n t):b≠gn:=λe=>by
 have c:=h.rel.at_;unfold XA at c;rw[<- e,h.box]at c;simp at c
def Fill.keep{W0 wr:ν}{t:ξ ω}(h:Fill W0 wr b gn n t)(c:ι wr.heap.size wr w'):Fill W0 w' b gn n t :=
 ⟨h.bel.trans (c.mono h.bel.size),h.rel.X c,(c.block b (dC h.box)).trans h.box,h.ge,h.gb⟩
def Fill.alloc{W0 wr:ν}{t:ξ ω}(h:Fill W0 wr b gn n t)(o:Obj):Fill W0 (wr.alloc o) b gn n t:=h.keep bB
def Fill.grown{W0 wr:ν}{t:ξ ω}(h:Fill W0 wr b gn n t){x y:ψ}(c:wr.grownBy w' (I gn))(d:XA w' gn (dW t x y)):Fill W0 w' b gn n (dW t x y):=
 ⟨h.bel.trans ⟨c.os,c.tape,c.output,c.size,λi k=>c.block i (by have:=h.bel.size;omega) (by have:=h.ge;simp;omega)⟩,⟨d,by rw[CP];exact h.rel.len,KU h.rel.fits _ _⟩,(c.block b (dC h.box) (by have:=h.ne;simpa using this)).trans h.box,h.ge,h.gb⟩
def Fill.pN{W0 wr:ν}{t:ξ ω}(h:Fill W0 wr b gn n t):EH wr b 0 gn n t:=by
 obtain⟨z0,_,c⟩:=cU h.box;exact⟨z0,h.rel.at_,h.rel.len,c,h.ne⟩
def Fill.start{W0:ν}{t:ξ ω}(i:Ec w1 gn n t)(d:W0.heap.size<=gn)(c:ι W0.heap.size W0 w1):Fill W0 (w1.alloc (Y #[VV gn n n] 83)) w1.heap.size gn n t :=
 ⟨c.alloc c.size _,i.X bB,σ w1 _,d,c.size⟩
def Fill.o{W0 wr:ν}{r:ω}{t:ξ ω}(h:Fill W0 wr b gn n t)(m:ι w.heap.size w W0)(i:W0.heap[r]?=I (Y #[S O 0 0] 83 (0,0)))(d:w.heap.size<=r):
  oB w (wr.setCell ⟨r,0,O⟩ (VV gn n n)) n t (V (.agg #[VV gn n n]))/\(wr.setCell ⟨r,0,O⟩ (VV gn n n)).heap[r]?=I (Y #[VV gn n n] 83 (0,0)):=by
 have c:=dC i;have k:=h.ge;refine⟨⟨gn,Z,⟨h.rel.at_.aG (x8 _ _ _ _ (by simp;omega)),h.rel.len,h.rel.fits⟩,(bT m h.bel).setCell (p:=⟨r,0,O⟩) d _⟩,?_⟩;rw[cI ((h.bel.block r c).trans i)];rfl
def Fill.cell{W0 wr:ν}{t:ξ ω}(h:Fill W0 wr b gn n t){p:Addr}(d:p.block<W0.heap.size)(c:W0.cell? p=I v):wr.cell? p=I v:=(h.bel.cell (p:=p) d).trans c
def YA.X{l:ξ ψ}(h:YA w v l)(k:ι w.heap.size w w'):YA w' v l:=by
 rcases h with h|⟨g,c,rfl,o,m,d⟩
 ·exact Or.inl h
 ·exact x7 ⟨g,c,Z,λi q=>cK k m (o i q),xa m k.size,d⟩
theorem YA.form{l:ξ ψ}(h:YA w v l):∃a c,v=S a l.length c/\(0<l.length->∃g,a=I ⟨g,0,O⟩/\g<w.heap.size/\∀i (h:i<l.length),w.cell? ⟨g,i,O⟩=I (U H l[i])):=by
 rcases h with⟨rfl,rfl⟩|⟨g,d,rfl,k,m,_⟩
 ·simp_all
 grind
def iU(B:N)(w:z)(n:N):A B w (w.drewN n):=by
 induction n with
 |zero=>exact xR _ _
 |succ n ih=>exact⟨ih.os,ih.tape,ih.output,ih.size,ih.block⟩
theorem WN.grown(h:WN w g e)(m:XA w gn l)(d:w.grownBy w' (I gn)):WN w' g e:=by
 have c:g≠gn:=λk=>by
  grind [WN,XA]
 have i:=h.lt;unfold WN at*;rw[d.block g i (by simpa using c)];exact h
theorem pH(l:K T)(i:N)(h:i<l.length)(d:T):l.getD i d=l[i]:=by grind
namespace Q
def hM(rs:K T)(r:K N)(i:N):K N:=dW r (i:T) (rs.getD i (-1))
end Q
theorem Ug(a:FA)(f:Ex)(v:π)(d:ξ ψ)(w:ν)(u:Ee w a f)(hv:YA w v d)(hl:d.length<10000):
  φ ρ 56 #[.agg (XP a),v] w λe w'=>oB w w' a.n (f.D d) e:=by
 have A:aC (f.D d=(xF d.length).foldl (hM d) (WY a.n)):=by unfold aC Ex.D;rw[u.len];rfl
 obtain⟨va,vc,rfl,aa⟩:=hv.form;obtain⟨x,c,s,hx⟩:=u.form;have q:=u.n64;have N:=u.len;obtain⟨n,ev,g1,g2,g3,g4,g5,g6,g7,g8,g9⟩:=a;simp only at s q N hx;subst s;simp only[XP];simp only at A;obtain⟨k0,k1,ae,E⟩:=nZ w #[S x n c,VV g1 n n,VV g2 n n,VV g3 n n,VV g4 n n,VV g5 n n,VV g6 n n,VV g7 n n,VV g8 n n,VV g9 n n] #[S O 0 0] 85 83;have r:=aD E;go_in;go_upto_region 1 with fail
 generalize hE:(w.alloc (Y #[S x n c,VV g1 n n,VV g2 n n,VV g3 n n,VV g4 n n,VV g5 n n,VV g6 n n,VV g7 n n,VV g8 n n,VV g9 n n] 85)).alloc (Y #[S O 0 0] 83)=W0 at*;have ab:=gE k0 0 _ Z;obtain⟨c1,f1,l1⟩:=cU k1;have K1:=aD k1;go_wp2_with(first|(go_at_call 98;refine(yA n _ q).mono ?_;rintro e w1 ⟨gn,rfl,X,K,M,G,C⟩;have HS:=aD (Fill.start ⟨X,M,G⟩ K C)));go_loopw[14] (λi wr=>∃(k:ω) (t:ξ ω),k<=d.length/\i=U H k/\aC (t=(xF k).foldl (hM d) (WY n))/\aC (Fill W0 wr w1.heap.size gn n t)) λi _=>d.length-(τ i).toNat
 case atStart=>exact⟨0,_,x6 _,Z,Z,HS⟩
 case round =>
  obtain⟨k,t,hk,rfl,HT,m⟩:=hrel;obtain⟨b0,b1,b2⟩:=cU m.box;by_cases hlt:k<d.length
  ·have ac:=lI hlt;obtain⟨g,rfl,hg,F⟩:=aa (by omega);have L:g<W0.heap.size:=by omega
   have hc:wr.cell? ⟨g,k,O⟩=I (U H d[k]):=m.cell L (cK r.o hg (F k hlt));have HN:aC (dW t (k:ψ) d[k]=(xF (k+1)).foldl (hM d) (WY n)):=by grind [aC,jT,hM]
   generalize d[k]=y at*;go_wp2_with(first|(go_at_call 99;refine(DR w1.heap.size 0 gn n t (k:ψ) y _ m.pN m.rel.fits).mono ?_;rintro e wc ⟨rfl,T,J⟩;have HJ:=aD (m.grown J T)))
   grind [τ]
  ·have ad:k=d.length:=by omega
   have z:aC (t=f.D d):=by grind [aC]
   obtain⟨q1,q2⟩:=m.o.o r.o K1.o (by omega);rw[z.o]at q1;go_wp2_with(first|(refine nQ (.tmp 5) Z Z w1.heap.size _ Z m.box ?_)|(refine yX (.tmp 4) (.tmp 23) Z Z (w.heap.size+1) _ _ Z Z ((m.bel.block _ l1).trans K1.o) Z ?_));refine pR (p:=4) (w.heap.size+1) _ (by kernel_rfl) Z q2 Z q1
namespace Q
def kI(f:N->T)(n k:N):K T:=(xF n).map λj=>if j<k then f j else 0
theorem RE(f:N->T)(n:N):kI f n 0=List.replicate n 0:=by
 unfold kI;apply xe<;>simp
theorem LY(f:N->T)(n k:N):(kI f n k).length=n:=by simp[kI]
theorem UT(f:N->T)(n:N):kI f n n=(xF n).map f:=by
 grind [kI,xg]
theorem QS(f:N->T)(n k:N)(h:k<n):(kI f n k).set k (f k)=kI f n (k+1):=by
 unfold kI;apply xe
 ·simp
 grind
end Q
def WO.rG{l:ξ ψ}(h:WO w g l)(c:ω)(d:l.length<=c:=by first|exact x9 _|omega|simp):YA w (VV g l.length c) l:=x7 ⟨g,c,Z,λi k=>h.cell i k,h.lt,d⟩
structure Eo(w w':ν)(gc o gd:ω):Prop where
 os:w'.os=w.os
 tape:w'.tape=w.tape
 output:w'.output=w.output
 size:w'.heap.size=w.heap.size
 block:∀k,k≠gc->k≠gd->w'.heap[k]?=w.heap[k]?
 cell:∀j,j≠o+2->w'.cell? ⟨gc,j,O⟩=w.cell? ⟨gc,j,O⟩
 froz:∀j,w'.frozen? ⟨gc,j,O⟩=w.frozen? ⟨gc,j,O⟩
 shape:∀c t fr,w.heap[gc]?=I (Y c t fr)->∃c',w'.heap[gc]?=I (Y c' t fr)/\c'.size=c.size
def Eo.X{o gd:ω}(h:Eo w w' gc o gd)(c:B<=gc)(d:B<=gd):ι B w w' :=
 ⟨h.os,h.tape,h.output,by rw[h.size];exact x9 _,λk i=>h.block k (by omega) (by omega)⟩
def Ac(w:z)(gc o gb gd:N)(bs ds:K T)(rest:K (K T)):Prop :=
 ∃begun,YI w gc o gb gd bs ds begun/\(begun=false/\ds=hZ bs.length/\rest=XH bs\/begun=true/\YK bs ds/\rest=uZ bs ds)
def YI.of{o gd:ω}{b:Bool}(h:YI w gc o gb gd bs ds b)(c:∀j,w'.cell? ⟨gc,j,O⟩=w.cell? ⟨gc,j,O⟩)(k:∀j,w'.frozen? ⟨gc,j,O⟩=w.frozen? ⟨gc,j,O⟩)(m:gc<w'.heap.size)(d:w'.heap[gb]?=w.heap[gb]?)(i:w'.heap[gd]?=w.heap[gd]?):YI w' gc o gb gd bs ds b :=
 ⟨(c _).trans h.c0,(c _).trans h.c1,(c _).trans h.c2,λj=>(k j).trans (h.free j),m,h.bases.aG d,h.digits.aG i,h.cd,h.cb,h.bd,h.len⟩
def YI.X{o gd:ω}{b:Bool}(h:YI w gc o gb gd bs ds b)(c:ι w.heap.size w w'):YI w' gc o gb gd bs ds b :=
 h.of (λ_=>c.cell h.lt) (λ_=>c.frozen h.lt) (xa h.lt c.size) (c.block _ h.bases.lt) (c.block _ h.digits.lt)
def Ac.X{o gd:ω}{rest:ξ (ξ ψ)}(h:Ac w gc o gb gd bs ds rest)(i:ι w.heap.size w w'):Ac w' gc o gb gd bs ds rest:=by
 obtain⟨b,c,d⟩:=h;exact⟨b,c.X i,d⟩
def Ac.XY{o gd:ω}{rest:ξ (ξ ψ)}(h:Ac w gc o gb gd bs ds rest):∃b,YI w gc o gb gd bs ds b:=by
 obtain⟨b,c,_⟩:=h;exact⟨b,c⟩
theorem TP(gc o gb gd:ω)(bs ds:ξ ψ)(rest:ξ (ξ ψ))(w:ν)(h:Ac w gc o gb gd bs ds rest)(K:bs.length<10000)(X:∀b∈bs,b<1000000000):
  φ ρ 107 #[.pointer (I ⟨gc,o,O⟩)] w λe w'=>(rest=[]/\e=V (.bool false)\/∃r q,rest=r::q/\e=V (.bool true)/\Ac w' gc o gb gd bs r q/\YK bs r)/\Eo w w' gc o gd:=by
 obtain⟨b,m,D⟩:=h
 rcases D with⟨rfl,N,L⟩|⟨rfl,J,L⟩
 ·refine(Pe gc o gb gd bs ds w m K).mono ?_;rintro e w' ⟨rfl,rfl⟩;have T:Eo w (w.setCell ⟨gc,o+2,O⟩ (.bool true)) gc o gd:=⟨Z,Z,Z,by simp,λk C _=>x8 _ _ _ _ C,λj hj=>World.cell?_setCell_other _ _ _ _ (by first|(simp;done)|(simp;omega)),λj=>World.frozen?_setCell _ _ _ _,λc t M z=>⟨_,cI z _ _,by simp⟩⟩;refine⟨?_,T⟩
  cases hs:jW bs
  ·grind [Ey]
  ·have u:=Dw hs;refine x7 ⟨_,_,by rw[L,D0 hs],Z,⟨true,?_,x7 ⟨Z,u,Z⟩⟩,u⟩;rw[<- N];exact⟨(T.cell _ (by omega)).trans m.c0,(T.cell _ (by omega)).trans m.c1,World.cell?_setCell_same _ _ _ m.c2,λj=>(T.froz j).trans (m.free j),by rw[T.size];exact m.lt,m.bases.aG (T.block _ (λe=>m.cb e.symm) m.bd),m.digits.aG (x8 _ _ _ _ λe=>m.cd e.symm),m.cd,m.cb,m.bd,m.len⟩
 ·have A:∀d∈ds,0<=d/\d<1000000000:=λd E=>by
   obtain⟨i,F,rfl⟩:=List.getElem_of_mem E;have C:=J.rng i F
   grind [xl]
  refine(Pf gc o gb gd bs ds w m K A).mono ?_;rintro e w' ⟨rfl,F,y,G⟩;have x:gc≠gd:=m.cd;have T:Eo w w' gc o gd:=⟨y.os,y.tape,y.output,G,λk C D=>by
   by_cases hk:k<w.heap.size
   ·exact y.block k hk (by simpa using D)
   ·rw[xm (by omega),xm (by omega)],λj _=>xn (w:=w) (a:=⟨gc,j,O⟩) (y.block gc m.lt (by simpa using x)),λj=>World.frozen?_of_block (w:=w) (a:=⟨gc,j,O⟩) (y.block gc m.lt (by simpa using x)),λc t M z=>⟨c,(y.block gc m.lt (by simpa using x)).trans z,Z⟩⟩
  refine⟨?_,T⟩
  cases hs:(inc bs ds).2
  ·grind [E0]
  ·have u:=Dx J hs;refine x7 ⟨_,_,by grind [Ez],Z,⟨true,?_,x7 ⟨Z,u,Z⟩⟩,u⟩;have s:∀j,w'.cell? ⟨gc,j,O⟩=w.cell? ⟨gc,j,O⟩:=λj=>xn (w:=w) (a:=⟨gc,j,O⟩) (y.block gc m.lt (by simpa using x))
   refine⟨(s _).trans m.c0,?_,(s _).trans m.c2,λj=>(T.froz j).trans (m.free j),by rw[T.size];exact m.lt,m.bases.aG (T.block _ (λe=>m.cb e.symm) m.bd),F,m.cd,m.cb,m.bd,u.len⟩;rw[u.len,<- m.len];exact(s _).trans m.c1
def Uh(w w':z)(bs:K T)(v1 v2 v3:r):Prop:=∃gb gd,v1=VV gb bs.length bs.length/\v2=VV gd bs.length bs.length/\v3=.bool false/\WO w' gb bs/\WO w' gd (hZ bs.length)/\w.heap.size<=gb/\w.heap.size<=gd/\gb≠gd
theorem tS{R:χ->z->Prop}{d:TypeDesc}(g:N)(cs:γ π)(c:fn.results=#[.cell p t])(r:prog.underlying t=I d)(m:d.isRow=true)(q:(prog.info? t).map (·.size)=I cs.size)(o:a.tmps.getD p undef=.pointer (I ⟨g,0,O⟩))(h:w.heap[g]?=I (Y cs t (0,0)))(k:a.defers=[])(i:R (V (.agg cs)) w):bodyPost s fn R .ret a w:=by
 refine ζ (v:=.agg cs) ?_ k i;rw[E4 c,o];have:(asAddr (.pointer (I ⟨g,0,O⟩))).run s w=.ok ⟨g,0,O⟩ w:=Z
 grind [xj,yM]
theorem Fk{W0:z}{i m o s0 s1 s2:π}(s:A w.heap.size w W0)(d:A W0.heap.size W0 w1)(c:W0.heap[w.heap.size]?=I (Y #[i,m,o] t (0,0))):
  (((w1.setCell ⟨w.heap.size,0,O⟩ s0).setCell ⟨w.heap.size,1,O⟩ s1).setCell ⟨w.heap.size,2,O⟩ s2).heap[w.heap.size]?=I (Y #[s0,s1,s2] t (0,0))/\(∀k,k≠w.heap.size->(((w1.setCell ⟨w.heap.size,0,O⟩ s0).setCell ⟨w.heap.size,1,O⟩ s1).setCell ⟨w.heap.size,2,O⟩ s2).heap[k]?=w1.heap[k]?)/\(((w1.setCell ⟨w.heap.size,0,O⟩ s0).setCell ⟨w.heap.size,1,O⟩ s1).setCell ⟨w.heap.size,2,O⟩ s2).heap.size=w1.heap.size/\A w.heap.size w (((w1.setCell ⟨w.heap.size,0,O⟩ s0).setCell ⟨w.heap.size,1,O⟩ s1).setCell ⟨w.heap.size,2,O⟩ s2):=by
 have r:w1.heap[w.heap.size]?=I (Y #[i,m,o] t (0,0)):=(d.block _ (dC c)).trans c;refine⟨?_,λk c=>?_,by simp,?_⟩
 ·have q:=cI r 0 s0;rw[cI (cI q 1 s1) 2 s2];rfl
 ·grind [x8]
 ·exact(((bT s d).setCell (p:=⟨w.heap.size,0,O⟩) (x9 _) _).setCell (p:=⟨w.heap.size,1,O⟩) (x9 _) _).setCell (p:=⟨w.heap.size,2,O⟩) (x9 _) _
theorem QI(v:π)(bs:ξ ψ)(w:ν)(h:YA w v bs)(hn:bs.length<10000):
  φ ρ 92 #[v] w λe w'=>∃v1 v2 v3,e=V (.agg #[v1,v2,v3])/\Uh w w' bs v1 v2 v3/\ι w.heap.size w w':=by
 have aa:∀w,(xk 37 (U H (bs.length:ψ)) (U H (bs.length:ψ))).run ρ w=.ok (VV w.heap.size bs.length bs.length) (w.alloc (Y (η #[U H 0] bs.length) 3)):=
  λw=>run_make_row' 37 3 (U H 0) 8 underlying37 Tryz.XE Z H H bs.length (by omega) (by omega) w
 have J:aC (η #[U H 0] bs.length=rH (hZ bs.length)):=DZ bs.length;obtain⟨va,vc,rfl,ab⟩:=h.form;have T:=aD h;go_in;go_upto_region 1 with fail
 obtain⟨C,z,r⟩:=nY w #[S O 0 0,S O 0 0,.bool false] 88;have i:=aD r;have u:=aD (T.X r);generalize hE:w.alloc (Y #[S O 0 0,S O 0 0,.bool false] 88)=W0 at*;have c0:=cA C;have f0:∀j,W0.frozen? ⟨w.heap.size,j,O⟩=false:=λj=>by simp[xc,C]
 have D:w.heap.size<W0.heap.size:=by omega
 have K:=aD C;go_region_with(go_at_call 115;refine(NO _ bs _ (u.X (by first|exact(xR _ _).drew|exact(bB).drew|exact((xR _ _).drew).alloc (by simp) _)) hn).mono ?_;rintro e w1 ⟨q,rfl,y,s,c⟩;have d:aC (ι W0.heap.size W0 w1):=(by first|exact((xR W0.heap.size W0).drew).trans (c.mono (by simp))|exact(((xR W0.heap.size W0).alloc (x9 _) _).drew).trans (c.mono (by simp))|exact(((xR W0.heap.size W0).drew).alloc (by simp) _).trans (c.mono (by simp)));have p0:=kG d D c0;have pf:∀j,w1.frozen? ⟨w.heap.size,j,O⟩=false:=λj=>fK d D (f0 j);have lw:=xa D d.size;have G:=aD y;have m:=aD c;simp at s)
 ·obtain⟨M,E,N,F⟩:=Fk (s0:=VV q bs.length bs.length) (s1:=VV w1.heap.size bs.length bs.length) (s2:=.bool false) i d K;have L:=G.lt;go_wp2;refine tS (p:=2) w.heap.size _ (by kernel_rfl) underlying88 Z (by kernel_rfl) Z (by grind [xW]) Z ⟨_,_,_,Z,⟨q,w1.heap.size,Z,Z,Z,?_,?_,by omega,by omega,by omega⟩,F.alloc (by omega) _⟩
  ·grind [WO,xW]
  ·unfold WO;rw[<- J.o];exact Eq.trans (congrArg (λk=>(World.alloc _ _).heap[k]?) N.symm) (σ _ _)
 ·obtain⟨M,E,N,F⟩:=Fk (s0:=VV q bs.length bs.length) (s1:=VV (w.heap.size+1) bs.length bs.length) (s2:=.bool false) i d K;have A:=m.size;have x:=m.block (w.heap.size+1) (by simp;omega);simp at A;go_wp2;refine tS (p:=2) w.heap.size _ (by kernel_rfl) underlying88 Z (by kernel_rfl) Z (by exact M) Z ⟨_,_,_,Z,⟨q,w.heap.size+1,Z,Z,Z,?_,?_,by omega,by omega,by omega⟩,F⟩
  ·unfold WO;rw[E q (by omega)];exact G
  ·unfold WO;rw[E _ (by omega),x,<- J.o,<- z];exact σ W0 _
def lQ{o:Obj}{p:Addr}(h:p.block<w.heap.size):(w.alloc o).cell? p=w.cell? p:=by simp only[xd,xW _ _ _ h]
theorem vG(c:A (w.alloc (Y #[S O 0 0] t)).heap.size (w.alloc (Y #[S O 0 0] t)) w'):w'.cell? ⟨w.heap.size,0,O⟩=I (S O 0 0)/\w'.frozen? ⟨w.heap.size,0,O⟩=false/\w'.heap[w.heap.size]?=I (Y #[S O 0 0] t (0,0)):=by
 grind [σ,cU,Below.block]
def JQ(c:A w.heap.size w w')(h:w.cell? ⟨g,0,O⟩=I (S O 0 0)/\w.frozen? ⟨g,0,O⟩=false/\w.heap[g]?=I (Y #[S O 0 0] t (0,0))):w'.cell? ⟨g,0,O⟩=I (S O 0 0)/\w'.frozen? ⟨g,0,O⟩=false/\w'.heap[g]?=I (Y #[S O 0 0] t (0,0)):=by
 have l:=World.block_lt_of_cell? w _ h.1;exact⟨cK c l h.1,fK c l h.2.1,(c.block g l).trans h.2.2⟩
def ML{q:N}(c:A W.heap.size W w)(d:Ec w q n l):∃gx qx,Value.pointer (I ⟨w.heap.size,0,O⟩)=.pointer (I ⟨gx,0,O⟩)/\(w.alloc (Y #[VV q n n] 83)).heap[gx]?=I (Y #[VV qx n n] 83 (0,0))/\Ec (w.alloc (Y #[VV q n n] 83)) qx n l/\A W.heap.size W (w.alloc (Y #[VV q n n] 83))/\W.heap.size<=gx :=
 ⟨w.heap.size,q,Z,σ w _,d.X bB,c.alloc c.size _,c.size⟩
theorem xQ{q:N}(k:A W.heap.size W w)(c:W.heap.size<=g)(d:Ec w q n l)(m:w.heap[g]?=I (Y #[S O 0 0] 83 (0,0))):∃gx qx,Value.pointer (I ⟨g,0,O⟩)=.pointer (I ⟨gx,0,O⟩)/\(w.setCell ⟨g,0,O⟩ (VV q n n)).heap[gx]?=I (Y #[VV qx n n] 83 (0,0))/\Ec (w.setCell ⟨g,0,O⟩ (VV q n n)) qx n l/\A W.heap.size W (w.setCell ⟨g,0,O⟩ (VV q n n))/\W.heap.size<=gx:=by
 have i:q≠g:=λe=>by
  have:=d.at_
  grind [XA]
 refine⟨g,q,Z,?_,⟨d.at_.aG (x8 _ _ _ _ i),d.len,d.fits⟩,k.setCell (p:=⟨g,0,O⟩) c _,c⟩;rw[cI m];rfl
def jD{P:Program}{c:Code}{Q:Exit->Act->z->Prop}(R:z->Prop)(h:R w)(k:∀w,R w->Code.wp P c Q a w):Code.wp P c Q a w:=k w h
def uU(h:A (w.alloc (Y #[v] t)).heap.size (w.alloc (Y #[v] t)) w'):A w.heap.size w w'/\w'.cell? ⟨w.heap.size,0,O⟩=I v/\w.heap.size<w'.heap.size:=by
 have c:=h.size;simp at c;exact⟨bB.trans (h.mono (by simp)),cK h (by simp) (cA (σ w _) 0),by omega⟩
def wP(w:z)(g:N):Prop:=w.cell? ⟨g,0,O⟩=I (S O 0 0)/\w.frozen? ⟨g,0,O⟩=false/\w.heap[g]?=I (Y #[S O 0 0] 83 (0,0))
def GY{q:N}{u:r}(k:w'.heap[b]?=I (Y #[S O 0 0] 83 (0,0)))(h:Ec w' q n l)(B:A w.heap.size w w')(c:w.heap.size<=b):Ec (w'.setCell ⟨b,0,O⟩ u) q n l/\A w.heap.size w (w'.setCell ⟨b,0,O⟩ u):=
 ⟨⟨h.at_.aG (x8 _ _ _ _ (by have:=h.at_;unfold XA at this;intro e;rw[e]at this;rw[k]at this;simp at this)),h.len,h.fits⟩,B.setCell (p:=⟨b,0,O⟩) c _⟩
def NY{c:γ r}(h:w.heap[g]?=I (Y c t (0,0))):(∀i,w.cell? ⟨g,i,O⟩=c[i]?)/\(∀j,w.frozen? ⟨g,j,O⟩=false)/\g<w.heap.size :=
 ⟨cA h,λj=>by simp[xc,h],dC h⟩
structure Ed(w:ν)(fb:ω)(a:FA)(f:Ex):Prop where
 box:w.heap[fb]?=I (Y (XP a) 85 (0,0))
 fin:Ee w a f
 dis:[a.g1,a.g2,a.g3,a.g4,a.g5,a.g6,a.g7,a.g8,a.g9].Nodup
def Ed.X{a:FA}(h:Ed w fb a f)(c:ι w.heap.size w w'):Ed w' fb a f :=
 ⟨(c.block fb (dC h.box)).trans h.box,h.fin.X c,h.dis⟩
theorem KL{c:γ r}(h:XA w g l)(k:w.heap[fb]?=I (Y c t (0,0)))(d:t≠178):fb≠g:=λe=>by
 grind [XA]
theorem YG.grown(h:YG w v es)(r:XA w g l)(m:w.grownBy w' (I g)):YG w' v es:=by
 refine bH h λk e=>m.block k (h.lt k e).2 ?_;intro c;simp at c;subst c
 rcases h.2 with⟨e1,_⟩|⟨o,d,i,e1,_,q,_⟩
 ·grind [xo]
 grind [xo,XA]
def Ec.grown{h:ω}(c:Ec w g n l)(d:g≠h)(i:w.grownBy w' (I h)):Ec w' g n l :=
 ⟨c.at_.aG (i.block g c.lt (by simpa using d)),c.len,c.fits⟩
def Ui(c:w.grownBy w' (I g))(d:B<=w.heap.size)(h:B<=g):A B w w':=⟨c.os,c.tape,c.output,c.size,λi k=>c.block i (by omega) (by simp;omega)⟩
def Ed.old{a:FA}(h:Ed w fb a f)(i:XA w g l)(d:w.grownBy w' (I g)):w'.heap[fb]?=I (Y (XP a) 85 (0,0))/\YG w' a.ev f.E/\∀{c:ω} {k:ξ ω},Ec w c a.n k->c≠g->Ec w' c a.n k :=
 ⟨(d.block fb (dC h.box) (by have:=KL i h.box (by decide);simpa using this)).trans h.box,h.fin.ev.grown i d,λr e=>r.grown e d⟩
def Ed.rel{a:FA}(h:Ed w fb a f)(r:Ec w g a.n l)(c:(XP a)[j]?=I (VV g a.n a.n)):EH w fb j g a.n l :=
 ⟨by simp only[xd,h.box];simpa using c,r.at_,r.len,dC h.box,KL r.at_ h.box (by decide)⟩
def FA.gj(a:FA):ω->ω
 |1=>a.g1|2=>a.g2|3=>a.g3|4=>a.g4|5=>a.g5|6=>a.g6|7=>a.g7|8=>a.g8|_=>a.g9
def Q.Ex.rj(f:Ex):ω->ξ ω
 |1=>f.C|2=>f.G|3=>f.J|4=>f.N|5=>f.y|6=>f.h|7=>f.L|8=>f.sends|_=>f.M
def Q.Ex.pj(f:Ex)(l:ξ ω):ω->Ex
 |1=>{f with C:=l}|2=>{f with G:=l}|3=>{f with J:=l}|4=>{f with N:=l}|5=>{f with y:=l}|6=>{f with h:=l}|7=>{f with L:=l}|8=>{f with sends:=l}|_=>{f with M:=l}
def CY(h:1<=j/\j<=9):j=1\/j=2\/j=3\/j=4\/j=5\/j=6\/j=7\/j=8\/j=9:=by omega
def Ee.rj{a:FA}(h:Ee w a f)(c:1<=j/\j<=9):Ec w (a.gj j) a.n (f.rj j):=by
 obtain⟨_,_,_,d,i,k,m,o,q,r,s,u⟩:=h
 rcases CY c with rfl|rfl|rfl|rfl|rfl|rfl|rfl|rfl|rfl<;>assumption
def Ed.AQ{a:FA}(h:Ed w fb a f)(d:1<=j/\j<=9)(i k:ψ)(o:XA w' (a.gj j) (dW (f.rj j) i k))(m:w.grownBy w' (I (a.gj j))):Ed w' fb a (f.pj (dW (f.rj j) i k) j):=by
 have c:=h.dis;have q:=h.fin.rj d;obtain⟨b,v,R⟩:=h.old q.at_ m;obtain⟨_,r,s,u,x,y,z,A,C,D,E,F⟩:=h.fin
 rcases CY d with rfl|rfl|rfl|rfl|rfl|rfl|rfl|rfl|rfl<;>refine⟨b,⟨v,r,s,?_,?_,?_,?_,?_,?_,?_,?_,?_⟩,c⟩<;>first|exact R ‹_› (by intro e;simp only[FA.gj]at e;rw[e]at c;simp at c)|exact⟨o,(CP _ _ _).trans q.len,KU q.fits _ _⟩
def Ed.QD{a:FA}(h:Ed w fb a f)(c:1<=j/\j<=9):EH w fb j (a.gj j) a.n (f.rj j):=h.rel (h.fin.rj c) (by rcases CY c with rfl|rfl|rfl|rfl|rfl|rfl|rfl|rfl|rfl<;>rfl)
structure PS(B:ω)(w wx:ν)(fb:ω)(a:FA)(f:Ex)(b1 b2:ω)(e1 e2:Ev):Prop where
 mem:Ed wx fb a f
 bel:ι B w wx
 v1:WN wx b1 e1
 v2:WN wx b2 e2
 K:∀g e,WN w g e->WN wx g e
def PS.X{wy:ν}{a:FA}{e1 e2:Ev}(h:PS B w wx fb a f b1 b2 e1 e2)(c:ι wx.heap.size wx wy)(d:B<=w.heap.size):PS B w wy fb a f b1 b2 e1 e2 :=
 ⟨h.mem.X c,h.bel.trans (c.mono (xi d h.bel.size)),h.v1.X c,h.v2.X c,λg e i=>(h.K g e i).X c⟩
def PS.AQ{wy:ν}{a:FA}{e1 e2:Ev}(h:PS B w wx fb a f b1 b2 e1 e2)(m:1<=j/\j<=9)(o:B<=w.heap.size)(d:B<=a.gj j)(i k:ψ)(s:XA wy (a.gj j) (dW (f.rj j) i k))(c:wx.grownBy wy (I (a.gj j))):PS B w wy fb a (f.pj (dW (f.rj j) i k) j) b1 b2 e1 e2 :=
 have q:=(h.mem.fin.rj m).at_
 ⟨h.mem.AQ m i k s c,h.bel.trans (Ui c (xi o h.bel.size) d),h.v1.grown q c,h.v2.grown q c,λg e r=>(h.K g e r).grown q c⟩
def Uj(a:FA)(f:Ex)(k:ω)(rd:ξ ω)(gb:ω)(A:ξ ω)(m:ω)(G:ξ ω)(w:ν)(hf:Ee w a f)(E:Ec w k a.n rd)(d:Ec w gb a.n A)(D:Ec w m a.n G):
  φ ρ 114 #[.agg (XP a),.agg #[VV k a.n a.n],.agg #[VV gb a.n a.n],.agg #[VV m a.n a.n]] w λe w'=>oB w w' a.n (VP rd A G) e:=by
 obtain⟨x,c,q,_⟩:=hf.form;obtain⟨n,ev,T,g2,g3,g4,g5,g6,g7,g8,g9⟩:=a;simp only at q E d D;subst q;have HR:=aD E;have HB:=aD d;have L:=aD D;simp only[XP];go_in;go_upto_region 1 with fail
 refine jD (λW=>(∀w',ι W.heap.size W w'->(w'.cell? ⟨w.heap.size+1,0,O⟩=I (VV k n n)/\w'.cell? ⟨w.heap.size+2,0,O⟩=I (VV gb n n)/\w'.cell? ⟨w.heap.size+3,0,O⟩=I (VV m n n))/\w'.heap[w.heap.size+4]?=I (Y #[S O 0 0] 83 (0,0)))/\ι w.heap.size w W/\w.heap.size+4<W.heap.size) ?_ ?_
 ·have h:=Ue w (XP (FA.mk n (S x n c) T g2 g3 g4 g5 g6 g7 g8 g9)) #[VV k n n] #[VV gb n n] #[VV m n n] #[S O 0 0] 85 83 83 83 83;exact⟨λw' d=>⟨⟨(kG d (by simp) (cA h.2.1)) 0,(kG d (by simp) (cA h.2.2.1)) 0,(kG d (by simp) (cA h.2.2.2.1)) 0⟩,(d.block _ (by simp)).trans h.2.2.2.2.1⟩,h.2.2.2.2.2.2,by simp⟩
 rintro W ⟨C,d,l⟩;have C:=aD C;have B:=aD d;go_region_held3 (λw'=>w'.cell? ⟨w.heap.size+1,0,O⟩=I (VV k n n)/\w'.cell? ⟨w.heap.size+2,0,O⟩=I (VV gb n n)/\w'.cell? ⟨w.heap.size+3,0,O⟩=I (VV m n n)) (first|exact(C _ (xR _ _).drew).1|exact(C _ s).1|exact(C _ u).1|exact(C _ i).1|exact⟨(fC (by omega)).trans (C _ i).1.1,(fC (by omega)).trans (C _ i).1.2.1,(fC (by omega)).trans (C _ i).1.2.2⟩) (first
  |(go_at_call_of 61 (VV K n n);refine(pG K m n _ _ _ M (L.X (bT B u))).mono ?_;rintro e w3 ⟨q3,rfl,r,d⟩;have i:=aD (bT u d);have z:=(cU (C _ i).2).2.1;have y:=(cU (C _ i).2).1;have N:=aD r)
  |(go_at_call_of 61 (VV J n n);refine(pG J gb n _ _ _ Q1 (HB.X (bT B s))).mono ?_;rintro e w2 ⟨K,rfl,r,d⟩;have u:=aD (bT s d);have M:=aD r)
  |(go_at_call_of 110 (VV k n n);refine(Fh k n _ _ (HR.X B.drew)).mono ?_;rintro e w1 ⟨J,rfl,r,d⟩;have s:aC (ι W.heap.size W w1):=((xR W.heap.size W).drew).trans (d.mono (by simp));have Q1:=aD r))
 all_goals
  (try go_wp2)
  have F:=(C _ i).2;exact pR (p:=8) (w.heap.size+4) _ (by kernel_rfl) Z (by exact cI F 0 _) Z ⟨q3,Z,GY F N (bT B i) (by omega)⟩
def Fl(a:FA)(f:Ex)(i:ω)(D:ξ ω)(gb:ω)(y:ξ ω)(w:ν)(z:Ee w a f)(A:Ec w i a.n D)(d:Ec w gb a.n y):
  φ ρ 113 #[.agg (XP a),.agg #[VV i a.n a.n],.agg #[VV gb a.n a.n]] w λe w'=>e=V (.bool (f.mA D y))/\ι w.heap.size w w':=by
 obtain⟨x,c,m,_⟩:=z.form;obtain⟨n,ev,M,N,T,g4,g5,g6,k,g8,g9⟩:=a;simp only at m A d;subst m;have G:=aD z;have J:=aD A;have HB:=aD d;simp only[XP];go_in;go_upto_region 1 with fail
 refine jD (λW=>(∀w',ι W.heap.size W w'->w'.cell? ⟨w.heap.size,7,O⟩=I (VV k n n)/\w'.cell? ⟨w.heap.size+1,0,O⟩=I (VV i n n)/\w'.cell? ⟨w.heap.size+2,0,O⟩=I (VV gb n n))/\ι w.heap.size w W) ?_ ?_
 ·have h:=wT w (XP (FA.mk n (S x n c) M N T g4 g5 g6 k g8 g9)) #[VV i n n] #[VV gb n n] 85 83 83;exact⟨λw' d=>⟨(kG d (by simp;omega) (cA h.1)) 7,(kG d (by simp) (cA h.2.1)) 0,(kG d (by simp) (cA h.2.2.1)) 0⟩,h.2.2.2.2⟩
 rintro W ⟨C,d⟩;have C:=aD C;have B:=aD d;have L:=C.o W (xR _ _);go_region_held3 (λw'=>w'.cell? ⟨w.heap.size,7,O⟩=I (VV k n n)/\w'.cell? ⟨w.heap.size+1,0,O⟩=I (VV i n n)/\w'.cell? ⟨w.heap.size+2,0,O⟩=I (VV gb n n)) (first|exact L|exact C _ q.o|exact C _ s.o|exact C _ u) (first
  |(go_at_call_of 111 (VV F n n);refine(LS F n _ _ Q1).mono ?_;rintro e w2 ⟨rfl,d⟩;have u:=aD (bT s d))
  |(go_at_call_of 102 (VV E n n);refine(pO E gb n _ _ _ K (HB.X (bT B q))).mono ?_;rintro e w1 ⟨F,rfl,r,d⟩;have s:=aD (bT q d);have Q1:=aD r)
  |(go_at_call_of 102 (VV k n n);refine(pO k i n _ _ _ (G.r7.X B.drew) (J.X B.drew)).mono ?_;rintro e w0 ⟨E,rfl,r,d⟩;have q:aC (ι W.heap.size W w0):=((xR W.heap.size W).drew).trans (d.mono (by simp));have K:=aD r))
 all_goals
  go_wp2;go_ret;exact⟨Z,bT B u⟩
theorem Uk(a:FA)(f:Ex)(v:π)(ps:ξ ψ)(w:ν)(E:Ee w a f)(hv:YA w v ps)(D:ps.length=a.n):
  φ ρ 64 #[.agg (XP a),v] w λe w'=>oB w w' a.n (f.Eb ps) e:=by
 have ae:aC (f.Eb ps=(xF a.n).foldl (vW f.N ps) (WY a.n)):=by unfold aC Ex.Eb;rw[E.len,D]
 obtain⟨va,vc,rfl,ax⟩:=hv.form;have ab:0<a.n->∃g,va=I ⟨g,0,O⟩/\g<w.heap.size/\∀i,i<a.n->w.cell? ⟨g,i,O⟩=I (U H (ps.getD i 0)):=λh0=>by
  grind
 clear ax;rw[D];obtain⟨x,c,J,hx⟩:=E.form;have y:=E.n64;have aq:=E.len;obtain⟨n,ev,g1,g2,g3,g4,g5,g6,g7,g8,g9⟩:=a;simp only at J y aq hx;subst J;simp only[XP];simp only at ae D ab;have R4:=aD E.r4;clear E hv hx;go_in;go_upto_region 1 with fail
 refine jD (λW=>W.heap[w.heap.size]?=I (Y (XP (FA.mk n (S x n c) g1 g2 g3 g4 g5 g6 g7 g8 g9)) 85 (0,0))/\W.heap[w.heap.size+1]?=I (Y #[S O 0 0] 83 (0,0))/\W.heap.size=w.heap.size+2/\ι w.heap.size w W) (nZ _ _ _ _ _) ?_;rintro W0 ⟨k0,k1,aw,G⟩;have c0:=cA k0;simp only[XP]at c0;have al:W0.cell? ⟨w.heap.size,4,O⟩=I (VV g4 n n):=c0 4;have m:=aD G;have l1:w.heap.size+1<W0.heap.size:=by omega
 have l0:w.heap.size<W0.heap.size:=by omega
 have K1:=aD k1;clear k0 k1 aw G;go_wp2_with(first|(go_at_call 98;refine(yA n _ y).mono ?_;rintro e w1 ⟨gn,rfl,aa,ap,M,K,C⟩;have HS:=aD (Fill.start ⟨aa,M,K⟩ ap C);have aG:=C.size;clear aa C M K));go_loopw[16] (λi wr=>∃(k:N) (t:ξ N),k<=n/\i=U H k/\aC (t=(xF k).foldl (vW f.N ps) (WY n))/\aC (Fill W0 wr w1.heap.size gn n t)) λi _=>n-(τ i).toNat
 case atStart=>exact⟨0,_,x6 _,Z,Z,HS⟩
 case round =>
  obtain⟨k,t,hk,rfl,HT,z⟩:=hrel;obtain⟨b0,b1,b2⟩:=cU z.box;by_cases hlt:k<n
  ·have aB:=lI hlt;obtain⟨F,rfl,L,T⟩:=ab (by omega);have d:F<W0.heap.size:=by omega
   have ah:aC (W0.cell? ⟨F,k,O⟩=I (U H (ps.getD k 0))):=cK m L (T k (by omega));have ak:aC ((xF (k+1)).foldl (vW f.N ps) (WY n)=(xF n).foldl (GX f.N ps k) t):=by grind [aC,jT,vW]
   have ay:aC (∀q u,GX f.N ps k u q=oK (cD f.N k q&&decide (ps.getD k 0<ps.getD q 0)) u k q):=λq u=>Z
   generalize ar:ps.getD k 0=pk at*;clear ar;have am:=z.cell (p:=⟨F,k,O⟩) d ah;have ac:=xa d z.bel.size;go_wp2;go_loopw[23] (λj wq=>∃(q:N) (u:ξ N),q<=n/\j=U H q/\aC (u=(xF q).foldl (GX f.N ps k) t)/\aC (Fill W0 wq w1.heap.size gn n u)) λj _=>n-(τ j).toNat
   case atStart=>exact⟨0,t,x6 _,Z,Z,z⟩
   case round =>
    clear am ac b0 b1 b2;obtain⟨q,u,hq,rfl,HU,A⟩:=hrel;by_cases hql:q<n
    ·have aF:=lI hql;have ai:aC (W0.cell? ⟨F,q,O⟩=I (U H (ps.getD q 0))):=cK m L (T q (by omega));have s:aC ((xF (q+1)).foldl (GX f.N ps k) t=oK (cD f.N k q&&decide (pk<ps.getD q 0)) u k q):=by simp_all [aC,jT]
     generalize au:ps.getD q 0=pq at*;clear au;have az:=A.cell (p:=⟨F,q,O⟩) d ai;have ac:=xa d A.bel.size;have aA:=A.cell (p:=⟨w.heap.size,4,O⟩) l0 al;have aH:=xa l0 A.bel.size;have aj:=aD ((R4.X m).X A.bel)
     cases z1:cD f.N (k:ψ) (q:ψ)
     case' true=>cases z4:decide (pk<pq)
     all_goals
      rw[z1]at s
      try(rw[z4]at s;first|have hz:=of_decide_eq_true z4|have hz:=of_decide_eq_false z4)
      go_wp2_with(first|(go_at_call 103;refine(zM g4 n f.N (k:ψ) (q:ψ) _ aj).mono ?_;rintro e wb ⟨rfl,an⟩;rw[z1];have r:=aD (A.keep an))|(go_at_call 99;refine(DR w1.heap.size 0 gn n u (k:ψ) (q:ψ) _ r.pN r.rel.fits).mono ?_;rintro e wc ⟨rfl,av,ao⟩;have af:=aD (r.grown ao av)));go_roundw
      first|exact⟨q+1,u,by omega,by go_num,s.symm,r⟩|exact⟨q+1,_,by omega,by go_num,s.symm,af⟩
      simp[τ];omega
    ·have ag:aC (u=(xF (k+1)).foldl (vW f.N ps) (WY n)):=by unfold aC;rw[ak.o,HU.o,show q=n by omega]
     go_wp2;go_roundw;exact⟨k+1,u,by omega,by go_num,ag,A⟩;simp[τ];omega
  ·have aE:k=n:=by omega
   have ad:aC (t=f.Eb ps):=by grind [aC]
   obtain⟨q1,q2⟩:=z.o.o m K1 (by omega);rw[ad.o]at q1;go_wp2_with(first|(refine nQ (.tmp 5) Z Z w1.heap.size _ Z z.box ?_)|(refine yX (.tmp 4) (.tmp 43) Z Z (w.heap.size+1) _ _ Z Z ((z.bel.block _ l1).trans K1) Z ?_));refine pR (p:=4) (w.heap.size+1) _ (by kernel_rfl) Z q2 Z q1
