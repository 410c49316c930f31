import Derived.Lib.ItoaNum
import Derived.Deep.RegionHeld3
import Derived.Lib.ItoaWalk
import Derived.Test.YteekngiepnnmjaaGreatDoorV01
set_option linter.all false
set_option maxHeartbeats 0
namespace Go.Proofs.YteekngiepnnmjaaGreatDoor
open Go Go.RowKit Go.Proofs.Tryz P Q
set_option maxRecDepth 1000000
open _root_ renaming List->S,List->σ,Nat->Y,Nat->ν,Int->O,Int->ι,Bool->z,Bool->φ,UInt8->s,ByteArray->δ,decide_eq_false->γ
open Go renaming World->N,World->ω,Calls->I,Calls->ξ,Value->A,Value->τ,bodyPost_ret->ζ,heap_alloc_new->ε,undef->θ
open Go.RowKit renaming Below->H,Below->ψ,intOf->η
open Go.Proofs.Tryz renaming prog->W,prog->ρ
variable {w w' w1:ω}{B B' b cap g n:ν}{r:Rd}{ov tv v:τ}{vs:σ τ}{t:TypeId}{ts:σ VZ}{fn:Func}{a:Act}{p u:Tmp}
open Go.IntKind renaming i64->U
open Go.Value renaming int->T
open Go.Ending renaming returned->K
open List renaming range->x2,take_succ_eq_append_getElem->x9,length_cons->xb,length_take_le->xc,getElem_mem->xd,take_of_length_le->xk,drop_eq_nil_of_le->xl
open Go.Value renaming int->x3
open Go.RowKit.Below renaming heap_alloc->x4,heap_setCell->x6,block->xe
open Go.Lib renaming decDigits->x5,smalls->xg,digits36->xh,extract_data->xm
open Nat renaming zero_le->x7
open _root_.ByteArray renaming toList->x8
open Go.Result renaming andThen_ok->xa
open Go.World renaming ownsRow_nil->xi,cell?_of_block->xj
namespace P
def CZ{α:Type}(l:S α)(k:Y)(h:k<l.length):l.drop k=l[k]::l.drop (k+1):=List.drop_eq_getElem_cons h
theorem CG(c:s)(l:S s):(bF c l).length<=l.length+1:=by
 induction l with
 |nil=>simp[bF]
 |cons x r ih =>
  grind [bF]
structure Good(k:ν)(r:Rd):Prop where
 few:r.H.length<=4
 stm:∀t∈r.H,t.S.length<=k
 O:r.O.length<=2
 ifs0:0<=r.I
 ifs1:r.I<=k
 VY:0<=r.count
 lin0:0<=r.i
 lin1:r.i<=k
theorem Bu(ts:S VZ)(s:VW)(k:Y)(h:∀t∈ts,t.S.length<=k):∀t∈iQ ts s,t.S.length<=k+1:=by
 match ts,h with
 |[],h=>intro t c;simp[iQ]at c
 |[a],h =>
  intro t c;simp[iQ]at c;subst c;have:=h a (by simp);simp;omega
 |a::b::r,h =>
  intro t c;simp only[iQ,List.mem_cons]at c
  rcases c with rfl|c
  ·grind
  ·exact Bu (b::r) s k (λt c=>h t (by grind)) t c
def dI(n:O):S s:=x5 n.toNat
def nU(n:O):S s:=[37,114]++dI n
def wC(v:O):S s:=if v==0 then[120]else if v==1 then[121]else[122]
def SS(o:ZD):S s:=if o.VX then nU o.n else dI o.n
def JN(o:O):S s :=
 if o==1 then[114,101,108,97,120,101,100]else if o==2 then[97,99,113,117,105,114,101]else if o==3 then[114,101,108,101,97,115,101]
 else if o==4 then[97,99,113,95,114,101,108]else[115,99]
def A0(st:VW):S s :=
 if st.q==0 then[46,119,101,97,107]else[46]++JN st.q++if st.scope==0 then[46,99,116,97]else[46,103,112,117]
def rR(v:O):S s:=[91]++wC v++[93]
def YJ(n:O):S s:=[76]++dI n
theorem Ph(n:O)(h:n<100):(dI n).length<=2:=by
 grind [x5,dI]
def ZU(k:O):z:=k==0||k==1||k==2||k==3
end P
namespace Q
structure Ev where
 kind:ι
 j:ι
 block:ι
 z:ι
 value:ι
 q:ι
 scope:ι
 u:ι
 step:φ
 h:ν
def Ev.zero:Ev:=⟨0,0,0,0,0,0,0,0,false,0⟩
def ZA(e:Ev):z:=e.kind==0||e.kind==1
def WZ(e:Ev):z:=e.kind==2&&e.q==5
def ZJ(i:O)(a:Ev)(k:O)(b:Ev):z:=if a.j == -1 then b.j != -1 else a.j==b.j&&decide (i<k)
def cE(e:Ev):z:=e.q != 0&&e.kind != 3&&e.kind != 4
def aJ(a b:Ev):z :=
 if a.j == -1||b.j == -1 then false else if a.j==b.j then true else if !cE a||!cE b then false else a.block==b.block||a.scope==1&&b.scope==1
def Ag(a b:Ev):z:=a.kind==3&&b.kind==4&&a.block==b.block&&a.u==b.u
end Q
def aK(e:Ev):Array A:=#[T U e.kind,T U e.j,T U e.block,T U e.z,T U e.value,T U e.q,T U e.scope,T U e.u,.bool e.step,T .u64 (e.h:Y)]
def VI(e:Ev)(w:N):
  I W 151 #[.agg (aK e)] w λx w'=>x=K (.bool (ZA e))/\H w.heap.size w w':=by
 cases h0:e.kind==0
 ·cases h1:e.kind==1
  all_goals
   have c:aC (ZA e=(e.kind==1)):=by unfold aC ZA;rw[h0];rfl
   simp only[aK];go_in;go_wp2;go_ret;rw[c.o,h1];exact⟨Z,bB⟩
 ·have c:aC (ZA e=true):=by unfold aC ZA;rw[h0];rfl
  simp only[aK];go_in;go_wp2;go_ret;rw[c.o];exact⟨Z,bB⟩
def SF(e:Ev)(w:N):
  I W 105 #[.agg (aK e)] w λx w'=>x=K (.bool (WZ e))/\H w.heap.size w w':=by
 cases h0:e.kind==2
 ·have c:aC (WZ e=false):=by unfold aC WZ;rw[h0];rfl
  simp only[aK];go_in;go_wp2;go_ret;rw[c.o];exact⟨Z,bB⟩
 ·cases h1:e.q==5
  all_goals
   have c:aC (WZ e=(e.q==5)):=by unfold aC WZ;rw[h0];rfl
   simp only[aK];go_in;go_wp2;go_ret;rw[c.o,h1];exact⟨Z,bB⟩
def Pi(i k:O)(a b:Ev)(w:N):
  I W 161 #[T U i,.agg (aK a),T U k,.agg (aK b)] w λx w'=>x=K (.bool (ZJ i a k b))/\H w.heap.size w w':=by
 have HB:aC (∀o p,H w.heap.size w ((w.alloc o).alloc p)):=λo p=>(bB).alloc (by simp) _
 cases h0:a.j == -1
 ·cases h1:a.j==b.j
  ·have c:aC (ZJ i a k b=false):=by unfold aC ZJ;rw[h0,h1];rfl
   simp only[aK];go_in;go_wp2;go_ret;rw[c.o];exact⟨Z,HB _ _⟩
  ·by_cases h2:i<k
   ·have c:aC (ZJ i a k b=true):=by unfold aC ZJ;rw[h0,h1,decide_eq_true h2];rfl
    simp only[aK];go_in;go_wp2;go_ret;rw[c.o];exact⟨Z,HB _ _⟩
   ·have c:aC (ZJ i a k b=false):=by unfold aC ZJ;rw[h0,h1,γ h2];rfl
    simp only[aK];go_in;go_wp2;go_ret;rw[c.o];exact⟨Z,HB _ _⟩
 ·cases h1:b.j != -1
  all_goals
   have c:aC (ZJ i a k b=(b.j != -1)):=by unfold aC ZJ;rw[h0];rfl
   simp only[aK];go_in;go_wp2;go_ret;rw[c.o,h1];exact⟨Z,HB _ _⟩
def FQ(e:Ev)(w:N):
  I W 189 #[.agg (aK e)] w λx w'=>x=K (.bool (cE e))/\H w.heap.size w w':=by
 have HB:aC (∀o,H w.heap.size w (w.alloc o)):=λo=>bB
 cases h0:e.q != 0<;>cases h1:e.kind != 3<;>cases h2:e.kind != 4
 all_goals
  have c:aC (cE e=(e.q != 0&&e.kind != 3&&e.kind != 4)):=Z;simp only[aK];go_in;go_wp2;go_ret;rw[c.o,h0,h1,h2];exact⟨Z,HB _⟩
theorem Pj{a b:Ev}(h:(a.j == -1||b.j == -1)=true):Q.aJ a b=false:=by grind [Q.aJ]
theorem Pk{a b:Ev}(h:(a.j == -1||b.j == -1)=false)(c:(a.j==b.j)=true):Q.aJ a b=true:=by grind [Q.aJ]
theorem Bv{a b:Ev}(h:(a.j == -1||b.j == -1)=false)(c:(a.j==b.j)=false)(d:(!Q.cE a||!Q.cE b)=true):Q.aJ a b=false:=by grind [Q.aJ]
theorem Pl{a b:Ev}(h:(a.j == -1||b.j == -1)=false)(c:(a.j==b.j)=false)(d:(!Q.cE a||!Q.cE b)=false):Q.aJ a b=(a.block==b.block||a.scope==1&&b.scope==1):=by grind [Q.aJ]
def Pm(a b:Ev)(w:N):
  I W 163 #[.agg (aK a),.agg (aK b)] w λx w'=>x=K (.bool (Ag a b))/\H w.heap.size w w':=by
 have HB:aC (∀o p,H w.heap.size w ((w.alloc o).alloc p)):=λo p=>(bB).alloc (by simp) _
 cases h0:a.kind==3<;>cases h1:b.kind==4<;>cases h2:a.block==b.block<;>cases h3:a.u==b.u
 all_goals
  have c:aC (Ag a b=(a.kind==3&&b.kind==4&&a.block==b.block&&a.u==b.u)):=Z;simp only[aK];go_in;go_wp2;go_ret;rw[c.o,h0,h1,h2,h3];exact⟨Z,HB _ _⟩
def Tryz.infoThr:(prog.info? 132).map (λi=>(i.zero,i.size,i.bytes))=some (some (.agg #[T U 0,T U 0,.slice none 0 0]),3,40):=by kernel_rfl
theorem Pn{W0:N}{q d:Y}{b l:O}(h:XZ w B g r tv ov vs)(C:∀k,k<w.heap.size->W0.heap[k]?=w.heap[k]?)(D:w.heap.size<=W0.heap.size)(j:w1.ownsRow B 132 3 (VV q (r.H.length+1) d) (r.H.length+1) (ZG r.H vs++[T U b,T U l,.slice none 0 0]))(m:W0.grownBy w1 tv.ownBlock):
  XZ ((w1.setCell ⟨g,0,none⟩ (VV q (r.H.length+1) d)).setCell ⟨g,2,none⟩ (T U 0)) B g {r with H:=r.H++[⟨b,l,[]⟩],count:=0} (VV q (r.H.length+1) d) ov (vs++[.slice none 0 0]):=by
 have keep:∀k,k<w.heap.size->(∃(c:Array τ) (e:TypeId),w.heap[k]?=some (Obj.cells c e (0,0))/\e≠132)->w1.heap[k]?=w.heap[k]?:=λk z A=>by
  rw[m.block k (by omega) (Ne.symm ((λk ⟨c,e,i,s⟩=>tM h.H i (Ne.symm s)) k A)),C k z]
 have o:w1.heap[g]?=w.heap[g]?:=keep g h.lt ⟨_,_,h.cells,by decide⟩;have out:∀k,k≠g->((w1.setCell ⟨g,0,none⟩ (VV q (r.H.length+1) d)).setCell ⟨g,2,none⟩ (T U 0)).heap[k]?=w1.heap[k]?:=λk f=>by
  grind [x6]
 refine⟨?_,?_,?_,?_⟩
 ·have:=h.cells;rw[<- o]at this;rw[cI (cI this _ _)];rfl
 ·have y:=j;rw[<- JT r.H vs ⟨b,l,[]⟩ (.slice none 0 0) h.S.AZ]at y;refine bH (by simpa using y) λk f=>out k λe=>?_;subst e;obtain⟨c,i⟩:=gK j f;rw[o,h.cells]at i;simp at i
 ·refine bH h.O λk f=>?_;obtain⟨c,i⟩:=gK h.O f;rw[out k λe=>by subst e;rw[h.cells]at i;simp at i]
  grind
 ·rw[EY];refine⟨h.S.keep λv E k f=>?_,xi _ _ _ _,λu _=>?_⟩
  ·obtain⟨n,F,x⟩:=h.S.mem v E;obtain⟨c,i⟩:=gK x f;rw[out k λe=>by subst e;rw[h.cells]at i;simp at i]
   grind
  grind [Value.ownBlock]
theorem Bw(r:Rd)(b l:O)(h:4<=r.H.length\/0<r.O.length):lJ r b l=(r,false):=by
 simp_all [lJ]
theorem Po(B g:ν)(r:Rd)(b l:O)(w:ω)(h:eM w B g r)(hB:B<=w.heap.size)(af:r.H.length<6)(ae:r.O.length<10):
  ξ ρ 85 #[.pointer (some ⟨g,0,none⟩),T U b,T U l] w λe w'=>e=K (.bool (lJ r b l).2)/\eM w' B g (lJ r b l).1/\Ef B g w w':=by
 have hA:=aD h;obtain⟨tv,ov,vs,h⟩:=h;obtain⟨i0,hi,N,S,V⟩:=info_parts Tryz.infoThr;have L:∃a c,ov=.slice a r.O.length c:=by
  rcases h.O.2 with⟨e,G⟩|⟨k,c,D,e,_⟩
  ·grind
  ·exact⟨_,c,e⟩
 obtain⟨oa,oc,rfl⟩:=L;have M:∃a c,tv=.slice a r.H.length c:=by
  rcases h.H.2 with⟨e,G⟩|⟨k,c,D,e,_⟩
  ·grind
  ·exact⟨_,c,e⟩
 obtain⟨z,A,rfl⟩:=M;obtain⟨ab,E,g0,g1,g2,g3,g4⟩:=h.F;by_cases h4:4<=r.H.length
 ·have q:aC (lJ r b l=(r,false)):=Bw r _ _ (Or.inl h4);have I:(4:O)<=r.H.length:=by omega
  go_in;go_wp2;go_ret;rw[kS q];exact⟨Z,hA,Ef.refl _ _ _⟩
 have I:¬(4:O)<=r.H.length:=by omega
 by_cases G:0<r.O.length
 ·have q:aC (lJ r b l=(r,false)):=Bw r _ _ (Or.inr G);go_in;go_wp2;go_ret;rw[kS q];exact⟨Z,hA,Ef.refl _ _ _⟩
 have ac:¬(0:O)<r.O.length:=by omega
 have q:aC (lJ r b l=({r with H:=r.H++[⟨b,l,[]⟩],count:=0},true)):=by
  simp_all [aC,lJ]
 have HO:aC ((w.alloc (.cells #[x3 U b,T U l,.slice none 0 0] 132)).ownsRow B 132 3 (.slice z r.H.length A) r.H.length (ZG r.H vs)):=h.H.alloc _;have HN:aC (∀j u,[x3 U b,T U l,.slice none 0 0][j]?=some u->(w.alloc (.cells #[x3 U b,T U l,.slice none 0 0] 132)).cell? ((⟨w.heap.size,0,none⟩:Addr).add j)=some u):=
  World.news_of_block (cs:=#[x3 U b,T U l,.slice none 0 0]) (t:=132) (fr:=(0,0)) (by grind [ε])
 have f:some g≠(Value.slice z r.H.length A).ownBlock:=Ne.symm (tM h.H h.cells (by decide));have Y:(w.alloc (.cells #[x3 U b,T U l,.slice none 0 0] 132)).heap[g]?=w.heap[g]?:=x4 _ _ _ h.lt;have W:aC (∀i,(w.alloc (.cells #[x3 U b,T U l,.slice none 0 0] 132)).cell? ⟨g,i,none⟩=w.cell? ⟨g,i,none⟩):=λi=>xj (w:=w) (a:=⟨g,i,none⟩) Y
 have X:aC (∀i,(w.alloc (.cells #[x3 U b,T U l,.slice none 0 0] 132)).frozen? ⟨g,i,none⟩=false):=λi=>(World.frozen?_of_block (w:=w) (a:=⟨g,i,none⟩) Y).trans (E i)
 have fin:∀x s w1,World.ownsRow w1 B 132 3 (VV x (r.H.length+1) s) (r.H.length+1) (ZG r.H vs++[x3 U b,T U l,.slice none 0 0])->(w.alloc (.cells #[x3 U b,T U l,.slice none 0 0] 132)).grownBy w1 (Value.slice z r.H.length A).ownBlock ->
   eM ((w1.setCell ⟨g,0,none⟩ (VV x (r.H.length+1) s)).setCell ⟨g,2,none⟩ (T U 0)) B g {r with H:=r.H++[⟨b,l,[]⟩],count:=0}/\Ef B g w ((w1.setCell ⟨g,0,none⟩ (VV x (r.H.length+1) s)).setCell ⟨g,2,none⟩ (T U 0)):=λx s w1 y d=>by
  refine⟨⟨_,_,_,Pn (W0:=w.alloc (.cells #[x3 U b,T U l,.slice none 0 0] 132)) h (λk J=>x4 _ _ _ J) (by simp) y d⟩,?_⟩;refine Ef.setCell (Ef.setCell (Ef.grown ((Ef.refl B g w).alloc hB _) d (by simp;omega) λk J=>(h.H.lt k J).1) _) _
 have C:=aD fin;go_in;go_wp2_with(first|(at_builtin;refine wpList_append_lies _ Z (.tmp 25) (.tmp 29) 38 Z B 132 i0 (.agg #[T U 0,T U 0,.slice none 0 0]) 3 40 underlying38 hi N S V Z (by decide) (.slice z r.H.length A) r.H.length (ZG r.H vs) Z (by exact HO) ⟨w.heap.size,0,none⟩ 1 1 [x3 U b,T U l,.slice none 0 0] Z Z (by exact HN) (by simp[Value.oneCell']) (by decide) (by unfold maxLen;omega) (by omega) (by simp;omega) _ Z ?_;intro x s w1 m d ad aa;have c0:=(d.cell_far ⟨g,0,none⟩ (by simp;omega) f).trans ((W 0).trans g0);have c2:=(d.cell_far ⟨g,2,none⟩ (by simp;omega) f).trans ((W 2).trans g2);have f0:=(d.frozen_far ⟨g,0,none⟩ (by simp;omega) f).trans (X 0);have f2:=(d.frozen_far ⟨g,2,none⟩ (by simp;omega) f).trans (X 2);obtain⟨q1,q3⟩:=C.o _ _ _ m d;have Q1:=aD q1));go_ret;rw[kS q];exact⟨Z,Q1,q3⟩
def cA{c:Array A}(h:w.heap[b]?=some (.cells c t (0,0)))(j:Y):w.cell? ⟨b,j,none⟩=c[j]?:=by
 simp[World.cell?,h]
def kG{F:Y->Option A}(c:H B w w')(e:b<B)(d:∀j,w.cell? ⟨b,j,none⟩=F j)(j:Y):w'.cell? ⟨b,j,none⟩=F j:=cK c e (d j)
def QM(c:H B w w')(e:b<B)(d:∀j,w.frozen? ⟨b,j,none⟩=false)(j:Y):w'.frozen? ⟨b,j,none⟩=false:=fK c e (d j)
def bK.fs{c:VW}(h:bK w g c):g<w.heap.size/\(∀i,w.frozen? ⟨g,i,none⟩=false)/\∀i,w.cell? ⟨g,i,none⟩=#[x3 U c.kind,T U c.i,T U c.dest,T U c.z,.bool c.a.VX,T U c.a.n,.bool c.b.VX,T U c.b.n,T U c.q,T U c.scope,T U c.label][i]?:=⟨h.lt,h.free,h.cell⟩
def Pp(d e c:S s)(r:S (S s))(h:(e==[61])=false):kV (d::e::c::r)=(VW.zero,false):=by simp[kV,h]
theorem XZ.nN(h:XZ w B g r tv ov vs):∃ta tc oa oc,tv=.slice ta r.H.length tc/\ov=.slice oa r.O.length oc:=by
 have i:∃a c,ov=.slice a r.O.length c:=by
  rcases h.O.2 with⟨e,f⟩|⟨k,c,d,e,_⟩
  ·grind
  ·exact⟨_,c,e⟩
 have j:∃a c,tv=.slice a r.H.length c:=by
  rcases h.H.2 with⟨e,f⟩|⟨k,c,d,e,_⟩
  ·grind
  ·exact⟨_,c,e⟩
 grind
def eM.vO(h:eM w B g r)(x:ι):eM (w.setCell ⟨g,2,none⟩ (T U x)) B g {r with count:=x}:=by
 obtain⟨tv,ov,vs,h⟩:=h;exact⟨tv,ov,vs,h.yZ {r with count:=x} ov 2 (T U x) Z h.O Z⟩
def eM.FC(h:eM w B g r)(x:ι):eM w B g {r with i:=x}:=by
 obtain⟨tv,ov,vs,h⟩:=h;exact⟨tv,ov,vs,⟨h.cells,h.H,h.O,h.S⟩⟩
def eM.alloc(h:eM w B g r)(o:Obj):eM (w.alloc o) B g r:=h.X bB
def eM.drew(h:eM w B g r):eM w.drew B g r:=h.X (Below.refl _ _).drew
def Pq(B g:Y)(r:Rd)(k:VW)(w:N)(h:eM w B g r)(i:B<=w.heap.size)(y:2<=r.O.length):
  I W 128 #[.pointer (some ⟨g,0,none⟩),.agg (aU k)] w λe w'=>e=K (.bool false)/\eM w' B g r/\Ef B g w w':=by
 have f:=aD h;obtain⟨tv,ov,vs,h⟩:=h;obtain⟨C,D,z,A,rfl,rfl⟩:=h.nN;obtain⟨d,c,l,m,q,s,x⟩:=h.F;have j:(2:O)<=r.O.length:=by omega
 go_in;go_wp2;go_ret;exact⟨Z,f.alloc _,(Ef.refl _ _ _).alloc i _⟩
def Ps(r:Rd)(c:VW)(h:r.H=[]):fS r c=(r,false):=by simp[fS,h]
theorem Pt(r:Rd)(c:VW)(h:r.H≠[])(d:(c.kind==11)=true):fS r c=pZ r c:=by grind [fS]
theorem Pu(r:Rd)(c:VW)(h:r.H≠[])(e:(c.kind==11)=false)(d:r.most<=r.count):fS r c=(r,false):=by
 grind [fS]
theorem Pv(r:Rd)(c:VW)(h:r.H≠[])(e:¬r.most<=r.count)(d:(c.kind==10)=true)(f:2<=r.O.length):fS r c=({r with count:=r.count+1},false):=by
 grind [fS]
theorem Pw(r:Rd)(c:VW)(h:r.H≠[])(e:¬r.most<=r.count)(d:(c.kind==10)=true)(f:¬2<=r.O.length):fS r c=branch {r with count:=r.count+1} c:=by
 grind [fS]
theorem Px(r:Rd)(c:VW)(h:r.H≠[])(f:(c.kind==11)=false)(e:¬r.most<=r.count)(d:(c.kind==10)=false):fS r c=(P.put {r with count:=r.count+1} c,true):=by
 grind [fS]
theorem Bx(B g N:ν)(r:Rd)(c:VW)(w:ω)(h:eM w B g r)(s:FY N r)(x:N<10000)(J:B<=w.heap.size)(C:r.O.length<10)(z:0<=r.I)(A:r.I<10000)(L:0<=r.count)(M:r.count<10000):
  I ρ 88 #[.pointer (some ⟨g,0,none⟩),.agg (aU c)] w λe w'=>e=K (.bool (fS r c).2)/\eM w' B g (fS r c).1/\Ef B g w w':=by
 have q:=aD (h.alloc (.cells (aU c) 137));have l:=aD (((h.vO (r.count+1)).alloc (.cells (aU c) 137)).drew);obtain⟨tv,ov,vs,h⟩:=h;obtain⟨ta,tc,oa,oc,rfl,rfl⟩:=h.nN;obtain⟨G,E,V,W,X,Y,g4⟩:=h.F;have y:=aD (bK.new w c);have m:Ef B g w (w.alloc (.cells (aU c) 137)):=(Ef.refl _ _ _).alloc J _;by_cases hne:r.H=[]
 ·have i:=aD (Ps r c hne);have S:((r.H.length:O)==0)=true:=by simp[hne]
  simp only[aU];go_in;go_wp2;go_ret;rw[kS i];exact⟨Z,q,m⟩
 have S:((r.H.length:O)==0)=false:=by simpa using hne
 cases hk:c.kind==11
 rotate_left
 ·have i:=aD (Pt r c hne hk);simp only[aU];go_in;go_wp2_with(first
   |(refine yS (.tmp 3) Z Z w.heap.size c Z (by exact y) ?_)
   |(go_at_call 127;refine(O7 B g N r c _ (by exact q) hne s x (by simp;omega) C).mono ?_;rintro e D ⟨rfl,f,d⟩))
  go_ret;rw[kS i];exact⟨Z,f,m.trans d⟩
 by_cases h8:r.most<=r.count
 ·have i:=aD (Pu r c hne hk h8);simp only[aU];go_in;go_wp2;go_region
  all_goals go_wp2
  go_ret;rw[kS i];exact⟨Z,q.drew,m.drew⟩
 have k:aC (bK ((w.setCell ⟨g,2,none⟩ (T U (r.count+1))).alloc (.cells (aU c) 137)).drew w.heap.size c):=by
  unfold aC;have:=(bK.new (w.setCell ⟨g,2,none⟩ (T U (r.count+1))) c).drew;simpa using this
 have j:Ef B g w ((w.setCell ⟨g,2,none⟩ (T U (r.count+1))).alloc (.cells (aU c) 137)).drew:=(((Ef.refl _ _ _).setCell _).alloc (by simp_all) _).drew
 cases hbk:c.kind==10
 ·have i:=aD (Px r c hne hk h8 hbk);simp only[aU];go_in;go_wp2;go_region
  all_goals
   go_wp2_with(first
    |(refine yS (.tmp 3) Z Z w.heap.size c Z (by exact k) ?_)
    |(go_at_call 129;refine(TI B g N {r with count:=r.count+1} c _ (by exact l) hne s x (by simp;omega)).mono ?_;rintro e D ⟨rfl,f,d⟩))
   go_ret;rw[kS i];exact⟨Z,f,j.trans (Ef.of d)⟩
 by_cases ho:2<=r.O.length
 ·have i:=aD (Pv r c hne h8 hbk ho);simp only[aU];go_in;go_wp2;go_region
  all_goals
   go_wp2_with(first
    |(refine yS (.tmp 3) Z Z w.heap.size c Z (by exact k) ?_)
    |(go_at_call 128;refine(Pq B g {r with count:=r.count+1} c _ (by exact l) (by simp;omega) ho).mono ?_;rintro e D ⟨rfl,f,d⟩))
   go_ret;rw[kS i];exact⟨Z,f,j.trans d⟩
 ·have i:=aD (Pw r c hne h8 hbk ho);simp only[aU];go_in;go_wp2;go_region
  all_goals
   go_wp2_with(first
    |(refine yS (.tmp 3) Z Z w.heap.size c Z (by exact k) ?_)
    |(go_at_call 128;refine(O9 B g N {r with count:=r.count+1} c _ (by exact l) hne s x (by simp;omega) (by simp;omega) z A).mono ?_;rintro e D ⟨rfl,f,d⟩))
   go_ret;rw[kS i];exact⟨Z,f,j.trans d⟩
def gF(w:N)(B:Y)(tv:A)(ts:S VZ):Prop:=∃vs,w.ownsRow B 132 3 tv ts.length (ZG ts vs)/\ZC w B ts vs
def gF.keep(h:gF w B tv ts)(f:∀k,k<w.heap.size->w'.heap[k]?=w.heap[k]?):gF w' B tv ts:=by
 obtain⟨vs,c,d⟩:=h;exact⟨vs,bH c λk e=>f k (c.lt k e).2,d.keep λv j k e=>by obtain⟨n,l,i⟩:=d.mem v j;exact f k (i.lt k e).2⟩
def gF.nil(w:ω)(B:ν):gF w B (.slice none 0 0) []:=⟨[],xi _ _ _ _,trivial⟩
theorem P.Py(c:s)(l:S s):∀x∈bF c l,x.length<=l.length:=by
 induction l with
 |nil=>intro x d;simp[bF]at d;simp[d]
 |cons y r ih =>
  grind [bF]
theorem Bz(rows:S δ)(k:Y)(c:k<rows.length):(rows.take (k+1)).map x8=(rows.take k).map x8++[rows[k].toList]:=by
 grind [x9]
def LM{R:Ending->N->Prop}(g:Y)(tv d:A)(c:fn.results=#[.cell p 40,.tmp u])(i:a.tmps.getD p θ=.pointer (some ⟨g,0,none⟩))(j:a.tmps.getD u θ=d)(h:w.heap[g]?=some (.cells #[tv] 40 (0,0)))(f:a.defers=[])(e:R (K (.tuple #[.agg #[tv],d])) w):bodyPost W fn R .ret a w:=by
 refine ζ (v:=.tuple #[.agg #[tv],d]) ?_ f e;rw[results_cell_tmp c,i,j];have:(asAddr (.pointer (some ⟨g,0,none⟩))).run W w=.ok ⟨g,0,none⟩ w:=Z;rw[this,xa,yM w g _ _ _ h _ underlying40 rfl (by kernel_rfl),xa]
def JL{e:TypeId}{d:Y}{f:S A}(h:w.ownsRow B e d v n f)(k:B'<=B):w.ownsRow B' e d v n f:=by
 refine⟨h.1,?_⟩
 rcases h.2 with j|⟨g,cap,c,rfl,i,rest⟩
 ·exact .inl j
 ·exact .inr ⟨g,cap,c,Z,by omega,rest⟩
def ZC.base{w:ω}{B B':ν}(c:B'<=B):∀{ts:σ VZ} {vs:σ τ},ZC w B ts vs->ZC w B' ts vs
 |[],[],_=>trivial
 |_::_,_::_,h=>⟨JL h.1 c,h.2.1,ZC.base c h.2.2⟩
def Pz{p:Y}(h:XZ w B g r tv ov vs)(d:H w.heap.size w w')(i:p<B)(u:A):gF (w'.setCell ⟨p,0,none⟩ u) p tv r.H:=by
 refine⟨vs,JL (bH h.H λk c=>?_) (by omega),(h.S.keep λv f k c=>?_).base (by omega)⟩
 ·have:=h.H.lt k c;rw[x6 _ _ _ _ (by simp;omega),d.block k this.2]
 ·obtain⟨n,j,e⟩:=h.S.mem v f;have:=e.lt k c;rw[x6 _ _ _ _ (by simp;omega),d.block k this.2]
def qR(h:w.heap[g]?=some (.cells #[v] t (0,0))):w.cell? ⟨g,0,none⟩=some v/\w.frozen? ⟨g,0,none⟩=false/\g<w.heap.size:=by
 refine⟨?_,?_,dC h⟩<;>simp[World.cell?,World.frozen?,h]
theorem P0(s:δ)(w:N)(L:s.size<=8192):
  ξ W 46 #[.string s] w λe w'=>∃g cap,∃(rows:S δ) (last:δ),e=K (.tuple #[VV g rows.length cap,.bool last.toList.isEmpty])/\aC (rows.map x8++[last.toList]=bF 10 s.toList)/\XO w' g 0 rows/\rows.length<=8192/\rows.length<=cap/\g<w'.heap.size/\w.heap.size<=g/\(∀x∈rows,x.size<=8192)/\ψ w.heap.size w w':=by
 go_in;go_wp2_with fail;refine(Ow 10 s _ L).mono ?_;rintro e w1 ⟨g,cap,z,rfl,l,c,G⟩;obtain⟨q,E,F⟩:=RZ c;have D:w.heap.size<=g:=(c.lt g Z).1;have y:=CG 10 s.toList;rw[<- l,List.length_map,cV]at y;have f:z≠[]:=by grind [vT]
 obtain⟨rows,last,rfl⟩:=mQ z f;have A:aC (rows.map x8++[last.toList]=bF 10 s.toList):=by grind [aC]
 have j:XO w1 g 0 rows:=λi x M=>q i x (by grind)
 have H:w1.cell? ⟨g,rows.length,none⟩=some (.string last):=by
  have:=q rows.length last (by simp);simpa using this
 have k:∀x∈rows,x.size<=8192:=λx M=>by
  have I:x.toList∈bF 10 s.toList:=by grind
  have:=Py 10 s.toList x.toList I
  grind [cV]
 have C:=aD k;have m:=aD j;simp only[List.length_append,xb,List.length_nil,Nat.zero_add]at y E;have J:¬(rows.length:O)<0:=by omega
 have d:(rows++[last]).length=rows.length+1:=by simp
 clear l c q j k f;simp only[d];go_wp2;go_region
 all_goals go_wp2
 go_ret2;refine⟨g,cap,rows,last,?_,A,?_,by omega,by omega,F,D,C,G.drew⟩
 ·first|rfl|simp
 ·exact m.drew
def P1(m:O)(w:N):
  I W 45 #[T U m] w λe w'=>e=K (.agg #[.slice none 0 0,T U m,T U 0,T U 0,.slice none 0 0])/\H w.heap.size w w':=by
 go_in;go_wp2;refine ζ (v:=.agg #[.slice none 0 0,T U m,T U 0,T U 0,.slice none 0 0]) ?_ Z ⟨Z,bB⟩;simp[results,Tryz.results45,go_sem]
theorem Ca(B g:Y)(r:Rd)(w:N)(h:eM w B g r)(m:r.H.length<6)(l:r.O.length<10):
  I W 48 #[.pointer (some ⟨g,0,none⟩)] w λe w'=>e=K (.bool (decide (0<r.H.length)&&decide (r.O.length=0)))/\w'=w:=by
 obtain⟨tv,ov,vs,h⟩:=h;obtain⟨C,D,z,A,rfl,rfl⟩:=h.nN;obtain⟨i,f,o,q,s,x,y⟩:=h.F;clear h;by_cases h1:0<r.H.length
 ·have c:(0:O)<r.H.length:=by omega
  cases h2:(r.O.length:O)==0
  all_goals
   have d:=h2;simp at d;go_in;go_wp2;go_ret;refine⟨?_,Z⟩;simp[h1,d]
 ·have c:¬(0:O)<r.H.length:=by omega
  have j:decide ((0:O)<r.H.length)=false:=γ c;have k:decide (0<r.H.length)=false:=γ h1;go_in;go_wp2;go_ret
  simp_all
def P2(B g:Y)(r:Rd)(tv ov:A)(vs:S A)(w:N)(h:XZ w B g r tv ov vs):
  I W 49 #[.pointer (some ⟨g,0,none⟩)] w λe w'=>e=K (.agg #[tv])/\H w.heap.size w w':=by
 obtain⟨f,i,q,s,rfl,rfl⟩:=h.nN;obtain⟨d,c,j,k,l,m,o⟩:=h.F;clear h;go_in;go_wp2;refine ζ (v:=.agg #[.slice f r.H.length i]) ?_ Z ⟨Z,bB⟩;simp[results,Tryz.results49,go_sem]
theorem UA(s:δ)(m k:Y):(s.extract m k).size<=s.size:=by
 grind [ByteArray.size_extract]
namespace P
def YY:S VW->O
 |[]=>0
 |s::r=>(if s.kind==5 then 1 else 0)+YY r
def P3(a b:S VW):YY (a++b)=YY a+YY b:=by
 induction a with
 |nil=>simp[YY]
 |cons s r ih=>simp[YY,ih];omega
def zJ(l:S VW):0<=YY l/\YY l<=l.length:=by
 induction l with
 |nil=>simp[YY]
 |cons s r ih=>simp only[YY,xb];split<;>omega
def P4(l:S VW)(k:Y)(h:k<l.length):YY (l.take (k+1))=YY (l.take k)+if l[k].kind==5 then 1 else 0:=by
 rw[x9 h,P3];simp[YY]
end P
theorem P5(l:S VW):∀(k:Y) (h:k<l.length) (i:Y),i<11->(mU l)[k*11+i]?=(aU l[k]).toList[i]?:=by
 induction l with
 |nil=>intro k h;simp at h
 |cons a r ih =>
  intro k h i c;have e:mU (a::r)=(aU a).toList++mU r:=by simp[mU]
  have d:(aU a).toList.length=11:=Z
  grind
theorem GT{l:S VW}(h:w.ownsRow B 137 11 (VV b n cap) n (mU l))(f:n=l.length)(k:Y)(e:k<l.length):w.rangeAt b (k*11) (aU l[k]).toList:=by
 intro j v c;have d:j<11:=(List.getElem?_eq_some_iff.1 c).1;rw[h.cellAt _ (by omega),P5 l k e j d];exact c
def lC{o:Y}{cs:S A}(h:w.rangeAt b o cs)(e:w'.heap[b]?=w.heap[b]?):w'.rangeAt b o cs:=λj v c=>by
 rw[xj (w:=w) (a:=⟨b,o+j,none⟩) e];exact h j v c
def rC{e:Array Oper}{rest:S Oper}{d:Oper}{Q:Exit->Act->N->Prop}(x:Operand)(f:d.guard=none)(j:d.op=.load 137 x)(b o:Y)(c:VW)(l:a.eval x=.pointer (some ⟨b,o,none⟩))(k:w.rangeAt b o (aU c).toList)(h:wpList W e Q rest (a.put d.dst (.agg #[T U c.kind,T U c.i,T U c.dest,T U c.z,.bool c.a.VX,T U c.a.n,.bool c.b.VX,T U c.b.n,T U c.q,T U c.scope,T U c.label])) w):wpList W e Q (d::rest) a w :=
 wpList_load_mid f _ x j b o l (aU c).toList _ k underlying137 Z (by kernel_rfl) h
theorem Cb(B n:Y)(H O:ι)(D:τ)(l:σ VW)(w:ω)(f:w.ownsRow B 137 11 D n (mU l))(E:n=l.length)(M:n<10000):
  ξ ρ 50 #[.agg #[T U H,T U O,D]] w λe w'=>e=K (T U (YY l))/\ψ w.heap.size w w':=by
 have A:∃a c,D=.slice a n c/\(0<n->∃b,a=some ⟨b,0,none⟩/\b<w.heap.size):=by
  rcases f.2 with⟨e,S⟩|⟨k,c,I,e,_⟩
  ·grind
  grind
 obtain⟨W,sc,rfl,z⟩:=A;have F:=aD f;have s:=aD E;clear f E;go_in;go_wp2;go_loopw[3,9] (λc i wr=>∃k:Y,k<=n/\i=T U k/\c=T U (YY (l.take k))/\ψ w.heap.size w wr) λ_ i _=>n-(η i).toNat
 case atStart=>exact⟨0,x7 _,Z,by simp[YY],bB⟩
 case round =>
  obtain⟨k,V,rfl,rfl,d⟩:=hrel;have J:=zJ (l.take k);have L:(l.take k).length<=k:=xc _ _;by_cases hlt:k<n
  ·obtain⟨b,rfl,m⟩:=z (by omega);have q:k<l.length:=by rw[<- s.o];exact hlt
   have y:=aD (lC (GT F s k q) (d.block b m));have j:=aD (P4 l k q);generalize N:l[k]=C at y j
   cases h5:C.kind==5
   ·go_wp2_with(first|(refine rC (.tmp 11) Z Z b (k*11) C Z y ?_));go_roundw;exact⟨k+1,by omega,by go_num,by rw[j.o,h5];simp,d.alloc (by have:=d.size;omega) _⟩;simp[η];omega
   ·go_wp2_with(first|(refine rC (.tmp 11) Z Z b (k*11) C Z y ?_));go_roundw;exact⟨k+1,by omega,by go_num,by rw[j.o,h5];simp,d.alloc (by have:=d.size;omega) _⟩;simp[η];omega
  ·have x:k=n:=by omega
   subst x;have G:aC (l.take k=l):=xk (by have:=s.o;omega);go_wp2;go_ret;rw[G.o];exact⟨Z,d⟩
namespace P
def mO(b:O):S VZ->O
 |[]=>0
 |t::r=>if t.block==b then YY t.S else mO b r
def lV(all:S VZ):S VZ->O
 |[]=>0
 |t::r=>if YY t.S != mO t.block all||decide (2<YY t.S)then t.i else lV all r
def P6(b:O)(ts:S VZ):0<=mO b ts:=by
 induction ts with
 |nil=>simp[mO]
 |cons t r ih=>simp only[mO];split;exact(zJ _).1;exact ih
end P
theorem P7(ts:S VZ):∀(vs:S A),vs.length=ts.length->∀(k:Y) (h:k<ts.length),∃v,vs[k]?=some v/\(ZG ts vs)[k*3]?=some (T U ts[k].block)/\(ZG ts vs)[k*3+1]?=some (T U ts[k].i)/\(ZG ts vs)[k*3+2]?=some v:=by
 induction ts with
 |nil=>intro vs _ k h;simp at h
 |cons t r ih =>
  intro vs c k h
  match vs,c with
  |v::q,c =>
   cases k with
   |zero=>exact⟨v,Z,by simp[ZG],by simp[ZG],by simp[ZG]⟩
   |succ k =>
    obtain⟨u,d,e,f,j⟩:=ih q (by simpa using c) k (by simpa using h);refine⟨u,by simpa using d,?_,?_,?_⟩
    ·grind [ZG]
    ·grind [ZG]
    grind [ZG]
def ZC.get{w:ω}{B:ν}:∀{ts:σ VZ} {vs:σ τ},ZC w B ts vs->∀(k:ν) (h:k<ts.length) (v:τ),vs[k]?=some v->w.ownsRow B 137 11 v ts[k].S.length (mU ts[k].S)
 |t::r,u::q,h,0,_,v,hv=>by simp at hv;subst hv;exact h.1
 |t::r,u::q,h,k+1,hk,v,hv=>ZC.get h.2.2 k (by simpa using hk) v (by simpa using hv)
theorem FK{d:Y}(h:gF w B (VV d n cap) ts)(x:n=ts.length)(k:Y)(m:k<ts.length):
  d<w.heap.size/\∃j sc,w.cell? ⟨d,k*3,none⟩=some (T U ts[k].block)/\w.cell? ⟨d,k*3+1,none⟩=some (T U ts[k].i)/\w.cell? ⟨d,k*3+2,none⟩=some (.slice j ts[k].S.length sc)/\w.ownsRow B 137 11 (.slice j ts[k].S.length sc) ts[k].S.length (mU ts[k].S):=by
 obtain⟨vs,f,l⟩:=h;rw[<- x]at f;obtain⟨v,s,e1,e2,e3⟩:=P7 ts vs l.AZ k m;have o:=l.get k m v s;have y:∃a c,v=.slice a ts[k].S.length c:=by
  rcases o.2 with⟨e,z⟩|⟨A,c,q,e,_⟩
  ·grind
  ·exact⟨_,c,e⟩
 obtain⟨j,sc,rfl⟩:=y;refine⟨(f.lt d Z).2,j,sc,?_,?_,?_,o⟩
 ·rw[f.cellAt _ (by omega)];exact e1
 ·rw[f.cellAt _ (by omega)];exact e2
 ·rw[f.cellAt _ (by omega)];exact e3
theorem P8(B A n cap:Y)(b:ι)(ts:S VZ)(w:ω)(h:gF w B (VV A n cap) ts)(F:n=ts.length)(J:n<10)(f:∀t∈ts,t.S.length<10000):
  ξ ρ 51 #[.agg #[VV A n cap],T U b] w λe w'=>e=K (T U (mO b ts))/\ψ w.heap.size w w':=by
 have G:=aD h;have q:=aD F;have H:=aD f;clear h F f;go_in;go_wp2;go_loopw[10] (λi wr=>∃k:Y,k<=n/\i=T U k/\aC (mO b ts=mO b (ts.drop k))/\ψ w.heap.size w wr) λi _=>n-(η i).toNat
 case atStart=>exact⟨0,x7 _,Z,Z,bB⟩
 case round =>
  obtain⟨k,W,rfl,HB,c⟩:=hrel;by_cases hlt:k<n
  ·have m:k<ts.length:=by rw[<- q.o];exact hlt
   obtain⟨l,X,sc,C,D,E,y⟩:=FK G.o q k m;have N:=cK c l C;have O:=cK c l D;have V:=cK c l E;have x:=H.o ts[k] (xd m);have M:=aD (CZ ts k m);have z:=aD (bH y λj I=>c.block j (y.lt j I).2);generalize f:ts[k]=t at*;clear f C D E y;have L:w.heap.size<=wr.heap.size:=c.size
   cases hb:t.block==b
   ·have d:aC (mO b ts=mO b (ts.drop (k+1))):=by
     grind [aC,mO]
    go_wp2;go_roundw;exact⟨k+1,by omega,by go_num,d,c.alloc (by omega) _⟩;simp[η];omega
   ·have d:aC (mO b ts=YY t.S):=by
     grind [aC,mO]
    go_wp2_with(first|(go_at_call 50;refine(Cb B t.S.length _ _ _ t.S _ (by exact z.alloc _) Z x).mono ?_;rintro e w1 ⟨rfl,s⟩));go_ret;rw[d.o];exact⟨Z,(c.alloc (by omega) _).trans (s.mono (by simp;omega))⟩
  ·have d:aC (mO b ts=0):=by
    unfold aC;rw[HB.o,xl (by have:=q.o;omega)];rfl
   go_wp2;go_ret;rw[d.o];exact⟨Z,c⟩
def Qa(B s n cap:ν)(ts:S VZ)(w:ω)(h:gF w B (VV s n cap) ts)(N:n=ts.length)(C:n<10)(l:∀t∈ts,t.S.length<10000):
  ξ ρ 29 #[.agg #[VV s n cap]] w λe w'=>e=K (T U (lV ts ts))/\ψ w.heap.size w w':=by
 have G:=aD h;have x:=aD N;have I:=aD l;clear h N l;go_in;go_wp2;go_loopw[10] (λi wr=>∃k:ν,k<=n/\i=T U k/\aC (lV ts ts=lV ts (ts.drop k))/\aC (wr.heap[w.heap.size]?=some (.cells #[VV s n cap] 40 (0,0)))/\ψ w.heap.size w wr) λi _=>n-(η i).toNat
 case atStart=>exact⟨0,x7 _,Z,Z,ε w _,bB⟩
 case round =>
  obtain⟨k,hk,rfl,HB,H,c⟩:=hrel;by_cases hlt:k<n
  ·have q:k<ts.length:=by rw[<- x.o];exact hlt
   obtain⟨m,O,sc,J,L,M,D⟩:=FK G.o x k q;have d0:=cK c m J;have d1:=cK c m L;have d2:=cK c m M;have A:=I.o ts[k] (xd q);have V:=aD (CZ ts k q);have E:=aD (bH D λj z=>c.block j (D.lt j z).2);generalize l:ts[k]=t at*;clear l J L M D;have aa:w.heap.size<=wr.heap.size:=c.size;obtain⟨p0,_,p2⟩:=qR H;have X:=zJ t.S;have Y:=P6 t.block ts;have W:aC (∀w1:ω,ψ (wr.alloc (.cells #[T U t.block,T U t.i,.slice O t.S.length sc] 132)).heap.size (wr.alloc (.cells #[T U t.block,T U t.i,.slice O t.S.length sc] 132)) w1->gF w1 B (VV s n cap) ts):=λw1 d=>by
    refine G.keep λj z=>?_;rw[d.block j (by simp;omega),x4 _ _ _ (by omega),c.block j z]
   rw[V.o,lV]at HB
   cases hv:YY t.S != mO t.block ts
   case' false=>cases F:decide (2<YY t.S)
   all_goals
    rw[hv]at HB
    try rw[F]at HB
    try(have F:=of_decide_eq_true F)
    go_wp2_with(first|(go_at_call 50;refine(Cb B t.S.length _ _ _ t.S _ (by exact E.alloc _) Z A).mono ?_;rintro e w1 ⟨rfl,d⟩;have s1:wr.heap.size+1<=w1.heap.size:=(by have:=d.size;simp at this;omega);have y0:=d.cell (p:=⟨wr.heap.size,0,none⟩) (by simp);have y1:=d.cell (p:=⟨wr.heap.size,1,none⟩) (by simp);have y2:=d.cell (p:=⟨w.heap.size,0,none⟩) (by simp;omega))|(go_at_call 51;refine(P8 B s n cap _ ts _ (by exact W w1 d) x C I).mono ?_;rintro e w2 ⟨rfl,f⟩;have x1:=f.cell (p:=⟨wr.heap.size,1,none⟩) (show wr.heap.size<w1.heap.size by omega)))
    first
     |(go_roundw
       case rel=>exact⟨k+1,by omega,by go_num,HB,by unfold aC;rw[f.block _ (by omega),d.block _ (by simp;omega),x4 _ _ _ p2];exact H,(c.alloc (by omega) _).trans ((d.mono (by simp;omega)).trans (f.mono (by omega)))⟩
       case measure=>simp[η];omega)
     |(go_ret
       rw[HB.o];exact⟨Z,(c.alloc (by omega) _).trans ((d.mono (by simp;omega)).trans (f.mono (by omega)))⟩)
  ·have y:aC (lV ts ts=0):=by
    unfold aC;rw[HB.o,xl (by have:=x.o;omega)];rfl
   go_wp2;go_ret;rw[y.o];exact⟨Z,c⟩
namespace P
def tC(d:O):S VW->Option O
 |[]=>none
 |s::r =>
  if s.kind==10 then tC (d+1) r
  else if s.kind==11 then tC (d-1) r
  else if s.kind==5 then if 0<d then some s.i else tC d r
  else tC d r
def VY(p:VW->z):S VW->O
 |[]=>0
 |s::r=>(if p s then 1 else 0)+VY p r
def CB(p:VW->z)(a b:S VW):VY p (a++b)=VY p a+VY p b:=by
 induction a with
 |nil=>simp[VY]
 |cons s r ih=>simp[VY,ih];omega
def pK(p:VW->z)(l:S VW):0<=VY p l/\VY p l<=l.length:=by
 induction l with
 |nil=>simp[VY]
 |cons s r ih=>simp only[VY,xb];split<;>omega
def VK(p:VW->z)(l:S VW)(k:Y)(h:k<l.length):VY p (l.take (k+1))=VY p (l.take k)+if p l[k]then 1 else 0:=by
 rw[x9 h,CB];simp[VY]
def XL(p:VW->z):S VZ->O
 |[]=>0
 |t::r=>VY p t.S+XL p r
def Qb(p:VW->z)(a b:S VZ):XL p (a++b)=XL p a+XL p b:=by
 induction a with
 |nil=>simp[XL]
 |cons s r ih=>simp[XL,ih];omega
def RF(p:VW->z)(l:S VZ)(k:Y)(h:k<l.length):XL p (l.take (k+1))=XL p (l.take k)+VY p l[k].S:=by
 rw[x9 h,Qb];simp[XL]
theorem RU(p:VW->z)(l:S VZ)(N:Y)(h:∀t∈l,t.S.length<N):0<=XL p l/\XL p l<=l.length*N:=by
 induction l with
 |nil=>simp[XL]
 |cons t r ih =>
  have d:=ih λt c=>h t (by simp[c]);have e:=pK p t.S;have f:=h t (by simp);simp only[XL,xb]
  grind
def XG(s:VW):z:=aZ s.kind
def XI(s:VW):z:=rP s.kind
def XC(s:VW):z:=s.kind==4&&s.q==5
def lK(ts:S VZ):z:=decide (4<XL XG ts)||decide (3<XL XI ts)||decide (3<XL XC ts)
end P
theorem Qc(B bt n cap:ν)(ts:S VZ)(w:ω)(h:gF w B (VV bt n cap) ts)(hn:n=ts.length)(an:n<10)(f:∀t∈ts,t.S.length<10000):
  ξ ρ 30 #[.agg #[VV bt n cap]] w λe w'=>e=K (.bool (lK ts))/\ψ w.heap.size w w':=by
 have HA:=aD h;have C:=aD hn;have X:=aD f;clear h hn f;go_in;go_wp2;go_loopw[3,4,5,13] (λa b c i wr=>∃k:ν,k<=n/\i=T U k/\a=T U (XL P.XG (ts.take k))/\b=T U (XL P.XI (ts.take k))/\c=T U (XL P.XC (ts.take k))/\ψ w.heap.size w wr) λ_ _ _ i _=>n-(η i).toNat
 case atStart=>exact⟨0,x7 _,Z,by simp[XL],by simp[XL],by simp[XL],bB⟩
 case round =>
  obtain⟨k,hk,rfl,rfl,rfl,rfl,d⟩:=hrel;have s:∀t∈ts.take k,t.S.length<10000:=λt ht=>X t (List.mem_of_mem_take ht)
  have ae:=RU P.XG (ts.take k) 10000 s;have af:=RU P.XI (ts.take k) 10000 s;have ad:=RU P.XC (ts.take k) 10000 s;have ak:(ts.take k).length<=k:=xc _ _;clear s;by_cases hlt:k<n
  ·have m:k<ts.length:=by rw[<- C.o];exact hlt
   obtain⟨x,sa,sc,c0,c1,c2,J⟩:=FK HA.o C k m;have d0:=cK d x c0;have d1:=cK d x c1;have d2:=cK d x c2;have am:=X.o ts[k] (xd m);have HR:=aD (RF P.XG ts k m);have HW:=aD (RF P.XI ts k m);have HF:=aD (RF P.XC ts k m);have D:=aD J;generalize f:ts[k]=t at*;have M:0<t.S.length->∃b,sa=some ⟨b,0,none⟩/\b<w.heap.size:=λh0=>by
    rcases J.2 with⟨e,ab⟩|⟨b',c',aa,e,ac,aj,_⟩
    ·omega
    grind
   clear f c0 c1 c2 J;have A:aC (ψ w.heap.size w (wr.alloc (.cells #[T U t.block,T U t.i,.slice sa t.S.length sc] 132))):=d.alloc d.size _;clear d;generalize hR:XL P.XG (ts.take k)=R at*;generalize hW:XL P.XI (ts.take k)=W at*;generalize hF:XL P.XC (ts.take k)=F at*;clear hR hW hF;go_wp2;go_loopw[3,4,5,20] (λa b c j w2=>∃q:ν,q<=t.S.length/\j=T U q/\a=T U (R+P.VY P.XG (t.S.take q))/\b=T U (W+P.VY P.XI (t.S.take q))/\c=T U (F+P.VY P.XC (t.S.take q))/\ψ w.heap.size w w2) λ_ _ _ j _=>t.S.length-(η j).toNat
   case atStart=>exact⟨0,x7 _,Z,by simp[P.VY],by simp[P.VY],by simp[P.VY],A⟩
   case round =>
    obtain⟨q,hq,rfl,rfl,rfl,rfl,d⟩:=hrel;have ah:=pK P.XG (t.S.take q);have ai:=pK P.XI (t.S.take q);have ag:=pK P.XC (t.S.take q);have al:(t.S.take q).length<=q:=xc _ _;by_cases hql:q<t.S.length
    ·obtain⟨b,rfl,z⟩:=M (by omega);have hr:=aD (lC (GT D Z q hql) (d.block b z));have G:=aD (VK P.XG t.S q hql);have H:=aD (VK P.XI t.S q hql);have E:=aD (VK P.XC t.S q hql);generalize f:t.S[q]=l at hr G H E;clear f;generalize O:P.VY P.XG (t.S.take q)=xR at*;generalize V:P.VY P.XI (t.S.take q)=xW at*;generalize N:P.VY P.XC (t.S.take q)=xF at*;clear O V N
     cases b1:P.aZ l.kind<;>cases b2:rP l.kind<;>cases b3:l.kind==4
     all_goals
      try cases b4:l.q==5
     all_goals
      have e1:P.XG l=P.aZ l.kind:=Z;have e2:P.XI l=rP l.kind:=Z;have e3:P.XC l=(l.kind==4&&l.q==5):=Z;have NR:aC (P.VY P.XG (t.S.take (q+1))=_):=G.o;have NW:aC (P.VY P.XI (t.S.take (q+1))=_):=H.o;have Y:aC (P.VY P.XC (t.S.take (q+1))=_):=E.o;rw[e1,b1]at NR;rw[e2,b2]at NW;simp only[e3,b3,b4]at Y;clear e1 e2 e3 G H E;go_wp2_with(first|(refine rC (.tmp 22) Z Z b (q*11) l Z hr ?_)|(go_at_call 52;refine(UM _ _).mono ?_;rintro e w' ⟨rfl,rfl⟩)|(go_at_call 53;refine(Ny _ _).mono ?_;rintro e w' ⟨rfl,rfl⟩));go_roundw;exact⟨q+1,by omega,by go_num,by rw[NR.o];simp<;>omega,by rw[NW.o];simp<;>omega,by rw[Y.o];simp<;>omega,d.alloc d.size _⟩;simp[η];omega
    ·have L:q=t.S.length:=by omega
     subst L;have y:aC (t.S.take t.S.length=t.S):=List.take_length;go_wp2;go_roundw;exact⟨k+1,by omega,by go_num,by rw[HR.o,y.o],by rw[HW.o,y.o],by rw[HF.o,y.o],d⟩;simp[η];omega
  ·have I:k=n:=by omega
   subst I;have y:aC (ts.take k=ts):=xk (by have:=C.o;omega);have D:aC (lK ts=(decide (4<XL P.XG (ts.take k))||decide (3<XL P.XI (ts.take k))||decide (3<XL P.XC (ts.take k)))):=by
    unfold aC;rw[y.o];rfl
   generalize XL P.XG (ts.take k)=R at*;generalize XL P.XI (ts.take k)=W at*;generalize XL P.XC (ts.take k)=F at*;go_wp2
   all_goals go_ret
   all_goals rw[D.o]
   all_goals refine⟨?_,d⟩
   all_goals simp[*]
theorem Qd{v:Tmp}{e:TypeId}(h:fn.results=#[.cell p e,.tmp u,.tmp v])(c:Array A)(d:Program)(w:N):
  (results fn c).run d w=((asAddr (c.getD p θ)).run d w).andThen λa f=>((loadVar e a).run d f).andThen λx i=>.ok (.tuple #[x,c.getD u θ,c.getD v θ]) i:=by
 simp_all [results,Sem.run_bind,Result.andThen]
def CI{R:Ending->N->Prop}{v:Tmp}(g:Y)(tv d e:A)(c:fn.results=#[.cell p 40,.tmp u,.tmp v])(j:a.tmps.getD p θ=.pointer (some ⟨g,0,none⟩))(k:a.tmps.getD u θ=d)(l:a.tmps.getD v θ=e)(h:w.heap[g]?=some (.cells #[tv] 40 (0,0)))(i:a.defers=[])(f:R (K (.tuple #[.agg #[tv],d,e])) w):bodyPost W fn R .ret a w:=by
 refine ζ (v:=.tuple #[.agg #[tv],d,e]) ?_ i f;rw[Qd c,j,k,l];have:(asAddr (.pointer (some ⟨g,0,none⟩))).run W w=.ok ⟨g,0,none⟩ w:=Z;rw[this,xa,yM w g _ _ _ h _ underlying40 rfl (by kernel_rfl),xa]
def gF.base(h:gF w B tv ts)(c:B'<=B):gF w B' tv ts:=by
 obtain⟨vs,d,e⟩:=h;exact⟨vs,JL d c,e.base c⟩
theorem gF.form(h:gF w B tv ts):∃a c,tv=.slice a ts.length c/\(ts≠[]->∃bt,a=some ⟨bt,0,none⟩):=by
 obtain⟨vs,f,j⟩:=h
 rcases f.2 with⟨e,i⟩|⟨k,c,d,e,_⟩
 ·grind
 grind
theorem gF.set(h:gF w (B+1) tv ts)(u:τ):gF (w.setCell ⟨B,0,none⟩ u) B tv ts:=by
 obtain⟨vs,d,e⟩:=h;refine⟨vs,JL (bH d λk c=>?_) (by omega),(e.keep λv i k c=>?_).base (by omega)⟩
 ·have:=(d.lt k c).1
  grind [x6]
 ·obtain⟨n,j,f⟩:=e.mem v i;have:=(f.lt k c).1
  grind [x6]
theorem Qe(e:gF w1 B tv ts)(c:H w.heap.size w w1)(d:w1.heap[w.heap.size]?=some (.cells #[.slice none 0 0] 40 (0,0)))(f:H (w1.alloc (.cells #[tv] 40)).heap.size (w1.alloc (.cells #[tv] 40)) w')(i:w.heap.size+1<=B:=by simp):
  gF w' (w.heap.size+1) tv ts/\H w.heap.size w w'/\w'.heap[w.heap.size]?=some (.cells #[.slice none 0 0] 40 (0,0))/\w'.heap[w1.heap.size]?=some (.cells #[tv] 40 (0,0))/\w1.heap.size<w'.heap.size:=by
 have j:w.heap.size<w1.heap.size:=dC d;refine⟨(e.keep λk l=>?_).base i,?_,?_,?_,?_⟩
 ·grind [xe,x4]
 ·exact(c.alloc c.size _).trans (f.mono (by simp;omega))
 ·grind [xe,x4]
 ·grind [xe,ε]
 ·have:=f.size;simp at this;omega
theorem Qf(i:Y)(w:N)(h:i<100):
  I W 199 #[T U (i:O)] w λe w'=>e=K (.string ⟨(x5 i).toArray⟩)/\w'=w:=by
 go_in;go_name_bytes_deep 45 SM hSM;have d:SM=xg:=by rw[<- hSM];decide +kernel
 subst d;clear hSM;go_name_bytes_deep 30 DG hDG;have c:DG=xh:=by rw[<- hDG];decide +kernel
 subst c;clear hDG;by_cases h10:i<10
 ·have f:∀w,(Instr.slice 9 (.string xh) (some (T U (i:O))) (some (T U ((i:O)+1))) none).run W w=.ok (.string (Lib.digits36.extract i (i+1))) w:=λw=>by
   rw[run_slice_string w 9 xh U U _ _ underlying9 (by omega) (by omega) (by rw[Lib.digits36_size];omega),show (i:O).toNat=i by omega,show((i:O)+1).toNat=i+1 by omega]
  go_wp2;go_ret;refine⟨?_,Z⟩;show Ending.returned (Value.string (Lib.digits36.extract i (i+1)))=_
  grind [Bs,xm,Lib.digits36_piece]
 ·have f:∀w,(Instr.slice 9 (.string xg) (some (T U ((i:O)*2))) (some (T U ((i:O)*2+2))) none).run W w=.ok (.string (Lib.smalls.extract (i*2) (i*2+2))) w:=λw=>by
   rw[run_slice_string w 9 xg U U _ _ underlying9 (by omega) (by omega) (by rw[Lib.smalls_size];omega),show((i:O)*2).toNat=i*2 by omega,show((i:O)*2+2).toNat=i*2+2 by omega]
  go_wp2;go_ret;refine⟨?_,Z⟩;show Ending.returned (Value.string (Lib.smalls.extract (i*2) (i*2+2)))=_
  grind [Bs,xm,Lib.smalls_piece]
def Qg(i:Y)(w:N)(h:i<100):
  I W 174 #[T U (i:O),T U 10] w λe w'=>e=K (.string ⟨(x5 i).toArray⟩)/\w'=w:=by
 have c:(0:O)<=i:=by omega
 have d:(i:O)<100:=by omega
 go_in;go_wp2_with(first|(go_at_call 199;refine(Qf i _ h).mono ?_;rintro e w' ⟨rfl,rfl⟩));go_ret;exact⟨Z,Z⟩
def Qh(n:O)(w:N)(c:0<=n)(h:n<100):
  I W 126 #[T U n] w λe w'=>e=K (.string ⟨(x5 n.toNat).toArray⟩)/\w'=w:=by
 obtain⟨i,rfl⟩:=Int.eq_ofNat_of_zero_le c;rw[Int.toNat_natCast];go_in;go_wp2_with(first|(go_at_call 174;refine(Qg i _ (by omega)).mono ?_;rintro e w' ⟨rfl,rfl⟩)|go_in);go_ret;exact⟨Z,Z⟩
def QZ(n:O)(w:N)(c:0<=n)(h:n<100):
  I W 126 #[T U n] w λe w'=>∃s,e=K (.string s)/\jZ 2 s (dI n)/\w'=w:=by
 refine(Qh n w c h).mono ?_;rintro e w' ⟨rfl,rfl⟩;refine⟨_,Z,⟨NP _,?_⟩,Z⟩;have:=Ph n h;rw[<- cV,NP];exact this
theorem Cc(n:O)(w:N)(d:0<=n)(h:n<100):
  I W 203 #[T U n] w λe w'=>∃s,e=K (.string s)/\jZ 4 s (nU n)/\w'=w:=by
 go_in;go_wp2_with(first|(go_at_call 126;refine(QZ n _ d h).mono ?_;rintro e w' ⟨s,rfl,c,rfl⟩;have f:=c.size));go_ret;refine⟨_,Z,⟨?_,?_⟩,Z⟩
 ·simp[tZ,bI,c.1,nU]
 grind [qA]
def Qi(n:O)(w:N):
  I W 204 #[T U n] w λe w'=>∃s,e=K (.string s)/\jZ 3 s (rR n)/\w'=w:=by
 go_in;go_wp2
 all_goals go_ret
 all_goals refine⟨_,Z,⟨?_,by simp[qA]⟩,Z⟩
 all_goals simp[rR,wC,bI, *]
def Qj(n:O)(w:N):
  I W 176 #[T U n] w λe w'=>∃s,e=K (.string s)/\jZ 8 s ([46]++JN n)/\w'=w:=by
 go_in;go_wp2
 all_goals go_ret
 all_goals refine⟨_,Z,⟨?_,by simp[qA]⟩,Z⟩
 all_goals simp[JN,bI, *]
def Qk(n:O)(w:N)(d:0<=n)(h:n<100):
  I W 84 #[T U n] w λe w'=>∃s,e=K (.string s)/\jZ 10 s ([46,116,104,114,101,97,100,32]++dI n)/\w'=w:=by
 go_in;go_wp2_with(first|(go_at_call 126;refine(QZ n _ d h).mono ?_;rintro e w' ⟨s,rfl,c,rfl⟩;have f:=c.size));go_ret;refine⟨_,Z,⟨?_,?_⟩,Z⟩
 ·simp[tZ,bI,c.1]
 ·simp[qA];omega
theorem Ql(o:ZD)(w:N)(f:0<=o.n)(h:o.n<100):
  I W 205 #[.agg #[.bool o.VX,T U o.n]] w λe w'=>∃s,e=K (.string s)/\jZ 4 s (SS o)/\H w.heap.size w w':=by
 cases hr:o.VX
 ·go_in;go_wp2_with(first|(go_at_call 126;refine(QZ o.n _ f h).mono ?_;rintro e w' ⟨s,rfl,c,rfl⟩;have d:=c.size));go_ret;refine⟨_,Z,⟨?_,by omega⟩,bB⟩;rw[c.1];simp[SS,hr]
 ·go_in;go_wp2_with(first|(go_at_call 203;refine(Cc o.n _ f h).mono ?_;rintro e w' ⟨s,rfl,c,rfl⟩;have d:=c.size));go_ret
  simp_all [bB,SS]
namespace P
def rB(o sc:O):S s:=if o==0 then[46,119,101,97,107]else[46]++JN o++if sc==0 then[46,99,116,97]else[46,103,112,117]
end P
def Qm(o sc:O)(w:N):
  I W 155 #[T U o,T U sc] w λe w'=>∃s,e=K (.string s)/\jZ 20 s (rB o sc)/\w'=w:=by
 cases h0:o==0
 ·cases h1:sc==0
  all_goals
   go_in;go_wp2_with(first|(go_at_call 176;refine(Qj o _).mono ?_;rintro e w' ⟨s,rfl,c,rfl⟩;have d:=c.size));go_ret;refine⟨_,Z,⟨?_,?_⟩,Z⟩
   ·simp[tZ,bI,c.1,rB,h0,h1]
   ·simp[qA];omega
 ·go_in;go_wp2;go_ret;refine⟨_,Z,⟨?_,by simp[qA]⟩,Z⟩;simp[bI,rB,h0]
namespace P
def dE(k:O):S s×S s :=
 if k==0 then([108,100],[100,118])
 else if k==1 then([115,116],[118,97])
 else if k==2 then([97,116,111,109,46,97,100,100],[100,118,97])
 else if k==3 then([97,116,111,109,46,101,120,99,104],[100,118,97])
 else if k==4 then([102,101,110,99,101],[])
 else if k==5 then([98,97,114,46,115,121,110,99],[])
 else if k==6 then([109,111,118],[100,97])
 else if k==7 then([97,100,100],[100,97,98])
 else if k==8 then([115,117,98],[100,97,98])
 else if k==9 then([115,101,116,101,113],[100,97,98])
 else([98,122],[97,108])
def rU(k:O):z:=k==0||k==1||k==2||k==3||k==4
end P
def Cd(k:O)(w:N):
  I W 131 #[T U k] w λe w'=>∃s t,e=K (.tuple #[.string s,.string t])/\jZ 9 s (dE k).1/\jZ 3 t (dE k).2/\w'=w:=by
 go_in;go_wp2
 all_goals go_ret2
 all_goals refine⟨_,_,Z,⟨?_,by simp[qA]⟩,⟨?_,by simp[qA]⟩,Z⟩
 all_goals simp[dE,bI, *]
def Ce(k:O)(w:N):
  I W 175 #[T U k] w λe w'=>e=K (.bool (k==0||k==1||k==2||k==3))/\w'=w:=by
 go_in;go_wp2
 all_goals go_ret
 all_goals simp[*]
theorem Cf(k:O)(w:N):
  I W 153 #[T U k] w λe w'=>e=K (.bool (rU k))/\w'=w:=by
 cases h1:k==0||k==1||k==2||k==3
 ·go_in;go_wp2_with(first|(go_at_call 175;refine(Ce _ _).mono ?_;rintro e w' ⟨rfl,rfl⟩;rw[h1]));go_ret
  simp_all [rU]
 ·go_in;go_wp2_with(first|(go_at_call 175;refine(Ce _ _).mono ?_;rintro e w' ⟨rfl,rfl⟩;rw[h1]));go_ret
  simp_all [rU]
namespace P
def acq(o:O):z:=o==2||o==4
def rel(o:O):z:=o==3||o==4
end P
def Qn(k:O)(w:N):
  I W 191 #[T U k] w λe w'=>e=K (.bool (acq k))/\w'=w:=by
 go_in;go_wp2
 all_goals go_ret
 all_goals simp[acq, *]
def Qo(k:O)(w:N):
  I W 190 #[T U k] w λe w'=>e=K (.bool (P.rel k))/\w'=w:=by
 go_in;go_wp2
 all_goals go_ret
 all_goals simp[P.rel, *]
namespace Q
structure Ew where
 j:ι
 block:ι
 Y:ν
 g:σ ι
 made:σ ν
 A:ν
 u:ν
 E:σ Ev
def Ew.start(t b:ι)(u:ν):Ew:=⟨t,b,u,[0,0,0,0],[0,0,0,0],0,0,[]⟩
def Ew.value(m:Ew)(a:ZD):ι:=if a.VX then(if a.n<0\/4<=a.n then 0 else m.g.getD a.n.toNat 0)else a.n
def Ew.Ea(m:Ew)(a:ZD):ν:=if a.VX then(if a.n<0\/4<=a.n then 0 else m.made.getD a.n.toNat 0)else 0
def Ew.aX(m:Ew)(i:ν):ι:=(m.E.getD i Ev.zero).value
def Ew.aO(m:Ew)(d v:ι)(s:ν):Ew:=if d<0\/4<=d then m else{m with g:=m.g.set d.toNat v,made:=m.made.set d.toNat s}
def Ew.bG(m:Ew)(d:ι)(r:ν):Ew:=m.aO d (m.aX r) (cT r)
def Ew.put(m:Ew)(e:Ev):Ew:={m with E:=m.E++[e]}
def Ew.V(m:Ew)(kind:ι)(st:VW):Ev :=
 ⟨kind,m.j,m.block,st.z,0,st.q,st.scope,if kind==3||kind==4 then m.u else 0,(kind==0||kind==1)&&(st.kind==2||st.kind==3),if kind==0||kind==1 then m.A else 0⟩
def Ew.bE(m:Ew)(st:VW):Ew:={m with Y:=m.Y/4,E:=m.E++[{m.V 0 st with value:=(m.Y%4:ν)}]}
def Ew.bX(m:Ew)(st:VW)(v:ι)(s:ν):Ew:=m.put {m.V 1 st with value:=v,h:=m.A|||s}
def Ew.store(m:Ew)(st:VW):Ew:=m.bX st (m.value st.a) (m.Ea st.a)
def Ew.dN(m:Ew)(st:VW):Ew:={m with E:=m.E++[m.V 3 st,m.V 4 st],u:=m.u+1}
def Ew.step(m:Ew)(st:VW):Ew :=
 (if st.kind==2 then(m.bE st).bX st ((m.value st.a+(m.bE st).aX m.E.length)%4) (m.Ea st.a|||cT (m.E.length:ν))else(m.bE st).bX st (m.value st.a) (m.Ea st.a)).bG st.dest m.E.length
def Ew.bL(m:Ew)(st:VW):ι :=
 if st.kind==7 then(m.value st.a+m.value st.b)%4 else if st.kind==8 then(m.value st.a+4-m.value st.b)%4 else if st.kind==9 then(if m.value st.a==m.value st.b then 1 else 0)else m.value st.a
def Ew.bU(m:Ew)(st:VW):Ew :=
 if st.kind==0 then(m.bE st).bG st.dest m.E.length
 else if st.kind==1 then m.store st
 else if st.kind==2||st.kind==3 then m.step st
 else if st.kind==4 then m.put (m.V 2 st)
 else if st.kind==5 then m.dN st
 else if st.kind==6||st.kind==7||st.kind==8||st.kind==9 then m.aO st.dest (m.bL st) (m.Ea st.a|||m.Ea st.b)
 else m
def Ew.cM(m:Ew)(st:VW):Ew:={m with A:=m.A|||m.Ea st.a}
def aN(p:Ew×Y)(st:VW):Ew×Y :=
 if p.2==0 then if st.kind==10 then(p.1.cM st,if p.1.value st.a==0 then 1 else 0)else(p.1.bU st,0)
 else if st.kind==10 then(p.1,p.2+1)else if st.kind==11 then(p.1,p.2-1)else p
def uH(m:Ew)(ss:S VW):Ew:=(ss.foldl aN (m,0)).1
structure Run where
 E:σ Ev
 g:σ ι
def Ew.run(m:Ew):Run:=⟨m.E,m.g⟩
def ZO(ss:S VW):Y:=ss.foldl (λc st=>if P.aZ st.kind then c*4 else c) 1
def mT(t:VZ)(i:Y)(lB:Y):Ew:=uH (Ew.start i t.block lB) t.S
def jG(t:VZ)(i:Y)(k:Y):S Run:=((x2 k).filter λc=>(mT t i c).Y==0).map λc=>(mT t i c).run
def iS(t:VZ)(i:Y):S Run:=jG t i (ZO t.S)
def fV(i:Y):S VZ->S (S Run)
 |[]=>[]
 |t::ts=>iS t i::fV (i+1) ts
def WL(ts:S VZ):S (S Run):=fV 0 ts
structure Wd where
 E:σ Ev
 g:σ ι
def ZM(n:Y)(e:Ev):Ev:={e with h:=ZL e.h n}
def Wd.join(w:Wd)(r:Run):Wd:=⟨w.E++r.E.map (ZM w.E.length),w.g++r.g⟩
def YN(v:O):Ev:=⟨1, -1,0,v,0,0,0,0,false,0⟩
def ZB:S Ev:=[YN 0,YN 1,YN 2]
def jK:Wd->S (S Run)->S O->Wd
 |w,rs::rest,d::ds=>jK (if h:d.toNat<rs.length then w.join rs[d.toNat]else w) rest ds
 |w,_,_=>w
def XV(rss:S (S Run))(ds:S O):Wd:=jK ⟨ZB,[]⟩ rss ds
def XH:S O->S (S O)
 |[]=>[[]]
 |b::bs=>(XH bs).flatMap λr=>(x2 b.toNat).map λd:Y=>(d:O)::r
def ev(es:S Ev)(i:Y):Ev:=es.getD i Ev.zero
def dX(es:S Ev)(i k:Y):z:=(ev es k).kind==1&&(ev es k).z==(ev es i).z&&(ev es k).value==(ev es i).value&&!((ev es i).step&&k==i+1)
def pI(es:S Ev)(i:Y):S O:=if(ev es i).kind==0 then((x2 es.length).filter (dX es i)).map λk:Y=>(k:O)else[-1]
def WC(es:S Ev):S (S O):=(x2 es.length).map (pI es)
def YO(cs:S (S O)):S O:=cs.map λc=>(c.length:O)
def YT(cs:S (S O))(ds:S O):S O:=(x2 cs.length).map λi=>(cs.getD i []).getD (ds.getD i 0).toNat (-1)
def WQ(es:S Ev):S O:=es.map λe=>if e.kind==1 then e.z else -1
def XD(es:S Ev):S O:=es.map λe=>if WZ e then 0 else -1
def lY(es:S Ev)(rs:S O)(i k:Y):z:=rs.getD i (-1) != -1&&rs.getD k (-1)==rs.getD i (-1)&&(ev es k).j != -1
def nW(es:S Ev)(rs:S O)(i:Y):O:=1+(((x2 i).filter (lY es rs i)).length:Y)
def XR(es:S Ev)(rs:S O):S O:=(x2 rs.length).map (nW es rs)
def nV(rs:S O)(i:Y):O:=(((x2 i).filter λk=>rs.getD k (-1)==rs.getD i (-1)).length:Y)
def rI(rs:S O)(i:Y)(p:S O)(k:Y):S O:=if rs.getD k (-1)==rs.getD i (-1)&&decide (p.getD i 0<=p.getD k 0)then p.set k (p.getD k 0+1)else p
def jA(rs ds:S O)(p:S O)(i:Y):S O:=if rs.getD i (-1) == -1 then p.set i (-1)else(x2 i).foldl (rI rs i) (p.set i (nV rs i-ds.getD i 0))
def WT(rs ds:S O):S O:=(x2 rs.length).foldl (jA rs ds) (List.replicate rs.length 0)
def qP(v:O)(ps:S O)(es:S Ev)(a:O×O)(i:Y):O×O:=if(ev es i).kind==1&&(ev es i).z==v&&decide (a.2<ps.getD i 0)then((ev es i).value,ps.getD i 0)else a
def oH(es:S Ev)(v:O)(ps:S O):O:=((x2 es.length).foldl (qP v ps es) (0, -1)).1
def mY(w:Wd)(ps:S O):S O:=w.g++[oH w.E 0 ps,oH w.E 1 ps,oH w.E 2 ps]
def cmp:S O->S O->O
 |[],b=>- (b.length:O)
 |_::_,[]=>1
 |a::x,b::y=>if a != b then a-b else cmp x y
def eI:S (S O)->S O->S (S O)
 |[],r=>[r]
 |x::xs,r=>if cmp x r<0 then x::eI xs r else if cmp x r==0 then x::xs else r::x::xs
structure Ex where
 E:σ Ev
 C:σ ν
 G:σ ν
 J:σ ν
 N:σ ν
 y:σ ν
 h:σ ν
 L:σ ν
 sends:σ ν
 M:σ ν
def oK(c:z)(r:S Y)(i k:Y):S Y:=if c then dW r (i:O) (k:O)else r
def isRow(i:Y)(a:Ev)(k:Y)(b:Ev):z:=ZJ i a k b&&ZA a&&ZA b&&a.z==b.z
def Ai(i:Y)(a:Ev)(k:Y)(b:Ev):z:=i != k&&aJ a b
def An(i:Y)(a:Ev)(k:Y)(b:Ev):z:=i != k&&aJ a b&&WZ a&&WZ b
def Aj(i:Y)(a:Ev)(k:Y):z:=a.kind==1&&a.step&&k+1==i
def Ak(i:Y)(a:Ev)(k:Y)(b:Ev):z:=i==k&&(a.kind==1&&P.rel a.q)||ZJ i a k b&&a.kind==2&&b.kind==1
def Al(i:Y)(a:Ev)(k:Y)(b:Ev):z:=i==k&&(a.kind==0&&acq a.q)||ZJ i a k b&&a.kind==0&&b.kind==2
def Ex.jJ(f:Ex)(i:ν)(a:Ev)(k:ν)(b:Ev):Ex :=
 {f with C:=oK (ZJ i a k b) f.C i k,y:=oK (isRow i a k b) f.y i k,G:=oK (Ai i a k b) f.G i k,N:=oK (An i a k b) f.N i k,J:=oK (Ag a b) f.J i k,h:=oK (YF a.h (k:ν)) f.h i k,L:=oK (Aj i a k) f.L i k,sends:=oK (Ak i a k b) f.sends i k,M:=oK (Al i a k b) f.M i k}
def Ex.new(es:σ Ev):Ex:=⟨es,WY es.length,WY es.length,WY es.length,WY es.length,WY es.length,WY es.length,WY es.length,WY es.length,WY es.length⟩
def vF(es:S Ev)(f:Ex)(i:Y):Ex:=(x2 es.length).foldl (λf k=>f.jJ i (ev es i) k (ev es k)) f
def WG(es:S Ev):Ex:=(x2 es.length).foldl (vF es) (Ex.new es)
def Ex.D(f:Ex)(rs:σ ι):σ ν:=(x2 rs.length).foldl (λ(r:σ ν) (i:ν)=>dW r (i:ι) (rs.getD i (-1))) (WY f.E.length)
def Ex.hangsOn(f:Ex)(rd:σ ν):φ:=CK (dY f.h rd)
def Ex.bQ(f:Ex)(rd:σ ν):σ ν:=lR rd f.G
def Ex.aL(f:Ex)(rd:σ ν):σ ν:=dY (f.bQ rd) (YB (oM (YB (f.bQ rd) f.L)) (f.bQ rd))
def FE(es:S Ev)(aL:S Y)(r:Y)(h:S Y)(w:Y):S Y:=if cD aL r w&&(ev es r).q != 0&&(ev es w).q != 0 then dW h w r else h
def xD(es:S Ev)(aL:S Y)(h:S Y)(r:Y):S Y:=(x2 es.length).foldl (FE es aL r) h
def eS(es:S Ev)(aL:S Y):S Y:=(x2 es.length).foldl (xD es aL) (WY es.length)
def Ex.bZ(f:Ex)(aL:σ ν):σ ν:=lR (YB (YB f.sends (eS f.E aL)) f.M) f.G
def ZQ(es:S Ev)(ps:S O)(i k:Y):z:=(ev es i).kind==1&&(ev es k).kind==1&&(ev es i).z==(ev es k).z&&decide (ps.getD i 0<ps.getD k 0)
def JM(es:S Ev)(ps:S O)(i:Y)(b:S Y)(k:Y):S Y:=oK (ZQ es ps i k) b i k
def DN(es:S Ev)(ps:S O)(b:S Y)(i:Y):S Y:=(x2 es.length).foldl (JM es ps i) b
def YP(es:S Ev)(ps:S O):S Y:=(x2 es.length).foldl (DN es ps) (WY es.length)
def GX(f:S Y)(ps:S O)(i:Y)(b:S Y)(k:Y):S Y:=oK (cD f i k&&decide (ps.getD i 0<ps.getD k 0)) b i k
def vW(f:S Y)(ps:S O)(b:S Y)(i:Y):S Y:=(x2 ps.length).foldl (GX f ps i) b
def Ex.Eb(f:Ex)(ps:σ ι):σ ν:=(x2 ps.length).foldl (vW f.N ps) (WY f.E.length)
def VP(rd bh ms:S Y):S Y:=dY (dY (qM rd) bh) ms
def Ex.mA(f:Ex)(ms bh:σ ν):φ:=cJ (YB (YB f.L ms) bh)
def Ex.cH(f:Ex)(i:ν)(a:Ev)(k:ν)(b:Ev):φ:=a.kind==1&&i != k&&!cD f.G i k&&a.z==b.z&&ZA b
def Ex.dD(f:Ex)(bf:σ ν)(i k:ν):φ:=f.cH i (ev f.E i) k (ev f.E k)&&!cD bf i k&&!cD bf k i
def Ex.bP(f:Ex)(bf:σ ν):φ:=(x2 f.E.length).any λi=>(x2 f.E.length).any λk=>f.dD bf i k
structure XU where
 y:σ (σ ι)
 clash:φ
structure Cand where
 wd:Wd
 F:Ex
 D:σ ν
def GG(w:Wd)(f:Ex):S Cand :=
 ((XH (YO (WC w.E))).map λds=>Cand.mk w f (f.D (YT (WC w.E) ds))).filter λc=>!c.F.hangsOn c.D
def DH(ts:S VZ):S Cand:=(XH ((WL ts).map λr=>(r.length:O))).flatMap λds=>GG (XV (WL ts) ds) (WG (XV (WL ts) ds).E)
def NV(aQ cQ:S Y):S Y:=oM (dY (dY cQ (YB cQ aQ)) (YB aQ (dY cQ (YB cQ aQ))))
def Ex.cause(f:Ex)(aL cQ:σ ν):σ ν:=dY (dY (NV f.C cQ) f.C) (YB (qM aL) (NV f.C cQ))
def Ah(rd cause fences:S Y):z:=if cJ cause||cJ (YB fences cause)then false else !xV (lR rd cause)
def Ex.XJ(f:Ex)(rd bh ms:σ ν):φ:=if f.mA ms bh then false else !CK (dY f.y (lR (VP rd bh ms) f.G))
def Ab(cause bh ms:S Y):z:=!cJ (YB (dY bh ms) cause)
def Ex.cQ(f:Ex)(rd:σ ν):σ ν:=dY (f.bZ (f.aL rd)) f.J
def Ex.WE(f:Ex)(rd:σ ν)(w:Wd)(ds:σ ι):σ ν:=f.cause (f.aL rd) (dY (f.cQ rd) (f.Eb (WT (XD w.E) ds)))
def Ex.cF(f:Ex)(rd:σ ν)(w:Wd):σ (σ ν):=
 ((XH (XR w.E (XD w.E))).filter λds=>Ah rd (f.WE rd w ds) (f.Eb (WT (XD w.E) ds))).map (f.WE rd w)
def qL(o:S O)(f:Ex)(bh ms:S Y)(a:XU)(cause:S Y):XU:=if Ab cause bh ms then⟨eI a.y o,if a.clash then true else f.bP cause⟩else a
def qB(w:Wd)(f:Ex)(rd:S Y)(cs:S (S Y))(a:XU)(ds:S O):XU :=
 if f.XJ rd (YP f.E (WT (WQ w.E) ds)) (YB rd (YP f.E (WT (WQ w.E) ds)))then
  cs.foldl (qL (mY w (WT (WQ w.E) ds)) f (YP f.E (WT (WQ w.E) ds)) (YB rd (YP f.E (WT (WQ w.E) ds)))) a
 else a
def vB(w:Wd)(f:Ex)(rd:S Y)(cs:S (S Y))(a:XU):XU:=(XH (XR w.E (WQ w.E))).foldl (qB w f rd cs) a
def mS(a:XU)(c:Cand):XU:=if(c.F.cF c.D c.wd).isEmpty then a else vB c.wd c.F c.D (c.F.cF c.D c.wd) a
def eU(ts:S VZ):XU:=(DH ts).foldl mS ⟨[],false⟩
end Q
