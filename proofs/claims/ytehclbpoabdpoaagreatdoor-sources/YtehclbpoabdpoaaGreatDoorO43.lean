import Derived.Test.YtehclbpoabdpoaaGreatDoorO38
set_option linter.all false
set_option maxHeartbeats 0
namespace Go.Proofs.YtehclbpoabdpoaaGreatDoor
open Go Go.RowKit Go.Proofs.Tryz P Q R
open scoped Classical
set_option maxRecDepth 1000000
variable {l:List Tree}{a:Act}{B gh gl gr i o r z:Nat}{v xa:Int}{s:J.PS}{w:World}{bv dv hv lv wv:Value}{hvs ons:List Value}{D:Nat->Prop}{N:Act->World->Prop}
open List renaming length->Y
open List renaming length_append->xF,length_singleton->xW,getD_eq_getElem?_getD->x1,getElem?_set->x2,dropLast_cons_cons->x3,dropLast_singleton->x4,length_cons->x5,length_nil->x6,setIfInBounds_toArray->x7,set_cons_zero->x8,set_cons_succ->x9
open Nat renaming reduceAdd->xR
namespace J
def doL(s:PS):List Tree->PS
 |[]=>s
 |⟨x,b⟩::r=>doL (if x.op.toList==oIf then(if s.val x.a==0 then s.bY x else doL (s.bY x) b)else s.step x) r
def dX(s:PS)(t:Tree):PS:=if t.x.op.toList==oIf then(if s.val t.x.a==0 then s.bY t.x else doL (s.bY t.x) t.body)else s.step t.x
def bH(s:PS):doL s []=s:=by simp only[doL]
def lL(s:PS)(t:Tree)(r:List Tree):doL s (t::r)=doL (dX s t) r:=by cases t;simp only[doL,dX]
def Uz(s:PS)(l r:List Tree):doL s (l++r)=doL (doL s l) r:=by
 induction l generalizing s with
 |nil=>simp only[List.nil_append,bH]
 |cons t l ih=>simp only[List.cons_append,lL,ih]
def pD(s:PS)(l:List Tree)(k:Nat)(h:k<Y l):doL s (l.take (k+1))=dX (doL s (l.take k)) l[k]:=by
 rw[List.take_succ_eq_append_getElem h,Uz,lL,bH]
structure Fit(x:Lh):Prop where
 r:x.op.toList=oLoad\/x.op.toList=oAdd\/x.op.toList=oSwap\/x.op.toList=oSet->0<=x.MW/\x.MW<4
 a0:-4<=x.a
 a1:x.a<4
 b0:-4<=x.b
 b1:x.b<4
 op:x.op.toList=oLoad\/x.op.toList=oAdd\/x.op.toList=oSwap\/x.op.toList=oStore\/x.op.toList=oFence\/x.op.toList=oBar\/x.op.toList=oSet\/x.op.toList=oIf
def fitL:List Tree->Prop
 |[]=>True
 |⟨x,b⟩::r=>(Fit x/\fitL b)/\fitL r
def LF(t:Tree):Prop:=Fit t.x/\fitL t.body
def IZ:fitL []=True:=by simp only[fitL]
def tU(t:Tree)(r:List Tree):fitL (t::r)=(LF t/\fitL r):=by cases t;simp only[fitL,LF]
def pC(h:fitL l)(k:Nat)(b:k<Y l):LF l[k]:=by
 induction l generalizing k with
 |nil=>simp at b
 |cons t r ih =>
  rw[tU]at h
  cases k with
  |zero=>exact h.1
  |succ k=>exact ih h.2 k (by simpa using b)
def nO(h:fitL l)(k:Nat):fitL (l.take k):=by
 induction l generalizing k with
 |nil=>simpa using h
 |cons t r ih =>
  rw[tU]at h
  cases k with
  |zero=>rw[List.take_zero,IZ];trivial
  |succ k=>rw[List.take_succ_cons,tU];exact⟨h.1,ih h.2 k⟩
structure Bnd(n:Nat)(s:PS):Prop where
 e:Y s.e<=2*n
 r0:0<=s.round
 r1:s.round<=n
 rl:Y s.g=4
 rg:∀i,0<=s.g.getD i 0/\s.g.getD i 0<4
 hl:Y s.hang=4
 hg:∀i,(s.hang.getD i []).length<=2^n
 wy:Y s.way<=2^n
 rd:∀v∈s.D,0<=v/\v<4
 rn:Y s.D<1000
section
variable {n:Nat}{s:PS}{x:R.Lh}
def wX(n:Nat):2^(n+1)=2*2^n:=by rw[Nat.pow_succ];omega
def Bnd.up(h:Bnd n s):Bnd (n+1) s:=by
 have:=wX n;exact⟨by have:=h.e;omega,h.r0,by have:=h.r1;omega,h.rl,h.rg,h.hl,fun i=>by have:=h.hg i;omega,by have:=h.wy;omega,h.rd,h.rn⟩
def Bnd.val(h:Bnd n s){a:Int}(b:-4<=a)(c:a<4):0<=s.val a/\s.val a<4:=by
 unfold PS.val
 split
 ·exact h.rg _
 ·omega
def Bnd.aH(h:Bnd n s)(a:Int):(s.aH a).length<=2^n:=by
 unfold PS.aH
 split
 ·exact h.hg _
 ·simp
def Bnd.head(h:Bnd n s):0<=s.D.headD 0/\s.D.headD 0<4:=by
 cases e:s.D with
 |nil=>simp
 |cons v r=>exact h.rd v (by rw[e];simp)
def U0{l:List Int}:(l.set r v).getD i 0=if r=i/\r<Y l then v else l.getD i 0:=by
 simp only[x1,x2]
 split<;>(try split)<;>simp_all<;>(intro h;exfalso;omega)
def DQ{l:List (List Int)}{v:List Int}:(l.set r v).getD i []=if r=i/\r<Y l then v else l.getD i []:=by
 simp only[x1,x2]
 split<;>(try split)<;>simp_all<;>(intro h;exfalso;omega)
def Bnd.aJ(h:Bnd n s){r:Int}{l:List Int}(hv:0<=v/\v<4)(b:Y l<=2^n):Bnd n (s.aJ r v l):=by
 refine⟨h.e,h.r0,h.r1,by simp[PS.aJ,h.rl],fun i=>?_,by simp[PS.aJ,h.hl],fun i=>?_,h.wy,h.rd,h.rn⟩
 ·simp only[PS.aJ];rw[U0];split
  ·exact hv
  ·exact h.rg i
 ·simp only[PS.aJ];rw[DQ];split
  ·exact b
  ·exact h.hg i
def Bnd.put(h:Bnd n s){l:List E}(b:Y l<=2):Bnd (n+1) (s.put l):=by
 have:=wX n;exact⟨by have:=h.e;simp only[PS.put,xF];omega,h.r0,by have:=h.r1;simp only[PS.put];omega,h.rl,h.rg,h.hl,fun i=>by have:=h.hg i;simp only[PS.put];omega,by have:=h.wy;simp only[PS.put];omega,h.rd,h.rn⟩
def Bnd.take(h:Bnd n s):Bnd n s.take:=⟨h.e,h.r0,h.r1,h.rl,h.rg,h.hl,h.hg,h.wy,fun v hv=>h.rd v (List.mem_of_mem_tail hv),by have:=h.rn;simp only[J.PS.take,List.length_tail];omega⟩
def Bnd.bY(h:Bnd n s):Bnd (n+1) (s.bY x):=by
 have:=wX n;have k:=h.aH x.a;exact⟨by have:=h.e;simp only[PS.bY];omega,h.r0,by have:=h.r1;simp only[PS.bY];omega,h.rl,h.rg,h.hl,fun i=>by have:=h.hg i;simp only[PS.bY];omega,by have:=h.wy;simp only[PS.bY,xF];omega,h.rd,h.rn⟩
def KX(n:Nat):1<=2^n:=Nat.one_le_two_pow
def Bnd.step(h:Bnd n s)(d:Fit x):Bnd (n+1) (s.step x):=by
 have p:=wX n;have f:=h.head;have k:=h.aH x.a;have m:=h.aH x.b;have j:=h.val d.a0 d.a1;have t:=h.val d.b0 d.b1;have q:=KX n;unfold PS.step
 split
 ·exact(h.take.put (l:=[_]) (by simp)).aJ f (by simp only[xW];omega)
 split
 ·exact(h.take.put (l:=[_,_]) (by simp)).aJ f (by simp only[xW];omega)
 split
 ·exact(h.take.put (l:=[_,_]) (by simp)).aJ f (by simp only[xW];omega)
 split
 ·exact h.put (by simp)
 split
 ·exact h.put (by simp)
 split
 ·have:=h.put (l:=[aE s.round,lE s.round]) (by simp);exact⟨this.e,by have:=h.r0;simp only;omega,by have:=h.r1;simp only;omega,this.rl,this.rg,this.hl,this.hg,this.wy,this.rd,this.rn⟩
 split
 ·have c:∀v l,0<=v/\v<4->Y l<=2^(n+1)->Bnd (n+1) (s.aJ x.MW v l):=fun v l hv g=>h.up.aJ hv g
  unfold PS.set
  split
  ·exact c _ _ (by omega) (by rw[xF];omega)
  split
  ·exact c _ _ (by omega) (by rw[xF];omega)
  split
  ·exact c _ _ (by split<;>omega) (by rw[xF];omega)
  split
  ·exact c _ _ j (by omega)
  ·exact c _ _ j (by rw[xF];omega)
 ·exact h.up
end
def Bnd.mono{n m:Nat}{s:PS}(h:Bnd n s)(b:n<=m):Bnd m s:=by
 induction b with
 |refl=>exact h
 |step _ ih=>exact ih.up
def eV(l:List Tree):∀(s:PS) (n:Nat),Bnd n s->fitL l->Bnd (n+(OA l).toNat) (doL s l):=by
 induction l using NL.induct with
 |case1=>intro s n h _;rw[bH];exact h.mono (by omega)
 |case2 x b r h1 h2 =>
  intro s n h c;rw[tU]at c;have f:=(gK (fun _=>true) b).1;have g:=(gK (fun _=>true) r).1;have e:OA (⟨x,b⟩::r)=1+OA b+OA r:=by unfold OA;rw[jA];simp[iM]
  rw[lL,e];have d:Bnd (n+(1+(OA b).toNat)) (dX s ⟨x,b⟩):=by
   unfold dX
   split
   ·split
    ·exact h.bY.mono (by omega)
    ·have:=h1 (s.bY x) (n+1) h.bY c.1.2;exact this.mono (by omega)
   ·exact(h.step c.1.1).mono (by omega)
  refine(h2 _ _ d c.2).mono ?_;unfold OA at*;omega
end J
def U1{x:Lh}{ev:Value}{Q:Exit->Act->World->Prop}(T:lG Q)(h:PM w B z s ev dv wv gr gh ons hvs D)(m:LnC w gl o x bv)(V:DFr a z lv i gl o xa hv x.op)(hs:Y s.e<1000)(M:B<=w.heap.size)(k:gl<B)(p:sK w B z lv i (s.put [J.fE x]) N):
  NG prog ((aF f75).drop 0) (Exit.then N Q) a w:=by
 have K:=MS (SC.of h m);obtain⟨⟨F,n,t,u,y⟩,A,C,E,c⟩:=V;have H:=MS h;have I:=MS m;have G:=MS p;clear h m p;rw[OQ F n];simp only[List.range,List.range.loop,List.map_cons,List.map_nil,t,u,y,A,C,E,c];generalize gA a=f;clear t u y A C E c F n;refine MX 0 Sv Z fun X d=>?_
 conv=>arg 2;whnf
 refine Pop.aQ (S:=SC z gl o ev wv s.round x) (by kernel_rfl) _ Z (by kernel_rfl) K.o fun b=>?_;simp only[x3,x4,x5,x6,xR,Pop.qU]
 iterate 14
  refine Pop.tk Z (by kernel_rfl) (fun _ _ _ h=>T _ _ _ _ _ h) Z fun w j=>by dsimp only[SC]at j;go_simp;with_reducible rfl b ?_;simp only[Act.put,x7,x8,x9,xR]
 refine Pop.bW Z (by kernel_rfl) Z ?_;go_simp;refine AG H.o I.o k M hs [J.fE x] [.slice none 0 0] Z (by simp) (by simp) (by simp;rfl) (fun i q=>?_) Z Z Z (by kernel_rfl) ⟨Z,Z,Z⟩ ⟨Z,Z,Z⟩ ⟨Z,Z,Z⟩ ⟨Z,Z,Z⟩ Z (by decide) Z Z Z fun g L w5 W _ O U=>?_
 ·simp at q;subst q;exact OP.nil _ _
 ·refine d.o _ _ ?_;show N _ _;exact G.o _ _ _ _ _ _ _ _ _ _ ⟨Z,Z,Z,Z,Z⟩ O U
def U2{x:Lh}{ev:Value}{Q:Exit->Act->World->Prop}(hQ:lG Q)(h:PM w B z s ev dv wv gr gh ons hvs D)(hl:LnC w gl o x bv)(hf:DFr a z lv i gl o xa hv x.op)(hs:Y s.e<1000)(hB:B<=w.heap.size)(G:gl<B)(q:OP w D hv (s.aH x.a))(L:xa=s.val x.a)(I:(s.aH x.a).length+Y s.way<10000000000000)(W:sK w B z lv i (s.put [J.wE x (s.val x.a) false (s.aH x.a++s.way)]) N):
  NG prog ((aS f75).drop 0) (Exit.then N Q) a w:=by
 have u:=MS q;subst L;have c3:=h.blk.cell (i:=3) (v:=wv) Z;clear q;obtain⟨⟨sz,V,s0,s1,s4⟩,s5,s6,s7,t⟩:=hf;have H:=MS h;have HL:=MS hl;have C:=MS W;clear h hl W;rw[OQ sz V];simp only[List.range,List.range.loop,List.map_cons,List.map_nil,s0,s1,s4,s5,s6,s7,t];generalize gA a=f;clear s0 s1 s4 s5 s6 s7 t sz V;refine MX 0 A8 Z fun K U=>?_
 conv=>arg 2;whnf
 go_wp2_with(first|(go_at_call 76;refine(xO hv wv (s.aH x.a) s.way _ (u.of fun _ _ e=>e.elim) (H.wr.of fun _ _ e=>e.elim) I).mono ?_;rintro e w1 ⟨T,rfl,b,c,p⟩;obtain⟨M,on,O,rfl⟩:∃M on O,T=Value.slice M on O:=(by obtain⟨y1,y2,y3⟩:=RL b;exact⟨y1,_,y2,y3⟩);have m:=MS (b.mL (D:=D) (fun y hy=>H.low y hy) c);have d:=MS p;clear b c p));refine U.o _ _ ?_;clear U;have n:=MS (H.X d.o);have k:=MS (HL.x (JX.of (P:=fun _=>False) d.o) fun e=>e);have E:B<=w1.heap.size:=Nat.le_trans hB d.size;have HS:=MS (SC.of n.o k.o);clear c3;refine MX 1 A8 Z fun K1 A=>?_
 conv=>arg 2;whnf
 refine Pop.aQ (S:=SC z gl o ev wv s.round x) (by kernel_rfl) _ Z (by kernel_rfl) HS.o fun j=>?_;simp only[x3,x4,x5,x6,xR,Pop.qU]
 iterate 20
  refine Pop.tk Z (by kernel_rfl) (fun _ _ _ h=>hQ _ _ _ _ _ h) Z fun w F=>by dsimp only[SC]at F;go_simp;with_reducible rfl j ?_;simp only[Act.put,x7,x8,x9,xR]
 refine Pop.bW Z (by kernel_rfl) Z ?_;go_simp;refine AG n.o k.o G E hs [J.wE x (s.val x.a) false (s.aH x.a++s.way)] [.slice M on O] Z (by simp) (by simp) (by simpa using m.bW) (fun i hi=>?_) Z Z Z (by kernel_rfl) ⟨Z,Z,Z⟩ ⟨Z,Z,Z⟩ ⟨Z,Z,Z⟩ ⟨Z,Z,Z⟩ Z (by decide) Z Z Z fun g aa w5 D' _ hP hX=>?_
 ·simp at hi;subst hi;exact m.o
 ·refine A.o _ _ ?_;show N _ _;exact C.o _ _ _ _ _ _ _ _ _ _ ⟨Z,Z,Z,Z,Z⟩ hP ((JX.of d.o).trans hX fun _ _ e=>e)
