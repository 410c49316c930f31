import Derived.Test.YtlikcongbhhpfaaGreatDoorM39
set_option linter.unusedVariables false
set_option linter.unusedSimpArgs false
set_option maxHeartbeats 12800000
namespace Go.Proofs.YtlikcongbhhpfaaGreatDoor
open Go Go.RowKit Go.Proofs.Tryz P Q
set_option maxRecDepth 1000000
variable {a b i k n s:Nat}{m:Ex}{fs:List Ev}{e:Ev}{th:Int}{st:JR}{t:JV}{r:Run}{fb:Nat->Nat->Prop}{rs:List Int}
open List renaming length->I
open Bool renaming true->O
open Bool renaming and_eq_true->xF,or_eq_true->x2
open List renaming range->xR,getD_eq_getElem?_getD->x0,getElem_mem->x1,length_append->x3,mem_singleton->x4,mem_cons->x5,not_mem_nil->x6,append_assoc->x9,foldl_cons->xa,mem_cons_of_mem->xb
open Or renaming inl->xW
open Nat renaming lt_trans->x7,le_refl->x8
namespace Q
theorem rC(s k:Nat):OG s (k:Int)=O↔k<64/\s.testBit k=O:=by
 by_cases h:k<64
 ·rw[VO s k h];simp[h]
 ·unfold OG one;rw[if_pos (by omega)];simp[h]
theorem Si(a b k:Nat):OG (a|||b) (k:Int)=O↔OG a (k:Int)=O\/OG b (k:Int)=O:=by
 rw[rC,rC,rC,Nat.testBit_or,x2];constructor
 ·rintro⟨h,c|c⟩
  ·exact xW ⟨h,c⟩
  ·exact Or.inr ⟨h,c⟩
 ·rintro(⟨h,c⟩|⟨h,c⟩)
  ·exact⟨h,xW c⟩
  ·exact⟨h,Or.inr c⟩
theorem QL(k:Nat):OG 0 (k:Int)=false:=by
 cases h:OG 0 (k:Int)
 ·rfl
 ·have:=((rC 0 k).1 h).2;simp at this
theorem Sj(n k:Nat):OG (one (n:Int)) (k:Int)=O↔n<64/\k=n:=by
 rw[rC];by_cases h:n<64
 ·rw[VN n k h,decide_eq_true_eq];constructor
  ·rintro⟨_,rfl⟩;exact⟨h,Z⟩
  ·rintro⟨_,rfl⟩;exact⟨h,Z⟩
 ·have:one (n:Int)=0:=by unfold one;rw[if_pos (by omega)]
  rw[this];simp[h]
theorem RP(s n k:Nat)(g:n<64):OG (OT s (n:Int)) (k:Int)=O↔k<64/\n<=k/\OG s ((k-n:Nat):Int)=O:=by
 rw[rC,rC];unfold OT;rw[if_neg (by omega),Int.toNat_natCast,show(18446744073709551616:Nat)=2^64 by decide,Nat.testBit_mod_two_pow,Nat.testBit_mul_two_pow];simp only[xF,decide_eq_true_eq];constructor
 ·rintro⟨h,f,c,d⟩;exact⟨h,c,by omega,d⟩
 ·rintro⟨h,c,_,d⟩;exact⟨h,h,c,d⟩
def HB(n s:Nat):Prop:=∀k:Nat,OG s (k:Int)=O->k<n
theorem HB.mono{m:Nat}(h:HB n s)(e:n<=m):HB m s:=fun k c=>by have:=h k c;omega
theorem HB.or(h:HB n a)(k:HB n b):HB n (a|||b):=fun j c=>by
 rcases(Si a b j).1 c with e|e
 ·exact h j e
 ·exact k j e
theorem PJ(n:Nat):HB n 0:=fun k c=>by rw[QL]at c;cases c
theorem wY(n:Nat):HB (n+1) (one (n:Int)):=fun k c=>by have:=((Sj n k).1 c).2;omega
def SR(es:List Ev):Prop:=∀i,(ev es i).k=0->(ev es i).step=O->(ev es (i+1)).k=1/\(ev es (i+1)).step=O
theorem RQ{es:List Ev}(h:SR es)(k:SR fs):SR (es++fs):=fun i d s0=>by
 rw[PF]at d s0⊢;by_cases c:i<I es
 ·rw[if_pos c]at d s0;obtain⟨a,b⟩:=h i d s0;have:i+1<I es:=by
   by_cases c2:i+1<I es
   ·exact c2
   ·rw[PI _ _ (by omega)]at a;simp[Ev.zero]at a
  rw[if_pos this];exact⟨a,b⟩
 ·rw[if_neg c]at d s0;rw[if_neg (by omega),show i+1-I es=i-I es+1 by omega];exact k _ d s0
theorem xB(h:¬(e.k=0/\e.step=O)):SR [e]:=fun i c s0=>by
 cases i with
 |zero=>exact absurd ⟨c,s0⟩ h
 |succ n=>rw[PI _ _ (by simp)]at s0;simp[Ev.zero]at s0
theorem Cf{a b:Ev}(h:b.k=1/\b.step=O):SR [a,b]:=fun i c s0=>by
 cases i with
 |zero=>exact h
 |succ n =>
  cases n with
  |zero=>rw[show ev [a,b] (0+1)=b from rfl,h.1]at c;simp at c
  |succ n=>rw[PI _ _ (by simp)]at s0;simp[Ev.zero]at s0
theorem Sl:SR []:=fun i _ s0=>by rw[PI _ _ (by simp)]at s0;simp[Ev.zero]at s0
def SW(es:List Ev):Prop:=∀i,(ev es i).k=1->(ev es i).step=O->0<i/\(ev es (i-1)).k=0/\(ev es (i-1)).step=O
theorem RT{es:List Ev}(h:SW es)(k:SW fs):SW (es++fs):=fun i d s0=>by
 rw[PF]at d s0⊢;by_cases c:i<I es
 ·rw[if_pos c]at d s0;obtain⟨a,b⟩:=h i d s0;rw[if_pos (by omega)];exact⟨a,b⟩
 ·rw[if_neg c]at d s0;obtain⟨a,b⟩:=k _ d s0;rw[if_neg (by omega),show i-1-I es=i-I es-1 by omega];exact⟨by omega,b⟩
theorem vE(h:¬(e.k=1/\e.step=O)):SW [e]:=fun i c s0=>by
 cases i with
 |zero=>exact absurd ⟨c,s0⟩ h
 |succ n=>rw[PI _ _ (by simp)]at s0;simp[Ev.zero]at s0
theorem Cg{a b:Ev}(h:a.k=0/\a.step=O):SW [a,b]:=fun i c s0=>by
 cases i with
 |zero=>rw[show ev [a,b] 0=a from rfl,h.1]at c;simp at c
 |succ n =>
  cases n with
  |zero=>exact⟨by omega,h⟩
  |succ n=>rw[PI _ _ (by simp)]at s0;simp[Ev.zero]at s0
theorem Sm:SW []:=fun i _ s0=>by rw[PI _ _ (by simp)]at s0;simp[Ev.zero]at s0
def StV(s:JR):Prop:=s.k=0\/s.k=1\/s.k=2\/s.k=3->0<=s.z/\s.z<3
structure EvIn(n:Nat)(th:Int)(e:Ev):Prop where
 thr:e.j=th
 z:OP e=O->0<=e.z/\e.z<3
 hb:HB n e.h
theorem EvIn.mono{m:Nat}(h:EvIn n th e)(k:n<=m):EvIn m th e:=⟨h.thr,h.z,h.hb.mono k⟩
structure LO(m:Ex):Prop where
 K:∀e∈m.E,EvIn (I m.E) m.j e
 mb:∀j,HB (I m.E) (m.made.getD j 0)
 ab:HB (I m.E) m.A
 sr:SR m.E
 sw:SW m.E
theorem LO.jC{m':Ex}(h:LO m)(L:List Ev)(d:m'.E=m.E++L)(q:m'.j=m.j)(o:m'.made=m.made)(l:m'.A=m.A)(g:∀e∈L,EvIn (I m.E+I L) m.j e)(p:SR L)(u:SW L):LO m':=by
 have f:I m'.E=I m.E+I L:=by rw[d,x3]
 refine⟨fun e c=>?_,fun j=>?_,?_,by rw[d];exact RQ h.sr p,by rw[d];exact RT h.sw u⟩
 ·rw[f,q];rw[d]at c
  rcases List.mem_append.1 c with c|c
  ·exact(h.K e c).mono (by omega)
  ·exact g e c
 ·rw[f,o];exact(h.mb j).mono (by omega)
 ·rw[f,l];exact h.ab.mono (by omega)
theorem Sn(l:List Nat)(i j x:Nat):(l.set i x).getD j 0=x\/(l.set i x).getD j 0=l.getD j 0:=by
 by_cases h:i=j
 ·subst h;by_cases hl:i<I l
  ·left;rw[x0,List.getElem?_set_self hl];rfl
  ·right;rw[List.set_eq_of_length_le (by omega)]
 ·right;rw[x0,List.getElem?_set_ne h,x0]
theorem LO.aZ(h:LO m)(d v:Int)(c:HB (I m.E) s):LO (m.aZ d v s):=by
 unfold Ex.aZ
 split
 ·exact h
 ·refine⟨h.K,fun j=>?_,h.ab,h.sr,h.sw⟩;show HB (I m.E) ((m.made.set d.toNat s).getD j 0)
  rcases Sn m.made d.toNat j s with e|e
  ·rw[e];exact c
  ·rw[e];exact h.mb j
theorem LO.Ea(h:LO m)(a:MR):HB (I m.E) (m.Ea a):=by
 unfold Ex.Ea
 split
 ·split
  ·exact PJ _
  ·exact h.mb _
 ·exact PJ _
theorem tY(k:Int):k=0\/k=1\/k=2\/k=3\/k=4\/k=5\/(k==0)=false/\(k==1)=false/\(k==2)=false/\(k==3)=false/\(k==4)=false/\(k==5)=false:=by
 simp only[beq_eq_false_iff_ne,ne_eq];omega
theorem LO.aW(h:LO m)(l:StV st):LO (m.aW st):=by
 have g:∀n,st.k=0\/st.k=2\/st.k=3->HB n m.A->EvIn n m.j {m.V 0 st with value:=(m.Y%4:Nat)}:=fun n B f=>⟨Z,fun _=>l (by omega),f⟩
 have wr:∀n v (s:Nat),st.k=1\/st.k=2\/st.k=3->HB n m.A->HB n s->EvIn n m.j {m.V 1 st with value:=v,h:=m.A|||s}:=fun n v s B f C=>⟨Z,fun _=>l (by omega),f.or C⟩
 unfold Ex.aW
 rcases tY st.k with e|e|e|e|e|e|⟨o,p,q,u,y,z⟩
 ·rw[e];refine LO.aZ (m:=m.aN st) (LO.jC (m':=m.aN st) h [{m.V 0 st with value:=(m.Y%4:Nat)}] Z Z Z Z (fun x d=>?_) (xB fun c=>?_) (vE fun c=>by have:=c.1;simp[Ex.V]at this)) _ _ ?_
  ·rw[x4]at d;rw[d];exact g _ (xW e) (h.ab.mono (by simp))
  ·have:=c.2;simp[Ex.V,e]at this
  ·show HB (m.E++[_]).length _;rw[x3];exact wY _
 ·rw[e];refine LO.jC h [{m.V 1 st with value:=m.value st.a,h:=m.A|||m.Ea st.a}] Z Z Z Z (fun x d=>?_) (xB fun c=>?_) (vE fun c=>by have:=c.2;simp[Ex.V,e]at this)
  ·rw[x4]at d;rw[d];exact wr _ _ _ (xW e) (h.ab.mono (by simp)) ((h.Ea _).mono (by simp))
  ·have:=c.1;simp[Ex.V]at this
 ·rw[e];show LO (m.step st);unfold Ex.step;rw[e];refine LO.aZ (m:=(m.aN st).write st ((m.value st.a+(m.aN st).aI (I m.E))%4) (m.Ea st.a|||one (I m.E:Nat))) (LO.jC h [{m.V 0 st with value:=(m.Y%4:Nat)},{m.V 1 st with value:=(m.value st.a+(m.aN st).aI (I m.E))%4,h:=m.A|||(m.Ea st.a|||one (I m.E:Nat))}] ?_ Z Z Z (fun x d=>?_) (Cf ⟨Z,by simp[Ex.V,e]⟩) (Cg ⟨Z,by simp[Ex.V,e]⟩)) _ _ ?_
  ·show m.E++[_]++[_]=_;rw[x9];rfl
  ·simp only[x5,x6,or_false]at d
   rcases d with rfl|rfl
   ·exact g _ (by omega) (h.ab.mono (by simp))
   ·exact wr _ _ _ (by omega) (h.ab.mono (by simp)) (((h.Ea _).mono (by simp)).or ((wY _).mono (by simp)))
  ·show HB (m.E++[_]++[_]).length _;refine(wY _).mono ?_;simp
 ·rw[e];show LO (m.step st);unfold Ex.step;rw[e];refine LO.aZ (m:=(m.aN st).write st (m.value st.a) (m.Ea st.a)) (LO.jC h [{m.V 0 st with value:=(m.Y%4:Nat)},{m.V 1 st with value:=m.value st.a,h:=m.A|||m.Ea st.a}] ?_ Z Z Z (fun x d=>?_) (Cf ⟨Z,by simp[Ex.V,e]⟩) (Cg ⟨Z,by simp[Ex.V,e]⟩)) _ _ ?_
  ·show m.E++[_]++[_]=_;rw[x9];rfl
  ·simp only[x5,x6,or_false]at d
   rcases d with rfl|rfl
   ·exact g _ (by omega) (h.ab.mono (by simp))
   ·exact wr _ _ _ (by omega) (h.ab.mono (by simp)) ((h.Ea _).mono (by simp))
  ·show HB (m.E++[_]++[_]).length _;refine(wY _).mono ?_;simp
 ·rw[e];refine LO.jC h [m.V 2 st] Z Z Z Z (fun x d=>?_) (xB fun c=>by have:=c.1;simp[Ex.V]at this) (vE fun c=>by have:=c.1;simp[Ex.V]at this);rw[x4]at d;rw[d];exact⟨Z,fun c=>by simp[OP,Ex.V]at c,PJ _⟩
 ·rw[e];refine LO.jC h [m.V 3 st,m.V 4 st] Z Z Z Z (fun x d=>?_) (RQ (es:=[m.V 3 st]) (xB fun c=>by have:=c.1;simp[Ex.V]at this) (xB fun c=>by have:=c.1;simp[Ex.V]at this)) (RT (es:=[m.V 3 st]) (vE fun c=>by have:=c.1;simp[Ex.V]at this) (vE fun c=>by have:=c.1;simp[Ex.V]at this));simp only[x5,x6,or_false]at d
  rcases d with rfl|rfl
  ·exact⟨Z,fun c=>by simp[OP,Ex.V]at c,PJ _⟩
  ·exact⟨Z,fun c=>by simp[OP,Ex.V]at c,PJ _⟩
 ·rw[o,p,q,u,y,z];simp only[Bool.false_eq_true,if_false,Bool.or_self]
  split
  ·exact h.aZ _ _ ((h.Ea _).or (h.Ea _))
  ·exact h
theorem LO.aGx{p:Ex×Nat}(h:LO p.1)(c:StV st):LO (aG p st).1:=by
 unfold aG
 split
 ·split
  ·exact⟨h.K,h.mb,h.ab.or (h.Ea _),h.sr,h.sw⟩
  ·exact h.aW c
 ·split
  ·exact h
  ·split<;>exact h
theorem Ch:∀(c:List JR) {p:Ex×Nat},(∀s∈c,StV s)->LO p.1->LO (c.foldl aG p).1
 |[],_,_,h=>h
 |s::c,p,hs,h=>by
  rw[xa];exact Ch c (fun x d=>hs x (xb _ d)) (h.aGx (hs s (by simp)))
theorem Ci(t b:Int)(u:Nat):LO (Ex.start t b u):=
 ⟨fun e c=>by simp[Ex.start]at c,fun j=>by
  have:(Ex.start t b u).made.getD j 0=0:=by
   match j with
   |0=>rfl
   |1=>rfl
   |2=>rfl
   |3=>rfl
   |j+4=>rfl
  rw[this];exact PJ _,PJ _,Sl,Sm⟩
theorem So(h:∀s∈t.S,StV s)(i c:Nat):LO (gQ t i c):=Ch _ h (Ci _ _ _)
structure WInv(es:List Ev):Prop where
 len:3<=I es
 fst:∀i:Nat,i<3->ev es i=NG (i:Int)
 rest:∀i,3<=i->i<I es->(ev es i).j≠-1
 z:∀i,i<I es->OP (ev es i)=O->0<=(ev es i).z/\(ev es i).z<3
 hb:∀i,i<I es->HB (I es) (ev es i).h
 hl:∀i,i<I es->∀k:Nat,OG (ev es i).h (k:Int)=O->3<=k
 sr:SR es
 sw:SW es
theorem Cj:WInv MX where
 len:=by decide
 fst i h:=by
  match i,h with
  |0,_=>rfl
  |1,_=>rfl
  |2,_=>rfl
  |n+3,h=>omega
 rest i h k:=by simp[MX]at k;omega
 z i h _:=by
  match i,h with
  |0,_=>decide
  |1,_=>decide
  |2,_=>decide
  |n+3,h=>simp[MX]at h;omega
 hb i h:=by
  match i,h with
  |0,_=>exact PJ _
  |1,_=>exact PJ _
  |2,_=>exact PJ _
  |n+3,h=>simp[MX]at h;omega
 sr i _ s:=by
  match i,s with
  |0,s=>simp[MX,ev,NG]at s
  |1,s=>simp[MX,ev,NG]at s
  |2,s=>simp[MX,ev,NG]at s
  |n+3,s=>rw[PI _ _ (by simp[MX])]at s;simp[Ev.zero]at s
 hl i h k hk:=by
  match i,h with
  |0,_=>rw[show(ev MX 0).h=0 from rfl,QL]at hk;cases hk
  |1,_=>rw[show(ev MX 1).h=0 from rfl,QL]at hk;cases hk
  |2,_=>rw[show(ev MX 2).h=0 from rfl,QL]at hk;cases hk
  |n+3,h=>simp[MX]at h;omega
 sw i _ s:=by
  match i,s with
  |0,s=>simp[MX,ev,NG]at s
  |1,s=>simp[MX,ev,NG]at s
  |2,s=>simp[MX,ev,NG]at s
  |n+3,s=>rw[PI _ _ (by simp[MX])]at s;simp[Ev.zero]at s
theorem Sp{m:Nat}(h:HB m s):HB (n+m) (OT s (n:Int)):=fun k c=>by
 by_cases hn:n<64
 ·obtain⟨_,f,d⟩:=(RP s n k hn).1 c;have:=h _ d;omega
 ·have:OT s (n:Int)=0:=by unfold OT;rw[if_pos (by omega)]
  rw[this,QL]at c;cases c
theorem Sq{es:List Ev}(n:Nat)(h:SR es):SR (es.map (OO n)):=fun i d s0=>by
 rw[QG]at d s0⊢;by_cases c:i<I es
 ·rw[if_pos c]at d s0;obtain⟨a,b⟩:=h i d s0;have:i+1<I es:=by
   by_cases c2:i+1<I es
   ·exact c2
   ·rw[PI _ _ (by omega)]at a;simp[Ev.zero]at a
  rw[if_pos this];exact⟨a,b⟩
 ·rw[if_neg c]at s0;simp[Ev.zero]at s0
theorem Sr{es:List Ev}(n:Nat)(h:SW es):SW (es.map (OO n)):=fun i d s0=>by
 rw[QG]at d s0;by_cases c:i<I es
 ·rw[if_pos c]at d s0;obtain⟨a,b⟩:=h i d s0;rw[QG,if_pos (by omega)];exact⟨a,b⟩
 ·rw[if_neg c]at s0;simp[Ev.zero]at s0
structure RInv(th:Int)(es:List Ev):Prop where
 K:∀e∈es,EvIn (I es) th e
 sr:SR es
 sw:SW es
theorem WInv.join{W:Wd}(h:WInv W.E)(o:th≠-1)(l:RInv th r.E):WInv (W.join r).E where
 len:=by
  show 3<=(W.E++_).length;have:=h.len;rw[x3];omega
 fst i hi:=by
  show ev (W.E++_) i=_;rw[PF,if_pos (by have:=h.len;omega)];exact h.fst i hi
 rest i hi hk:=by
  show(ev (W.E++_) i).j≠-1;have g:i<I W.E+I r.E:=by simpa[Wd.join]using hk
  rw[PF];by_cases c:i<I W.E
  ·rw[if_pos c];exact h.rest i hi c
  ·rw[if_neg c,QG,if_pos (by omega)];have d:i-I W.E<I r.E:=by omega
   have:=(l.K _ (x1 d)).thr;rw[QF _ _ d];show r.E[i-I W.E].j≠-1;rw[this];exact o
 z i hk ha:=by
  have g:i<I W.E+I r.E:=by simpa[Wd.join]using hk
  have e:ev (W.join r).E i=if i<I W.E then ev W.E i else ev (r.E.map (OO (I W.E))) (i-I W.E):=PF _ _ _
  rw[e]at ha⊢;by_cases c:i<I W.E
  ·rw[if_pos c]at ha⊢;exact h.z i c ha
  ·rw[if_neg c,QG,if_pos (by omega)]at ha⊢;have d:i-I W.E<I r.E:=by omega
   rw[QF _ _ d]at ha⊢;exact(l.K _ (x1 d)).z ha
 hb i hk:=by
  have e:ev (W.join r).E i=if i<I W.E then ev W.E i else ev (r.E.map (OO (I W.E))) (i-I W.E):=PF _ _ _
  have d:(W.join r).E.length=I W.E+I r.E:=by simp[Wd.join]
  rw[e,d];by_cases c:i<I W.E
  ·rw[if_pos c];exact(h.hb i c).mono (by omega)
  ·rw[if_neg c,QG,if_pos (by omega)];have d:i-I W.E<I r.E:=by omega
   rw[QF _ _ d];exact Sp (l.K _ (x1 d)).hb
 sr:=RQ h.sr (Sq _ l.sr)
 sw:=RT h.sw (Sr _ l.sw)
 hl i hk k hb:=by
  have g:i<I W.E+I r.E:=by simpa[Wd.join]using hk
  have e:ev (W.join r).E i=if i<I W.E then ev W.E i else ev (r.E.map (OO (I W.E))) (i-I W.E):=PF _ _ _
  rw[e]at hb;by_cases c:i<I W.E
  ·rw[if_pos c]at hb;exact h.hl i c k hb
  ·rw[if_neg c,QG,if_pos (by omega)]at hb;have p:=h.len;have f:OG (OT (ev r.E (i-I W.E)).h (I W.E:Int)) (k:Int)=O:=hb;by_cases hn:I W.E<64
   ·have:=((RP _ _ _ hn).1 f).2.1;omega
   ·have z:OT (ev r.E (i-I W.E)).h (I W.E:Int)=0:=by unfold OT;rw[if_pos (by omega)]
    rw[z,QL]at f;cases f
theorem Ss(h:∀s∈t.S,StV s)(g:r∈fT t i):RInv (i:Int) r.E:=by
 unfold fT fQ at g;obtain⟨c,_,rfl⟩:=List.mem_map.1 g;have f:=So h i c;have o:(gQ t i c).j=(i:Int):=by
  unfold gQ nJ;have:∀(d:List JR) (p:Ex×Nat),(d.foldl aG p).1.j=p.1.j:=fun d=>by
   induction d with
   |nil=>intro p;rfl
   |cons s d ih =>
    intro p;rw[xa,ih];unfold aG
    split
    ·split
     ·rfl
     ·unfold Ex.aW Ex.aM Ex.aZ Ex.step Ex.aM Ex.aZ
      repeat' split
      all_goals rfl
    ·split
     ·rfl
     ·split<;>rfl
  exact this _ _
 exact⟨fun e l=>by have:=f.K e l;rw[o]at this;exact this,f.sr,f.sw⟩
def PZ(ts:List JV):Prop:=∀t∈ts,∀s∈t.S,StV s
theorem Ck:∀(c:List JV) (i:Nat) (W:Wd) (f:List Int),PZ c->WInv W.E->WInv (gM W (dP i c) f).E
 |[],_,_,_,_,h=>h
 |t::c,i,W,[],_,h=>by simpa[dP,gM]using h
 |t::c,i,W,d::f,hv,h=>by
  simp only[dP,gM];refine Ck c (i+1) _ f (fun u j=>hv u (xb _ j)) ?_
  split
  ·rename_i g;exact h.join (by omega) (Ss (hv t (by simp)) (x1 g))
  ·exact h
theorem St{c:List JV}(h:PZ c)(d:List Int):WInv (KZ (KC c) d).E:=Ck c 0 _ d h Cj
theorem WInv.wH{es:List Ev}(h:WInv es):B0 es:=fun i c k=>by have:=(h.z i c (Sh k)).1;omega
theorem WInv.kU{es:List Ev}(h:WInv es):DK es:=fun i k j l ne _ _ d o=>by
 have p:k<3:=by
  by_cases c:k<3
  ·exact c
  ·exact absurd o (h.rest k (by omega) l)
 by_cases c:i<3
 ·have f:=h.fst i c;have g:=h.fst k p;rw[f,g]at d;simp[NG]at d;omega
 ·exact⟨by omega,h.rest i (by omega) j⟩
theorem QT{R:Nat->Nat->Prop}{T:Nat->Nat}(h:∀a b,R a b->T a<T b)(k:TC R a b):T a<T b:=k (fun a b=>T a<T b) h fun _ _ _=>x7
namespace Sys
structure Seq(X:Sys)(T:Nat->Nat):Prop where
 C:∀a b,X.C a b->T a<T b
 J:∀a b,X.J a b->T a<T b
 rd:∀a b,X.rd a b->T b<T a
 bh:∀a b,X.bh a b->T a<T b
 ms:∀a b,X.misses a b->T a<T b
 L:∀a b,X.L a b->T a=T b+1
 h:∀a b,X.h a b->T b<T a
 sends:∀a b,X.sends a b->T a<=T b
 M:∀a b,X.M a b->T a<=T b
section
variable {X:Sys}{T:Nat->Nat}
theorem Seq.aJ(h:X.Seq T)(k:X.aJ a b):T b<T a:=by
 rcases k with k|⟨c,d,f⟩
 ·exact h.rd _ _ k.1
 ·have:=d (fun a b=>T b<T a) fun x y ⟨z,g,j⟩=>by have:=h.rd _ _ g.1;have:=h.L _ _ j;omega fun _ _ _ p q=>x7 q p;have:=h.rd _ _ f.1;omega
theorem Seq.bT(h:X.Seq T)(k:X.bT a b):T a<T b:=by
 obtain⟨⟨c,⟨d,f,g⟩,j⟩,_⟩:=k;have:=h.sends _ _ f;have:=h.aJ g.1;have:=h.M _ _ j;omega
theorem Seq.KU(h:X.Seq T)(k:X.KU a b):T a<T b:=QT (fun x y k=>by
 rcases k with(k|k)|k
 ·exact h.C _ _ k
 ·exact h.bT k
 ·exact h.J _ _ k) k
theorem Seq.comm(h:X.Seq T)(k:X.comm a b):T a<T b:=by
 rcases k with(k|k)|k
 ·exact h.rd _ _ k
 ·exact h.bh _ _ k
 ·exact h.ms _ _ k
theorem Seq.LN(h:X.Seq T)(k:X.LN a b):T a<T b:=QT (fun _ _ k=>h.comm k) k
theorem Seq.split(h:X.Seq T)(i:Nat):¬Th (Th X.L X.misses) X.bh i i:=fun⟨w,⟨k,c,d⟩,f⟩=>by
 have:=h.L _ _ c;have:=h.ms _ _ d;have:=h.bh _ _ f;omega
theorem Seq.may(h:X.Seq T):X.May where
 bef i k:=by have:=h.KU k;omega
 split:=h.split
 link i:=fun⟨c,f,g⟩=>by have:=h.KU f;have:=h.LN g;omega
 fence i k:=by
  have:=QT (T:=T) fun a b ⟨k,_⟩=>by
   rcases k with k|⟨c,⟨d,f,g⟩,j⟩
   ·exact h.KU k
   ·have:=h.KU f;have:=h.LN g;have:=h.KU j;omega k
  omega
theorem Seq.rL(h:X.Seq T):X.mT:=fun i k=>by
 have:=k (fun a b=>T b<T a) (fun x y k=>k.elim (h.h _ _) (h.rd _ _)) fun _ _ _ p q=>x7 q p;omega
theorem Seq.cause(h:X.Seq T)(o:∀a b,fb a b->T a<T b)(k:X.cause fb a b):T a<T b:=by
 have g:∀a b,X.bZ fb a b->T a<T b:=fun a b k=>by
  rcases k with(k|k)|k
  ·exact h.bT k
  ·exact h.J _ _ k
  ·exact o _ _ k
 have j:∀a b,X.AU fb a b->T a<T b:=fun a b k=>by
  rcases k with k|⟨c,d,f⟩
  ·exact g _ _ k
  ·have:=g _ _ d;have:=h.C _ _ f;omega
 have l:∀a b,X.base fb a b->T a<T b:=fun a b k=>QT fun x y k=>by
  rcases k with k|⟨c,d,f⟩
  ·exact j _ _ k
  ·have:=h.C _ _ d;have:=j _ _ f;omega k
 rcases k with(k|k)|⟨c,d,f⟩
 ·exact l _ _ k
 ·exact h.C _ _ k
 ·have:=h.aJ d;have:=l _ _ f;omega
theorem Seq.tmay(h:X.Seq T){f:Nat->Nat->Prop}(l:∀a b,f a b->T a<T b)(g:∀a b,fb a b->T a<T b):X.TMay f fb where
 circ i k:=by have:=h.cause g k;omega
 fenc i:=fun⟨c,d,j⟩=>by have:=g _ _ d;have:=h.cause g j;omega
 back i k:=fun⟨d,j⟩=>by have:=h.rd _ _ d;have:=h.cause g j;omega
 split:=h.split
 stand i k:=by
  have:=QT (T:=T) (fun a b k=>k.elim (l _ _) fun k=>h.comm k.1) k;omega
 agree i:=fun⟨c,d,j⟩=>by
  have:=h.cause g j
  rcases d with d|d
  ·have:=h.bh _ _ d;omega
  ·have:=h.ms _ _ d;omega
end
end Sys
theorem Cl{es:List Ev}{B:Nat->Nat->Bool}(u:I rs=I es)(h:Ord es rs B):∃ds∈LX (KY es rs),(LK rs ds).length=I es/\∀i k,i<I es->k<I es->rs.getD i (-1)≠-1->rs.getD k (-1)=rs.getD i (-1)->((LK rs ds).getD i 0<(LK rs ds).getD k 0↔B i k=O):=by
 refine⟨(xR (I rs)).map fun i=>((cB i (B i):Nat):Int),zU ?_,?_⟩
 ·unfold KY;refine Bv _ _ _ fun i d=>?_;refine⟨by omega,?_⟩;unfold jT;have:cB i (B i)<=cB i (iY es rs i):=sC i fun k f e=>by
   obtain⟨_,_,o,g⟩:=h.same _ _ e;unfold iY;simp only[xF,bne_iff_ne,ne_eq,beq_iff_eq];exact⟨⟨g,o.symm⟩,h.first _ _ e⟩
  unfold cB at this⊢;omega
 ·obtain⟨y,l⟩:=Bx u h ((xR (I rs)).map fun i=>((cB i (B i):Nat):Int)) (fun i d=>Bw (fun i=>((cB i (B i):Nat):Int)) (I rs) i (by rw[u];exact d)) (I es) (x8 _);have z:LK rs ((xR (I rs)).map fun i=>((cB i (B i):Nat):Int))=(xR (I es)).foldl (fZ rs ((xR (I rs)).map fun i=>((cB i (B i):Nat):Int))) (List.replicate (I rs) 0):=by
   unfold LK;rw[u]
  rw[z];generalize(xR (I es)).foldl (fZ rs ((xR (I rs)).map fun i=>((cB i (B i):Nat):Int))) (List.replicate (I rs) 0)=p at y l;have c:∀i k,i<I es->k<I es->B i k=O->p.getD i 0<p.getD k 0:=fun i k d f e=>by
   obtain⟨_,_,o,g⟩:=h.same _ _ e;rw[l i d g,l k f (by rw[<- o];exact g)];have:=zG (I es) (p:=fun j=>B j i) (q:=fun j=>B j k) (fun j _ C=>h.trans _ _ _ C e) ⟨i,d,e,h.irr i⟩;omega
  refine⟨y,fun i k d f D A=>⟨fun v=>?_,c i k d f⟩⟩;have x:i≠k:=fun e=>by rw[e]at v;omega
  rcases h.total i k d f x A.symm D with e|e
  ·exact e
  ·have:=c k i f d e;omega
structure Timed(es:List Ev)(T:Nat->Nat):Prop where
 thr:∀i k,3<=i->i<k->k<I es->(ev es i).j=(ev es k).j->T i<T k
 fst:∀i k,i<3->3<=k->k<I es->T i<T k
 gat:∀i k,i<I es->k<I es->PT (ev es i) (ev es k)=O->T i<T k
 half:∀k,k+1<I es->(ev es (k+1)).k=1->(ev es (k+1)).step=O->T (k+1)=T k+1
 inj:∀i k,i<I es->k<I es->i≠k->(ev es i).k<3->(ev es k).k<3->T i=T k->False
 k:∀i,i<I es->0<=(ev es i).k
 rd:∀k,k<I es->(ev es k).k=0->∃w,w<I es/\(ev es w).k=1/\(ev es w).z=(ev es k).z/\(ev es w).value=(ev es k).value/\T w<T k/\∀u,u<I es->(ev es u).k=1->(ev es u).z=(ev es k).z->T u<T k->T u<=T w
 hang:∀i k:Nat,i<I es->k<I es->OG (ev es i).h (k:Int)=O->T k<T i
section
variable {es:List Ev}{T:Nat->Nat}
theorem Timed.C(f:WInv es)(h:Timed es T)(l:i<I es)(g:k<I es)(e:ON i (ev es i) k (ev es k)=O):T i<T k:=by
 unfold ON at e;by_cases c:i<3
 ·rw[f.fst i c]at e;have d:(ev es k).j≠-1:=by simpa[NG]using e
  have:3<=k:=by
   by_cases c2:k<3
   ·exact absurd (by rw[f.fst k c2];rfl) d
   ·omega
  exact h.fst i k c this g
 ·have d:=f.rest i (by omega) l;rw[if_neg (by simpa using d)]at e;simp only[xF,beq_iff_eq,decide_eq_true_eq]at e;exact h.thr i k (by omega) (by omega) g e.1
def RD(es:List Ev)(T:Nat->Nat)(rs:List Int)(i k:Nat):Bool:=decide (i<I es)&&decide (k<I es)&&decide (rs.getD i (-1)=rs.getD k (-1))&&decide (rs.getD i (-1)≠-1)&&decide (T i<T k)
theorem PO:RD es T rs i k=O↔i<I es/\k<I es/\rs.getD i (-1)=rs.getD k (-1)/\rs.getD i (-1)≠-1/\T i<T k:=by
 unfold RD;simp only[xF,decide_eq_true_eq,and_assoc]
theorem Cm(v:∀i k,i<I es->k<I es->i≠k->rs.getD i (-1)=rs.getD k (-1)->rs.getD i (-1)≠-1->T i≠T k)(u:∀i k,i<I es->k<I es->rs.getD i (-1)=rs.getD k (-1)->rs.getD i (-1)≠-1->T i<T k->(ev es k).j≠-1):Ord es rs (RD es T rs) where
 same i k e:=by have:=PO.1 e;exact⟨this.1,this.2.1,this.2.2.1,this.2.2.2.1⟩
 irr i:=by
  cases e:RD es T rs i i
  ·rfl
  ·have:=PO.1 e;omega
 trans i j k e1 e2:=by
  obtain⟨d,l,f,g,o⟩:=PO.1 e1;obtain⟨x,p,q,y,z⟩:=PO.1 e2;exact PO.2 ⟨d,p,f.trans q,g,by omega⟩
 total i k h1 h2 hne he hr:=by
  have:=v i k h1 h2 hne he hr;by_cases c:T i<T k
  ·exact xW (PO.2 ⟨h1,h2,he,hr,c⟩)
  ·exact Or.inr (PO.2 ⟨h2,h1,he.symm,by rw[<- he];exact hr,by omega⟩)
 first i k e:=by
  obtain⟨d,l,f,g,o⟩:=PO.1 e;exact u i k d l f g o
theorem FE(i:Nat)(h:i<I es):(LC es).getD i (-1)=if MQ (ev es i)then 0 else -1:=by
 simp[LC,ev,List.getD,List.getElem?_eq_getElem h]
theorem CV(h:i<I es)(e:(LC es).getD i (-1)≠-1):MQ (ev es i)=O:=by
 rw[FE i h]at e;by_cases c:MQ (ev es i)=O
 ·exact c
 ·rw[if_neg c]at e;exact absurd Z e
theorem DS(h:MQ e=O):e.k=2:=by
 unfold MQ at h;simp at h;exact h.1
end
theorem Su{W:Wd}{T:Nat->Nat}(p:WInv W.E)(hn:I W.E<=64)(h:Timed W.E T):∃rs∈LX (NV (KL W.E)),∃q∈pY W,∃fs∈rG W,(KK W.E).bR ((KK W.E).D (gK (KL W.E) rs))=false/\tR ⟨W,KK W.E,(KK W.E).D (gK (KL W.E) rs)⟩ q=O/\tgtMay ⟨W,KK W.E,(KK W.E).D (gK (KL W.E) rs)⟩ q fs/\∀(v:Int) (w:Nat),w<I W.E->(ev W.E w).k=1->(ev W.E w).z=v->(∀u,u<I W.E->(ev W.E u).k=1->(ev W.E u).z=v->T u<=T w)->jU W.E v (OI W q)=(ev W.E w).value:=by
 generalize A:W.E=es at p hn h⊢;have U:=p.wH;obtain⟨l,hl,hp⟩:=Se (I es) (fun i x=>((ev es i).k=0->∃w:Nat,x=(w:Int)/\w<I es/\(ev es w).k=1/\(ev es w).z=(ev es i).z/\(ev es w).value=(ev es i).value/\T w<T i/\∀u,u<I es->(ev es u).k=1->(ev es u).z=(ev es i).z->T u<T i->T u<=T w)/\((ev es i).k≠0->x=-1)) fun i g=>by
  by_cases c:(ev es i).k=0
  ·obtain⟨w,p⟩:=h.rd i g c;exact⟨(w:Int),fun _=>⟨w,Z,p⟩,fun c2=>absurd c c2⟩
  ·exact⟨-1,fun c2=>absurd c2 c,fun _=>Z⟩
 obtain⟨rs,ab,y⟩:=Ce (KL es) l (by rw[Bp];exact hl) fun i g=>by
  rw[Bp]at g;have e:(KL es).getD i []=kR es i:=by
   unfold KL;rw[x0];simp[g]
  rw[e];unfold kR;by_cases c:(ev es i).k=0
  ·rw[if_pos (by simpa using c)];obtain⟨w,e,L,M,Y,h4,h5,_⟩:=(hp i g).1 c;rw[e];refine List.mem_map.2 ⟨w,List.mem_filter.2 ⟨List.mem_range.2 L,?_⟩,Z⟩;unfold pW;have hs:((ev es i).step&&w==i+1)=false:=by
    cases hs:(ev es i).step
    ·rfl
    ·rw[Bool.true_and,beq_eq_false_iff_ne];intro H;subst H;obtain⟨_,s2⟩:=p.sr i c hs;have:=h.half i L M s2;omega
   rw[hs];simp[M,Y,h4]
  ·rw[if_neg (by simpa using c),(hp i g).2 c];simp
 obtain⟨q,N,_,od⟩:=Cl (wO es) (Cm (es:=es) (T:=T) (rs:=aE es) (fun i k g o ne e r H=>by
  obtain⟨j,_⟩:=tG g r;obtain⟨f,_⟩:=tG o (by rw[<- e];exact r);exact h.inj i k g o ne (by omega) (by omega) H) fun i k g o e r lt ht=>by
  obtain⟨j,G⟩:=tG g r;obtain⟨f,F⟩:=tG o (by rw[<- e];exact r);have ne:i≠k:=fun e=>by rw[e]at lt;omega
  obtain⟨f1,f2⟩:=p.kU i k g o ne j f (by rw[<- G,<- F,e]) ht;have d:k<3:=by
   by_cases c:k<3
   ·exact c
   ·exact absurd ht (p.rest k (by omega) o)
  have i3:3<=i:=by
   by_cases c:i<3
   ·exact absurd (by rw[p.fst i c];rfl) f2
   ·omega
  have:=h.fst k i d i3 g;omega)
 obtain⟨fs,aa,lf,of⟩:=Cl (es:=es) (rs:=LC es) (by simp[LC]) (Cm (es:=es) (T:=T) (rs:=LC es) (fun i k g o ne e r H=>by
  have j:=DS (CV g r);have f:=DS (CV o (by rw[<- e];exact r));exact h.inj i k g o ne (by omega) (by omega) H) fun i k g o e r lt ht=>by
  have f:=DS (CV o (by rw[<- e];exact r));have d:k<3:=by
   by_cases c:k<3
   ·exact c
   ·exact absurd ht (p.rest k (by omega) o)
  rw[p.fst k d]at f;simp[NG]at f)
 have J:∀i k,i<I es->k<I es->(PV es (LK (aE es) q) i k=O↔(ev es i).k=1/\(ev es k).k=1/\(ev es i).z=(ev es k).z/\T i<T k):=fun i k g o=>by
  rw[Cc];constructor
  ·rintro⟨j,f,d,V⟩;obtain⟨G,F⟩:=vO U g j;have:=PO.1 ((od i k g o F (by rw[G,(vO U o f).1,d])).1 V);exact⟨j,f,d,this.2.2.2.2⟩
  ·rintro⟨j,f,d,V⟩;obtain⟨G,F⟩:=vO U g j;have e:(aE es).getD k (-1)=(aE es).getD i (-1):=by rw[G,(vO U o f).1,d]
   exact⟨j,f,d,(od i k g o F e).2 (PO.2 ⟨g,o,e.symm,F,V⟩)⟩
 have S:∀a b,(NX es l (LK (aE es) q)).rd a b->(ev es a).k=0/\b<I es/\(ev es b).k=1/\(ev es b).z=(ev es a).z/\T b<T a/\∀u,u<I es->(ev es u).k=1->(ev es u).z=(ev es a).z->T u<T a->T u<=T b:=fun a b ⟨hb,ha,e⟩=>by
  by_cases c:(ev es a).k=0
  ·obtain⟨w,e1,L,M,Y,_,h5,h6⟩:=(hp a ha).1 c;rw[e1]at e;have:w=b:=by omega
   subst this;exact⟨c,L,M,Y,h5,h6⟩
  ·rw[(hp a ha).2 c]at e;omega
 have X:(NX es l (LK (aE es) q)).Seq T:={
  C:=fun a b k=>h.C p k.1 k.2.1 k.2.2
  J:=fun a b k=>h.gat a b k.1 k.2.1 k.2.2
  rd:=fun a b k=>(S a b k).2.2.2.2.1
  bh:=fun a b k=>((J a b k.1 k.2.1).1 k.2.2).2.2.2
  ms:=fun a b ⟨c,j,f⟩=>by
   obtain⟨L,M,Y,h4,h5,h6⟩:=S a c j;obtain⟨g1,g2,g3,g4⟩:=(J c b f.1 f.2.1).1 f.2.2;by_cases c1:T b<T a
   ·have:=h6 b f.2.1 g2 (by rw[<- g3,h4]) c1;omega
   ·have:T a≠T b:=fun e=>h.inj a b j.2.1 f.2.1 fun H=>by rw[H,g2]at L;omega (by omega) (by omega) e
    omega
  L:=fun a b ⟨j,f,d⟩=>by
   unfold QC at d;simp only[xF,beq_iff_eq]at d;obtain⟨⟨q1,q2⟩,q3⟩:=d;subst q3;exact h.half b j q1 q2
  h:=fun a b k=>h.hang a b k.1 k.2.1 k.2.2
  sends:=fun a b ⟨j,f,d⟩=>by
   unfold QD at d;simp only[x2,xF,beq_iff_eq]at d
   rcases d with d|d
   ·rw[show a=b by omega];exact x8 _
   ·exact Nat.le_of_lt (h.C p j f d.1.1)
  M:=fun a b ⟨j,f,d⟩=>by
   unfold QE at d;simp only[x2,xF,beq_iff_eq]at d
   rcases d with d|d
   ·rw[show a=b by omega];exact x8 _
   ·exact Nat.le_of_lt (h.C p j f d.1.1)}
 have pe:OI W q=LK (aE es) q:=by unfold OI;rw[A]
 refine⟨rs,ab,q,by unfold pY;rw[A];exact N,fs,by unfold rG;rw[A];exact aa,?_,?_,?_,?_⟩
 ·rw[y];exact(Ls hn hl (LK (aE es) q)).2 X.rL
 ·unfold tR;rw[pe,y];exact(Lr hn hl (LK (aE es) q)).2 X.may
 ·have KP:=(R8 hn hl (LK (aE es) q) lf (rd:=(KK es).D l) Z Z).2 (X.tmay (fun a b k=>by
   obtain⟨j,f,d⟩:=k;unfold isRow at d;simp only[xF]at d;exact h.C p j f d.1.1.1) fun a b k=>by
   obtain⟨j,f,d,V⟩:=k;unfold PN at d;simp only[xF]at d;have G:(LC es).getD a (-1)=0:=by rw[FE a j,if_pos d.1.2]
   have F:(LC es).getD b (-1)=0:=by rw[FE b f,if_pos d.2]
   exact(PO.1 ((of a b j f (by rw[G];decide) (by rw[G,F])).1 V)).2.2.2.2)
  obtain⟨a1,a2,a3⟩:=KP;refine tgtMay.mk ?_ ?_ ?_
  ·unfold Ey.LL;rw[A,y];exact a1
  ·rw[pe,y,tS];exact a2
  ·unfold Ey.LL;rw[pe,y,tS,A];exact a3
 ·intro v w B kw vw K;rw[pe];obtain⟨G,F⟩:=vO U B kw;refine Sd B kw vw ((Sc p.kU N).pos w B F) fun k o kk kv ne=>?_;have:=K k o kk kv;have ac:T k≠T w:=fun e=>h.inj k w o B ne (by omega) (by omega) e
  exact((Cc _ _ _).1 ((J k w o B).2 ⟨kk,kw,by rw[kv,vw],by omega⟩)).2.2.2
end Q
end Go.Proofs.YtlikcongbhhpfaaGreatDoor
