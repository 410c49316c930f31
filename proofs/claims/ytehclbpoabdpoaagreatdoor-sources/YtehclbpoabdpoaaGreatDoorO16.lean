import Derived.Deep.LoopGhost
import Derived.ArgAppend
import Derived.Test.YtehclbpoabdpoaaGreatDoorO13
import Derived.Test.YtehclbpoabdpoaaGreatDoorO15
set_option linter.all false
set_option maxHeartbeats 0
namespace Go.Proofs.YtehclbpoabdpoaaGreatDoor
open Go Go.RowKit Go.Proofs.Tryz P Q
open scoped Classical
set_option maxRecDepth 1000000
variable {b g i j n:Nat}{α:Type}{l:List Value}{t u:TypeId}{s:Nat->Bool}
open _root_.Array renaming size->F
open Go.World renaming heap->A
open List renaming length->K
open Bool renaming true->Y,false->U
open Option renaming none->C,some->O
open Go.IntKind renaming i64->I
open Go.Value renaming int->G,slice->E,bool->N
open Go.Obj renaming cells->M
open List renaming range->xF,map_congr_left->x2,length_cons->x8,length_append->x9,getElem?_set->xb,getElem?_eq_getElem->xd,filter_append->xe,length_nil->xg
open Or renaming inr->xR,inl->xW
open Nat renaming le_refl->x1,zero_le->x5,not_lt_zero->x6,le_trans->x7
open Go.RowKit.Below renaming refl->x3,heap_setCell->xa
open Go.Value renaming bool->x4
open Go.Instr renaming makeSlice->xc
def Blk(w:World)(g:Nat)(l:List Value)(t:TypeId):Prop:=w.heap[g]?=O (M l.toArray t (0,0))
section
variable {w w':World}{g:Nat}{l:List Value}{t:TypeId}
def Blk.lt(h:Blk w g l t):g<F (A w):=(Array.getElem?_eq_some_iff.1 h).1
def Blk.keep(h:Blk w g l t)(e:w'.heap[g]?=w.heap[g]?):Blk w' g l t:=by unfold Blk at*;rw[e];exact h
def Blk.X(h:Blk w g l t)(a:Below (F (A w)) w w'):Blk w' g l t:=h.keep (a.block g h.lt)
def Blk.cell(h:Blk w g l t){v:Value}(a:l[i]?=O v):w.cell? ⟨g,i,C⟩=O v:=by unfold Blk at h;simp[World.cell?,h,a]
def Blk.free(h:Blk w g l t)(i:Nat):w.frozen? ⟨g,i,C⟩=U:=by unfold Blk at h;simp[World.frozen?,h]
def Blk.set(h:Blk w g l t)(i:Nat)(u:Value):Blk (w.setCell ⟨g,i,C⟩ u) g (l.set i u) t:=by
 unfold Blk at*;rw[bX h];simp
def Blk.bR(h:Blk w g l t){k:Nat}(i:Nat)(u:Value)(a:g≠k):Blk (w.setCell ⟨k,i,C⟩ u) g l t:=h.keep (xa _ _ _ _ a)
def Blk.alloc(h:Blk w g l t)(o:Obj):Blk (w.alloc o) g l t:=h.keep (Below.heap_alloc _ _ _ h.lt)
def Blk.new(w:World)(l:List Value)(t:TypeId):Blk (w.alloc (M l.toArray t)) (F (A w)) l t:=heap_alloc_new w _
def zM(z:Value)(n:Nat):madeCells #[z] n=((xF n).map fun _=>z).toArray:=by
 apply Array.ext';rw[toList_madeCells_one];simp[List.map_const']
end
def qI(f:Nat->α)(h:i<n):((xF n).map f)[i]?=O (f i):=by simp[h]
def GH(f:Nat->α)(n i:Nat)(u:α):((xF n).map f).set i u=(xF n).map fun j=>if j=i then u else f j:=by
 apply List.ext_getElem?;intro j;rw[xb];by_cases h:j<n
 ·by_cases c:i=j
  ·subst c;simp[h]
  ·rw[if_neg c,qI _ h,qI _ h,if_neg fun e=>c e.symm]
 ·by_cases c:i=j
  ·subst c;simp[h]
  ·rw[if_neg c];simp[h]
structure JTab(w:World)(g n:Nat)(gs:Nat->Nat)(R:Nat->Nat->Bool):Prop where
 top:Blk w g ((xF n).map fun i=>MU (gs i) n n) 189
 row:∀i,i<n->Blk w (gs i) ((xF n).map fun k=>N (R i k)) 4
 inj:∀i k,i<n->k<n->gs i=gs k->i=k
 off:∀i,i<n->gs i≠g
 n:n<1000
def dH(R:Nat->Nat->Bool)(i k:Nat)(b:Bool):Nat->Nat->Bool:=fun x y=>if x=i/\y=k then b else R x y
section
variable {w w':World}{g n:Nat}{gs:Nat->Nat}{R:Nat->Nat->Bool}
def JTab.keep(h:JTab w g n gs R)(e:∀k,(k=g\/∃i,i<n/\k=gs i)->w'.heap[k]?=w.heap[k]?):JTab w' g n gs R :=
 ⟨h.top.keep (e _ (xW Z)),fun i a=>(h.row i a).keep (e _ (xR ⟨i,a,Z⟩)),h.inj,h.off,h.n⟩
def JTab.X(h:JTab w g n gs R)(a:Below (F (A w)) w w'):JTab w' g n gs R :=
 ⟨h.top.X a,fun i c=>(h.row i c).X a,h.inj,h.off,h.n⟩
def JTab.at_(h:JTab w g n gs R):TabAt w g n gs R :=
 ⟨fun i a=>h.top.cell (qI _ a),fun i k a c=>(h.row i a).cell (qI _ c),h.top.lt,fun i a=>(h.row i a).lt,h.n⟩
def JTab.set(h:JTab w g n gs R)(i k:Nat)(f:i<n)(b:Bool):JTab (w.setCell ⟨gs i,k,C⟩ (N b)) g n gs (dH R i k b):=by
 refine⟨h.top.bR _ _ fun e=>h.off i f e.symm,fun j a=>?_,h.inj,h.off,h.n⟩;by_cases c:j=i
 ·subst c;have:=(h.row j a).set k (N b);rw[GH]at this;refine Eq.mp ?_ this
  congr 1
  apply x2;intro x _;by_cases d:x=k
  ·simp[dH,d]
  ·simp[dH,d]
 ·have:=(h.row j a).bR (k:=gs i) k (N b) fun e=>c (h.inj j i a f e);refine Eq.mp ?_ this
  congr 1
  apply x2;intro x _;simp[dH,c]
def JTab.to(h:JTab w g n gs R){S:Nat->Nat->Bool}(e:∀i k,i<n->k<n->R i k=S i k):JTab w g n gs S :=
 ⟨h.top,fun i a=>by
  have:=h.row i a;refine Eq.mp ?_ this
  congr 1
  apply x2;intro x c;rw[e i x a (List.mem_range.1 c)],h.inj,h.off,h.n⟩
end
def Mj(B:Nat)(w:World)(g n:Nat)(gs:Nat->Nat)(R:Nat->Nat->Bool):Prop:=JTab w g n gs R/\B<=g/\∀i,i<n->B<=gs i
def YD(w w':World)(n:Nat)(R:Nat->Nat->Bool)(e:Ending):Prop:=∃g gs,e=.returned (MU g n n)/\Mj (F (A w)) w' g n gs R/\Below (F (A w)) w w'
def Tryz.infoBs:(prog.info? 189).map (fun i=>(i.zero,i.size,i.bytes))=O (O (E C 0 0),1,24):=by kernel_rfl
def Tryz.infoB:(prog.info? 4).map (fun i=>(i.zero,i.size,i.bytes))=O (O (N U),1,1):=by kernel_rfl
def yV(n:Nat)(w:World)(D:n<1000):
  Calls prog 142 #[G I (n:Int)] w fun e J=>YD w J n (fun _ _=>U) e:=by
 have B:∀w,(xc 218 (G I (n:Int)) (G I (n:Int))).run prog w=.ok (MU (F (A w)) n n) (w.alloc (M ((xF n).map fun _=>Value.slice C 0 0).toArray 189)):=fun w=>by
  rw[<- zM];exact run_make_row' 218 189 (E C 0 0) 24 underlying218 Tryz.infoBs Z I I n (by omega) (by omega) w
 have z:∀w,(xc 189 (G I (n:Int)) (G I (n:Int))).run prog w=.ok (MU (F (A w)) n n) (w.alloc (M ((xF n).map fun _=>x4 U).toArray 4)):=fun w=>by
  rw[<- zM];exact run_make_row' 189 4 (N U) 1 underlying189 Tryz.infoB Z I I n (by omega) (by omega) w
 go_enter func142,ntmps142;go_wp2;go_loopw[4] (fun i wr=>∃k:Nat,k<=n/\i=G I k/\MT (Blk wr (F (A w)) ((xF n).map fun i=>if i<k then MU (F (A w)+1+i) n n else E C 0 0) 189)/\MT (∀i,i<k->Blk wr (F (A w)+1+i) ((xF n).map fun _=>N U) 4)/\MT (F (A wr)=F (A w)+1+k)/\MT (Below (F (A w)) w wr)) fun i _=>n-(intOf i).toNat
 case atStart=>exact⟨0,x5 _,Z,by unfold MT;simpa using Blk.new w ((xF n).map fun _=>Value.slice C 0 0) 189,fun j y=>absurd y (x6 _),by unfold MT;simp,(x3 _ _).alloc (x1 _) _⟩
 case round =>
  obtain⟨k,S,rfl,a,HR,f,HB⟩:=hrel;by_cases hlt:k<n
  ·have m:(k:Int)<(n:Int):=by omega
   have lt:=a.lt;have L:=a.free k;have cl:=a.cell (i:=k) (qI _ hlt);rw[if_neg (by omega)]at cl;have r:=(x3 (F (A wr)) wr).alloc (x1 _) (M ((xF n).map fun _=>x4 U).toArray 4);go_wp2;go_roundw
   case rel =>
    refine⟨k+1,by omega,by go_num,?_,?_,?_,?_⟩
    ·unfold MT;have h:=(a.set k (MU (F (A wr)) n n)).alloc (M ((xF n).map fun _=>x4 U).toArray 4);rw[GH]at h;refine Eq.mp ?_ h
     congr 1
     apply x2;intro x _;rw[f.o];by_cases c:x=k
     ·subst c;simp
     ·rw[if_neg c];by_cases d:x<k
      ·rw[if_pos d,if_pos (by omega)]
      ·rw[if_neg d,if_neg (by omega)]
    ·unfold MT;intro i v;by_cases c:i=k
     ·subst c;have h:=Blk.new (wr.setCell ⟨F (A w),i,C⟩ (MU (F (A wr)) n n)) ((xF n).map fun _=>x4 U) 4;have hs:(wr.setCell ⟨F (A w),i,C⟩ (MU (F (A wr)) n n)).heap.size=F (A w)+1+i:=by rw[<- f.o];simp
      rw[hs]at h;exact h
     ·exact((HR.o i (by omega)).bR k _ (by omega)).alloc _
    ·unfold MT;simp[f.o];omega
    ·exact(HB.setCell (p:=⟨F (A w),k,C⟩) (x1 _) _).alloc (by simpa using HB.size) _
   case measure=>simp[intOf];omega
  ·have m:¬(k:Int)<(n:Int):=by omega
   have q:k=n:=by omega
   go_wp2;go_ret;refine⟨F (A w),fun i=>F (A w)+1+i,Z,⟨⟨?_,fun i v=>HR.o i (by omega),fun i k _ _ e=>by omega,fun i _ e=>by omega,D⟩,x1 _,fun i _=>by show F (A w)<=F (A w)+1+i;omega⟩,HB.o⟩;refine Eq.mp ?_ a.o
   congr 1
   apply x2;intro x H;rw[if_pos (by rw[q];exact List.mem_range.1 H)]
def Sl(w:World)(B:Nat)(v:Value)(l:List Value)(t:TypeId):Prop:=∃b o cap cur,v=E (O ⟨b,o,C⟩) (K l) cap/\Blk w b cur t/\B<=b/\K l<=cap/\o+cap<=K cur/\∀j (h:j<K l),cur[o+j]?=O l[j]
section
variable {w w':World}{B:Nat}{v:Value}{l:List Value}{t:TypeId}
def Sl.keep(h:Sl w B v l t)(e:∀k,v.ownBlock=O k->w'.heap[k]?=w.heap[k]?):Sl w' B v l t:=by
 obtain⟨b,o,a,c,rfl,d,f,m,p,q⟩:=h;exact⟨b,o,a,c,Z,d.keep (e b Z),f,m,p,q⟩
def Sl.blk(h:Sl w B v l t):∃b,v.ownBlock=O b/\B<=b/\∃a,Blk w b a t:=by
 obtain⟨b,o,c,a,rfl,d,e,f,k,m⟩:=h;exact⟨b,Z,e,a,d⟩
def Blk.ne{a:List Value}(h:Blk w g l t)(k:Blk w b a u)(c:t≠u):g≠b:=fun e=>by
 subst e;have:=h.symm.trans k;simp at this;exact c this.2
def Sl.off{cs:List Value}(h:Sl w B v l t)(k:Blk w g cs u)(f:u≠t):v.ownBlock≠O g:=by
 obtain⟨b,e,_,a,d⟩:=h.blk;rw[e];intro c;cases c;exact(k.ne d f) Z
def Sl.X(h:Sl w B v l t)(f:Below (F (A w)) w w'):Sl w' B v l t:=h.keep fun k e=>by
 obtain⟨b,a,_,c,d⟩:=h.blk;rw[e]at a;cases a;exact f.block _ d.lt
end
def Mk(w:World){D:Array Oper}{rest:List Oper}{o:Oper}{a:Act}{Q:Exit->Act->World->Prop}(hg:o.guard=C)(s x:Operand)(t:TypeId)(al:o.op=Op.call {callee:=Callee.builtin Builtin.append,args:=#[s,x],argTypes:=#[t,t]})(e:TypeId)(i:TypeInfo)(z:Value)(d:Nat)(h1:prog.underlying t=O (.slice e))(h2:prog.info? e=O i)(h3:i.zero=O z)(h4:i.size=1)(h5:i.bytes=d)(h6:z.cells.size=1)(B:Nat)(v:Value)(l:List Value)(hs:a.eval s=v)(h:Sl w B v l e)(hB:B<=F (A w))(q:Addr)(c:Nat)(u:Value)(hx:a.eval x=E (O q) 1 c)(hu:w.cell? q=O u)(X:u.oneCell'=Y)(hn:K l<100000)(ab:d<=1000)(hK:∀T H,Sl H B T (l++[u]) e->w.grownBy H v.ownBlock->wpList prog D Q rest (a.put o.dst T) H):
  wpList prog D Q (o::rest) a w:=by
 obtain⟨b,of,p,W,rfl,J,aa,an,ac,r⟩:=h;have ak:∀j S,([u]:List Value)[j]?=O S->w.cell? (q.add j)=O S:=fun j S f=>by
  cases j with
  |zero =>
   simp at f;subst f;have e0:q.add 0=q:=by unfold Addr.add;split<;>simp_all
   rw[e0];exact hu
  |succ j=>simp at f
 refine wpList_append_arg w hg s x t al e i z 1 d h1 h2 h3 h4 h5 h6 (by decide) b of (K l) p l hs (by simp) (fun j S f=>?_) q 1 c [u] hx Z ak (by simpa using X) (fun hr j f=>?_) (by simp only[maxLen];omega) ?_ (fun hr=>?_) fun hr T H ho m=>?_
 ·obtain⟨aj,rfl⟩:=List.getElem?_eq_some_iff.1 f;exact J.cell (r j aj)
 ·simp at f;subst f;refine⟨?_,J.free _⟩;rw[J.cell (xd (by omega))];rfl
 ·have:(K l+1)*d<=100000*1000:=Nat.mul_le_mul (by omega) ab;omega
 ·have e1:w.setCells b (of+K l*1) [u]=w.setCell ⟨b,of+K l,C⟩ u:=by simp[World.setCells]
  rw[e1];have:=hK (E (O ⟨b,of,C⟩) (K l+1) p) (w.setCell ⟨b,of+K l,C⟩ u) ⟨b,of,p,W.set (of+K l) u,by simp,J.set _ _,aa,by simpa using hr,by simpa using ac,fun j f=>?_⟩ (dG (fH _ _) _ _)
  ·exact this
  ·rw[xb];by_cases c:j=K l
   ·subst c;rw[if_pos rfl,if_pos (by omega)];simp
   ·have y:j<K l:=by simp at f;omega
    rw[if_neg (by omega),r j y,List.getElem_append_left y]
 ·refine hK T H ?_ ⟨m.os,m.tape,m.output,m.size,fun k hk _=>m.block k hk (by simp)⟩;obtain⟨_,h⟩:=ho
  rcases h with⟨_,h⟩|⟨g,c',V,rfl,ae,af,ag,am,ah,ai⟩
  ·omega
  ·have L:(l++[u]).length=K l+1:=by simp
   refine⟨g,0,c',V.toList,by rw[L],by unfold Blk;rw[af],x7 hB ae,by rw[L];exact ag,by simp[ah],fun j f=>?_⟩;rw[L]at f;have e2:(V.toList.take ((K l+1)*1))[j]?=V.toList[j]?:=by rw[List.getElem?_take,if_pos (by omega)]
   rw[Nat.zero_add,<- e2,ai,xd (by rw[L];exact f)]
def RK(g o n:Nat):(⟨g,o,C⟩:Addr).add n=⟨g,o+n,C⟩:=by by_cases h:n=0<;>simp[Addr.add,h]
def Sl.tl{w:World}{B o a:Nat}{x:Value}(h:Sl w B (E (O ⟨b,o,C⟩) (K l+1) a) (x::l) t):∃o' c',(∀d,(Instr.slice 37 (E (O ⟨b,o,C⟩) (K l+1) a) (O (G I 1)) C C).run prog d=.ok (E (O ⟨b,o',C⟩) (K l) c') d)/\Sl w B (E (O ⟨b,o',C⟩) (K l) c') l t:=by
 obtain⟨D,J,p,f,e,m,q,z,H,r⟩:=h;simp only[x8,Value.slice.injEq,Option.some.injEq,Addr.mk.injEq,and_true,true_and]at e;obtain⟨⟨rfl,rfl⟩,rfl⟩:=e;simp only[x8]at z r;have k:∀d,(Instr.slice 37 (E (O ⟨b,o,C⟩) (K l+1) a) (O (G I 1)) C C).run prog d=.ok (sliced (O ⟨b,o,C⟩) 1 (K l+1) a 1) d:=fun d=>by
  have m:=run_slice_l (w:=d) (P:=prog) 37 (O ⟨b,o,C⟩) (K l+1) a (by kernel_rfl) I 1 (by omega) (by omega);rw[m,show(sizeOf (prog.elem 37)).run prog d=.ok 1 d by kernel_rfl,Result.andThen_ok];rfl
 by_cases h:a=1
 ·subst h;have y:l=[]:=List.eq_nil_of_length_eq_zero (by omega);subst y;exact⟨o,0,fun d=>by rw[k];simp[sliced],b,o,0,f,Z,m,q,by simp,by omega,fun j v=>by simp at v⟩
 ·refine⟨o+1,a-1,fun d=>?_,b,o+1,a-1,f,Z,m,q,by omega,by omega,fun j v=>?_⟩
  ·rw[k];unfold sliced;simp[RK];omega
  ·have:=r (j+1) (by omega);simp only[List.getElem_cons_succ]at this;rw[<- this];congr 1;omega
namespace J
def Rn(n:Nat)(R:Nat->Nat->Bool)(a b:Nat):Prop:=a<n/\b<n/\R a b=Y
structure WK(n:Nat)(R:Nat->Nat->Bool)(i:Nat)(s:Nat->Bool)(l:List Nat)(D:Nat->Prop):Prop where
 reach:∀j,s j=Y->j<n/\TC (Rn n R) i j
 que:∀x∈l,x<n/\(x=i\/s x=Y)
 done:∀x,x=i\/s x=Y->x∈l\/D x\/∀j,j<n->R x j=Y->s j=Y
def NA(n:Nat)(s:Nat->Bool):Nat:=((xF n).filter fun j=>!s j).length
def eZ(s:Nat->Bool)(j:Nat):Nat->Bool:=fun x=>if x=j then Y else s x
def Ml{r:Nat->Bool}(h:∀j,j<n->s j=r j):NA n s=NA n r:=by
 unfold NA;rw[List.filter_congr fun j a=>by rw[h j (List.mem_range.1 a)]]
def sG(a:j<n)(h:s j=U):NA n (eZ s j)+1=NA n s:=by
 induction n with
 |zero=>omega
 |succ n ih =>
  unfold NA at*;rw[List.range_succ,xe,xe,x9,x9];by_cases c:j=n
  ·subst c;have e:=Ml (n:=j) (s:=eZ s j) (r:=s) (fun x d=>by unfold eZ;rw[if_neg (by omega)]);unfold NA at e;rw[e];simp[eZ,h]
  ·have e:eZ s j n=s n:=by unfold eZ;rw[if_neg fun e=>c e.symm]
   have:=ih (by omega);simp only[List.filter_cons,List.filter_nil,e];omega
def WK.start(n:Nat)(R:Nat->Nat->Bool)(i:Nat)(c:i<n):WK n R i (fun _=>U) [i] fun _=>False:=
 ⟨fun j h=>(by cases h),fun x a=>by simp at a;subst a;exact⟨c,xW Z⟩,fun x a=>by
  rcases a with rfl|h
  ·exact xW (by simp)
  ·cases h⟩
def vD(n:Nat)(s:Nat->Bool):NA n s<=n:=by
 unfold NA;have:=List.length_filter_le (fun j=>!s j) (xF n);simpa using this
section
variable {n:Nat}{R:Nat->Nat->Bool}{i k:Nat}{s:Nat->Bool}{l:List Nat}
def WK.IX(h:WK n R i s (k::l) fun _=>False):WK n R i s l fun x=>x=k:=
 ⟨h.reach,fun x a=>h.que x (List.mem_cons_of_mem _ a),fun x a=>by
  rcases h.done x a with c|c|c
  ·rcases List.mem_cons.1 c with c|c
   ·exact xR (xW c)
   ·exact xW c
  ·cases c
  ·exact xR (xR c)⟩
def WK.fin(h:WK n R i s l fun x=>x=k)(a:∀j,j<n->R k j=Y->s j=Y):WK n R i s l fun _=>False:=
 ⟨h.reach,h.que,fun x d=>by
  rcases h.done x d with c|c|c
  ·exact xW c
  ·subst c;exact xR (xR a)
  ·exact xR (xR c)⟩
def WK.push(h:WK n R i s l fun x=>x=k)(o:k<n/\(k=i\/s k=Y))(f:j<n)(m:R k j=Y):WK n R i (eZ s j) (l++[j]) fun x=>x=k:=by
 have up:∀x,s x=Y->eZ s j x=Y:=fun x a=>by unfold eZ;by_cases c:x=j<;>simp[c,a]
 refine⟨fun x a=>?_,fun x a=>?_,fun x a=>?_⟩
 ·unfold eZ at a;by_cases c:x=j
  ·subst c;refine⟨f,?_⟩;have b:TC (Rn n R) k x:=TC.base ⟨o.1,f,m⟩
   rcases o.2 with e|e
   ·rw[<- e];exact b
   ·exact(h.reach k e).2.trans b
  ·rw[if_neg c]at a;exact h.reach x a
 ·rcases List.mem_append.1 a with c|c
  ·exact⟨(h.que x c).1,(h.que x c).2.imp id (up x)⟩
  ·simp at c;subst c;exact⟨f,xR (by simp[eZ])⟩
 ·by_cases c:x=j
  ·subst c;exact xW (by simp)
  ·have:x=i\/s x=Y:=a.imp id fun e=>by unfold eZ at e;rwa [if_neg c]at e
   rcases h.done x this with d|d|d
   ·exact xW (List.mem_append_left _ d)
   ·exact xR (xW d)
   ·exact xR (xR fun y p m=>up y (d y p m))
def WK.IP(h:WK n R i s [] fun _=>False)(o:i<n)(j:Nat):s j=Y↔TC (Rn n R) i j:=by
 refine⟨fun e=>(h.reach j e).2,fun t=>?_⟩;have f:∀x y,TC (Rn n R) x y->x=i\/s x=Y->s y=Y:=fun x y t=>t (fun x y=>x=i\/s x=Y->s y=Y) (fun x y ⟨k,a,m⟩ d=>by
  rcases h.done x d with c|c|c
  ·simp at c
  ·cases c
  ·exact c y a m) fun x y z k a d=>a (xR (k d))
 exact f i j t (xW Z)
end
end J
def lU(l:List Nat):List Value:=l.map fun x:Nat=>G I (x:Int)
def CI(gt n:Nat)(aL:Nat->Nat)(R:Nat->Nat->Bool)(w:World)(h:TabAt w gt n aL R):
  Calls prog 143 #[MU gt n n] w fun e w'=>YD w w' n (fun i k=>J.yes (TC (J.Rn n R) i k)) e:=by
 have H:=MS h;have hn:=h.n;clear h;obtain⟨i0,hi,aQ,aR,aS⟩:∃i0,prog.info? 3=O i0/\i0.zero=O (G I 0)/\i0.size=1/\i0.bytes=8:=⟨_,Z,by kernel_rfl,by kernel_rfl,by kernel_rfl⟩;go_enter func143,ntmps143;go_wp2_with(first|(go_at_call 142;refine(yV n _ hn).mono ?_;rintro e w1 ⟨go,d,rfl,⟨aw,aq,ad⟩,ap⟩;have aE:=MS aw;have HG:=MS aq;have al:=MS ad;have B1:=MS ap;clear aw aq ad ap));go_loopw[5] (fun i wr=>∃(k:Nat) (T:Nat->Nat->Bool),k<=n/\i=G I k/\MT (JTab wr go n d T)/\MT (∀x y,(x<k->(T x y=Y↔TC (J.Rn n R) x y))/\(k<=x->T x y=U))/\MT (Below (F (A w)) w wr)) fun i _=>n-(intOf i).toNat
 case atStart=>exact⟨0,_,x5 _,Z,aE,fun x y=>⟨fun h=>absurd h (x6 _),fun _=>Z⟩,B1⟩
 case round =>
  obtain⟨i,T,hk,rfl,HT,HS,HB⟩:=hrel;by_cases hlt:i<n
  ·have aO:(i:Int)<(n:Int):=by omega
   go_wp2;go_loopg [6] (J.NA n (T i)+1) fun g lv wx=>∃(T':Nat->Nat->Bool) (L:List Nat),MT (g=J.NA n (T' i)+K L)/\MT (Sl wx (F (A w)) lv (lU L) 3)/\MT (JTab wx go n d T')/\MT (J.WK n R i (T' i) L fun _=>False)/\MT (∀x y,x≠i->T' x y=T x y)/\MT (g<=n+1)/\MT (Below (F (A w)) w wx)
   case atStart =>
    refine⟨T,[i],Z,?_,?_,?_,fun _ _ _=>Z,?_,?_⟩
    ·refine⟨F (A wr),0,1,[G I (i:Int)],Z,?_,HB.size,x1 _,x1 _,fun j hj=>?_⟩
     ·exact Blk.new wr [G I (i:Int)] 3
     ·simp[lU]at hj;subst hj;rfl
    ·exact HT.X ((x3 _ _).alloc (x1 _) _)
    ·have e:T i=fun _=>U:=by funext y;exact(HS.o i y).2 (x1 _)
     rw[e];exact J.WK.start n R i hlt
    ·unfold MT;have:=J.vD n (T i);omega
    ·exact HB.alloc HB.size _
   case round =>
    obtain⟨T',L,az,HL,an,HW,HO,am,ak⟩:=hrel
    cases L with
    |nil =>
     obtain⟨b,o,aJ,aK,rfl,hb,aM,au,aN,ab⟩:=HL.o;clear ab hb;simp only[lU,List.map_nil,xg]at *;go_wp2;go_roundw
     case rel =>
      refine⟨i+1,T',by omega,by go_num,an,fun x y=>⟨fun B=>?_,fun B=>?_⟩,ak⟩
      ·by_cases c:x=i
       ·rw[c];exact HW.IP hlt y
       ·rw[HO.o x y c];exact(HS.o x y).1 (by omega)
      ·rw[HO.o x y (by omega)];exact(HS.o x y).2 (by omega)
     case measure=>simp[intOf];omega
    |cons k L =>
     have ah:=HW.que k (by simp);have aA:=MS ah;have ac:k<n:=ah.1;have aU:(k:Int)<(n:Int):=by omega
     clear ah;have aH:=MS HW.IX;clear HW;have ai:=HL.o;obtain⟨b,o,aJ,aK,rfl,hb,aM,au,aN,ab⟩:=HL.o;have aj:(lU (k::L)).length=(lU L).length+1:=by simp[lU]
     have aY:wr.cell? ⟨b,o,C⟩=O (G I (k:Int)):=by have:=hb.cell (ab 0 (by rw[aj];omega));simpa[lU]using this
     rw[aj]at ai au⊢;obtain⟨o',c',aZ,ar⟩:=Sl.tl ai;have aB:=MS ar;have lb:=hb.lt;have aV:(0:Int)<(((lU L).length+1:Nat):Int):=by omega
     clear ai ab ar aj hb HL;go_wp2;go_loopw[6,8] (fun lv q wx=>∃(j:Nat) (a:Nat->Nat->Bool) (r:List Nat),j<=n/\q=G I j/\MT (J.NA n (a i)+K r<gk)/\MT (Sl wx (F (A w)) lv (lU r) 3)/\MT (JTab wx go n d a)/\MT (J.WK n R i (a i) r fun x=>x=k)/\MT (∀x y,x≠i->a x y=T x y)/\MT (∀y,y<j->R k y=Y->a i y=Y)/\MT (k=i\/a i k=Y)/\MT (Below (F (A w)) w wx)) fun _ q _=>n-(intOf q).toNat
     case atStart=>exact⟨0,T',L,x5 _,Z,by unfold MT;rw[az.o];simp,aB,an,aH,HO,fun y S=>absurd S (x6 _),aA.2,ak⟩
     case round =>
      obtain⟨j,a,r,hj,rfl,HC,z,m,aa,V,HR,HK,D⟩:=hrel;by_cases hjl:j<n
      ·have aP:(j:Int)<(n:Int):=by omega
       have KT:=H.X D.o;have r1:=KT.row k ac;have b1:=KT.bit k j ac hjl;have bb:=KT.lg;have bd:=KT.lr k ac;have OT:=m.at_;have r2:=OT.row i hlt;have b2:=OT.bit i j hlt hjl;have ba:=OT.lg;have bc:=OT.lr i hlt;have aW:=(m.row i hlt).free j;clear KT OT;have af:MT (∀T3:Nat->Nat->Bool,(∀y,a i y=Y->T3 i y=Y)->(R k j=Y->T3 i j=Y)->∀y,y<j+1->R k y=Y->T3 i y=Y):=fun T3 h1 h2 y S hr=>by
        by_cases c:y=j
        ·rw[c]at hr⊢;exact h2 hr
        ·exact h1 y (HR.o y (by omega) hr)
       cases z1:R k j
       ·rw[z1]at b1;go_wp2;go_roundw
        case rel=>exact⟨j+1,a,r,by omega,by go_num,HC,z,m,aa,V,af.o a (fun _ h=>h) (fun h=>by rw[z1]at h;cases h),HK,D⟩
        case measure=>simp[intOf];omega
       ·rw[z1]at b1
        cases z2:a i j
        ·rw[z2]at b2;have HP:=MS (aa.push ⟨ac,HK.o⟩ hjl z1);have e1:dH a i j Y i=J.eZ (a i) j:=by funext y;simp[dH,J.eZ]
         have HE:=MS e1;clear e1;have aG:=MS (m.set i j hlt Y);have ae:=MS (D.setCell (p:=⟨d i,j,C⟩) (al.o i hlt) (N Y));have ag:MT (Sl (wr.setCell ⟨d i,j,C⟩ (N Y)) (F (A w)) u6 (lU r) 3):=z.keep fun x B=>xa _ _ _ _ fun e=>z.off (m.row i hlt) (by decide) (by rw[B,e])
         have ao:(lU r).length<100000:=by have:=HC.o;have:=am.o;simp only[lU,List.length_map];omega
         have aC:=MS ao;clear ao;obtain⟨b3,o3,c3,aT,rfl,_,_,_,_,_⟩:=z.o;have aI:MT ((wr.setCell ⟨d i,j,C⟩ (N Y)).heap.size=F (A wr)):=by unfold MT;simp
         go_wp2_with(first
          |(at_builtin;generalize wr.setCell ⟨d i,j,C⟩ (N Y)=W at*;refine Mk _ Z (.tmp 56) (.tmp 58) 37 Z 3 i0 (G I 0) 8 underlying37 hi aQ aR aS Z (F (A w)) _ (lU r) Z ?c1 ?c2 ⟨F (A wr),0,C⟩ 1 (G I (j:Int)) Z ?c3 Z ?c4 (by decide) ?_))
         case c1=>exact ag.X ((x3 _ _).alloc (x1 _) _)
         case c2=>exact x7 ae.size (by simp)
         case c3=>rw[<- aI.o];exact(Blk.new W [G I (j:Int)] 3).cell Z
         case c4=>exact aC.o
         intro v' w' av f;have aD:=MS av;have HA:MT (Below (F (A W)) W (W.alloc (M #[G I (j:Int)] 3))):=(x3 _ _).alloc (x1 _) _;have aF:MT (JTab w' go n d (dH a i j Y)):=by
          have t1:=aG.X HA.o;refine t1.keep fun x B=>f.block x ?_ ?_
          ·rcases B with rfl|⟨y,S,rfl⟩
           ·exact t1.top.lt
           ·exact(t1.row y S).lt
          ·have s1:=ag.X HA.o;intro e
           rcases B with rfl|⟨y,S,rfl⟩
           ·exact s1.off t1.top (by decide) e.symm
           ·exact s1.off (t1.row y S) (by decide) e.symm
         have ax:MT (Below (F (A w)) w w'):=by
          obtain⟨b4,e4,aX,_⟩:=ag.blk;rw[e4]at f;have b0:=ae.alloc ae.size (M #[G I (j:Int)] 3);exact⟨f.os.trans b0.os,f.tape.trans b0.tape,f.output.trans b0.output,x7 b0.size f.size,fun x B=>(f.block x (Nat.lt_of_lt_of_le B b0.size) (by simp;omega)).trans (b0.block x B)⟩
         have ay:MT (J.NA n (dH a i j Y i)+(r++[j]).length<gk):=by
          unfold MT;rw[HE.o];have h1:=J.sG hjl z2;have h2:=HC.o;simp only[x9,x8,xg];omega
         clear av f;go_wp2;go_roundw
         case rel =>
          refine⟨j+1,dH a i j Y,r++[j],by omega,by go_num,ay,?_,aF,?_,?_,af.o (dH a i j Y) (fun y S=>?_) fun _=>by simp[dH],?_,ax⟩
          ·have e:lU (r++[j])=lU r++[G I (j:Int)]:=by simp[lU]
           rw[e];exact aD
          ·rw[HE.o];exact HP
          ·exact fun x y B=>by show dH a i j Y x y=T x y;rw[<- V.o x y B];simp[dH,B]
          ·rw[HE.o];unfold J.eZ;by_cases c:y=j<;>simp[c,S]
          ·exact HK.imp id fun e=>by rw[HE.o];unfold J.eZ;by_cases c:k=j<;>simp[c,e]
         case measure=>simp[intOf];omega
        ·rw[z2]at b2;go_wp2;go_roundw
         case rel=>exact⟨j+1,a,r,by omega,by go_num,HC,z,m,aa,V,af.o a (fun _ h=>h) fun _=>z2,HK,D⟩
         case measure=>simp[intOf];omega
      ·have aP:¬(j:Int)<(n:Int):=by omega
       go_wp2;go_roundg (J.NA n (a i)+K r)
       case measure=>exact HC.o
       case rel=>exact⟨a,r,Z,z,m,aa.fin fun y S hr=>HR.o y (by omega) hr,V,by unfold MT;have:=HC.o;have:=am.o;omega,D⟩
  ·have aO:¬(i:Int)<(n:Int):=by omega
   go_wp2;go_ret;refine⟨go,d,Z,⟨HT.to fun x y B S=>?_,HG.o,al.o⟩,HB.o⟩;have:=(HS.o x y).1 (by omega)
   cases c:T x y
   ·rw[J.iQ fun t=>by rw[this.2 t]at c;cases c]
   ·rw[J.fS (this.1 c)]
