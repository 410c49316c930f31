import Derived.Test.YtehclbpoabdpoaaGreatDoorO22
set_option linter.all false
set_option maxHeartbeats 0
namespace Go.Proofs.YtehclbpoabdpoaaGreatDoor
open Go Go.RowKit Go.Proofs.Tryz P Q
open scoped Classical
set_option maxRecDepth 1000000
variable {w w':World}{B cap g i n:Nat}{t:TypeId}{vs xs:List Value}{u:Value}{l:List Int}{rs:List (List Int)}
open List renaming length->E
open _root_.Array renaming size->U
open Go.World renaming heap->N,cell?->z
open Option renaming none->Y,some->C
open Go.Value renaming slice->O
open Go.Obj renaming cells->I
open Bool renaming false->G
open Go.Value renaming ownBlock->xF,slice->x1
open Or renaming inr->xR,inl->xW
open Go.RowKit.Below renaming heap_setCell->x2,heap_alloc->x4,refl->xb
open Nat renaming lt_of_lt_of_le->x3,zero_le->x6,le_refl->x7,add_sub_cancel->x9
open List renaming getElem?_eq_getElem->x5,mem_of_getElem?->x8,getElem_mem->xc,getElem_append_left->xd,getElem?_append_right->xe,getElem_append_right->xg,set_append_right->xh,mem_cons_of_mem->xj
open Go.World renaming cell?_setCell_other->xi
def Tryz.infoRow:(prog.info? 37).map (fun i=>(i.zero,i.size,i.bytes))=C (C (O Y 0 0),1,24):=by kernel_rfl
structure OutIn(w:World)(B g:Nat)(rs:List (List Int)):Prop where
 ex:∃v vs,z w ⟨g,0,Y⟩=C v/\NX w B v rs vs
 lt:g<U (N w)
 free:w.frozen? ⟨g,0,Y⟩=G
 ty:∀c t fr,w.heap[g]?=C (I c t fr)->t≠37/\t≠3
def N7(B g:Nat)(T:Value)(rs:List (List Int))(r:List Int)(w:World)(h:OutIn w B g rs)(hr:PC w T r)(J:QB rs)(hs:∀x∈rs,Q.QN x/\E x<1000)(d:Q.QN r/\E r<1000)(hn:E rs<100000000)(m:aM rs r<E rs)(L:cmp (rs.getD (aM rs r) []) r=0):
  Calls prog 82 #[.pointer (C ⟨g,0,Y⟩),T] w fun e w'=>e=.returned (.tuple #[])/\Below (U (N w)) w w':=by
 obtain⟨v,vs,S,a⟩:=h.ex;have M:=h.lt;have D:=MS a;obtain⟨xa,ca,rfl,K⟩:=a.form;obtain⟨b,rfl,aa,W,H⟩:=K (by omega);have j:aM rs r<E vs:=by rw[a.len];exact m
 have A:=MS (a.y (aM rs r) m vs[aM rs r] (x5 j));have e1:rs.getD (aM rs r) []=rs[aM rs r]:=by simp[m]
 rw[e1]at L;have k:=hs rs[aM rs r] (xc m);have q:=MS (H (aM rs r) j);have V:=MS hs;have f:=MS hr;have s:=MS J;have ab:(aM rs r:Int)<(E rs:Int):=by omega
 generalize vs[aM rs r]=u at*;generalize hy:rs[aM rs r]=y at*;go_enter func82,ntmps82;go_wp2_with(first
  |(go_at_call 123;refine(YN B g _ _ rs vs r _ S M D.o f.o s.o V.o d hn).mono ?_;rintro e w1 ⟨rfl,c⟩;have d0:=MZ c M S;have cu:=(c.cell (p:=⟨b,aM rs r,Y⟩) W).trans q.o)
  |(go_at_call 124;refine(BP _ _ y r _ (A.X c) (f.X c) k.1 d.1 k.2 d.2).mono ?_;rintro e w2 ⟨rfl,F⟩;rw[L]))
 (try simp only[Exit.inBlock,Exit.then]);refine bodyPost_ret (results_none Z _ _ _) Z ?_
 exact⟨Z,NE c (x7 _) F⟩
def YZ(h:w.ownsRow B t 1 (MU g n cap) n xs)(p:i<n):(w.setCell ⟨g,i,Y⟩ u).ownsRow B t 1 (MU g n cap) n (xs.set i u):=by
 refine⟨by rw[List.length_set];exact h.1,?_⟩
 rcases h.2 with⟨e,_⟩|⟨o,b,a,e,k,m,c,d,f,j⟩
 ·simp at e
 ·simp only[Value.slice.injEq,Option.some.injEq,Addr.mk.injEq]at e;obtain⟨⟨rfl,_⟩,_,rfl⟩:=e;refine xR ⟨g,cap,a.setIfInBounds i u,Z,k,bX m i u,c,d,by simpa using f,?_⟩;rw[<- j];simp[List.take_set]
def DT(h:w.ownsRow B t 1 (MU g n cap) n xs)(a:i<E xs):z w ⟨g,i,Y⟩=C xs[i]:=by
 rw[h.cellAt i (by have:=h.1;omega),x5 a]
def ZA(h:w.ownsRow B t 1 (MU g n cap) n xs)(i:Nat):w.frozen? ⟨g,i,Y⟩=G:=by
 rcases h.2 with⟨e,_⟩|⟨d,a,b,e,f,c,_⟩
 ·simp at e
 ·simp only[Value.slice.injEq,Option.some.injEq,Addr.mk.injEq]at e;obtain⟨⟨rfl,_⟩,_⟩:=e;simp[World.frozen?,c]
def SU(w:World)(u:Value)(l:List Int):Prop:=∃k,u=MU k (E l) (E l)/\NM w k l
def SU.own(h:SU w u l)(a:∀k,u.ownBlock=C k->w'.heap[k]?=w.heap[k]?):SU w' u l:=by
 obtain⟨k,rfl,h⟩:=h;exact⟨k,Z,h.aC (a k Z)⟩
structure Hand(w:World)(rs:List (List Int))(vs:List Value):Prop where
 ex:∀i (h:i<E rs) (u:Value),vs[i]?=C u->SU w u rs[i]
 nd:vs.Pairwise fun a b=>a.ownBlock≠b.ownBlock
def Hand.own(h:Hand w rs vs)(c:∀u∈vs,∀k,u.ownBlock=C k->w'.heap[k]?=w.heap[k]?):Hand w' rs vs :=
 ⟨fun i b u a=>(h.ex i b u a).own (c u (x8 a)),h.nd⟩
def ZB{R:Value->List Int->Prop}{a:Nat}{x:Value}{r:List Int}(p:E vs=E rs)(k:a<=E rs)(c:∀i (h:i<E rs) (u:Value),vs[i]?=C u->R u rs[i])(e:R x r)(q:Nat)(m:q<(rs.take a++r::rs.drop a).length)(u:Value)(b:(vs.take a++x::vs.drop a)[q]?=C u):R u (rs.take a++r::rs.drop a)[q]:=by
 by_cases h1:q<a
 ·rw[List.getElem?_append_left (by simp;omega)]at b;rw[xd (by simp;omega)];have o:q<E vs:=by omega
  simp only[List.getElem?_take,h1,if_true]at b;simp only[List.getElem_take];exact c q (by omega) u b
 ·by_cases h2:q=a
  ·subst h2;rw[xe (by simp;omega)]at b;rw[xg (by simp;omega)];have f:q-(vs.take q).length=0:=by simp;omega
   have j:q-(rs.take q).length=0:=by simp;omega
   rw[f]at b;simp at b;subst b;simp only[j,List.getElem_cons_zero];exact e
  ·rw[xe (by simp;omega)]at b;rw[xg (by simp;omega)];obtain⟨d,s⟩:∃d,q=a+1+d:=⟨q-a-1,by omega⟩;have f:q-(vs.take a).length=d+1:=by simp;omega
   have j:q-(rs.take a).length=d+1:=by simp;omega
   rw[f]at b;simp only[List.getElem?_cons_succ,List.getElem?_drop]at b;simp only[j,List.getElem_cons_succ,List.getElem_drop];simp at m;exact c (a+d) (by omega) u b
def N8{x:Value}(c:Nat)(h:vs.Pairwise fun a b=>a.ownBlock≠b.ownBlock)(e:∀u∈vs,x.ownBlock≠u.ownBlock):(vs.take c++x::vs.drop c).Pairwise fun a b=>a.ownBlock≠b.ownBlock:=by
 have d:(vs.take c++x::vs.drop c).Perm (x::vs):=by
  have:=@List.perm_middle _ x (vs.take c) (vs.drop c)
  rwa [List.take_append_drop]at this
 rw[d.pairwise_iff fun h=>h.symm];exact List.pairwise_cons.2 ⟨e,h⟩
structure OU(w:World)(B g:Nat)(rs:List (List Int))(ov:Value)(vs:List Value)(fp:List Nat):Prop where
 cell:z w ⟨g,0,Y⟩=C ov
 lt:g<U (N w)
 free:w.frozen? ⟨g,0,Y⟩=G
 y:NX w B ov rs vs
 ty:∃c,w.heap[g]?=C (I c 119 (0,0))\/w.heap[g]?=C (I c 77 (0,0))
 fps:∀u∈vs,∀k,u.ownBlock=C k->k∈fp
 fpl:∀k∈fp,k<U (N w)
 dis:∀k∈fp,k≠g/\ov.ownBlock≠C k
 hand:Hand w rs vs
structure PF(w w':World)(g:Nat)(ov ov':Value)(fp fp':List Nat):Prop where
 os:w'.os=w.os
 tape:w'.tape=w.tape
 output:w'.output=w.output
 size:U (N w)<=U (N w')
 block:∀k,k<U (N w)->k≠g->ov.ownBlock≠C k->w'.heap[k]?=w.heap[k]?
 own:ov'.ownBlock=ov.ownBlock\/∃b,ov'.ownBlock=C b/\U (N w)<=b
 fpn:∀k∈fp',k∈fp\/U (N w)<=k
 c1:z w' ⟨g,1,Y⟩=z w ⟨g,1,Y⟩
def PC.own{v:Value}(h:PC w v l)(w':World)(e:∀k,v.ownBlock=C k->w'.heap[k]?=w.heap[k]?)(hs:U (N w)<=U (N w')):PC w' v l:=by
 rcases h with h|⟨g,cap,rfl,c,f,b⟩
 ·exact xW h
 ·refine xR ⟨g,cap,Z,fun i d=>?_,by omega,b⟩;rw[World.cell?_of_block (w:=w) (a:=⟨g,i,Y⟩) (e g rfl)];exact c i d
namespace Q
def N9(vs:List Value)(i:Nat)(x:Value)(a:0<i)(b:i<=E vs)(h:i-1<(vs.take i++x::vs.drop i).length):(vs.take i++x::vs.drop i)[i-1]=vs[i-1]'(by omega):=by
 rw[xd (by simp;omega)];simp
def Oa(vs:List Value)(i:Nat)(x:Value)(b:0<i)(c:i<=E vs):(vs.take i++x::vs.drop i).set i (vs[i-1]'(by omega))=vs.take (i-1)++vs[i-1]'(by omega)::vs.drop (i-1):=by
 obtain⟨j,rfl⟩:∃j,i=j+1:=⟨i-1,by omega⟩;have a:j<E vs:=by omega
 have e:j+1-(vs.take (j+1)).length=0:=by simp;omega
 rw[xh _ _ (by simp;omega),e];simp only[List.set_cons_zero,x9];rw[List.drop_eq_getElem_cons a,List.take_succ_eq_append_getElem a,List.append_assoc];rfl
def Ob(vs:List Value)(i:Nat)(x y:Value)(a:i<=E vs):(vs.take i++x::vs.drop i).set i y=vs.take i++y::vs.drop i:=by
 have e:i-(vs.take i).length=0:=by simp;omega
 rw[xh _ _ (by simp;omega),e];rfl
end Q
def ZC(B g:Nat)(vr ov:Value)(rs:List (List Int))(vs:List Value)(fp:List Nat)(r:List Int)(w:World)(h:OU w B g rs ov vs fp)(hr:PC w vr r)(bb:QB rs)(hs:∀x∈rs,Q.QN x/\E x<1000)(ao:Q.QN r/\E r<1000)(hn:E rs<100000000)(hB:B<=U (N w))(hc:aM rs r<E rs->cmp (rs.getD (aM rs r) []) r≠0)(aB:∀k,vr.ownBlock=C k->k≠g/\ov.ownBlock≠C k):
  Calls prog 82 #[.pointer (C ⟨g,0,Y⟩),vr] w fun e w'=>e=.returned (.tuple #[])/\∃ov' vs' fp',OU w' B g (rs.take (aM rs r)++r::rs.drop (aM rs r)) ov' vs' fp'/\PF w w' g ov ov' fp fp':=by
 obtain⟨i0,aU,bf,bg,bh⟩:=info_parts Tryz.infoRow;have hv:=h.cell;have hg:=h.lt;have H:=MS h;obtain⟨xa,ca,rfl,be⟩:=h.y.form;obtain⟨ya,yc,rfl,_⟩:=hr.form;have ag:=MS hr;have aJ:=MS bb;have HS:=MS hs;have am:=YK rs r;generalize an:aM rs r=m at*;have aI:=MS an;go_enter func82,ntmps82;go_upto_region 1 with(first|(go_at_call 123;refine(YN B g _ _ rs vs r _ hv hg H.y ag.o aJ.o HS.o ao hn).mono ?_;rintro e w1 ⟨rfl,ak⟩;rw[aI.o]))
 have d0:=MZ ak hg hv;have aa:=MS ak;have aZ:m<E rs->m<E vs:=fun h=>by rw[H.y.len];exact h
 go_cut[27]from 9 to 26 fun s wx=>s=.bool G/\MT (Below (U (N w)) w wx)
 case first =>
  by_cases hp:m<E rs
  ·have aX:(m:Int)<(E rs:Int):=by omega
   obtain⟨b,rfl,bo,hb,aQ⟩:=be (by omega);have aj:=aZ hp;have cu:=(aa.cell (p:=⟨b,m,Y⟩) hb).trans (aQ m aj);have aK:=MS ((H.y.y m hp vs[m] (x5 aj)).X aa.o);have ar:=MS (ag.X aa.o);have aA:=HS.o rs[m] (xc hp);have ai:=hc hp;have e1:rs.getD m []=rs[m]:=by simp[hp]
   rw[e1]at ai;have bp:(cmp rs[m] r==0)=G:=by simpa using ai
   generalize vs[m]=u at*;generalize rs[m]=y at*;go_wp2_with(first|(go_at_call 124;refine(BP _ _ y r _ aK.o ar.o aA.1 ao.1 aA.2 ao.2).mono ?_;rintro e w2 ⟨rfl,av⟩));go_meet
   case rel=>exact⟨Z,NE aa.o (x7 _) av⟩
  ·have aX:decide ((m:Int)<(E rs:Int))=G:=decide_eq_false (by omega);go_wp2;go_meet
   case rel=>exact⟨Z,aa⟩
 case rest =>
  obtain⟨rfl,A⟩:=hcut;have d0:=MZ A.o hg hv;have lg:=x3 hg A.size;have aH:MT ((wc.alloc (I #[O Y 0 0] 37)).ownsRow B 37 1 (O xa (E rs) ca) (E rs) vs):=bE H.y.own fun k e=>(x4 _ _ _ (by have:=(H.y.own.lt k e).2;have:=A.size;omega)).trans (A.block k (H.y.own.lt k e).2);have aG:MT (∀j u,[x1 Y 0 0][j]?=C u->(wc.alloc (I #[O Y 0 0] 37)).cell? ((⟨U (N wc),0,Y⟩:Addr).add j)=C u):=World.news_of_block (cs:=#[O Y 0 0]) (t:=37) (fr:=(0,0)) (heap_alloc_new wc _);have ad:C g≠(x1 xa (E rs) ca).ownBlock:=fun e=>by
   obtain⟨c,f⟩:=H.ty
   rcases H.y.own.2 with⟨e1,_⟩|⟨g',cap,aN,e1,_,hh,_⟩
   ·rw[e1]at e;simp[xF]at e
   ·rw[e1]at e;simp[xF]at e;subst e
    rcases f with f|f<;>(rw[f]at hh;simp at hh)
  have bw:U (N w)<=U (N wc):=A.size;have d1:(wc.alloc (I #[O Y 0 0] 37)).cell? ⟨g,0,Y⟩=C (O xa (E rs) ca):=(mP lg).trans d0;have f1:(wc.alloc (I #[O Y 0 0] 37)).frozen? ⟨g,0,Y⟩=G:=by rw[World.frozen?_of_block (w:=wc) (a:=⟨g,0,Y⟩) (x4 _ _ _ lg)];exact (A.frozen (p:=⟨g,0,Y⟩) hg).trans H.free
  go_upto_region 3 with(first|(at_builtin;refine wpList_append_lies _ Z (.tmp 32) (.tmp 33) 23 Z B 37 i0 (O Y 0 0) 1 24 underlying23 aU bf bg bh Z (by decide) _ (E rs) vs Z (by exact aH.o) ⟨U (N wc),0,Y⟩ 1 1 [O Y 0 0] Z Z (by exact aG.o) (by simp[Value.oneCell']) (by decide) (by unfold maxLen;omega) (by omega) (by simp;omega) _ Z ?_;intro v J S ae d au ay;have d3:=(d.cell_far ⟨g,0,Y⟩ (by simp;omega) ad).trans d1;have f3:=(d.frozen_far ⟨g,0,Y⟩ (by simp;omega) ad).trans f1;have bi:g<U (N S):=by have:=d.size;simp at this;omega))
  have K:v≠g:=fun e=>by
   obtain⟨c,f⟩:=H.ty
   rcases ae.2 with⟨e1,_⟩|⟨g',cap,aN,e1,_,hh,_⟩
   ·simp at e1
   ·simp only[Value.slice.injEq,Option.some.injEq,Addr.mk.injEq]at e1;rw[<- e1.1.1,e,(d.block g (by simp;omega) ad).trans ((x4 _ _ _ lg).trans (A.block g hg))]at hh
    rcases f with f|f<;>(rw[f]at hh;simp at hh)
  have O3:MT ((S.setCell ⟨g,0,Y⟩ (MU v (E rs+1) J)).ownsRow B 37 1 (MU v (E rs+1) J) (E rs+1) (vs++[O Y 0 0])):=bE ae fun k e=>x2 _ _ _ _ (by simp[xF]at e;simp;omega);have e3:(S.setCell ⟨g,0,Y⟩ (MU v (E rs+1) J)).cell? ⟨g,0,Y⟩=C (MU v (E rs+1) J):=World.cell?_setCell_same _ _ _ d3;have aE:MT ((S.setCell ⟨g,0,Y⟩ (MU v (E rs+1) J)).cell? ⟨g,1,Y⟩=z w ⟨g,1,Y⟩):=by
   unfold MT;rw[xi _ _ _ _ (by simp),d.cell_far ⟨g,1,Y⟩ (by simp;omega) ad,mP lg];exact A.cell (p:=⟨g,1,Y⟩) hg
  have F3:MT (∀k,k<U (N w)->k≠g->(x1 xa (E rs) ca).ownBlock≠C k->(S.setCell ⟨g,0,Y⟩ (MU v (E rs+1) J)).heap[k]?=w.heap[k]?):=fun k h1 h2 h3=>by
   rw[x2 _ _ _ _ h2,d.block k (by simp;omega) fun e=>h3 e.symm,x4 _ _ _ (by omega),A.block k h1]
  have G3:MT ((S.setCell ⟨g,0,Y⟩ (MU v (E rs+1) J)).os=w.os/\(S.setCell ⟨g,0,Y⟩ (MU v (E rs+1) J)).tape=w.tape/\(S.setCell ⟨g,0,Y⟩ (MU v (E rs+1) J)).output=w.output):=⟨d.os.trans A.os,d.tape.trans A.tape,d.output.trans A.output⟩;have bt:U (N w)<=(S.setCell ⟨g,0,Y⟩ (MU v (E rs+1) J)).heap.size:=by have:=d.size;simp at this⊢;omega
  have L:g<(S.setCell ⟨g,0,Y⟩ (MU v (E rs+1) J)).heap.size:=by simpa using bi
  have T3:MT (∃c,(S.setCell ⟨g,0,Y⟩ (MU v (E rs+1) J)).heap[g]?=C (I c 119 (0,0))\/(S.setCell ⟨g,0,Y⟩ (MU v (E rs+1) J)).heap[g]?=C (I c 77 (0,0))):=by
   obtain⟨c,f⟩:=H.ty;have ac:S.heap[g]?=w.heap[g]?:=(d.block g (by simp;omega) ad).trans ((x4 _ _ _ lg).trans (A.block g hg))
   rcases f with f|f
   ·exact⟨_,xW (bX (ac.trans f) 0 _)⟩
   ·exact⟨_,xR (bX (ac.trans f) 0 _)⟩
  have AT:MT ((x1 xa (E rs) ca).ownBlock=C v\/U (N w)<=v):=by
   rcases au with h1|h1
   ·exact xW h1
   ·exact xR (by simp at h1;omega)
  have aT:v<(S.setCell ⟨g,0,Y⟩ (MU v (E rs+1) J)).heap.size:=by simpa using ay
  have W:E vs=E rs:=H.y.len;have ab:=MS W;generalize bl:S.setCell ⟨g,0,Y⟩ (MU v (E rs+1) J)=W3 at*;go_wp2;go_loopw[5] (fun j wr=>∃(i:Nat) (x:Value),m<=i/\i<=E rs/\j=.int .i64 i/\MT (wr.ownsRow B 37 1 (MU v (E rs+1) J) (E rs+1) (vs.take i++x::vs.drop i))/\MT (W3.grownBy wr (C v))) fun j _=>(intOf j).toNat
  case atStart=>exact⟨E rs,O Y 0 0,by omega,x7 _,by go_num,by have h1:=O3.o;have h2:=ab.o;unfold MT;rw[List.take_of_length_le (by omega),List.drop_eq_nil_of_le (by omega)];exact h1,fH _ _⟩
  case round =>
   obtain⟨i,x,bs,br,rfl,HO,M⟩:=hrel;have e4:z wr ⟨g,0,Y⟩=C (MU v (E rs+1) J):=(M.cell_far ⟨g,0,Y⟩ L (by simp;exact fun e=>K e.symm)).trans e3;have af:g<U (N wr):=x3 L M.size;have aD:v<U (N wr):=x3 aT M.size;by_cases hlt:m<i
   ·obtain⟨q,rfl⟩:∃q,i=q+1:=⟨i-1,by omega⟩;have bk:(m:Int)<(q:Int)+1:=by omega
    have aY:(0:Int)<(q:Int)+1:=by omega
    have ak:(q:Int)<(E rs:Int)+1:=by omega
    have av:(q:Int)+1<(E rs:Int)+1:=by omega
    have bc:(q:Int)+1-1=(q:Int):=by omega
    have bu:IntKind.i64.wrap ((q:Int)+1-1)=(q:Int):=by rw[bc];exact IntWalk.i64_in _ ⟨by omega,by omega⟩
    have bd:IntKind.i64.wrap (q:Int)=(q:Int):=IntWalk.i64_in _ ⟨by omega,by omega⟩;have bv:IntKind.i64.wrap (((q+1:Nat):Int)-1)=(q:Int):=by rw[show ((q+1:Nat):Int)-1=(q:Int)by omega];exact bd
    have bn:q+1<E rs+1:=by omega
    have W:=ab.o;have ax:(vs.take (q+1)++x::vs.drop (q+1)).length=E rs+1:=by simp;omega
    have cp:=DT HO.o (i:=q) (by omega);have eg:=N9 vs (q+1) x (by omega) (by omega) (by simp;omega);simp only[x9]at eg;rw[eg]at cp;have ci:=DT HO.o (i:=q+1) (by omega);have fi:=ZA HO.o (q+1);have ba:q<E vs:=by omega
    have aq:=MS (YZ HO.o (i:=q+1) (u:=vs[q]) (by omega));have es:=Oa vs (q+1) x (by omega) (by omega);simp only[x9]at es;rw[es]at aq;have aF:=MS (dG M.o (q+1) vs[q]);obtain⟨ua,un,uc,D⟩:∃ua un uc,vs[q]=O ua un uc:=by
     obtain⟨a1,c1,e1,_⟩:=(H.y.y q (by omega) vs[q] (x5 ba)).form;exact⟨a1,_,c1,e1⟩
    have bm:(0:Int)<=(q:Int)+1:=by omega
    generalize vs[q]=u at*;subst D;generalize(vs.take (q+1)++x::vs.drop (q+1))[q+1]=y at*;go_upto_region 6 with fail
    go_region_held3 (fun w'=>z w' ⟨g,0,Y⟩=C (MU v (E rs+1) J)/\z w' ⟨v,q,Y⟩=C (O ua un uc)) (first|exact⟨e4,cp⟩|exact⟨(cY (by omega)).trans e4,(xi _ _ _ _ (by simp)).trans cp⟩) (first|fail);go_wp2;go_roundw
    case rel=>exact⟨q,_,by omega,by omega,by first|rfl|go_num,aq,zB aF.o⟩
    case measure=>simp[intOf]
   ·have an:m=i:=by omega
    subst an;have W:=ab.o;have ax:(vs.take m++x::vs.drop m).length=E rs+1:=by simp;omega
    have ci:=DT HO.o (i:=m) (by omega);have fi:=ZA HO.o m;have ah:MT (∀k,k<U (N w)->k≠g->(x1 xa (E rs) ca).ownBlock≠C k->wr.heap[k]?=w.heap[k]?):=fun k h1 h2 h3=>by
     rw[M.block k (by omega) (by
      intro e
      rcases AT.o with h4|h4
      ·exact h3 (h4.trans e.symm)
      ·simp at e;omega),F3.o k h1 h2 h3]
    have aL:MT (PC wr (O ya (E r) yc) r):=ag.own wr (fun k e=>ah.o k (by
     rcases ag.o with⟨e1,_⟩|⟨g',cap,e1,_,bq⟩
     ·rw[e1]at e;simp[xF]at e
     ·rw[e1]at e;simp[xF]at e;omega) (aB k e).1 (aB k e).2) (by have:=M.size;omega)
    generalize(vs.take m++x::vs.drop m)[m]=y at*;go_upto_region 8 with fail
    go_region_held3 (fun w'=>z w' ⟨g,0,Y⟩=C (MU v (E rs+1) J)) (first|exact e4|exact p4|exact(cY (by omega)).trans p4) (first
     |(go_at_call 115;refine(CD _ r _ (aL.X (xb _ _).drew) (by omega)).mono ?_;rintro e w5 ⟨V,rfl,aV,aw,aP⟩;have T:MT (Below (U (N wr)) wr w5):=((xb (U (N wr)) wr).drew).trans (aP.mono (by simp));have I5:=MS aV;have p4:=MZ T.o af e4;have p5:=MZ T.o aD ci;have p6:=(T.frozen (p:=⟨v,m,Y⟩) aD).trans fi;have aS:U (N wr)<=V:=(by simpa using aw);have bj:=x3 af T.size))
    all_goals
     (try go_wp2)
     go_end0;have aR:=I5.lt;have O5:=YZ (u:=MU V (E r) (E r)) (bE (w':=w5) HO.o fun k e=>T.block k (HO.lt k e).2) (i:=m) (by omega);rw[Ob vs m x _ (by rw[ab.o];exact am)]at O5;have al:∀k,k<U (N w)->k≠g->(x1 xa (E rs) ca).ownBlock≠C k->(w5.setCell ⟨v,m,Y⟩ (MU V (E r) (E r))).heap[k]?=w.heap[k]?:=fun k h1 h2 h3=>by
      have aW:k≠v:=fun e=>by
       rcases AT.o with h4|h4
       ·exact h3 (by rw[h4,e])
       ·omega
      rw[x2 _ _ _ _ aW,T.block k (by have:=M.size;omega),ah.o k h1 h2 h3]
     have ap:U (N w)<=(w5.setCell ⟨v,m,Y⟩ (MU V (E r) (E r))).heap.size:=by have:=M.size;have:=T.size;simp;omega
     have aO:PC (w5.setCell ⟨v,m,Y⟩ (MU V (E r) (E r))) (MU V (E r) (E r)) r:=(I5.aC (x2 _ _ _ _ (by simp;omega))).qB (E r);have az:∀u∈vs,∀l,PC w u l->PC (w5.setCell ⟨v,m,Y⟩ (MU V (E r) (E r))) u l:=fun u D l hl=>hl.own _ (fun k e=>by
      have F:=H.fps u D k e;exact al k (H.fpl k F) (H.dis k F).1 (H.dis k F).2) ap
     have W:=ab.o;refine⟨Z,_,vs.take m++MU V (E r) (E r)::vs.drop m,V::fp,⟨(cY (by omega)).trans p4,by simpa using bj,?_,⟨?_,?_,?_⟩,?_,?_,?_,?_,?_⟩,?_⟩
     ·rw[World.frozen?_setCell,T.frozen (p:=⟨g,0,Y⟩) af,M.frozen_far ⟨g,0,Y⟩ L (by simp;exact fun e=>K e.symm)];obtain⟨c,f⟩:=T3.o
      rcases f with f|f<;>simp[World.frozen?,f]
     ·have e5:(rs.take m++r::rs.drop m).length=E rs+1:=by simp;omega
      rw[e5];exact O5
     ·simp;omega
     ·exact fun q hq u D=>ZB (R:=PC _) W am (fun i hi u D=>az u (x8 D) _ (H.y.y i hi u D)) aO q hq u D
     ·obtain⟨c,f⟩:=T3.o;have ac:(w5.setCell ⟨v,m,Y⟩ (MU V (E r) (E r))).heap[g]?=W3.heap[g]?:=by rw[x2 _ _ _ _ fun e=>K e.symm,T.block g af,M.block g L (by simp;exact fun e=>K e.symm)]
      rcases f with f|f
      ·exact⟨c,xW (ac.trans f)⟩
      ·exact⟨c,xR (ac.trans f)⟩
     ·intro u D k e
      rcases List.mem_append.1 D with D|D
      ·exact xj _ (H.fps u (List.mem_of_mem_take D) k e)
      ·rcases List.mem_cons.1 D with rfl|D
       ·simp[xF]at e;subst e;simp
       ·exact xj _ (H.fps u (List.mem_of_mem_drop D) k e)
     ·intro k F
      rcases List.mem_cons.1 F with rfl|F
      ·simpa using aR
      ·exact x3 (H.fpl k F) ap
     ·intro k F
      rcases List.mem_cons.1 F with rfl|F
      ·exact⟨by omega,by simp[xF];omega⟩
      ·refine⟨(H.dis k F).1,?_⟩;intro e;simp[xF]at e
       rcases AT.o with h4|h4
       ·exact(H.dis k F).2 (by rw[h4,e])
       ·have:=H.fpl k F;omega
     ·refine⟨fun q hq u D=>ZB (R:=SU _) W am (fun i hi u D=>(H.hand.ex i hi u D).own fun k e=>?_) ⟨V,Z,I5.aC (x2 _ _ _ _ (by simp;omega))⟩ q hq u D,N8 m H.hand.nd fun u D e=>?_⟩
      ·have F:=H.fps u (x8 D) k e;exact al k (H.fpl k F) (H.dis k F).1 (H.dis k F).2
      ·have:=H.fpl V (H.fps u D V e.symm);have:=M.size;omega
     ·refine⟨?_,?_,?_,ap,al,?_,?_,?_⟩
      ·exact(T.os.trans M.os).trans G3.1
      ·exact(T.tape.trans M.tape).trans G3.2.1
      ·exact(T.output.trans M.output).trans G3.2.2
      ·rcases AT.o with h4|h4
       ·exact xW (by rw[h4];rfl)
       ·exact xR ⟨v,Z,h4⟩
      ·intro k F
       rcases List.mem_cons.1 F with rfl|F
       ·exact xR (by have:=M.size;omega)
       ·exact xW F
      ·rw[cY (by omega),T.cell (p:=⟨g,1,Y⟩) af,M.cell_far ⟨g,1,Y⟩ L (by simp;exact fun e=>K e.symm)];exact aE.o
def InP(w:World)(o:Option Addr)(n:Nat):Prop:=0<n->∃b,o=C ⟨b,0,Y⟩/\b<U (N w)/\∀i,i<n->∃a m c,z w ⟨b,i,Y⟩=C (MU a m c)/\m<1000/\a<U (N w)/\∀k,k<m->z w ⟨a,k,Y⟩=C (.int .i64 (-1-(i:Int)))
def ZD(w:World)(o:Option Addr)(n:Nat):Prop:=0<n->∃b,o=C ⟨b,0,Y⟩/\b<U (N w)/\∀i,i<n->∃a m c,z w ⟨b,i,Y⟩=C (O a m c)/\m<=9223372036854775807/\(0<m->∃d,a=C ⟨d,0,Y⟩/\d<U (N w)/\∀k,k<m->∃f,z w ⟨d,k,Y⟩=C (MU f 2 2)/\f<U (N w)/\z w ⟨f,0,Y⟩=C (.int .i64 (i:Int))/\z w ⟨f,1,Y⟩=C (.int .i64 (k:Int)))
def Oc(A:Nat)(W X:Option Addr)(r s c1 c2:Nat)(w:World)(D:A<U (N w))(S:z w ⟨A,1,Y⟩=C (O W r c1))(T:z w ⟨A,2,Y⟩=C (O X s c2))(hI:InP w W r)(hO:ZD w X s)(aa:r<100000000)(ab:s<100000000):
  Calls prog 5 #[.pointer (C ⟨A,0,Y⟩)] w fun e w'=>e=.returned (.bool true)/\Below (U (N w)) w w':=by
 have HI:=MS hI;have HO:=MS hO;go_enter func5,ntmps5;go_wp2;go_loopw[3] (fun j wr=>∃k:Nat,k<=r/\j=.int .i64 k/\MT (Below (U (N w)) w wr)) fun j _=>r-(intOf j).toNat
 case atStart=>exact⟨0,x6 _,Z,xb _ _⟩
 case round =>
  obtain⟨i,hi,rfl,HB⟩:=hrel;have J:=MZ HB.o D S;by_cases hlt:i<r
  ·have v:(i:Int)<(r:Int):=by omega
   obtain⟨b,rfl,M,q⟩:=HI.o (by omega);obtain⟨a,m,c,K,hm,la,y⟩:=q i hlt;have H:=MS y;have F:=MS K;go_wp2;go_loopw[4] (fun j wy=>∃k:Nat,k<=m/\j=.int .i64 k/\MT (Below (U (N w)) w wy)) fun j _=>m-(intOf j).toNat
   case atStart=>exact⟨0,x6 _,Z,HB⟩
   case round =>
    obtain⟨k,y,rfl,HB⟩:=hrel;have J:=MZ HB.o D S;have d2:=(HB.cell (p:=⟨b,i,Y⟩) M).trans F.o;by_cases hkl:k<m
    ·have x:(k:Int)<(m:Int):=by omega
     have d3:=(HB.cell (p:=⟨a,k,Y⟩) la).trans (H.o k hkl);have hw:IntKind.i64.wrap (-1-(i:Int))=-1-(i:Int):=IntWalk.i64_in _ ⟨by omega,by omega⟩;go_wp2;go_roundw
     case rel=>exact⟨k+1,by omega,by go_num,HB⟩
     case measure=>simp[intOf];omega
    ·have x:decide ((k:Int)<(m:Int))=G:=decide_eq_false (by omega);go_wp2;go_roundw
     case rel=>exact⟨i+1,by omega,by go_num,HB⟩
     case measure=>simp[intOf];omega
  ·have v:decide ((i:Int)<(r:Int))=G:=decide_eq_false (by omega);go_wp2;go_loopw[5] (fun j wr=>∃k:Nat,k<=s/\j=.int .i64 k/\MT (Below (U (N w)) w wr)) fun j _=>s-(intOf j).toNat
   case atStart=>exact⟨0,x6 _,Z,HB⟩
   case round =>
    obtain⟨i,hi,rfl,HB⟩:=hrel;have J:=MZ HB.o D T;by_cases hlt:i<s
    ·have v:(i:Int)<(s:Int):=by omega
     obtain⟨b,rfl,M,q⟩:=HO.o (by omega);obtain⟨a,m,c,K,hm,y⟩:=q i hlt;have H:=MS y;have F:=MS K;go_wp2;go_loopw[6] (fun j wy=>∃k:Nat,k<=m/\j=.int .i64 k/\MT (Below (U (N w)) w wy)) fun j _=>m-(intOf j).toNat
     case atStart=>exact⟨0,x6 _,Z,HB⟩
     case round =>
      obtain⟨k,y,rfl,HB⟩:=hrel;have J:=MZ HB.o D T;have d2:=(HB.cell (p:=⟨b,i,Y⟩) M).trans F.o;by_cases hkl:k<m
      ·have x:(k:Int)<(m:Int):=by omega
       obtain⟨d,rfl,ld,L⟩:=H.o (by omega);obtain⟨f,e1,V,e2,e3⟩:=L k hkl;have d3:=MZ HB.o ld e1;have d4:=MZ HB.o V e2;have d5:=MZ HB.o V e3;go_wp2;go_roundw
       case rel=>exact⟨k+1,by omega,by go_num,HB⟩
       case measure=>simp[intOf];omega
      ·have x:decide ((k:Int)<(m:Int))=G:=decide_eq_false (by omega);go_wp2;go_roundw
       case rel=>exact⟨i+1,by omega,by go_num,HB⟩
       case measure=>simp[intOf];omega
    ·have v:decide ((i:Int)<(s:Int))=G:=decide_eq_false (by omega);go_wp2;go_ret;exact⟨Z,HB.o⟩
