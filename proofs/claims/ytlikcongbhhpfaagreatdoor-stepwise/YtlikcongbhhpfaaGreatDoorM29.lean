import Derived.Test.YtlikcongbhhpfaaGreatDoorM28
set_option linter.unusedVariables false
set_option linter.unusedSimpArgs false
set_option maxHeartbeats 12800000
namespace Go.Proofs.YtlikcongbhhpfaaGreatDoor
open Go Go.RowKit Go.Proofs.Tryz P Q
set_option maxRecDepth 1000000
variable {B cap g gd i n o:Nat}{t:TypeId}{vs xs:List Value}{ov u v:Value}{l:List Int}{w' w1:World}{rs:List (List Int)}{fp:List Nat}
open List renaming length->z
open _root_.Array renaming size->M
open Go.World renaming heap->L,cell?->D
open Option renaming none->Y,some->C
open Go.Value renaming slice->O,int->N
open Go.Obj renaming cells->I
open Go.IntKind renaming i64->G
open Go.Ending renaming returned->E
open Bool renaming false->U
open Go.Value renaming ownBlock->xF,slice->xW,int->x6,oneCell'->xe
open Nat renaming le_refl->xR,lt_of_lt_of_le->x3,add_sub_cancel->xc,zero_le->xh
open Or renaming inl->x0,inr->x1
open List renaming mem_of_getElem?->x2,getElem?_eq_getElem->x7,getElem_mem->x9,getElem_append_left->xb,getElem?_append_right->xg,set_append_right->xj,getElem?_append_left->xm,getElem_append_right->xn,mem_cons_of_mem->xo,map_append->xp
open Go.RowKit.Below renaming heap_alloc->x4,refl->x5,heap_setCell->x8
open Go.World renaming news_of_block->xd,cell?_of_block->xi,frozen?_of_block->xk,cell?_setCell_other->xl,ownsRow_nil->xq
theorem Tryz.infoRow:(prog.info? 31).map (fun i=>(i.zero,i.size,i.bytes))=C (C (O Y 0 0),1,24):=by kernel_rfl
structure OutIn(w:World)(B g:Nat)(rs:List (List Int)):Prop where
 ex:∃v vs,D w ⟨g,0,Y⟩=C v/\LA w B v rs vs
 lt:g<M (L w)
 free:w.frozen? ⟨g,0,Y⟩=U
 ty:∀c t fr,w.heap[g]?=C (I c t fr)->t≠31/\t≠3
theorem Om(B g:Nat)(vr:Value)(rs:List (List Int))(r:List Int)(w:World)(h:OutIn w B g rs)(hr:ME w vr r)(K:OX rs)(W:∀x∈rs,Q.NY x/\z x<1000)(d:Q.NY r/\z r<1000)(hn:z rs<100000000)(m:aK rs r<z rs)(T:bP (rs.getD (aK rs r) []) r=0):
  Calls prog 74 #[.pointer (C ⟨g,0,Y⟩),vr] w fun e w'=>e=E (.tuple #[])/\Below (M (L w)) w w':=by
 obtain⟨v,vs,hv,a⟩:=h.ex;have V:=h.lt;have F:=JO a;obtain⟨xa,ca,rfl,S⟩:=a.form;obtain⟨b,rfl,aa,hb,J⟩:=S (by omega);have j:aK rs r<z vs:=by rw[a.len];exact m
 have A:=JO (a.y (aK rs r) m vs[aK rs r] (x7 j));have e1:rs.getD (aK rs r) []=rs[aK rs r]:=by simp[m]
 rw[e1]at T;have k:=W rs[aK rs r] (x9 m);have q:=JO (J (aK rs r) j);have HS:=JO W;have f:=JO hr;have s:=JO K;have ab:(aK rs r:Int)<(z rs:Int):=by omega
 generalize vs[aK rs r]=u at*;generalize hy:rs[aK rs r]=y at*;go_enter func74,ntmps74;go_wp2_with(first
  |(go_at_call 125;refine(YY B g _ _ rs vs r _ hv V F.o f.o s.o HS.o d hn).mono ?_;rintro e w1 ⟨rfl,c⟩;have d0:=JS c V hv;have cu:=(c.cell (p:=⟨b,aK rs r,Y⟩) hb).trans q.o)
  |(go_at_call 126;refine(xX _ _ y r _ (A.o.X c) (f.o.X c) k.1 d.1 k.2 d.2).mono ?_;rintro e w2 ⟨rfl,H⟩;rw[T]))
 (try simp only[Exit.inBlock,Exit.then]);refine bodyPost_ret (results_none Z _ _ _) Z ?_
 exact⟨Z,JW c (xR _) H⟩
theorem ZG{w:World}(h:w.ownsRow B t 1 (JQ g n cap) n xs)(q:i<n):(w.setCell ⟨g,i,Y⟩ u).ownsRow B t 1 (JQ g n cap) n (xs.set i u):=by
 refine⟨by rw[List.length_set];exact h.1,?_⟩
 rcases h.2 with⟨e,_⟩|⟨p,b,a,e,k,m,c,d,f,j⟩
 ·simp at e
 ·simp only[Value.slice.injEq,Option.some.injEq,Addr.mk.injEq]at e;obtain⟨⟨rfl,_⟩,_,rfl⟩:=e;refine x1 ⟨g,cap,a.setIfInBounds i u,Z,k,bC m i u,c,d,by simpa using f,?_⟩;rw[<- j];simp[List.take_set]
theorem xP{w:World}(h:w.ownsRow B t 1 (JQ g n cap) n xs)(a:i<z xs):D w ⟨g,i,Y⟩=C xs[i]:=by
 rw[h.cellAt i (by have:=h.1;omega),x7 a]
theorem ZH{w:World}(h:w.ownsRow B t 1 (JQ g n cap) n xs)(i:Nat):w.frozen? ⟨g,i,Y⟩=U:=by
 rcases h.2 with⟨e,_⟩|⟨d,a,b,e,f,c,_⟩
 ·simp at e
 ·simp only[Value.slice.injEq,Option.some.injEq,Addr.mk.injEq]at e;obtain⟨⟨rfl,_⟩,_⟩:=e;simp[World.frozen?,c]
structure MT(w:World)(B g:Nat)(rs:List (List Int))(ov:Value)(vs:List Value)(fp:List Nat):Prop where
 cell:D w ⟨g,0,Y⟩=C ov
 lt:g<M (L w)
 free:w.frozen? ⟨g,0,Y⟩=U
 y:LA w B ov rs vs
 ty:∃c,w.heap[g]?=C (I c 70 (0,0))\/w.heap[g]?=C (I c 107 (0,0))
 fps:∀u∈vs,∀k,u.ownBlock=C k->k∈fp
 fpl:∀k∈fp,k<M (L w)
 dis:∀k∈fp,k≠g/\ov.ownBlock≠C k
structure ND(w w':World)(g:Nat)(ov ov':Value)(fp fp':List Nat):Prop where
 os:w'.os=w.os
 tape:w'.tape=w.tape
 output:w'.output=w.output
 size:M (L w)<=M (L w')
 block:∀k,k<M (L w)->k≠g->ov.ownBlock≠C k->w'.heap[k]?=w.heap[k]?
 ow:ov'.ownBlock=ov.ownBlock\/∃b,ov'.ownBlock=C b/\M (L w)<=b
 fpn:∀k∈fp',k∈fp\/M (L w)<=k
 c1:D w' ⟨g,1,Y⟩=D w ⟨g,1,Y⟩
theorem ME.ow{w:World}(h:ME w v l)(w':World)(e:∀k,v.ownBlock=C k->w'.heap[k]?=w.heap[k]?)(j:M (L w)<=M (L w')):ME w' v l:=by
 rcases h with h|⟨g,cap,rfl,c,f,b⟩
 ·exact x0 h
 ·refine x1 ⟨g,cap,Z,fun i d=>?_,by omega,b⟩;rw[xi (w:=w) (a:=⟨g,i,Y⟩) (e g rfl)];exact c i d
namespace Q
theorem On(vs:List Value)(i:Nat)(x:Value)(a:0<i)(b:i<=z vs)(h:i-1<(vs.take i++x::vs.drop i).length):(vs.take i++x::vs.drop i)[i-1]=vs[i-1]'(by omega):=by
 rw[xb (by simp;omega)];simp
theorem Oo(vs:List Value)(i:Nat)(x:Value)(b:0<i)(c:i<=z vs):(vs.take i++x::vs.drop i).set i (vs[i-1]'(by omega))=vs.take (i-1)++vs[i-1]'(by omega)::vs.drop (i-1):=by
 obtain⟨j,rfl⟩:∃j,i=j+1:=⟨i-1,by omega⟩;have a:j<z vs:=by omega
 have e:j+1-(vs.take (j+1)).length=0:=by simp;omega
 rw[xj _ _ (by simp;omega),e];simp only[List.set_cons_zero,xc];rw[List.drop_eq_getElem_cons a,List.take_succ_eq_append_getElem a,List.append_assoc];rfl
theorem Oq(vs:List Value)(i:Nat)(x y:Value)(a:i<=z vs):(vs.take i++x::vs.drop i).set i y=vs.take i++y::vs.drop i:=by
 have e:i-(vs.take i).length=0:=by simp;omega
 rw[xj _ _ (by simp;omega),e];rfl
end Q
theorem ZI(B g:Nat)(vr ov:Value)(rs:List (List Int))(vs:List Value)(fp:List Nat)(r:List Int)(w:World)(h:MT w B g rs ov vs fp)(hr:ME w vr r)(bf:OX rs)(hs:∀x∈rs,Q.NY x/\z x<1000)(ap:Q.NY r/\z r<1000)(hn:z rs<100000000)(hB:B<=M (L w))(hc:aK rs r<z rs->bP (rs.getD (aK rs r) []) r≠0)(aD:∀k,vr.ownBlock=C k->k≠g/\ov.ownBlock≠C k):
  Calls prog 74 #[.pointer (C ⟨g,0,Y⟩),vr] w fun e w'=>e=E (.tuple #[])/\∃ov' vs' fp',MT w' B g (rs.take (aK rs r)++r::rs.drop (aK rs r)) ov' vs' fp'/\ND w w' g ov ov' fp fp':=by
 obtain⟨i0,aY,bj,bk,bl⟩:=info_parts Tryz.infoRow;have hv:=h.cell;have hg:=h.lt;have H:=JO h;obtain⟨xa,ca,rfl,bi⟩:=h.y.form;obtain⟨ya,yc,rfl,_⟩:=hr.form;have ag:=JO hr;have aM:=JO bf;have HS:=JO hs;have bc:=YS rs r;generalize ao:aK rs r=A at*;have aL:=JO ao;go_enter func74,ntmps74;go_upto_region 1 with(first|(go_at_call 125;refine(YY B g _ _ rs vs r _ hv hg H.o.y ag.o aM.o HS.o ap hn).mono ?_;rintro e w1 ⟨rfl,am⟩;rw[aL.o]))
 have d0:=JS am hg hv;have aa:=JO am;have be:A<z rs->A<z vs:=fun h=>by rw[H.o.y.len];exact h
 go_cut[27]from 9 to 26 fun s wx=>s=.bool U/\JP (Below (M (L w)) w wx)
 case first =>
  by_cases hp:A<z rs
  ·have bb:(A:Int)<(z rs:Int):=by omega
   obtain⟨b,rfl,bt,hb,aS⟩:=bi (by omega);have al:=be hp;have cu:=(aa.o.cell (p:=⟨b,A,Y⟩) hb).trans (aS A al);have aN:=JO ((H.o.y.y A hp vs[A] (x7 al)).X aa.o);have au:=JO (ag.o.X aa.o);have aC:=HS.o rs[A] (x9 hp);have aj:=hc hp;have e1:rs.getD A []=rs[A]:=by simp[hp]
   rw[e1]at aj;have bu:(bP rs[A] r==0)=U:=by simpa using aj
   generalize vs[A]=u at*;generalize rs[A]=y at*;go_wp2_with(first|(go_at_call 126;refine(xX _ _ y r _ aN.o au.o aC.1 ap.1 aC.2 ap.2).mono ?_;rintro e w2 ⟨rfl,an⟩));go_meet
   case rel=>exact⟨Z,JW aa.o (xR _) an⟩
  ·have bb:decide ((A:Int)<(z rs:Int))=U:=decide_eq_false (by omega);go_wp2;go_meet
   case rel=>exact⟨Z,aa⟩
 case rest =>
  obtain⟨rfl,J⟩:=hcut;have d0:=JS J.o hg hv;have lg:=x3 hg J.o.size;have aJ:JP ((wc.alloc (I #[O Y 0 0] 31)).ownsRow B 31 1 (O xa (z rs) ca) (z rs) vs):=aU H.o.y.ow fun k e=>(x4 _ _ _ (by have:=(H.o.y.ow.lt k e).2;have:=J.o.size;omega)).trans (J.o.block k (H.o.y.ow.lt k e).2);have aI:JP (∀j u,[xW Y 0 0][j]?=C u->(wc.alloc (I #[O Y 0 0] 31)).cell? ((⟨M (L wc),0,Y⟩:Addr).add j)=C u):=xd (cs:=#[O Y 0 0]) (t:=31) (fr:=(0,0)) (heap_alloc_new wc _);have ad:C g≠(xW xa (z rs) ca).ownBlock:=fun e=>by
   obtain⟨c,m⟩:=H.o.ty
   rcases H.o.y.ow.2 with⟨e1,_⟩|⟨g',cap,aP,e1,_,hh,_⟩
   ·rw[e1]at e;simp[xF]at e
   ·rw[e1]at e;simp[xF]at e;subst e
    rcases m with m|m<;>(rw[m]at hh;simp at hh)
  have bD:M (L w)<=M (L wc):=J.o.size;have d1:(wc.alloc (I #[O Y 0 0] 31)).cell? ⟨g,0,Y⟩=C (O xa (z rs) ca):=(aH lg).trans d0;have f1:(wc.alloc (I #[O Y 0 0] 31)).frozen? ⟨g,0,Y⟩=U:=by rw[xk (w:=wc) (a:=⟨g,0,Y⟩) (x4 _ _ _ lg)];exact (J.o.frozen (p:=⟨g,0,Y⟩) hg).trans H.o.free
  go_upto_region 3 with(first|(at_builtin;refine wpList_append_lies _ Z (.tmp 32) (.tmp 33) 27 Z B 31 i0 (O Y 0 0) 1 24 underlying27 aY bj bk bl Z (by decide) _ (z rs) vs Z (by exact aJ.o) ⟨M (L wc),0,Y⟩ 1 1 [O Y 0 0] Z Z (by exact aI.o) (by simp[xe]) (by decide) (by unfold maxLen;omega) (by omega) (by simp;omega) _ Z ?_;intro F S w3 ae f av az;have d3:=(f.cell_far ⟨g,0,Y⟩ (by simp;omega) ad).trans d1;have f3:=(f.frozen_far ⟨g,0,Y⟩ (by simp;omega) ad).trans f1;have bm:g<M (L w3):=by have:=f.size;simp at this;omega))
  have T:F≠g:=fun e=>by
   obtain⟨c,m⟩:=H.o.ty
   rcases ae.2 with⟨e1,_⟩|⟨g',cap,aP,e1,_,hh,_⟩
   ·simp at e1
   ·simp only[Value.slice.injEq,Option.some.injEq,Addr.mk.injEq]at e1;rw[<- e1.1.1,e,(f.block g (by simp;omega) ad).trans ((x4 _ _ _ lg).trans (J.o.block g hg))]at hh
    rcases m with m|m<;>(rw[m]at hh;simp at hh)
  have O3:JP ((w3.setCell ⟨g,0,Y⟩ (JQ F (z rs+1) S)).ownsRow B 31 1 (JQ F (z rs+1) S) (z rs+1) (vs++[O Y 0 0])):=aU ae fun k e=>x8 _ _ _ _ (by simp[xF]at e;simp;omega);have e3:(w3.setCell ⟨g,0,Y⟩ (JQ F (z rs+1) S)).cell? ⟨g,0,Y⟩=C (JQ F (z rs+1) S):=World.cell?_setCell_same _ _ _ d3;have aF:JP ((w3.setCell ⟨g,0,Y⟩ (JQ F (z rs+1) S)).cell? ⟨g,1,Y⟩=D w ⟨g,1,Y⟩):=by
   unfold JP;rw[xl _ _ _ _ (by simp),f.cell_far ⟨g,1,Y⟩ (by simp;omega) ad,aH lg];exact J.o.cell (p:=⟨g,1,Y⟩) hg
  have F3:JP (∀k,k<M (L w)->k≠g->(xW xa (z rs) ca).ownBlock≠C k->(w3.setCell ⟨g,0,Y⟩ (JQ F (z rs+1) S)).heap[k]?=w.heap[k]?):=fun k h1 h2 h3=>by
   rw[x8 _ _ _ _ h2,f.block k (by simp;omega) fun e=>h3 e.symm,x4 _ _ _ (by omega),J.o.block k h1]
  have G3:JP ((w3.setCell ⟨g,0,Y⟩ (JQ F (z rs+1) S)).os=w.os/\(w3.setCell ⟨g,0,Y⟩ (JQ F (z rs+1) S)).tape=w.tape/\(w3.setCell ⟨g,0,Y⟩ (JQ F (z rs+1) S)).output=w.output):=⟨f.os.trans J.o.os,f.tape.trans J.o.tape,f.output.trans J.o.output⟩;have bz:M (L w)<=(w3.setCell ⟨g,0,Y⟩ (JQ F (z rs+1) S)).heap.size:=by have:=f.size;simp at this⊢;omega
  have W:g<(w3.setCell ⟨g,0,Y⟩ (JQ F (z rs+1) S)).heap.size:=by simpa using bm
  have T3:JP (∃c,(w3.setCell ⟨g,0,Y⟩ (JQ F (z rs+1) S)).heap[g]?=C (I c 70 (0,0))\/(w3.setCell ⟨g,0,Y⟩ (JQ F (z rs+1) S)).heap[g]?=C (I c 107 (0,0))):=by
   obtain⟨c,m⟩:=H.o.ty;have ac:w3.heap[g]?=w.heap[g]?:=(f.block g (by simp;omega) ad).trans ((x4 _ _ _ lg).trans (J.o.block g hg))
   rcases m with m|m
   ·exact⟨_,x0 (bC (ac.trans m) 0 _)⟩
   ·exact⟨_,x1 (bC (ac.trans m) 0 _)⟩
  have AT:JP ((xW xa (z rs) ca).ownBlock=C F\/M (L w)<=F):=by
   rcases av with h1|h1
   ·exact x0 h1
   ·exact x1 (by simp at h1;omega)
  have aX:F<(w3.setCell ⟨g,0,Y⟩ (JQ F (z rs+1) S)).heap.size:=by simpa using az
  have ah:z vs=z rs:=H.o.y.len;have ab:=JO ah;generalize bq:w3.setCell ⟨g,0,Y⟩ (JQ F (z rs+1) S)=W3 at*;go_wp2;go_loopw[5] (fun j wr=>∃(i:Nat) (x:Value),A<=i/\i<=z rs/\j=N G i/\JP (wr.ownsRow B 31 1 (JQ F (z rs+1) S) (z rs+1) (vs.take i++x::vs.drop i))/\JP (W3.grownBy wr (C F))) fun j _=>(intOf j).toNat
  case atStart=>exact⟨z rs,O Y 0 0,by omega,xR _,by go_num,by have h1:=O3.o;have h2:=ab.o;unfold JP;rw[List.take_of_length_le (by omega),List.drop_eq_nil_of_le (by omega)];exact h1,eA _ _⟩
  case round =>
   obtain⟨i,x,bx,bw,rfl,HO,HG⟩:=hrel;have e4:D wr ⟨g,0,Y⟩=C (JQ F (z rs+1) S):=(HG.o.cell_far ⟨g,0,Y⟩ W (by simp;exact fun e=>T e.symm)).trans e3;have af:g<M (L wr):=x3 W HG.o.size;have aE:F<M (L wr):=x3 aX HG.o.size;by_cases hlt:A<i
   ·obtain⟨q,rfl⟩:∃q,i=q+1:=⟨i-1,by omega⟩;have bo:(A:Int)<(q:Int)+1:=by omega
    have bd:(0:Int)<(q:Int)+1:=by omega
    have am:(q:Int)<(z rs:Int)+1:=by omega
    have an:(q:Int)+1<(z rs:Int)+1:=by omega
    have bg:(q:Int)+1-1=(q:Int):=by omega
    have bA:IntKind.i64.wrap ((q:Int)+1-1)=(q:Int):=by rw[bg];exact IntWalk.i64_in _ ⟨by omega,by omega⟩
    have bh:IntKind.i64.wrap (q:Int)=(q:Int):=IntWalk.i64_in _ ⟨by omega,by omega⟩;have bB:IntKind.i64.wrap (((q+1:Nat):Int)-1)=(q:Int):=by rw[show ((q+1:Nat):Int)-1=(q:Int)by omega];exact bh
    have bs:q+1<z rs+1:=by omega
    have ah:=ab.o;have ay:(vs.take (q+1)++x::vs.drop (q+1)).length=z rs+1:=by simp;omega
    have cp:=xP HO.o (i:=q) (by omega);have eg:=On vs (q+1) x (by omega) (by omega) (by simp;omega);simp only[xc]at eg;rw[eg]at cp;have ci:=xP HO.o (i:=q+1) (by omega);have fi:=ZH HO.o (q+1);have aB:q<z vs:=by omega
    have ar:=JO (ZG HO.o (i:=q+1) (u:=vs[q]) (by omega));have es:=Oo vs (q+1) x (by omega) (by omega);simp only[xc]at es;rw[es]at ar;have aG:=JO (dB HG.o (q+1) vs[q]);obtain⟨ua,un,uc,K⟩:∃ua un uc,vs[q]=O ua un uc:=by
     obtain⟨a1,c1,e1,_⟩:=(H.o.y.y q (by omega) vs[q] (x7 aB)).form;exact⟨a1,_,c1,e1⟩
    have br:(0:Int)<=(q:Int)+1:=by omega
    generalize vs[q]=u at*;subst K;generalize(vs.take (q+1)++x::vs.drop (q+1))[q+1]=y at*;go_upto_region 6 with fail
    go_region_held3 (fun w'=>D w' ⟨g,0,Y⟩=C (JQ F (z rs+1) S)/\D w' ⟨F,q,Y⟩=C (O ua un uc)) (first|exact⟨e4,cp⟩|exact⟨(aV (by omega)).trans e4,(xl _ _ _ _ (by simp)).trans cp⟩) (first|fail);go_wp2;go_roundw
    case rel=>exact⟨q,_,by omega,by omega,by first|rfl|go_num,ar,uQ aG.o⟩
    case measure=>simp[intOf]
   ·have ao:A=i:=by omega
    subst ao;have bp:decide ((A:Int)<(A:Int))=U:=decide_eq_false (by omega);have an:(A:Int)<((z rs+1:Nat):Int):=by omega
    have ah:=ab.o;have ay:(vs.take A++x::vs.drop A).length=z rs+1:=by simp;omega
    have ci:=xP HO.o (i:=A) (by omega);have fi:=ZH HO.o A;have ai:JP (∀k,k<M (L w)->k≠g->(xW xa (z rs) ca).ownBlock≠C k->wr.heap[k]?=w.heap[k]?):=fun k h1 h2 h3=>by
     rw[HG.o.block k (by omega) (by
      intro e
      rcases AT.o with h4|h4
      ·exact h3 (h4.trans e.symm)
      ·simp at e;omega),F3.o k h1 h2 h3]
    have aO:JP (ME wr (O ya (z r) yc) r):=ag.o.ow wr (fun k e=>ai.o k (by
     rcases ag.o with⟨e1,_⟩|⟨g',cap,e1,_,bv⟩
     ·rw[e1]at e;simp[xF]at e
     ·rw[e1]at e;simp[xF]at e;omega) (aD k e).1 (aD k e).2) (by have:=HG.o.size;omega)
    generalize(vs.take A++x::vs.drop A)[A]=y at*;go_upto_region 8 with fail
    go_region_held3 (fun w'=>D w' ⟨g,0,Y⟩=C (JQ F (z rs+1) S)) (first|exact e4|exact p4|exact(aV (by omega)).trans p4) (first
     |(go_at_call 123;refine(AE _ r _ (aO.o.X (x5 _ _).drew) (by omega)).mono ?_;rintro e w5 ⟨g5,rfl,aZ,ax,aR⟩;have B5:JP (Below (M (L wr)) wr w5):=((x5 (M (L wr)) wr).drew).trans (aR.mono (by simp));have I5:=JO aZ;have p4:=JS B5.o af e4;have p5:=JS B5.o aE ci;have p6:=(B5.o.frozen (p:=⟨F,A,Y⟩) aE).trans fi;have aW:M (L wr)<=g5:=(by simpa using ax);have bn:=x3 af B5.o.size))
    all_goals
     (try go_wp2)
     go_end0;have aT:=I5.o.lt;have O5:=ZG (u:=JQ g5 (z r) (z r)) (aU (w':=w5) HO.o fun k e=>B5.o.block k (HO.o.lt k e).2) (i:=A) (by omega);rw[Oq vs A x _ (by rw[ab.o];exact bc)]at O5;have aw:∀k,k<M (L w)->k≠g->(xW xa (z rs) ca).ownBlock≠C k->(w5.setCell ⟨F,A,Y⟩ (JQ g5 (z r) (z r))).heap[k]?=w.heap[k]?:=fun k h1 h2 h3=>by
      have ba:k≠F:=fun e=>by
       rcases AT.o with h4|h4
       ·exact h3 (by rw[h4,e])
       ·omega
      rw[x8 _ _ _ _ ba,B5.o.block k (by have:=HG.o.size;omega),ai.o k h1 h2 h3]
     have aq:M (L w)<=(w5.setCell ⟨F,A,Y⟩ (JQ g5 (z r) (z r))).heap.size:=by have:=HG.o.size;have:=B5.o.size;simp;omega
     have aQ:ME (w5.setCell ⟨F,A,Y⟩ (JQ g5 (z r) (z r))) (JQ g5 (z r) (z r)) r:=(I5.o.aA (x8 _ _ _ _ (by simp;omega))).gN (z r);have ak:∀u∈vs,∀l,ME w u l->ME (w5.setCell ⟨F,A,Y⟩ (JQ g5 (z r) (z r))) u l:=fun u K l hl=>hl.ow _ (fun k e=>by
      have V:=H.o.fps u K k e;exact aw k (H.o.fpl k V) (H.o.dis k V).1 (H.o.dis k V).2) aq
     have ah:=ab.o;refine⟨Z,_,vs.take A++JQ g5 (z r) (z r)::vs.drop A,g5::fp,⟨(aV (by omega)).trans p4,by simpa using bn,?_,⟨?_,?_,?_⟩,?_,?_,?_,?_⟩,?_⟩
     ·rw[World.frozen?_setCell,B5.o.frozen (p:=⟨g,0,Y⟩) af,HG.o.frozen_far ⟨g,0,Y⟩ W (by simp;exact fun e=>T e.symm)];obtain⟨c,m⟩:=T3.o
      rcases m with m|m<;>simp[World.frozen?,m]
     ·have e5:(rs.take A++r::rs.drop A).length=z rs+1:=by simp;omega
      rw[e5];exact O5
     ·simp;omega
     ·intro q hq u K;by_cases h1:q<A
      ·rw[xm (by simp;omega)]at K;rw[xb (by simp;omega)];have aB:q<z vs:=by omega
       simp only[List.getElem?_take,h1,if_true]at K;simp only[List.getElem_take];exact ak u (x2 K) _ (H.o.y.y q (by omega) u K)
      ·by_cases h2:q=A
       ·subst h2;rw[xg (by simp;omega)]at K;rw[xn (by simp;omega)];have e6:q-(vs.take q).length=0:=by simp;omega
        have e7:q-(rs.take q).length=0:=by simp;omega
        rw[e6]at K;simp at K;subst K;simp only[e7,List.getElem_cons_zero];exact aQ
       ·rw[xg (by simp;omega)]at K;rw[xn (by simp;omega)];obtain⟨d,hd⟩:∃d,q=A+1+d:=⟨q-A-1,by omega⟩;have e6:q-(vs.take A).length=d+1:=by simp;omega
        have e7:q-(rs.take A).length=d+1:=by simp;omega
        rw[e6]at K;simp only[List.getElem?_cons_succ,List.getElem?_drop]at K;simp only[e7,List.getElem_cons_succ,List.getElem_drop];simp at hq;exact ak u (x2 K) _ (H.o.y.y (A+d) (by omega) u K)
     ·obtain⟨c,m⟩:=T3.o;have ac:(w5.setCell ⟨F,A,Y⟩ (JQ g5 (z r) (z r))).heap[g]?=W3.heap[g]?:=by rw[x8 _ _ _ _ fun e=>T e.symm,B5.o.block g af,HG.o.block g W (by simp;exact fun e=>T e.symm)]
      rcases m with m|m
      ·exact⟨c,x0 (ac.trans m)⟩
      ·exact⟨c,x1 (ac.trans m)⟩
     ·intro u K k e
      rcases List.mem_append.1 K with K|K
      ·exact xo _ (H.o.fps u (List.mem_of_mem_take K) k e)
      ·rcases List.mem_cons.1 K with rfl|K
       ·simp[xF]at e;subst e;simp
       ·exact xo _ (H.o.fps u (List.mem_of_mem_drop K) k e)
     ·intro k V
      rcases List.mem_cons.1 V with rfl|V
      ·simpa using aT
      ·exact x3 (H.o.fpl k V) aq
     ·intro k V
      rcases List.mem_cons.1 V with rfl|V
      ·exact⟨by omega,by simp[xF];omega⟩
      ·refine⟨(H.o.dis k V).1,?_⟩;intro e;simp[xF]at e
       rcases AT.o with h4|h4
       ·exact(H.o.dis k V).2 (by rw[h4,e])
       ·have:=H.o.fpl k V;omega
     ·refine⟨?_,?_,?_,aq,aw,?_,?_,?_⟩
      ·exact(B5.o.os.trans HG.o.os).trans G3.o.1
      ·exact(B5.o.tape.trans HG.o.tape).trans G3.o.2.1
      ·exact(B5.o.output.trans HG.o.output).trans G3.o.2.2
      ·rcases AT.o with h4|h4
       ·exact x0 (by rw[h4];rfl)
       ·exact x1 ⟨F,Z,h4⟩
      ·intro k V
       rcases List.mem_cons.1 V with rfl|V
       ·exact x1 (by have:=HG.o.size;omega)
       ·exact x0 V
      ·rw[aV (by omega),B5.o.cell (p:=⟨g,1,Y⟩) af,HG.o.cell_far ⟨g,1,Y⟩ W (by simp;exact fun e=>T e.symm)];exact aF.o
theorem MT.off{w:World}(h:MT w B g rs ov vs fp)(d:w'.heap[g]?=w.heap[g]?)(r:∀k,ov.ownBlock=C k->w'.heap[k]?=w.heap[k]?)(m:∀k∈fp,w'.heap[k]?=w.heap[k]?)(f:M (L w)<=M (L w')):MT w' B g rs ov vs fp:=by
 obtain⟨c,b⟩:=h.ty;refine⟨(xi (w:=w) (a:=⟨g,0,Y⟩) d).trans h.cell,x3 h.lt f,(xk (w:=w) (a:=⟨g,0,Y⟩) d).trans h.free,⟨aU h.y.ow r,h.y.len,fun i p u j=>(h.y.y i p u j).ow _ (fun k e=>m k (h.fps u (x2 j) k e)) f⟩,⟨c,?_⟩,h.fps,fun k q=>x3 (h.fpl k q) f,h.dis⟩
 rcases b with b|b
 ·exact x0 (d.trans b)
 ·exact x1 (d.trans b)
theorem MT.dE{w:World}(h:MT w B g rs ov vs fp)(k:Nat)(e:ov.ownBlock=C k):k<M (L w):=(h.y.ow.lt k e).2
theorem MT.X{w:World}(h:MT w B g rs ov vs fp)(a:Below (M (L w)) w w'):MT w' B g rs ov vs fp :=
 h.off (a.block g h.lt) (fun k e=>a.block k (h.dE k e)) (fun k b=>a.block k (h.fpl k b)) a.size
theorem MT.in_{w:World}(h:MT w B g rs ov vs fp):OutIn w B g rs :=
 ⟨⟨ov,vs,h.cell,h.y⟩,h.lt,h.free,fun c t d e=>by
  obtain⟨b,a⟩:=h.ty
  rcases a with a|a<;>(rw[a]at e;simp at e;obtain⟨_,rfl,_⟩:=e;exact⟨by decide,by decide⟩)⟩
theorem ND.aX{w:World}(a:Below (M (L w)) w w')(c:g<M (L w)):ND w w' g ov ov fp fp :=
 ⟨a.os,a.tape,a.output,a.size,fun k b _ _=>a.block k b,x0 Z,fun k b=>x0 b,a.cell c⟩
theorem yW(B g:Nat)(d ov:Value)(rs:List (List Int))(vs:List Value)(fp:List Nat)(r:List Int)(w:World)(h:MT w B g rs ov vs fp)(p:ME w d r)(b:OX rs)(q:∀x∈rs,Q.NY x/\z x<1000)(c:Q.NY r/\z r<1000)(m:z rs<100000000)(y:B<=M (L w))(f:∀k,d.ownBlock=C k->k≠g/\ov.ownBlock≠C k):
  Calls prog 74 #[.pointer (C ⟨g,0,Y⟩),d] w fun e w'=>e=E (.tuple #[])/\∃ov' vs' fp',MT w' B g (dZ rs r) ov' vs' fp'/\ND w w' g ov ov' fp fp':=by
 have a:=YU (r:=r) rs;by_cases h1:aK rs r<z rs
 ·rw[dif_pos h1]at a;have s:rs.getD (aK rs r) []=rs[aK rs r]:=by simp[h1]
  by_cases h2:bP rs[aK rs r] r=0
  ·rw[if_pos h2]at a;rw[a];refine(Om B g d rs r w h.in_ p b q c m h1 (by rw[s];exact h2)).mono ?_;rintro e w' ⟨rfl,A⟩;exact⟨Z,ov,vs,fp,h.X A,ND.aX A h.lt⟩
  ·rw[if_neg h2]at a;rw[a];exact ZI B g d ov rs vs fp r w h p b q c m y (fun _=>by rw[s];exact h2) f
 ·rw[dif_neg h1]at a;have F:aK rs r=z rs:=by have:=YS rs r;omega
  have j:dZ rs r=rs.take (aK rs r)++r::rs.drop (aK rs r):=by rw[a,F];simp
  rw[j];exact ZI B g d ov rs vs fp r w h p b q c m y (fun h=>absurd h h1) f
theorem ME.bN{w:World}{row:Option Nat}(h:ME w v l)(c:w.grownBy w' row)(b:∀k,v.ownBlock=C k->C k≠row):ME w' v l:=by
 refine h.ow w' (fun k e=>c.block k ?_ (b k e)) c.size
 rcases h with⟨a,_⟩|⟨f,cap,a,_,d,_⟩
 ·rw[a]at e;simp[xF]at e
 ·rw[a]at e;simp[xF]at e;omega
def Ot(w w':World)(cs:List (List Int))(e:Ending):Prop:=∃cv vs gb gd,e=E (.agg #[cv,JQ gb (z cs) (z cs),JQ gd (z cs) (z cs),.bool U])/\LA w' (M (L w)) cv cs vs/\LE w' gb (NV cs)/\LE w' gd (eN (z cs))/\M (L w)<=gb/\M (L w)<=gd/\gb≠gd/\cv.ownBlock≠C gd/\(∀u∈vs,∀k,u.ownBlock=C k->M (L w)<=k/\k≠gd)/\Below (M (L w)) w w'
namespace Q
def iW(es:List Ev)(k:Nat):List (List Int):=(List.range k).map (kR es)
theorem Ou(es:List Ev)(k:Nat):iW es (k+1)=iW es k++[kR es k]:=by unfold iW;rw[List.range_succ,xp];rfl
theorem Ov(es:List Ev)(k:Nat):(iW es k).length=k:=by simp[iW]
theorem ZJ(es:List Ev):iW es (z es)=KL es:=rfl
theorem Ow(a:List (List Int))(c:List Int):NV (a++[c])=NV a++[(z c:Int)]:=by simp[NV]
theorem qH(a:List (List Int)):(NV a).length=z a:=by simp[NV]
end Q
theorem qI{w:World}{y J s j:Nat}{x:TypeId}{m:List Value}(h:w.ownsRow B t s v n xs)(F:w.ownsRow y x j u J m)(H:t≠x)(A:w.grownBy w' u.ownBlock):w'.ownsRow B t s v n xs/\∀k,v.ownBlock=C k->u.ownBlock≠C k:=by
 have b:∀k,v.ownBlock=C k->u.ownBlock≠C k:=fun k e a=>by
  rcases h.2 with⟨c,_⟩|⟨T,K,p,c,_,r,_⟩
  ·rw[c]at e;simp[xF]at e
  ·rcases F.2 with⟨d,_⟩|⟨V,S,q,d,_,f,_⟩
   ·rw[d]at a;simp[xF]at a
   ·rw[c]at e;rw[d]at a;simp[xF]at e a;rw[e]at r;rw[a,r]at f;simp at f;exact H f.2
 exact⟨aU h fun k e=>A.block k (h.lt k e).2 fun a=>b k e a.symm,b⟩
theorem LA.mF{w:World}{p:Value}{r:List Int}(h:LA w B v rs vs)(s:ME w u r)(b:w1.ownsRow B 31 1 p (z rs+1) (vs++[u]))(m:w.grownBy w1 v.ownBlock)(j:∀x∈vs++[u],∀k,x.ownBlock=C k->v.ownBlock≠C k):LA w1 B p (rs++[r]) (vs++[u]):=by
 refine⟨by simpa using b,by simp[h.len],fun i q x a=>?_⟩;have c:=j x (x2 a);by_cases hlt:i<z rs
 ·rw[xm (by rw[h.len];exact hlt)]at a;rw[xb hlt];exact(h.y i hlt x a).bN m fun k e=>fun d=>c k e d.symm
 ·simp at q;have f:i=z rs:=by omega
  subst f;rw[xg (by rw[h.len];exact xR _),h.len]at a;simp at a;subst a;simp;exact s.bN m fun k e=>fun d=>c k e d.symm
theorem LA.grown{w:World}{row:Option Nat}(h:LA w B v rs vs)(c:w.grownBy w1 row)(j:∀k,v.ownBlock=C k->row≠C k)(b:∀x∈vs,∀k,x.ownBlock=C k->row≠C k):LA w1 B v rs vs :=
 ⟨aU h.ow fun k e=>c.block k (h.ow.lt k e).2 fun a=>j k e a.symm,h.len,fun i f x d=>(h.y i f x d).bN c fun k e=>fun a=>b x (x2 d) k e a.symm⟩
theorem ME.dE{w:World}(h:ME w v l)(k:Nat)(e:v.ownBlock=C k):k<M (L w):=by
 rcases h with⟨a,_⟩|⟨c,cap,a,_,b,_⟩
 ·rw[a]at e;simp[xF]at e
 ·rw[a]at e;simp[xF]at e;omega
theorem ZK(ev rg:Value)(es:List Ev)(w:World)(he:NC w ev es)(aV:∃a n c,rg=O a n c)(hn:z es<=64):
  Calls prog 108 #[.agg #[ev,rg]] w fun e w'=>Ot w w' (KL es) e:=by
 obtain⟨i0,aM,aZ,bb,bd⟩:=info_parts Tryz.NS;obtain⟨j0,aP,aW,aX,aY⟩:=info_parts Tryz.infoRow;obtain⟨ea,ec,rfl,bl⟩:=he.form;obtain⟨ra,rn,rc,rfl⟩:=aV;obtain⟨k0,k1,bs,ar⟩:=hJ w #[O ea (z es) ec,O ra rn rc] #[O Y 0 0,O Y 0 0,O Y 0 0,.bool U] 73 85;have aF:=JO (he.X ar);have az:=JO ar;go_enter func108,ntmps108;go_upto_region 1 with fail
 generalize hE:(w.alloc (I #[O ea (z es) ec,O ra rn rc] 73)).alloc (I #[O Y 0 0,O Y 0 0,O Y 0 0,.bool U] 85)=m at*;have aJ:=aB k0 0 _ Z;have aK:=aB k0 1 _ Z;have l0:M (L w)<M (L m):=by omega
 have l1:M (L w)+1<M (L m):=by omega
 have K1:=JO k1;go_wp2;go_loopw[3,4,10] (fun a b j wr=>∃(k:Nat) (cv K:Value) (vs:List Value),k<=z es/\j=N G k/\a=cv/\b=K/\JP (LA wr (M (L m)) cv (iW es k) vs)/\JP (wr.ownsRow (M (L m)) 3 1 K k ((NV (iW es k)).map (x6 G)))/\JP (∀u∈vs,∀y,u.ownBlock=C y->M (L m)<=y/\y<M (L wr)/\K.ownBlock≠C y/\cv.ownBlock≠C y)/\JP (Below (M (L m)) m wr)) fun _ _ j _=>z es-(intOf j).toNat
 case atStart=>exact⟨0,_,_,[],xh _,Z,Z,Z,⟨by simpa[iW]using xq _ _ _ _,Z,fun i h=>by simp[iW]at h⟩,by simpa[JP,iW,NV]using xq _ _ _ _,by simp[JP],x5 _ _⟩
 case round =>
  obtain⟨k,cv,K,vs,hk,rfl,af,ae,HC,HO,HD,HB⟩:=hrel;have af:=af.symm;subst af;have ae:=ae.symm;subst ae;by_cases hlt:k<z es
  ·have bp:(k:Int)<(z es:Int):=by omega
   have d0:=JS HB.o l0 aJ;have d1:=JS HB.o l0 aK;have aG:=JO (aF.o.X HB.o);have HS:=JO (Ou es k);have bq:(kR es k).length<=64:=by
    unfold kR
    split
    ·have:=ZF es k (z es);unfold bU at this;omega
    ·simp
   have F:=Ov es k;obtain⟨ca,cc,aa,_⟩:=HC.o.form;rw[F]at aa;go_upto_region 7 with(first|(go_at_call 158;refine(Oi _ _ es k _ aG.o ⟨_,_,_,Z⟩ hlt hn).mono ?_;rintro e w1 ⟨mv,rfl,ax,aQ,W⟩))
   obtain⟨S,T,aR,_⟩:=ax.form;generalize br:kR es k=s at*;subst aR;have B1:JP (Below (M (L m)) m w1):=JW HB.o (xR _) W;have C1:=JO (HC.o.X W);have O1:JP (w1.ownsRow (M (L m)) 3 1 K k ((NV (iW es k)).map (x6 G))):=aU HO.o fun y e=>W.block y (HO.o.lt y e).2;have M1:=JO ax;have bh:=W.size;have aL:M (L m)<=M (L w1):=B1.o.size;have aD:JP ((iW es k).length=k):=F;have ac:JP ((w1.alloc (I #[O S (z s) T] 31)).ownsRow (M (L m)) 31 1 cv k vs):=by
    have r:=C1.o.ow;rw[F]at r;exact aU r fun y e=>x4 _ _ _ (r.lt y e).2
   have aH:JP (∀j u,[xW S (z s) T][j]?=C u->(w1.alloc (I #[O S (z s) T] 31)).cell? ((⟨M (L w1),0,Y⟩:Addr).add j)=C u):=xd (cs:=#[O S (z s) T]) (t:=31) (fr:=(0,0)) (heap_alloc_new w1 _);subst aa;go_upto_region 8 with(first|(at_builtin;refine wpList_append_lies _ Z (.tmp 16) (.tmp 18) 27 Z (M (L m)) 31 j0 (O Y 0 0) 1 24 underlying27 aP aW aX aY Z (by decide) (O ca k cc) k vs Z (by exact ac.o) ⟨M (L w1),0,Y⟩ 1 1 [O S (z s) T] Z Z (by exact aH.o) (by simp[xe]) (by decide) (by unfold maxLen;omega) (by omega) (by simp;omega) _ Z ?_;intro gn cn A ag d ao bf))
   have au:∀y,(xW ca k cc).ownBlock=C y->y<M (L wr):=fun y e=>(HC.o.ow.lt y e).2
   have ab:∀y,K.ownBlock=C y->y<M (L wr):=fun y e=>(HO.o.lt y e).2
   have BA:Below (M (L w1)) w1 (w1.alloc (I #[O S (z s) T] 31)):=(x5 _ _).alloc (xR _) _;have av:∀x∈vs++[xW S (z s) T],∀y,x.ownBlock=C y->(xW ca k cc).ownBlock≠C y/\K.ownBlock≠C y/\M (L m)<=y/\y<M (L w1):=fun x J y e=>by
    rcases List.mem_append.1 J with J|J
    ·obtain⟨q1,q2,q3,q4⟩:=HD.o x J y e;exact⟨q4,q3,q1,by omega⟩
    ·simp at J;subst J;have q1:=aQ y e;exact⟨fun H=>by have:=au y H;omega,fun H=>by have:=ab y H;omega,by have:=HB.o.size;omega,M1.o.dE y e⟩
   have C2:JP (LA A (M (L m)) (JQ gn (k+1) cn) (iW es (k+1)) (vs++[O S (z s) T])):=by
    unfold JP;rw[HS.o];exact(C1.o.X BA).mF (M1.o.X BA) (by rw[aD.o];exact ag) d fun x J y e=>(av x J y e).1
   have O2:=qI (aU O1.o fun y e=>BA.block y (O1.o.lt y e).2) ac.o (by decide) d;have bi:=JO O2.1;have bj:M (L w1)+1<=M (L A):=by have:=d.size;simp at this;omega
   have B2:JP (Below (M (L m)) m A):=(B1.o.alloc aL _).trans ⟨d.os,d.tape,d.output,d.size,fun y hy=>d.block y (by simp;omega) fun e=>by have:=(ac.o.lt y e.symm).1;omega⟩;have ai:JP ((xW ca k cc).ownBlock=C gn\/M (L w1)<=gn):=by
    rcases ao with r|r
    ·exact x0 r
    ·exact x1 (by simp at r;omega)
   have aj:=JO av;have aC:JP (∀y,K.ownBlock=C y->(xW ca k cc).ownBlock≠C y/\y<M (L wr)):=fun y e=>⟨O2.2 y e,ab y e⟩
   have al:JP ((A.alloc (I #[N G (z s:Int)] 3)).ownsRow (M (L m)) 3 1 K k ((NV (iW es k)).map (x6 G))):=aU O2.1 fun y e=>x4 _ _ _ (O2.1.lt y e).2;have aI:JP (∀j u,[x6 G (z s:Int)][j]?=C u->(A.alloc (I #[N G (z s:Int)] 3)).cell? ((⟨M (L A),0,Y⟩:Addr).add j)=C u):=xd (cs:=#[N G (z s:Int)]) (t:=3) (fr:=(0,0)) (heap_alloc_new A _);obtain⟨ba,bc,ad⟩:∃a c,K=O a k c:=by
    rcases HO.o.2 with⟨e,h0⟩|⟨g',c,am,e,_⟩
    ·exact⟨Y,0,by rw[e,h0]⟩
    ·exact⟨_,c,e⟩
   subst ad;go_wp2_with(first|(at_builtin;refine wpList_append_lies _ Z (.tmp 20) (.tmp 23) 31 Z (M (L m)) 3 i0 (N G 0) 1 8 underlying31 aM aZ bb bd Z (by decide) (O ba k bc) k ((NV (iW es k)).map (x6 G)) Z (by exact al.o) ⟨M (L A),0,Y⟩ 1 1 [N G (z s:Int)] Z Z (by exact aI.o) (by simp[xe]) (by decide) (by unfold maxLen;omega) (by omega) (by simp;omega) _ Z ?_;intro g3 c3 w3 ah f ap bg));have ay:Below (M (L A)) A (A.alloc (I #[N G (z s:Int)] 3)):=(x5 _ _).alloc (xR _) _;have C3:JP (LA w3 (M (L m)) (JQ gn (k+1) cn) (iW es (k+1)) (vs++[O S (z s) T])):=(C2.o.X ay).grown f fun y e H=>by
    simp[xF]at e;obtain⟨q1,q2⟩:=aC.o y H
    rcases ai.o with V|V
    ·exact q1 (by rw[V,e])
    ·omega fun x J y e=>(aj.o x J y e).2.1
   have O3:JP (w3.ownsRow (M (L m)) 3 1 (JQ g3 (k+1) c3) (k+1) ((NV (iW es (k+1))).map (x6 G))):=by
    unfold JP;rw[HS.o,Ow,xp];exact ah
   have B3:JP (Below (M (L m)) m w3):=(B2.o.alloc (by omega) _).trans ⟨f.os,f.tape,f.output,f.size,fun y hy=>f.block y (by simp;omega) fun e=>by have:=(al.o.lt y e.symm).1;omega⟩;have bk:M (L A)+1<=M (L w3):=by have:=f.size;simp at this;omega
   have D3:JP (∀u∈vs++[xW S (z s) T],∀y,u.ownBlock=C y->M (L m)<=y/\y<M (L w3)/\(JQ g3 (k+1) c3).ownBlock≠C y/\(JQ gn (k+1) cn).ownBlock≠C y):=fun u hu y e=>by
    obtain⟨q1,q2,q3,q4⟩:=aj.o u hu y e;refine⟨q3,by omega,fun H=>?_,fun H=>?_⟩
    ·simp[xF]at H
     rcases ap with V|V
     ·exact q2 (by rw[V,H])
     ·simp at V;omega
    ·simp[xF]at H
     rcases ai.o with V|V
     ·exact q1 (by rw[V,H])
     ·omega
   go_roundw
   case rel=>exact⟨k+1,_,_,_,by omega,by go_num,Z,Z,C3,O3,D3,B3⟩
   case measure=>simp[intOf];omega
  ·have aw:k=z es:=by omega
   have HL:JP ((NV (KL es)).length=(KL es).length):=qH _;have ak:JP ((KL es).length=z es):=by simp[JP,KL]
   have C0:JP (LA wr (M (L m)) cv (KL es) vs):=by have r:=HC.o;rw[aw,ZJ]at r;exact r
   have O0:JP (ME wr K (NV (KL es))):=by
    have r:=HO.o;rw[aw,ZJ]at r;exact QP r (by rw[HL.o,ak.o])
   have aE:=JO (fun y e=>(HC.o.ow.lt y e).2:∀y,cv.ownBlock=C y->y<M (L wr));obtain⟨ca,cc,aa,_⟩:=C0.o.form;obtain⟨ba,bc,ad,_⟩:=O0.o.form;subst aa ad;go_wp2_with(first|(go_at_call 103;refine(DU _ (NV (KL es)) _ O0.o (by rw[HL.o,ak.o];omega)).mono ?_;rintro e A ⟨v1,v2,v3,rfl,⟨gb,gd,rfl,rfl,rfl,aN,aO,bm,bn,aS⟩,aq⟩;have B2:JP (Below (M (L m)) m A):=JW HB.o (xR _) aq;have K2:=JO ((B2.o.block _ l1).trans K1.o);obtain⟨t0,t1,t2,t3,tf,tl⟩:=uD K2.o;have IB:=JO aN;have ID:=JO aO;have C2:=JO (C0.o.X aq);rw[HL.o]));obtain⟨s0,s1,s2⟩:=vC (s0:=O ca (KL es).length cc) (s1:=JQ gb (KL es).length (KL es).length) (s2:=JQ gd (KL es).length (KL es).length) (s3:=.bool U) K2.o;have bt:=HB.o.size;have an:=ID.o;rw[HL.o]at an;have aT:∀{B n sz:Nat} {t:TypeId} {v:Value} {xs:List Value},A.ownsRow B t sz v n xs->t≠85->∀k,v.ownBlock=C k->k≠M (L w)+1:=fun h ht k e H=>by
    rcases h.2 with⟨e1,_⟩|⟨g1,c1,be,e1,_,r,_⟩
    ·rw[e1]at e;simp[xF]at e
    ·rw[e1]at e;simp[xF]at e;rw[e,H,K2.o]at r;simp at r;exact ht r.2.symm
   refine gF (p:=2) (M (L w)+1) _ (by kernel_rfl) underlying85 Z (by kernel_rfl) Z (by exact s0) Z ⟨_,vs,gb,gd,Z,⟨?_,C2.o.len,fun i hi x J=>?_⟩,IB.o.aA (s1 _ (by omega)),an.aA (s1 _ (by omega)),by omega,by omega,aS,fun e=>by have:=aE.o gd e;omega,fun u hu y e=>⟨by have:=(HD.o u hu y e).1;omega,by have:=(HD.o u hu y e).2.1;omega⟩,s2 _ _ (by omega) (JW az.o (xR _) B2.o)⟩
   ·have r:=aU C2.o.ow fun k e=>s1 k (aT C2.o.ow (by decide) k e);refine⟨r.1,?_⟩
    rcases r.2 with h0|⟨g',cap,am,e,bo,q⟩
    ·exact x0 h0
    ·exact x1 ⟨g',cap,am,e,by omega,q⟩
   ·have hr:=C2.o.y i hi x J;refine hr.ow _ (fun k e=>s1 k (by have:=(HD.o x (x2 J) k e).1;omega)) ?_;have:=(s2 A 0 (xh _) (x5 _ _)).size;exact this
structure RdOn(w:World)(g o:Nat)(cv:Value)(vs:List Value)(gb gd:Nat)(cs:List (List Int))(ds:List Int)(rest:List (List Int)):Prop where
 c0:D w ⟨g,o,Y⟩=C cv
 y:LA w 0 cv cs vs
 ML:PH w g (o+1) gb gd (NV cs) ds rest
 nc:cv.ownBlock≠C gd/\cv.ownBlock≠C g
 ne:∀u∈vs,∀k,u.ownBlock=C k->k≠gd/\k≠g
theorem RdOn.X{w:World}{d:Value}{f:Nat}{c:List (List Int)}{e:List Int}{rest:List (List Int)}(h:RdOn w g o d vs f gd c e rest)(a:Below (M (L w)) w w'):RdOn w' g o d vs f gd c e rest:=by
 obtain⟨b,j⟩:=h.ML.ML;exact⟨(a.cell j.lt).trans h.c0,h.y.X a,h.ML.X a,h.nc,h.ne⟩
theorem LA.bS{w:World}(h:LA w B v rs vs)(c:Ep w w' g o gd)(f:v.ownBlock≠C gd/\v.ownBlock≠C g)(a:∀u∈vs,∀k,u.ownBlock=C k->k≠gd/\k≠g):LA w' B v rs vs :=
 ⟨aU h.ow fun k e=>c.block k (fun b=>f.2 (by rw[e,b])) fun b=>f.1 (by rw[e,b]),h.len,fun i j x d=>(h.y i j x d).ow w' (fun k e=>c.block k (a x (x2 d) k e).2 (a x (x2 d) k e).1) (by rw[c.size];exact xR _)⟩
theorem Ox(g o:Nat)(j:Value)(vs:List Value)(c gd:Nat)(a:List (List Int))(k:List Int)(rest:List (List Int))(w:World)(h:RdOn w g o j vs c gd a k rest)(F:z a<10000)(x:∀b∈NV a,b<1000000000):
  Calls prog 104 #[.pointer (C ⟨g,o,Y⟩)] w fun e w'=>(rest=[]/\e=E (.bool U)\/∃r q,rest=r::q/\e=E (.bool true)/\RdOn w' g o j vs c gd a r q/\MV (NV a) r)/\Ep w w' g (o+1) gd:=by
 have H:=JO h;obtain⟨b,m⟩:=h.ML.ML;go_enter func104,ntmps104;go_wp2_with(first|(go_at_call 117;refine(GM g (o+1) c gd (NV a) k rest _ H.o.ML (by rw[qH];exact F) x).mono ?_;rintro e w' ⟨p,s⟩;have f:=JO s;rcases p with⟨d,rfl⟩|⟨r,q,d,rfl,m,A⟩))
 ·go_ret;exact⟨x0 ⟨d,Z⟩,f.o⟩
 ·go_ret;have T:=f.o;exact⟨x1 ⟨r,q,d,Z,⟨(T.cell o (by omega)).trans H.o.c0,H.o.y.bS T H.o.nc H.o.ne,m,H.o.nc,H.o.ne⟩,A⟩,T⟩
namespace Q
def qC(cs:List (List Int))(ds:List Int)(i:Nat):Int:=(cs.getD i []).getD (ds.getD i 0).toNat (-1)
theorem Oy(a:List (List Int))(b:List Int):gK a b=(List.range (z a)).map (qC a b):=rfl
theorem Oz(a:List (List Int))(i:Nat)(h:i<z a):(NV a).getD i 0=(a[i].length:Int):=by
 rw[eI _ _ (by rw[qH];exact h)];simp[NV]
end Q
theorem O4(g o:Nat)(cv:Value)(vs:List Value)(gb gd:Nat)(a:List (List Int))(b:List Int)(rest:List (List Int))(w:World)(h:RdOn w g o cv vs gb gd a b rest)(hd:MV (NV a) b)(hn:z a<1000)(hb:∀c∈a,z c<1000):
  Calls prog 63 #[.pointer (C ⟨g,o,Y⟩)] w fun e w'=>∃gr,e=E (JQ gr (z a) (z a))/\LE w' gr (gK a b)/\M (L w)<=gr/\Below (M (L w)) w w':=by
 have au:∀w,(Instr.makeSlice 31 (N G (z a:Int)) (N G (z a:Int))).run prog w=.ok (JQ (M (L w)) (z a) (z a)) (w.alloc (I (madeCells #[N G 0] (z a)) 3)):=
  fun w=>run_make_row' 31 3 (N G 0) 8 underlying31 Tryz.MZ Z G G (z a) (by omega) (by omega) w
 obtain⟨bg,F⟩:=h.ML.ML;have ak:z b=z a:=by rw[F.len,qH]
 obtain⟨ca,cc,rfl,ai⟩:=h.y.form;have c0:=h.c0;have c2:=F.c1;rw[ak]at c2;have am:=F.lt;have ac:=JO F.digits;have al:=F.digits.lt;have x:=JO h.y;have ab:JP (∀i (hi:i<z a),0<=b.getD i 0/\b.getD i 0<(a[i].length:Int)):=fun i hi=>by
  have A:=hd.vA i (by omega);rw[Oz a i hi]at A;rw[eI b i (by omega)];exact A
 have ae:=JO (Oy a b);have aa:=JO hb;have ad:JP (LE (w.alloc (I (madeCells #[N G 0] (z a)) 3)) (M (L w)) (dU (qC a b) (z a) 0)):=by
  unfold JP LE;rw[yM,<- rE];exact heap_alloc_new w _
 have ag:D w ⟨g,o+2,Y⟩=C (JQ gd (z a) (z a)):=c2;go_enter func63,ntmps63;go_wp2;go_loopw[17] (fun j wr=>∃(k:Nat),k<=z a/\j=N G k/\JP (LE wr (M (L w)) (dU (qC a b) (z a) k))/\JP (Below (M (L w)) w wr)) fun j _=>z a-(intOf j).toNat
 case atStart=>exact⟨0,xh _,Z,ad,(x5 _ _).alloc (xR _) _⟩
 case round =>
  obtain⟨k,hk,rfl,X,HB⟩:=hrel;by_cases hlt:k<z a
  ·have ar:(k:Int)<(z a:Int):=by omega
   obtain⟨bc,rfl,_,ah,J⟩:=ai (by omega);have T:k<z vs:=by rw[x.o.len];exact hlt
   have s:=x.o.y k hlt vs[k] (x7 T);obtain⟨ma,mc,W,V⟩:=s.form;have aj:=ab.o k hlt;obtain⟨d,m⟩:∃d:Nat,b.getD k 0=(d:Int):=⟨(b.getD k 0).toNat,by omega⟩;have f:d<a[k].length:=by omega
   obtain⟨gm,K,S,H⟩:=V (by omega);have e1:=(HB.o.cell (p:=⟨bc,k,Y⟩) ah).trans (J k T);rw[W,K]at e1;have d2:=(HB.o.cell (p:=⟨g,o+2,Y⟩) am).trans ag;have dg:D wr ⟨gd,k,Y⟩=C (N G (d:Int)):=by rw[<- m];exact(HB.o.cell (p:=⟨gd,k,Y⟩) al).trans (ac.o.cQ k (by omega))
   have dm:D wr ⟨gm,d,Y⟩=C (N G (a[k].getD d (-1))):=by rw[eI _ _ f];exact(HB.o.cell (p:=⟨gm,d,Y⟩) S).trans (H d f)
   have cp:=X.o.cQ k (by rw[uL];exact hlt);have fp:=X.o.free k;have q:=JO ((X.o.set k (-1)).set k (a[k].getD d (-1)));have r:=JO (AL (qC a b) (z a) k hlt);have af:JP (qC a b k=a[k].getD d (-1)):=by
    unfold JP qC;have e2:a.getD k []=a[k]:=by simp[hlt]
    rw[e2,m];rfl
   rw[af.o]at r;rw[List.set_set,r.o]at q;have aq:(d:Int)<(a[k].length:Int):=by omega
   have ao:=aa.o a[k] (x9 hlt);clear m W V H s J aj K;generalize a[k].getD d (-1)=aw at*;generalize ap:a[k].length=cl at*;generalize(dU (qC a b) (z a) k).getD k 0=av at*;go_wp2;go_roundw
   case rel=>exact⟨k+1,by omega,by go_num,q,(HB.o.setCell (p:=⟨M (L w),k,Y⟩) (xR _) _).setCell (p:=⟨M (L w),k,Y⟩) (xR _) _⟩
   case measure=>simp[intOf];omega
  ·have an:k=z a:=by omega
   go_wp2;go_ret;refine⟨M (L w),Z,?_,xR _,HB.o⟩;have A:=X.o;rw[an,yS,<- ae.o]at A;exact A
end Go.Proofs.YtlikcongbhhpfaaGreatDoor
