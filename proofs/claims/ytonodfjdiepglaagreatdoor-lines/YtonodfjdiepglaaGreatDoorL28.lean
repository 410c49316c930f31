import Derived.Test.YtonodfjdiepglaaGreatDoorL27
set_option linter.unusedVariables false
set_option linter.unusedSimpArgs false
set_option maxHeartbeats 12800000
namespace Go.Proofs.YtonodfjdiepglaaGreatDoor
open Go Go.RowKit Go.Proofs.Tryz P Q R
set_option maxRecDepth 1000000
variable {w w':World} {B cap g i n:Nat} {t:TypeId} {vs xs:List Value} {rs:List (List Int)} {ov:Value} {fp:List Nat}
open Nat renaming lt_of_lt_of_le→xF,le_refl→x6,add_sub_cancel→x7
open Or renaming inl→xR,inr→xW
open Go.Value renaming ownBlock→x1,slice→x2
open Go.RowKit.Below renaming heap_alloc→x3,heap_setCell→x4
open List renaming getElem?_eq_getElem→x5,mem_of_getElem?→x8,getElem_mem→x9,getElem_append_left→xc,set_append_right→xd,getElem?_append_right→xh,getElem_append_right→xi,mem_cons_of_mem→xj
open Go.World renaming cell?_of_block→xb,frozen?_of_block→xe,cell?_setCell_other→xg
theorem Tryz.infoRow:(prog.info? 68).map (fun i=>(i.zero,i.size,i.bytes))=some (some (.slice none 0 0),1,24):=by kernel_rfl
structure OutIn (w:World) (B g:Nat) (rs:List (List Int)):Prop where
 ex:∃ v vs,w.cell? ⟨g,0,none⟩=some v/\RowsI w B v rs vs
 lt:g<w.heap.size
 free:w.frozen? ⟨g,0,none⟩=false
 ty:∀ c t fr,w.heap[g]?=some (.cells c t fr)->t≠68/\t≠3
theorem zKs (B g:Nat) (L:Value) (rs:List (List Int)) (r:List Int) (w:World) (h:OutIn w B g rs) (J:zCj w L r) (l:zPb rs) (F:∀ x∈rs,kCs x/\x.length<1000) (d:kCs r/\r.length<1000) (O:rs.length<100000000)
  (q:aO rs r<rs.length) (I:cC (rs.getD (aO rs r) []) r=0) :
  Calls prog 94 #[.pointer (some ⟨g,0,none⟩),L] w fun e w'=>e=.returned (.tuple #[])/\Below w.heap.size w w':=by
 obtain⟨v,vs,K,a⟩:=h.ex;have E:=h.lt;have C:=zAa a;obtain⟨xa,U,rfl,o⟩:=a.form;obtain⟨b,rfl,N,H,j⟩:=o (by omega);have k:aO rs r<vs.length:=by rw[a.len];exact q
 have A:=zAa (a.rows (aO rs r) q vs[aO rs r] (x5 k));have G:rs.getD (aO rs r) []=rs[aO rs r]:=by simp[q]
 rw[G] at I;have m:=F rs[aO rs r] (x9 q);have s:=zAa (j (aO rs r) k);have M:=zAa F;have f:=zAa J;have z:=zAa l;have S:(aO rs r:Int)<(rs.length:Int):=by omega
 clear h J o a j l F G;generalize vs[aO rs r]=u at *;generalize T:rs[aO rs r]=y at *;clear T;go_enter func94,ntmps94;go_wp2_with (first
  | (go_at_call 112;refine (zHs B g _ _ rs vs r _ K E C.out f.out z.out M.out d O).mono ?_;rintro e Z ⟨rfl,c⟩;have W:=aC c E K;have Y:=xF E c.size;have V:=(c.cell (p:=⟨b,aO rs r,none⟩) H).trans s.out;have X:=xF H c.size)
  | (go_at_call 113;refine (xY _ _ y r _ (A.out.below c) (f.out.below c) m.1 d.1 m.2 d.2).mono ?_;rintro e w2 ⟨rfl,D⟩;rw[I]))
 (try simp only[Exit.inBlock,Exit.then]);refine bodyPost_ret (results_none rfl _ _ _) rfl ?_
 exact⟨rfl,aK c (x6 _) D⟩
theorem zJy {u:Value} (h:w.ownsRow B t 1 (.slice (some ⟨g,0,none⟩) n cap) n xs) (o:i<n):(w.setCell ⟨g,i,none⟩ u).ownsRow B t 1 (.slice (some ⟨g,0,none⟩) n cap) n (xs.set i u):=by
 refine⟨by rw[List.length_set];exact h.1,?_⟩
 rcases h.2 with ⟨e,_⟩ | ⟨m,b,a,e,k,l,c,d,f,j⟩
 ·simp at e
 ·simp only[Value.slice.injEq,Option.some.injEq,Addr.mk.injEq] at e;obtain⟨⟨rfl,_⟩,_,rfl⟩:=e;refine xW ⟨g,cap,a.setIfInBounds i u,rfl,k,bH l i u,c,d,by simpa using f,?_⟩;rw[<- j];simp[List.take_set]
theorem wY (h:w.ownsRow B t 1 (.slice (some ⟨g,0,none⟩) n cap) n xs) (a:i<xs.length):w.cell? ⟨g,i,none⟩=some xs[i]:=by
 rw[h.cellAt i (by have:=h.1;omega),x5 a]
theorem zHt (h:w.ownsRow B t 1 (.slice (some ⟨g,0,none⟩) n cap) n xs) (i:Nat):w.frozen? ⟨g,i,none⟩=false:=by
 rcases h.2 with ⟨e,_⟩ | ⟨d,a,b,e,f,c,_⟩
 ·simp at e
 ·simp only[Value.slice.injEq,Option.some.injEq,Addr.mk.injEq] at e;obtain⟨⟨rfl,_⟩,_⟩:=e;simp[World.frozen?,c]
structure OutAt (w:World) (B g:Nat) (rs:List (List Int)) (ov:Value) (vs:List Value) (fp:List Nat):Prop where
 cell:w.cell? ⟨g,0,none⟩=some ov
 lt:g<w.heap.size
 free:w.frozen? ⟨g,0,none⟩=false
 rows:RowsI w B ov rs vs
 ty:∃ c,w.heap[g]?=some (.cells c 66 (0,0))\/w.heap[g]?=some (.cells c 66 (0,0))
 fps:∀ u∈vs,∀ k,u.ownBlock=some k->k∈fp
 fpl:∀ k∈fp,k<w.heap.size
 dis:∀ k∈fp,k≠g/\ov.ownBlock≠some k
structure OFrame (w w':World) (g:Nat) (ov ov':Value) (fp fp':List Nat):Prop where
 os:w'.os=w.os
 tape:w'.tape=w.tape
 output:w'.output=w.output
 size:w.heap.size<=w'.heap.size
 block:∀ k,k<w.heap.size->k≠g->ov.ownBlock≠some k->w'.heap[k]?=w.heap[k]?
 own:ov'.ownBlock=ov.ownBlock\/∃ b,ov'.ownBlock=some b/\w.heap.size<=b
 fpn:∀ k∈fp',k∈fp\/w.heap.size<=k
 c1:w'.cell? ⟨g,1,none⟩=w.cell? ⟨g,1,none⟩
theorem zCj.own {v:Value} {l:List Int} (h:zCj w v l) (w':World) (e:∀ k,v.ownBlock=some k->w'.heap[k]?=w.heap[k]?) (j:w.heap.size<=w'.heap.size):zCj w' v l:=by
 rcases h with h | ⟨g,cap,rfl,c,f,b⟩
 ·exact xR h
 ·refine xW ⟨g,cap,rfl,fun i d=>?_,by omega,b⟩;rw[xb (w:=w) (a:=⟨g,i,none⟩) (e g rfl)];exact c i d
namespace Q
theorem kJQ (vs:List Value) (i:Nat) (x:Value) (a:0<i) (b:i<=vs.length) (h:i-1<(vs.take i++x::vs.drop i).length):(vs.take i++x::vs.drop i)[i-1]=vs[i-1]'(by omega):=by
 rw[xc (by simp;omega)];simp
theorem kJt (vs:List Value) (i:Nat) (x:Value) (b:0<i) (c:i<=vs.length):(vs.take i++x::vs.drop i).set i (vs[i-1]'(by omega))=vs.take (i-1)++(vs[i-1]'(by omega))::vs.drop (i-1):=by
 obtain⟨j,rfl⟩:∃ j,i=j+1:=⟨i-1,by omega⟩;have a:j<vs.length:=by omega
 have e:j+1-(vs.take (j+1)).length=0:=by simp;omega
 rw[xd _ _ (by simp;omega),e];simp only[List.set_cons_zero,x7];rw[List.drop_eq_getElem_cons a,List.take_succ_eq_append_getElem a,List.append_assoc];rfl
theorem kKb (vs:List Value) (i:Nat) (x y:Value) (a:i<=vs.length):(vs.take i++x::vs.drop i).set i y=vs.take i++y::vs.drop i:=by
 have e:i-(vs.take i).length=0:=by simp;omega
 rw[xd _ _ (by simp;omega),e];rfl
end Q
theorem zJz (B g:Nat) (vr ov:Value) (rs:List (List Int)) (vs:List Value) (fp:List Nat) (r:List Int) (w:World) (h:OutAt w B g rs ov vs fp) (hr:zCj w vr r) (aw:zPb rs) (hs:∀ x∈rs,kCs x/\x.length<1000) (ai:kCs r/\r.length<1000) (hn:rs.length<100000000) (hB:B<=w.heap.size)
  (hc:aO rs r<rs.length->cC (rs.getD (aO rs r) []) r≠0) (ay:∀ k,vr.ownBlock=some k->k≠g/\ov.ownBlock≠some k) :
  Calls prog 94 #[.pointer (some ⟨g,0,none⟩),vr] w fun e w'=>e=.returned (.tuple #[])/\∃ ov' vs' fp',OutAt w' B g (rs.take (aO rs r)++r::rs.drop (aO rs r)) ov' vs' fp'/\OFrame w w' g ov ov' fp fp':=by
 obtain⟨i0,aR,bc,bd,be⟩:=info_parts Tryz.infoRow;have hv:=h.cell;have hg:=h.lt;have H:=zAa h;obtain⟨xa,ca,rfl,az⟩:=h.rows.form;obtain⟨ya,yc,rfl,_⟩:=hr.form;have aa:=zAa hr;have aG:=zAa aw;have HS:=zAa hs;have aW:=zPS rs r;clear h hr aw hs;generalize ab:aO rs r=o at *;have aF:=zAa ab;clear ab;go_enter func94,ntmps94;go_upto_region 1 with (first | (go_at_call 112;refine (zHs B g _ _ rs vs r _ hv hg H.out.rows aa.out aG.out HS.out ai hn).mono ?_;rintro e w1 ⟨rfl,T⟩;rw[aF.out]))
 have d0:=aC T hg hv;have f0:=(T.frozen (p:=⟨g,0,none⟩) hg).trans H.out.free;have lg:=xF hg T.size;have J:=zAa T;clear T;have aZ:o<rs.length->o<vs.length:=fun h=>by rw[H.out.rows.len];exact h
 go_cut [27] from 9 to 26 (fun s wx=>s=.bool false/\Hid (Below w.heap.size w wx))
 case first =>
  by_cases hp:o<rs.length
  ·have aV:(o:Int)<(rs.length:Int):=by omega
   obtain⟨b,rfl,bn,hb,aq⟩:=az (by omega);have ag:=aZ hp;have cu:=(J.out.cell (p:=⟨b,o,none⟩) hb).trans (aq o ag);have lb:=xF hb J.out.size;have aH:=zAa ((H.out.rows.rows o hp vs[o] (x5 ag)).below J.out);have ao:=zAa (aa.out.below J.out);have ax:=HS.out rs[o] (x9 hp);have W:=hc hp;have D:rs.getD o []=rs[o]:=by simp[hp]
   rw[D] at W;have bo:(cC rs[o] r==0)=false:=by simpa using W
   clear D W aq hc;generalize vs[o]=u at *;generalize rs[o]=y at *;go_wp2_with (first | (go_at_call 113;refine (xY _ _ y r _ aH.out ao.out ax.1 ai.1 ax.2 ai.2).mono ?_;rintro e w2 ⟨rfl,ah⟩));go_meet
   case rel=>exact⟨rfl,aK J.out (x6 _) ah⟩
  ·have aV:decide ((o:Int)<(rs.length:Int))=false:=decide_eq_false (by omega);go_wp2;go_meet
   case rel=>exact⟨rfl,J⟩
 case rest =>
  obtain⟨rfl,z⟩:=hcut;clear d0 f0 lg J hc;have d0:=aC z.out hg hv;have f0:=(z.out.frozen (p:=⟨g,0,none⟩) hg).trans H.out.free;have lg:=xF hg z.out.size;have am:Hid ((wc.alloc (.cells #[.slice none 0 0] 68)).ownsRow B 68 1 (.slice xa rs.length ca) rs.length vs):=aX H.out.rows.own (fun k e=>(x3 _ _ _ (by have:=(H.out.rows.own.lt k e).2;have:=z.out.size;omega)).trans (z.out.block k (H.out.rows.own.lt k e).2));have al:Hid (∀ j u,[x2 none 0 0][j]?=some u->(wc.alloc (.cells #[.slice none 0 0] 68)).cell? ((⟨wc.heap.size,0,none⟩:Addr).add j)=some u):=World.news_of_block (cs:=#[.slice none 0 0]) (t:=68) (fr:=(0,0)) (heap_alloc_new wc _);have Y:some g≠(x2 xa rs.length ca).ownBlock:=fun e=>by
   obtain⟨c,m⟩:=H.out.ty
   rcases H.out.rows.own.2 with ⟨D,_⟩ | ⟨g',cap,aJ,D,_,hh,_⟩
   ·rw[D] at e;simp[x1] at e
   ·rw[D] at e;simp[x1] at e;subst e
    rcases m with m | m<;>(rw[m] at hh;simp at hh)
  have bv:w.heap.size<=wc.heap.size:=z.out.size;have d1:(wc.alloc (.cells #[.slice none 0 0] 68)).cell? ⟨g,0,none⟩=some (.slice xa rs.length ca):=(aT lg).trans d0;have f1:(wc.alloc (.cells #[.slice none 0 0] 68)).frozen? ⟨g,0,none⟩=false:=by rw[xe (w:=wc) (a:=⟨g,0,none⟩) (x3 _ _ _ lg)];exact f0
  go_upto_region 3 with (first | (at_builtin;refine wpList_append_lies _ rfl (.tmp 32) (.tmp 33) 22 rfl B 68 i0 (.slice none 0 0) 1 24 underlying22 aR bc bd be rfl (by decide) _ rs.length vs rfl (by exact am.out) ⟨wc.heap.size,0,none⟩ 1 1 [.slice none 0 0] rfl rfl (by exact al.out) (by simp[Value.oneCell']) (by decide) (by unfold maxLen;omega) (by omega) (by simp;omega) _ rfl ?_;intro v C I M f ad ae;have d3:=(f.cell_far ⟨g,0,none⟩ (by simp;omega) Y).trans d1;have f3:=(f.frozen_far ⟨g,0,none⟩ (by simp;omega) Y).trans f1;have aB:g<I.heap.size:=by have:=f.size;simp at this;omega))
  have E:v≠g:=fun e=>by
   obtain⟨c,m⟩:=H.out.ty;have L:I.heap[g]?=w.heap[g]?:=(f.block g (by simp;omega) Y).trans ((x3 _ _ _ lg).trans (z.out.block g hg))
   rcases M.2 with ⟨D,_⟩ | ⟨g',cap,aJ,D,_,hh,_⟩
   ·simp at D
   ·simp only[Value.slice.injEq,Option.some.injEq,Addr.mk.injEq] at D;rw[<- D.1.1,e,L] at hh
    rcases m with m | m<;>(rw[m] at hh;simp at hh)
  have O3:Hid ((I.setCell ⟨g,0,none⟩ (.slice (some ⟨v,0,none⟩) (rs.length+1) C)).ownsRow B 68 1 (.slice (some ⟨v,0,none⟩) (rs.length+1) C) (rs.length+1) (vs++[.slice none 0 0])):=aX M (fun k e=>x4 _ _ _ _ (by simp[x1] at e;simp;omega));have e3:(I.setCell ⟨g,0,none⟩ (.slice (some ⟨v,0,none⟩) (rs.length+1) C)).cell? ⟨g,0,none⟩=some (.slice (some ⟨v,0,none⟩) (rs.length+1) C):=World.cell?_setCell_same _ _ _ d3;have aD:Hid ((I.setCell ⟨g,0,none⟩ (.slice (some ⟨v,0,none⟩) (rs.length+1) C)).cell? ⟨g,1,none⟩=w.cell? ⟨g,1,none⟩):=by
   unfold Hid;rw[xg _ _ _ _ (by simp),f.cell_far ⟨g,1,none⟩ (by simp;omega) Y,aT lg];exact z.out.cell (p:=⟨g,1,none⟩) hg
  have F3:Hid (∀ k,k<w.heap.size->k≠g->(x2 xa rs.length ca).ownBlock≠some k->(I.setCell ⟨g,0,none⟩ (.slice (some ⟨v,0,none⟩) (rs.length+1) C)).heap[k]?=w.heap[k]?):=fun k S h2 h3=>by
   rw[x4 _ _ _ _ h2,f.block k (by simp;omega) (fun e=>h3 e.symm),x3 _ _ _ (by omega),z.out.block k S]
  have G3:Hid ((I.setCell ⟨g,0,none⟩ (.slice (some ⟨v,0,none⟩) (rs.length+1) C)).os=w.os/\(I.setCell ⟨g,0,none⟩ (.slice (some ⟨v,0,none⟩) (rs.length+1) C)).tape=w.tape/\(I.setCell ⟨g,0,none⟩ (.slice (some ⟨v,0,none⟩) (rs.length+1) C)).output=w.output):=⟨f.os.trans z.out.os,f.tape.trans z.out.tape,f.output.trans z.out.output⟩;have bs:w.heap.size<=(I.setCell ⟨g,0,none⟩ (.slice (some ⟨v,0,none⟩) (rs.length+1) C)).heap.size:=by have:=f.size;simp at this ⊢;omega
  have G:g<(I.setCell ⟨g,0,none⟩ (.slice (some ⟨v,0,none⟩) (rs.length+1) C)).heap.size:=by simpa using aB
  have T3:Hid (∃ c,(I.setCell ⟨g,0,none⟩ (.slice (some ⟨v,0,none⟩) (rs.length+1) C)).heap[g]?=some (.cells c 66 (0,0))\/(I.setCell ⟨g,0,none⟩ (.slice (some ⟨v,0,none⟩) (rs.length+1) C)).heap[g]?=some (.cells c 66 (0,0))):=by
   obtain⟨c,m⟩:=H.out.ty;have L:I.heap[g]?=w.heap[g]?:=(f.block g (by simp;omega) Y).trans ((x3 _ _ _ lg).trans (z.out.block g hg))
   rcases m with m | m
   ·exact⟨_,xR (bH (L.trans m) 0 _)⟩
   ·exact⟨_,xW (bH (L.trans m) 0 _)⟩
  have AT:Hid ((x2 xa rs.length ca).ownBlock=some v\/w.heap.size<=v):=by
   rcases ad with S | S
   ·exact xR S
   ·exact xW (by simp at S;omega)
  have aQ:v<(I.setCell ⟨g,0,none⟩ (.slice (some ⟨v,0,none⟩) (rs.length+1) C)).heap.size:=by simpa using ae
  have N:vs.length=rs.length:=H.out.rows.len;have V:=zAa N;clear M f ad d3 f3 aB d1 f1 am al ae d0 f0 lg N az;generalize aM:I.setCell ⟨g,0,none⟩ (.slice (some ⟨v,0,none⟩) (rs.length+1) C)=W3 at *;clear aM;go_wp2;go_loopw [5] (fun j wr=>∃ (i:Nat) (x:Value),o<=i/\i<=rs.length/\j=.int .i64 i/\Hid (wr.ownsRow B 68 1 (.slice (some ⟨v,0,none⟩) (rs.length+1) C) (rs.length+1) (vs.take i++x::vs.drop i))/\Hid (W3.grownBy wr (some v))) (fun j _=>(intOf j).toNat)
  case atStart=>exact⟨rs.length,.slice none 0 0,by omega,x6 _,by go_num,by have S:=O3.out;have h2:=V.out;unfold Hid;rw[List.take_of_length_le (by omega),List.drop_eq_nil_of_le (by omega)];exact S,jM _ _⟩
  case round =>
   obtain⟨i,x,br,bq,rfl,HO,K⟩:=hrel;have e4:wr.cell? ⟨g,0,none⟩=some (.slice (some ⟨v,0,none⟩) (rs.length+1) C):=(K.out.cell_far ⟨g,0,none⟩ G (by simp;exact fun e=>E e.symm)).trans e3;have Z:g<wr.heap.size:=xF G K.out.size;have ak:v<wr.heap.size:=xF aQ K.out.size;by_cases hlt:o<i
   ·obtain⟨q,rfl⟩:∃ q,i=q+1:=⟨i-1,by omega⟩;have bg:(o:Int)<(q:Int)+1:=by omega
    have aY:(0:Int)<(q:Int)+1:=by omega
    have T:(q:Int)<(rs.length:Int)+1:=by omega
    have ah:(q:Int)+1<(rs.length:Int)+1:=by omega
    have bk:(q:Int)<(rs.length:Int):=by omega
    have ba:(q:Int)+1-1=(q:Int):=by omega
    have bt:IntKind.i64.wrap ((q:Int)+1-1)=(q:Int):=by rw[ba];exact IntWalk.i64_in _ ⟨by omega,by omega⟩
    have bb:IntKind.i64.wrap (q:Int)=(q:Int):=IntWalk.i64_in _ ⟨by omega,by omega⟩;have bu:IntKind.i64.wrap (((q+1:Nat):Int)-1)=(q:Int):=by rw[show (((q+1:Nat):Int)-1)=(q:Int) by omega];exact bb
    have bl:¬ ((rs.length:Int)+1<=(q:Int)):=by omega
    have ap:q<rs.length+1:=by omega
    have bm:q+1<rs.length+1:=by omega
    have N:=V.out;have X:(vs.take (q+1)++x::vs.drop (q+1)).length=rs.length+1:=by simp;omega
    have cp:=wY HO.out (i:=q) (by omega);have eg:=kJQ vs (q+1) x (by omega) (by omega) (by simp;omega);simp only[x7] at eg;rw[eg] at cp;have ci:=wY HO.out (i:=q+1) (by omega);have fi:=zHt HO.out (q+1);have av:q<vs.length:=by omega
    have an:=zAa (zJy HO.out (i:=q+1) (u:=vs[q]) (by omega));have es:=kJt vs (q+1) x (by omega) (by omega);simp only[x7] at es;rw[es] at an;have aE:=zAa (gD K.out (q+1) vs[q]);obtain⟨ua,un,uc,A⟩:∃ ua un uc,vs[q]=.slice ua un uc:=by
     obtain⟨a1,c1,D,_⟩:=(H.out.rows.rows q (by omega) vs[q] (x5 av)).form;exact⟨a1,_,c1,D⟩
    have bj:(0:Int)<=(q:Int)+1:=by omega
    generalize vs[q]=u at *;subst A;generalize (vs.take (q+1)++x::vs.drop (q+1))[q+1]=y at *;clear N X eg es;go_upto_region 6 with fail
    go_region_held3 (fun w'=>w'.cell? ⟨g,0,none⟩=some (.slice (some ⟨v,0,none⟩) (rs.length+1) C)/\w'.cell? ⟨v,q,none⟩=some (.slice ua un uc)) (first | exact⟨e4,cp⟩ | exact⟨(bI (by omega)).trans e4,(xg _ _ _ _ (by simp)).trans cp⟩) (first | fail);go_wp2;go_roundw
    case rel=>exact⟨q,_,by omega,by omega,by first | rfl | go_num,an,zEK aE.out⟩
    case measure=>simp[intOf]
   ·have ab:o=i:=by omega
    subst ab;have bh:decide ((o:Int)<(o:Int))=false:=decide_eq_false (by omega);have ah:(o:Int)<((rs.length+1:Nat):Int):=by omega
    have N:=V.out;have X:(vs.take o++x::vs.drop o).length=rs.length+1:=by simp;omega
    have ci:=wY HO.out (i:=o) (by omega);have fi:=zHt HO.out o;have ac:Hid (∀ k,k<w.heap.size->k≠g->(x2 xa rs.length ca).ownBlock≠some k->wr.heap[k]?=w.heap[k]?):=fun k S h2 h3=>by
     rw[K.out.block k (by omega) (by
      intro e
      rcases AT.out with U | U
      ·exact h3 (U.trans e.symm)
      ·simp at e;omega),F3.out k S h2 h3]
    have aI:Hid (zCj wr (.slice ya r.length yc) r):=aa.out.own wr (fun k e=>ac.out k (by
     rcases aa.out with ⟨D,_⟩ | ⟨g',cap,D,_,bp⟩
     ·rw[D] at e;simp[x1] at e
     ·rw[D] at e;simp[x1] at e;omega) (ay k e).1 (ay k e).2) (by have:=K.out.size;omega)
    generalize (vs.take o++x::vs.drop o)[o]=y at *;clear N X;go_upto_region 8 with fail
    go_region_held3 (fun w'=>w'.cell? ⟨g,0,none⟩=some (.slice (some ⟨v,0,none⟩) (rs.length+1) C)) (first | exact e4 | exact p4 | exact (bI (by omega)).trans p4) (first
     | (go_at_call 92;refine (yX _ r _ (aI.out.below (Below.refl _ _).drew) (by omega)).mono ?_;rintro e w5 ⟨g5,rfl,aS,au,ap⟩;have O:Hid (Below wr.heap.size wr w5):=((Below.refl wr.heap.size wr).drew).trans (ap.mono (by simp));have I5:=zAa aS;have p4:=aC O.out Z e4;have p5:=aC O.out ak ci;have p6:=(O.out.frozen (p:=⟨v,o,none⟩) ak).trans fi;have aP:wr.heap.size<=g5:=(by simpa using au);have bf:=xF Z O.out.size;have bi:=xF ak O.out.size))
    all_goals
     (try go_wp2)
     go_end0;have aN:=I5.out.lt;have O5:=zJy (u:=.slice (some ⟨g5,0,none⟩) r.length r.length) (aX (w':=w5) HO.out (fun k e=>O.out.block k (HO.out.lt k e).2)) (i:=o) (by omega);rw[kKb vs o x _ (by rw[V.out];exact aW)] at O5;have ar:∀ k,k<w.heap.size->k≠g->(x2 xa rs.length ca).ownBlock≠some k->(w5.setCell ⟨v,o,none⟩ (.slice (some ⟨g5,0,none⟩) r.length r.length)).heap[k]?=w.heap[k]?:=fun k S h2 h3=>by
      have aU:k≠v:=fun e=>by
       rcases AT.out with U | U
       ·exact h3 (by rw[U,e])
       ·omega
      rw[x4 _ _ _ _ aU,O.out.block k (by have:=K.out.size;omega),ac.out k S h2 h3]
     have aj:w.heap.size<=(w5.setCell ⟨v,o,none⟩ (.slice (some ⟨g5,0,none⟩) r.length r.length)).heap.size:=by have:=K.out.size;have:=O.out.size;simp;omega
     have aL:zCj (w5.setCell ⟨v,o,none⟩ (.slice (some ⟨g5,0,none⟩) r.length r.length)) (.slice (some ⟨g5,0,none⟩) r.length r.length) r:=(I5.out.aA (x4 _ _ _ _ (by simp;omega))).jK r.length;have af:∀ u∈vs,∀ l,zCj w u l->zCj (w5.setCell ⟨v,o,none⟩ (.slice (some ⟨g5,0,none⟩) r.length r.length)) u l:=fun u A l hl=>hl.own _ (fun k e=>by
      have F:=H.out.fps u A k e;exact ar k (H.out.fpl k F) (H.out.dis k F).1 (H.out.dis k F).2) aj
     have N:=V.out;refine⟨rfl,_,vs.take o++(.slice (some ⟨g5,0,none⟩) r.length r.length)::vs.drop o,g5::fp,⟨(bI (by omega)).trans p4,by simpa using bf,?_,⟨?_,?_,?_⟩,?_,?_,?_,?_⟩,?_⟩
     ·rw[World.frozen?_setCell,O.out.frozen (p:=⟨g,0,none⟩) Z,K.out.frozen_far ⟨g,0,none⟩ G (by simp;exact fun e=>E e.symm)];obtain⟨c,m⟩:=T3.out
      rcases m with m | m<;>simp[World.frozen?,m]
     ·have e5:(rs.take o++r::rs.drop o).length=rs.length+1:=by simp;omega
      rw[e5];exact O5
     ·simp;omega
     ·intro q hq u A;by_cases S:q<o
      ·rw[List.getElem?_append_left (by simp;omega)] at A;rw[xc (by simp;omega)];have av:q<vs.length:=by omega
       simp only[List.getElem?_take,S,if_true] at A;simp only[List.getElem_take];exact af u (x8 A) _ (H.out.rows.rows q (by omega) u A)
      ·by_cases h2:q=o
       ·subst h2;rw[xh (by simp;omega)] at A;rw[xi (by simp;omega)];have e6:q-(vs.take q).length=0:=by simp;omega
        have e7:q-(rs.take q).length=0:=by simp;omega
        rw[e6] at A;simp at A;subst A;simp only[e7,List.getElem_cons_zero];exact aL
       ·rw[xh (by simp;omega)] at A;rw[xi (by simp;omega)];obtain⟨d,hd⟩:∃ d,q=o+1+d:=⟨q-o-1,by omega⟩;have e6:q-(vs.take o).length=d+1:=by simp;omega
        have e7:q-(rs.take o).length=d+1:=by simp;omega
        rw[e6] at A;simp only[List.getElem?_cons_succ,List.getElem?_drop] at A;simp only[e7,List.getElem_cons_succ,List.getElem_drop];simp at hq;exact af u (x8 A) _ (H.out.rows.rows (o+d) (by omega) u A)
     ·obtain⟨c,m⟩:=T3.out;have L:(w5.setCell ⟨v,o,none⟩ (.slice (some ⟨g5,0,none⟩) r.length r.length)).heap[g]?=W3.heap[g]?:=by rw[x4 _ _ _ _ (fun e=>E e.symm),O.out.block g Z,K.out.block g G (by simp;exact fun e=>E e.symm)]
      rcases m with m | m
      ·exact⟨c,xR (L.trans m)⟩
      ·exact⟨c,xW (L.trans m)⟩
     ·intro u A k e
      rcases List.mem_append.1 A with A | A
      ·exact xj _ (H.out.fps u (List.mem_of_mem_take A) k e)
      ·rcases List.mem_cons.1 A with rfl | A
       ·simp[x1] at e;subst e;simp
       ·exact xj _ (H.out.fps u (List.mem_of_mem_drop A) k e)
     ·intro k F
      rcases List.mem_cons.1 F with rfl | F
      ·simpa using aN
      ·exact xF (H.out.fpl k F) aj
     ·intro k F
      rcases List.mem_cons.1 F with rfl | F
      ·exact⟨by omega,by simp[x1];omega⟩
      ·refine⟨(H.out.dis k F).1,?_⟩;intro e;simp[x1] at e
       rcases AT.out with U | U
       ·exact (H.out.dis k F).2 (by rw[U,e])
       ·have:=H.out.fpl k F;omega
     ·refine⟨?_,?_,?_,aj,ar,?_,?_,?_⟩
      ·exact (O.out.os.trans K.out.os).trans G3.out.1
      ·exact (O.out.tape.trans K.out.tape).trans G3.out.2.1
      ·exact (O.out.output.trans K.out.output).trans G3.out.2.2
      ·rcases AT.out with U | U
       ·exact xR (by rw[U];rfl)
       ·exact xW ⟨v,rfl,U⟩
      ·intro k F
       rcases List.mem_cons.1 F with rfl | F
       ·exact xW (by have:=K.out.size;omega)
       ·exact xR F
      ·rw[bI (by omega),O.out.cell (p:=⟨g,1,none⟩) Z,K.out.cell_far ⟨g,1,none⟩ G (by simp;exact fun e=>E e.symm)];exact aD.out
theorem OutAt.off (h:OutAt w B g rs ov vs fp) (d:w'.heap[g]?=w.heap[g]?) (p:∀ k,ov.ownBlock=some k->w'.heap[k]?=w.heap[k]?) (l:∀ k∈fp,w'.heap[k]?=w.heap[k]?) (f:w.heap.size<=w'.heap.size):OutAt w' B g rs ov vs fp:=by
 obtain⟨c,b⟩:=h.ty;refine⟨(xb (w:=w) (a:=⟨g,0,none⟩) d).trans h.cell,xF h.lt f,(xe (w:=w) (a:=⟨g,0,none⟩) d).trans h.free,⟨aX h.rows.own p,h.rows.len,fun i m u j=>(h.rows.rows i m u j).own _ (fun k e=>l k (h.fps u (x8 j) k e)) f⟩,⟨c,?_⟩,h.fps,fun k o=>xF (h.fpl k o) f,h.dis⟩
 rcases b with b | b
 ·exact xR (d.trans b)
 ·exact xW (d.trans b)
theorem OutAt.eB (h:OutAt w B g rs ov vs fp) (k:Nat) (e:ov.ownBlock=some k):k<w.heap.size:=(h.rows.own.lt k e).2
theorem OutAt.below (h:OutAt w B g rs ov vs fp) (a:Below w.heap.size w w'):OutAt w' B g rs ov vs fp :=
 h.off (a.block g h.lt) (fun k e=>a.block k (h.eB k e)) (fun k b=>a.block k (h.fpl k b)) a.size
theorem OutAt.in_ (h:OutAt w B g rs ov vs fp):OutIn w B g rs :=
 ⟨⟨ov,vs,h.cell,h.rows⟩,h.lt,h.free,fun c t d e=>by
  obtain⟨b,a⟩:=h.ty
  rcases a with a | a<;>(rw[a] at e;simp at e;obtain⟨_,rfl,_⟩:=e;exact⟨by decide,by decide⟩)⟩
theorem OFrame.dS (a:Below w.heap.size w w') (c:g<w.heap.size):OFrame w w' g ov ov fp fp :=
 ⟨a.os,a.tape,a.output,a.size,fun k b _ _=>a.block k b,xR rfl,fun k b=>xR b,a.cell c⟩
theorem zFa (B g:Nat) (d ov:Value) (rs:List (List Int)) (vs:List Value) (fp:List Nat) (r:List Int) (w:World) (h:OutAt w B g rs ov vs fp) (m:zCj w d r) (b:zPb rs) (o:∀ x∈rs,kCs x/\x.length<1000) (c:kCs r/\r.length<1000) (l:rs.length<100000000) (q:B<=w.heap.size) (f:∀ k,d.ownBlock=some k->k≠g/\ov.ownBlock≠some k) :
  Calls prog 94 #[.pointer (some ⟨g,0,none⟩),d] w fun e w'=>e=.returned (.tuple #[])/\∃ ov' vs' fp',OutAt w' B g (eW rs r) ov' vs' fp'/\OFrame w w' g ov ov' fp fp':=by
 have a:=kKN (r:=r) rs;by_cases h1:aO rs r<rs.length
 ·rw[dif_pos h1] at a;have p:rs.getD (aO rs r) []=rs[aO rs r]:=by simp[h1]
  by_cases h2:cC rs[aO rs r] r=0
  ·rw[if_pos h2] at a;rw[a];refine (zKs B g d rs r w h.in_ m b o c l h1 (by rw[p];exact h2)).mono ?_;rintro e w' ⟨rfl,s⟩;exact⟨rfl,ov,vs,fp,h.below s,OFrame.dS s h.lt⟩
  ·rw[if_neg h2] at a;rw[a];exact zJz B g d ov rs vs fp r w h m b o c l q (fun _=>by rw[p];exact h2) f
 ·rw[dif_neg h1] at a;have u:aO rs r=rs.length:=by have:=zPS rs r;omega
  have j:eW rs r=rs.take (aO rs r)++r::rs.drop (aO rs r):=by rw[a,u];simp
  rw[j];exact zJz B g d ov rs vs fp r w h m b o c l q (fun h=>absurd h h1) f
end Go.Proofs.YtonodfjdiepglaaGreatDoor
