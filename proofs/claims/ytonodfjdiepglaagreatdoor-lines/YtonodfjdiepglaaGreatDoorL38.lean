import Derived.Test.YtonodfjdiepglaaGreatDoorL37
import Derived.Test.YtonodfjdiepglaaGreatDoorL36
set_option linter.unusedVariables false
set_option linter.unusedSimpArgs false
set_option maxHeartbeats 12800000
namespace Go.Proofs.YtonodfjdiepglaaGreatDoor
open Go Go.RowKit Go.Proofs.Tryz P Q R
set_option maxRecDepth 1000000
variable {W1 w w' w1:World} {B g gb gc gd n sz:Nat} {t:TypeId} {rv v:Value} {vs xs:List Value} {ds:List Int} {A:WA} {rss:List (List Run)} {st:Option RS} {wss:List (List Value)}
open Or renaming inr→xF,inl→xR
open Go.Value renaming ownBlock→xW
open Go.World renaming cell?→x1,cell?_of_block→x2
open Nat renaming lt_of_lt_of_le→x3
open List renaming foldl_cons→x4
def gS (rv wb wd wg:Value):Array Value:=#[.slice none 0 0,.slice none 0 0,.slice none 0 0,.slice none 0 0,.slice none 0 0,.slice none 0 0,.slice none 0 0,.slice none 0 0,.slice none 0 0,.slice none 0 0,.slice none 0 0,.slice none 0 0,.slice none 0 0,rv,wb,wd,wg,.slice none 0 0,.slice none 0 0,.slice none 0 0,.bool false,.bool false]
def zLr (w w':World) (rss:List (List Run)) (e:Ending):Prop:=∃ rv vs wss gb gd,e=.returned (.agg (gS rv (.slice (some ⟨gb,0,none⟩) rss.length rss.length) (.slice (some ⟨gd,0,none⟩) rss.length rss.length) (.bool false)))/\(∃ a n c,rv=.slice a n c)/\Er w' 0 rv rss vs wss/\zAt w' gb (zBh rss)/\zAt w' gd (eI rss.length)/\w.heap.size<=gb/\w.heap.size<=gd/\gb≠gd/\Below w.heap.size w w'
theorem rV (h:w.ownsRow B t sz v n xs):∃ a c,v=.slice a n c:=by
 rcases h.2 with ⟨e,d⟩ | ⟨f,c,b,e,_⟩
 ·exact⟨none,0,by rw[e,d]⟩
 ·exact⟨_,c,e⟩
theorem zDT (B r b:Nat) (a:List Thr) (w:World) (h:eF w B (.slice (some ⟨r,0,none⟩) a.length b) a) (hn:a.length<20) (C:∀ t∈a,(∀ s∈t.Eb,kCY s)/\t.Eb.length<900/\kBm t.Eb<100000) :
  Calls prog 21 #[.agg #[.slice (some ⟨r,0,none⟩) a.length b]] w fun e w'=>zLr w w' (runs a) e:=by
 obtain⟨L,M,D,f⟩:=iM w #[.slice (some ⟨r,0,none⟩) a.length b] (gS (.slice none 0 0) (.slice none 0 0) (.slice none 0 0) (.bool false)) 32 84;have T:=zAa (h.keep fun k hk=>f.block k hk);have E:=zAa C;have o:=zAa f;clear f h C;go_enter func21,ntmps21;go_upto_region 1 with fail
 simp only[gS] at L M D T o;generalize hE:(w.alloc (.cells #[.slice (some ⟨r,0,none⟩) a.length b] 32)).alloc (.cells #[.slice none 0 0,.slice none 0 0,.slice none 0 0,.slice none 0 0,.slice none 0 0,.slice none 0 0,.slice none 0 0,.slice none 0 0,.slice none 0 0,.slice none 0 0,.slice none 0 0,.slice none 0 0,.slice none 0 0,.slice none 0 0,.slice none 0 0,.slice none 0 0,.bool false,.slice none 0 0,.slice none 0 0,.slice none 0 0,.bool false,.bool false] 84)=U at *;have aa:=aD L 0 _ rfl;have l0:w.heap.size<U.heap.size:=by omega
 have l1:w.heap.size+1<U.heap.size:=by omega
 have Y:=zAa M;clear hE L M D;have X:=zAa (yI a);go_wp2_with (first
  | (go_at_call 38;refine (zGb B r b a _ T.out hn E.out).mono ?_;rintro e w1 ⟨rv,vs,wss,gb,gd,rfl,l,y,z,ab,ac,I,d⟩;have c:=zAa l;have F:=zAa y;have G:=zAa z;have V:=zAa d;have H:=zAa ((d.block _ l1).trans Y.out);obtain⟨O,S,J⟩:=rV l.own;subst J;clear l y z d)
  | (refine wpList_store_mid rfl 84 (.tmp 2) (.tmp 5) rfl (w.heap.size+1) 0 (gS (.slice O (runs a).length S) (.slice (some ⟨gb,0,none⟩) (runs a).length (runs a).length) (.slice (some ⟨gd,0,none⟩) (runs a).length (runs a).length) (.bool false)) rfl rfl (sX H.out (by simp[gS])) (by kernel_rfl) (by simp[gS,Value.oneCell']) ?_;have SW:=zAa (wS (gS (.slice O (runs a).length S) (.slice (some ⟨gb,0,none⟩) (runs a).length (runs a).length) (.slice (some ⟨gd,0,none⟩) (runs a).length (runs a).length) (.bool false)).toList H.out (by simp[gS]));generalize w1.setCells (w.heap.size+1) 0 (gS (.slice O (runs a).length S) (.slice (some ⟨gb,0,none⟩) (runs a).length (runs a).length) (.slice (some ⟨gd,0,none⟩) (runs a).length (runs a).length) (.bool false)).toList=Z at *))
 obtain⟨s0,N,s2⟩:=SW.out;have W:=s2 w w.heap.size (by omega) (aK o.out (Nat.le_refl _) V.out);have m:∀ {B n sz:Nat} {t:TypeId} {v:Value} {xs:List Value},w1.ownsRow B t sz v n xs->t≠84->Z.ownsRow B t sz v n xs:=fun h ht=>aX h (fun k e=>N k (fun e2=>eD h H.out ht (by rw[e,e2])))
 refine gI (p:=2) (w.heap.size+1) _ (by kernel_rfl) underlying84 rfl (by kernel_rfl) rfl (by exact s0) rfl ?_;refine⟨_,vs,wss,gb,gd,rfl,⟨_,_,_,rfl⟩,⟨m c.out.own (by decide),c.out.lv,c.out.lw,fun i hi u us hu K=>?_⟩,F.out.aA (N _ (by omega)),G.out.aA (N _ (by omega)),by omega,by omega,I,W⟩;have q:=c.out.runs i hi u us hu K;exact⟨m q.own (by decide),q.len,fun j hj x hx=>m (q.evs j hj x hx) (by decide)⟩
section
variable {w w':World} {g:Nat} {a:Q.Ans} {ov:Value} {vs:List Value} {fp:List Nat}
theorem En.pU (j:En w g a ov vs fp) (h:w.ownsRow B t sz v n xs) (m:t≠66) (o:t≠66) (p:t≠68) (k:Nat) (e:v.ownBlock=some k):¬ Wr g ov k:=fun f=>by
 obtain⟨c,d⟩:=j.out.ty
 rcases f with f | f
 ·subst f
  rcases d with d | d
  ·exact eD h d m e
  ·exact eD h d o e
 ·rcases j.out.rows.own.2 with ⟨i,_⟩ | ⟨b,r,l,i,_,q,_⟩
  ·rw[i] at f;simp[xW] at f
  ·rw[i] at f;simp[xW] at f;subst f;exact eD h q p e
theorem En.fU (d:En w g a ov vs fp) {k:Nat} {c:Array Value} (h:w.heap[k]?=some (.cells c t (0,0))) (f:t≠66) (i:t≠66) (j:t≠68):¬ Wr g ov k:=fun b=>by
 rcases b with b | b
 ·exact d.ne h (fun e=>f e.symm) (fun e=>i e.symm) b.symm
 ·exact eD d.out.rows.own h (fun e=>j e.symm) b
theorem zW (f:En w g a ov vs fp) (i:XF (Wr g ov) w w') (h:w.ownsRow B t sz v n xs) (b:t≠66) (c:t≠66) (d:t≠68):w'.ownsRow B t sz v n xs :=
 aX h (fun k e=>i.block k (h.lt k e).2 (f.pU h b c d k e))
theorem zJE (c:En w g a ov vs fp) (d:XF (Wr g ov) w w') {b:Nat} {l:List Int} (h:zAt w b l):zAt w' b l :=
 h.aA (d.block b h.lt (c.fU (t:=3) h (by decide) (by decide) (by decide)))
theorem zKM (f:En w g a ov vs fp) (d:XF (Wr g ov) w w') {o:Nat} {e:List Int} {rest:List (List Int)} (h:zDS w gc o gb gd e ds rest) (i:w'.heap[gc]?=w.heap[gc]?):zDS w' gc o gb gd e ds rest:=by
 obtain⟨b,⟨k,l,m,r,cl,p,q,u,x,y,z⟩,s⟩:=h;have c:∀ j,w'.cell? ⟨gc,j,none⟩=w.cell? ⟨gc,j,none⟩:=fun j=>x2 (w:=w) (a:=⟨gc,j,none⟩) i
 exact⟨b,⟨(c _).trans k,(c _).trans l,(c _).trans m,fun j=>(World.frozen?_of_block (w:=w) (a:=⟨gc,j,none⟩) i).trans (r j),x3 cl d.size,zJE f d p,zJE f d q,u,x,y,z⟩,s⟩
theorem zLG (d:En w g a ov vs fp) (e:XF (Wr g ov) w w') (h:Box w gc):w'.heap[gc]?=w.heap[gc]?:=by
 obtain⟨c,b,f⟩:=id h;exact e.block gc h.lt (d.fU b (by decide) (by decide) (by decide))
theorem Et.wr {rest:List (List Int)} (h:Et w gc A rss st ds rest) (d:En w g a ov vs fp) (r:∀ k,nbS st k->¬ Wr g ov k) (c:XF (Wr g ov) w w'):Et w' gc A rss st ds rest:=by
 have l:=zLG d c h.box;have f:∀ j,w'.cell? ⟨gc,j,none⟩=w.cell? ⟨gc,j,none⟩:=fun j=>x2 (w:=w) (a:=⟨gc,j,none⟩) l
 refine⟨h.box.of l,⟨(f _).trans h.ws.c0,⟨zW d c h.ws.runs.own (by decide) (by decide) (by decide),h.ws.runs.lv,h.ws.runs.lw,fun i o u G m z=>?_⟩,zKM d c h.ws.ctr l⟩,(f _).trans h.beg,fun s D=>?_⟩
 ·have q:=h.ws.runs.runs i o u G m z;exact⟨zW d c q.own (by decide) (by decide) (by decide),q.len,fun j E x C=>zW d c (q.evs j E x C) (by decide) (by decide) (by decide)⟩
 ·obtain⟨b,y⟩:=h.rs s D;have p:∀ k,s.R.nb k->¬ Wr g ov k:=fun k F=>r k ⟨s,D,F⟩
  refine⟨⟨(f _).trans b.c0,(f _).trans b.c1,b.wdi.wr d (fun k e=>p k (xR e)) c.block c.size,fY b.fc l,b.fin.wr d c.block,⟨(f _).trans b.rd.c0,⟨aX b.rd.rows.own (fun k e=>c.block k (b.rd.rows.own.lt k e).2 (p k (xF (xR e)))),b.rd.rows.len,fun i o u m=>(b.rd.rows.rows i o u m).own _ (fun k e=>c.block k ?_ (p k (xF (xF (xR ⟨u,List.mem_of_getElem? m,e⟩))))) c.size⟩,zKM d c b.rd.ctr l,b.rd.nc,b.rd.ne⟩,b.n1,b.n2,b.n3⟩,y⟩;exact wO (b.rd.rows.rows i o u m) k e
end
theorem RA.on.nH {R:RA} {d:Wd} {rest:List (List Int)} (h:R.on w gc A d ds rest) (k:Nat) (j:R.nb k):k<w.heap.size:=by
 obtain⟨b,c⟩:=h.rd.ctr.ctr
 rcases j with e | e | ⟨u,m,e⟩ | e | e
 ·exact wO h.wdi.regs k e
 ·exact (h.rd.rows.own.lt k e).2
 ·obtain⟨i,f,a⟩:=List.getElem_of_mem m;have l:i<(zMf d.Ea).length:=by have:=h.rd.rows.len;omega
  exact wO (h.rd.rows.rows i l u (by rw[List.getElem?_eq_getElem f,a])) k e
 ·subst e;exact c.bases.lt
 ·subst e;exact c.digits.lt
theorem Et.nH {rest:List (List Int)} (h:Et w gc A rss st ds rest) (k:Nat) (a:nbS st k):k<w.heap.size:=by
 obtain⟨s,b,a⟩:=a;exact (h.rs s b).1.nH k a
theorem Et.CI {rest:List (List Int)} (h:Et w gc A rss st ds rest) (k:Nat) (a:gdS st k):k<w.heap.size:=by
 obtain⟨s,b,a⟩:=a;subst a;exact h.nH _ ⟨s,b,xF (xF (xF (xF rfl)))⟩
structure EC (w0 w:World) (gc g:Nat) (A:WA) (rss:List (List Run)) (st:Option RS) (ds:List Int) (rest:List (List Int)) (a:Ans) (ov:Value) (vs:List Value) (fp:List Nat):Prop where
 cand:Et w gc A rss st ds rest
 ans:En w g a ov vs fp
 nb:∀ k,nbS st k->¬ Wr g ov k
 fpd:∀ k∈fp,k≠gc/\k≠A.gd/\¬ gdS st k
 low:w0.heap.size<=gc/\w0.heap.size<=g/\w0.heap.size<=A.gd/\(∀ k,gdS st k->w0.heap.size<=k)/\(∀ k,ov.ownBlock=some k->w0.heap.size<=k)/\∀ k∈fp,w0.heap.size<=k
 bl:Below w0.heap.size w0 w
section
variable {w0 w:World} {gc g:Nat} {A:WA} {rss:List (List Q.Run)} {st:Option RS} {ds:List Int} {rest:List (List Int)} {a:Q.Ans} {ov:Value} {vs:List Value} {fp:List Nat}
theorem EC.below (h:EC w0 w gc g A rss st ds rest a ov vs fp) (b:Below w.heap.size w w'):EC w0 w' gc g A rss st ds rest a ov vs fp :=
 ⟨h.cand.below b,h.ans.below b,h.nb,h.fpd,h.low,aK h.bl (Nat.le_refl _) b⟩
theorem Eo.xf (h:Eo w w' gc A st):XF (fun k=>k=gc\/k=A.gd\/gdS st k) w w' :=
 ⟨h.os,h.tape,h.output,h.size,fun k b a=>h.block k b (fun e=>a (xR e)) (fun e=>a (xF (xR e))) (fun e=>a (xF (xF e)))⟩
theorem XF.low {P:Nat->Prop} {b:World} (a:Below b.heap.size b w) (h:XF P w w') (d:∀ k,P k->b.heap.size<=k):Below b.heap.size b w' :=
 ⟨h.os.trans a.os,h.tape.trans a.tape,h.output.trans a.output,Nat.le_trans a.size h.size,fun k c=>(h.block k (x3 c a.size) (fun e=>by have:=d k e;omega)).trans (a.block k c)⟩
theorem EC.frame (h:EC w0 w gc g A rss st ds rest a ov vs fp) (i:Eo w w' gc A st):En w' g a ov vs fp/\Below w0.heap.size w0 w':=by
 obtain⟨x,d,_⟩:=id h.cand.box;obtain⟨u,f⟩:=h.cand.ws.ctr.ctr;have o:∀ k,gdS st k->∃ l,zAt w k l:=fun k c=>by
  obtain⟨s,r,rfl⟩:=c;obtain⟨b,p⟩:=(h.cand.rs s r).1.rd.ctr.ctr;exact⟨_,p.digits⟩
 have j:∀ k,(k=gc\/k=A.gd\/gdS st k)->¬ Wr g ov k:=fun k c=>by
  rcases c with e | e | e
  ·subst e;exact h.ans.fU d (by decide) (by decide) (by decide)
  ·subst e;exact h.ans.fU (t:=3) f.digits (by decide) (by decide) (by decide)
  ·obtain⟨l,q⟩:=o k e;exact h.ans.fU (t:=3) q (by decide) (by decide) (by decide)
 refine⟨h.ans.xf i.xf (fun e=>j g e (xR rfl)) (fun k e m=>j k m (xF e)) (fun k c e=>?_),i.xf.low h.bl (fun k e=>?_)⟩
 ·rcases e with e | e | e
  ·exact (h.fpd k c).1 e
  ·exact (h.fpd k c).2.1 e
  ·exact (h.fpd k c).2.2 e
 ·rcases e with e | e | e
  ·rw[e];exact h.low.1
  ·rw[e];exact h.low.2.2.1
  ·exact h.low.2.2.2.1 k e
theorem EC.next (h:EC w0 w gc g A rss st ds rest a ov vs fp) {s:RS} {f:List Int} {c:List (List Int)} (r:Eo w w' gc A st) (q:Et w' gc A rss (some s) f c) (u:∀ k,s.R.nb k->nbS st k\/w.heap.size<=k) (j:gdS st s.R.gd\/w.heap.size<=s.R.gd):EC w0 w' gc g A rss (some s) f c a ov vs fp:=by
 obtain⟨o,p⟩:=h.frame r;have l:∀ k,gdS (some s) k->k=s.R.gd:=fun k b=>by
  obtain⟨x,e,m⟩:=b;simp only[Option.some.injEq] at e;subst e;exact m
 refine⟨q,o,fun k b e=>?_,fun k b=>⟨(h.fpd k b).1,(h.fpd k b).2.1,fun e=>?_⟩,⟨h.low.1,h.low.2.1,h.low.2.2.1,fun k e=>?_,h.low.2.2.2.2.1,h.low.2.2.2.2.2⟩,p⟩
 ·obtain⟨x,i,b⟩:=b;simp only[Option.some.injEq] at i;subst i
  rcases u k b with d | d
  ·exact h.nb k d e
  ·rcases e with e | e
   ·have:=h.ans.out.lt;omega
   ·have:=h.ans.out.eB k e;omega
 ·rw[l k e] at b e
  rcases j with d | d
  ·exact (h.fpd _ b).2.2 d
  ·have:=h.ans.out.fpl _ b;omega
 ·rw[l k e]
  rcases j with d | d
  ·exact h.low.2.2.2.1 _ d
  ·have:=h.bl.size;omega
theorem EC.grow (h:EC w0 w gc g A rss st ds rest a ov vs fp) {p:Ans} {i:Value} {m:List Value} {d:List Nat} (q:En w' g p i m d) (j:Ep (Wr g ov) w w' ov i fp d):EC w0 w' gc g A rss st ds rest p i m d:=by
 have s:=h.bl.size;refine⟨h.cand.wr h.ans h.nb j.xf,q,fun k f e=>?_,fun k f=>?_,⟨h.low.1,h.low.2.1,h.low.2.2.1,h.low.2.2.2.1,fun k e=>?_,fun k f=>?_⟩,j.xf.low h.bl (fun k e=>?_)⟩
 ·rcases e with e | e
  ·exact h.nb k f (xR e)
  ·rcases j.own with c | ⟨b,c,r⟩
   ·exact h.nb k f (xF (c.symm.trans e))
   ·rw[c] at e;simp at e;have:=h.cand.nH k f;omega
 ·rcases j.fpn k f with l | l
  ·exact h.fpd k l
  ·obtain⟨u,o⟩:=h.cand.ws.ctr.ctr;have x:=h.cand.box.lt;have y:=o.digits.lt;exact⟨by omega,by omega,fun e=>by have:=h.cand.CI k e;omega⟩
 ·rcases j.own with c | ⟨b,c,r⟩
  ·exact h.low.2.2.2.2.1 k (c.symm.trans e)
  ·rw[c] at e;simp at e;omega
 ·rcases j.fpn k f with l | l
  ·exact h.low.2.2.2.2.2 k l
  ·omega
 ·rcases e with e | e
  ·rw[e];exact h.low.2.1
  ·exact h.low.2.2.2.2.1 k e
end
namespace Q
theorem kFc (es:List Ev):(zMv es).Ea=es:=by
 have a:∀ (i:Nat) (l:List Nat) (f:EE),(l.foldl (fun f k=>f.gG i (ev es i) k (ev es k)) f).Ea=f.Ea:=by
  intro i l
  induction l with
  | nil=>intro f;rfl
  | cons k l ih=>intro f;rw[x4,ih];rfl
 have b:∀ (l:List Nat) (f:EE),(l.foldl (mN es) f).Ea=f.Ea:=by
  intro l
  induction l with
  | nil=>intro f;rfl
  | cons k l ih=>intro f;rw[x4,ih];exact a _ _ _
 exact b _ _
end Q
theorem zKA (g:Nat) (b:Value) (w:World) (f:w.cell? ⟨g,0,none⟩=some b) (i:g<w.heap.size) (d:∃ a n c,b=.slice a n c) :
  Calls prog 25 #[.pointer (some ⟨g,0,none⟩)] w fun e w'=>e=.returned b/\w'=w:=by
 obtain⟨a,n,c,rfl⟩:=d;go_enter func25,ntmps25;go_wp2;go_ret;exact⟨rfl,rfl⟩
theorem zGd (h:Er w1 0 rv rss vs wss) (f:zAt w1 gb (zBh rss)) (i:zAt w1 gd (eI rss.length)) (d:gb≠gd)
  (b:W1.heap[w1.heap.size]?=some (.cells (gS rv (.slice (some ⟨gb,0,none⟩) rss.length rss.length) (.slice (some ⟨gd,0,none⟩) rss.length rss.length) (.bool false)) 84 (0,0))) (c:Below w1.heap.size w1 W1) :
  Et W1 w1.heap.size ⟨rv,vs,wss,gb,gd⟩ rss none (eI rss.length) (zMH (zBh rss)):=by
 have o:=f.lt;have p:=i.lt;have a:∀ j (v:Value),(gS rv (.slice (some ⟨gb,0,none⟩) rss.length rss.length) (.slice (some ⟨gd,0,none⟩) rss.length rss.length) (.bool false))[j]?=some v->W1.cell? ⟨w1.heap.size,j,none⟩=some v:=fun j v l=>by simp only[x1,b];simpa using l
 have m:(zBh rss).length=rss.length:=by simp[zBh]
 have e:(eI rss.length).length=rss.length:=by simp[eI]
 refine⟨⟨_,b,by simp[gS]⟩,⟨a 13 _ rfl,h.below c,false,⟨?_,?_,a 16 _ rfl,fun j=>by simp[World.frozen?,b],(Array.getElem?_eq_some_iff.1 b).1,f.below c,i.below c,?_,?_,d,?_⟩,xR ⟨rfl,?_,rfl⟩⟩,a 21 _ rfl,fun s k=>by simp at k⟩
 ·rw[show (List.map (fun r=>((r:List Run).length:Int)) rss).length=rss.length by simp];exact a 14 _ rfl
 ·rw[e];exact a 15 _ rfl
 ·simp only;omega
 ·simp only;omega
 ·rw[e];simp
 ·simp
theorem zJF {W:World} (h:W.heap[g]?=some (.cells #[.slice none 0 0,.bool false] t (0,0))) (d:t=66\/t=66):En W g ⟨[],false⟩ (.slice none 0 0) [] []:=by
 have c:=(Array.getElem?_eq_some_iff.1 h).1;refine⟨⟨by simp[x1,h],c,by simp[World.frozen?,h],⟨World.ownsRow_nil _ _ _ _,rfl,fun i b=>by simp at b⟩,⟨#[.slice none 0 0,.bool false],?_⟩,fun u e=>by simp at e,fun k a=>by simp at a,fun k a=>by simp at a⟩,by simp[x1,h],⟨by simp[zPb],fun x f=>by simp at f⟩⟩
 rcases d with rfl | rfl
 ·exact xR h
 ·exact xF h
def uX (w0:World) (gc g:Nat) (A:WA) (rss:List (List Run)) (F:Ans->Cand->Ans) (fin:Ans) (wr:World) (m:Nat):Prop :=
 ∃ st ds rest a ov vs fp,EC w0 wr gc g A rss st ds rest a ov vs fp/\(eE (dP rss st rest)).foldl F a=fin/\(eE (dP rss st rest)).length=m
theorem zIs (h:Er w1 0 rv rss vs wss) (m:zAt w1 gb (zBh rss)) (o:zAt w1 gd (eI rss.length)) (f:gb≠gd)
  (l:W1.heap[w1.heap.size]?=some (.cells (gS rv (.slice (some ⟨gb,0,none⟩) rss.length rss.length) (.slice (some ⟨gd,0,none⟩) rss.length rss.length) (.bool false)) 84 (0,0))) (j:Below w1.heap.size w1 W1)
  (p:W1.heap[g]?=some (.cells #[.slice none 0 0,.bool false] t (0,0))) (q:t=66\/t=66) (r:w.heap.size<=w1.heap.size) (c:w.heap.size<=g) (d:w.heap.size<=gd) (b:Below w.heap.size w W1) :
  EC w W1 w1.heap.size g ⟨rv,vs,wss,gb,gd⟩ rss none (eI rss.length) (zMH (zBh rss)) ⟨[],false⟩ (.slice none 0 0) [] [] :=
 ⟨zGd h m o f l j,zJF p q,fun k a=>by obtain⟨s,i,_⟩:=a;simp at i,fun k a=>by simp at a,⟨r,c,d,fun k a=>by obtain⟨s,i,_⟩:=a;simp at i,fun k e=>by simp[xW] at e,fun k a=>by simp at a⟩,b⟩
end Go.Proofs.YtonodfjdiepglaaGreatDoor
