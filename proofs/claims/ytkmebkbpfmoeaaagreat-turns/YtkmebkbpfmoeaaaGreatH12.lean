import Derived.Test.YtkmebkbpfmoeaaaGreatH11
set_option linter.unusedVariables false
set_option linter.unusedSimpArgs false
set_option maxHeartbeats 12800000
namespace Go.Proofs.YtkmebkbpfmoeaaaGreat
open Go Go.RowKit
set_option maxRecDepth 100000
theorem zBt (w:World) (a:Array Value) (s:TypeId):(w.alloc (.cells a s)).heap[w.heap.size]?=some (.cells a s (0,0))∧(w.alloc (.cells a s)).heap.size=w.heap.size+1∧Below w.heap.size w (w.alloc (.cells a s)) :=
 ⟨heap_alloc_new w _,by simp,(Below.refl _ _).alloc (Nat.le_refl _) _⟩
theorem zBM (w:World) (a b:Array Value) (s t:TypeId):((w.alloc (.cells a s)).alloc (.cells b t)).heap[w.heap.size]?=some (.cells a s (0,0))∧((w.alloc (.cells a s)).alloc (.cells b t)).heap[w.heap.size+1]?=some (.cells b t (0,0))∧((w.alloc (.cells a s)).alloc (.cells b t)).heap.size=w.heap.size+2∧Below w.heap.size w ((w.alloc (.cells a s)).alloc (.cells b t)):=by
 refine⟨?_,?_,by simp,((Below.refl _ _).alloc (Nat.le_refl _) _).alloc (by simp) _⟩
 ·rw[Below.heap_alloc _ _ _ (by simp)];exact heap_alloc_new w _
 ·have:=heap_alloc_new (w.alloc (.cells a s)) (.cells b t);simpa using this
theorem zDP (w:World) (a b c:Array Value) (s t u:TypeId):(((w.alloc (.cells a s)).alloc (.cells b t)).alloc (.cells c u)).heap[w.heap.size]?=some (.cells a s (0,0))∧(((w.alloc (.cells a s)).alloc (.cells b t)).alloc (.cells c u)).heap[w.heap.size+1]?=some (.cells b t (0,0))∧(((w.alloc (.cells a s)).alloc (.cells b t)).alloc (.cells c u)).heap[w.heap.size+2]?=some (.cells c u (0,0)) ∧
  (((w.alloc (.cells a s)).alloc (.cells b t)).alloc (.cells c u)).heap.size=w.heap.size+3∧Below w.heap.size w (((w.alloc (.cells a s)).alloc (.cells b t)).alloc (.cells c u)):=by
 obtain⟨h0,h1,h2,h3⟩:=zBM w a b s t
 refine⟨?_,?_,?_,by simp,h3.alloc (by simp;omega) _⟩
 ·rw[Below.heap_alloc _ _ _ (by omega)];exact h0
 ·rw[Below.heap_alloc _ _ _ (by omega)];exact h1
 ·have:=heap_alloc_new ((w.alloc (.cells a s)).alloc (.cells b t)) (.cells c u);simpa using this
theorem zHt (w:World) (a b c d:Array Value) (s t u v:TypeId):((((w.alloc (.cells a s)).alloc (.cells b t)).alloc (.cells c u)).alloc (.cells d v)).heap[w.heap.size]?=some (.cells a s (0,0))∧((((w.alloc (.cells a s)).alloc (.cells b t)).alloc (.cells c u)).alloc (.cells d v)).heap[w.heap.size+1]?=some (.cells b t (0,0))∧((((w.alloc (.cells a s)).alloc (.cells b t)).alloc (.cells c u)).alloc (.cells d v)).heap[w.heap.size+2]?=some (.cells c u (0,0)) ∧
  ((((w.alloc (.cells a s)).alloc (.cells b t)).alloc (.cells c u)).alloc (.cells d v)).heap[w.heap.size+3]?=some (.cells d v (0,0))∧((((w.alloc (.cells a s)).alloc (.cells b t)).alloc (.cells c u)).alloc (.cells d v)).heap.size=w.heap.size+4∧Below w.heap.size w ((((w.alloc (.cells a s)).alloc (.cells b t)).alloc (.cells c u)).alloc (.cells d v)):=by
 obtain⟨h0,h1,h2,h3,h4⟩:=zDP w a b c s t u
 refine⟨?_,?_,?_,?_,by simp,h4.alloc (by simp;omega) _⟩
 ·rw[Below.heap_alloc _ _ _ (by omega)];exact h0
 ·rw[Below.heap_alloc _ _ _ (by omega)];exact h1
 ·rw[Below.heap_alloc _ _ _ (by omega)];exact h2
 ·have:=heap_alloc_new (((w.alloc (.cells a s)).alloc (.cells b t)).alloc (.cells c u)) (.cells d v);simpa using this
theorem zHV (w:World) (a b c d e:Array Value) (s t u v x:TypeId):(((((w.alloc (.cells a s)).alloc (.cells b t)).alloc (.cells c u)).alloc (.cells d v)).alloc (.cells e x)).heap[w.heap.size]?=some (.cells a s (0,0))∧(((((w.alloc (.cells a s)).alloc (.cells b t)).alloc (.cells c u)).alloc (.cells d v)).alloc (.cells e x)).heap[w.heap.size+1]?=some (.cells b t (0,0))∧(((((w.alloc (.cells a s)).alloc (.cells b t)).alloc (.cells c u)).alloc (.cells d v)).alloc (.cells e x)).heap[w.heap.size+2]?=some (.cells c u (0,0)) ∧
  (((((w.alloc (.cells a s)).alloc (.cells b t)).alloc (.cells c u)).alloc (.cells d v)).alloc (.cells e x)).heap[w.heap.size+3]?=some (.cells d v (0,0))∧(((((w.alloc (.cells a s)).alloc (.cells b t)).alloc (.cells c u)).alloc (.cells d v)).alloc (.cells e x)).heap[w.heap.size+4]?=some (.cells e x (0,0))∧(((((w.alloc (.cells a s)).alloc (.cells b t)).alloc (.cells c u)).alloc (.cells d v)).alloc (.cells e x)).heap.size=w.heap.size+5∧Below w.heap.size w (((((w.alloc (.cells a s)).alloc (.cells b t)).alloc (.cells c u)).alloc (.cells d v)).alloc (.cells e x)):=by
 obtain⟨h0,h1,h2,h3,h4,h5⟩:=zHt w a b c d s t u v
 refine⟨?_,?_,?_,?_,?_,by simp,h5.alloc (by simp;omega) _⟩
 ·rw[Below.heap_alloc _ _ _ (by omega)];exact h0
 ·rw[Below.heap_alloc _ _ _ (by omega)];exact h1
 ·rw[Below.heap_alloc _ _ _ (by omega)];exact h2
 ·rw[Below.heap_alloc _ _ _ (by omega)];exact h3
 ·have:=heap_alloc_new ((((w.alloc (.cells a s)).alloc (.cells b t)).alloc (.cells c u)).alloc (.cells d v)) (.cells e x);simpa using this
structure Fill (W0 wr:World) (b gn n:Nat) (t:List Nat):Prop where
 bel:Below W0.heap.size W0 wr
 rel:RelAt wr gn n t
 box:wr.heap[b]?=some (.cells #[.slice (some ⟨gn,0,none⟩) n n] 64 (0,0))
 ge:W0.heap.size≤gn
 gb:W0.heap.size≤b
theorem Fill.ne {W0 wr:World} {b gn n:Nat} {t:List Nat} (h:Fill W0 wr b gn n t):b≠gn:=fun e=>by
 have h1:=h.rel.at_
 unfold zAo at h1
 rw[← e,h.box] at h1;simp at h1
theorem Fill.keep {W0 wr w':World} {b gn n:Nat} {t:List Nat} (h:Fill W0 wr b gn n t) (hb:Below wr.heap.size wr w'):Fill W0 w' b gn n t :=
 ⟨h.bel.trans (hb.mono h.bel.size),h.rel.below hb,(hb.block b (Array.getElem?_eq_some_iff.1 h.box).1).trans h.box,h.ge,h.gb⟩
theorem Fill.alloc {W0 wr:World} {b gn n:Nat} {t:List Nat} (h:Fill W0 wr b gn n t) (o:Obj):Fill W0 (wr.alloc o) b gn n t:=h.keep ((Below.refl _ _).alloc (Nat.le_refl _) _)
theorem Fill.grown {W0 wr w':World} {b gn n:Nat} {t:List Nat} (h:Fill W0 wr b gn n t) {x y:Int} (hg:wr.grownBy w' (some gn)) (hs:zAo w' gn (Q.addR t x y)):Fill W0 w' b gn n (Q.addR t x y) :=
 ⟨h.bel.trans ⟨hg.os,hg.tape,hg.output,hg.size,fun i hi=>hg.block i (by have:=h.bel.size;omega) (by have:=h.ge;simp;omega)⟩,⟨hs,by rw[Q.zIL];exact h.rel.len,Q.zID h.rel.fits _ _⟩,(hg.block b (Array.getElem?_eq_some_iff.1 h.box).1 (by have:=h.ne;simpa using this)).trans h.box,h.ge,h.gb⟩
theorem Fill.relIn {W0 wr:World} {b gn n:Nat} {t:List Nat} (h:Fill W0 wr b gn n t):zDd wr b 0 gn n t:=by
 obtain⟨z0,_,z2⟩:=zAm h.box
 exact⟨z0,h.rel.at_,h.rel.len,z2,h.ne⟩
theorem Fill.start {W0 w1:World} {gn n:Nat} {t:List Nat} (hr:RelAt w1 gn n t) (hge:W0.heap.size≤gn) (hb:Below W0.heap.size W0 w1):Fill W0 (w1.alloc (.cells #[.slice (some ⟨gn,0,none⟩) n n] 64)) w1.heap.size gn n t :=
 ⟨hb.alloc hb.size _,hr.below ((Below.refl _ _).alloc (Nat.le_refl _) _),heap_alloc_new w1 _,hge,hb.size⟩
theorem Fill.out {w W0 wr:World} {b gn n r:Nat} {t:List Nat} (h:Fill W0 wr b gn n t) (hw:Below w.heap.size w W0) (hr:W0.heap[r]?=some (.cells #[.slice none 0 0] 64 (0,0))) (hwr:w.heap.size≤r) :
  zFv w (wr.setCell ⟨r,0,none⟩ (.slice (some ⟨gn,0,none⟩) n n)) n t (.returned (.agg #[.slice (some ⟨gn,0,none⟩) n n]))∧(wr.setCell ⟨r,0,none⟩ (.slice (some ⟨gn,0,none⟩) n n)).heap[r]?=some (.cells #[.slice (some ⟨gn,0,none⟩) n n] 64 (0,0)):=by
 have hrl:=(Array.getElem?_eq_some_iff.1 hr).1
 have hge:=h.ge
 have h1:wr.heap[r]?=some (.cells #[.slice none 0 0] 64 (0,0)):=(h.bel.block r hrl).trans hr
 refine⟨⟨gn,rfl,⟨h.rel.at_.of_block (Below.heap_setCell _ _ _ _ (by simp;omega)),h.rel.len,h.rel.fits⟩,(zAn hw (Nat.le_refl _) h.bel).setCell (p:=⟨r,0,none⟩) hwr _⟩,?_⟩
 rw[zAf h1];rfl
theorem Fill.cell {W0 wr:World} {b gn n:Nat} {t:List Nat} (h:Fill W0 wr b gn n t) {p:Addr} {v:Value} (hl:p.block<W0.heap.size) (hc:W0.cell? p=some v):wr.cell? p=some v:=(h.bel.cell (p:=p) hl).trans hc
theorem zBA.below {w w':World} {v:Value} {l:List Int} (h:zBA w v l) (hb:Below w.heap.size w w'):zBA w' v l:=by
 rcases h with h | ⟨g,cap,rfl,hc,hg,hcp⟩
 ·exact Or.inl h
 ·exact Or.inr ⟨g,cap,rfl,fun i hi=>(hb.cell (p:=⟨g,i,none⟩) hg).trans (hc i hi),Nat.lt_of_lt_of_le hg hb.size,hcp⟩
theorem zBA.form {w:World} {v:Value} {l:List Int} (h:zBA w v l):∃ a c,v=.slice a l.length c∧(0<l.length→∃ g,a=some ⟨g,0,none⟩∧g<w.heap.size∧∀ i (h:i<l.length),w.cell? ⟨g,i,none⟩=some (.int .i64 l[i])):=by
 rcases h with ⟨rfl,rfl⟩ | ⟨g,cap,rfl,hc,hg,_⟩
 ·exact⟨none,0,rfl,fun h=>by simp at h⟩
 ·exact⟨_,_,rfl,fun _=>⟨g,rfl,hg,hc⟩⟩
theorem zAD (B:Nat) (w:World) (n:Nat):Below B w (w.drewN n):=by
 induction n with
 | zero=>exact Below.refl _ _
 | succ n ih=>exact⟨ih.os,ih.tape,ih.output,ih.size,ih.block⟩
theorem zAQ.grown {w w':World} {g gn:Nat} {e:Q.Ev} {l:List Nat} (h:zAQ w g e) (hs:zAo w gn l) (hg:w.grownBy w' (some gn)):zAQ w' g e:=by
 have hne:g≠gn:=fun he=>by
  unfold zAQ at h
  unfold zAo at hs
  rw[he,hs] at h;simp at h
 have hl:=h.lt
 unfold zAQ at *
 rw[hg.block g hl (by simpa using hne)];exact h
theorem zAH (l:List Int) (i:Nat) (h:i<l.length) (d:Int):l.getD i d=l[i]:=by simp[List.getD,List.getElem?_eq_getElem h]
namespace Q
def zKr (rs:List Int) (r:List Nat) (i:Nat):List Nat:=addR r (i:Int) (rs.getD i (-1))
end Q
theorem zFX (a:FA) (f:Q.Facts) (v:Value) (rs:List Int) (w:World) (hf:FactsIn w a f) (hv:zBA w v rs) (hl:rs.length<10000) :
  Calls Tryz.prog 48 #[.agg (zAl a),v] w fun e w'=>zFv w w' a.n (f.reads rs) e:=by
 have HFE:Hid (f.reads rs=(List.range rs.length).foldl (Q.zKr rs) (Q.newR a.n)):=by unfold Hid Q.Facts.reads;rw[hf.len];rfl
 obtain⟨va,vc,rfl,hva⟩:=hv.form
 obtain⟨x,c,hev,hx⟩:=hf.form
 have hn64:=hf.n64
 have hln:=hf.len
 obtain⟨n,ev,g1,g2,g3,g4,g5,g6,g7,g8,g9⟩:=a
 simp only at hev hn64 hln hx
 subst hev
 simp only[zAl]
 simp only at HFE
 obtain⟨k0,k1,hsz,hbw⟩:=zBM w #[.slice x n c,.slice (some ⟨g1,0,none⟩) n n,.slice (some ⟨g2,0,none⟩) n n,.slice (some ⟨g3,0,none⟩) n n,.slice (some ⟨g4,0,none⟩) n n,.slice (some ⟨g5,0,none⟩) n n,.slice (some ⟨g6,0,none⟩) n n,.slice (some ⟨g7,0,none⟩) n n,.slice (some ⟨g8,0,none⟩) n n,.slice (some ⟨g9,0,none⟩) n n] #[.slice none 0 0] 66 64
 have BW0:=zAa hbw
 clear hbw hf hv hx
 go_enter Tryz.func48,Tryz.ntmps48
 go_upto_region 1 with fail
 generalize hE:(w.alloc (.cells #[.slice x n c,.slice (some ⟨g1,0,none⟩) n n,.slice (some ⟨g2,0,none⟩) n n,.slice (some ⟨g3,0,none⟩) n n,.slice (some ⟨g4,0,none⟩) n n,.slice (some ⟨g5,0,none⟩) n n,.slice (some ⟨g6,0,none⟩) n n,.slice (some ⟨g7,0,none⟩) n n,.slice (some ⟨g8,0,none⟩) n n,.slice (some ⟨g9,0,none⟩) n n] 66)).alloc (.cells #[.slice none 0 0] 64)=W0 at *
 have c00:=ceL k0 0 _ rfl
 obtain⟨c1,f1,l1⟩:=zAm k1
 have l0:w.heap.size<W0.heap.size:=by omega
 have K1:=zAa k1
 clear hE k0 k1
 go_wp2_with (first | (go_at_call 72;refine (zBn n _ hn64).mono ?_;rintro e w1 ⟨gn,rfl,hsn,hgn,hll,hfn,hb1⟩;have HS:=zAa (Fill.start ⟨hsn,hll,hfn⟩ hgn hb1);have hz1:=hb1.size;clear hsn hb1 hll hfn))
 go_loopw [14] (fun i wr=>∃ (k:Nat) (t:List Nat),k≤rs.length∧i=.int .i64 k∧Hid (t=(List.range k).foldl (Q.zKr rs) (Q.newR n))∧Hid (Fill W0 wr w1.heap.size gn n t)) (fun i _=>rs.length-(intOf i).toNat)
 case atStart=>exact⟨0,_,Nat.zero_le _,rfl,rfl,HS⟩
 case round =>
  obtain⟨k,t,hk,rfl,HT,HI⟩:=hrel
  have bt:=zAm HI.out.box
  obtain⟨b0,b1,b2⟩:=bt
  by_cases hlt:k<rs.length
  ·have hin:(k:Int)<(rs.length:Int):=by omega
   obtain⟨g,rfl,hg,hcs⟩:=hva (by omega)
   have hgw:g<W0.heap.size:=by omega
   have hc:wr.cell? ⟨g,k,none⟩=some (.int .i64 rs[k]):=HI.out.cell hgw ((BW0.out.cell (p:=⟨g,k,none⟩) hg).trans (hcs k hlt))
   have hgwr:g<wr.heap.size:=Nat.lt_of_lt_of_le hgw HI.out.bel.size
   have HN:Hid (Q.addR t (k:Int) rs[k]=(List.range (k+1)).foldl (Q.zKr rs) (Q.newR n)):=by unfold Hid;rw[Q.zIm,← HT.out,Q.zKr,zAH rs k hlt]
   generalize rs[k]=y at *
   go_wp2_with (first | (go_at_call 73;refine (zBw w1.heap.size 0 gn n t (k:Int) y _ HI.out.relIn HI.out.rel.fits).mono ?_;rintro e wc ⟨rfl,hsc,hgc⟩;have HJ:=zAa (HI.out.grown hgc hsc)))
   go_roundw
   case rel=>exact⟨k+1,_,by omega,by go_num,HN,HJ⟩
   case measure=>simp[intOf];omega
  ·have hkn:k=rs.length:=by omega
   have HE2:Hid (t=f.reads rs):=by unfold Hid;rw[HFE.out,HT.out,hkn]
   obtain⟨q1,q2⟩:=HI.out.out BW0.out K1.out (by omega)
   rw[HE2.out] at q1
   go_wp2_with (first | (refine zAw (.tmp 5) rfl rfl w1.heap.size _ rfl HI.out.box ?_) | (refine zAU (.tmp 4) (.tmp 23) rfl rfl (w.heap.size+1) _ _ rfl rfl ((HI.out.bel.block _ l1).trans K1.out) rfl ?_))
   refine zBv (p:=4) (w.heap.size+1) _ (by kernel_rfl) rfl q2 rfl q1
end Go.Proofs.YtkmebkbpfmoeaaaGreat
namespace Go.Proofs.YtkmebkbpfmoeaaaGreat
namespace Q
theorem cmp_trans:∀ {a b c:List Int},cmp a b<0→cmp b c<0→cmp a c<0
 | [],[],c,h,k=>by simp[cmp] at h
 | [],b::bs,[],h,k=>by simp[cmp] at k
 | [],b::bs,c::cs,h,k=>by simp[cmp]
 | a::x,[],c,h,k=>by simp[cmp] at h
 | a::x,b::bs,[],h,k=>by simp[cmp] at k
 | a::x,b::bs,c::cs,h,k=>by
  simp only[cmp] at h k ⊢
  by_cases h1:a=b
  ·subst h1
   by_cases h2:a=c
   ·subst h2
    simp at h k ⊢
    exact cmp_trans h k
   ·simp[h2] at k ⊢;exact k
  ·by_cases h2:b=c
   ·subst h2
    simp[h1] at h ⊢;exact h
   ·simp[h1,h2] at h k
    have h3:a≠c:=by omega
    simp[h3];omega
theorem cmp_eq:∀ {a b:List Int},cmp a b=0→a=b
 | [],[],_=>rfl
 | [],b::bs,h=>by simp[cmp] at h;omega
 | a::x,[],h=>by simp[cmp] at h
 | a::x,b::bs,h=>by
  simp only[cmp] at h
  by_cases h1:a=b
  ·subst h1;simp at h;rw[cmp_eq h]
  ·simp[h1] at h;omega
theorem cmp_self:∀ (a:List Int),cmp a a=0
 | []=>rfl
 | a::x=>by simp[cmp,cmp_self x]
theorem cmp_anti:∀ {a b:List Int},0<cmp a b→cmp b a<0
 | [],[],h=>by simp[cmp] at h
 | [],b::bs,h=>by simp[cmp] at h;omega
 | a::x,[],h=>by simp[cmp]
 | a::x,b::bs,h=>by
  simp only[cmp] at h ⊢
  by_cases h1:a=b
  ·subst h1;simp at h ⊢;exact cmp_anti h
  ·have h2:b≠a:=fun e=>h1 e.symm
   simp[h1] at h;simp[h2];omega
def zKi (l:List (List Int)):Prop:=l.Pairwise fun a b=>cmp a b<0
def posOf (l:List (List Int)) (r:List Int):Nat:=(l.takeWhile fun x=>decide (cmp x r<0)).length
theorem zKG (l:List (List Int)) (r:List Int):posOf l r≤l.length:=by
 induction l with
 | nil=>simp[posOf]
 | cons x q ih =>
  unfold posOf at *
  rw[List.takeWhile_cons]
  split
  ·simp;omega
  ·simp
theorem pos_eq {r:List Int}:∀ {l:List (List Int)} {p:Nat},p≤l.length→(∀ i (h:i<l.length),i<p→cmp l[i] r<0)→(∀ h:p<l.length,¬ cmp l[p] r<0)→posOf l r=p
 | [],p,h,_,_=>by simp at h;subst h;rfl
 | x::q,0,h,h1,h2=>by
  have:=h2 (by simp)
  simp at this
  unfold posOf;rw[List.takeWhile_cons,decide_eq_false (by omega)];rfl
 | x::q,p+1,h,h1,h2=>by
  have hx:=h1 0 (by simp) (by omega)
  simp at hx
  have ih:posOf q r=p:=pos_eq (by simpa using h) (fun i hi hp=>by have:=h1 (i+1) (by simpa using hi) (by omega);simpa using this) (fun hp=>by have:=h2 (by simpa using hp);simpa using this)
  unfold posOf at *;rw[List.takeWhile_cons,decide_eq_true hx];simp[ih]
theorem ins_at {r:List Int}:∀ (l:List (List Int)),ins l r=if h:posOf l r<l.length then (if cmp l[posOf l r] r=0 then l else l.take (posOf l r)++r::l.drop (posOf l r)) else l++[r]
 | []=>rfl
 | x::q=>by
  have ih:=ins_at (r:=r) q
  by_cases hx:cmp x r<0
  ·have e:posOf (x::q) r=posOf q r+1:=by unfold posOf;rw[List.takeWhile_cons,decide_eq_true hx];rfl
   rw[ins,if_pos hx,ih]
   by_cases hl:posOf q r<q.length
   ·have hl2:posOf (x::q) r<(x::q).length:=by simp;omega
    rw[dif_pos hl,dif_pos hl2]
    simp only[e,List.getElem_cons_succ]
    split
    ·rfl
    ·simp
   ·have hl2:¬ posOf (x::q) r<(x::q).length:=by simp;omega
    rw[dif_neg hl,dif_neg hl2];rfl
  ·have e:posOf (x::q) r=0:=by unfold posOf;rw[List.takeWhile_cons,decide_eq_false hx];rfl
   have hl2:posOf (x::q) r<(x::q).length:=by simp;omega
   rw[ins,if_neg hx,dif_pos hl2]
   simp only[e,List.getElem_cons_zero]
   by_cases h0:cmp x r=0
   ·simp[h0]
   ·simp[h0]
theorem ins_mem {r y:List Int}:∀ {l:List (List Int)},y∈ins l r→y=r∨y∈l
 | [],h=>by simp[ins] at h;exact Or.inl h
 | x::q,h=>by
  rw[ins] at h
  split at h
  ·rcases List.mem_cons.1 h with rfl | h
   ·exact Or.inr (by simp)
   ·rcases ins_mem h with h | h
    ·exact Or.inl h
    ·exact Or.inr (by simp[h])
  ·split at h
   ·exact Or.inr h
   ·rcases List.mem_cons.1 h with rfl | h
    ·exact Or.inl rfl
    ·exact Or.inr h
theorem ins_rising {r:List Int}:∀ {l:List (List Int)},zKi l→zKi (ins l r)
 | [],_=>by simp[ins,zKi]
 | x::q,h=>by
  have hq:zKi q:=(List.pairwise_cons.1 h).2
  have hx:=(List.pairwise_cons.1 h).1
  rw[ins]
  split
  ·rename_i hlt
   refine List.pairwise_cons.2 ⟨fun y hy=>?_,ins_rising hq⟩
   rcases ins_mem hy with rfl | hy
   ·exact hlt
   ·exact hx y hy
  ·rename_i hge
   split
   ·exact h
   ·rename_i hne
    have h0:¬ cmp x r=0:=by simpa using hne
    have hrx:cmp r x<0:=cmp_anti (by omega)
    refine List.pairwise_cons.2 ⟨fun y hy=>?_,h⟩
    rcases List.mem_cons.1 hy with rfl | hy
    ·exact hrx
    ·exact cmp_trans hrx (hx y hy)
theorem rising_lt {l:List (List Int)} (h:zKi l) (r:List Int) (i m:Nat) (hm:m<l.length) (hi:i<l.length) (him:i≤m) (hc:cmp l[m] r<0):cmp l[i] r<0:=by
 by_cases e:i=m
 ·subst e;exact hc
 ·exact cmp_trans (List.pairwise_iff_getElem.1 h i m hi hm (by omega)) hc
theorem rising_ge {l:List (List Int)} (h:zKi l) (r:List Int) (i m:Nat) (hm:m<l.length) (hi:i<l.length) (him:m≤i) (hc:¬ cmp l[m] r<0):¬ cmp l[i] r<0 :=
 fun hlt=>hc (rising_lt h r m i hi hm him hlt)
end Q
end Go.Proofs.YtkmebkbpfmoeaaaGreat
namespace Go.Proofs.YtkmebkbpfmoeaaaGreat
open Go Go.RowKit
set_option maxRecDepth 100000
namespace Q
theorem cmp_drop (a b:List Int) (k:Nat) (ha:k<a.length) (hb:k<b.length):cmp (a.drop k) (b.drop k)=if a.getD k 0 != b.getD k 0 then a.getD k 0-b.getD k 0 else cmp (a.drop (k+1)) (b.drop (k+1)):=by
 rw[List.drop_eq_getElem_cons ha,List.drop_eq_getElem_cons hb,zAH a k ha,zAH b k hb];rfl
theorem cmp_short (a b:List Int) (k:Nat) (ha:k<a.length) (hb:b.length≤k):cmp (a.drop k) (b.drop k)=1:=by
 rw[List.drop_eq_getElem_cons ha,List.drop_eq_nil_of_le hb];rfl
theorem cmp_done (a b:List Int) (hl:a.length≤b.length):cmp (a.drop a.length) (b.drop a.length)=(a.length:Int)-b.length:=by
 rw[List.drop_eq_nil_of_le (Nat.le_refl _)];simp[cmp];omega
def Small (l:List Int):Prop:=∀ x∈l,0≤x∧x<4
end Q
theorem zCd (va vb:Value) (a b:List Int) (w:World) (ha:zBA w va a) (hb:zBA w vb b) (hsa:Q.Small a) (hsb:Q.Small b) (hla:a.length<1000) (hlb:b.length<1000) :
  Calls Tryz.prog 91 #[va,vb] w fun e w'=>e=.returned (.int .i64 (Q.cmp a b))∧Below w.heap.size w w':=by
 obtain⟨xa,ca,rfl,hxa⟩:=ha.form
 obtain⟨xb,cb,rfl,hxb⟩:=hb.form
 have HSA:=zAa hsa
 have HSB:=zAa hsb
 clear ha hb hsa hsb
 go_enter Tryz.func91,Tryz.ntmps91
 go_wp2
 go_loopw [8] (fun j wr=>∃ k:Nat,k≤a.length∧k≤b.length∧j=.int .i64 k∧Hid (Q.cmp a b=Q.cmp (a.drop k) (b.drop k))∧Below w.heap.size w wr) (fun j _=>a.length-(intOf j).toNat)
 case atStart=>exact⟨0,Nat.zero_le _,Nat.zero_le _,rfl,rfl,Below.refl _ _⟩
 case round =>
  obtain⟨k,hk,hkb,rfl,HC,hbel⟩:=hrel
  by_cases hlt:k<a.length
  ·have hin:(k:Int)<(a.length:Int):=by omega
   by_cases hb2:b.length≤k
   ·have hge:(b.length:Int)≤(k:Int):=by omega
    have HE:Hid (Q.cmp a b=1):=by unfold Hid;rw[HC.out,Q.cmp_short a b k hlt hb2]
    go_wp2
    go_ret
    rw[HE.out];exact⟨rfl,hbel⟩
   ·have hbl:k<b.length:=by omega
    have hinb:(k:Int)<(b.length:Int):=by omega
    have hge:decide ((b.length:Int)≤(k:Int))=false:=decide_eq_false (by omega)
    obtain⟨g1,rfl,hg1,hc1⟩:=hxa (by omega)
    obtain⟨g2,rfl,hg2,hc2⟩:=hxb (by omega)
    have d1:wr.cell? ⟨g1,k,none⟩=some (.int .i64 (a.getD k 0)):=by rw[zAH a k hlt];exact (hbel.cell (p:=⟨g1,k,none⟩) hg1).trans (hc1 k hlt)
    have d2:wr.cell? ⟨g2,k,none⟩=some (.int .i64 (b.getD k 0)):=by rw[zAH b k hbl];exact (hbel.cell (p:=⟨g2,k,none⟩) hg2).trans (hc2 k hbl)
    have l1:=Nat.lt_of_lt_of_le hg1 hbel.size
    have l2:=Nat.lt_of_lt_of_le hg2 hbel.size
    have HD:=zAa (Q.cmp_drop a b k hlt hbl)
    have s1:0≤a.getD k 0∧a.getD k 0<4:=by rw[zAH a k hlt];exact HSA.out _ (List.getElem_mem hlt)
    have s2:0≤b.getD k 0∧b.getD k 0<4:=by rw[zAH b k hbl];exact HSB.out _ (List.getElem_mem hbl)
    generalize a.getD k 0=x at *
    generalize b.getD k 0=y at *
    cases hz:(x != y)
    ·have HN:Hid (Q.cmp a b=Q.cmp (a.drop (k+1)) (b.drop (k+1))):=by unfold Hid;rw[HC.out,HD.out,hz];rfl
     go_wp2
     go_quiet (fail)
     all_goals
      go_wp2
      go_roundw
      case rel=>exact⟨k+1,by omega,by omega,by go_num,HN,hbel.trans (zAD _ _ _)⟩
      case measure=>simp[intOf];omega
    ·have HN:Hid (Q.cmp a b=x-y):=by unfold Hid;rw[HC.out,HD.out,hz];rfl
     have hw:IntKind.i64.wrap (x-y)=x-y:=IntWalk.i64_in _ ⟨by omega,by omega⟩
     go_wp2
     go_quiet (fail)
     all_goals
      go_wp2
      go_quiet (fail)
      all_goals
       go_wp2
       go_ret
       rw[HN.out]
       exact⟨by first | rfl | rw[hw],(hbel.trans (zAD _ _ _)).trans (zAD _ _ _)⟩
  ·have hkn:k=a.length:=by omega
   subst hkn
   have HE:Hid (Q.cmp a b=(a.length:Int)-b.length):=by unfold Hid;rw[HC.out,Q.cmp_done a b hkb]
   have hw:IntKind.i64.wrap ((a.length:Int)-b.length)=(a.length:Int)-b.length:=IntWalk.i64_in _ ⟨by omega,by omega⟩
   go_wp2
   go_ret
   rw[HE.out];exact⟨by first | rfl | rw[hw],hbel⟩
structure RowsI (w:World) (B:Nat) (v:Value) (rs:List (List Int)) (vs:List Value):Prop where
 own:w.ownsRow B 31 1 v rs.length vs
 len:vs.length=rs.length
 rows:∀ i (h:i<rs.length) (u:Value),vs[i]?=some u→zBA w u rs[i]
theorem RowsI.below {w w':World} {B:Nat} {v:Value} {rs:List (List Int)} {vs:List Value} (h:RowsI w B v rs vs) (hb:Below w.heap.size w w'):RowsI w' B v rs vs :=
 ⟨zAc h.own (fun k e=>hb.block k (h.own.lt k e).2),h.len,fun i hi u hu=>(h.rows i hi u hu).below hb⟩
theorem RowsI.form {w:World} {B:Nat} {v:Value} {rs:List (List Int)} {vs:List Value} (h:RowsI w B v rs vs):∃ a c,v=.slice a rs.length c∧(0<rs.length→∃ b,a=some ⟨b,0,none⟩∧B≤b∧b<w.heap.size∧∀ i (hi:i<vs.length),w.cell? ⟨b,i,none⟩=some vs[i]):=by
 rcases h.own.2 with ⟨e,h0⟩ | ⟨k,c,cur,e,hk,_⟩
 ·exact⟨none,0,by rw[e,h0],fun h=>by omega⟩
 ·refine⟨_,c,e,fun _=>⟨k,rfl,hk,(h.own.lt k (by rw[e];rfl)).2,fun i hi=>?_⟩⟩
  have h1:=h.own
  rw[e] at h1
  rw[h1.cellAt i (by have:=h.len;omega),List.getElem?_eq_getElem hi]
theorem zFw (B g:Nat) (v vr:Value) (rs:List (List Int)) (vs:List Value) (r:List Int) (w:World) (hc:w.cell? ⟨g,0,none⟩=some v) (hg:g<w.heap.size) (h:RowsI w B v rs vs) (hr:zBA w vr r) (hri:Q.zKi rs) (hs:∀ x∈rs,Q.Small x∧x.length<1000) (hsr:Q.Small r∧r.length<1000) (hn:rs.length<100000000) :
  Calls Tryz.prog 90 #[.pointer (some ⟨g,0,none⟩),vr] w fun e w'=>e=.returned (.int .i64 (Q.posOf rs r:Int))∧Below w.heap.size w w':=by
 obtain⟨xa,ca,rfl,hxa⟩:=h.form
 obtain⟨ra,rc,rfl,_⟩:=hr.form
 have H:=zAa h
 have HR:=zAa hr
 have HRI:=zAa hri
 have HS:=zAa hs
 have HSR:=zAa hsr
 clear h hr hri hs hsr
 go_enter Tryz.func90,Tryz.ntmps90
 go_wp2
 go_loopw [5,6] (fun a b wr=>∃ lo hi:Nat,lo≤hi∧hi≤rs.length∧a=.int .i64 lo∧b=.int .i64 hi∧Hid (∀ i (h:i<rs.length),i<lo→Q.cmp rs[i] r<0)∧Hid (∀ i (h:i<rs.length),hi≤i→0≤Q.cmp rs[i] r)∧Below w.heap.size w wr) (fun a b _=>(intOf b).toNat-(intOf a).toNat)
 case atStart=>exact⟨0,rs.length,Nat.zero_le _,Nat.le_refl _,rfl,rfl,fun i h h2=>by omega,fun i h h2=>by omega,Below.refl _ _⟩
 case round =>
  obtain⟨lo,hi,hlh,hhn,rfl,rfl,HL,HH,hbel⟩:=hrel
  have d0:=cfL hbel hg hc
  have lg:=Nat.lt_of_lt_of_le hg hbel.size
  by_cases hlt:lo<hi
  ·have hin:(lo:Int)<(hi:Int):=by omega
   obtain⟨mi,hmi⟩:∃ mi:Nat,mi=lo+(hi-lo) / 2:=⟨_,rfl⟩
   have hm1:lo≤mi:=by omega
   have hm2:mi<hi:=by omega
   have hmI:(lo:Int)+((hi:Int)-(lo:Int)) / 2=(mi:Int):=by omega
   have hmn:mi<rs.length:=by omega
   have hmnI:(mi:Int)<(rs.length:Int):=by omega
   obtain⟨b,rfl,hbB,hb,hcs⟩:=hxa (by omega)
   have hmv:mi<vs.length:=by rw[H.out.len];exact hmn
   have cm:wr.cell? ⟨b,mi,none⟩=some vs[mi]:=(hbel.cell (p:=⟨b,mi,none⟩) hb).trans (hcs mi hmv)
   have lb:=Nat.lt_of_lt_of_le hb hbel.size
   have HRM:=zAa ((H.out.rows mi hmn vs[mi] (List.getElem?_eq_getElem hmv)).below hbel)
   have hsm:=HS.out rs[mi] (List.getElem_mem hmn)
   have HRR:=zAa (HR.out.below hbel)
   have HLT:Hid (Q.cmp rs[mi] r<0→∀ i (h:i<rs.length),i<mi+1→Q.cmp rs[i] r<0):=fun hc i hi2 hi3=>Q.rising_lt HRI.out r i mi hmn hi2 (by omega) hc
   have HGE:Hid (0≤Q.cmp rs[mi] r→∀ i (h:i<rs.length),mi≤i→0≤Q.cmp rs[i] r):=fun hc i hi2 hi3=>by have:=Q.rising_ge HRI.out r i mi hmn hi2 hi3 (by omega);omega
   generalize vs[mi]=u at *
   generalize rs[mi]=y at *
   clear hmi
   by_cases hz:Q.cmp y r<0
   ·have HL2:=zAa (HLT.out hz)
    go_wp2_with (first | (go_at_call 91;refine (zCd _ _ y r _ HRM.out HRR.out hsm.1 HSR.out.1 hsm.2 HSR.out.2).mono ?_;rintro e w1 ⟨rfl,hb1⟩))
    go_roundw
    case rel=>exact⟨mi+1,hi,by omega,hhn,by go_num,rfl,HL2,HH,zAn hbel (Nat.le_refl _) hb1⟩
    case measure=>simp[intOf];omega
   ·have HH2:=zAa (HGE.out (by omega))
    go_wp2_with (first | (go_at_call 91;refine (zCd _ _ y r _ HRM.out HRR.out hsm.1 HSR.out.1 hsm.2 HSR.out.2).mono ?_;rintro e w1 ⟨rfl,hb1⟩))
    go_roundw
    case rel=>exact⟨lo,mi,by omega,by omega,rfl,by first | rfl | go_num,HL,HH2,zAn hbel (Nat.le_refl _) hb1⟩
    case measure=>simp[intOf];omega
  ·obtain rfl:lo=hi:=by omega
   have HE:Hid (Q.posOf rs r=lo):=Q.pos_eq (by omega) HL.out (fun h=>by have:=HH.out lo h (by omega);omega)
   go_wp2
   go_ret
   rw[HE.out];exact⟨rfl,hbel⟩
namespace P
theorem same_step {a b:List Int} {k:Nat} (hk:k<a.length) (hb:k<b.length) (h:a.take k=b.take k) (e:a.getD k 0=b.getD k 0):a.take (k+1)=b.take (k+1):=by
 rw[List.take_succ_eq_append_getElem hk,List.take_succ_eq_append_getElem hb,h]
 rw[zAH a k hk,zAH b k hb] at e
 rw[e]
end P
theorem zFx (va vb:Value) (a b:List Int) (w:World) (ha:zBA w va a) (hb:zBA w vb b) (hla:a.length<1000) :
  Calls Tryz.prog 26 #[va,vb] w fun e w'=>e=.returned (.bool (a==b))∧Below w.heap.size w w':=by
 obtain⟨xa,ca,rfl,hxa⟩:=ha.form
 obtain⟨xb,cb,rfl,hxb⟩:=hb.form
 clear ha hb
 by_cases hlen:a.length=b.length
 ·have hlen':(a.length:Int)=(b.length:Int):=by omega
  have hq:((a.length:Int) != (b.length:Int))=false:=by simp[hlen']
  have HL:=zAa hlen
  clear hlen hlen'
  go_enter Tryz.func26,Tryz.ntmps26
  go_wp2
  go_loopw [5] (fun j wr=>∃ k:Nat,k≤a.length∧j=.int .i64 k∧Hid (a.take k=b.take k)∧Below w.heap.size w wr) (fun j _=>a.length-(intOf j).toNat)
  case atStart=>exact⟨0,Nat.zero_le _,rfl,rfl,Below.refl _ _⟩
  case round =>
   obtain⟨k,hk,rfl,HC,hbel⟩:=hrel
   by_cases hlt:k<a.length
   ·have hin:(k:Int)<(a.length:Int):=by omega
    have hbl:k<b.length:=by have:=HL.out;omega
    have hinb:(k:Int)<(b.length:Int):=by omega
    obtain⟨g1,rfl,hg1,hc1⟩:=hxa (by omega)
    obtain⟨g2,rfl,hg2,hc2⟩:=hxb (by omega)
    have d1:wr.cell? ⟨g1,k,none⟩=some (.int .i64 (a.getD k 0)):=by rw[zAH a k hlt];exact (hbel.cell (p:=⟨g1,k,none⟩) hg1).trans (hc1 k hlt)
    have d2:wr.cell? ⟨g2,k,none⟩=some (.int .i64 (b.getD k 0)):=by rw[zAH b k hbl];exact (hbel.cell (p:=⟨g2,k,none⟩) hg2).trans (hc2 k hbl)
    have l1:=Nat.lt_of_lt_of_le hg1 hbel.size
    have l2:=Nat.lt_of_lt_of_le hg2 hbel.size
    have HS:=zAa (P.same_step hlt hbl HC.out)
    have HNE:Hid (a.getD k 0≠b.getD k 0→(a==b)=false):=fun h=>by
     rw[beq_eq_false_iff_ne];intro e;exact h (by rw[e])
    generalize a.getD k 0=x at *
    generalize b.getD k 0=y at *
    cases hz:(x != y)
    ·have HN:Hid (a.take (k+1)=b.take (k+1)):=HS.out (by simpa using hz)
     clear hc1 hc2
     go_wp2
     go_quiet (fail)
     all_goals
      go_wp2
      go_roundw
      case rel=>exact⟨k+1,by omega,by go_num,HN,hbel.trans (zAD _ _ _)⟩
      case measure=>simp[intOf];omega
    ·have HN:Hid ((a==b)=false):=HNE.out (by simpa using hz)
     clear hc1 hc2
     go_wp2
     go_quiet (fail)
     all_goals
      go_wp2
      go_ret
      rw[HN.out]
      exact⟨rfl,hbel.trans (zAD _ _ _)⟩
   ·have hkn:k=a.length:=by omega
    subst hkn
    have HE:Hid ((a==b)=true):=by
     have h1:=HC.out
     rw[List.take_of_length_le (Nat.le_refl _),HL.out,List.take_of_length_le (Nat.le_refl _)] at h1
     unfold Hid;rw[h1];simp
    go_wp2
    go_ret
    rw[HE.out];exact⟨rfl,hbel⟩
 ·have hq:((a.length:Int) != (b.length:Int))=true:=by simp;omega
  have HE:Hid ((a==b)=false):=by
   unfold Hid;rw[beq_eq_false_iff_ne];intro e;exact hlen (by rw[e])
  clear hlen
  go_enter Tryz.func26,Tryz.ntmps26
  go_wp2
  go_ret
  rw[HE.out];exact⟨rfl,Below.refl _ _⟩
theorem zHb (B:Nat) (v vr:Value) (rs:List (List Int)) (vs:List Value) (r:List Int) (w:World) (h:RowsI w B v rs vs) (hr:zBA w vr r) (hs:∀ x∈rs,x.length<1000) (hn:rs.length<100000000) :
  Calls Tryz.prog 16 #[v,vr] w fun e w'=>e=.returned (.bool (rs.contains r))∧Below w.heap.size w w':=by
 obtain⟨xa,ca,rfl,hxa⟩:=h.form
 have HR:=zAa h
 have HV:=zAa hr
 have HS:=zAa hs
 clear h hr hs
 go_enter Tryz.func16,Tryz.ntmps16
 go_wp2
 go_loopw [5] (fun j wr=>∃ k:Nat,k≤rs.length∧j=.int .i64 k∧Hid ((rs.take k).contains r=false)∧Hid (Below w.heap.size w wr)) (fun j _=>rs.length-(intOf j).toNat)
 case atStart=>exact⟨0,Nat.zero_le _,rfl,by simp[Hid],Below.refl _ _⟩
 case round =>
  obtain⟨k,hk,rfl,HC,HB⟩:=hrel
  by_cases hlt:k<rs.length
  ·have hin:(k:Int)<(rs.length:Int):=by omega
   obtain⟨b,rfl,hB,hb,hcs⟩:=hxa (by omega)
   have hiv:k<vs.length:=by rw[HR.out.len];exact hlt
   have cu:=(HB.out.cell (p:=⟨b,k,none⟩) hb).trans (hcs k hiv)
   have lb:=Nat.lt_of_lt_of_le hb HB.out.size
   have HU:=zAa ((HR.out.rows k hlt vs[k] (List.getElem?_eq_getElem hiv)).below HB.out)
   have HV2:=zAa (HV.out.below HB.out)
   have HS1:=zAa (HS.out rs[k] (List.getElem_mem hlt))
   have HT:Hid (∀ q,(rs[k]==r)=q→(rs.take (k+1)).contains r=q):=fun q hq=>by
    rw[List.take_succ_eq_append_getElem hlt]
    have h1:=HC.out
    rw[Bool.eq_iff_iff,List.contains_iff_mem,List.mem_append,List.mem_singleton,← hq,beq_iff_eq]
    constructor
    ·rintro (h2 | h2)
     ·rw[← List.contains_iff_mem,h1] at h2;cases h2
     ·exact h2.symm
    ·exact fun h2=>Or.inr h2.symm
   have HT2:Hid ((rs.take (k+1)).contains r=true→rs.contains r=true):=fun h2=>by
    rw[List.contains_iff_mem] at h2 ⊢
    exact List.mem_of_mem_take h2
   generalize vs[k]=u at *
   generalize rs[k]=x at *
   clear hcs hxa
   cases hq:(x==r)
   ·have HN:=zAa (HT.out false hq)
    go_wp2_with (first
     | (go_at_call 26;refine (zFx _ _ x r _ HU.out HV2.out HS1.out).mono ?_;rw[hq];rintro e w1 ⟨rfl,hb1⟩;have B1:=zAa (zAn HB.out (Nat.le_refl _) hb1);clear hb1))
    go_roundw
    case rel=>exact⟨k+1,by omega,by go_num,HN,B1⟩
    case measure=>simp[intOf];omega
   ·have HN:=zAa (HT2.out (HT.out true hq))
    go_wp2_with (first
     | (go_at_call 26;refine (zFx _ _ x r _ HU.out HV2.out HS1.out).mono ?_;rw[hq];rintro e w1 ⟨rfl,hb1⟩;have B1:=zAa (zAn HB.out (Nat.le_refl _) hb1);clear hb1))
    go_ret
    rw[HN.out];exact⟨rfl,B1.out⟩
  ·have hnlt:decide ((k:Int)<(rs.length:Int))=false:=decide_eq_false (by omega)
   have HE:Hid (rs.contains r=false):=by
    have h1:=HC.out
    rw[List.take_of_length_le (by omega)] at h1
    exact h1
   go_wp2
   go_ret
   rw[HE.out];exact⟨rfl,HB.out⟩
end Go.Proofs.YtkmebkbpfmoeaaaGreat
