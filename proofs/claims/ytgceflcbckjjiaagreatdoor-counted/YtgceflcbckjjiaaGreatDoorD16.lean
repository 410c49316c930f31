import Derived.Test.YtgceflcbckjjiaaGreatDoorD15
set_option linter.unusedVariables false
set_option linter.unusedSimpArgs false
set_option maxHeartbeats 12800000
namespace Go.Proofs.YtgceflcbckjjiaaGreatDoor
namespace Q
theorem cmp_trans:∀ {a b c:List Int},cmp a b<0→cmp b c<0→cmp a c<0
 | [],[],c,h,k=>by simp[cmp] at h
 | [],b::bs,[],h,k=>by simp[cmp] at k
 | [],b::bs,c::cs,h,k=>by simp[cmp]
 | a::x,[],c,h,k=>by simp[cmp] at h
 | a::x,b::bs,[],h,k=>by simp[cmp] at k
 | a::x,b::bs,c::cs,h,k=>by
  simp only[cmp] at h k ⊢
  by_cases h1:a=b
  ·subst h1
   by_cases h2:a=c
   ·subst h2
    simp at h k ⊢
    exact cmp_trans h k
   ·simp[h2] at k ⊢;exact k
  ·by_cases h2:b=c
   ·subst h2
    simp[h1] at h ⊢;exact h
   ·simp[h1,h2] at h k
    have h3:a≠c:=by omega
    simp[h3];omega
theorem cmp_anti:∀ {a b:List Int},0<cmp a b→cmp b a<0
 | [],[],h=>by simp[cmp] at h
 | [],b::bs,h=>by simp[cmp] at h;omega
 | a::x,[],h=>by simp[cmp]
 | a::x,b::bs,h=>by
  simp only[cmp] at h ⊢
  by_cases h1:a=b
  ·subst h1;simp at h ⊢;exact cmp_anti h
  ·have h2:b≠a:=fun e=>h1 e.symm
   simp[h1] at h;simp[h2];omega
def zMk (l:List (List Int)):Prop:=l.Pairwise fun a b=>cmp a b<0
def posOf (l:List (List Int)) (r:List Int):Nat:=(l.takeWhile fun x=>decide (cmp x r<0)).length
theorem zMI (l:List (List Int)) (r:List Int):posOf l r≤l.length:=by
 induction l with
 | nil=>simp[posOf]
 | cons x q ih =>
  unfold posOf at *
  rw[List.takeWhile_cons]
  split
  ·simp;omega
  ·simp
theorem pos_eq {r:List Int}:∀ {l:List (List Int)} {p:Nat},p≤l.length→(∀ i (h:i<l.length),i<p→cmp l[i] r<0)→(∀ h:p<l.length,¬ cmp l[p] r<0)→posOf l r=p
 | [],p,h,_,_=>by simp at h;subst h;rfl
 | x::q,0,h,h1,h2=>by
  have:=h2 (by simp)
  simp at this
  unfold posOf;rw[List.takeWhile_cons,decide_eq_false (by omega)];rfl
 | x::q,p+1,h,h1,h2=>by
  have hx:=h1 0 (by simp) (by omega)
  simp at hx
  have ih:posOf q r=p:=pos_eq (by simpa using h) (fun i hi hp=>by have:=h1 (i+1) (by simpa using hi) (by omega);simpa using this) (fun hp=>by have:=h2 (by simpa using hp);simpa using this)
  unfold posOf at *;rw[List.takeWhile_cons,decide_eq_true hx];simp[ih]
theorem ins_at {r:List Int}:∀ (l:List (List Int)),ins l r=if h:posOf l r<l.length then (if cmp l[posOf l r] r=0 then l else l.take (posOf l r)++r::l.drop (posOf l r)) else l++[r]
 | []=>rfl
 | x::q=>by
  have ih:=ins_at (r:=r) q
  by_cases hx:cmp x r<0
  ·have e:posOf (x::q) r=posOf q r+1:=by unfold posOf;rw[List.takeWhile_cons,decide_eq_true hx];rfl
   rw[ins,if_pos hx,ih]
   by_cases hl:posOf q r<q.length
   ·have hl2:posOf (x::q) r<(x::q).length:=by simp;omega
    rw[dif_pos hl,dif_pos hl2]
    simp only[e,List.getElem_cons_succ]
    split
    ·rfl
    ·simp
   ·have hl2:¬ posOf (x::q) r<(x::q).length:=by simp;omega
    rw[dif_neg hl,dif_neg hl2];rfl
  ·have e:posOf (x::q) r=0:=by unfold posOf;rw[List.takeWhile_cons,decide_eq_false hx];rfl
   have hl2:posOf (x::q) r<(x::q).length:=by simp;omega
   rw[ins,if_neg hx,dif_pos hl2]
   simp only[e,List.getElem_cons_zero]
   by_cases h0:cmp x r=0
   ·simp[h0]
   ·simp[h0]
theorem ins_mem {r y:List Int}:∀ {l:List (List Int)},y∈ins l r→y=r∨y∈l
 | [],h=>by simp[ins] at h;exact Or.inl h
 | x::q,h=>by
  rw[ins] at h
  split at h
  ·rcases List.mem_cons.1 h with rfl | h
   ·exact Or.inr (by simp)
   ·rcases ins_mem h with h | h
    ·exact Or.inl h
    ·exact Or.inr (by simp[h])
  ·split at h
   ·exact Or.inr h
   ·rcases List.mem_cons.1 h with rfl | h
    ·exact Or.inl rfl
    ·exact Or.inr h
theorem ins_rising {r:List Int}:∀ {l:List (List Int)},zMk l→zMk (ins l r)
 | [],_=>by simp[ins,zMk]
 | x::q,h=>by
  have hq:zMk q:=(List.pairwise_cons.1 h).2
  have hx:=(List.pairwise_cons.1 h).1
  rw[ins]
  split
  ·rename_i hlt
   refine List.pairwise_cons.2 ⟨fun y hy=>?_,ins_rising hq⟩
   rcases ins_mem hy with rfl | hy
   ·exact hlt
   ·exact hx y hy
  ·rename_i hge
   split
   ·exact h
   ·rename_i hne
    have h0:¬ cmp x r=0:=by simpa using hne
    have hrx:cmp r x<0:=cmp_anti (by omega)
    refine List.pairwise_cons.2 ⟨fun y hy=>?_,h⟩
    rcases List.mem_cons.1 hy with rfl | hy
    ·exact hrx
    ·exact cmp_trans hrx (hx y hy)
theorem rising_lt {l:List (List Int)} (h:zMk l) (r:List Int) (i m:Nat) (hm:m<l.length) (hi:i<l.length) (him:i≤m) (hc:cmp l[m] r<0):cmp l[i] r<0:=by
 by_cases e:i=m
 ·subst e;exact hc
 ·exact cmp_trans (List.pairwise_iff_getElem.1 h i m hi hm (by omega)) hc
theorem rising_ge {l:List (List Int)} (h:zMk l) (r:List Int) (i m:Nat) (hm:m<l.length) (hi:i<l.length) (him:m≤i) (hc:¬ cmp l[m] r<0):¬ cmp l[i] r<0 :=
 fun hlt=>hc (rising_lt h r m i hi hm him hlt)
end Q
end Go.Proofs.YtgceflcbckjjiaaGreatDoor
namespace Go.Proofs.YtgceflcbckjjiaaGreatDoor
open Go Go.RowKit
set_option maxRecDepth 100000
namespace Q
theorem cmp_drop (a b:List Int) (k:Nat) (ha:k<a.length) (hb:k<b.length):cmp (a.drop k) (b.drop k)=if a.getD k 0 != b.getD k 0 then a.getD k 0-b.getD k 0 else cmp (a.drop (k+1)) (b.drop (k+1)):=by
 rw[List.drop_eq_getElem_cons ha,List.drop_eq_getElem_cons hb,zAP a k ha,zAP b k hb];rfl
theorem cmp_short (a b:List Int) (k:Nat) (ha:k<a.length) (hb:b.length≤k):cmp (a.drop k) (b.drop k)=1:=by
 rw[List.drop_eq_getElem_cons ha,List.drop_eq_nil_of_le hb];rfl
theorem cmp_done (a b:List Int) (hl:a.length≤b.length):cmp (a.drop a.length) (b.drop a.length)=(a.length:Int)-b.length:=by
 rw[List.drop_eq_nil_of_le (Nat.le_refl _)];simp[cmp];omega
def Small (l:List Int):Prop:=∀ x∈l,0≤x∧x<4
end Q
theorem zCx (va vb:Value) (a b:List Int) (w:World) (ha:zBS w va a) (hb:zBS w vb b) (hsa:Q.Small a) (hsb:Q.Small b) (hla:a.length<1000) (hlb:b.length<1000) :
  Calls Tryz.prog 126 #[va,vb] w fun e w'=>e=.returned (.int .i64 (Q.cmp a b))∧Below w.heap.size w w':=by
 obtain⟨xa,ca,rfl,hxa⟩:=ha.form
 obtain⟨xb,cb,rfl,hxb⟩:=hb.form
 have HSA:=zAa hsa
 have HSB:=zAa hsb
 clear ha hb hsa hsb
 go_enter Tryz.func126,Tryz.ntmps126
 go_wp2
 go_loopw [8] (fun j wr=>∃ k:Nat,k≤a.length∧k≤b.length∧j=.int .i64 k∧Hid (Q.cmp a b=Q.cmp (a.drop k) (b.drop k))∧Below w.heap.size w wr) (fun j _=>a.length-(intOf j).toNat)
 case atStart=>exact⟨0,Nat.zero_le _,Nat.zero_le _,rfl,rfl,Below.refl _ _⟩
 case round =>
  obtain⟨k,hk,hkb,rfl,HC,hbel⟩:=hrel
  by_cases hlt:k<a.length
  ·have hin:(k:Int)<(a.length:Int):=by omega
   by_cases hb2:b.length≤k
   ·have hge:(b.length:Int)≤(k:Int):=by omega
    have HE:Hid (Q.cmp a b=1):=by unfold Hid;rw[HC.out,Q.cmp_short a b k hlt hb2]
    go_wp2
    go_ret
    rw[HE.out];exact⟨rfl,hbel⟩
   ·have hbl:k<b.length:=by omega
    have hinb:(k:Int)<(b.length:Int):=by omega
    have hge:decide ((b.length:Int)≤(k:Int))=false:=decide_eq_false (by omega)
    obtain⟨g1,rfl,hg1,hc1⟩:=hxa (by omega)
    obtain⟨g2,rfl,hg2,hc2⟩:=hxb (by omega)
    have d1:wr.cell? ⟨g1,k,none⟩=some (.int .i64 (a.getD k 0)):=by rw[zAP a k hlt];exact (hbel.cell (p:=⟨g1,k,none⟩) hg1).trans (hc1 k hlt)
    have d2:wr.cell? ⟨g2,k,none⟩=some (.int .i64 (b.getD k 0)):=by rw[zAP b k hbl];exact (hbel.cell (p:=⟨g2,k,none⟩) hg2).trans (hc2 k hbl)
    have l1:=Nat.lt_of_lt_of_le hg1 hbel.size
    have l2:=Nat.lt_of_lt_of_le hg2 hbel.size
    have HD:=zAa (Q.cmp_drop a b k hlt hbl)
    have s1:0≤a.getD k 0∧a.getD k 0<4:=by rw[zAP a k hlt];exact HSA.out _ (List.getElem_mem hlt)
    have s2:0≤b.getD k 0∧b.getD k 0<4:=by rw[zAP b k hbl];exact HSB.out _ (List.getElem_mem hbl)
    generalize a.getD k 0=x at *
    generalize b.getD k 0=y at *
    cases hz:(x != y)
    ·have HN:Hid (Q.cmp a b=Q.cmp (a.drop (k+1)) (b.drop (k+1))):=by unfold Hid;rw[HC.out,HD.out,hz];rfl
     go_wp2
     go_quiet (fail)
     all_goals
      go_wp2
      go_roundw
      case rel=>exact⟨k+1,by omega,by omega,by go_num,HN,hbel.trans (zAG _ _ _)⟩
      case measure=>simp[intOf];omega
    ·have HN:Hid (Q.cmp a b=x-y):=by unfold Hid;rw[HC.out,HD.out,hz];rfl
     have hw:IntKind.i64.wrap (x-y)=x-y:=IntWalk.i64_in _ ⟨by omega,by omega⟩
     go_wp2
     go_quiet (fail)
     all_goals
      go_wp2
      go_quiet (fail)
      all_goals
       go_wp2
       go_ret
       rw[HN.out]
       exact⟨by first | rfl | rw[hw],(hbel.trans (zAG _ _ _)).trans (zAG _ _ _)⟩
  ·have hkn:k=a.length:=by omega
   subst hkn
   have HE:Hid (Q.cmp a b=(a.length:Int)-b.length):=by unfold Hid;rw[HC.out,Q.cmp_done a b hkb]
   have hw:IntKind.i64.wrap ((a.length:Int)-b.length)=(a.length:Int)-b.length:=IntWalk.i64_in _ ⟨by omega,by omega⟩
   go_wp2
   go_ret
   rw[HE.out];exact⟨by first | rfl | rw[hw],hbel⟩
structure RowsI (w:World) (B:Nat) (v:Value) (rs:List (List Int)) (vs:List Value):Prop where
 own:w.ownsRow B 32 1 v rs.length vs
 len:vs.length=rs.length
 rows:∀ i (h:i<rs.length) (u:Value),vs[i]?=some u→zBS w u rs[i]
theorem RowsI.below {w w':World} {B:Nat} {v:Value} {rs:List (List Int)} {vs:List Value} (h:RowsI w B v rs vs) (hb:Below w.heap.size w w'):RowsI w' B v rs vs :=
 ⟨zAd h.own (fun k e=>hb.block k (h.own.lt k e).2),h.len,fun i hi u hu=>(h.rows i hi u hu).below hb⟩
theorem RowsI.form {w:World} {B:Nat} {v:Value} {rs:List (List Int)} {vs:List Value} (h:RowsI w B v rs vs):∃ a c,v=.slice a rs.length c∧(0<rs.length→∃ b,a=some ⟨b,0,none⟩∧B≤b∧b<w.heap.size∧∀ i (hi:i<vs.length),w.cell? ⟨b,i,none⟩=some vs[i]):=by
 rcases h.own.2 with ⟨e,h0⟩ | ⟨k,c,cur,e,hk,_⟩
 ·exact⟨none,0,by rw[e,h0],fun h=>by omega⟩
 ·refine⟨_,c,e,fun _=>⟨k,rfl,hk,(h.own.lt k (by rw[e];rfl)).2,fun i hi=>?_⟩⟩
  have h1:=h.own
  rw[e] at h1
  rw[h1.cellAt i (by have:=h.len;omega),List.getElem?_eq_getElem hi]
theorem zGi (B g:Nat) (v vr:Value) (rs:List (List Int)) (vs:List Value) (r:List Int) (w:World) (hc:w.cell? ⟨g,0,none⟩=some v) (hg:g<w.heap.size) (h:RowsI w B v rs vs) (hr:zBS w vr r) (hri:Q.zMk rs) (hs:∀ x∈rs,Q.Small x∧x.length<1000) (hsr:Q.Small r∧r.length<1000) (hn:rs.length<100000000) :
  Calls Tryz.prog 125 #[.pointer (some ⟨g,0,none⟩),vr] w fun e w'=>e=.returned (.int .i64 (Q.posOf rs r:Int))∧Below w.heap.size w w':=by
 obtain⟨xa,ca,rfl,hxa⟩:=h.form
 obtain⟨ra,rc,rfl,_⟩:=hr.form
 have H:=zAa h
 have HR:=zAa hr
 have HRI:=zAa hri
 have HS:=zAa hs
 have HSR:=zAa hsr
 clear h hr hri hs hsr
 go_enter Tryz.func125,Tryz.ntmps125
 go_wp2
 go_loopw [5,6] (fun a b wr=>∃ lo hi:Nat,lo≤hi∧hi≤rs.length∧a=.int .i64 lo∧b=.int .i64 hi∧Hid (∀ i (h:i<rs.length),i<lo→Q.cmp rs[i] r<0)∧Hid (∀ i (h:i<rs.length),hi≤i→0≤Q.cmp rs[i] r)∧Below w.heap.size w wr) (fun a b _=>(intOf b).toNat-(intOf a).toNat)
 case atStart=>exact⟨0,rs.length,Nat.zero_le _,Nat.le_refl _,rfl,rfl,fun i h h2=>by omega,fun i h h2=>by omega,Below.refl _ _⟩
 case round =>
  obtain⟨lo,hi,hlh,hhn,rfl,rfl,HL,HH,hbel⟩:=hrel
  have d0:=cfL hbel hg hc
  have lg:=Nat.lt_of_lt_of_le hg hbel.size
  by_cases hlt:lo<hi
  ·have hin:(lo:Int)<(hi:Int):=by omega
   obtain⟨mi,hmi⟩:∃ mi:Nat,mi=lo+(hi-lo) / 2:=⟨_,rfl⟩
   have hm1:lo≤mi:=by omega
   have hm2:mi<hi:=by omega
   have hmI:(lo:Int)+((hi:Int)-(lo:Int)) / 2=(mi:Int):=by omega
   have hmn:mi<rs.length:=by omega
   have hmnI:(mi:Int)<(rs.length:Int):=by omega
   obtain⟨b,rfl,hbB,hb,hcs⟩:=hxa (by omega)
   have hmv:mi<vs.length:=by rw[H.out.len];exact hmn
   have cm:wr.cell? ⟨b,mi,none⟩=some vs[mi]:=(hbel.cell (p:=⟨b,mi,none⟩) hb).trans (hcs mi hmv)
   have lb:=Nat.lt_of_lt_of_le hb hbel.size
   have HRM:=zAa ((H.out.rows mi hmn vs[mi] (List.getElem?_eq_getElem hmv)).below hbel)
   have hsm:=HS.out rs[mi] (List.getElem_mem hmn)
   have HRR:=zAa (HR.out.below hbel)
   have HLT:Hid (Q.cmp rs[mi] r<0→∀ i (h:i<rs.length),i<mi+1→Q.cmp rs[i] r<0):=fun hc i hi2 hi3=>Q.rising_lt HRI.out r i mi hmn hi2 (by omega) hc
   have HGE:Hid (0≤Q.cmp rs[mi] r→∀ i (h:i<rs.length),mi≤i→0≤Q.cmp rs[i] r):=fun hc i hi2 hi3=>by have:=Q.rising_ge HRI.out r i mi hmn hi2 hi3 (by omega);omega
   generalize vs[mi]=u at *
   generalize rs[mi]=y at *
   clear hmi
   by_cases hz:Q.cmp y r<0
   ·have HL2:=zAa (HLT.out hz)
    go_wp2_with (first | (go_at_call 126;refine (zCx _ _ y r _ HRM.out HRR.out hsm.1 HSR.out.1 hsm.2 HSR.out.2).mono ?_;rintro e w1 ⟨rfl,hb1⟩))
    go_roundw
    case rel=>exact⟨mi+1,hi,by omega,hhn,by go_num,rfl,HL2,HH,zAr hbel (Nat.le_refl _) hb1⟩
    case measure=>simp[intOf];omega
   ·have HH2:=zAa (HGE.out (by omega))
    go_wp2_with (first | (go_at_call 126;refine (zCx _ _ y r _ HRM.out HRR.out hsm.1 HSR.out.1 hsm.2 HSR.out.2).mono ?_;rintro e w1 ⟨rfl,hb1⟩))
    go_roundw
    case rel=>exact⟨lo,mi,by omega,by omega,rfl,by first | rfl | go_num,HL,HH2,zAr hbel (Nat.le_refl _) hb1⟩
    case measure=>simp[intOf];omega
  ·obtain rfl:lo=hi:=by omega
   have HE:Hid (Q.posOf rs r=lo):=Q.pos_eq (by omega) HL.out (fun h=>by have:=HH.out lo h (by omega);omega)
   go_wp2
   go_ret
   rw[HE.out];exact⟨rfl,hbel⟩
namespace P
def wantF (r want:List Int) (ok:Bool) (k:Nat):Bool:=if ok then r.getD (4*want.getD (3*k) 0+want.getD (3*k+1) 0).toNat 0==want.getD (3*k+2) 0 else false
def wantTo (r want:List Int) (k:Nat):Bool:=(List.range k).foldl (wantF r want) true
def comesB (rows:List (List Int)) (want:List Int):Bool:=rows.any fun r=>wantTo r want (want.length / 3)
def wantOk (rows:List (List Int)) (want:List Int):Prop:=want.length<100∧(∃ m,want.length=3*m)∧∀ r∈rows,r.length<1000∧∀ k,3*k+2<want.length→0≤want.getD (3*k) 0∧want.getD (3*k) 0<100∧0≤want.getD (3*k+1) 0∧want.getD (3*k+1) 0<100∧4*want.getD (3*k) 0+want.getD (3*k+1) 0<r.length
end P
namespace Q
def mixI (f:Nat→Int) (n k:Nat):List Int:=(List.range n).map fun j=>if j<k then f j else 0
theorem zLM (f:Nat→Int) (n:Nat):mixI f n 0=List.replicate n 0:=by
 unfold mixI
 apply List.ext_getElem<;>simp
theorem zLA (f:Nat→Int) (n k:Nat):(mixI f n k).length=n:=by simp[mixI]
theorem zLN (f:Nat→Int) (n:Nat):mixI f n n=(List.range n).map f:=by
 unfold mixI
 apply List.map_congr_left
 intro j hj;simp at hj;simp[hj]
theorem zMe (f:Nat→Int) (n k:Nat) (h:k<n):(mixI f n k).set k (f k)=mixI f n (k+1):=by
 unfold mixI
 apply List.ext_getElem
 ·simp
 ·intro i h1 h2
  simp at h2
  rw[List.getElem_set]
  by_cases hk:k=i
  ·subst hk;simp
  ·by_cases hlt:i<k
   ·simp[hk,hlt,show i<k+1 by omega]
   ·simp[hk,hlt,show ¬ i<k+1 by omega]
end Q
theorem zAt.rowI {w:World} {g:Nat} {l:List Int} (h:zAt w g l) (c:Nat):zBS w (.slice (some ⟨g,0,none⟩) l.length c) l:=Or.inr ⟨g,c,rfl,fun i hi=>h.cell i hi,h.lt⟩
structure Ticked (w w':World) (gc o gd:Nat):Prop where
 os:w'.os=w.os
 tape:w'.tape=w.tape
 output:w'.output=w.output
 size:w'.heap.size=w.heap.size
 block:∀ k,k≠gc→k≠gd→w'.heap[k]?=w.heap[k]?
 cell:∀ j,j≠o+2→w'.cell? ⟨gc,j,none⟩=w.cell? ⟨gc,j,none⟩
 froz:∀ j,w'.frozen? ⟨gc,j,none⟩=w.frozen? ⟨gc,j,none⟩
 shape:∀ c t fr,w.heap[gc]?=some (.cells c t fr)→∃ c',w'.heap[gc]?=some (.cells c' t fr)∧c'.size=c.size
theorem Ticked.below {w w':World} {gc o gd B:Nat} (h:Ticked w w' gc o gd) (h1:B≤gc) (h2:B≤gd):Below B w w' :=
 ⟨h.os,h.tape,h.output,by rw[h.size];exact Nat.le_refl _,fun k hk=>h.block k (by omega) (by omega)⟩
def zDv (w:World) (gc o gb gd:Nat) (bs ds:List Int) (rest:List (List Int)):Prop :=
 ∃ begun,CtrAt w gc o gb gd bs ds begun∧((begun=false∧ds=Q.zeros bs.length∧rest=Q.zKt bs)∨(begun=true∧Q.DigOk bs ds∧rest=Q.afterD bs ds))
theorem CtrAt.of {w w':World} {gc o gb gd:Nat} {bs ds:List Int} {b:Bool} (h:CtrAt w gc o gb gd bs ds b) (hc:∀ j,w'.cell? ⟨gc,j,none⟩=w.cell? ⟨gc,j,none⟩) (hf:∀ j,w'.frozen? ⟨gc,j,none⟩=w.frozen? ⟨gc,j,none⟩) (hs:gc<w'.heap.size)
  (hb:w'.heap[gb]?=w.heap[gb]?) (hd:w'.heap[gd]?=w.heap[gd]?):CtrAt w' gc o gb gd bs ds b :=
 ⟨(hc _).trans h.c0,(hc _).trans h.c1,(hc _).trans h.c2,fun j=>(hf j).trans (h.free j),hs,h.bases.of_block hb,h.digits.of_block hd,h.cd,h.cb,h.bd,h.len⟩
theorem CtrAt.below {w w':World} {gc o gb gd:Nat} {bs ds:List Int} {b:Bool} (h:CtrAt w gc o gb gd bs ds b) (hb:Below w.heap.size w w'):CtrAt w' gc o gb gd bs ds b :=
 h.of (fun _=>hb.cell h.lt) (fun _=>hb.frozen h.lt) (Nat.lt_of_lt_of_le h.lt hb.size) (hb.block _ h.bases.lt) (hb.block _ h.digits.lt)
theorem zDv.below {w w':World} {gc o gb gd:Nat} {bs ds:List Int} {rest:List (List Int)} (h:zDv w gc o gb gd bs ds rest) (hb:Below w.heap.size w w'):zDv w' gc o gb gd bs ds rest:=by
 obtain⟨b,h1,h2⟩:=h
 exact⟨b,h1.below hb,h2⟩
theorem zDv.ctr {w:World} {gc o gb gd:Nat} {bs ds:List Int} {rest:List (List Int)} (h:zDv w gc o gb gd bs ds rest):∃ b,CtrAt w gc o gb gd bs ds b:=by
 obtain⟨b,h1,_⟩:=h
 exact⟨b,h1⟩
theorem zFF (gc o gb gd:Nat) (bs ds:List Int) (rest:List (List Int)) (w:World) (h:zDv w gc o gb gd bs ds rest) (hn:bs.length<10000) (hb:∀ b∈bs,b<1000000000) :
  Calls Tryz.prog 117 #[.pointer (some ⟨gc,o,none⟩)] w fun e w'=>((rest=[]∧e=.returned (.bool false))∨∃ r q,rest=r::q∧e=.returned (.bool true)∧zDv w' gc o gb gd bs r q∧Q.DigOk bs r)∧Ticked w w' gc o gd:=by
 obtain⟨b,hc,h2⟩:=h
 rcases h2 with ⟨rfl,hz,hr⟩ | ⟨rfl,hd,hr⟩
 ·refine (zGF gc o gb gd bs ds w hc hn).mono ?_
  rintro e w' ⟨rfl,rfl⟩
  have T:Ticked w (w.setCell ⟨gc,o+2,none⟩ (.bool true)) gc o gd:=⟨rfl,rfl,rfl,by simp,fun k h1 _=>Below.heap_setCell _ _ _ _ h1,fun j hj=>World.cell?_setCell_other _ _ _ _ (by first | (simp;done) | (simp;omega)),fun j=>World.frozen?_setCell _ _ _ _,fun c t fr hcc=>⟨_,zAf hcc _ _,by simp⟩⟩
  refine⟨?_,T⟩
  cases hs:Q.someB bs
  ·exact Or.inl ⟨by rw[hr,Q.digits_none hs],rfl⟩
  ·have hok:=Q.digOk_zeros hs
   refine Or.inr ⟨_,_,by rw[hr,Q.digits_first hs],rfl,⟨true,?_,Or.inr ⟨rfl,hok,rfl⟩⟩,hok⟩
   rw[← hz]
   exact⟨(T.cell _ (by omega)).trans hc.c0,(T.cell _ (by omega)).trans hc.c1,World.cell?_setCell_same _ _ _ hc.c2,fun j=>(T.froz j).trans (hc.free j),by rw[T.size];exact hc.lt,hc.bases.of_block (T.block _ (fun e=>hc.cb e.symm) hc.bd),hc.digits.of_block (Below.heap_setCell _ _ _ _ (fun e=>hc.cd e.symm)),hc.cd,hc.cb,hc.bd,hc.len⟩
 ·have hrng:∀ d∈ds,0≤d∧d<1000000000:=fun d hdm=>by
   obtain⟨i,hi,rfl⟩:=List.getElem_of_mem hdm
   have h1:=hd.rng i hi
   have h3:i<bs.length:=by rw[← hd.len];exact hi
   have h4:bs.getD i 0<1000000000:=by rw[zAP bs i h3];exact hb _ (List.getElem_mem h3)
   omega
  refine (zHq gc o gb gd bs ds w hc hn hrng).mono ?_
  rintro e w' ⟨rfl,hi,hg,hsz⟩
  have hcg:gc≠gd:=hc.cd
  have T:Ticked w w' gc o gd:=⟨hg.os,hg.tape,hg.output,hsz,fun k h1 h2=>by
   by_cases hk:k<w.heap.size
   ·exact hg.block k hk (by simpa using h2)
   ·rw[Array.getElem?_eq_none (by omega),Array.getElem?_eq_none (by omega)],fun j _=>World.cell?_of_block (w:=w) (a:=⟨gc,j,none⟩) (hg.block gc hc.lt (by simpa using hcg)),fun j=>World.frozen?_of_block (w:=w) (a:=⟨gc,j,none⟩) (hg.block gc hc.lt (by simpa using hcg)),fun c t fr hcc=>⟨c,(hg.block gc hc.lt (by simpa using hcg)).trans hcc,rfl⟩⟩
  refine⟨?_,T⟩
  cases hs:(Q.inc bs ds).2
  ·exact Or.inl ⟨by rw[hr,Q.after_none hd hs],rfl⟩
  ·have hok:=Q.digOk_inc hd hs
   refine Or.inr ⟨_,_,by rw[hr,Q.after_step hd hs],rfl,⟨true,?_,Or.inr ⟨rfl,hok,rfl⟩⟩,hok⟩
   have hcell:∀ j,w'.cell? ⟨gc,j,none⟩=w.cell? ⟨gc,j,none⟩:=fun j=>World.cell?_of_block (w:=w) (a:=⟨gc,j,none⟩) (hg.block gc hc.lt (by simpa using hcg))
   refine⟨(hcell _).trans hc.c0,?_,(hcell _).trans hc.c2,fun j=>(T.froz j).trans (hc.free j),by rw[T.size];exact hc.lt,hc.bases.of_block (T.block _ (fun e=>hc.cb e.symm) hc.bd),hi,hc.cd,hc.cb,hc.bd,hok.len⟩
   rw[hok.len,← hc.len];exact (hcell _).trans hc.c1
def zIY (w w':World) (bs:List Int) (v1 v2 v3:Value):Prop:=∃ gb gd,v1=.slice (some ⟨gb,0,none⟩) bs.length bs.length∧v2=.slice (some ⟨gd,0,none⟩) bs.length bs.length∧v3=.bool false∧zAt w' gb bs∧zAt w' gd (Q.zeros bs.length)∧w.heap.size≤gb∧w.heap.size≤gd∧gb≠gd
theorem zBi {fn:Func} {R:Ending→World→Prop} {a:Act} {w:World} {p:Tmp} {t:TypeId} {d:TypeDesc} (g:Nat) (cs:Array Value) (hres:fn.results=#[.cell p t])
  (hu:Tryz.prog.underlying t=some d) (hdr:d.isRow=true) (hi:(Tryz.prog.info? t).map (·.size)=some cs.size)
  (hp:a.tmps.getD p undef=.pointer (some ⟨g,0,none⟩)) (h:w.heap[g]?=some (.cells cs t (0,0))) (hd:a.defers=[]) (hR:R (.returned (.agg cs)) w):bodyPost Tryz.prog fn R .ret a w:=by
 refine bodyPost_ret (v:=.agg cs) ?_ hd hR
 rw[zCR hres,hp]
 have:(asAddr (.pointer (some ⟨g,0,none⟩))).run Tryz.prog w=.ok ⟨g,0,none⟩ w:=rfl
 rw[this,Result.andThen_ok,zBh w g _ _ _ h _ hu hdr hi]
theorem zJL {w W0 w1:World} {t:TypeId} {u0 u1 u2 s0 s1 s2:Value} (hw:Below w.heap.size w W0) (hb:Below W0.heap.size W0 w1) (hk:W0.heap[w.heap.size]?=some (.cells #[u0,u1,u2] t (0,0))) :
  (((w1.setCell ⟨w.heap.size,0,none⟩ s0).setCell ⟨w.heap.size,1,none⟩ s1).setCell ⟨w.heap.size,2,none⟩ s2).heap[w.heap.size]?=some (.cells #[s0,s1,s2] t (0,0))∧(∀ k,k≠w.heap.size→(((w1.setCell ⟨w.heap.size,0,none⟩ s0).setCell ⟨w.heap.size,1,none⟩ s1).setCell ⟨w.heap.size,2,none⟩ s2).heap[k]?=w1.heap[k]?)∧(((w1.setCell ⟨w.heap.size,0,none⟩ s0).setCell ⟨w.heap.size,1,none⟩ s1).setCell ⟨w.heap.size,2,none⟩ s2).heap.size=w1.heap.size∧Below w.heap.size w (((w1.setCell ⟨w.heap.size,0,none⟩ s0).setCell ⟨w.heap.size,1,none⟩ s1).setCell ⟨w.heap.size,2,none⟩ s2):=by
 have h1:w1.heap[w.heap.size]?=some (.cells #[u0,u1,u2] t (0,0)):=(hb.block _ (Array.getElem?_eq_some_iff.1 hk).1).trans hk
 refine⟨?_,fun k hk=>?_,by simp,?_⟩
 ·have e0:=zAf h1 0 s0
  have e1:=zAf e0 1 s1
  have e2:=zAf e1 2 s2
  rw[e2];rfl
 ·rw[Below.heap_setCell _ _ _ _ hk,Below.heap_setCell _ _ _ _ hk,Below.heap_setCell _ _ _ _ hk]
 ·exact ((((zAr hw (Nat.le_refl _) hb)).setCell (p:=⟨w.heap.size,0,none⟩) (Nat.le_refl _) _).setCell (p:=⟨w.heap.size,1,none⟩) (Nat.le_refl _) _).setCell (p:=⟨w.heap.size,2,none⟩) (Nat.le_refl _) _
theorem zCh (v:Value) (bs:List Int) (w:World) (h:zBS w v bs) (hn:bs.length<10000) :
  Calls Tryz.prog 103 #[v] w fun e w'=>∃ v1 v2 v3,e=.returned (.agg #[v1,v2,v3])∧zIY w w' bs v1 v2 v3∧Below w.heap.size w w':=by
 have hmk:∀ w,(Instr.makeSlice 32 (.int .i64 (bs.length:Int)) (.int .i64 (bs.length:Int))).run Tryz.prog w=.ok (.slice (some ⟨w.heap.size,0,none⟩) bs.length bs.length) (w.alloc (.cells (madeCells #[.int .i64 0] bs.length) 3)) :=
  fun w=>run_make_row' 32 3 (.int .i64 0) 8 Tryz.underlying32 Tryz.infoInt rfl .i64 .i64 bs.length (by omega) (by omega) w
 have HM:Hid (madeCells #[.int .i64 0] bs.length=zAN (Q.zeros bs.length)):=zCp bs.length
 obtain⟨va,vc,rfl,hva⟩:=h.form
 have HV:=zAa h
 clear hva h
 go_enter Tryz.func103,Tryz.ntmps103
 go_upto_region 1 with fail
 obtain⟨k0,hsz,hbw⟩:=zBC w #[.slice none 0 0,.slice none 0 0,.bool false] 73
 have BW0:=zAa hbw
 have HV0:=zAa (HV.out.below hbw)
 generalize hE:w.alloc (.cells #[.slice none 0 0,.slice none 0 0,.bool false] 73)=W0 at *
 have c0:=ceL k0 0 _ rfl
 have c1:=ceL k0 1 _ rfl
 have c2:=ceL k0 2 _ rfl
 have f0:∀ j,W0.frozen? ⟨w.heap.size,j,none⟩=false:=fun j=>by simp[World.frozen?,k0]
 have l0:w.heap.size<W0.heap.size:=by omega
 have K0:=zAa k0
 clear hE k0 hbw
 go_region_with (go_at_call 123;refine (zCH _ bs _ (HV0.out.below (by first | exact (Below.refl _ _).drew | exact ((Below.refl _ _).alloc (Nat.le_refl _) _).drew | exact ((Below.refl _ _).drew).alloc (by simp) _)) hn).mono ?_;rintro e w1 ⟨g1,rfl,hg1,hge1,hb1⟩;have B1:Hid (Below W0.heap.size W0 w1):=(by first | exact ((Below.refl W0.heap.size W0).drew).trans (hb1.mono (by simp)) | exact (((Below.refl W0.heap.size W0).alloc (Nat.le_refl _) _).drew).trans (hb1.mono (by simp)) | exact (((Below.refl W0.heap.size W0).drew).alloc (by simp) _).trans (hb1.mono (by simp)));have p0:=cfL B1.out l0 c0;have p1:=cfL B1.out l0 c1;have p2:=cfL B1.out l0 c2;have pf:∀ j,w1.frozen? ⟨w.heap.size,j,none⟩=false:=(fun j=>(B1.out.frozen (p:=⟨w.heap.size,j,none⟩) l0).trans (f0 j));have lw:=Nat.lt_of_lt_of_le l0 B1.out.size;have G1:=zAa hg1;have HB1:=zAa hb1;simp at hge1)
 ·obtain⟨q0,q1,q2,q3⟩:=zJL (s0:=.slice (some ⟨g1,0,none⟩) bs.length bs.length) (s1:=.slice (some ⟨w1.heap.size,0,none⟩) bs.length bs.length) (s2:=.bool false) BW0.out B1.out K0.out
  have hg1':=G1.out.lt
  have hgw:w.heap.size<g1:=by omega
  go_wp2
  refine zBi (p:=2) w.heap.size _ (by kernel_rfl) Tryz.underlying73 rfl (by kernel_rfl) rfl (by rw[Below.heap_alloc _ _ _ (by omega)];exact q0) rfl ⟨_,_,_,rfl,⟨g1,w1.heap.size,rfl,rfl,rfl,?_,?_,by omega,by omega,by omega⟩,q3.alloc (by omega) _⟩
  ·unfold zAt;rw[Below.heap_alloc _ _ _ (by omega),q1 g1 (by omega)];exact G1.out
  ·unfold zAt;rw[← HM.out];exact Eq.trans (congrArg (fun k=>(World.alloc _ _).heap[k]?) q2.symm) (heap_alloc_new _ _)
 ·obtain⟨q0,q1,q2,q3⟩:=zJL (s0:=.slice (some ⟨g1,0,none⟩) bs.length bs.length) (s1:=.slice (some ⟨w.heap.size+1,0,none⟩) bs.length bs.length) (s2:=.bool false) BW0.out B1.out K0.out
  have hg1':=G1.out.lt
  have hz1:=HB1.out.size
  have hbk:=HB1.out.block (w.heap.size+1) (by simp;omega)
  simp at hz1
  go_wp2
  refine zBi (p:=2) w.heap.size _ (by kernel_rfl) Tryz.underlying73 rfl (by kernel_rfl) rfl (by exact q0) rfl ⟨_,_,_,rfl,⟨g1,w.heap.size+1,rfl,rfl,rfl,?_,?_,by omega,by omega,by omega⟩,q3⟩
  ·unfold zAt;rw[q1 g1 (by omega)];exact G1.out
  ·unfold zAt;rw[q1 _ (by omega),hbk,← HM.out,← hsz];exact heap_alloc_new W0 _
end Go.Proofs.YtgceflcbckjjiaaGreatDoor
