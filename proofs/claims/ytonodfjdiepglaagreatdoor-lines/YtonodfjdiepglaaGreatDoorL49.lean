import Derived.Test.YtonodfjdiepglaaGreatDoorL48
set_option linter.unusedVariables false
set_option linter.unusedSimpArgs false
set_option maxHeartbeats 12800000
namespace Go.Proofs.YtonodfjdiepglaaGreatDoor
open Go Go.RowKit Go.Proofs.Tryz P Q R
set_option maxRecDepth 1000000
variable {a b i k n s:Nat} {m:ED} {fs:List Ev} {e:Ev} {th:Int} {st:Stm} {t:Thr} {W:Wd} {r:Run} {fb:Nat->Nat->Prop} {rs:List Int}
open Bool renaming and_eq_true→xF,or_eq_true→x3
open List renaming range→xR,getD_eq_getElem?_getD→x1,getElem_mem→x2,length_append→x4,mem_singleton→x5,mem_cons→x6,not_mem_nil→x7,append_assoc→xa,foldl_cons→xb,mem_cons_of_mem→xc
open Or renaming inl→xW
open Nat renaming lt_trans→x8,le_refl→x9
namespace Q
theorem qC (s k:Nat):kAU s (k:Int)=true ↔ k<64/\s.testBit k=true:=by
 by_cases h:k<64
 ·rw[kHF s k h];simp[h]
 ·unfold kAU cY;rw[if_pos (by omega)];simp[h]
theorem kLC (a b k:Nat):kAU (a ||| b) (k:Int)=true ↔ kAU a (k:Int)=true\/kAU b (k:Int)=true:=by
 rw[qC,qC,qC,Nat.testBit_or,x3];constructor
 ·rintro ⟨h,c | c⟩
  ·exact xW ⟨h,c⟩
  ·exact Or.inr ⟨h,c⟩
 ·rintro (⟨h,c⟩ | ⟨h,c⟩)
  ·exact⟨h,xW c⟩
  ·exact⟨h,Or.inr c⟩
theorem kBG (k:Nat):kAU 0 (k:Int)=false:=by
 cases h:kAU 0 (k:Int)
 ·rfl
 ·have:=((qC 0 k).1 h).2;simp at this
theorem kLf (n k:Nat):kAU (cY (n:Int)) (k:Int)=true ↔ n<64/\k=n:=by
 rw[qC];by_cases h:n<64
 ·rw[kIV n k h,decide_eq_true_eq];constructor
  ·rintro ⟨_,rfl⟩;exact⟨h,rfl⟩
  ·rintro ⟨_,rfl⟩;exact⟨h,rfl⟩
 ·have:cY (n:Int)=0:=by unfold cY;rw[if_pos (by omega)]
  rw[this];simp[h]
theorem kDA (s n k:Nat) (g:n<64):kAU (kBu s (n:Int)) (k:Int)=true ↔ k<64/\n<=k/\kAU s ((k-n:Nat):Int)=true:=by
 rw[qC,qC];unfold kBu;rw[if_neg (by omega),Int.toNat_natCast,show (18446744073709551616:Nat)=2 ^ 64 by decide,Nat.testBit_mod_two_pow,Nat.testBit_mul_two_pow];simp only[xF,decide_eq_true_eq];constructor
 ·rintro ⟨h,f,c,d⟩;exact⟨h,c,by omega,d⟩
 ·rintro ⟨h,c,_,d⟩;exact⟨h,h,c,d⟩
def HB (n s:Nat):Prop:=∀ k:Nat,kAU s (k:Int)=true->k<n
theorem HB.mono {m:Nat} (h:HB n s) (e:n<=m):HB m s:=fun k c=>by have:=h k c;omega
theorem HB.or (h:HB n a) (k:HB n b):HB n (a ||| b):=fun j c=>by
 rcases (kLC a b j).1 c with e | e
 ·exact h j e
 ·exact k j e
theorem kBp (n:Nat):HB n 0:=fun k c=>by rw[kBG] at c;cases c
theorem vZ (n:Nat):HB (n+1) (cY (n:Int)):=fun k c=>by have:=((kLf n k).1 c).2;omega
def SR (es:List Ev):Prop:=∀ i,(ev es i).kind=0->(ev es i).step=true->(ev es (i+1)).kind=1/\(ev es (i+1)).step=true
theorem kIi {es:List Ev} (h:SR es) (k:SR fs):SR (es++fs):=fun i d f=>by
 rw[kAF] at d f ⊢;by_cases c:i<es.length
 ·rw[if_pos c] at d f;obtain⟨a,b⟩:=h i d f;have:i+1<es.length:=by
   by_cases c2:i+1<es.length
   ·exact c2
   ·rw[kBQ _ _ (by omega)] at a;simp[Ev.zero] at a
  rw[if_pos this];exact⟨a,b⟩
 ·rw[if_neg c] at d f;rw[if_neg (by omega),show i+1-es.length=i-es.length+1 by omega];exact k _ d f
theorem vX (h:¬ (e.kind=0/\e.step=true)):SR [e]:=fun i d c=>by
 cases i with
 | zero=>exact absurd ⟨d,c⟩ h
 | succ n=>rw[kBQ _ _ (by simp)] at c;simp[Ev.zero] at c
theorem kKn {a b:Ev} (h:b.kind=1/\b.step=true):SR [a,b]:=fun i c d=>by
 cases i with
 | zero=>exact h
 | succ n =>
  cases n with
  | zero=>rw[show ev [a,b] (0+1)=b from rfl,h.1] at c;simp at c
  | succ n=>rw[kBQ _ _ (by simp)] at d;simp[Ev.zero] at d
theorem kMd:SR []:=fun i _ c=>by rw[kBQ _ _ (by simp)] at c;simp[Ev.zero] at c
def SW (es:List Ev):Prop:=∀ i,(ev es i).kind=1->(ev es i).step=true->0<i/\(ev es (i-1)).kind=0/\(ev es (i-1)).step=true
theorem kII {es:List Ev} (h:SW es) (k:SW fs):SW (es++fs):=fun i d f=>by
 rw[kAF] at d f ⊢;by_cases c:i<es.length
 ·rw[if_pos c] at d f;obtain⟨a,b⟩:=h i d f;rw[if_pos (by omega)];exact⟨a,b⟩
 ·rw[if_neg c] at d f;obtain⟨a,b⟩:=k _ d f;rw[if_neg (by omega),show i-1-es.length=i-es.length-1 by omega];exact⟨by omega,b⟩
theorem uK (h:¬ (e.kind=1/\e.step=true)):SW [e]:=fun i d c=>by
 cases i with
 | zero=>exact absurd ⟨d,c⟩ h
 | succ n=>rw[kBQ _ _ (by simp)] at c;simp[Ev.zero] at c
theorem kKu {a b:Ev} (h:a.kind=0/\a.step=true):SW [a,b]:=fun i c d=>by
 cases i with
 | zero=>rw[show ev [a,b] 0=a from rfl,h.1] at c;simp at c
 | succ n =>
  cases n with
  | zero=>exact⟨by omega,h⟩
  | succ n=>rw[kBQ _ _ (by simp)] at d;simp[Ev.zero] at d
theorem kMb:SW []:=fun i _ c=>by rw[kBQ _ _ (by simp)] at c;simp[Ev.zero] at c
def StV (s:Stm):Prop:=(s.kind=0\/s.kind=1\/s.kind=2\/s.kind=3)->0<=s.var/\s.var<3
structure EvIn (n:Nat) (th:Int) (e:Ev):Prop where
 thr:e.thread=th
 var:zNz e=true->0<=e.var/\e.var<3
 hb:HB n e.Ef
theorem EvIn.mono {m:Nat} (h:EvIn n th e) (k:n<=m):EvIn m th e:=⟨h.thr,h.var,h.hb.mono k⟩
structure MInv (m:ED):Prop where
 evs:∀ e∈m.Ea,EvIn m.Ea.length m.thread e
 mb:∀ j,HB m.Ea.length (m.made.getD j 0)
 ab:HB m.Ea.length m.Ee
 sr:SR m.Ea
 sw:SW m.Ea
theorem MInv.sR {m':ED} (h:MInv m) (L:List Ev) (d:m'.Ea=m.Ea++L) (q:m'.thread=m.thread) (o:m'.made=m.made) (l:m'.Ee=m.Ee) (g:∀ e∈L,EvIn (m.Ea.length+L.length) m.thread e) (p:SR L) (u:SW L):MInv m':=by
 have f:m'.Ea.length=m.Ea.length+L.length:=by rw[d,x4]
 refine⟨fun e c=>?_,fun j=>?_,?_,by rw[d];exact kIi h.sr p,by rw[d];exact kII h.sw u⟩
 ·rw[f,q];rw[d] at c
  rcases List.mem_append.1 c with c | c
  ·exact (h.evs e c).mono (by omega)
  ·exact g e c
 ·rw[f,o];exact (h.mb j).mono (by omega)
 ·rw[f,l];exact h.ab.mono (by omega)
theorem kJs (l:List Nat) (i j x:Nat):(l.set i x).getD j 0=x\/(l.set i x).getD j 0=l.getD j 0:=by
 by_cases h:i=j
 ·subst h;by_cases hl:i<l.length
  ·left;rw[x1,List.getElem?_set_self hl];rfl
  ·right;rw[List.set_eq_of_length_le (by omega)]
 ·right;rw[x1,List.getElem?_set_ne h,x1]
theorem MInv.bK (h:MInv m) (d v:Int) (c:HB m.Ea.length s):MInv (m.bK d v s):=by
 unfold ED.bK
 split
 ·exact h
 ·refine⟨h.evs,fun j=>?_,h.ab,h.sr,h.sw⟩;show HB m.Ea.length ((m.made.set d.toNat s).getD j 0)
  rcases kJs m.made d.toNat j s with e | e
  ·rw[e];exact c
  ·rw[e];exact h.mb j
theorem MInv.Ed (h:MInv m) (a:Opd):HB m.Ea.length (m.Ed a):=by
 unfold ED.Ed
 split
 ·split
  ·exact kBp _
  ·exact h.mb _
 ·exact kBp _
theorem kCf (k:Int):k=0\/k=1\/k=2\/k=3\/k=4\/k=5\/((k==0)=false/\(k==1)=false/\(k==2)=false/\(k==3)=false/\(k==4)=false/\(k==5)=false):=by
 simp only[beq_eq_false_iff_ne,ne_eq];omega
theorem MInv.bG (h:MInv m) (j:StV st):MInv (m.bG st):=by
 have g:∀ n,(st.kind=0\/st.kind=2\/st.kind=3)->HB n m.Ee->EvIn n m.thread { m.event 0 st with value:=(m.unread % 4:Nat) }:=fun n z f=>⟨rfl,fun _=>j (by omega),f⟩
 have wr:∀ n v (s:Nat),(st.kind=1\/st.kind=2\/st.kind=3)->HB n m.Ee->HB n s->EvIn n m.thread { m.event 1 st with value:=v,Ef:=m.Ee ||| s }:=fun n v s z f A=>⟨rfl,fun _=>j (by omega),f.or A⟩
 unfold ED.bG
 rcases kCf st.kind with e | e | e | e | e | e | ⟨l,o,p,q,u,y⟩
 ·rw[e];refine MInv.bK (m:=m.aU st) (MInv.sR (m':=m.aU st) h [{ m.event 0 st with value:=(m.unread % 4:Nat) }] rfl rfl rfl rfl (fun x d=>?_) (vX (fun c=>?_)) (uK (fun c=>by have:=c.1;simp[ED.event] at this))) _ _ ?_
  ·rw[x5] at d;rw[d];exact g _ (xW e) (h.ab.mono (by simp))
  ·have:=c.2;simp[ED.event,e] at this
  ·show HB (m.Ea++[_]).length _;rw[x4];exact vZ _
 ·rw[e];refine MInv.sR h [{ m.event 1 st with value:=m.value st.a,Ef:=m.Ee ||| m.Ed st.a }] rfl rfl rfl rfl (fun x d=>?_) (vX (fun c=>?_)) (uK (fun c=>by have:=c.2;simp[ED.event,e] at this))
  ·rw[x5] at d;rw[d];exact wr _ _ _ (xW e) (h.ab.mono (by simp)) ((h.Ed _).mono (by simp))
  ·have:=c.1;simp[ED.event] at this
 ·rw[e];show MInv (m.step st);unfold ED.step;rw[e];refine MInv.bK (m:=(m.aU st).bX st ((m.value st.a+(m.aU st).aV m.Ea.length) % 4) (m.Ed st.a ||| cY (m.Ea.length:Nat))) (MInv.sR h [{ m.event 0 st with value:=(m.unread % 4:Nat) },{ m.event 1 st with value:=(m.value st.a+(m.aU st).aV m.Ea.length) % 4,Ef:=m.Ee ||| (m.Ed st.a ||| cY (m.Ea.length:Nat)) }] ?_ rfl rfl rfl (fun x d=>?_) (kKn ⟨rfl,by simp[ED.event,e]⟩) (kKu ⟨rfl,by simp[ED.event,e]⟩)) _ _ ?_
  ·show (m.Ea++[_])++[_]=_;rw[xa];rfl
  ·simp only[x6,x7,or_false] at d
   rcases d with rfl | rfl
   ·exact g _ (by omega) (h.ab.mono (by simp))
   ·exact wr _ _ _ (by omega) (h.ab.mono (by simp)) (((h.Ed _).mono (by simp)).or ((vZ _).mono (by simp)))
  ·show HB ((m.Ea++[_])++[_]).length _;refine (vZ _).mono ?_;simp
 ·rw[e];show MInv (m.step st);unfold ED.step;rw[e];refine MInv.bK (m:=(m.aU st).bX st (m.value st.a) (m.Ed st.a)) (MInv.sR h [{ m.event 0 st with value:=(m.unread % 4:Nat) },{ m.event 1 st with value:=m.value st.a,Ef:=m.Ee ||| m.Ed st.a }] ?_ rfl rfl rfl (fun x d=>?_) (kKn ⟨rfl,by simp[ED.event,e]⟩) (kKu ⟨rfl,by simp[ED.event,e]⟩)) _ _ ?_
  ·show (m.Ea++[_])++[_]=_;rw[xa];rfl
  ·simp only[x6,x7,or_false] at d
   rcases d with rfl | rfl
   ·exact g _ (by omega) (h.ab.mono (by simp))
   ·exact wr _ _ _ (by omega) (h.ab.mono (by simp)) ((h.Ed _).mono (by simp))
  ·show HB ((m.Ea++[_])++[_]).length _;refine (vZ _).mono ?_;simp
 ·rw[e];refine MInv.sR h [m.event 2 st] rfl rfl rfl rfl (fun x d=>?_) (vX (fun c=>by have:=c.1;simp[ED.event] at this)) (uK (fun c=>by have:=c.1;simp[ED.event] at this));rw[x5] at d;rw[d];exact⟨rfl,fun c=>by simp[zNz,ED.event] at c,kBp _⟩
 ·rw[e];refine MInv.sR h [m.event 3 st,m.event 4 st] rfl rfl rfl rfl (fun x d=>?_) (kIi (es:=[m.event 3 st]) (vX (fun c=>by have:=c.1;simp[ED.event] at this)) (vX (fun c=>by have:=c.1;simp[ED.event] at this))) (kII (es:=[m.event 3 st]) (uK (fun c=>by have:=c.1;simp[ED.event] at this)) (uK (fun c=>by have:=c.1;simp[ED.event] at this)));simp only[x6,x7,or_false] at d
  rcases d with rfl | rfl
  ·exact⟨rfl,fun c=>by simp[zNz,ED.event] at c,kBp _⟩
  ·exact⟨rfl,fun c=>by simp[zNz,ED.event] at c,kBp _⟩
 ·rw[l,o,p,q,u,y];simp only[Bool.false_eq_true,if_false,Bool.or_self]
  split
  ·exact h.bK _ _ ((h.Ed _).or (h.Ed _))
  ·exact h
theorem MInv.carry {p:ED × Nat} (h:MInv p.1) (c:StV st):MInv (carry p st).1:=by
 unfold Q.carry
 split
 ·split
  ·exact⟨h.evs,h.mb,h.ab.or (h.Ed _),h.sr,h.sw⟩
  ·exact h.bG c
 ·split
  ·exact h
  ·split<;>exact h
theorem kGf:∀ (c:List Stm) {p:ED × Nat},(∀ s∈c,StV s)->MInv p.1->MInv (c.foldl carry p).1
 | [],_,_,h=>h
 | s::c,p,hs,h=>by
  rw[xb];exact kGf c (fun x d=>hs x (xc _ d)) (h.carry (hs s (by simp)))
theorem kFm (t b:Int) (u:Nat):MInv (ED.start t b u) :=
 ⟨fun e c=>by simp[ED.start] at c,fun j=>by
  have:(ED.start t b u).made.getD j 0=0:=by
   match j with
   | 0=>rfl
   | 1=>rfl
   | 2=>rfl
   | 3=>rfl
   | j+4=>rfl
  rw[this];exact kBp _,kBp _,kMd,kMb⟩
theorem kKP (h:∀ s∈t.Eb,StV s) (i c:Nat):MInv (kBs t i c):=kGf _ h (kFm _ _ _)
structure WInv (es:List Ev):Prop where
 len:3<=es.length
 fst:∀ i:Nat,i<3->ev es i=zMN (i:Int)
 rest:∀ i,3<=i->i<es.length->(ev es i).thread≠-1
 var:∀ i,i<es.length->zNz (ev es i)=true->0<=(ev es i).var/\(ev es i).var<3
 hb:∀ i,i<es.length->HB es.length (ev es i).Ef
 hl:∀ i,i<es.length->∀ k:Nat,kAU (ev es i).Ef (k:Int)=true->3<=k
 sr:SR es
 sw:SW es
theorem kFG:WInv zNn where
 len:=by decide
 fst i h:=by
  match i,h with
  | 0,_=>rfl
  | 1,_=>rfl
  | 2,_=>rfl
  | n+3,h=>omega
 rest i h k:=by simp[zNn] at k;omega
 var i h _:=by
  match i,h with
  | 0,_=>decide
  | 1,_=>decide
  | 2,_=>decide
  | n+3,h=>simp[zNn] at h;omega
 hb i h:=by
  match i,h with
  | 0,_=>exact kBp _
  | 1,_=>exact kBp _
  | 2,_=>exact kBp _
  | n+3,h=>simp[zNn] at h;omega
 sr i _ s:=by
  match i,s with
  | 0,s=>simp[zNn,ev,zMN] at s
  | 1,s=>simp[zNn,ev,zMN] at s
  | 2,s=>simp[zNn,ev,zMN] at s
  | n+3,s=>rw[kBQ _ _ (by simp[zNn])] at s;simp[Ev.zero] at s
 hl i h k hk:=by
  match i,h with
  | 0,_=>rw[show (ev zNn 0).Ef=0 from rfl,kBG] at hk;cases hk
  | 1,_=>rw[show (ev zNn 1).Ef=0 from rfl,kBG] at hk;cases hk
  | 2,_=>rw[show (ev zNn 2).Ef=0 from rfl,kBG] at hk;cases hk
  | n+3,h=>simp[zNn] at h;omega
 sw i _ s:=by
  match i,s with
  | 0,s=>simp[zNn,ev,zMN] at s
  | 1,s=>simp[zNn,ev,zMN] at s
  | 2,s=>simp[zNn,ev,zMN] at s
  | n+3,s=>rw[kBQ _ _ (by simp[zNn])] at s;simp[Ev.zero] at s
theorem kKX {m:Nat} (h:HB m s):HB (n+m) (kBu s (n:Int)):=fun k c=>by
 by_cases hn:n<64
 ·obtain⟨_,f,d⟩:=(kDA s n k hn).1 c;have:=h _ d;omega
 ·have:kBu s (n:Int)=0:=by unfold kBu;rw[if_pos (by omega)]
  rw[this,kBG] at c;cases c
theorem kLB {es:List Ev} (n:Nat) (h:SR es):SR (es.map (zNI n)):=fun i f d=>by
 rw[kDg] at f d ⊢;by_cases c:i<es.length
 ·rw[if_pos c] at f d;obtain⟨a,b⟩:=h i f d;have:i+1<es.length:=by
   by_cases c2:i+1<es.length
   ·exact c2
   ·rw[kBQ _ _ (by omega)] at a;simp[Ev.zero] at a
  rw[if_pos this];exact⟨a,b⟩
 ·rw[if_neg c] at d;simp[Ev.zero] at d
theorem kLw {es:List Ev} (n:Nat) (h:SW es):SW (es.map (zNI n)):=fun i f d=>by
 rw[kDg] at f d;by_cases c:i<es.length
 ·rw[if_pos c] at f d;obtain⟨a,b⟩:=h i f d;rw[kDg,if_pos (by omega)];exact⟨a,b⟩
 ·rw[if_neg c] at d;simp[Ev.zero] at d
structure RInv (th:Int) (es:List Ev):Prop where
 evs:∀ e∈es,EvIn es.length th e
 sr:SR es
 sw:SW es
theorem WInv.join (h:WInv W.Ea) (l:th≠-1) (j:RInv th r.Ea):WInv (W.join r).Ea where
 len:=by
  show 3<=(W.Ea++_).length;have:=h.len;rw[x4];omega
 fst i hi:=by
  show ev (W.Ea++_) i=_;rw[kAF,if_pos (by have:=h.len;omega)];exact h.fst i hi
 rest i hi hk:=by
  show (ev (W.Ea++_) i).thread≠-1;have g:i<W.Ea.length+r.Ea.length:=by simpa [Wd.join] using hk
  rw[kAF];by_cases c:i<W.Ea.length
  ·rw[if_pos c];exact h.rest i hi c
  ·rw[if_neg c,kDg,if_pos (by omega)];have d:i-W.Ea.length<r.Ea.length:=by omega
   have:=(j.evs _ (x2 d)).thr;rw[kED _ _ d];show (r.Ea[i-W.Ea.length]).thread≠-1;rw[this];exact l
 var i hk ha:=by
  have g:i<W.Ea.length+r.Ea.length:=by simpa [Wd.join] using hk
  have e:ev (W.join r).Ea i=if i<W.Ea.length then ev W.Ea i else ev (r.Ea.map (zNI W.Ea.length)) (i-W.Ea.length):=kAF _ _ _
  rw[e] at ha ⊢;by_cases c:i<W.Ea.length
  ·rw[if_pos c] at ha ⊢;exact h.var i c ha
  ·rw[if_neg c,kDg,if_pos (by omega)] at ha ⊢;have d:i-W.Ea.length<r.Ea.length:=by omega
   rw[kED _ _ d] at ha ⊢;exact (j.evs _ (x2 d)).var ha
 hb i hk:=by
  have g:i<W.Ea.length+r.Ea.length:=by simpa [Wd.join] using hk
  have e:ev (W.join r).Ea i=if i<W.Ea.length then ev W.Ea i else ev (r.Ea.map (zNI W.Ea.length)) (i-W.Ea.length):=kAF _ _ _
  have d:(W.join r).Ea.length=W.Ea.length+r.Ea.length:=by simp[Wd.join]
  rw[e,d];by_cases c:i<W.Ea.length
  ·rw[if_pos c];exact (h.hb i c).mono (by omega)
  ·rw[if_neg c,kDg,if_pos (by omega)];have d:i-W.Ea.length<r.Ea.length:=by omega
   rw[kED _ _ d];exact kKX (j.evs _ (x2 d)).hb
 sr:=kIi h.sr (kLB _ j.sr)
 sw:=kII h.sw (kLw _ j.sw)
 hl i hk k hb:=by
  have g:i<W.Ea.length+r.Ea.length:=by simpa [Wd.join] using hk
  have e:ev (W.join r).Ea i=if i<W.Ea.length then ev W.Ea i else ev (r.Ea.map (zNI W.Ea.length)) (i-W.Ea.length):=kAF _ _ _
  rw[e] at hb;by_cases c:i<W.Ea.length
  ·rw[if_pos c] at hb;exact h.hl i c k hb
  ·rw[if_neg c,kDg,if_pos (by omega)] at hb;have o:=h.len;have f:kAU (kBu (ev r.Ea (i-W.Ea.length)).Ef (W.Ea.length:Int)) (k:Int)=true:=hb;by_cases hn:W.Ea.length<64
   ·have:=((kDA _ _ _ hn).1 f).2.1;omega
   ·have z:kBu (ev r.Ea (i-W.Ea.length)).Ef (W.Ea.length:Int)=0:=by unfold kBu;rw[if_pos (by omega)]
    rw[z,kBG] at f;cases f
theorem kKe (h:∀ s∈t.Eb,StV s) (g:r∈zOD t i):RInv (i:Int) r.Ea:=by
 unfold zOD zNs at g;obtain⟨c,_,rfl⟩:=List.mem_map.1 g;have f:=kKP h i c;have l:(kBs t i c).thread=(i:Int):=by
  unfold kBs zOl;have:∀ (d:List Stm) (p:ED × Nat),(d.foldl carry p).1.thread=p.1.thread:=fun d=>by
   induction d with
   | nil=>intro p;rfl
   | cons s d ih =>
    intro p;rw[xb,ih];unfold carry
    split
    ·split
     ·rfl
     ·unfold ED.bG ED.aY ED.bK ED.step ED.aY ED.bK
      repeat' split
      all_goals rfl
    ·split
     ·rfl
     ·split<;>rfl
  exact this _ _
 exact⟨fun e j=>by have:=f.evs e j;rw[l] at this;exact this,f.sr,f.sw⟩
def xC (ts:List Thr):Prop:=∀ t∈ts,∀ s∈t.Eb,StV s
theorem kDV:∀ (c:List Thr) (i:Nat) (W:Wd) (f:List Int),xC c->WInv W.Ea->WInv (zPf W (kAi i c) f).Ea
 | [],_,_,_,_,h=>h
 | t::c,i,W,[],_,h=>by simpa [kAi,zPf] using h
 | t::c,i,W,d::f,hv,h=>by
  simp only[kAi,zPf];refine kDV c (i+1) _ f (fun u j=>hv u (xc _ j)) ?_
  split
  ·rename_i g;exact h.join (by omega) (kKe (hv t (by simp)) (x2 g))
  ·exact h
theorem kJV {c:List Thr} (h:xC c) (d:List Int):WInv (zMj (runs c) d).Ea:=kDV c 0 _ d h kFG
theorem WInv.uL {es:List Ev} (h:WInv es):kLO es:=fun i c k=>by have:=(h.var i c (kMo k)).1;omega
theorem WInv.kI {es:List Ev} (h:WInv es):zQ es:=fun i k j l ne _ _ d o=>by
 have p:k<3:=by
  by_cases c:k<3
  ·exact c
  ·exact absurd o (h.rest k (by omega) l)
 by_cases c:i<3
 ·have f:=h.fst i c;have g:=h.fst k p;rw[f,g] at d;simp[zMN] at d;omega
 ·exact⟨by omega,h.rest i (by omega) j⟩
theorem kHR {R:Nat->Nat->Prop} {T:Nat->Nat} (h:∀ a b,R a b->T a<T b) (k:TC R a b):T a<T b:=k (fun a b=>T a<T b) h (fun _ _ _=>x8)
namespace Sys
structure Seq (X:Sys) (T:Nat->Nat):Prop where
 ahead:∀ a b,X.ahead a b->T a<T b
 gathers:∀ a b,X.gathers a b->T a<T b
 rd:∀ a b,X.rd a b->T b<T a
 bh:∀ a b,X.bh a b->T a<T b
 ms:∀ a b,X.misses a b->T a<T b
 halves:∀ a b,X.halves a b->T a=T b+1
 Ef:∀ a b,X.Ef a b->T b<T a
 sends:∀ a b,X.sends a b->T a<=T b
 takes:∀ a b,X.takes a b->T a<=T b
section
variable {X:Sys} {T:Nat->Nat}
theorem Seq.aN (h:X.Seq T) (k:X.aN a b):T b<T a:=by
 rcases k with k | ⟨c,d,f⟩
 ·exact h.rd _ _ k.1
 ·have:=d (fun a b=>T b<T a) (fun x y ⟨z,g,j⟩=>by have:=h.rd _ _ g.1;have:=h.halves _ _ j;omega) (fun _ _ _ p q=>x8 q p);have:=h.rd _ _ f.1;omega
theorem Seq.cP (h:X.Seq T) (k:X.cP a b):T a<T b:=by
 obtain⟨⟨c,⟨d,f,g⟩,j⟩,_⟩:=k;have:=h.sends _ _ f;have:=h.aN g.1;have:=h.takes _ _ j;omega
theorem Seq.before (h:X.Seq T) (k:X.before a b):T a<T b:=kHR (fun x y k=>by
 rcases k with (k | k) | k
 ·exact h.ahead _ _ k
 ·exact h.cP k
 ·exact h.gathers _ _ k) k
theorem Seq.comm (h:X.Seq T) (k:X.comm a b):T a<T b:=by
 rcases k with (k | k) | k
 ·exact h.rd _ _ k
 ·exact h.bh _ _ k
 ·exact h.ms _ _ k
theorem Seq.linked (h:X.Seq T) (k:X.linked a b):T a<T b:=kHR (fun _ _ k=>h.comm k) k
theorem Seq.split (h:X.Seq T) (i:Nat):¬ Th (Th X.halves X.misses) X.bh i i:=fun ⟨w,⟨k,c,d⟩,f⟩=>by
 have:=h.halves _ _ c;have:=h.ms _ _ d;have:=h.bh _ _ f;omega
theorem Seq.may (h:X.Seq T):X.May where
 bef i k:=by have:=h.before k;omega
 split:=h.split
 link i:=fun ⟨c,f,g⟩=>by have:=h.before f;have:=h.linked g;omega
 fence i k:=by
  have:=kHR (T:=T) (fun a b ⟨k,_⟩=>by
   rcases k with k | ⟨c,⟨d,f,g⟩,j⟩
   ·exact h.before k
   ·have:=h.before f;have:=h.linked g;have:=h.before j;omega) k
  omega
theorem Seq.qN (h:X.Seq T):X.mI:=fun i k=>by
 have:=k (fun a b=>T b<T a) (fun x y k=>k.elim (h.Ef _ _) (h.rd _ _)) (fun _ _ _ p q=>x8 q p);omega
theorem Seq.cause (h:X.Seq T) (o:∀ a b,fb a b->T a<T b) (k:X.cause fb a b):T a<T b:=by
 have g:∀ a b,X.cR fb a b->T a<T b:=fun a b k=>by
  rcases k with (k | k) | k
  ·exact h.cP k
  ·exact h.gathers _ _ k
  ·exact o _ _ k
 have j:∀ a b,X.wZ fb a b->T a<T b:=fun a b k=>by
  rcases k with k | ⟨c,d,f⟩
  ·exact g _ _ k
  ·have:=g _ _ d;have:=h.ahead _ _ f;omega
 have l:∀ a b,X.base fb a b->T a<T b:=fun a b k=>kHR (fun x y k=>by
  rcases k with k | ⟨c,d,f⟩
  ·exact j _ _ k
  ·have:=h.ahead _ _ d;have:=j _ _ f;omega) k
 rcases k with (k | k) | ⟨c,d,f⟩
 ·exact l _ _ k
 ·exact h.ahead _ _ k
 ·have:=h.aN d;have:=l _ _ f;omega
theorem Seq.tmay (h:X.Seq T) {f:Nat->Nat->Prop} (l:∀ a b,f a b->T a<T b) (g:∀ a b,fb a b->T a<T b):X.TMay f fb where
 circ i k:=by have:=h.cause g k;omega
 fenc i:=fun ⟨c,d,j⟩=>by have:=g _ _ d;have:=h.cause g j;omega
 back i k:=fun ⟨d,j⟩=>by have:=h.rd _ _ d;have:=h.cause g j;omega
 split:=h.split
 stand i k:=by
  have:=kHR (T:=T) (fun a b k=>k.elim (l _ _) (fun k=>h.comm k.1)) k;omega
 agree i:=fun ⟨c,d,j⟩=>by
  have:=h.cause g j
  rcases d with d | d
  ·have:=h.bh _ _ d;omega
  ·have:=h.ms _ _ d;omega
end
end Sys
theorem kJa {es:List Ev} {B:Nat->Nat->Bool} (u:rs.length=es.length) (h:Ord es rs B):∃ ds∈zMH (zMh es rs),(zMm rs ds).length=es.length/\∀ i k,i<es.length->k<es.length->rs.getD i (-1)≠-1->rs.getD k (-1)=rs.getD i (-1)->((zMm rs ds).getD i 0<(zMm rs ds).getD k 0 ↔ B i k=true):=by
 refine⟨(xR rs.length).map (fun i=>((cB i (B i):Nat):Int)),zH ?_,?_⟩
 ·unfold zMh;refine kGj _ _ _ (fun i d=>?_);refine⟨by omega,?_⟩;unfold iP;have:cB i (B i)<=cB i (iC es rs i):=rP i (fun k f e=>by
   obtain⟨_,_,o,g⟩:=h.same _ _ e;have A:=h.first _ _ e
   unfold iC;simp only[xF,bne_iff_ne,ne_eq,beq_iff_eq];exact⟨⟨g,o.symm⟩,A⟩)
  unfold cB at this ⊢;omega
 ·obtain⟨y,l⟩:=kES u h ((xR rs.length).map (fun i=>((cB i (B i):Nat):Int))) (fun i d=>kFt (fun i=>((cB i (B i):Nat):Int)) rs.length i (by rw[u];exact d)) es.length (x9 _);have z:zMm rs ((xR rs.length).map (fun i=>((cB i (B i):Nat):Int)))=(xR es.length).foldl (fN rs ((xR rs.length).map (fun i=>((cB i (B i):Nat):Int)))) (List.replicate rs.length 0):=by
   unfold zMm;rw[u]
  rw[z];generalize (xR es.length).foldl (fN rs ((xR rs.length).map (fun i=>((cB i (B i):Nat):Int)))) (List.replicate rs.length 0)=p at y l;have c:∀ i k,i<es.length->k<es.length->B i k=true->p.getD i 0<p.getD k 0:=fun i k d f e=>by
   obtain⟨_,_,o,g⟩:=h.same _ _ e;rw[l i d g,l k f (by rw[<- o];exact g)];have:=zA es.length (p:=fun j=>B j i) (q:=fun j=>B j k) (fun j _ D=>h.trans _ _ _ D e) ⟨i,d,e,h.irr i⟩;omega
  refine⟨y,fun i k d f E C=>⟨fun v=>?_,c i k d f⟩⟩;have x:i≠k:=fun e=>by rw[e] at v;omega
  rcases h.total i k d f x C.symm E with e | e
  ·exact e
  ·have:=c k i f d e;omega
structure Timed (es:List Ev) (T:Nat->Nat):Prop where
 thr:∀ i k,3<=i->i<k->k<es.length->(ev es i).thread=(ev es k).thread->T i<T k
 fst:∀ i k,i<3->3<=k->k<es.length->T i<T k
 gat:∀ i k,i<es.length->k<es.length->zMG (ev es i) (ev es k)=true->T i<T k
 half:∀ k,k+1<es.length->(ev es (k+1)).kind=1->(ev es (k+1)).step=true->T (k+1)=T k+1
 inj:∀ i k,i<es.length->k<es.length->i≠k->(ev es i).kind<3->(ev es k).kind<3->T i=T k->False
 kind:∀ i,i<es.length->0<=(ev es i).kind
 rd:∀ k,k<es.length->(ev es k).kind=0->∃ w,w<es.length/\(ev es w).kind=1/\(ev es w).var=(ev es k).var/\(ev es w).value=(ev es k).value/\T w<T k/\∀ u,u<es.length->(ev es u).kind=1->(ev es u).var=(ev es k).var->T u<T k->T u<=T w
 hang:∀ i k:Nat,i<es.length->k<es.length->kAU (ev es i).Ef (k:Int)=true->T k<T i
section
variable {es:List Ev} {T:Nat->Nat}
theorem Timed.ahead (f:WInv es) (h:Timed es T) (j:i<es.length) (g:k<es.length) (e:zMl i (ev es i) k (ev es k)=true):T i<T k:=by
 unfold zMl at e;by_cases c:i<3
 ·rw[f.fst i c] at e;have d:(ev es k).thread≠-1:=by simpa [zMN] using e
  have:3<=k:=by
   by_cases c2:k<3
   ·exact absurd (by rw[f.fst k c2];rfl) d
   ·omega
  exact h.fst i k c this g
 ·have d:=f.rest i (by omega) j;rw[if_neg (by simpa using d)] at e;simp only[xF,beq_iff_eq,decide_eq_true_eq] at e;exact h.thr i k (by omega) (by omega) g e.1
def kIT (es:List Ev) (T:Nat->Nat) (rs:List Int) (i k:Nat):Bool:=decide (i<es.length)&&decide (k<es.length)&&decide (rs.getD i (-1)=rs.getD k (-1))&&decide (rs.getD i (-1)≠-1)&&decide (T i<T k)
theorem kAP:kIT es T rs i k=true ↔ i<es.length/\k<es.length/\rs.getD i (-1)=rs.getD k (-1)/\rs.getD i (-1)≠-1/\T i<T k:=by
 unfold kIT;simp only[xF,decide_eq_true_eq,and_assoc]
theorem kHj (v:∀ i k,i<es.length->k<es.length->i≠k->rs.getD i (-1)=rs.getD k (-1)->rs.getD i (-1)≠-1->T i≠T k) (u:∀ i k,i<es.length->k<es.length->rs.getD i (-1)=rs.getD k (-1)->rs.getD i (-1)≠-1->T i<T k->(ev es k).thread≠-1):Ord es rs (kIT es T rs) where
 same i k e:=by have:=kAP.1 e;exact⟨this.1,this.2.1,this.2.2.1,this.2.2.2.1⟩
 irr i:=by
  cases e:kIT es T rs i i
  ·rfl
  ·have:=kAP.1 e;omega
 trans i j k e1 e2:=by
  obtain⟨d,l,f,g,o⟩:=kAP.1 e1;obtain⟨x,p,q,y,z⟩:=kAP.1 e2;exact kAP.2 ⟨d,p,f.trans q,g,by omega⟩
 total i k h1 h2 hne he hr:=by
  have:=v i k h1 h2 hne he hr;by_cases c:T i<T k
  ·exact xW (kAP.2 ⟨h1,h2,he,hr,c⟩)
  ·exact Or.inr (kAP.2 ⟨h2,h1,he.symm,by rw[<- he];exact hr,by omega⟩)
 first i k e:=by
  obtain⟨d,l,f,g,o⟩:=kAP.1 e;exact u i k d l f g o
theorem CK (i:Nat) (h:i<es.length):(zMg es).getD i (-1)=if kAC (ev es i) then 0 else -1:=by
 simp[zMg,ev,List.getD,List.getElem?_eq_getElem h]
theorem zN (h:i<es.length) (e:(zMg es).getD i (-1)≠-1):kAC (ev es i)=true:=by
 rw[CK i h] at e;by_cases c:kAC (ev es i)=true
 ·exact c
 ·rw[if_neg c] at e;exact absurd rfl e
theorem EW (h:kAC e=true):e.kind=2:=by
 unfold kAC at h;simp at h;exact h.1
end
theorem kIq {T:Nat->Nat} (p:WInv W.Ea) (O:W.Ea.length<=64) (h:Timed W.Ea T):∃ rs∈zMH (kBl (zMf W.Ea)),∃ q∈pI W,∃ fs∈qJ W,(zMv W.Ea).cH ((zMv W.Ea).reads (gB (zMf W.Ea) rs))=false/\sI ⟨W,zMv W.Ea,(zMv W.Ea).reads (gB (zMf W.Ea) rs)⟩ q=true/\tgtMay ⟨W,zMv W.Ea,(zMv W.Ea).reads (gB (zMf W.Ea) rs)⟩ q fs/\∀ (v:Int) (w:Nat),w<W.Ea.length->(ev W.Ea w).kind=1->(ev W.Ea w).var=v->(∀ u,u<W.Ea.length->(ev W.Ea u).kind=1->(ev W.Ea u).var=v->T u<=T w)->jA W.Ea v (kAl W q)=(ev W.Ea w).value:=by
 generalize z:W.Ea=es at p O h ⊢;have L:=p.uL;obtain⟨l,J,S⟩:=kHQ es.length (fun i x=>((ev es i).kind=0->∃ w:Nat,x=(w:Int)/\w<es.length/\(ev es w).kind=1/\(ev es w).var=(ev es i).var/\(ev es w).value=(ev es i).value/\T w<T i/\∀ u,u<es.length->(ev es u).kind=1->(ev es u).var=(ev es i).var->T u<T i->T u<=T w)/\((ev es i).kind≠0->x=-1)) (fun i g=>by
  by_cases c:(ev es i).kind=0
  ·obtain⟨w,p⟩:=h.rd i g c;exact⟨(w:Int),fun _=>⟨w,rfl,p⟩,fun Y=>absurd c Y⟩
  ·exact⟨-1,fun Y=>absurd Y c,fun _=>rfl⟩)
 obtain⟨rs,ab,y⟩:=kEv (zMf es) l (by rw[kDX];exact J) (fun i g=>by
  rw[kDX] at g;have e:(zMf es).getD i []=kE es i:=by
   unfold zMf;rw[x1];simp[g]
  rw[e];unfold kE;by_cases c:(ev es i).kind=0
  ·rw[if_pos (by simpa using c)];obtain⟨w,e,G,H,N,Z,h5,_⟩:=(S i g).1 c;rw[e];refine List.mem_map.2 ⟨w,List.mem_filter.2 ⟨List.mem_range.2 G,?_⟩,rfl⟩;unfold oI;have hs:((ev es i).step&&w==i+1)=false:=by
    cases hs:(ev es i).step
    ·rfl
    ·rw[Bool.true_and,beq_eq_false_iff_ne];intro D;subst D;obtain⟨_,s2⟩:=p.sr i c hs;have:=h.half i G H s2;omega
   rw[hs];simp[H,N,Z]
  ·rw[if_neg (by simpa using c),(S i g).2 c];simp)
 obtain⟨q,I,_,od⟩:=kJa (tP es) (kHj (es:=es) (T:=T) (rs:=aM es) (fun i k g o ne e r D=>by
  obtain⟨j,_⟩:=rL g r;obtain⟨f,_⟩:=rL o (by rw[<- e];exact r);exact h.inj i k g o ne (by omega) (by omega) D) (fun i k g o e r lt U=>by
  obtain⟨j,C⟩:=rL g r;obtain⟨f,B⟩:=rL o (by rw[<- e];exact r);have ne:i≠k:=fun e=>by rw[e] at lt;omega
  obtain⟨f1,f2⟩:=p.kI i k g o ne j f (by rw[<- C,<- B,e]) U;have d:k<3:=by
   by_cases c:k<3
   ·exact c
   ·exact absurd U (p.rest k (by omega) o)
  have i3:3<=i:=by
   by_cases c:i<3
   ·exact absurd (by rw[p.fst i c];rfl) f2
   ·omega
  have:=h.fst k i d i3 g;omega))
 obtain⟨fs,aa,lf,of⟩:=kJa (es:=es) (rs:=zMg es) (by simp[zMg]) (kHj (es:=es) (T:=T) (rs:=zMg es) (fun i k g o ne e r D=>by
  have j:=EW (zN g r);have f:=EW (zN o (by rw[<- e];exact r));exact h.inj i k g o ne (by omega) (by omega) D) (fun i k g o e r lt U=>by
  have f:=EW (zN o (by rw[<- e];exact r));have d:k<3:=by
   by_cases c:k<3
   ·exact c
   ·exact absurd U (p.rest k (by omega) o)
  rw[p.fst k d] at f;simp[zMN] at f))
 have E:∀ i k,i<es.length->k<es.length->(zPE es (zMm (aM es) q) i k=true ↔ (ev es i).kind=1/\(ev es k).kind=1/\(ev es i).var=(ev es k).var/\T i<T k):=fun i k g o=>by
  rw[kEp];constructor
  ·rintro ⟨j,f,d,M⟩;obtain⟨C,B⟩:=tS L g j;have:=kAP.1 ((od i k g o B (by rw[C,(tS L o f).1,d])).1 M);exact⟨j,f,d,this.2.2.2.2⟩
  ·rintro ⟨j,f,d,M⟩;obtain⟨C,B⟩:=tS L g j;have e:(aM es).getD k (-1)=(aM es).getD i (-1):=by rw[C,(tS L o f).1,d]
   exact⟨j,f,d,(od i k g o B e).2 (kAP.2 ⟨g,o,e.symm,B,M⟩)⟩
 have K:∀ a b,(kAG es l (zMm (aM es) q)).rd a b->(ev es a).kind=0/\b<es.length/\(ev es b).kind=1/\(ev es b).var=(ev es a).var/\T b<T a/\∀ u,u<es.length->(ev es u).kind=1->(ev es u).var=(ev es a).var->T u<T a->T u<=T b:=fun a b ⟨hb,ha,e⟩=>by
  by_cases c:(ev es a).kind=0
  ·obtain⟨w,e1,G,H,N,_,h5,h6⟩:=(S a ha).1 c;rw[e1] at e;have:w=b:=by omega
   subst this;exact⟨c,G,H,N,h5,h6⟩
  ·rw[(S a ha).2 c] at e;omega
 have X:(kAG es l (zMm (aM es) q)).Seq T:={
  ahead:=fun a b k=>h.ahead p k.1 k.2.1 k.2.2
  gathers:=fun a b k=>h.gat a b k.1 k.2.1 k.2.2
  rd:=fun a b k=>(K a b k).2.2.2.2.1
  bh:=fun a b k=>((E a b k.1 k.2.1).1 k.2.2).2.2.2
  ms:=fun a b ⟨c,j,f⟩=>by
   obtain⟨G,H,N,Z,h5,h6⟩:=K a c j;obtain⟨g1,g2,g3,g4⟩:=(E c b f.1 f.2.1).1 f.2.2;by_cases c1:T b<T a
   ·have:=h6 b f.2.1 g2 (by rw[<- g3,Z]) c1;omega
   ·have:T a≠T b:=fun e=>h.inj a b j.2.1 f.2.1 (fun D=>by rw[D,g2] at G;omega) (by omega) (by omega) e
    omega
  halves:=fun a b ⟨j,f,d⟩=>by
   unfold zNt at d;simp only[xF,beq_iff_eq] at d;obtain⟨⟨q1,q2⟩,q3⟩:=d;subst q3;exact h.half b j q1 q2
  Ef:=fun a b k=>h.hang a b k.1 k.2.1 k.2.2
  sends:=fun a b ⟨j,f,d⟩=>by
   unfold zOg at d;simp only[x3,xF,beq_iff_eq] at d
   rcases d with d | d
   ·rw[show a=b by omega];exact x9 _
   ·exact Nat.le_of_lt (h.ahead p j f d.1.1)
  takes:=fun a b ⟨j,f,d⟩=>by
   unfold zPm at d;simp only[x3,xF,beq_iff_eq] at d
   rcases d with d | d
   ·rw[show a=b by omega];exact x9 _
   ·exact Nat.le_of_lt (h.ahead p j f d.1.1) }
 have ad:(gB (zMf es) rs).length=es.length:=by rw[y];exact J
 have V:kAl W q=zMm (aM es) q:=by unfold kAl;rw[z]
 refine⟨rs,ab,q,by unfold pI;rw[z];exact I,fs,by unfold qJ;rw[z];exact aa,?_,?_,?_,?_⟩
 ·rw[y];exact (kKg O J (zMm (aM es) q)).2 X.qN
 ·unfold sI;rw[V,y];exact (kLD O J (zMm (aM es) q)).2 X.may
 ·have ac:=(kKY O J (zMm (aM es) q) lf (rd:=(zMv es).reads l) rfl rfl).2 (X.tmay (fun a b k=>by
   obtain⟨j,f,d⟩:=k;unfold isRow at d;simp only[xF] at d;exact h.ahead p j f d.1.1.1) (fun a b k=>by
   obtain⟨j,f,d,M⟩:=k;unfold zMp at d;simp only[xF] at d;have C:(zMg es).getD a (-1)=0:=by rw[CK a j,if_pos d.1.2]
   have B:(zMg es).getD b (-1)=0:=by rw[CK b f,if_pos d.2]
   exact (kAP.1 ((of a b j f (by rw[C];decide) (by rw[C,B])).1 M)).2.2.2.2))
  obtain⟨a1,a2,a3⟩:=ac;refine tgtMay.mk ?_ ?_ ?_
  ·unfold EE.causeAt;rw[z,y];exact a1
  ·rw[V,y,sM];exact a2
  ·unfold EE.causeAt;rw[V,y,sM,z];exact a3
 ·intro v w A kw vw F;rw[V];obtain⟨C,B⟩:=tS L A kw;refine kKy A kw vw ((kIm p.kI I).pos w A B) (fun k o kk kv ne=>?_);have:=F k o kk kv;have ae:T k≠T w:=fun e=>h.inj k w o A ne (by omega) (by omega) e
  exact ((kEp _ _ _).1 ((E k w o A).2 ⟨kk,kw,by rw[kv,vw],by omega⟩)).2.2.2
end Q
end Go.Proofs.YtonodfjdiepglaaGreatDoor
