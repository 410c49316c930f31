import Derived.Test.YtonodfjdiepglaaGreatDoorL42
import Derived.Test.YtonodfjdiepglaaGreatDoorL14
set_option linter.unusedVariables false
set_option linter.unusedSimpArgs false
set_option maxHeartbeats 12800000
namespace Go.Proofs.YtonodfjdiepglaaGreatDoor
open Go Go.RowKit Go.Proofs.Tryz P Q R
set_option maxRecDepth 1000000
variable {i w:Nat} {p:Nat->Bool} {α:Type} {ds fs ps rs:List Int} {B:Nat->Nat->Bool} {v:Int}
open List renaming range→xF,getD_eq_getElem?_getD→x1,foldl_cons→x3,length_cons→x4,mem_cons_of_mem→x5,replicate→x6,length_append→x7,mem_cons→x8,getElem?_eq_getElem→x9,mem_map→xc,length_map→xe,map_cons→xg,mem_flatMap→xh,append_assoc→xi,filter_append→xj,filter_map→xk,mem_nil_iff→xl,flatMap_cons→xm,filter_congr→xn,mem_filter→xo,getElem_of_mem→xq
open Or renaming inl→xR,inr→xW
open Bool renaming and_eq_true→x2,not_eq_true→xd,not_eq_true'→xp
open Nat renaming le_trans→xa,le_refl→xb
namespace Q
def kGc (s:Stm):Bool:=s.kind==2||s.kind==3
theorem kEG (m:ED) (d v:Int) (s:Nat):(m.bK d v s).Ea=m.Ea:=by unfold ED.bK;split<;>rfl
theorem EY (m:ED) (d:Int) (r:Nat):(m.aY d r).Ea=m.Ea:=kEG _ _ _ _
theorem FO (m:ED) (d v:Int) (s:Nat):(m.bK d v s).regs.length=m.regs.length:=by unfold ED.bK;split<;>simp
def kDK (m:ED) (st:Stm):List Ev :=
 if st.kind==0 then [{ m.event 0 st with value:=(m.unread % 4:Nat) }]
 else if st.kind==1 then [{ m.event 1 st with value:=m.value st.a,Ef:=m.Ee ||| m.Ed st.a }]
 else if st.kind==2 then [{ m.event 0 st with value:=(m.unread % 4:Nat) },{ m.event 1 st with value:=(m.value st.a+(m.aU st).aV m.Ea.length) % 4,Ef:=m.Ee ||| (m.Ed st.a ||| cY (m.Ea.length:Nat)) }]
 else if st.kind==3 then [{ m.event 0 st with value:=(m.unread % 4:Nat) },{ m.event 1 st with value:=m.value st.a,Ef:=m.Ee ||| m.Ed st.a }]
 else if st.kind==4 then [m.event 2 st]
 else if st.kind==5 then [m.event 3 st,m.event 4 st]
 else []
theorem kHu (m:ED) (a:Stm):(m.bG a).Ea=m.Ea++kDK m a:=by
 unfold ED.bG kDK;by_cases h0:(a.kind==0)=true
 ·rw[if_pos h0,if_pos h0,EY];rfl
 rw[if_neg h0,if_neg h0];by_cases h1:(a.kind==1)=true
 ·rw[if_pos h1,if_pos h1];rfl
 rw[if_neg h1,if_neg h1];by_cases h2:(a.kind==2)=true
 ·rw[if_pos (by rw[h2];rfl),if_pos h2];unfold ED.step;rw[if_pos h2,EY];show (m.Ea++[_])++[_]=_;rw[xi];rfl
 rw[if_neg h2];by_cases h3:(a.kind==3)=true
 ·rw[if_pos (by rw[h3];simp),if_pos h3];unfold ED.step;rw[if_neg h2,EY];show (m.Ea++[_])++[_]=_;rw[xi];rfl
 rw[if_neg (by simp only[xd] at h2 h3;rw[h2,h3];simp),if_neg h3];by_cases h4:(a.kind==4)=true
 ·rw[if_pos h4,if_pos h4];rfl
 rw[if_neg h4,if_neg h4];by_cases h5:(a.kind==5)=true
 ·rw[if_pos h5,if_pos h5];rfl
 rw[if_neg h5,if_neg h5]
 split
 ·rw[kEG];simp
 ·simp
def kCU (p:ED × Nat) (st:Stm):List Ev:=if p.2==0 then (if st.kind==10 then [] else kDK p.1 st) else []
theorem kCb (p:ED × Nat) (a:Stm):(carry p a).1.Ea=p.1.Ea++kCU p a:=by
 unfold carry kCU
 split
 ·split
  ·simp[ED.kV]
  ·exact kHu _ _
 ·split
  ·simp
  ·split<;>simp
theorem kKZ (m:ED) (a:Stm):((kDK m a).length:Int)<=(if nE a then 1 else 0)+((if kGc a then 1 else 0)+(if a.kind==5 then 1 else 0)):=by
 unfold kDK nE kGc;by_cases h0:a.kind=0
 ·simp[h0]
 by_cases h1:a.kind=1
 ·simp[h1]
 by_cases h2:a.kind=2
 ·simp[h2]
 by_cases h3:a.kind=3
 ·simp[h3]
 by_cases h4:a.kind=4
 ·simp[h4]
 by_cases h5:a.kind=5
 ·simp[h5]
 simp[h0,h1,h2,h3,h4,h5]
 split<;>omega
theorem kJT (p:ED × Nat) (a:Stm):((kCU p a).length:Int)<=(if nE a then 1 else 0)+((if kGc a then 1 else 0)+(if a.kind==5 then 1 else 0)):=by
 have:=kKZ p.1 a;have b:(0:Int)<=(if nE a then 1 else 0)+((if kGc a then 1 else 0)+(if a.kind==5 then 1 else 0)):=by
  (repeat' split)<;>omega
 unfold kCU
 split
 ·split
  ·simpa using b
  ·exact this
 ·simpa using b
theorem kLj (m:ED) (a:Stm):(((kDK m a).filter kAC).length:Int)<=if P.isF a then 1 else 0:=by
 unfold kDK P.isF;by_cases h0:a.kind=0
 ·simp[h0,kAC,ED.event]
 by_cases h1:a.kind=1
 ·simp[h1,kAC,ED.event]
 by_cases h2:a.kind=2
 ·simp[h2,kAC,ED.event]
 by_cases h3:a.kind=3
 ·simp[h3,kAC,ED.event]
 by_cases h4:a.kind=4
 ·by_cases h5:a.order=5
  ·simp[h4,h5,kAC,ED.event]
  ·simp[h4,h5,kAC,ED.event]
 by_cases h5:a.kind=5
 ·simp[h5,kAC,ED.event]
 simp[h0,h1,h2,h3,h4,h5]
theorem kKv (p:ED × Nat) (a:Stm):(((kCU p a).filter kAC).length:Int)<=if P.isF a then 1 else 0:=by
 have:=kLj p.1 a;have b:(0:Int)<=if P.isF a then 1 else 0:=by split<;>omega
 unfold kCU
 split
 ·split
  ·simpa using b
  ·exact this
 ·simpa using b
theorem kHC:∀ (a:List Stm) (p:ED × Nat),((a.foldl carry p).1.Ea.length:Int)<=p.1.Ea.length+(cnt nE a+(cnt kGc a+bars a))
 | [],p=>by simp[cnt,bars]
 | s::a,p=>by
  rw[x3];have b:=kHC a (carry p s);have c:=kJT p s;rw[kCb,x7] at b;simp only[cnt,bars];push_cast at b;omega
theorem kJi:∀ (a:List Stm) (p:ED × Nat),(((a.foldl carry p).1.Ea.filter kAC).length:Int)<=(p.1.Ea.filter kAC).length+cnt P.isF a
 | [],p=>by simp[cnt]
 | s::a,p=>by
  rw[x3];have b:=kJi a (carry p s);have c:=kKv p s;rw[kCb,xj,x7] at b;simp only[cnt];push_cast at b;omega
theorem kIW:∀ (a:List Stm) (p:ED × Nat) (n:Nat),(∀ s∈a,kCY s)->p.1.Ok n->(a.foldl carry p).1.Ok (n+a.length)
 | [],p,n,_,h=>h
 | s::a,p,n,hs,h=>by
  rw[x3,x4,show n+(a.length+1)=n+1+a.length by omega];exact kIW a _ _ (fun x b=>hs x (x5 _ b)) (CQ h (hs s (by simp)))
theorem kJo (m:ED) (a:Stm):(m.bG a).regs.length=m.regs.length:=by
 unfold ED.bG ED.aY ED.step ED.aY
 split
 ·rw[FO];rfl
 split
 ·rfl
 split
 ·rw[FO];split<;>rfl
 split
 ·rfl
 split
 ·rfl
 split
 ·rw[FO]
 ·rfl
theorem kIu (p:ED × Nat) (a:Stm):(carry p a).1.regs.length=p.1.regs.length:=by
 unfold carry
 split
 ·split
  ·rfl
  ·exact kJo _ _
 ·split
  ·rfl
  ·split<;>rfl
theorem kGk:∀ (a:List Stm) (p:ED × Nat),(a.foldl carry p).1.regs.length=p.1.regs.length
 | [],p=>rfl
 | s::a,p=>by rw[x3,kGk a,kIu]
structure RunOk (r:Run) (t:Thr):Prop where
 regs:r.regs.length=4
 vals:∀ x∈r.regs,0<=x/\x<4
 evs:∀ e∈r.Ea,0<=e.value/\e.value<4/\e.Ef<M64
 len:(r.Ea.length:Int)<=cnt nE t.Eb+(cnt kGc t.Eb+bars t.Eb)
 sc:((r.Ea.filter kAC).length:Int)<=cnt P.isF t.Eb
theorem kGb:∀ (a:List Stm) (c:Nat),((a.foldl (fun c b=>if reads b.kind then c*4 else c) c:Nat):Int)=c*4 ^ (cnt P.isR a).toNat
 | [],c=>by simp[cnt]
 | s::a,c=>by
  rw[x3,kGb a];have d:=(oD P.isR a).1;simp only[cnt];have e:P.isR s=reads s.kind:=rfl;rw[e]
  cases hr:reads s.kind
  ·simp
  ·simp only[if_true];rw[show (1+cnt P.isR a).toNat=(cnt P.isR a).toNat+1 by omega,Int.pow_succ];push_cast;rw[Int.mul_comm (4 ^ _) 4,Int.mul_assoc]
theorem kHl (a:List Stm):kBm a=4 ^ (cnt P.isR a).toNat:=by
 have:=kGb a 1;unfold kBm;have b:((4 ^ (cnt P.isR a).toNat:Nat):Int)=4 ^ (cnt P.isR a).toNat:=by push_cast;rfl
 rw[<- Int.natCast_inj,this,b];simp
theorem kKE {t:Thr} (j:∀ s∈t.Eb,kCY s) (k:kBm t.Eb<1000000000) {r:Run} (h:r∈zOD t i):RunOk r t:=by
 unfold zOD zNs at h;obtain⟨c,a,rfl⟩:=List.mem_map.1 h;have g:c<kBm t.Eb:=by simpa using (List.mem_filter.1 a).1
 have b:=kIW t.Eb (ED.start i t.block c,0) 0 j (CA _ _ _ (by omega));have d:=kHC t.Eb (ED.start i t.block c,0);have e:=kJi t.Eb (ED.start i t.block c,0);have f:=kGk t.Eb (ED.start i t.block c,0);simp only[ED.start,List.filter_nil,List.length_nil] at d e;exact⟨f,b.regs,b.evs,by simp only[kBs,zOl,ED.run];simp only[ED.start];push_cast at d;omega,by simp only[kBs,zOl,ED.run];simp only[ED.start];push_cast at e;omega⟩
structure WI (w:Wd) (E S R:Int):Prop where
 pos:0<w.Ea.length
 len:(w.Ea.length:Int)<=E
 sc:((w.Ea.filter kAC).length:Int)<=S
 regs:(w.regs.length:Int)=R
 vals:∀ x∈w.regs,0<=x/\x<4
 evs:∀ e∈w.Ea,0<=e.value/\e.value<4/\e.Ef<M64
theorem kLu (n:Nat) (l:List Ev):((l.map (zNI n)).filter kAC).length=(l.filter kAC).length:=by
 rw[xk,xe];rfl
theorem kKx:WI ⟨zNn,[]⟩ 3 0 0:=by
 refine⟨by decide,by decide,by decide,by decide,fun x b=>by simp at b,fun e a=>?_⟩;simp only[zNn,x8,xl,or_false] at a
 rcases a with rfl | rfl | rfl<;>exact⟨by decide,by decide,by decide⟩
theorem kKk {p:Stm->Bool}:∀ {l:List Thr} {t:Thr},t∈l->cnt p t.Eb<=tot p l
 | u::l,t,h=>by
  have a:0<=tot p l:=by
   clear h
   induction l with
   | nil=>simp[tot]
   | cons v l ih=>simp only[tot];have:=(oD p v.Eb).1;omega
  simp only[tot]
  rcases List.mem_cons.1 h with rfl | h
  ·omega
  ·have:=kKk (p:=p) h;have:=(oD p u.Eb).1;omega
theorem kDr:∀ (b:Int) (a:List Int),(zMH (b::a)).length=(zMH a).length*b.toNat:=by
 intro b a;simp only[zMH]
 induction zMH a with
 | nil=>simp
 | cons r l ih=>rw[xm,x7,ih,x4,Nat.add_mul];simp;omega
theorem kGw (g:Nat->Int) (p:Nat->Bool) (c:Nat) (d:0<c):∀ (L:List Nat),(∀ i∈L,g i<=c/\(p i=false->g i=1))->(zMH (L.map g)).length<=c ^ (L.filter p).length
 | [],_=>by simp[zMH]
 | i::L,h=>by
  rw[xg,kDr];have a:=kGw g p c d L (fun j e=>h j (x5 _ e));have b:=h i (by simp);rw[List.filter_cons]
  cases hp:p i
  ·simp only[Bool.false_eq_true,if_false];rw[b.2 hp];simpa using a
  ·simp only[if_true,x4];rw[Nat.pow_succ];exact Nat.mul_le_mul a (by omega)
theorem kGq (p:Ev->Bool) (es:List Ev) (i:Nat) (h:i<=es.length):((xF i).filter fun k=>p (ev es k)).length<=(es.filter p).length:=by
 have b:(xF es.length).map (ev es)=es:=by
  refine List.ext_getElem (by simp) fun k d a=>?_
  simp only[List.getElem_map,List.getElem_range,ev];simp[List.getD,x9 a]
 have c:(es.filter p).length=((xF es.length).filter fun k=>p (ev es k)).length:=by
  conv=>lhs;rw[<- b]
  rw[xk,xe];rfl
 rw[c];exact List.Sublist.length_le (List.Sublist.filter _ (List.range_sublist.2 h))
theorem kMn {es:List Ev} (h:(es.filter kAC).length<=3):(zMH (zMh es (zMg es))).length<=64:=by
 unfold zMh;have j:(zMg es).length=es.length:=by simp[zMg]
 have e:∀ k,k<es.length->(zMg es).getD k (-1)=if kAC (ev es k) then 0 else -1:=fun k b=>by
  simp[zMg,ev,List.getD,x9 b]
 have f:=kGw (iP es (zMg es)) (fun i=>kAC (ev es i)) 4 (by omega) (xF (zMg es).length) (fun i c=>by
  have c:i<es.length:=by simpa [j] using c
  have a:(xF i).filter (iC es (zMg es) i)=(xF i).filter (fun k=>kAC (ev es i)&&(kAC (ev es k)&&(ev es k).thread != -1)):=by
   refine xn fun k b=>?_
   have b:k<i:=by simpa using b
   unfold iC;rw[e i c,e k (by omega)]
   cases kAC (ev es i)<;>cases kAC (ev es k)<;>simp
  have l:((xF i).filter (iC es (zMg es) i)).length<=(es.filter kAC).length:=by
   rw[a];refine xa ?_ (kGq kAC es i (by omega));refine List.Sublist.length_le ?_;rw[show (xF i).filter (fun k=>kAC (ev es i)&&(kAC (ev es k)&&(ev es k).thread != -1))=((xF i).filter fun k=>kAC (ev es k)).filter (fun k=>kAC (ev es i)&&(ev es k).thread != -1) by rw[List.filter_filter];exact xn fun k _=>by cases kAC (ev es i)<;>cases kAC (ev es k)<;>simp];exact List.filter_sublist
  refine⟨by unfold iP;omega,fun d=>?_⟩;have d:kAC (ev es i)=false:=d;unfold iP;rw[a,d,show (xF i).filter (fun k=>false&&(kAC (ev es k)&&(ev es k).thread != -1))=[] from List.filter_eq_nil_iff.2 (fun _ _=>by simp)];rfl)
 refine xa f ?_;have g:((xF (zMg es).length).filter fun i=>kAC (ev es i)).length<=3:=xa (kGq kAC es _ (by omega)) h;exact xa (Nat.pow_le_pow_right (by omega) g) (by decide)
theorem kCR:∀ {a:List Thr} {i:Nat} {rs:List Run},rs∈kAi i a->∃ t∈a,∃ k,rs=zOD t k
 | t::a,i,rs,h=>by
  simp only[kAi] at h
  rcases List.mem_cons.1 h with rfl | h
  ·exact⟨t,by simp,i,rfl⟩
  ·obtain⟨u,b,k,e⟩:=kCR h;exact⟨u,x5 _ b,k,e⟩
theorem kFw (t:Thr) (i:Nat):(zOD t i).length<=kBm t.Eb:=by
 unfold zOD zNs;rw[xe];exact xa (List.length_filter_le _ _) (by simp)
theorem BY {r y:List Int}:∀ {l:List (List Int)},y∈eW l r ↔ y=r\/y∈l
 | []=>by simp[eW]
 | x::l=>by
  rw[eW]
  split
  ·rw[x8,BY (l:=l),x8];constructor
   ·rintro (h | h | h)
    ·exact xW (xR h)
    ·exact xR h
    ·exact xW (xW h)
   ·rintro (h | h | h)
    ·exact xW (xR h)
    ·exact xR h
    ·exact xW (xW h)
  ·split
   ·rename_i a;have b:x=r:=kKR (by simpa using a);rw[b];constructor
    ·exact fun h=>xW h
    ·rintro (h | h)
     ·rw[h];simp
     ·exact h
   ·rw[x8]
theorem rU {α:Type} (F:Ans->α->Ans) (c:α->List Int->Prop) (d:∀ a x r,r∈(F a x).rows ↔ r∈a.rows\/c x r) (r:List Int):∀ (l:List α) (a:Ans),r∈(l.foldl F a).rows ↔ r∈a.rows\/∃ x∈l,c x r
 | [],a=>by simp
 | x::l,a=>by
  rw[x3,rU F c d r l,d];constructor
  ·rintro ((h | h) | ⟨y,b,h⟩)
   ·exact xR h
   ·exact xW ⟨x,by simp,h⟩
   ·exact xW ⟨y,x5 _ b,h⟩
  ·rintro (h | ⟨y,b,h⟩)
   ·exact xR (xR h)
   ·rcases List.mem_cons.1 b with rfl | b
    ·exact xR (xW h)
    ·exact xW ⟨y,b,h⟩
def pI (w:Wd):List (List Int):=zMH (zMh w.Ea (aM w.Ea))
def kAl (w:Wd) (ds:List Int):List Int:=zMm (aM w.Ea) ds
def sI (c:Cand) (ds:List Int):Bool:=c.facts.kB c.reads (c.facts.before c.reads) (kAl c.wd ds)
theorem kHz (d:List Thr) (r:List Int):r∈(xK d).rows ↔ ∃ c∈pA d,∃ ds∈pI c.wd,sI c ds=true/\r=gK c.wd (kAl c.wd ds):=by
 unfold xK;rw[rU zU (fun c r=>∃ ds∈pI c.wd,sI c ds=true/\r=gK c.wd (kAl c.wd ds)) ?_ r]
 ·simp
 ·intro a c r;unfold zU kGl;rw[rU (DO c.wd c.facts c.reads (c.facts.before c.reads)) (fun ds r=>sI c ds=true/\r=gK c.wd (kAl c.wd ds)) ?_ r]
  ·rfl
  ·intro a ds r;unfold DO sI kAl
   split
   ·rename_i h;rw[BY];constructor
    ·rintro (b | b)
     ·exact xW ⟨h,b⟩
     ·exact xR b
    ·rintro (b | b)
     ·exact xW b
     ·exact xR b.2
   ·rename_i h;constructor
    ·exact xR
    ·rintro (b | b)
     ·exact b
     ·exact absurd b.1 h
theorem xU {α:Type} (F:Ans->α->Ans) (b:∀ a x,zPb a.rows->zPb (F a x).rows):∀ (l:List α) (a:Ans),zPb a.rows->zPb (l.foldl F a).rows
 | [],a,h=>h
 | x::l,a,h=>by rw[x3];exact xU F b l _ (b a x h)
theorem kGA {b:List Thr} {c:Cand}:c∈pA b ↔ ∃ d∈zMH (zBh (runs b)),∃ rs∈zMH (kBl (zMf (zMj (runs b) d).Ea)),c=⟨zMj (runs b) d,zMv (zMj (runs b) d).Ea,(zMv (zMj (runs b) d).Ea).reads (gB (zMf (zMj (runs b) d).Ea) rs)⟩/\c.facts.cH c.reads=false:=by
 unfold pA uI;simp only[xh,xo,xc,xp];constructor
 ·rintro ⟨d,e,⟨⟨rs,a,rfl⟩,h⟩⟩;exact⟨d,e,rs,a,rfl,h⟩
 ·rintro ⟨d,e,rs,a,rfl,h⟩;exact⟨d,e,⟨⟨rs,a,rfl⟩,h⟩⟩
theorem kGs {α:Type} [DecidableEq α]:∀ (l m:List α),l.Nodup->(∀ x∈l,x∈m)->l.length<=m.length
 | [],m,_,_=>by simp
 | x::l,m,h,hs=>by
  have a:=hs x (by simp);have c:=kGs l (m.erase x) (List.nodup_cons.1 h).2 (fun y b=>(List.mem_erase_of_ne (fun e:y=x=>(List.nodup_cons.1 h).1 (by rw[<- e];exact b))).2 (hs y (x5 _ b)));have d:=List.length_erase_of_mem a;have f:=List.length_pos_of_mem a;simp only[x4];omega
theorem kHi {l:List (List Int)} (h:zPb l):l.Nodup:=by
 refine List.Pairwise.imp ?_ h;intro a b c e;rw[e,kHn] at c;omega
theorem kFC:∀ (a:List Thr) (i:Nat),(zMH (zBh (kAi i a))).length<=4 ^ (tot P.isR a).toNat
 | [],i=>by simp[kAi,zBh,zMH,tot]
 | t::a,i=>by
  simp only[kAi,zBh,xg];rw[kDr];have b:=kFC a (i+1);have c:=kFw t i;rw[kHl] at c;have e:=(oD P.isR t.Eb).1;have d:0<=tot P.isR a:=by
   clear b
   induction a with
   | nil=>simp[tot]
   | cons v l ih=>simp only[tot];have:=(oD P.isR v.Eb).1;omega
  simp only[tot];rw[show (cnt P.isR t.Eb+tot P.isR a).toNat=(tot P.isR a).toNat+(cnt P.isR t.Eb).toNat by omega,Nat.pow_add];exact Nat.mul_le_mul b (by simpa using c)
def sO:List Int:=[0,1,2,3]
theorem kFz {x:Int} (h:0<=x/\x<4):x∈sO:=by
 simp only[sO,x8,xl,or_false];omega
def kEM (ts:List Thr):List (List Int):=(zMH (zBh (runs ts))).flatMap fun d=>sO.flatMap fun a=>sO.flatMap fun b=>sO.map fun c=>(zMj (runs ts) d).regs++[a,b,c]
theorem xB {α β:Type} (f:α->List β) (n:Nat) (h:∀ a,(f a).length=n):∀ l:List α,(l.flatMap f).length=l.length*n
 | []=>by simp
 | a::l=>by rw[xm,x7,xB f n h l,h,x4,Nat.succ_mul];omega
theorem kHE (c:List Thr):(kEM c).length=(zMH (zBh (runs c))).length*64:=by
 unfold kEM;refine xB _ _ (fun d=>?_) _;rw[xB _ 16 (fun a=>?_)]
 ·rfl
 ·rw[xB _ 4 (fun b=>?_)]
  ·rfl
  ·simp[sO]
theorem kBj:∀ {a ds:List Int},ds∈zMH a->kAy a ds
 | [],ds,h=>by simp[zMH] at h;rw[h];trivial
 | b::a,ds,h=>by
  simp only[zMH,xh,xc,List.mem_range] at h;obtain⟨r,c,d,e,rfl⟩:=h;exact⟨by omega,by omega,kBj c⟩
theorem kED (es:List Ev) (i:Nat) (h:i<es.length):ev es i=es[i]:=by
 unfold ev;rw[x1,x9 h];rfl
theorem kBQ (es:List Ev) (i:Nat) (h:es.length<=i):ev es i=Ev.zero:=by
 unfold ev;rw[x1,List.getElem?_eq_none h];rfl
theorem kAF (es fs:List Ev) (i:Nat):ev (es++fs) i=if i<es.length then ev es i else ev fs (i-es.length):=by
 unfold ev;rw[x1,x1,x1,List.getElem?_append]
 split<;>rfl
theorem kDg (g:Ev->Ev) (es:List Ev) (i:Nat):ev (es.map g) i=if i<es.length then g (ev es i) else Ev.zero:=by
 by_cases h:i<es.length
 ·rw[if_pos h,kED _ _ (by simpa using h),kED _ _ h];simp
 ·rw[if_neg h,kBQ _ _ (by simpa using h)]
section
variable {es es':List Ev}
end
theorem kDX (es:List Ev):(zMf es).length=es.length:=by simp[zMf]
namespace Sys
def cR (X:Sys) (fb:Nat->Nat->Prop) (a b:Nat):Prop:=(X.cP a b\/X.gathers a b)\/fb a b
def wZ (X:Sys) (fb:Nat->Nat->Prop) (a b:Nat):Prop:=X.cR fb a b\/Th (X.cR fb) X.ahead a b
def base (X:Sys) (fb:Nat->Nat->Prop):Nat->Nat->Prop:=TC (fun a b=>X.wZ fb a b\/Th X.ahead (X.wZ fb) a b)
def cause (X:Sys) (fb:Nat->Nat->Prop) (a b:Nat):Prop:=(X.base fb a b\/X.ahead a b)\/Th (fun a b=>X.aN b a) (X.base fb) a b
structure TMay (X:Sys) (rows fb:Nat->Nat->Prop):Prop where
 circ:∀ i,¬ X.cause fb i i
 fenc:∀ i,¬ Th fb (X.cause fb) i i
 back:∀ i k,¬ (X.rd i k/\X.cause fb i k)
 split:∀ i,¬ Th (Th X.halves X.misses) X.bh i i
 stand:∀ i,¬ TC (fun a b=>rows a b\/(X.comm a b/\X.strong a b)) i i
 agree:∀ i,¬ Th (fun a b=>X.bh a b\/X.misses a b) (X.cause fb) i i
end Sys
def kLN (es:List Ev) (i k:Nat):Prop:=i<es.length/\k<es.length/\isRow i (ev es i) k (ev es k)=true
def pK (es:List Ev) (fs:List Int) (i k:Nat):Prop:=i<es.length/\k<es.length/\zMp i (ev es i) k (ev es k)=true/\fs.getD i 0<fs.getD k 0
theorem Says.vC {n:Nat} {r:List Nat} {R:Nat->Nat->Prop} (c:Says n r R):dH r=true ↔ ∃ i k,R i k:=by
 unfold dH;rw[List.any_eq_true];constructor
 ·rintro ⟨x,e,h⟩;obtain⟨i,b,rfl⟩:=xq e;obtain⟨k,d⟩:=Nat.exists_testBit_of_ne_zero (by simpa using h);exact⟨i,k,(c.bit i k).1 (by unfold Bit;rw[lV _ _ b];exact d)⟩
 ·rintro ⟨i,k,h⟩;have a:=(c.bit i k).2 h;have b:=a.left;refine⟨r[i],List.getElem_mem b,?_⟩;unfold Bit at a;rw[lV _ _ b] at a
  cases h0:r[i] with
  | zero=>rw[h0] at a;simp at a
  | succ m=>rfl
section
variable {es:List Ev} {rs:List Int}
theorem kIX (g:es.length<=64) (j:fs.length=es.length):Says es.length ((zMv es).Eg fs) (pK es fs):=by
 have h:=AK g (fun i k=>bR (zMv es).fences (i:Int) (k:Int)&&decide (fs.getD i 0<fs.getD k 0)) (nS (zMv es).fences fs) (fun r i=>by unfold nS;rw[j];rfl);have e:(zMv es).Eg fs=(xF es.length).foldl (nS (zMv es).fences fs) (aS es.length):=by unfold EE.Eg;rw[j,sM]
 rw[e];refine⟨h.1,fun a b=>?_⟩;rw[h.2];unfold pK;constructor
 ·rintro ⟨d,f,c⟩;rw[x2,decide_eq_true_eq] at c;exact⟨d,f,(((yT g).2 a b).1 ((lA _ a b (by omega)).1 c.1)).2.2,c.2⟩
 ·rintro ⟨d,f,c,l⟩;refine⟨d,f,?_⟩;rw[x2,decide_eq_true_eq];exact⟨(lA _ a b (by omega)).2 (((yT g).2 a b).2 ⟨d,f,c⟩),l⟩
theorem kIf (a:es.length<=64) (f:rs.length=es.length) (ps:List Int) (g:fs.length=es.length):Says es.length ((zMv es).cause ((zMv es).aN ((zMv es).reads rs)) (cS ((zMv es).cR ((zMv es).reads rs)) ((zMv es).Eg fs))) ((kAG es rs ps).cause (pK es fs)):=by
 have b:Says es.length (zMv es).ahead (kAG es rs ps).ahead:=⟨(xI a).1,(xI a).2⟩;have e:Says es.length (cS ((zMv es).cR ((zMv es).reads rs)) ((zMv es).Eg fs)) ((kAG es rs ps).cR (pK es fs)) :=
  ((kFe a f ps).or (O:=(kAG es rs ps).gathers) ⟨(yY a).1,(yY a).2⟩).or (kIX a g)
 have c:Says es.length _ ((kAG es rs ps).wZ (pK es fs)):=e.or (e.gX a b);have d:Says es.length (yC (zMv es).ahead (cS ((zMv es).cR ((zMv es).reads rs)) ((zMv es).Eg fs))) ((kAG es rs ps).base (pK es fs)):=(c.or (b.gX a c)).cl a;exact (d.or b).or (((DR a f ps).jI a).gX a d)
theorem kKY (c:es.length<=64) (r:rs.length=es.length) (ps:List Int) (q:fs.length=es.length) {rd cs:List Nat} (A:rd=(zMv es).reads rs) (C:cs=(zMv es).cause ((zMv es).aN rd) (cS ((zMv es).cR rd) ((zMv es).Eg fs))) :
  (zMY rd cs ((zMv es).Eg fs)=true/\(zMv es).mayStand rd (zMT es ps) (kAg rd (zMT es ps))=true/\zPF cs (zMT es ps) (kAg rd (zMT es ps))=true) ↔ (kAG es rs ps).TMay (kLN es) (pK es fs):=by
 subst A;have g:=kIf c r ps q;rw[<- C] at g;have d:Says es.length (zMT es ps) (kAG es rs ps).bh:=yZ c ps;have f:=tI c r ps;have e:Says es.length _ (kAG es rs ps).misses:=f.gX c d;have n:Says es.length (rM ((zMv es).reads rs) (zMT es ps) (kAg ((zMv es).reads rs) (zMT es ps))) (kAG es rs ps).comm:=((f.jI c).or d).or e;have s:=lT (g.eY c);have t:=lT (((kIX c q).gX c g).eY c);have u:=lT ((f.and g).vC);have x:=lT (((Says.gX c (FL (rs:=rs) c ps) e).gX c d).eY c);have y:=lT ((Says.or (R:=kLN es) ⟨(kKD c).1,(kKD c).2⟩ (n.and (O:=(kAG es rs ps).strong) ⟨(sF c).1,(sF c).2⟩)).gR c);have z:=lT (((d.or e).gX c g).eY c);unfold zMY EE.mayStand zPF EE.dX;constructor
 ·rintro ⟨j,l,o⟩
  split at j
  ·cases j
  rename_i a
  split at l
  ·cases l
  rename_i b;rw[xd,Bool.or_eq_false_iff] at a;rw[xd] at b;rw[xp] at j l o;exact⟨fun i h=>s.1 a.1 ⟨i,h⟩,fun i h=>t.1 a.2 ⟨i,h⟩,fun i k h=>u.1 j ⟨i,k,h⟩,fun i h=>x.1 b ⟨i,h⟩,fun i h=>y.1 l ⟨i,h⟩,fun i h=>z.1 o ⟨i,h⟩⟩
 ·intro m;rw[s.2 (fun ⟨i,h⟩=>m.circ i h),t.2 (fun ⟨i,h⟩=>m.fenc i h),u.2 (fun ⟨i,k,h⟩=>m.back i k h),x.2 (fun ⟨i,h⟩=>m.split i h),y.2 (fun ⟨i,h⟩=>m.stand i h),z.2 (fun ⟨i,h⟩=>m.agree i h)];exact⟨rfl,rfl,rfl⟩
end
def qJ (w:Wd):List (List Int):=zMH (zMh w.Ea (zMg w.Ea))
structure tgtMay (c:Cand) (ds fs:List Int):Prop where
 cause:zMY c.reads (c.facts.causeAt c.reads c.wd fs) (c.facts.Eg (zMm (zMg c.wd.Ea) fs))=true
 stand:c.facts.mayStand c.reads (zMT c.facts.Ea (kAl c.wd ds)) (kAg c.reads (zMT c.facts.Ea (kAl c.wd ds)))=true
 agree:zPF (c.facts.causeAt c.reads c.wd fs) (zMT c.facts.Ea (kAl c.wd ds)) (kAg c.reads (zMT c.facts.Ea (kAl c.wd ds)))=true
theorem EU (f:EE) (b:List Nat) (w:Wd) (x:List Nat):x∈f.bU b w ↔ ∃ fs∈qJ w,zMY b (f.causeAt b w fs) (f.Eg (zMm (zMg w.Ea) fs))=true/\x=f.causeAt b w fs:=by
 unfold EE.bU qJ;simp only[xc,xo];exact⟨fun ⟨a,⟨c,d⟩,e⟩=>⟨a,c,d,e.symm⟩,fun ⟨a,c,d,e⟩=>⟨a,⟨c,d⟩,e.symm⟩⟩
theorem kET (w:Wd) (f:EE) (c:List Nat) (cs:List (List Nat)) (ds:List Int) (a:Ans) (r:List Int):r∈(iV w f c cs a ds).rows ↔ r∈a.rows\/(f.mayStand c (zMT f.Ea (kAl w ds)) (kAg c (zMT f.Ea (kAl w ds)))=true/\∃ x∈cs,zPF x (zMT f.Ea (kAl w ds)) (kAg c (zMT f.Ea (kAl w ds)))=true/\r=gK w (kAl w ds)):=by
 unfold iV;rw[show zMm (aM w.Ea) ds=kAl w ds from rfl];generalize kAl w ds=ps;generalize gK w ps=o;generalize zMT f.Ea ps=d;generalize kAg c d=e
 split
 ·rename_i h;rw[rU (jL o f d e) (fun x r=>zPF x d e=true/\r=o) (fun a x r=>?_) r]
  ·simp[h]
  ·unfold jL
   split
   ·rename_i b;rw[BY];exact⟨fun h=>h.elim (fun h=>xW ⟨b,h⟩) xR,fun h=>h.elim xW (fun h=>xR h.2)⟩
   ·rename_i b;exact⟨xR,fun h=>h.elim id (fun h=>absurd h.1 b)⟩
 ·rename_i h;exact⟨xR,fun b=>b.elim id (fun g=>absurd g.1 h)⟩
theorem kEz (m:List Thr) (r:List Int):r∈(kAp m).rows ↔ ∃ c∈pA m,∃ ds∈pI c.wd,∃ fs∈qJ c.wd,tgtMay c ds fs/\r=gK c.wd (kAl c.wd ds):=by
 unfold kAp;rw[rU iQ (fun c r=>∃ ds∈pI c.wd,∃ fs∈qJ c.wd,tgtMay c ds fs/\r=gK c.wd (kAl c.wd ds)) ?_ r]
 ·simp
 ·intro a c r;have k:r∈(pH c.wd c.facts c.reads (c.facts.bU c.reads c.wd) a).rows ↔ r∈a.rows\/∃ ds∈pI c.wd,∃ fs∈qJ c.wd,tgtMay c ds fs/\r=gK c.wd (kAl c.wd ds):=by
   unfold pH;rw[show zMH (zMh c.wd.Ea (aM c.wd.Ea))=pI c.wd from rfl];rw[rU _ _ (fun a ds r=>kET c.wd c.facts c.reads (c.facts.bU c.reads c.wd) ds a r) r];constructor
   ·rintro (f | ⟨ds,g,f,x,l,d,j⟩)
    ·exact xR f
    ·rw[EU c.facts c.reads c.wd x] at l;obtain⟨fs,b,n,e⟩:=l;rw[e] at d;exact xW ⟨ds,g,fs,b,tgtMay.mk n f d,j⟩
   ·rintro (f | ⟨ds,g,fs,b,d,j⟩)
    ·exact xR f
    ·exact xW ⟨ds,g,d.stand,c.facts.causeAt c.reads c.wd fs,(EU c.facts c.reads c.wd (c.facts.causeAt c.reads c.wd fs)).2 ⟨fs,b,d.cause,rfl⟩,d.agree,j⟩
  unfold iQ
  split
  ·rename_i h;rw[List.isEmpty_iff] at h;refine⟨xR,fun f=>f.elim id (fun ⟨ds,_,fs,b,d,_⟩=>?_)⟩;have:=(EU c.facts c.reads c.wd (c.facts.causeAt c.reads c.wd fs)).2 ⟨fs,b,d.cause,rfl⟩;rw[h] at this;cases this
  ·exact k
theorem kFS (b:List Thr):zPb (kAp b).rows:=by
 refine xU _ (fun a c h=>?_) _ _ List.Pairwise.nil;unfold iQ
 split
 ·exact h
 refine xU _ (fun a ds h=>?_) _ _ h;unfold iV
 split
 ·refine xU _ (fun a x h=>?_) _ _ h;unfold jL
  split
  ·exact zZ h
  ·exact h
 ·exact h
def cB (m:Nat) (p:Nat->Bool):Nat:=((xF m).filter p).length
theorem oJ (m:Nat) (p:Nat->Bool):cB (m+1) p=cB m p+if p m=true then 1 else 0:=by
 unfold cB;rw[List.range_succ,xj,x7]
 cases h:p m<;>simp[h]
theorem rP {p q:Nat->Bool}:∀ m,(∀ k,k<m->p k=true->q k=true)->cB m p<=cB m q
 | 0,_=>xb _
 | m+1,h=>by
  rw[oJ,oJ];have ih:=rP m (fun k b=>h k (by omega));have a:=h m (by omega)
  cases hp:p m
  ·simp;omega
  ·rw[a hp];simp;omega
theorem zA {p q:Nat->Bool}:∀ m,(∀ k,k<m->p k=true->q k=true)->(∃ k,k<m/\q k=true/\p k=false)->cB m p<cB m q
 | 0,_,⟨k,hk,_⟩=>absurd hk (by omega)
 | m+1,h,⟨k,hk,h1,h2⟩=>by
  rw[oJ,oJ];by_cases e:k=m
  ·subst e;have ih:=rP k (fun j b=>h j (by omega));rw[h1,h2];simp;omega
  ·have ih:=zA m (fun j b=>h j (by omega)) ⟨k,by omega,h1,h2⟩;have a:=h m (by omega)
   cases hp:p m
   ·simp;omega
   ·rw[a hp];simp;omega
theorem kHY {s p q:Nat->Bool}:∀ m,(∀ k,k<m->((s k=true ↔ p k=true\/q k=true)/\¬ (p k=true/\q k=true)))->cB m s=cB m p+cB m q
 | 0,_=>rfl
 | m+1,h=>by
  rw[oJ,oJ,oJ,kHY m (fun k c=>h k (by omega))];obtain⟨a,b⟩:=h m (by omega)
  cases hp:p m<;>cases hq:q m<;>cases hs:s m<;>simp[hp,hq,hs] at a b ⊢<;>omega
theorem kLp (m:Nat) (h:∀ k,k<m->p k=false):cB m p=0:=by
 have:=rP (p:=p) (q:=fun _=>false) m (fun k a e=>by rw[h k a] at e;cases e);have b:cB m (fun _=>false)=0:=by unfold cB;simp
 omega
theorem xD (l:List Int) (i j:Nat) (x:Int) (h:i<l.length):(l.set i x).getD j 0=if j=i then x else l.getD j 0:=by
 by_cases e:j=i
 ·subst e;rw[if_pos rfl,x1,List.getElem?_set_self h];rfl
 ·rw[if_neg e,x1,List.getElem?_set_ne (Ne.symm e),x1]
theorem kEA (rs p:List Int) (i:Nat) (k:i<p.length):∀ m,m<=i->((xF m).foldl (jJ rs i) p).length=p.length/\∀ j,((xF m).foldl (jJ rs i) p).getD j 0=if j<m/\rs.getD j (-1)=rs.getD i (-1)/\p.getD i 0<=p.getD j 0 then p.getD j 0+1 else p.getD j 0
 | 0,_=>⟨rfl,fun j=>by simp⟩
 | m+1,hm=>by
  rw[fI];obtain⟨d,b⟩:=kEA rs p i k m (by omega);generalize (xF m).foldl (jJ rs i) p=q at d b;have f:q.getD i 0=p.getD i 0:=by rw[b,if_neg (by omega)]
  have g:q.getD m 0=p.getD m 0:=by rw[b,if_neg (by omega)]
  unfold jJ;rw[f,g];by_cases c:rs.getD m (-1)=rs.getD i (-1)/\p.getD i 0<=p.getD m 0
  ·rw[if_pos (by simp only[x2,beq_iff_eq,decide_eq_true_eq];exact c)];refine⟨by simp[d],fun j=>?_⟩;rw[xD _ _ _ _ (by omega)];by_cases e:j=m
   ·subst e;rw[if_pos rfl,if_pos ⟨by omega,c⟩]
   ·rw[if_neg e,b];by_cases c2:j<m/\rs.getD j (-1)=rs.getD i (-1)/\p.getD i 0<=p.getD j 0
    ·rw[if_pos c2,if_pos ⟨by omega,c2.2⟩]
    ·rw[if_neg c2,if_neg (fun a=>c2 ⟨by omega,a.2⟩)]
  ·rw[if_neg (by simp only[x2,beq_iff_eq,decide_eq_true_eq];exact c)];refine⟨d,fun j=>?_⟩;rw[b];by_cases e:j=m
   ·subst e;rw[if_neg (by omega),if_neg (fun a=>c a.2)]
   ·by_cases c2:j<m/\rs.getD j (-1)=rs.getD i (-1)/\p.getD i 0<=p.getD j 0
    ·rw[if_pos c2,if_pos ⟨by omega,c2.2⟩]
    ·rw[if_neg c2,if_neg (fun a=>c2 ⟨by omega,a.2⟩)]
theorem kEW (rs ds p:List Int) (i:Nat) (a:i<p.length):(fN rs ds p i).length=p.length/\(rs.getD i (-1)=-1->∀ j,(fN rs ds p i).getD j 0=if j=i then -1 else p.getD j 0)/\(rs.getD i (-1)≠-1->∀ j,(fN rs ds p i).getD j 0=if j=i then iL rs i-ds.getD i 0 else if j<i/\rs.getD j (-1)=rs.getD i (-1)/\iL rs i-ds.getD i 0<=p.getD j 0 then p.getD j 0+1 else p.getD j 0):=by
 unfold fN;by_cases c:rs.getD i (-1)=-1
 ·rw[if_pos (by simpa using c)];exact⟨by simp,fun _ j=>xD _ _ _ _ a,fun h=>absurd c h⟩
 ·rw[if_neg (by simpa using c)];obtain⟨b,d⟩:=kEA rs (p.set i (iL rs i-ds.getD i 0)) i (by simpa using a) i (xb _);refine⟨by rw[b];simp,fun h=>absurd h c,fun _ j=>?_⟩;rw[d,xD _ _ _ _ a,xD _ _ _ _ a,if_pos rfl];by_cases e:j=i
  ·rw[if_pos e,if_pos e,if_neg (by omega)]
  ·rw[if_neg e,if_neg e]
structure Ord (es:List Ev) (rs:List Int) (B:Nat->Nat->Bool):Prop where
 same:∀ i k,B i k=true->i<es.length/\k<es.length/\rs.getD i (-1)=rs.getD k (-1)/\rs.getD i (-1)≠-1
 irr:∀ i,B i i=false
 trans:∀ i j k,B i j=true->B j k=true->B i k=true
 total:∀ i k,i<es.length->k<es.length->i≠k->rs.getD i (-1)=rs.getD k (-1)->rs.getD i (-1)≠-1->B i k=true\/B k i=true
 first:∀ i k,B i k=true->(ev es k).thread≠-1
theorem Ord.not {es:List Ev} (h:Ord es rs B) {k:Nat} (e:B i k=true):B k i=false:=by
 cases c:B k i
 ·rfl
 ·have:=h.trans i k i e c;rw[h.irr] at this;cases this
theorem kGj (f g:Nat->Int):∀ (L:List Nat),(∀ i∈L,0<=g i/\g i<f i)->kAy (L.map f) (L.map g)
 | [],_=>trivial
 | a::L,h=>⟨(h a (by simp)).1,(h a (by simp)).2,kGj f g L fun i b=>h i (x5 _ b)⟩
theorem zH:∀ {a ds:List Int},kAy a ds->ds∈zMH a
 | [],[],_=>by simp[zMH]
 | b::a,d::ds,h=>by
  simp only[zMH,xh,xc,List.mem_range];exact⟨ds,zH h.2.2,d.toNat,by have:=h.1;have:=h.2.1;omega,by have:=h.1;rw[Int.toNat_of_nonneg this]⟩
 | [],d::ds,h=>by simp[kAy] at h
 | b::a,[],h=>by simp[kAy] at h
theorem kFt (f:Nat->Int) (n i:Nat) (h:i<n):((xF n).map f).getD i 0=f i:=by
 rw[x1];simp[h]
theorem kES {es:List Ev} {rs:List Int} {B:Nat->Nat->Bool} (t:rs.length=es.length) (h:Ord es rs B) (ds:List Int) (f:∀ i,i<es.length->ds.getD i 0=(cB i (B i):Nat)):∀ m,m<=es.length->((xF m).foldl (fN rs ds) (x6 rs.length 0)).length=es.length/\∀ i,i<m->rs.getD i (-1)≠-1->((xF m).foldl (fN rs ds) (x6 rs.length 0)).getD i 0=(cB m (fun k=>B k i):Nat)
 | 0,_=>⟨by simp[t],fun i r=>absurd r (by omega)⟩
 | m+1,hm=>by
  rw[fI];obtain⟨o,l⟩:=kES t h ds f m (by omega);generalize (xF m).foldl (fN rs ds) (x6 rs.length 0)=p at o l;obtain⟨y,z,A⟩:=kEW rs ds p m (by omega);refine⟨by rw[y];exact o,fun i r j=>?_⟩;rw[oJ];by_cases c:rs.getD m (-1)=-1
  ·rw[z c i];have n:i≠m:=fun e=>j (e ▸ c)
   rw[if_neg n,l i (by omega) j];have:B m i=false:=by
    cases e:B m i
    ·rfl
    ·exact absurd c (h.same _ _ e).2.2.2
   simp[this]
  ·rw[A c i];have d:iL rs m-ds.getD m 0=(cB m (fun k=>B k m):Nat):=by
    have x:iL rs m=(cB m (fun k=>rs.getD k (-1)==rs.getD m (-1)):Nat):=rfl;have b:=kHY (s:=fun k=>rs.getD k (-1)==rs.getD m (-1)) (p:=fun k=>B k m) (q:=fun k=>B m k) m (fun k g=>by
     refine⟨⟨fun e=>?_,fun e=>?_⟩,fun e=>?_⟩
     ·have a:rs.getD k (-1)=rs.getD m (-1):=by simpa using e
      exact h.total k m (by omega) (by omega) (by omega) a (by rw[a];exact c)
     ·rcases e with e | e
      ·simpa using (h.same _ _ e).2.2.1
      ·simpa using (h.same _ _ e).2.2.1.symm
     ·have:=h.not e.1;rw[e.2] at this;cases this)
    have a:cB m (fun k=>B m k)=cB m (B m):=rfl;rw[x,b,f m (by omega),a];omega
   rw[d];by_cases e:i=m
   ·rw[if_pos e,e,h.irr];simp
   ·rw[if_neg e,l i (by omega) j];by_cases b:rs.getD i (-1)=rs.getD m (-1)
    ·rcases h.total i m (by omega) (by omega) e b j with a | a
     ·have C:cB m (fun k=>B k i)<cB m (fun k=>B k m):=zA m (fun k _ g=>h.trans _ _ _ g a) ⟨i,by omega,a,h.irr i⟩;rw[if_neg (by omega),h.not a];simp
     ·have C:cB m (fun k=>B k m)<=cB m (fun k=>B k i):=rP m (fun k _ g=>h.trans _ _ _ g a);rw[if_pos ⟨by omega,b,by omega⟩,a];simp
    ·have:B m i=false:=by
      cases a:B m i
      ·rfl
      ·exact absurd (h.same _ _ a).2.2.1.symm b
     rw[if_neg (fun u=>b u.2.1),this];simp
theorem kDv (es:List Ev) (i:Nat) (h:i<es.length):(aM es).getD i (-1)=if (ev es i).kind=1 then (ev es i).var else -1:=by
 unfold aM;rw[x1,List.getElem?_map,x9 h,kED es i h];simp
theorem tP (es:List Ev):(aM es).length=es.length:=by simp[aM]
def kLO (es:List Ev):Prop:=∀ i,i<es.length->(ev es i).kind=1->(ev es i).var≠-1
def zQ (es:List Ev):Prop:=∀ i k,i<es.length->k<es.length->i≠k->(ev es i).kind=1->(ev es k).kind=1->(ev es i).var=(ev es k).var->(ev es k).thread=-1->k<i/\(ev es i).thread≠-1
structure PlOk (es:List Ev) (rs p:List Int) (m:Nat):Prop where
 pos:∀ i,i<m->rs.getD i (-1)≠-1->0<=p.getD i 0
 inj:∀ i k,i<m->k<m->i≠k->rs.getD i (-1)≠-1->rs.getD i (-1)=rs.getD k (-1)->p.getD i 0≠p.getD k 0
 first:∀ i,i<m->rs.getD i (-1)≠-1->(ev es i).thread=-1->p.getD i 0=0
theorem kJc:∀ {a ds:List Int},kAy a ds->∀ i,i<a.length->0<=ds.getD i 0/\ds.getD i 0<a.getD i 0
 | [],[],_,i,h=>by simp at h
 | b::a,d::ds,h,0,_=>⟨h.1,h.2.1⟩
 | b::a,d::ds,h,i+1,hi=>by
  have:=kJc h.2.2 i (by simpa using hi);simpa using this
 | [],d::ds,h,_,_=>by simp[kAy] at h
 | b::a,[],h,_,_=>by simp[kAy] at h
theorem rL {es:List Ev} (h:i<es.length) (e:(aM es).getD i (-1)≠-1):(ev es i).kind=1/\(aM es).getD i (-1)=(ev es i).var:=by
 have r:=kDv es i h;by_cases c:(ev es i).kind=1
 ·rw[if_pos c] at r;exact⟨c,r⟩
 ·rw[if_neg c] at r;exact absurd r e
theorem kGy {es:List Ev} (E:zQ es) {ds:List Int} (D:kAy (zMh es (aM es)) ds):∀ m,m<=es.length->((xF m).foldl (fN (aM es) ds) (x6 (aM es).length 0)).length=es.length/\PlOk es (aM es) ((xF m).foldl (fN (aM es) ds) (x6 (aM es).length 0)) m
 | 0,_=>⟨by simp[tP],fun i h=>absurd h (by omega),fun i k h=>absurd h (by omega),fun i h=>absurd h (by omega)⟩
 | m+1,hm=>by
  rw[fI];obtain⟨C,r⟩:=kGy E D m (by omega);generalize (xF m).foldl (fN (aM es) ds) (x6 (aM es).length 0)=p at C r;obtain⟨H,I,J⟩:=kEW (aM es) ds p m (by omega);refine⟨by rw[H];exact C,?_⟩;by_cases c:(aM es).getD m (-1)=-1
  ·have g:=I c;refine⟨fun i t a=>?_,fun i k t F f a d=>?_,fun i t a j=>?_⟩
   ·have:i≠m:=fun e=>a (e ▸ c)
    rw[g,if_neg this];exact r.pos i (by omega) a
   ·have u:i≠m:=fun e=>a (e ▸ c)
    have A:k≠m:=fun e=>a (by rw[d];exact e ▸ c)
    rw[g,g,if_neg u,if_neg A];exact r.inj i k (by omega) (by omega) f a d
   ·have:i≠m:=fun e=>a (e ▸ c)
    rw[g,if_neg this];exact r.first i (by omega) a j
  ·have g:=J c;have U:(zMh es (aM es)).length=es.length:=by simp[zMh,tP]
   obtain⟨T,G⟩:=kJc D m (by omega);have s:(zMh es (aM es)).getD m 0=iP es (aM es) m:=by
    unfold zMh;exact kFt _ _ _ (by rw[tP];omega)
   have u:iL (aM es) m=(cB m (fun k=>(aM es).getD k (-1)==(aM es).getD m (-1)):Nat):=rfl;have A:iP es (aM es) m=1+(cB m (iC es (aM es) m):Nat):=rfl;have K:cB m (iC es (aM es) m)<=cB m (fun k=>(aM es).getD k (-1)==(aM es).getD m (-1)):=rP m (fun k _ e=>by
    unfold iC at e;simp only[x2] at e;exact e.1.2)
   rw[s,A] at G;have n:0<=iL (aM es) m-ds.getD m 0:=by rw[u];omega
   have q:(ev es m).thread=-1->iL (aM es) m-ds.getD m 0=0:=fun j=>by
    have z:cB m (fun k=>(aM es).getD k (-1)==(aM es).getD m (-1))=0:=kLp m (fun k F=>by
     rw[beq_eq_false_iff_ne];intro e;obtain⟨M,O⟩:=rL (es:=es) (i:=m) (by omega) c;obtain⟨N,S⟩:=rL (es:=es) (i:=k) (by omega) (by rw[e];exact c);have:=(E k m (by omega) (by omega) (by omega) N M (by rw[<- O,<- S,e]) j).1;omega)
    rw[u];omega
   have o:∀ i,i<m->(aM es).getD i (-1)=(aM es).getD m (-1)->(ev es i).thread=-1->1<=iL (aM es) m-ds.getD m 0:=fun i t d j=>by
    have L:cB m (iC es (aM es) m)<cB m (fun k=>(aM es).getD k (-1)==(aM es).getD m (-1)):=zA m (fun k _ e=>by
     unfold iC at e;simp only[x2] at e;exact e.1.2) ⟨i,t,by simpa using d,by unfold iC;simp[j]⟩
    rw[u];omega
   generalize iL (aM es) m-ds.getD m 0=y at g n q o;refine⟨fun i t a=>?_,fun i k t F f a d=>?_,fun i t a j=>?_⟩
   ·rw[g];by_cases e:i=m
    ·rw[if_pos e];exact n
    ·rw[if_neg e];have:=r.pos i (by omega) a
     split<;>omega
   ·rw[g,g];by_cases e:i=m
    ·subst e;rw[if_pos rfl,if_neg (Ne.symm f)];by_cases c2:y<=p.getD k 0
     ·rw[if_pos ⟨by omega,d.symm,c2⟩];omega
     ·rw[if_neg (fun l=>c2 l.2.2)];omega
    ·rw[if_neg e];by_cases e':k=m
     ·subst e';rw[if_pos rfl];by_cases c2:y<=p.getD i 0
      ·rw[if_pos ⟨by omega,d,c2⟩];omega
      ·rw[if_neg (fun l=>c2 l.2.2)];omega
     ·rw[if_neg e'];have x:=r.inj i k (by omega) (by omega) f a d;rw[<- d];by_cases c0:(aM es).getD i (-1)=(aM es).getD m (-1)
      ·by_cases c2:y<=p.getD i 0<;>by_cases l:y<=p.getD k 0
       ·rw[if_pos ⟨by omega,c0,c2⟩,if_pos ⟨by omega,c0,l⟩];omega
       ·rw[if_pos ⟨by omega,c0,c2⟩,if_neg (fun b=>l b.2.2)];omega
       ·rw[if_neg (fun b=>c2 b.2.2),if_pos ⟨by omega,c0,l⟩];omega
       ·rw[if_neg (fun b=>c2 b.2.2),if_neg (fun b=>l b.2.2)];exact x
      ·rw[if_neg (fun b=>c0 b.2.1),if_neg (fun b=>c0 b.2.1)];exact x
   ·rw[g];by_cases e:i=m
    ·rw[if_pos e];exact q (e ▸ j)
    ·rw[if_neg e];have x:=r.first i (by omega) a j
     by_cases c0:(aM es).getD i (-1)=(aM es).getD m (-1)
     ·have:=o i (by omega) c0 j;rw[if_neg (fun b=>by omega)];exact x
     ·rw[if_neg (fun b=>c0 b.2.1)];exact x
theorem kIm {es:List Ev} (b:zQ es) (a:ds∈zMH (zMh es (aM es))):PlOk es (aM es) (zMm (aM es) ds) es.length:=by
 have:=(kGy b (kBj a) es.length (xb _)).2;unfold zMm;rw[tP] at this ⊢;exact this
theorem kEp {es:List Ev} (ps:List Int) (i k:Nat):zPE es ps i k=true ↔ (ev es i).kind=1/\(ev es k).kind=1/\(ev es i).var=(ev es k).var/\ps.getD i 0<ps.getD k 0:=by
 unfold zPE;simp only[x2,beq_iff_eq,decide_eq_true_eq];exact⟨fun h=>⟨h.1.1.1,h.1.1.2,h.1.2,h.2⟩,fun h=>⟨⟨⟨h.1,h.2.1⟩,h.2.2.1⟩,h.2.2.2⟩⟩
theorem tS {es:List Ev} (a:kLO es) (h:i<es.length) (k:(ev es i).kind=1):(aM es).getD i (-1)=(ev es i).var/\(aM es).getD i (-1)≠-1:=by
 have r:=kDv es i h;rw[if_pos k] at r;exact⟨r,by rw[r];exact a i h k⟩
theorem kFp {es:List Ev} {v:Int} {ps:List Int} {w:Nat} (l:(ev es w).kind=1) (n:(ev es w).var=v) (o:0<=ps.getD w 0) (g:∀ k,k<es.length->(ev es k).kind=1->(ev es k).var=v->k≠w->ps.getD k 0<ps.getD w 0):∀ m,m<=es.length->(w<m->(xF m).foldl (kR v ps es) (0, -1)=((ev es w).value,ps.getD w 0))/\(m<=w->((xF m).foldl (kR v ps es) (0, -1)).2<ps.getD w 0)
 | 0,_=>⟨fun h=>absurd h (by omega),fun _=>by show (-1:Int)<ps.getD w 0;omega⟩
 | m+1,hm=>by
  rw[fI];obtain⟨j,d⟩:=kFp l n o g m (by omega);generalize (xF m).foldl (kR v ps es) (0, -1)=q at j d ⊢;refine⟨fun h=>?_,fun h=>?_⟩
  ·by_cases e:m=w
   ·subst e;have f:=d (xb _);unfold kR;rw[if_pos (by simp only[x2,beq_iff_eq,decide_eq_true_eq];exact⟨⟨l,n⟩,f⟩)]
   ·rw[j (by omega)];unfold kR;rw[if_neg];simp only[x2,beq_iff_eq,decide_eq_true_eq];rintro ⟨⟨a,b⟩,c⟩;have:=g m (by omega) a b e;omega
  ·have f:=d (by omega);unfold kR
   split
   ·rename_i c;simp only[x2,beq_iff_eq,decide_eq_true_eq] at c;exact g m (by omega) c.1.1 c.1.2 (by omega)
   ·exact f
theorem kKy {es:List Ev} (b:w<es.length) (c:(ev es w).kind=1) (e:(ev es w).var=v) (d:0<=ps.getD w 0) (a:∀ k,k<es.length->(ev es k).kind=1->(ev es k).var=v->k≠w->ps.getD k 0<ps.getD w 0):jA es v ps=(ev es w).value:=by
 unfold jA;rw[(kFp c e d a es.length (xb _)).1 b]
theorem kHQ (n:Nat) (P:Nat->Int->Prop) (h:∀ i,i<n->∃ x,P i x):∃ l:List Int,l.length=n/\∀ i,i<n->P i (l.getD i (-1)):=by
 induction n with
 | zero=>exact⟨[],rfl,fun i a=>absurd a (by omega)⟩
 | succ n ih =>
  obtain⟨l,b,c⟩:=ih (fun i a=>h i (by omega));obtain⟨x,d⟩:=h n (by omega);refine⟨l++[x],by simp[b],fun i a=>?_⟩;by_cases e:i=n
  ·subst e;have:(l++[x]).getD i (-1)=x:=by rw[x1,List.getElem?_append_right (by omega),b];simp
   rw[this];exact d
  ·have:(l++[x]).getD i (-1)=l.getD i (-1):=by rw[x1,List.getElem?_append_left (by omega),x1]
   rw[this];exact c i (by omega)
theorem kHg (c:List Int) (cs:List (List Int)) (d:Int) (ds:List Int):gB (c::cs) (d::ds)=c.getD d.toNat (-1)::gB cs ds:=by
 unfold gB;rw[x4,List.range_succ_eq_map,xg,List.map_map];rfl
theorem kJE (l:List Int) (x:Int) (h:x∈l):∃ k,k<l.length/\l.getD k (-1)=x:=by
 obtain⟨k,a,e⟩:=xq h;exact⟨k,a,by rw[x1,x9 a];exact e⟩
theorem kEv:∀ (cs:List (List Int)) (l:List Int),l.length=cs.length->(∀ i,i<cs.length->l.getD i (-1)∈cs.getD i [])->∃ ds∈zMH (kBl cs),gB cs ds=l
 | [],[],_,_=>⟨[],by simp[kBl,zMH],rfl⟩
 | c::cs,x::l,h,hm=>by
  obtain⟨ds,a,e⟩:=kEv cs l (by simpa using h) (fun i d=>by simpa using hm (i+1) (by simpa using d));obtain⟨k,f,b⟩:=kJE c x (by simpa using hm 0 (by simp));refine⟨(k:Int)::ds,zH ⟨by omega,by show (k:Int)<(c.length:Int);omega,kBj a⟩,?_⟩;rw[kHg,e,Int.toNat_natCast,b]
 | [],x::l,h,_=>by simp at h
 | c::cs,[],h,_=>by simp at h
theorem kMo {e:Ev} (h:e.kind=1):zNz e=true:=by unfold zNz;rw[h];rfl
section
variable {pi:Int->Int} {f:Nat->Nat} {es es':List Ev}
end
end Q
end Go.Proofs.YtonodfjdiepglaaGreatDoor
